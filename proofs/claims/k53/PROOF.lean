import PyProof.Rows.All
import Wide.All
import OpenK.AllK
import Wide.FinOn
import Lean
import PyProof.EqAt
import PyProof.EqKinds
import PyProof.TupleCall
import PySem.Challenge.RW_trussel_k53_twins_of_ledgers
set_option Elab.async false
set_option linter.all false
set_option maxRecDepth 100000
set_option maxHeartbeats 4000000
set_option genInjectivity false
set_option bootstrap.genMatcherCode false
set_option genSizeOf false
local macro_rules|`(def $i:declId $s:optDeclSig $v:declVal)=>`(noncomputable def $i:declId $s:optDeclSig $v:declVal)
structure PySem.W.Fast:Prop where(tw7709486022912217374 tw8373330501623803141 tw18173314289694199397 tw10141880129391400074 tw240811170484554495 tw15025094166522196851 tw8534767136159835848 tw3267713665033347674 tw3147133168616783268 tw12869691007574429476 tw5911622247179520921 tw17068595956128175045 tw18318431497391980935 tw4847594894142590127 tw17445272895781056286 tw3988006755097179378 tw3920296834191038898 tw9693045424749499213 tw7427579693989750826 tw16953819842263772002 tw13068829084525122755 tw6343952232557442904 tw13498517508058757510 tw4217402511368737967 tw5551166196290180444 tw7036010705218165032 tw2575111918277458904 tw6233567387526332896 tw14846661088706142184 tw7643153606153171288 tw14654107772098199648 tw14688292350889877162 tw6603389630873083636 tw8959678453657019139 tw15340957055129711845 tw15206982459754097895 tw14787224343125898696 tw4794128001782841947 tw16204892334335956496 tw17908711454787602570 tw14904991385996136151 tw1094739597503925010 tw2789865481527850410 tw18319500687622648396 tw16145428146527913181 tw14765928443616863691 tw10781648130016024160 tw14935140364984916291 tw2700760131650622023 tw5684106769871980699 tw13795202028685032865 tw6345548521050684321 tw913503597164970326 tw12195732644190259081 tw6886503647760491975 tw1823755340099139461 tw9072551996095110560 tw17382262982600759657 tw351363362168773401 tw2661782166024772845 tw5874754317669858568 tw1336042404711837710 tw96163527786568026 tw1703307221356927600 tw756764969113875091 tw3027437176463355445 tw1375496346788438320 tw9428767962443322122 tw4893573018243045695 tw100110177220269915 tw4984278658388310761 tw6673103701711611441 tw4228543676630909722 tw5818919295279641692 tw419085711001963883 tw17662992399679551082 tw16658257882722109881 tw14397887502331851955 tw9153656816964917336 tw7158632682694776562 tw1307461203944724853 tw5229159665206643957 tw18145207605614624189 tw17918421796579341243 tw7129415060740952834 tw6291171865458712162 tw10386244641934990169 tw7659636389990353880 tw14528236297406652266 tw4499128763843539157 tw5584525314486467007 tw13926761652550922121 tw4370842940355995901 tw1520855188613487258 tw8552988107016847388 tw7605421581213174897 tw2105518879956929305 tw10884354901010503164 tw14454777048667448501 tw4225068114737170062 tw422489863598937289 tw8127998387796806068 tw14318793066966609830 tw9748589140671737306 tw8116134003688531626 tw14802684406340779659 tw2116751603291099586 tw14911447845284287247 tw14703719900832267458 tw6372406520642405961 tw424031615160828420 tw3452422559206686678 tw294681235736779425 tw14651911307501238420 tw14312533312745119815 tw11465383735235416898 tw10268938027713538276 tw8781834899052648637 tw8507903143336743947 tw1749684103917888118 tw4370013406798463371 tw13027202261134210235 tw8735656822645017895 tw6623928803609626285 tw10970352020202341764 tw15478952954617589672 tw2837015675086969081 tw8563567800971738586 tw16202661432605388347 tw10163334839850700476 tw14129481171708584690 tw10772181353202369350 tw5029956345530304859 tw9072569888511844880 tw6820164757952462973 tw2128135104233954826 tw16666823844018582082 tw7284452349205838247 tw12245011502935887036 tw7116921781765531769 tw2030427652040051173 tw7573807432959688867 tw17725363338366228004 tw3045498907710070795 tw16209869573614469980 tw6193293676995816703 tw11104197808743578948 tw13052945887690558829 tw7987440565812996455 tw17075885781059323243 tw15031892111897456681 tw13525873012637694413 tw10087681199551398479 tw2730219936842337713 tw146934316960783145 tw5103777849209294900 tw15080955276104644462 tw4283124792751328793 tw57409103832662065 tw14512404919501366165 tw4709561926212959578 tw5982576491394312432 tw2109593743753246017 tw15152827844201977644 tw16116835185236514450 tw8614293722742139233 tw13608078981580937078 tw15440536363282126692 tw6701741456068400332 tw2393387898791923233 tw1026054220313923506 tw13627421799892325567 tw820332151472598236 tw4318255104009993096 tw6584551611964442884 tw7316868757591226898 tw10955120316559840053 tw351067742966216324 tw550573834959306478 tw1178715484802912300 tw12952861660444826982 tw14786930723904340136 tw15088938567087625764 tw4827645201704365870 tw6122741725118602921 tw3799474400308242544 tw17972424405319193829 tw5913683329451481197 tw4432558455909856378 tw1795535447041109525 tw14239857991761795353 tw2708554597811118130 tw4766813661916988235 tw479106522219527292 tw6386763900806671349 tw3810753551662513252 tw1412412250156429118 tw6173286783436399043 tw7759659702243920755 tw5846804091206291083 tw18062139489545118331 tw7496301347045509812 tw10054914357117002816 tw14026092731708558564 tw7824944602612115955 tw8170784485021210229 tw10520277023832502103 tw72469579499433276 tw2380362192445851867 tw4909974854189924252 tw6132423113878978618 tw8487724596889617707 tw17342998635677244095 tw13621645072898765215 tw4986675708565955920 tw11515293928048840633 tw14136084365334980372 tw4157322286284096180 tw17266729032539990044 tw10389219609056416492 tw8735027828975758680 tw13380804111616702067 tw7302571000437234215 tw4912082890000691913 tw10923195891114518582 tw13232617926567498715 tw10304839290533733621 tw11424475688269558067 tw16185194965454752511 tw3192490932284382743 tw10977341588529718139 tw18026221783651962361 tw3255926759767096119 tw8571723678713568597 tw6757429930896692732 tw14345790876894877936 tw3546041845247566721 tw12129017492739083871 tw1205997918632416396 tw5904369787488573420 tw4645324058569081934 tw15630868874794280997 tw2256869078803339553 tw4308908268410483398 tw8429048623870281151 tw15058483915766461669 tw18246454955588324812 tw17032073267829538830 tw7229734020255003517 tw6799416148194266947 tw12510446157944869363 tw4773707524588888958 tw3027488000315671812 tw5969174958820935143 tw4148902839308926395 tw11984412082954780829 tw8574897608272253554 tw3340385890378968775 tw15785578985265546273 tw13141750812381055419 tw2268296663504628999 tw8661445615302200037 tw2109002504222491023 tw13967777683392891070 tw14024426999497382406 tw5773061087244020521 tw7412455220401997529 tw7641975083418479029 tw12850710182540572252 tw14187881953017175427 tw17848238013120841319 tw12131862158335885960 tw2066354354955413498 tw12860727818097229348 tw12586412689154291556 tw15005402626362772953 tw5136831777225745195 tw3466768941872908820 tw6731154453981729800 tw13617322583758267716 tw3754394487437971450 tw4907434182066440516 tw9880272351877377898 tw9550404819954673996 tw14723471410304337915 tw13361679305238064991 tw2214679196240987531 tw3299860942921490234 tw10894933269546239689 tw9371914487157901199 tw1507693308303447922 tw16679047215157064989 tw13993499007227542073 tw12627467533215554782 tw15246142292515227482 tw16405069286042726125 tw4460794554562086681 tw3790671336155019304 tw7510941499214875960 tw12151444518859970495 tw11543708027949968978 tw6642291529591434392 tw16114922574953644078 tw74972630206076232 tw13048447201284383801 tw6527601793920437925 tw3952057905167698940 tw12328060311401193737 tw9058446174955088318 tw17394276013138892317 tw12456644240784461257 tw8430300672057795874 tw450879348118468453 tw8929144164137037362 tw13840981529681203397 tw10312741109319356102 tw4995753212196485183 tw16767417755421169938 tw78680757084260855 tw9796655646126274250 tw6013625265558030559 tw16800359511686337191 tw14405239810670589653 tw707699427357688799 tw8872775870040567880 tw11943921930406944736 tw9809532306580315326 tw9857410992642864330 tw13922955931699163590 tw13758823850360351762 tw17866142475462521076 tw5782548954214021159 tw3352977377046450993 tw3972656637827953543 tw1817170201094735910 tw4327309502106422128 tw13402786930151813726 tw18123032974000516482 tw14945569212636285264 tw3609050195072531972 tw10832086713104209250 tw2639198890826566983 tw8033009557481280679 tw10080438453798861612 tw8172004648945323934 tw7010432464208831836 tw11875938561661661639 tw11661827306881046027 tw12354419453532871830 tw7362711966816888093 tw12279331335340862333 tw11659963824717536767 tw2231440240202351590 tw2743998994827550379 tw1840275108296736479 tw10968777208826028524 tw12727089261685820274 tw3528251056410345379 tw640778363361007977 tw16175061643147175007 tw4814056559509086856 tw15985215593866757930 tw13673984972573522162 tw1793339063009272486 tw6320330874698781910 tw10727833762347256337 tw9345250132194212325 tw2682102212369693864 tw6378700141841216004 tw13959984584011998308 tw12724167031897869947 tw10031010508145322135 tw14845299362989966103 tw17031891055785672817 tw13577764842221411667 tw11470973098072407576 tw2369817213891689430 tw4379091411724930804 tw4625782367861907890 tw8838627404670794544 tw14935662631556569364 tw17738709180304762490 tw6334612075514748403 tw12263698484493091693 tw1362562027748565262 tw17605141258566192496 tw4576324033132752240 tw8369906692796932858 tw18310201044714456310 tw13392916622042066170 tw18388581690390163120 tw16487976023458570217 tw15929785748178437936 tw10371177901377908473 tw5930871397116202657 tw4996243488258686483 tw12757126537656845315 tw5178072373011184905 tw8932415614801285491 tw7990877156275802032 tw12988156548921044297 tw5004863686476671874 tw8350557972093776803 tw9046037166933310585 tw13469702383154795845 tw4784047661033428629 tw850257911064057555 tw13085482372634720763 tw14406570525917857803 tw4204537600329810159 tw2225665240626539503 tw8383656964598262207 tw4579024250408052629 tw17278684512272780051 tw9071735187711656588 tw8596790567443338783 tw13268803571130713851 tw10634148522364772403 tw12485961254443884673 tw7332055726813966410 tw13487028966096995100 tw11672192784740159244 tw891536287836835963 tw16422247037100973755 tw14278501996837864720 tw7347443507906566226 tw11395740935706354702 tw11246483140529865354 tw161507100390405317 tw18390140809500749420 tw2289112468198737092 tw18390829140810083460 tw4681735819870552273 tw8581327658048267482 tw14321886680988357796 tw2849891985929609613 tw14374771735316251335 tw6161817649737656868 tw15640298912907323469 tw6585497769982492696 tw1087154336195654929 tw3666250285858518500 tw11739168690569084064 tw15532565363942442164 tw2478287291210212011 tw17059276977765171979 tw17934100683333016168 tw11964307439981767626 tw5551276940514720581 tw12070224761647552389 tw3508725881389657352 tw306285868083998146 tw7198031219960897614 tw11012640858246756009 tw15754473065076380036 tw17178592650222076218 tw6510577726985741528 tw11562747460114043271 tw2227248443842341317 tw10653076082355857860 tw9544084927360247059 tw2451385724422484333 tw1334161112274845862 tw3099442563520732577 tw10242245961026570960 tw13676951430312519044 tw5174994134734417013 tw9052067518063475907 tw11955379796651776562 tw12026542724056267217 tw8291881022166423408 tw10469407529844808719 tw17541666298496832202 tw16969937710033453057 tw1668413784806781961 tw13069633458579907247 tw10896980449940248085 tw16602078240785552283 tw6987391855779225262 tw17694346686888721975 tw15531805395680900734 tw10135666701968024565 tw17244633124646777115 tw11783951698075643484 tw8952965917380643359 tw11463816706440796957 tw1023716523753038569 tw3667529695058644956 tw12400349672516354803 tw13013116186306900792 tw5260419227983661438 tw5377766936862564126 tw16530868421692475523 tw1117434224702546360 tw15038057758282047040 tw815283772333116570 tw11082693991333905222 tw8437809618302784660 tw7695402157980475879 tw2490764886586562520 tw990569642167536682 tw14698113299435448300 tw10189884299442138499 tw15248363411991190140 tw14141288643673030697 tw2274972715143645644 tw4422461034104861474 tw15819096423935306609 tw14188803919401434591 tw3928568936887281287 tw8262566875120615934 tw9261602905106665860 tw5492447911186257396 tw17597370590818852109 tw7824280889839453120 tw5017362110835653907 tw175079298616310190 tw3055693042446067002 tw17426391319582053942 tw7283219666566364941 tw9575485099052611076 tw5832221598045357549 tw11858931817295247348 tw13032402480381148566 tw18243551518346407215 tw2937840877284976685 tw6025595432594839694 tw2549010188460222942 tw52681043458497322 tw9547376761732087497 tw11139676340397004073 tw13251543042455536480 tw1048953368335024586 tw942049688841547109 tw13931462505346056048 tw9927446736620610093 tw11502593905631172096 tw613564511068811057 tw4827097626290539545 tw9709270036407734648 tw15922266165949917230 tw1382528980391895917 tw12679950829006484197 tw13539040273151875295 tw7359697460800542370 tw7586430604653601412 tw1925399250095300692 tw2614610377510218252 tw4636995032118095371 tw3229758914001215418 tw986908070798279729 tw15682964856323273003 tw13820518581827041820 tw4300564149191403483 tw13624407024191832499 tw1534247803846400601 tw9859432651847714599 tw10887457250247942484 tw12735367070843868706 tw5571513789888789561 tw12171746273472931030 tw3223388064317998980 tw8024896080493587950 tw10852379560172572388 tw4744355668185282750 tw16821266488592779891 tw835157308918502766 tw5277076323581509848 tw7011970871848467819 tw5945244467705347999 tw10582467638457904860 tw15817359880715593601 tw13747148685743865038 tw13518586420052892826 tw6283896411916971808 tw6561401196502849499 tw12771403384810280290 tw3420450753375154422 tw408774398544062157 tw18013388444422585930 tw9118414819405276971 tw5585023474633696617 tw2107635142488151311 tw10320703408880301199 tw14325037926657365757 tw12391776450993445624 tw17066439166892091463 tw12084364842332147148 tw9612233957186478374 tw11187085856462311474 tw6251428477848030790 tw13546389237130419503 tw7405207212059583584 tw11424442487207493231 tw7273600140859584477 tw17808004301309066862 tw17228048890474589046 tw15844132821929805601 tw8917554873548740631 tw16305070960440408679 tw13791883516640987064 tw10347143308934579646 tw11162059430767640060 tw8039201168799413099 tw15452926937670026276 tw7725905699842727293 tw12782295860998735243 tw8024975927756732080 tw4206911472677930933 tw13806173647465345635 tw10574574567634430493 tw631630578515471609 tw16606070455573122935 tw11901230644554123031 tw5983253640058411129 tw9482366453855001651 tw4691589047309253322 tw14634944011773216125 tw15588942769320443458 tw9846870996069871529 tw2897174059530442522 tw9798249284237181122 tw4502833138035324670 tw13948334449601268559 tw6104788397302867374 tw14779616893026105377 tw3038547166653584399 tw3048723922612468554 tw15524672232341862521 tw13017067832387968717 tw11299588281453794609 tw6727149853523639737 tw5087820756576268113 tw13965929412604876454 tw5295233811861751203 tw10067629741151657725 tw13304283933582262564 tw2820842607703233869 tw11059923051575533126 tw1206391574531285780 tw8279694131336246256 tw16808608244017734345 tw14663425224311819462 tw3090543178264720678 tw8189717538578944405 tw1627412530638502120 tw1283730584276876057 tw11326677225555867791 tw1583461145732850266 tw861240523146115390 tw4192483007905653710 tw10545898187274841696 tw7996313841485329567 tw678260900267524535 tw4890121700313963402 tw10364227734135083566 tw2434008837741884940 tw7351987317753521787 tw8545085849331464398 tw11084553795206158661 tw9852044974303914403 tw2375983629776518030 tw16592631907504794581 tw17204312185200679504 tw15293186669975324148 tw5647898451745559077 tw8700945738538581736 tw6518958190778545125 tw2475739348860963953 tw10704253515925512266 tw16291047812920111411 tw2367450931169533526 tw15110801761942109678 tw9928474882898739479 tw7271341778430635464 tw6573902778516895846 tw18394437722454186882 tw2389909108629108802 tw13954757406215115405 tw15479473935002512812 tw16454605848377056834 tw6229247523971466923 tw13000875218973677550 tw17967484672674468278 tw633084479071305994 tw4739250904987204129 tw17022980711576051609 tw15753377644759067664 tw16277300829383589329 tw9391131757428361574 tw9569511985754061387 tw18303785319972839353 tw6761688094781269472 tw16320724478165663005 tw3919843743379172460 tw5671943517879894812 tw18079121938832433455 tw6812818291441484810 tw13895807117592580815 tw9576261177570457051 tw5757547917182491786 tw15645014733683461397 tw11224417685589986009 tw4862477233043498353 tw8550262053614939356 tw5510372612753314564 tw12036598809126715519 tw1806348831185673453 tw15925824808729146493 tw129257304365442714 tw7771343021913252628 tw13648749502789607228 tw16255126755366845849 tw9000119684182771660 tw17598807580508444163 tw11179692519388413529 tw8236358343405895310 tw10777018395721228906 tw7011730015942950374 tw10392784034130105192 tw12674781314169722421 tw5618632085240006996 tw16543673287891171145:True)
namespace _X
local macro_rules|`(tactic|omega)=>`(tactic|lia)
def EA:=@List.toList_toArray
def EB:=@Int.toNat_of_nonneg
def Eu:=@PySem.wpAny_binaryOp_repeat_ref
def Ew:=@PyProof.Rows.tail_any
def Ey:=@PySem.W.hideAll_get
def Ez:=@PySem.W.callWith_K0
def Ll:=@PySem.wpAny_getItem_list_slice
def Lm:=@PySem.wpAny_comprehension_free
def Ln:=@PySem.wpAny_attempt
def Lo:=@PySem.strLen_append
def Lp:=@PySem.evalPart_none
def Lq:=@PySem.W.of_hideAll
def Lr:=@PySem.W.kitx_tuple
def Ls:=@List.pairwise_cons
def Lu:=@List.map_filterMap
def Lv:=@List.filterMap_map
def Lw:=@List.Nodup.sublist
def Lx:=@Array.append_assoc
def aA:=@List.getElem?_append_left
def aB:=@PySem.Heap.lt_size
def aC:=@decide_eq_true
def aE:=@List.getElem?_map
def aF:=@PySem.Heap.get?_push_size
def aG:=@decide_eq_false
def aH:=@List.mem_of_getElem?
def aI:=@List.mem_cons
def aJ:=@PySem.mem_of_lookup
def aL:=@Ne.symm
def aM:=@Nat.le_trans
def aN:=@decide_eq_false_iff_not
def aO:=@Option.some.inj
def aP:=@List.getElem?_set_self
def aR:=@Nat.ne_of_lt
def aS:=@List.mem_map
def aU:=@List.length_append
def aV:=@PySem.wpAny_setState_of
def aW:=@PySem.Heap.get?_update_self
def aZ:=@PyProof.Rows.slot_tuple_getitem
def aa:=@PySem.wpAny_bind
def ae:=@Option.map_eq_some_iff
def ag:=@Option.bind_eq_some_iff
def ah:=@PySem.wpAny_pure
def ai:=@PySem.Heap.get?_push_of_some
def aj:=@Nat.le_refl
def ak:=@List.length_map
def ao:=@List.getElem?_eq_getElem
def aq:=@List.getElem?_eq_some_iff
def au:=@if_pos
def av:=@Nat.lt_of_lt_of_le
def aw:=@List.getElem?_set_ne
def ax:=@if_neg
def ay:=@List.size_toArray
def az:=@List.map_append
def bA:=@Array.length_toList
def bC:=@of_decide_eq_true
def bI:=@Bool.false_ne_true
def bK:=@PySem.W.kia_one
def bL:=@Nat.lt_irrefl
def bN:=@List.mem_append
def bO:=@Int.toNat_natCast
def bP:=@List.mem_append_right
def bQ:=@PySem.wpAny_mono
def bR:=@List.set_set
def bS:=@List.mem_filter
def bT:=@PySem.wpAny_newObj_type
def bU:=@List.length_cons
def bX:=@PySem.W.mg_of
def bY:=@PySem.wpAny_call_entry
def bZ:=@Classical.not_and_iff_not_or_not
def ba:=@List.map_cons
def bf:=@PySem.Heap.SameBut.update
def bg:=@Bool.and_eq_true
def bj:=@PySem.Obj.data_mapFields
def bo:=@decide_eq_true_iff
def bq:=@PySem.wpAny_holding
def br:=@List.mem_cons_of_mem
def bx:=@PySem.Heap.get?_update_other
def bz:=@List.replicate_succ
def cA:=@List.lookup_cons
def cB:=@Nat.ne_of_gt
def cC:=@PySem.Obj.isFreed_of_fields
def cE:=@beq_eq_false_iff_ne
def cF:=@List.filterMap_cons
def cG:=@PyProof.Rows.callWith_type1
def cI:=@Nat.zero_le
def cK:=@List.perm_ext_iff_of_nodup
def cL:=@List.getElem?_append_right
def cM:=@List.getElem?_eq_none
def cO:=@Array.getElem?_eq_getElem
def cS:=@List.length_set
def cT:=@Bool.or_eq_true
def cU:=@PySem.wpAny_setField
def cV:=@PySem.wpAny_Call_Name_kw
def cW:=@PySem.call_meets
def cX:=@Nat.lt_trans
def cY:=@List.nodup_append
def cZ:=@List.flatten_cons
def cq:=@Bool.eq_iff_iff
def cv:=@PySem.wpAny_truthy_bool
def cz:=@List.mem_singleton
def dC:=@List.eq_nil_of_length_eq_zero
def dF:=@PySem.W.cellsFrom_some
def dH:=@PySem.wpAny_callSpecial?_slot
def dI:=@List.any_cons
def dJ:=@Bool.and_eq_false_iff
def dM:=@Array.getElem_eq_getD
def dO:=@PySem.wpAny_field
def dP:=@PySem.wpAny_typeOf
def dS:=@List.mem_iff_getElem
def dX:=@Nat.le_of_lt
def dY:=@List.getElem_mem
def dh:=@PySem.wpAny_of_eq
def dk:=@List.take_length
def dt:=@List.length_take
def du:=@List.getElem?_replicate
def dw:=@List.all_eq_true
def eA:=@PySem.wpAny_storeSet_of
def eB:=@PySem.fits_of_scanBound
def eE:=@List.mem_or_eq_of_mem_set
def eF:=@PyProof.Rows.F.plain_set_update_loop
def eG:=@List.length_reverse
def eK:=@PySem.isSubtype_type
def eL:=@Option.isSome_iff_exists
def eM:=@PySem.Around.under_plainId
def eO:=@List.foldl_cons
def eP:=@List.append_nil
def eT:=@PySem.wpAny_isInstance
def eU:=@List.map_singleton
def eZ:=@PyProof.Rows.boot_list
def fA:=@List.mem_append_left
def fB:=@PySem.Heap.size_push
def fC:=@PySem.Calls.callWith_builtin
def fK:=@List.nodup_cons
def fL:=@PySem.builtinLookup_eq_fast
def fM:=@PyProof.Rows.Fr.set
def fN:=@PySem.wpAny_rule
def fY:=@congrArg
def fZ:=@beq_iff_eq
def fb:=@List.take_succ
def fc:=@PySem.codeAny_builtin
def fg:=@PyProof.Rows.boot_set
def fh:=@List.length_filter_le
def fj:=@List.eq_nil_or_concat
def fk:=@List.concat_eq_append
def fm:=@Array.getElem?_toList
def fq:=@Nat.lt_succ_self
def fu:=@PySem.codeAny_mono
def fz:=@List.replicate_succ'
def gA:=@PySem.wpAny_passesOwn
def gB:=@List.getElem?_eq_none_iff
def gD:=@Nat.lt_trichotomy
def gE:=@List.reverse_cons
def gH:=@PySem.F.args_tuple_add_2
def gR:=@PySem.tupleKind_room_in1
def gS:=@PySem.F.plainAttrs_list
def gT:=@PySem.F.entry_tuple_add
def gU:=@List.cons_append
def gf:=@List.mem_range
def gg:=@List.mem_filterMap
def gh:=@List.mem_cons_self
def gi:=@List.Perm.refl
def gj:=@Int.emod_lt_of_pos
def gk:=@PySem.Calls.evalArgs_plain
def iA:=@Int.emod_nonneg
def iB:=@PySem.Heap.SameBut.refl
def iE:=@PySem.wpAny_standAt
def iF:=@Nat.eq_of_beq_eq_true
def iG:=@List.length_replicate
def iO:=@Array.getElem?_setIfInBounds_self_of_lt
def iU:=@PySem.noFill_tuple_add
def iV:=@Bool.or_eq_false_iff
def ig:=@PySem.F.slot_tuple_add
def ij:=@Nat.not_lt
def ik:=@List.pairwise_lt_range
def iy:=@PySem.wpAny_pyIter_list
def iz:=@List.find?_cons
def jA:=@PySem.W.callWith_K
def jB:=@Nat.lt_of_le_of_lt
def jC:=@List.filter_append
def jD:=@Bool.not_eq_false'
def jX:=@List.findIdx?_eq_some_iff_getElem
def je:=@PySem.W.plainGet_of
def jf:=@PyProof.Rows.F.entry_set_update_loop
def jg:=@List.getElem?_range
def jh:=@List.filter_sublist
def js:=@PySem.typeLookup_type
def jt:=@List.all_cons
def ju:=@PySem.F.slot_int_rmul
def kA:=@PySem.putSet_of
def kB:=@List.eraseIdx_eq_take_drop_succ
def kC:=@Array.getElem?_setIfInBounds_ne
def kR:=@List.length_drop
def kS:=@List.filter_cons
def kT:=@List.any_eq_true
def kf:=@PySem.sizeLine_eq
def kh:=@Option.isSome_map
def ki:=@List.map_nil
def kj:=@List.length_range
def kl:=@List.getElem?_set
def km:=@List.flatten_replicate_singleton
def kn:=@List.append_assoc
def ko:=@Bool.not_eq_true'
def lH:=@PySem.seq_tuple_add
def lI:=@PySem.plainId_quiet
def lJ:=@PySem.Paired.length
def lK:=@Nat.le_succ
def lV:=@PySem.typeIs_int
def lW:=@List.of_mem_zip
def lX:=@PySem.Heap.IsSliceOf.new
def lY:=@PySem.F.args_tuple_add_2
def nG:=@PySem.wpAny_sequenceKey
def nH:=@PySem.slot_list_getitem
def nJ:=@PySem.Value.isInt_shape
def nK:=@Option.ne_none_iff_exists'
def nL:=@PySem.Obj.cls_mapFields
def nM:=@List.length_eraseIdx_of_lt
def nN:=@List.getD_eq_getElem?_getD
def nO:=@PySem.F.entry_tuple_add
def nP:=@Array.getElem?_eq_some_iff
def ng:=@Array.getD_eq_getD_getElem?
def pk:=@PyProof.Rows.slicePart_none
def pv:=@List.drop_eq_getElem_cons
def qc:=@PySem.wpAny_askSetting
def qd:=@PyProof.Rows.boot_sorted
def qe:=@List.eq_of_mem_replicate
def qf:=@PySem.F.slot_tuple_mul
def qg:=@PySem.F.slot_tuple_add
def qh:=@Bool.false_or
def sh:=@PyProof.Rows.entry_tuple_getitem
def si:=@PyProof.Rows.boot_tuple
def tY:=@PySem.wpAny_execs_nil
def tZ:=@PyProof.Rows.tupleItemsOf_
def ua:=@Nat.mul_comm
def ub:=@List.range_succ_eq_map
def uc:=@List.map_map
def ue:=@List.drop_eq_nil_of_le
def uf:=@Int.zero_add
def ug:=@Bool.not_not
def uh:=@Array.getElem?_eq_none
def xA:=@List.length_singleton
def xo:=@PyProof.Rows.size_push'
def xp:=@PyProof.Rows.assignInOrder_cons
def xq:=@PyProof.Rows.args_tuple_getitem
def xr:=@PySem.ofString_length
def xt:=@PySem.W.methodCall_KW
def xu:=@PyProof.Rows.boot_str
def xw:=@PyProof.Rows.boot_int
def xy:=@List.take_append_drop
def zA:=@PySem.intKind_is
def zB:=@PySem.entryFor_alias
def zC:=@List.getElem_toArray
def zD:=@List.getElem?_of_mem
def zE:=@PySem.Calls.Name_function_global
namespace L2
open PySem PySem.Spec PyProof.Rows
noncomputable abbrev Key:=Sum Int Str
def tS:Key->Value->Bool
 |.inl k,v=>Value.isInt k v
 |.inr x,v=>Value.isStrOf x v
def Tz(w:World):Key->Int
 |.inl k=>hashInt k
 |.inr x=>hashStr w x
theorem u7:∀{k:Key} {v:Value},tS k v=true->(∃i t,k=Sum.inl i/\v=Value.int i t)\/(∃x t,k=Sum.inr x/\v=Value.str x t)
 |.inl i,v,h=>by
  obtain⟨t,e⟩:=nJ (k:=i) (v:=v) h;exact .inl ⟨i,t,rfl,e⟩
 |.inr x,v,h=>by
  obtain⟨t,e⟩:=Value.isStrOf_shape (x:=x) (v:=v) h;exact .inr ⟨x,t,rfl,e⟩
theorem a00(i:Int)(t:Tok):tS (.inl i) (.int i t)=true:=by simp[tS,Value.isInt]
theorem Yj(x:Str)(t:Tok):tS (.inr x) (.str x t)=true:=by simp[tS,Value.isStrOf]
theorem Xq(a b:Int):decide ((Sum.inl a:Key)=Sum.inl b)=(a==b):=by
 by_cases e:a=b
 ·subst e;simp
 ·have h:¬(Sum.inl a:Key)=Sum.inl b:=λq=>e (Sum.inl.inj q);rw[aG h];exact(cE.mpr e).symm
theorem Xt(a b:Str):decide ((Sum.inr a:Key)=Sum.inr b)=decide (a=b):=by
 by_cases e:a=b
 ·subst e;simp
 ·have h:¬(Sum.inr a:Key)=Sum.inr b:=λq=>e (Sum.inr.inj q);rw[aG h,aG e]
theorem Xr(a:Int)(b:Str):decide ((Sum.inl a:Key)=Sum.inr b)=false:=aG (λq=>nomatch q)
theorem Xs(a:Str)(b:Int):decide ((Sum.inr a:Key)=Sum.inl b)=false:=aG (λq=>nomatch q)
def p9(prog:Program)(w:World):PySem.KeyKind prog w Key where
 is:=tS
 hash:=Tz w
 inj:=λv a b ha hb=>by
  rcases u7 ha with⟨i,t,rfl,rfl⟩|⟨x,t,rfl,rfl⟩
  ·rcases u7 hb with⟨j,u,rfl,e⟩|⟨y,u,rfl,e⟩
   ·injection e with e1 _;rw[e1]
   ·exact nomatch e
  ·rcases u7 hb with⟨j,u,rfl,e⟩|⟨y,u,rfl,e⟩
   ·exact nomatch e
   ·injection e with e1 _;rw[e1]
 byValue:=λk v h=>by
  rcases u7 h with⟨i,t,rfl,rfl⟩|⟨x,t,rfl,rfl⟩<;>rfl
 pyHash:=λhv h=>by
  rcases u7 hv with⟨i,t,rfl,rfl⟩|⟨x,t,rfl,rfl⟩
  ·exact wpAny_pyHash_int h
  ·exact wpAny_pyHash_str h
 eqBool:=λhu hv h=>by
  rcases u7 hu with⟨i,t,rfl,rfl⟩|⟨x,t,rfl,rfl⟩
  ·rcases u7 hv with⟨j,u,rfl,rfl⟩|⟨y,u,rfl,rfl⟩
   ·rw[Xq] at h;exact wpAny_eqBool_int h
   ·rw[Xr] at h;exact SeqAt.EqAt.int_str i t y u _ _ _ _ h
  ·rcases u7 hv with⟨j,u,rfl,rfl⟩|⟨y,u,rfl,rfl⟩
   ·rw[Xs] at h;exact SeqAt.EqAt.str_int x t j u _ _ _ _ h
   ·rw[Xt] at h;exact wpAny_eqBool_str h
 «strs»:=λk x t v h=>by
  rcases u7 h with⟨i,u,rfl,e⟩|⟨y,u,rfl,e⟩
  ·exact nomatch e
  ·injection e with e1 _;subst e1;cases v<;>rfl
theorem Z'(prog:Program)(w:World)(i:Int)(t:Tok):(p9 prog w).is (.inl i) (.int i t)=true:=a00 i t
theorem aH2(prog:Program)(w:World)(x:Str)(t:Tok):(p9 prog w).is (.inr x) (.str x t)=true:=Yj x t
set_option genInjectivity true in
inductive V where
 |aQ|bl (b:Bool)|int (i:Int)|str (x:Str)|kN (b:Array UInt8)|rq (b:UInt64)|ref (a:Addr)|ty (n:String)
 deriving DecidableEq
def RelV:V->Value->Prop
 |.aQ,u=>u=Value.none
 |.bl b,u=>u=Value.bool b
 |.int i,u=>∃t,u=Value.int i t
 |.str x,u=>∃t,u=Value.str x t
 |.kN b,u=>∃t,u=Value.bytes b t
 |.rq b,u=>∃t,u=Value.float b t
 |.ref a,u=>u=Value.ref a
 |.ty n,u=>u=Value.type n
noncomputable abbrev Vals:List V->List Value->Prop:=Paired RelV
theorem Vals.length{xs:List V}{us:List Value}(r:Vals xs us):xs.length=us.length:=lJ r
theorem Vals.get:∀{xs:List V} {us:List Value} {i:Nat} {x:V},Vals xs us->xs[i]?=some x->∃u,us[i]?=some u/\RelV x u
 |_,_,_,_,.nil,e=>by simp at e
 |_,_,0,_,.cons r _,e=>by simp at e;subst e;exact⟨_,rfl,r⟩
 |_,_,i+1,x,.cons _ t,e=>by
  obtain⟨u,h1,h2⟩:=Vals.get (i:=i) (x:=x) t (by simpa using e);exact⟨u,by simpa using h1,h2⟩
theorem Vals.set{x:V}{u:Value}(r:RelV x u):∀{xs:List V} {us:List Value} (i:Nat),Vals xs us->Vals (xs.set i x) (us.set i u)
 |_,_,_,.nil=>.nil
 |_,_,0,.cons _ t=>.cons r t
 |_,_,i+1,.cons q t=>.cons q (Vals.set r i t)
theorem Vals.append{xs ys:List V}{us ws:List Value}(h:Vals xs us)(s:Vals ys ws):Vals (xs++ys) (us++ws):=by
 induction h with
 |nil=>exact s
 |cons r t ih=>exact .cons r ih
theorem Vals.take:∀{xs:List V} {us:List Value} (n:Nat),Vals xs us->Vals (xs.take n) (us.take n)
 |_,_,0,_=>.nil
 |_,_,_+1,.nil=>.nil
 |_,_,n+1,.cons r t=>.cons r (Vals.take n t)
theorem Vals.drop:∀{xs:List V} {us:List Value} (n:Nat),Vals xs us->Vals (xs.drop n) (us.drop n)
 |_,_,0,r=>r
 |_,_,_+1,.nil=>.nil
 |_,_,n+1,.cons _ t=>Vals.drop n t
def B3:Option V->Option Value->Prop
 |some v,some u=>RelV v u
 |none,none=>True
 |_,_=>False
def KV{κ:Type}:List (κ×V)->List (κ×Value)->Prop:=Paired λ(p:κ×V) (q:κ×Value)=>p.1=q.1/\RelV p.2 q.2
def kV:Key->V
 |.inl i=>.int i
 |.inr x=>.str x
inductive HO where
 |lst (xs:List V)
 |tup (xs:List V)
 |dK (kvs:List (Key×V))|dT (kvs:List (List Key×V))
 |set (S:Int->Bool) (n:Nat)
 |ins (C dx:Addr) (fs:List (Str×V))
 |own (x:Addr)
 |xd (fs:List (Str×V))
 |met (f x:Addr)
 |lN (lo hi:Int)
 |jq (o:Obj) (u:HO)
 |pw (ps:Array Value)
 |ext (φ:Heap->Prop)
noncomputable abbrev Hp:=Addr->Option HO
def upd(H:Hp)(a:Addr)(o:HO):Hp:=λb=>if b=a then some o else H b
theorem m9{H:Hp}{a:Addr}{o:HO}:upd H a o a=some o:=by unfold upd;rw[au rfl]
theorem i7{H:Hp}{a b:Addr}{o:HO}(h:b≠a):upd H a o b=H b:=by unfold upd;rw[ax h]
theorem VS{H:Hp}{a b:Addr}{o u:HO}(h:H a=some o)(h':H b=some u)(d:o≠u):a≠b:=by
 intro e;subst e;rw[h] at h';exact d (aO h')
theorem p6{H:Hp}{a b:Addr}{o:HO}(h:H a=some o)(h':H b=none):a≠b:=by
 intro e;subst e;rw[h] at h';cases h'
def E2(h:Heap)(a:Addr)(items:Array Value):Prop:=∃o,h.get? a=some o/\o.cls=.type "tuple"/\(∃n,o.data=.seq items n)/\o.dict=none
theorem E2.tup{h:Heap}{a:Addr}{items:Array Value}(x:E2 h a items):IsTup h a items:=let ⟨o,e,c,d,_⟩:=x;⟨o,e,c,d⟩
theorem E2.new(h:Heap)(items:Array Value):E2 (h.push { cls:=.type "tuple",data:=.seq items }) h.objs.size items:=⟨_,aF _ rfl,rfl,⟨_,rfl⟩,rfl⟩
section
variable(P:Program)(w:World)
def j4(H:Hp)(h:Heap)(a:Addr):HO->Prop
 |.lst xs=>xs.length<=sizeLine/\∃(aT:List Value) (n:Nat),Vals xs aT/\h.get? a=some { cls:=.type "list",data:=.seq aT.toArray n }
 |.tup xs=>xs.length<=sizeLine/\∃aT:List Value,Vals xs aT/\E2 h a aT.toArray
 |.dK kvs=>kvs.length<=sizeLine/\(a==sysModules)=false/\∃vs,KV kvs vs/\h.DictOf (p9 P w) a vs
 |.dT kvs=>kvs.length<=sizeLine/\(a==sysModules)=false/\∃xs:List (List Key×Addr×Value),
   Paired (λ(p:List Key×V) (q:List Key×Addr×Value)=>p.1=q.1/\H q.2.1=some (.tup (p.1.map kV))/\RelV p.2 q.2.2) kvs xs /\
   ∃o es ep,h.get? a=some o/\o.ExactDict/\o.data=.dict es ep/\es.toList=xs.map (entryOfKey (tupleKind (p9 P w)))/\(xs.map (·.1)).Nodup
 |.set S n=>h.SetOf (intKind P w) a S n
 |.ins C dx fs=>H dx=some (.own a)/\fs.length<=1000/\dx≠a/\h.get? a=some (PySem.W.instObj C dx) /\
   ∃mA,h.Ns1 dx mA/\(∀f,B3 (fs.lookup f) (mA f))/\PySem.Within mA (fs.map (·.1))
 |.own _=>∃o,h.get? a=some o
 |.xd fs=>∃mA,h.Ns1 a mA/\∀f,B3 (fs.lookup f) (mA f)
 |.lN lo hi=>∃t u v,h.get? a=some { cls:=.type "range",data:=.fields #[.int lo t,.int hi u,.int 1 v] }
 |.jq o u=>h.get? a=some o/\j4 H h a u
 |.pw ps=>h.get? a=some { cls:=.none,data:=.fields ps }
 |.met f x=>h.get? a=some (PySem.W.methodObj (.ref f) (.ref x))
 |.ext φ=>φ h/\(∃o,h.get? a=some o)/\∀h1 h2:Heap,φ h1->(∀o,h1.get? a=some o->h2.get? a=some o)->φ h2
def fX(H:Hp)(h:Heap):Prop:=∀a o,H a=some o->j4 P w H h a o
end
section
variable{P:Program}{w:World}{H H':Hp}{h h':Heap}{a:Addr}{o:HO}
theorem j4.lt(x:j4 P w H h a o):a<h.objs.size:=by
 cases o with
 |lst xs=>obtain⟨_,_,_,_,e⟩:=x;exact aB e
 |tup xs=>obtain⟨_,_,_,p⟩:=x;exact p.tup.lt
 |dK kvs=>obtain⟨_,_,_,_,o,_,_,e,_⟩:=x;exact aB e
 |dT kvs=>obtain⟨_,_,_,_,o,_,_,e,_⟩:=x;exact aB e
 |set S n=>obtain⟨o,_,_,_,e,_⟩:=x;exact aB e
 |ins C dx fs=>obtain⟨_,_,_,e,_⟩:=x;exact aB e
 |own y=>obtain⟨_,e⟩:=x;exact aB e
 |xd fs=>obtain⟨_,⟨_,_,_,e,_⟩,_⟩:=x;exact aB e
 |lN lo hi=>obtain⟨_,_,_,e⟩:=x;exact aB e
 |jq ob u=>obtain⟨e,_⟩:=x;exact aB e
 |pw ps=>exact aB (show h.get? a=some _ from x)
 |met f y=>exact aB (show h.get? a=some _ from x)
 |ext φ=>obtain⟨_,⟨_,e⟩,_⟩:=x;exact aB e
theorem Paired.HD{α β:Type}{F G:α->β->Prop}{l₁:List α}{uP:List β}(h:Paired F l₁ uP)(f:∀a b,F a b->G a b):Paired G l₁ uP:=by
 induction h with
 |nil=>exact .nil
 |cons r t ih=>exact .cons (f _ _ r) ih
theorem j4.Q2(x:j4 P w H h a o)(k:∀b u,(b=a\/H b=some (.own a))->h.get? b=some u->h'.get? b=some u)(ho:∀b,H b=some (.own a)->H' b=some (.own a))(ht:∀b xs,H b=some (.tup xs)->H' b=some (.tup xs)):j4 P w H' h' a o:=by
 induction o with
 |lst xs=>obtain⟨z,aT,n,r,e⟩:=x;exact⟨z,aT,n,r,k _ _ (.inl rfl) e⟩
 |tup xs=>obtain⟨z,aT,r,ob,e,c⟩:=x;exact⟨z,aT,r,ob,k _ _ (.inl rfl) e,c⟩
 |dK kvs=>obtain⟨z,y,vs,r,ob,es,ep,e,c⟩:=x;exact⟨z,y,vs,r,ob,es,ep,k _ _ (.inl rfl) e,c⟩
 |dT kvs =>
  obtain⟨z,y,xs,r,ob,es,ep,e,c⟩:=x;exact⟨z,y,xs,Paired.HD r λp q z=>⟨z.1,ht _ _ z.2.1,z.2.2⟩,ob,es,ep,k _ _ (.inl rfl) e,c⟩
 |set S n=>obtain⟨ob,es,ep,t,e,c⟩:=x;exact⟨ob,es,ep,t,k _ _ (.inl rfl) e,c⟩
 |ins C dx fs =>
  obtain⟨d,z,ne,e,mA,⟨od,es,ep,e2,c⟩,r⟩:=x;exact⟨ho _ d,z,ne,k _ _ (.inl rfl) e,mA,⟨od,es,ep,k _ _ (.inr d) e2,c⟩,r⟩
 |own y=>obtain⟨ob,e⟩:=x;exact⟨ob,k _ _ (.inl rfl) e⟩
 |xd fs=>obtain⟨mA,⟨od,es,ep,e,c⟩,r⟩:=x;exact⟨mA,⟨od,es,ep,k _ _ (.inl rfl) e,c⟩,r⟩
 |lN lo hi=>obtain⟨t,u,v,e⟩:=x;exact⟨t,u,v,k _ _ (.inl rfl) e⟩
 |jq ob u ih=>obtain⟨e,q⟩:=x;exact⟨k _ _ (.inl rfl) e,ih q⟩
 |pw ps =>
  have e:h.get? a=some { cls:=.none,data:=.fields ps }:=x;show h'.get? a=some { cls:=.none,data:=.fields ps };exact k a _ (.inl rfl) e
 |met f y =>
  have e:h.get? a=some (PySem.W.methodObj (.ref f) (.ref y)):=x;show h'.get? a=some (PySem.W.methodObj (.ref f) (.ref y));exact k a _ (.inl rfl) e
 |ext φ=>obtain⟨p,⟨o,e⟩,st⟩:=x;exact⟨st _ _ p λo q=>k _ _ (.inl rfl) q,⟨o,k _ _ (.inl rfl) e⟩,st⟩
theorem fX.lt(x:fX P w H h)(e:H a=some o):a<h.objs.size:=(x a o e).lt
theorem fX.fresh(x:fX P w H h)(e:h.objs.size<=a):H a=none:=by
 cases q:H a with
 |none=>rfl
 |some u=>exact absurd (av (x.lt q) e) (bL _)
theorem fX.kept(x:fX P w H h)(k:∀b u,h.get? b=some u->h'.get? b=some u):fX P w H h':=λa o e =>
 (x a o e).Q2 (λb u _ q=>k b u q) (λ_ q=>q) λ_ _ q=>q
theorem fX.laid(x:fX P w H h)(k:∀b u,h.get? b=some u->h'.get? b=some u)(hp:h.objs.size<=a)(new:j4 P w (upd H a o) h' a o):fX P w (upd H a o) h':=λb u e=>by
 have hn:=x.fresh hp;by_cases hb:b=a
 ·subst hb;rw[m9] at e;cases e;exact new
 ·rw[i7 hb] at e;exact(x b u e).Q2 (λc v _ q=>k c v q) (λc q=>by rw[i7 (p6 q hn)];exact q) λc xs q=>by rw[i7 (p6 q hn)];exact q
end
def Rd(H:Hp)(a:Addr)(u:HO):Prop:=H a=some u\/∃o,H a=some (.jq o u)
theorem Rd.ok{P:Program}{w:World}{H:Hp}{h:Heap}{a:Addr}{u:HO}(r:Rd H a u)(x:fX P w H h):j4 P w H h a u:=by
 rcases r with r|⟨o,r⟩
 ·exact x a u r
 ·obtain⟨_,q⟩:=x a _ r;exact q
def xl:Option HO->Prop
 |some (.lst _)=>True
 |some (.dK _)=>True
 |some (.dT _)=>True
 |some (.set _ _)=>True
 |some (.ins _ _ _)=>True
 |some (.ext _)=>True
 |_=>False
section
variable{P:Program}{w:World}{H:Hp}{h h':Heap}{x e:Addr}{o':HO}
theorem fX.write(ok:fX P w H h)(mu:xl (H x))(he:e=x\/H e=some (.own x))(k:∀b u,b≠e->h.get? b=some u->h'.get? b=some u)(sS:∃u,h'.get? e=some u)(new:j4 P w (upd H x o') h' x o'):fX P w (upd H x o') h':=λb u q=>by
 have uJ:∀c y,H c=some (.own y)->c≠x:=λc y r z=>by subst z;rw[r] at mu;exact mu
 have zY:∀c xs,H c=some (.tup xs)->c≠x:=λc xs r z=>by subst z;rw[r] at mu;exact mu
 by_cases hb:b=x
 ·subst hb;rw[m9] at q;cases q;exact new
 ·rw[i7 hb] at q;by_cases qW:b=e
  ·have q':H b=some (.own x):=by
    rcases he with z|z
    ·exact absurd (qW.trans z) hb
    ·rw[qW];exact z
   rw[q] at q';cases q';obtain⟨v,hv⟩:=sS;exact⟨v,by rw[qW];exact hv⟩
  ·refine(ok b u q).Q2 (λc v hc r=>k c v ?_ r) (λc r=>by rw[i7 (uJ c b r)];exact r) λc xs r=>by rw[i7 (zY c xs r)];exact r
   rcases hc with rfl|hc
   ·exact qW
   ·rintro rfl;rcases he with z|z
    ·exact uJ c b hc z
    ·rw[hc] at z;cases z;exact hb rfl
end
structure Un(fs ex:List Addr)(H H':Hp)(h h':Heap):Prop where
 keep:∀b o,h.get? b=some o->H b=none->b∉fs->b∉ex->h'.get? b=some o
 slot:∀b o,h.get? b=some o->H b=none->b∈fs->b∉ex->∃sl,h'.get? b=some { o with slots:=sl }
 free:∀b o,h.get? b=some o->H b=none->b∉ex->H' b=none
 there:∀b o,h.get? b=some o->b∉ex->∃o',h'.get? b=some o'
 ip:∀b xs,H b=some (.tup xs)->H' b=some (.tup xs)
 gY:∀b o u,H b=some (.jq o u)->H' b=some (.jq o u)
 ir:∀b ps,H b=some (.pw ps)->∃more,H' b=some (.pw (ps++more))
section
variable{fs iR ex ex':List Addr}{H H1 H2:Hp}{h h1 h2 h':Heap}{a x e:Addr}{o:HO}
theorem Un.any(u:Un fs ex H H1 h h1){b:Addr}{ob:Obj}(q:h.get? b=some ob)(n:H b=none)(hx:b∉ex):∃sl,h1.get? b=some { ob with slots:=sl }:=by
 by_cases hb:b∈fs
 ·exact u.slot b ob q n hb hx
 ·exact⟨ob.slots,u.keep b ob q n hb hx⟩
theorem Un.kept(k:∀b u,h.get? b=some u->h'.get? b=some u):Un fs ex H H h h' :=
 ⟨λb ob q _ _ _=>k b ob q,λb ob q _ _ _=>⟨ob.slots,k b ob q⟩,λ_ _ _ n _=>n,λb ob q _=>⟨ob,k b ob q⟩,λ_ _ q=>q,λ_ _ _ q=>q,λ_ ps q=>⟨#[],by rw[q];simp⟩⟩
theorem Un.refl:Un fs ex H H h h:=Un.kept λ_ _ q=>q
theorem Un.laid(k:∀b u,h.get? b=some u->h'.get? b=some u)(hp:h.objs.size<=a)(hn:H a=none):Un fs ex H (upd H a o) h h' where
 keep:=λb u q _ _ _=>k b u q
 slot:=λb u q _ _ _=>⟨u.slots,k b u q⟩
 free:=λb u q n _=>by rw[i7 (aR (av (aB q) hp))];exact n
 there:=λb u q _=>⟨u,k b u q⟩
 ip:=λb xs q=>by rw[i7 (p6 q hn)];exact q
 gY:=λb u xs q=>by rw[i7 (p6 q hn)];exact q
 ir:=λb ps q=>⟨#[],by rw[i7 (p6 q hn),q];simp⟩
theorem Un.write(mu:xl (H x))(he:e=x\/H e=some (.own x))(k:∀b u,b≠e->h.get? b=some u->h'.get? b=some u)(sS:∃u,h'.get? e=some u):Un fs ex H (upd H x o) h h':=by
 have hx:∀b,H b=none->b≠x:=λb n z=>by subst z;rw[n] at mu;exact mu
 have hb:∀b,H b=none->b≠e:=λb n z=>by
  subst z;rcases he with r|r
  ·exact hx b n r
  ·rw[n] at r;cases r
 have hm:∀b u,H b=some u->¬xl (some u)->b≠x:=λb u q nm z=>by subst z;rw[q] at mu;exact nm mu
 refine ⟨λb u q n _ _=>k b u (hb b n) q,λb u q n _ _=>⟨u.slots,k b u (hb b n) q⟩,λb u q n _=>by rw [i7 (hx b n)];exact n,λb u q _=>?_,
  λb xs q=>by rw [i7 (hm b _ q λz=>z)];exact q,λb u xs q=>by rw [i7 (hm b _ q λz=>z)];exact q,λb ps q=>⟨#[],by rw [i7 (hm b _ q λz=>z),q];simp⟩⟩
 by_cases qW:b=e
 ·subst qW;exact sS
 ·exact⟨u,k b u qW q⟩
end
def nU(h:Heap)(H:Hp):List Addr:=(List.range h.objs.size).filter λa=>(H a).isSome
def oY(h:Heap)(H:Hp):Heap:=PySem.W.hideAll h (nU h H)
theorem a06(h:Heap)(H:Hp):(oY h H).objs.size=h.objs.size:=PySem.W.hideAll_size _ _
theorem SY{h:Heap}{H:Hp}{b:Addr}{o:Obj}(e:h.get? b=some o)(n:H b=none):(oY h H).get? b=some o :=
 Ey _ e λhm=>by
  have q:(H b).isSome=true:=(bS.mp hm).2;rw[n] at q;simp at q
theorem Rh{h:Heap}{H:Hp}{b:Addr}{o:Obj}(e:(oY h H).get? b=some o):h.get? b=some o/\H b=none:=by
 have e':h.get? b=some o:=Lq (nU h H) e;refine⟨e',?_⟩;cases q:H b with
 |none=>rfl
 |some x =>
  have hm:b∈nU h H:=bS.mpr ⟨gf.mpr (aB e'),by simp[q]⟩;have z:(oY h H).get? b=none:=PySem.W.hideAll_none (nU h H) hm;rw[z] at e;cases e
structure Mod(K:PySem.W.Frag)(mg:Str->Option Value)(base:Heap):Prop where
 mx:K.In base
 glob:base.Ns mainGlobals mg
 blt:∃mb,base.Ns builtinsNs mb/\∀x:Str,x≠"__name__"->mb x=bootBuiltins x
 nolimit:base.NoLimit
structure Cx where
 prog:Program
 w:World
 K:PySem.W.Frag
 mg:Str->Option Value
 base:Heap
 A:Around
 N:List Str
 dz:Shared
 iY:Hp
 env:Env
 outer:List Env
 stack:List Env
 ex:List Addr
 fn:Str->Bool
 calm:Bool
 pn:List (Addr×Obj)
 xe:Value->Shared->Prop
def fF(l:List Env):List Addr:=l.filterMap (·.frame)
noncomputable abbrev Cx.fs(X:Cx):List Addr:=fF X.outer
def sf(sc:Scope)(x:Str):Prop:=sc.names.lookup x=some .local\/sc.names.lookup x=some .cell\/sc.names.lookup x=some .free
def Loc(sc:Scope)(x:Str):Prop:=sc.names.lookup x=some .local\/sc.names.lookup x=some .cell
def Look(env:Env)(h:Heap)(m:Str->Option Value)(x:Str)(u:Value):Prop :=
 (env.kindOf x=some .local/\m x=some u)\/((env.kindOf x=some .cell\/env.kindOf x=some .free)/\∃c,env.cells.lookup x=some c/\h.IsCell c (some u))
structure Cx.Ok(X:Cx):Prop where
 mod:Mod X.K X.mg X.base
 kind:X.env.scope.kind=.function
 glob:X.env.globals=mainGlobals
 blt:X.env.builtins=builtinsNs
 above:X.dz.heap.objs.size<=X.env.locals
 inj:∀x y c,X.env.cells.lookup x=some c->X.env.cells.lookup y=some c->x=y
 has:∀x,(X.env.kindOf x=some .cell\/X.env.kindOf x=some .free)->∃c,X.env.cells.lookup x=some c
 pT:∀x c,X.fn x=true->X.env.cells.lookup x=some c->X.dz.heap.objs.size<=c
 hd:X.calm=true->X.A.handled=none
 frames:X.A.frames=some X.stack
 qp:X.stack=X.outer\/(X.stack=X.env::X.outer/\X.env.frame=some X.env.locals)
 wt:∀b∈X.ex,b≠X.env.locals/\∀x c,X.env.cells.lookup x=some c->c≠b
 bs:∀b o,X.base.get? b=some o->X.dz.heap.get? b=some o/\X.iY b=none
 mW:X.base.objs.size<=X.dz.heap.objs.size
 jH:∀b o,X.base.get? b=some o->b∉X.ex
 kz:∀b∈X.ex,b∉X.fs
 G0:X.dz.heap.FunFrames X.base X.outer
 nB:∀b∈X.fs,X.iY b=none
structure Inv(X:Cx)(pins:List (Addr×Obj))(σ:List (Option V))(H:Hp)(s:Shared):Prop where
 ok:X.Ok
 os:s.os=X.dz.os
 bare:AllBare s.gens
 base:Un X.fs X.ex X.iY H X.dz.heap s.heap
 loc:∃m,s.heap.Ns X.env.locals m/\∀(i:Nat) (x:Str) (v:V),X.N[i]?=some x->σ[i]?=some (some v)->sf X.env.scope x->∃u,RelV v u/\Look X.env s.heap m x u
 cell:∀x c,X.env.cells.lookup x=some c->∃v,s.heap.IsCell c v
 free:H X.env.locals=none
 eR:∀x c,X.env.cells.lookup x=some c->H c=none
 pin:∀p∈X.pn++pins,s.heap.get? p.1=some p.2/\H p.1=none/\p.1≠X.env.locals/\p.1∉X.fs/\∀v,p.2.data≠.cell v
 bG:fX X.prog X.w H s.heap
 len:σ.length=X.N.length
section
variable{X:Cx}{pins:List (Addr×Obj)}{σ:List (Option V)}{H H':Hp}{s:Shared}{h':Heap}
theorem Cx.Ok.TY(ok:X.Ok){b:Addr}{o:Obj}(e:X.base.get? b=some o):b∉X.fs:=λhb=>by
 have:=(ok.G0.mem hb).1;rw[e] at this;cases this
theorem Inv.bs(I:Inv X pins σ H s):∀b o,X.base.get? b=some o->s.heap.get? b=some o/\H b=none:=λb o e =>
 ⟨I.base.keep b o (I.ok.bs b o e).1 (I.ok.bs b o e).2 (I.ok.TY e) (I.ok.jH b o e),I.base.free b o (I.ok.bs b o e).1 (I.ok.bs b o e).2 (I.ok.jH b o e)⟩
theorem Inv.bk(I:Inv X pins σ H s):∀b o,X.base.get? b=some o->s.heap.get? b=some o:=λb o e=>(I.bs b o e).1
theorem Inv.mod(I:Inv X pins σ H s):Mod X.K X.mg X.base:=I.ok.mod
theorem Inv.gm(I:Inv X pins σ H s):X.K.In s.heap:=I.ok.mod.mx.keeps I.bk
theorem Inv.lt(I:Inv X pins σ H s):X.env.locals<s.heap.objs.size:=let ⟨_,hn,_⟩:=I.loc;hn.lt
theorem Inv.sz(I:Inv X pins σ H s):X.dz.heap.objs.size<=s.heap.objs.size:=aM I.ok.above (dX I.lt)
theorem Inv.zu(I:Inv X pins σ H s){a:Addr}(h:s.heap.objs.size<=a):a∉X.fs:=λhb=>by
 obtain⟨_,o,ho,_⟩:=I.ok.G0.mem hb;exact absurd (av (aB ho) (aM I.sz h)) (bL _)
theorem Inv.rD(I:Inv X pins σ H s):∀x c,X.env.cells.lookup x=some c->c≠X.env.locals:=λx c e z=>by
 obtain⟨v,o,ho,hd⟩:=I.cell x c e;obtain⟨m,⟨o',es,ep,ka,pK,_⟩,_⟩:=I.loc;rw[z,ka] at ho;cases ho;rw[pK] at hd;cases hd
theorem Inv.G0(I:Inv X pins σ H s):s.heap.FunFrames X.base X.outer:=by
 have all:∀(l:List Env),(∀b∈fF l,b∈X.fs)->X.dz.heap.FunFrames X.base l->s.heap.FunFrames X.base l:=by
  intro l
  induction l with
  |nil=>intro _ _;trivial
  |cons env r ih =>
   intro hs hl;obtain⟨hk,⟨L,o,hf,hn,ho,hd⟩,hr⟩:=hl;have hL:L∈X.fs:=hs L (by unfold fF;rw[cF,hf];exact gh);obtain⟨sl,e⟩:=I.base.slot L o ho (I.ok.nB L hL) hL λz=>I.ok.kz L z hL;exact⟨hk,⟨L,_,hf,hn,e,hd⟩,ih (λb hb=>hs b (by unfold fF;rw[cF,hf];exact br _ hb)) hr⟩
 exact all X.outer (λ_ hb=>hb) I.ok.G0
theorem Inv.stack(I:Inv X pins σ H s):s.heap.FunFrames X.base X.stack:=by
 rcases I.ok.qp with e|⟨e,hf⟩
 ·rw[e];exact I.G0
 ·rw[e];obtain⟨m,hn,_⟩:=I.loc;refine .cons (by rw[I.ok.kind];decide) hf hn ?_ I.G0;exact Heap.get?_none_of_le (aM I.ok.mW I.ok.above)
theorem Inv.O9(I:Inv X pins σ H s):∀b∈fF X.stack,b∈X.env.locals::X.fs:=λb hb=>by
 rcases I.ok.qp with e|⟨e,hf⟩
 ·rw[e] at hb;exact br _ hb
 ·rw[e] at hb;unfold fF at hb;rw[cF,hf] at hb;exact hb
theorem Inv.zd(I:Inv X pins σ H s):∀b∈fF X.stack,H b=none:=λb hb=>by
 rcases aI.mp (I.O9 b hb) with e|hb
 ·rw[e];exact I.free
 ·obtain⟨_,o,ho,_⟩:=I.ok.G0.mem hb;exact I.base.free b o ho (I.ok.nB b hb) λz=>I.ok.kz b z hb
theorem Inv.step{g':Array GenState}{t':Nat}{d':Drawn}{ch:List Addr}(I:Inv X pins σ H s)(ly:∀b∈ch,(b∈X.ex\/X.dz.heap.objs.size<=b)/\b≠X.env.locals/\(∀x c,X.env.cells.lookup x=some c->c≠b)/\∀p∈X.pn++pins,p.1≠b)(keep:∀b o,b≠X.env.locals->b∉X.fs->b∉ch->s.heap.get? b=some o->H b=none->h'.get? b=some o)(slot:∀b o,b≠X.env.locals->b∈X.fs->b∉ch->s.heap.get? b=some o->H b=none->∃sl,h'.get? b=some { o with slots:=sl })(free:∀b o,b∉ch->s.heap.get? b=some o->H b=none->H' b=none)(there:∀b o,b∉ch->s.heap.get? b=some o->∃o',h'.get? b=some o')(ip:∀b xs,H b=some (.tup xs)->H' b=some (.tup xs))(gY:∀b o u,H b=some (.jq o u)->H' b=some (.jq o u))(ir:∀b ps,H b=some (.pw ps)->∃more,H' b=some (.pw (ps++more)))(ns:∀m,s.heap.Ns X.env.locals m->h'.Ns X.env.locals m)(bG:fX X.prog X.w H' h')(hg:AllBare g') :
  Inv X pins σ H' { s with heap:=h',gens:=g',drawn:=d',toks:=t' }:=by
 have Fb:∀b o,X.dz.heap.get? b=some o->b≠X.env.locals:=λb o e=>aR (av (aB e) I.ok.above);have sv:∀b o,X.dz.heap.get? b=some o->b∉X.ex->b∉ch:=λb o e hx hb=>by
  rcases(ly b hb).1 with z|z
  ·exact hx z
  ·exact absurd (av (aB e) z) (bL _)
 have cellK:∀x c,X.env.cells.lookup x=some c->∀v,s.heap.IsCell c v->h'.IsCell c v:=λx c e v bh=>by
  obtain⟨o,ho,hd⟩:=bh;have uO:c∉ch:=λz=>(ly c z).2.2.1 x c e rfl;by_cases hc:c∈X.fs
  ·obtain⟨sl,q⟩:=slot c o (I.rD x c e) hc uO ho (I.eR x c e);exact⟨_,q,hd⟩
  ·exact⟨o,keep c o (I.rD x c e) hc uO ho (I.eR x c e),hd⟩
 refine⟨I.ok,I.os,hg,⟨λb o e n hb hx=>?_,λb o e n hb hx=>?_,λb o e n hx=>?_,λb o e hx=>?_,λb xs e=>ip b xs (I.base.ip b xs e),λb o xs e=>gY b o xs (I.base.gY b o xs e),λb ps e=>?_⟩,?_,λx c e=>?_,?_,λx c e=>?_,λp hp=>?_,bG,I.len⟩
 ·exact keep b o (Fb b o e) hb (sv b o e hx) (I.base.keep b o e n hb hx) (I.base.free b o e n hx)
 ·obtain⟨sl,e1⟩:=I.base.slot b o e n hb hx;obtain⟨LR,e2⟩:=slot b _ (Fb b o e) hb (sv b o e hx) e1 (I.base.free b o e n hx);exact⟨LR,e2⟩
 ·obtain⟨o',e1⟩:=I.base.there b o e hx;exact free b o' (sv b o e hx) e1 (I.base.free b o e n hx)
 ·obtain⟨o',e1⟩:=I.base.there b o e hx;exact there b o' (sv b o e hx) e1
 ·obtain⟨m1,e1⟩:=I.base.ir b ps e;obtain⟨m2,e2⟩:=ir b _ e1;exact⟨m1++m2,by rw[e2,Lx]⟩
 ·obtain⟨m,hn,hl⟩:=I.loc;refine⟨m,ns m hn,λi x v e1 e2 e3=>?_⟩;obtain⟨u,r,l⟩:=hl i x v e1 e2 e3;refine⟨u,r,?_⟩;rcases l with l|⟨k,c,e,z⟩
  ·exact .inl l
  ·exact .inr ⟨k,c,e,cellK x c e _ z⟩
 ·obtain⟨v,z⟩:=I.cell x c e;exact⟨v,cellK x c e v z⟩
 ·obtain⟨m,⟨o,_,_,ho,_⟩,_⟩:=I.loc;exact free _ o (λz=>(ly _ z).2.1 rfl) ho I.free
 ·obtain⟨v,o,ho,hd⟩:=I.cell x c e;exact free c o (λz=>(ly c z).2.2.1 x c e rfl) ho (I.eR x c e)
 ·obtain⟨e,n,ne,nf,d⟩:=I.pin p hp;have uO:p.1∉ch:=λz=>(ly p.1 z).2.2.2 p hp rfl;exact⟨keep p.1 p.2 ne nf uO e n,free p.1 p.2 uO e n,ne,nf,d⟩
theorem Inv.un{t':Nat}(I:Inv X pins σ H s)(u:Un X.fs [] H H' s.heap h')(bG:fX X.prog X.w H' h'):Inv X pins σ H' { s with heap:=h',toks:=t' }:=by
 obtain⟨m,⟨o,es,ep,ho,r⟩,_⟩:=id I.loc;obtain⟨sl,hL⟩:=u.any ho I.free (by simp);exact I.step (g':=s.gens) (d':=s.drawn) (ch:=[]) (λ_ z=>nomatch z) (λb o _ hb _ e n=>u.keep b o e n hb (by simp)) (λb o _ hb _ e n=>u.slot b o e n hb (by simp)) (λb o _ e n=>u.free b o e n (by simp)) (λb o _ e=>u.there b o e (by simp)) u.ip u.gY u.ir (λm' hm=>by
  obtain⟨o',lE,yf,ka,r'⟩:=hm;rw[ho] at ka;cases ka;exact ⟨_,lE,yf,hL,r'⟩) bG I.bare
theorem Inv.call{g':Array GenState}{t':Nat}{d':Drawn}{ch:List Addr}(I:Inv X pins σ H s)(u:Un (fF X.stack) ch H H' s.heap h')(bG:fX X.prog X.w H' h')(hg:AllBare g')(ly:∀b∈ch,(b∈X.ex\/X.dz.heap.objs.size<=b)/\b≠X.env.locals/\(∀x c,X.env.cells.lookup x=some c->c≠b)/\∀p∈X.pn++pins,p.1≠b) :
  Inv X pins σ H' { s with heap:=h',gens:=g',drawn:=d',toks:=t' }:=by
 obtain⟨m,⟨o,es,ep,ho,r⟩,_⟩:=id I.loc;obtain⟨sl,hL⟩:=u.any ho I.free λz=>(ly _ z).2.1 rfl;exact I.step (ch:=ch) ly (λb o hL hb hc e n=>u.keep b o e n (λz=>(aI.mp (I.O9 b z)).elim hL hb) hc) (λb o _ _ hc e n=>u.any e n hc) (λb o hc e n=>u.free b o e n hc) (λb o hc e=>u.there b o e hc) u.ip u.gY u.ir (λm' hm=>by
  obtain⟨o',lE,yf,ka,r'⟩:=hm;rw[ho] at ka;cases ka;exact ⟨_,lE,yf,hL,r'⟩) bG hg
theorem Inv.turned{t':Nat}{it:Addr}(I:Inv X pins σ H s)(k:∀b o,b≠it->s.heap.get? b=some o->h'.get? b=some o)(hn:H it=none)(hL:it≠X.env.locals)(h1:it∈X.ex\/X.dz.heap.objs.size<=it)(h2:∀x c,X.env.cells.lookup x=some c->c≠it)(h3:∀p∈X.pn++pins,p.1≠it):Inv X pins σ H { s with heap:=h',toks:=t' }:=by
 have EZ:∀b u,H b=some u->b≠it:=λb u e z=>by rw[z,hn] at e;cases e
 refine I.step (g':=s.gens) (d':=s.drawn) (ch:=[it]) (λb hb=>?_) (λb o _ _ hc e _=>k b o (λz=>hc (by simp[z])) e) (λb o _ _ hc e _=>⟨o.slots,k b o (λz=>hc (by simp[z])) e⟩) (λ_ _ _ _ n=>n)
  (λb o hc e=>⟨o,k b o (λz=>hc (by simp[z])) e⟩) (λ_ _ e=>e) (λ_ _ _ e=>e) (λb ps e=>⟨#[],by rw[e];simp⟩) (λm hm=>?_) (λb u e=>?_) I.bare
 ·have e:b=it:=by simpa using hb
  subst e;exact⟨h1,hL,h2,h3⟩
 ·obtain⟨o,es,ep,ho,r⟩:=hm;exact⟨o,es,ep,k _ o (aL hL) ho,r⟩
 ·refine(I.bG b u e).Q2 (λc v hc q=>k c v ?_ q) (λ_ q=>q) λ_ _ q=>q;rcases hc with z|z
  ·rw[z];exact EZ b u e
  ·exact EZ c _ z
theorem Inv.tok(I:Inv X pins σ H s)(t:Nat):Inv X pins σ H { s with toks:=t }:=I.un (h':=s.heap) (t':=t) Un.refl I.bG
theorem Inv.kept{t':Nat}(I:Inv X pins σ H s)(k:∀b u,s.heap.get? b=some u->h'.get? b=some u):Inv X pins σ H { s with heap:=h',toks:=t' }:=I.un (Un.kept k) (I.bG.kept k)
theorem Inv.laid{a:Addr}{o:HO}{t':Nat}(I:Inv X pins σ H s)(k:∀b u,s.heap.get? b=some u->h'.get? b=some u)(hp:s.heap.objs.size<=a)(new:j4 X.prog X.w (upd H a o) h' a o) :
  Inv X pins σ (upd H a o) { s with heap:=h',toks:=t' }:=I.un (Un.laid k hp (I.bG.fresh hp)) (I.bG.laid k hp new)
theorem Inv.write{x e:Addr}{o:HO}{t':Nat}(I:Inv X pins σ H s)(mu:xl (H x))(he:e=x\/H e=some (.own x))(k:∀b u,b≠e->s.heap.get? b=some u->h'.get? b=some u)(sS:∃u,h'.get? e=some u)(new:j4 X.prog X.w (upd H x o) h' x o):Inv X pins σ (upd H x o) { s with heap:=h',toks:=t' }:=I.un (Un.write mu he k sS) (I.bG.write mu he k sS new)
theorem Inv.weak{cj:List (Option V)}(I:Inv X pins σ H s)(hl:cj.length=σ.length)(w:∀(i:Nat) v,cj[i]?=some (some v)->σ[i]?=some (some v)):Inv X pins cj H s :=
 ⟨I.ok,I.os,I.bare,I.base,let ⟨m,hn,AF⟩:=I.loc;⟨m,hn,λi x v e1 e2 e3=>AF i x v e1 (w i v e2) e3⟩,I.cell,I.free,I.eR,I.pin,I.bG,hl.trans I.len⟩
theorem Inv.Y4{iJ:List (Addr×Obj)}(I:Inv X pins σ H s)(h:∀p∈iJ,s.heap.get? p.1=some p.2/\H p.1=none/\p.1≠X.env.locals/\p.1∉X.fs/\∀v,p.2.data≠.cell v):Inv X iJ σ H s :=
 ⟨I.ok,I.os,I.bare,I.base,I.loc,I.cell,I.free,I.eR,λp hp=>(bN.mp hp).elim (λz=>I.pin p (fA _ z)) (h p),I.bG,I.len⟩
theorem KC{N:List Str}(hN:N.Nodup){i j:Nat}{x:Str}(a:N[i]?=some x)(b:N[j]?=some x):i=j:=by
 obtain⟨h1,e1⟩:=aq.mp a;obtain⟨h2,e2⟩:=aq.mp b;exact(List.getElem_inj hN).mp (e1.trans e2.symm)
theorem Ig{M:Model}{A:Around}{E:Value->Shared->Prop}{i:Nat}{x:Str}{v:V}{u:Value}{Q:Unit->Shared->Prop}(I:Inv X pins σ H s)(hN:X.N.Nodup)(hi:X.N[i]?=some x)(hx:Loc X.env.scope x)(r:RelV v u)(h:∀s',Inv X pins (σ.set i (some v)) H s'->(∃a,Heap.SameBut a s.heap s'.heap/\(a=X.env.locals\/X.env.cells.lookup x=some a))->Q () s')(hf:X.fn x=true\/X.env.scope.names.lookup x=some .local:=by first|exact .inl rfl|exact .inr rfl|assumption):wpAny M A (storeName X.env x u) Q E s:=by
 obtain⟨m,hn,hl⟩:=id I.loc;have jo:(X.env.scope.kind==.class||(X.env.scope.kind==.module&&X.env.locals != X.env.globals))=false:=by rw[I.ok.kind];rfl
 have vw:i<σ.length:=by rw[I.len];exact(aq.mp hi).1
 have rD:=I.rD;have tracked:∀{a:Addr} {h':Heap},(∃o,s.heap.get? a=some o/\H a=none)->Heap.SameBut a s.heap h'->fX X.prog X.w H h':=λ{a h'} ha hs b ob e=>by
  obtain⟨_,_,jL⟩:=ha;refine(I.bG b ob e).Q2 (λc w' hc q=>(hs.2 c ?_).trans q) (λ_ q=>q) λ_ _ q=>q;rintro rfl;rcases hc with rfl|hc
  ·rw[jL] at e;cases e
  ·rw[jL] at hc;cases hc
 rcases hx with hk|hk
 ·refine wpAny_storeName_local hk hn (λh' vj hs=>?_) jo;obtain⟨oL,_,_,vh,_⟩:=id hn;refine h _ ⟨I.ok,I.os,I.bare,⟨λb o e n hb hx=>?_,λb o e n hb hx=>?_,I.base.free,λb o e hx=>?_,I.base.ip,I.base.gY,I.base.ir⟩,⟨_,vj,λj y v' e1 e2 e3=>?_⟩,λy c e=>?_,I.free,I.eR,λp hp=>?_,tracked ⟨oL,vh,I.free⟩ hs,by simpa using I.len⟩ ⟨_,hs,.inl rfl⟩
  ·exact(hs.2 b (aR (av (aB e) I.ok.above))).trans (I.base.keep b o e n hb hx)
  ·obtain⟨sl,e1⟩:=I.base.slot b o e n hb hx;exact⟨sl,(hs.2 b (aR (av (aB e) I.ok.above))).trans e1⟩
  ·obtain⟨o',e1⟩:=I.base.there b o e hx;exact⟨o',(hs.2 b (aR (av (aB e) I.ok.above))).trans e1⟩
  ·by_cases hj:j=i
   ·subst hj;rw[hi] at e1;cases e1;rw[aP vw] at e2;cases e2;exact⟨u,r,.inl ⟨hk,by simp⟩⟩
   ·rw[aw (aL hj)] at e2;obtain⟨u',r',q⟩:=hl j y v' e1 e2 e3;refine⟨u',r',?_⟩;rcases q with⟨k,e⟩|⟨k,c,e,z⟩
    ·refine .inl ⟨k,?_⟩;have:y≠x:=λe=>hj (KC hN e1 (e▸hi));simp[this,e]
    ·exact .inr ⟨k,c,e,z.sameBut hs (rD y c e)⟩
  ·obtain⟨w',z⟩:=I.cell y c e;exact⟨w',z.sameBut hs (rD y c e)⟩
  ·obtain⟨e,n,ne,nf,d⟩:=I.pin p hp;exact⟨(hs.2 p.1 ne).trans e,n,ne,nf,d⟩
 ·have sR:X.fn x=true:=by
   rcases hf with z|z
   ·exact z
   ·rw[z] at hk;cases hk
  obtain⟨c,hc⟩:=I.ok.has x (.inl hk);obtain⟨w',z⟩:=I.cell x c hc;refine wpAny_storeName_cell I.ok.kind hk hc z (λh' vH hs=>?_);obtain⟨oc,Av,Au⟩:=id z;refine h { s with heap:=h' } ⟨I.ok,I.os,I.bare,⟨λb o e n hb hx=>?_,λb o e n hb hx=>?_,I.base.free,λb o e hx=>?_,I.base.ip,I.base.gY,I.base.ir⟩,⟨m,hn.sameBut hs (aL (rD x c hc)),λj y v' e1 e2 e3=>?_⟩,λy c' e=>?_,I.free,I.eR,λp hp=>?_,tracked ⟨oc,Av,I.eR x c hc⟩ hs,by simpa using I.len⟩ ⟨c,hs,.inr hc⟩
  ·exact(hs.2 b (aR (av (aB e) (I.ok.pT x c sR hc)))).trans (I.base.keep b o e n hb hx)
  ·obtain⟨sl,e1⟩:=I.base.slot b o e n hb hx;exact⟨sl,(hs.2 b (aR (av (aB e) (I.ok.pT x c sR hc)))).trans e1⟩
  ·obtain⟨o',e1⟩:=I.base.there b o e hx;exact⟨o',(hs.2 b (aR (av (aB e) (I.ok.pT x c sR hc)))).trans e1⟩
  ·by_cases hj:j=i
   ·subst hj;rw[hi] at e1;cases e1;rw[aP vw] at e2;cases e2;exact⟨u,r,.inr ⟨.inl hk,c,hc,vH⟩⟩
   ·rw[aw (aL hj)] at e2;obtain⟨u',r',q⟩:=hl j y v' e1 e2 e3;refine⟨u',r',?_⟩;rcases q with q|⟨k,c',e,z'⟩
    ·exact .inl q
    ·refine .inr ⟨k,c',e,z'.sameBut hs ?_⟩;rintro rfl;exact hj (KC hN e1 (I.ok.inj _ _ _ e hc▸hi))
  ·by_cases sT:c'=c
   ·subst sT;exact⟨_,vH⟩
   ·obtain⟨w2,z2⟩:=I.cell y c' e;exact⟨w2,z2.sameBut hs sT⟩
  ·obtain⟨e,n,ne,nf,d⟩:=I.pin p hp;refine⟨(hs.2 p.1 ?_).trans e,n,ne,nf,d⟩;intro q;rw[q,Av] at e;have q':oc=p.2:=aO e;exact d w' (by rw[<- q'];exact Au)
theorem S4{M:Model}{A:Around}{E:Value->Shared->Prop}{i:Nat}{x:Str}{v:V}{u:Value}{Q:Unit->Shared->Prop}(I:Inv X pins σ H s)(hN:X.N.Nodup)(hi:X.N[i]?=some x)(hx:Loc X.env.scope x)(r:RelV v u)(h:∀s',Inv X pins (σ.set i (some v)) H s'->Q () s')(hf:X.fn x=true\/X.env.scope.names.lookup x=some .local:=by first|exact .inl rfl|exact .inr rfl|assumption):wpAny M A (storeName X.env x u) Q E s :=
 Ig I hN hi hx r (λs' I' _=>h s' I') hf
theorem Inv.Dx{s':Shared}{ch:List Addr}(I:Inv X pins σ H s)(ho:s'.os=s.os)(u:Un (fF X.stack) ch H H' s.heap s'.heap)(bG:fX X.prog X.w H' s'.heap)(hg:AllBare s'.gens)(ly:∀b∈ch,(b∈X.ex\/X.dz.heap.objs.size<=b)/\b≠X.env.locals/\(∀x c,X.env.cells.lookup x=some c->c≠b)/\∀p∈X.pn++pins,p.1≠b):Inv X pins σ H' s':=by
 obtain⟨h',g',d',t',o'⟩:=s';have e:o'=s.os:=ho;subst e;exact I.call (g':=g') (t':=t') (d':=d') u bG hg ly
end
noncomputable abbrev XK:=Value->Option Addr->Hp->Prop
noncomputable abbrev St:=List (Option V)
noncomputable abbrev VK:=V->Hp->Prop
noncomputable abbrev TE:=St->Hp->VK->Prop
noncomputable abbrev TT:=St->Hp->(Bool->Hp->Prop)->Prop
noncomputable abbrev TA:=St->Hp->(List V->Hp->Prop)->Prop
structure Ends where
 nx:St->Hp->Prop
 rt:VK
 bk:St->Hp->Prop:=λ_ _=>False
 ct:St->Hp->Prop:=λ_ _=>False
noncomputable abbrev TS:=Ends->St->Hp->Prop
def EP(X:Cx)(pins:List (Addr×Obj))(σ:St)(Q:VK)(u:Value)(s':Shared):Prop:=∃v H',Inv X pins σ H' s'/\RelV v u/\Q v H'
def TP(X:Cx)(pins:List (Addr×Obj))(σ:St)(Q:Bool->Hp->Prop)(b:Bool)(s':Shared):Prop:=∃H',Inv X pins σ H' s'/\Q b H'
def AP(X:Cx)(pins:List (Addr×Obj))(σ:St)(Q:List V->Hp->Prop)(us:List Value)(s':Shared):Prop:=∃vs H',Inv X pins σ H' s'/\Vals vs us/\Q vs H'
def SP(X:Cx)(pins:List (Addr×Obj))(D:Ends)(f:Flow)(s':Shared):Prop :=
 match f with
 |.next=>∃cj H',Inv X pins cj H' s'/\D.nx cj H'
 |.brk=>∃cj H',Inv X pins cj H' s'/\D.bk cj H'
 |.cont=>∃cj H',Inv X pins cj H' s'/\D.ct cj H'
 |.ret u=>∃v cj H',Inv X pins cj H' s'/\RelV v u/\D.rt v H'
def PE(X:Cx)(e:Expr)(t:TE):Prop :=
 ∀(pins:List (Addr×Obj)) (s:Shared) (σ:St) (H:Hp) (Q:VK),Inv X pins σ H s->t σ H Q->wpAny (model X.prog X.w) X.A (eval e X.env) (EP X pins σ Q) X.xe s
def PT(X:Cx)(e:Expr)(t:TT):Prop :=
 ∀(pins:List (Addr×Obj)) (s:Shared) (σ:St) (H:Hp) (Q:Bool->Hp->Prop),Inv X pins σ H s->t σ H Q->wpAny (model X.prog X.w) X.A (isTrue e X.env (eval e X.env)) (TP X pins σ Q) X.xe s
def PW(X:Cx)(e:Expr)(t:TT):Prop :=
 ∀(whole:Sem Value) (pins:List (Addr×Obj)) (s:Shared) (σ:St) (H:Hp) (Q:Bool->Hp->Prop),Inv X pins σ H s->t σ H Q->wpAny (model X.prog X.w) X.A (isTrue e X.env whole) (TP X pins σ Q) X.xe s
theorem PW.pt{X:Cx}{e:Expr}{t:TT}(h:PW X e t):PT X e t:=h _
def PA(X:Cx)(es:List Expr)(t:TA):Prop :=
 ∀(pos:Pos) (pins:List (Addr×Obj)) (s:Shared) (σ:St) (H:Hp) (Q:List V->Hp->Prop),Inv X pins σ H s->t σ H Q->wpAny (model X.prog X.w) X.A (spliced (backTo pos (starEach es X.env))) (AP X pins σ Q) X.xe s
def PS(X:Cx)(st:Stmt)(t:TS):Prop :=
 ∀(pins:List (Addr×Obj)) (s:Shared) (σ:St) (H:Hp) (D:Ends),Inv X pins σ H s->t D σ H->wpAny (model X.prog X.w) X.A (exec st X.env) (SP X pins D) X.xe s
def jb(X:Cx)(st:List Stmt)(t:TS):Prop :=
 ∀(pins:List (Addr×Obj)) (s:Shared) (σ:St) (H:Hp) (D:Ends),Inv X pins σ H s->t D σ H->wpAny (model X.prog X.w) X.A (execs st X.env) (SP X pins D) X.xe s
theorem cw{α:Type}{t:Sem α}{Q Q':α->Shared->Prop}{M:Model}{A:Around}{E:Value->Shared->Prop}{s:Shared}(h:wpAny M A t Q E s)(hQ:∀a s,Q a s->Q' a s):wpAny M A t Q' E s:=bQ h hQ λ_ _ x=>x
section
variable{X:Cx}
def UM(i:Nat):TE:=λσ H Q=>∃v,σ[i]?=some (some v)/\Q v H
def tC(v:V):TE:=λ_ H Q=>Q v H
theorem Ee{i:Nat}{x:Str}{pos:Pos}(hN:X.N[i]?=some x)(hv:sf X.env.scope x)(hd:(x==("__debug__":Str))=false:=by decide)(lz:(x==("__classdict__":Str))=false:=by decide):PE X (.Name x pos) (UM i):=by
 intro pins s σ H Q I h;obtain⟨v,e,h⟩:=h;obtain⟨m,hn,hl⟩:=I.loc;obtain⟨u,r,l⟩:=hl i x v hN e hv;have fin:EP X pins σ Q u s:=⟨v,H,I,r,h⟩
 rcases l with⟨hk,hm⟩|⟨hk,c,hc,kJ⟩
 ·exact wpAny_Name (wpAny_loadName_local I.ok.kind hk hn hm fin) hd
 ·rcases hk with hk|hk
  ·exact wpAny_Name (wpAny_loadName_cell I.ok.kind hk hc kJ fin) hd
  ·exact wpAny_Name (wpAny_loadName_free I.ok.kind hk hc kJ fin lz) hd
theorem OJ{i j pos}:PE X (.Constant (.int i) j pos) (tC (.int i)):=λ_ _ _ H _ I h=>wpAny_Constant_int ⟨.int i,H,I.tok _,⟨_,rfl⟩,h⟩
theorem Wb{b j pos}:PE X (.Constant (.bool b) j pos) (tC (.bl b)):=λ_ _ _ H _ I h=>Constant_bool ⟨.bl b,H,I,rfl,h⟩
theorem OL{j pos}:PE X (.Constant .none j pos) (tC .aQ):=λ_ _ _ H _ I h=>Constant_none ⟨.aQ,H,I,rfl,h⟩
theorem Jg{x j pos}:PE X (.Constant (.str x) j pos) (tC (.str x)):=λ_ _ _ H _ I h=>Calls.Constant_str ⟨.str x,H,I.tok _,⟨_,rfl⟩,h⟩
def Gl(X:Cx)(x:Str):Prop:=X.env.kindOf x=some .globalImplicit
theorem R7{E:Value->Shared->Prop}{pins:List (Addr×Obj)}{s:Shared}{σ:St}{H:Hp}{x:Str}{u:Value}{pos:Pos}{Q:Value->Shared->Prop}(I:Inv X pins σ H s)(hg:Gl X x)(hm:X.mg x=some u)(h:Q u s)(hd:(x==("__debug__":Str))=false:=by decide):wpAny (model X.prog X.w) X.A (eval (.Name x pos) X.env) Q E s :=
 zE I.ok.kind hg (Calls.loadGlobal_global (by rw[I.ok.glob];exact I.mod.glob.keeps I.bk) hm h) hd
theorem T9{E:Value->Shared->Prop}{pins:List (Addr×Obj)}{s:Shared}{σ:St}{H:Hp}{x:Str}{u:Value}{pos:Pos}{Q:Value->Shared->Prop}(I:Inv X pins σ H s)(hg:Gl X x)(hm:X.mg x=none)(hv:bootBuiltins x=some u)(h:Q u s)(hn:x≠"__name__":=by decide)(hd:(x==("__debug__":Str))=false:=by decide):wpAny (model X.prog X.w) X.A (eval (.Name x pos) X.env) Q E s:=by
 obtain⟨mb,h1,h2⟩:=I.mod.blt;exact zE I.ok.kind hg (Calls.loadGlobal_builtin (by rw[I.ok.glob];exact I.mod.glob.keeps I.bk) hm (by rw[I.ok.blt];exact h1.keeps I.bk) ((h2 x hn).trans hv) h) hd
theorem za{x:Str}{v:V}{u:Value}{pos:Pos}(hg:Gl X x)(hm:X.mg x=some u)(r:RelV v u)(hd:(x==("__debug__":Str))=false:=by decide):PE X (.Name x pos) (tC v) :=
 λ_ _ _ H _ I h=>R7 I hg hm ⟨v,H,I,r,h⟩ hd
theorem Ru{x:Str}{v:V}{u:Value}{pos:Pos}(hg:Gl X x)(hm:X.mg x=none)(hv:bootBuiltins x=some u)(r:RelV v u)(hn:x≠"__name__":=by decide)(hd:(x==("__debug__":Str))=false:=by decide):PE X (.Name x pos) (tC v) :=
 λ_ _ _ H _ I h=>T9 I hg hm hv ⟨v,H,I,r,h⟩ hn hd
variable{a b:Expr}{ta tb:TE}{pos:Pos}
variable{tA xD:TT}{rest:List Expr}
def Uy(t u:TT):TT:=λσ H Q=>t σ H λc H1=>if c=true then u σ H1 Q else Q false H1
def LL(t u:TT):TT:=λσ H Q=>t σ H λc H1=>if c=true then Q true H1 else u σ H1 Q
def UG(t:TT):TT:=λσ H Q=>t σ H λc H1=>Q (!c) H1
theorem RK(ha:PT X a tA):PW X (.BoolOp .And [a] pos) tA:=by
 intro wh pins s σ H Q I h;refine isTrue_and (cw (ha pins s σ H Q I h) λc s1 e=>?_);cases c with
 |true=>exact isTrue_and_nil e
 |false=>exact e
theorem Pb(ha:PT X a tA):PW X (.BoolOp .Or [a] pos) tA:=by
 intro wh pins s σ H Q I h;refine isTrue_or (cw (ha pins s σ H Q I h) λc s1 e=>?_);cases c with
 |false=>exact isTrue_or_nil e
 |true=>exact e
theorem Pa(ha:PT X a tA)(hb:PW X (.BoolOp .And (b::rest) pos) xD):PW X (.BoolOp .And (a::b::rest) pos) (Uy tA xD):=by
 intro wh pins s σ H Q I h;refine isTrue_and (cw (ha pins s σ H _ I h) λc s1 ⟨H1,I1,q1⟩=>?_);cases c with
 |true=>exact hb wh pins s1 σ H1 Q I1 q1
 |false=>exact⟨H1,I1,q1⟩
theorem Wi(ha:PT X a tA)(hb:PW X (.BoolOp .Or (b::rest) pos) xD):PW X (.BoolOp .Or (a::b::rest) pos) (LL tA xD):=by
 intro wh pins s σ H Q I h;refine isTrue_or (cw (ha pins s σ H _ I h) λc s1 ⟨H1,I1,q1⟩=>?_);cases c with
 |true=>exact⟨H1,I1,q1⟩
 |false=>exact hb wh pins s1 σ H1 Q I1 q1
theorem OZ(ha:PT X a tA):PT X (.UnaryOp .Not a pos) (UG tA):=by
 intro pins s σ H Q I h;exact isTrue_not (ha pins s σ H (λc H1=>Q (!c) H1) I h)
def Wy(ta tb:TE):TE:=λσ H Q=>ta σ H λx H1=>∃c,x=.bl c/\if c=true then tb σ H1 Q else Q (.bl false) H1
def UH(ta tb:TE):TE:=λσ H Q=>ta σ H λx H1=>∃c,x=.bl c/\if c=true then Q (.bl true) H1 else tb σ H1 Q
def WD(ta:TE):TE:=λσ H Q=>ta σ H λx H1=>∃c,x=.bl c/\Q (.bl (!c)) H1
theorem ON{op}{t:TE}(h:PE X a t):PE X (.BoolOp op [a] pos) t:=λpins s σ H Q I hw=>BoolOp_one (h pins s σ H Q I hw)
theorem OF(ha:PE X a ta)(hb:PE X (.BoolOp .And (b::rest) pos) tb):PE X (.BoolOp .And (a::b::rest) pos) (Wy ta tb):=by
 intro pins s σ H Q I h;refine BoolOp_and (cw (ha pins s σ H _ I h) λv s1 bh=>?_);obtain⟨x,H1,I1,r1,q1⟩:=bh;obtain⟨c,rfl,q1⟩:=q1;cases r1;refine cv ?_;cases c with
 |true=>exact hb pins s1 σ H1 Q I1 q1
 |false=>exact⟨.bl false,H1,I1,rfl,q1⟩
theorem We(ha:PE X a ta)(hb:PE X (.BoolOp .Or (b::rest) pos) tb):PE X (.BoolOp .Or (a::b::rest) pos) (UH ta tb):=by
 intro pins s σ H Q I h;refine BoolOp_or (cw (ha pins s σ H _ I h) λv s1 bh=>?_);obtain⟨x,H1,I1,r1,q1⟩:=bh;obtain⟨c,rfl,q1⟩:=q1;cases r1;refine cv ?_;cases c with
 |false=>exact hb pins s1 σ H1 Q I1 q1
 |true=>exact⟨.bl true,H1,I1,rfl,q1⟩
theorem OM(ha:PE X a ta):PE X (.UnaryOp .Not a pos) (WD ta):=by
 intro pins s σ H Q I h;refine UnaryOp_ (cw (ha pins s σ H _ I h) λv s1 bh=>?_);obtain⟨x,H1,I1,r1,q1⟩:=bh;obtain⟨c,rfl,q1⟩:=q1;cases r1;exact not_of (cv ⟨.bl (!c),H1,I1,rfl,q1⟩)
def LM(t:TT)(ta tb:TE):TE:=λσ H Q=>t σ H λc H1=>if c=true then ta σ H1 Q else tb σ H1 Q
theorem a71{c:Expr}(hc:PT X c tA)(ha:PE X a ta)(hb:PE X b tb):PE X (.IfExp c a b pos) (LM tA ta tb):=by
 intro pins s σ H Q I h;refine wpAny_IfExp (cw (hc pins s σ H _ I h) λd s1 ⟨H1,I1,q1⟩=>?_);cases d with
 |true=>exact ha pins s1 σ H1 Q I1 q1
 |false=>exact hb pins s1 σ H1 Q I1 q1
end
def gx(K:PySem.W.Frag)(H:Hp)(a:Addr)(xs:List V):Prop :=
 Rd H a (.lst xs) \/
  ∃(o:Obj) (aT:Array Value) (n:Nat),K.lookup a=some o/\o.cls=.type "list"/\o.dict=none/\o.data=.seq aT n/\aT.size<=sizeLine/\Vals xs aT.toList
def gQ(K:PySem.W.Frag)(H:Hp)(a:Addr)(xs:List V):Prop :=
 Rd H a (.tup xs) \/
  ∃(o:Obj) (aT:Array Value) (n:Nat),K.lookup a=some o/\o.cls=.type "tuple"/\o.data=.seq aT n/\aT.size<=sizeLine/\Vals xs aT.toList
def Tb:Value->Option V
 |.none=>some .aQ
 |.bool b=>some (.bl b)
 |.int i _=>some (.int i)
 |.str x _=>some (.str x)
 |.bytes b _=>some (.kN b)
 |.float b _=>some (.rq b)
 |.ref a=>some (.ref a)
 |.type n=>some (.ty n)
 |_=>none
theorem RelV.abs{x:V}{u:Value}(r:RelV x u):Tb u=some x:=by
 cases x with
 |aQ=>cases r;rfl
 |bl _=>cases r;rfl
 |int _=>obtain⟨t,rfl⟩:=r;rfl
 |str _=>obtain⟨t,rfl⟩:=r;rfl
 |kN _=>obtain⟨t,rfl⟩:=r;rfl
 |rq _=>obtain⟨t,rfl⟩:=r;rfl
 |ref _=>cases r;rfl
 |ty _=>cases r;rfl
theorem RelV.inj{x y:V}{u:Value}(r:RelV x u)(q:RelV y u):x=y:=aO (r.abs.symm.trans q.abs)
theorem Vals.inj{xs ys:List V}{us:List Value}(h:Vals xs us)(h':Vals ys us):xs=ys:=by
 induction h generalizing ys with
 |nil=>cases h';rfl
 |cons r t ih =>
  cases h' with
  |cons r' t'=>rw[r.inj r',ih t']
section
variable{X:Cx}{pins:List (Addr×Obj)}{σ:St}{H:Hp}{s:Shared}{a:Addr}{xs ys:List V}
theorem gx.of{K:PySem.W.Frag}(h:H a=some (.lst xs)):gx K H a xs:=.inl (.inl h)
theorem Inv.list(I:Inv X pins σ H s)(h:gx X.K H a xs):∃aT:List Value,Vals xs aT/\PlainL s.heap a aT.toArray/\xs.length<=sizeLine:=by
 rcases h with h|⟨o,aT,n,hk,hc,hd,hs,hz,r⟩
 ·obtain⟨z,aT,n,r,e⟩:=h.ok I.bG;exact⟨aT,r,⟨_,n,e,rfl,rfl,rfl⟩,z⟩
 ·refine⟨aT.toList,r,⟨o,n,I.gm a o hk,hc,hd,by simpa using hs⟩,?_⟩;have e:=r.length;simp only[Array.length_toList] at e;omega
theorem Inv.tuple(I:Inv X pins σ H s)(h:gQ X.K H a xs):∃aT:List Value,Vals xs aT/\IsTup s.heap a aT.toArray/\xs.length<=sizeLine:=by
 rcases h with h|⟨o,aT,n,hk,hc,hs,hz,r⟩
 ·obtain⟨z,aT,r,p⟩:=h.ok I.bG;exact⟨aT,r,p.tup,z⟩
 ·refine⟨aT.toList,r,⟨o,I.gm a o hk,hc,n,by simpa using hs⟩,?_⟩;have e:=r.length;simp only[Array.length_toList] at e;omega
theorem Inv.a91(I:Inv X pins σ H s)(h:gx X.K H a xs)(h':gx X.K H a ys):xs=ys:=by
 obtain⟨aT,r,⟨o,n,e,_,_,d⟩,_⟩:=I.list h;obtain⟨its',r',⟨o',n',e',_,_,d'⟩,_⟩:=I.list h';rw[e] at e';cases e';rw[d] at d';injection d' with d1 _;have:aT=its':=by simpa using fY Array.toList d1
 subst this;exact r.inj r'
theorem Inv.Zb(I:Inv X pins σ H s)(h:gQ X.K H a xs)(h':gQ X.K H a ys):xs=ys:=by
 obtain⟨aT,r,⟨o,e,_,n,d⟩,_⟩:=I.tuple h;obtain⟨its',r',⟨o',e',_,n',d'⟩,_⟩:=I.tuple h';rw[e] at e';cases e';rw[d] at d';injection d' with d1 _;have:aT=its':=by simpa using fY Array.toList d1
 subst this;exact r.inj r'
end
noncomputable abbrev Cx.Q1(X:Cx)(E:Value->Shared->Prop):Cx:={ X with xe:=E }
theorem Cx.Ok.Q1{X:Cx}(ok:X.Ok)(E:Value->Shared->Prop):(X.Q1 E).Ok :=
 ⟨ok.mod,ok.kind,ok.glob,ok.blt,ok.above,ok.inj,ok.has,ok.pT,ok.hd,ok.frames,ok.qp,ok.wt,ok.bs,ok.mW,ok.jH,ok.kz,ok.G0,ok.nB⟩
theorem Cx.Ok.yO{X:Cx}{E:Value->Shared->Prop}(ok:(X.Q1 E).Ok):X.Ok :=
 ⟨ok.mod,ok.kind,ok.glob,ok.blt,ok.above,ok.inj,ok.has,ok.pT,ok.hd,ok.frames,ok.qp,ok.wt,ok.bs,ok.mW,ok.jH,ok.kz,ok.G0,ok.nB⟩
section
variable{X:Cx}{pins:List (Addr×Obj)}{σ:St}{H:Hp}{s:Shared}{E:Value->Shared->Prop}
theorem Inv.Q1(I:Inv X pins σ H s)(E:Value->Shared->Prop):Inv (X.Q1 E) pins σ H s:=⟨I.ok.Q1 E,I.os,I.bare,I.base,I.loc,I.cell,I.free,I.eR,I.pin,I.bG,I.len⟩
theorem Inv.yO(I:Inv (X.Q1 E) pins σ H s):Inv X pins σ H s:=⟨I.ok.yO,I.os,I.bare,I.base,I.loc,I.cell,I.free,I.eR,I.pin,I.bG,I.len⟩
end
section
variable{X:Cx}{st:Stmt}{rest:List Stmt}{t u:TS}{e:Expr}{te:TE}{pos:Pos}
def Hi:TS:=λD σ H=>D.nx σ H
def UK(t u:TS):TS:=λD σ H=>t { D with nx:=u D } σ H
theorem RH:jb X [] Hi:=λ_ _ σ H _ I h=>tY ⟨σ,H,I,h⟩
theorem a62(h1:PS X st t)(h2:jb X rest u):jb X (st::rest) (UK t u):=by
 intro pins s σ H D I h;refine wpAny_execs_cons (cw (h1 pins s σ H { D with nx:=u D } I h) λf s1 q=>?_);cases f with
 |next =>
  obtain⟨cj,H',I',q⟩:=q;exact h2 pins s1 cj H' D I' q
 |ret v=>exact q
 |brk=>exact q
 |cont=>exact q
theorem RD:PS X (.Pass pos) Hi:=λ_ _ σ H _ I h=>wpAny_Pass ⟨σ,H,I,h⟩
theorem Inv.quiet{pins:List (Addr×Obj)}{σ:St}{H:Hp}{s:Shared}(I:Inv X pins σ H s):interactive X.env=false:=by simp[interactive,I.ok.kind]
def WC(te:TE):TS:=λD σ H=>te σ H λ_ H1=>D.nx σ H1
theorem RC(he:PE X e te)(hs:swapsWith e none pos.line X.env=pure false:=by rfl):PS X (.Expr e pos) (WC te):=by
 intro pins s σ H D I h;exact wpAny_Expr_any (cw (he pins s σ H _ I h) λv s1 ⟨x,H1,I1,r1,q1⟩=>⟨σ,H1,I1,q1⟩) I.quiet hs
def UJ(te:TE):TS:=λD σ H=>te σ H D.rt
theorem OX(he:PE X e te):PS X (.Return (some e) pos) (UJ te):=by
 intro pins s σ H D I h;exact wpAny_Return_some (cw (he pins s σ H _ I h) λv s1 ⟨x,H1,I1,r1,q1⟩=>⟨x,σ,H1,I1,r1,q1⟩)
def WG:TS:=λD _ H=>D.rt .aQ H
theorem RG:PS X (.Return none pos) WG:=λ_ _ σ H _ I h=>wpAny_Return_none ⟨.aQ,σ,H,I,rfl,h⟩
def UD(c:TT)(t u:TS):TS:=λD σ H=>c σ H λb H1=>if b=true then t D σ H1 else u D σ H1
theorem Wh{c:Expr}{a b:List Stmt}{tc:TT}(hc:PT X c tc)(ha:jb X a t)(hb:jb X b u):PS X (.If c a b pos) (UD tc t u):=by
 intro pins s σ H D I h;refine wpAny_If (cw (hc pins s σ H _ I h) λd s1 ⟨H1,I1,q1⟩=>?_);cases d with
 |true=>exact ha pins s1 σ H1 D I1 q1
 |false=>exact hb pins s1 σ H1 D I1 q1
end
noncomputable abbrev TG:=V->St->Hp->(St->Hp->Prop)->Prop
noncomputable abbrev pZ:=List V->St->Hp->(St->Hp->Prop)->Prop
def PG(X:Cx)(target:Expr)(t:TG):Prop :=
 ∀(pins:List (Addr×Obj)) (s:Shared) (σ:St) (H:Hp) (v:V) (u:Value) (Q:St->Hp->Prop),Inv X pins σ H s->RelV v u->t v σ H Q ->
  wpAny (model X.prog X.w) X.A (assign target X.env u) (λ_ s'=>∃cj H',Inv X pins cj H' s'/\Q cj H') X.xe s
def xk(X:Cx)(ts:List Expr)(t:pZ):Prop :=
 ∀(pins:List (Addr×Obj)) (s:Shared) (σ:St) (H:Hp) (vs:List V) (us:List Value) (Q:St->Hp->Prop),Inv X pins σ H s->Vals vs us->t vs σ H Q ->
  wpAny (model X.prog X.w) X.A (assignInOrder ((assignEach ts X.env).map (·.2)) us) (λ_ s'=>∃cj H',Inv X pins cj H' s'/\Q cj H') X.xe s
noncomputable abbrev BR:=V->V->V->Hp->(Hp->Prop)->Prop
def BQ(X:Cx)(t:BR):Prop :=
 ∀(pins:List (Addr×Obj)) (s:Shared) (σ:St) (H:Hp) (o i v:V) (ov iv u:Value) (Q:Hp->Prop),Inv X pins σ H s->RelV o ov->RelV i iv->RelV v u->t o i v H Q ->
  wpAny (model X.prog X.w) X.A (setItem ov iv u) (λ_ s'=>∃H',Inv X pins σ H' s'/\Q H') X.xe s
noncomputable abbrev Eo:=V->V->Hp->VK->Prop
def Lf(X:Cx)(op:Operator)(t:Eo):Prop :=
 ∀(pins:List (Addr×Obj)) (s:Shared) (σ:St) (H:Hp) (x y:V) (v u:Value) (Q:VK),Inv X pins σ H s->RelV x v->RelV y u->t x y H Q ->
  wpAny (model X.prog X.w) X.A (inplaceOp op v u) (EP X pins σ Q) X.xe s
section
variable{X:Cx}{pos:Pos}
def tQ(i:Nat):TG:=λv σ H Q=>Q (σ.set i (some v)) H
theorem JT{i:Nat}{x:Str}(hN:X.N.Nodup)(hi:X.N[i]?=some x)(hx:Loc X.env.scope x)(hf:X.fn x=true\/X.env.scope.names.lookup x=some .local:=by first|exact .inl rfl|exact .inr rfl|assumption):PG X (.Name x pos) (tQ i):=by
 intro pins s σ H v u Q I r h;exact wpAny_assign_Name (S4 I hN hi hx r (λs' I'=>⟨_,H,I',h⟩) hf)
def Hz:pZ:=λvs σ H Q=>vs=[]/\Q σ H
def GO(t:TG)(u:pZ):pZ:=λvs σ H Q=>∃v r,vs=v::r/\t v σ H λcj H'=>u r cj H' Q
theorem Rz:xk X [] Hz:=by
 intro pins s σ H vs us Q I r h;obtain⟨e,h⟩:=h;subst e;cases r;exact assignInOrder_nil ⟨σ,H,I,h⟩
theorem a66{e:Expr}{es:List Expr}{t:TG}{u:pZ}(h1:PG X e t)(h2:xk X es u)(hs:(assignEach (e::es) X.env).map (·.2)=assign e X.env::(assignEach es X.env).map (·.2):=by rfl):xk X (e::es) (GO t u):=by
 intro pins s σ H vs us Q I r h;obtain⟨v,vr,e1,h⟩:=h;subst e1;cases r with
 |cons r rr =>
  rw[hs];refine xp (cw (h1 pins s σ H _ _ _ I r h) λ_ s1 bh=>?_);obtain⟨iP,H1,I1,q1⟩:=bh;exact h2 pins s1 iP H1 _ _ Q I1 rr q1
def Ts(K:PySem.W.Frag)(n:Nat)(t:pZ):TG:=λv σ H Q=>∃a xs,v=.ref a/\gQ K H a xs/\xs.length=n/\t xs σ H Q
theorem OR{es:List Expr}{k:Nat}{t:pZ}{n:Nat}(hc:X.calm=true)(h:xk X es t)(hn:(assignEach es X.env).length=n:=by rfl)(eJ:(assignEach es X.env).findIdx? (·.1)=none:=by rfl):PG X (.Tuple es k pos) (Ts X.K n t):=by
 intro pins s σ H v u Q I r hw;obtain⟨a,xs,e1,hq,hl,hw⟩:=hw;subst e1;cases r;obtain⟨aT,rv,ht,hz⟩:=I.tuple hq;refine assign_Tuple_tuple (I.ok.hd hc) ht (by simp[hn,<- hl,rv.length]) eJ λh' hx=>?_;have I1:Inv X pins σ H { s with heap:=h' }:=I.kept (t':=s.toks) λb o e=>hx b o (aR (aB e)) e;exact h pins _ σ H xs _ Q I1 (by simpa using rv) hw
def Tr(to ti:TE)(t:BR):TG:=λv σ H Q=>to σ H λo H1=>ti σ H1 λi H2=>t o i v H2 λH3=>Q σ H3
theorem OQ{o i:Expr}{to ti:TE}{t:BR}(ho:PE X o to)(hi:PE X i ti)(hs:BQ X t)(ha:∀ v,assign (.Subscript o i pos) X.env v=(do
   let ov <- holding [v] (eval o X.env)
   let iv <- holding [v,ov] (eval i X.env)
   standAt pos
   holding [v,ov,iv] (setItem ov iv v)
   release [v,ov,iv] []):=by intro _;rfl):PG X (.Subscript o i pos) (Tr to ti t):=by
 intro pins s σ H v u Q I r h;rw[ha];refine aa (bq (cw (ho pins s σ H _ I h) λov s1 bh=>?_));obtain⟨x,H1,I1,r1,q1⟩:=bh;refine aa (bq (cw (hi pins s1 σ H1 _ I1 q1) λiv s2 bh=>?_));obtain⟨y,H2,I2,r2,q2⟩:=bh;refine aa (iE (aa (bq (cw (hs pins s2 σ H2 x y v ov iv u _ I2 r1 r2 r q2) λ_ s3 ⟨H3,I3,q3⟩=>?_))));exact wpAny_release ⟨σ,H3,I3,q3⟩
def xh(te:TE)(g:TG):TS:=λD σ H=>te σ H λx H1=>g x σ H1 D.nx
theorem Jh{tg e:Expr}{te:TE}{g:TG}(he:PE X e te)(hg:PG X tg g)(hs:swapsWithSole [tg] e pos.line X.env=pure false:=by rfl)(hw:swappedStores [tg] e X.env=pure none:=by rfl)(h1:(assignEach [tg] X.env).map (·.2)=[assign tg X.env]:=by rfl):PS X (.Assign [tg] e pos) (xh te g):=by
 intro pins s σ H D I h;refine wpAny_Assign_stores (cw (he pins s σ H _ I h) λv s1 bh=>?_) hs hw;obtain⟨x,H1,I1,r1,q1⟩:=bh;rw[h1];exact cw (hg pins s1 σ H1 x v _ I1 r1 q1) λ_ s2 q=>q
theorem Ji{i:Nat}{x:Str}{e:Expr}{te:TE}{pos':Pos}(hN:X.N.Nodup)(hi:X.N[i]?=some x)(hx:Loc X.env.scope x)(he:PE X e te)(hs:swapsWith e (some (.Name x pos')) pos.line X.env=pure false:=by rfl)(hf:X.fn x=true\/X.env.scope.names.lookup x=some .local:=by first|exact .inl rfl|exact .inr rfl|assumption) :
  PS X (.Assign [.Name x pos'] e pos) (xh te (tQ i)):=by
 intro pins s σ H D I h;refine wpAny_Assign_Name (cw (he pins s σ H _ I h) λv s1 bh=>?_) hs;obtain⟨y,H1,I1,r1,q1⟩:=bh;exact S4 I1 hN hi hx r1 (λs2 I2=>⟨_,H1,I2,q1⟩) hf
def UI(i j:Nat)(ta:TA):TS:=λD σ H=>ta σ H λvs H1=>∃v w,vs=[v,w]/\D.nx ((σ.set i (some v)).set j (some w)) H1
theorem OW{i j:Nat}{x y:Str}{a b:Expr}{ta:TA}{px py pt:Pos}{kt k2 pB}(hc:X.calm=true)(hN:X.N.Nodup)(hi:X.N[i]?=some x)(hj:X.N[j]?=some y)(gX:i≠j)(hx:X.env.scope.names.lookup x=some .local)(hy:X.env.scope.names.lookup y=some .local)(ha:PA X [a,b] ta)(hw:swappedStores [.Tuple [.Name x px,.Name y py] kt pt] (.Tuple [a,b] k2 pB) X.env=pure (some [x,y]))(hs:swapsWithSole [.Tuple [.Name x px,.Name y py] kt pt] (.Tuple [a,b] k2 pB) pos.line X.env=pure false:=by rfl) :
  PS X (.Assign [.Tuple [.Name x px,.Name y py] kt pt] (.Tuple [a,b] k2 pB) pos) (UI i j ta):=by
 intro pins s σ H D I h;rw[exec_Assign_arm];refine aa (iE ?_);rw[hs];refine aa (ah ?_);rw[ax (by decide)];refine aa (Tuple_ (cw (ha _ pins s σ H _ I h) λus s1 bh=>?_));obtain⟨vs,H1,I1,r1,q1⟩:=bh;obtain⟨v,w,e1,q1⟩:=q1;subst e1;obtain⟨u1,u2,rfl,rv,fT⟩:∃u1 u2,us=[u1,u2]/\RelV v u1/\RelV w u2:=by
  cases r1 with
  |cons p q =>
   cases q with
   |cons p' q' =>
    cases q';exact⟨_,_,rfl,p,p'⟩
 refine bT ?_ (by show 2<=sizeLine;decide);have I2:Inv X pins σ H1 { s1 with heap:=s1.heap.push { cls:=.type "tuple",data:=.seq [u1,u2].toArray } }:=I1.kept (t':=s1.toks) λb o e=>ai _ e;rw[hw];refine aa (ah ?_);show wpAny (model X.prog X.w) X.A (do rule "assign.swapped-stores";let items <- unpackItems (.ref s1.heap.objs.size) 2 none;assignInOrder [λv=>bindName X.env y v,λv=>bindName X.env x v] items.reverse;pure Flow.next) _ _ _;refine aa (fN (aa (unpackItems_tuple (items:=#[u1,u2]) (I.ok.hd hc) (IsTup.new s1.heap _) λh' uZ=>?_)));have I3:=I2.kept (h':=h') (t':=s1.toks) λb o e=>uZ b o (aR (aB e)) e;show wpAny _ _ (assignInOrder [λv=>bindName X.env y v,λv=>bindName X.env x v] [u2,u1] >>= λ_=>pure Flow.next) _ _ _;refine aa (xp (wpAny_bindName (S4 I3 hN hj (.inl hy) fT (λs2 I4=>?_) (.inr hy))));refine xp (wpAny_bindName (S4 I4 hN hi (.inl hx) rv (λs3 I5=>assignInOrder_nil (ah ?_)) (.inr hx)));rw[List.set_comm _ _ (aL gX)] at I5;exact⟨_,H1,I5,q1⟩
def Uz(i:Nat)(te:TE)(ti:Eo):TS:=λD σ H=>∃x,σ[i]?=some (some x)/\te σ H λy H1=>ti x y H1 λz H2=>D.nx (σ.set i (some z)) H2
theorem OT{i:Nat}{x:Str}{e:Expr}{te:TE}{op:Operator}{ti:Eo}{pos':Pos}(hN:X.N.Nodup)(hi:X.N[i]?=some x)(hx:Loc X.env.scope x)(he:PE X e te)(ho:Lf X op ti)(hf:X.fn x=true\/X.env.scope.names.lookup x=some .local:=by first|exact .inl rfl|exact .inr rfl|assumption) :
  PS X (.AugAssign (.Name x pos') op e pos) (Uz i te ti):=by
 intro pins s σ H D I h;obtain⟨v,e1,h⟩:=h;obtain⟨m,hn,hl⟩:=I.loc;have qm:sf X.env.scope x:=by rcases hx with k|k;exact .inl k;exact .inr (.inl k)
 obtain⟨u,r,l⟩:=hl i x v hi e1 qm;refine wpAny_AugAssign_Name ?_;have go:wpAny (model X.prog X.w) X.A (eval e X.env) (λw iu=>wpAny (model X.prog X.w) X.A (inplaceOp op u w) (λr gW=>wpAny (model X.prog X.w) X.A (storeName X.env x r) (λ_=>SP X pins D .next) X.xe gW) X.xe iu) X.xe s:=by
  refine cw (he pins s σ H _ I h) λw s1 bh=>?_;obtain⟨y,H1,I1,r1,q1⟩:=bh;refine cw (ho pins s1 σ H1 v y u w _ I1 r r1 q1) λz s2 bh=>?_;obtain⟨zv,H2,I2,r2,q2⟩:=bh;exact S4 I2 hN hi hx r2 (λs3 I3=>⟨_,H2,I3,q2⟩) hf
 rcases l with⟨hk,hm⟩|⟨hk,c,hc,kJ⟩
 ·exact wpAny_loadName_local I.ok.kind hk hn hm go
 ·rcases hk with hk|hk
  ·exact wpAny_loadName_cell I.ok.kind hk hc kJ go
  ·rcases hx with k|k
   ·have:X.env.scope.names.lookup x=some .free:=hk;rw[k] at this;cases this
   ·have:X.env.scope.names.lookup x=some .free:=hk;rw[k] at this;cases this
end
section
variable{X:Cx}{pos:Pos}
end
structure It where
 go:Nat->Hp->Prop
 uj:Nat->Hp->V->Hp->Prop
 stop:Nat->Hp->Prop
def M9(X:Cx)(pins:List (Addr×Obj))(H:Hp)(b:Addr):Prop :=
 H b=none/\b≠X.env.locals/\b∉X.fs/\(b∈X.ex\/X.dz.heap.objs.size<=b)/\(∀x c,X.env.cells.lookup x=some c->c≠b)/\∀p∈X.pn++pins,p.1≠b
theorem Inv.tG{X:Cx}{pins:List (Addr×Obj)}{σ:St}{H H':Hp}{s:Shared}{b:Addr}(I:Inv X pins σ H s)(hb:s.heap.objs.size<=b)(hn:H' b=none):M9 X pins H' b:=by
 refine⟨hn,cB (av I.lt hb),I.zu hb,.inr (aM I.sz hb),λx c e z=>?_,λp hp z=>?_⟩
 ·obtain⟨v,q⟩:=I.cell x c e;exact absurd (av q.lt (by rw[z];exact hb)) (bL _)
 ·exact absurd (av (aB (I.pin p hp).1) (by rw[z];exact hb)) (bL _)
structure Turn(P:Program)(w:World)(K:PySem.W.Frag)(tg:Expr)(J:It)(fp:List Addr)(it:Addr)(tn:Nat->Heap->Prop):Prop where
 mem:it∈fp
 obj:∀i h,tn i h->∀b∈fp,∃o,h.get? b=some o/\∀v,o.data≠.cell v
 keep:∀i h h',tn i h->(∀b∈fp,∀o,h.get? b=some o->h'.get? b=some o)->tn i h'
 item:∀(X:Cx),X.prog=P->X.w=w->X.K=K->X.calm=true->∀(i:Nat) (pins:List (Addr×Obj)) (s:Shared) (σ:St) (H:Hp) (E:Value->Shared->Prop),Inv X pins σ H s->(∀b∈fp,M9 X pins H b)->tn i s.heap->J.go i H ->
  wpAny (model P w) X.A (pyNext (.ref it)) (λr s1=>∃ u,r=some u /\
   wpAny (model P w) X.A (letOwnedTupleGo tg (.ref it) u) (λ_ s2=>∃ x H',Inv X pins σ H' s2/\RelV x u/\J.uj i H x H'/\tn (i + 1) s2.heap/\∀ b ∈ fp,H' b=none) E s1) E s
 done:∀(X:Cx),X.prog=P->X.w=w->X.K=K->X.calm=true->∀(i:Nat) (pins:List (Addr×Obj)) (s:Shared) (σ:St) (H:Hp) (E:Value->Shared->Prop),Inv X pins σ H s->(∀b∈fp,M9 X pins H b)->tn i s.heap->J.stop i H ->
  wpAny (model P w) X.A (pyNext (.ref it)) (λr s1=>r=none/\Inv X pins σ H s1) E s
 self:∀(A:Around) (i:Nat) (s:Shared) (Q:Value->Shared->Prop) (E:Value->Shared->Prop),tn i s.heap->Q (.ref it) s->wpAny (model P w) A (pyIter (.ref it)) Q E s
noncomputable abbrev TI:=St->Hp->(It->Hp->Prop)->Prop
def Lg(X:Cx)(pins:List (Addr×Obj))(σ:St)(tg:Expr)(R:It->Hp->Prop)(uW:Value)(s2:Shared):Prop :=
 ∃(it:Addr) (fp:List Addr) (tn:Nat->Heap->Prop) (J:It) (H':Hp),uW=.ref it/\Inv X pins σ H' s2/\Turn X.prog X.w X.K tg J fp it tn/\tn 0 s2.heap/\(∀b∈fp,M9 X pins H' b)/\R J H'
def PI(X:Cx)(tg iter:Expr)(wi:TI):Prop :=
 ∀(pins:List (Addr×Obj)) (s:Shared) (σ:St) (H:Hp) (R:It->Hp->Prop),Inv X pins σ H s->wi σ H R ->
  wpAny (model X.prog X.w) X.A (eval iter X.env) (λv s1=>wpAny (model X.prog X.w) X.A (pyIter v) (Lg X pins σ tg R) X.xe s1) X.xe s
theorem DA{M:Model}{A:Around}{E:Value->Shared->Prop}{s:Shared}{tg:Expr}{it:Addr}{u:Value}{o:Obj}{n:String}{vs:Array Value}{Q:Unit->Shared->Prop}(ho:s.heap.get? it=some o)(hc:o.cls=.type n)(hd:o.data=.fields vs)(hn:["enumerate","zip","dict_itemiterator","dict_reverseitemiterator","odict_iterator","itertools.zip_longest","itertools.pairwise"].contains n=false)(hQ:Q () s):wpAny M A (letOwnedTupleGo tg (.ref it) u) Q E s:=by
  unfold letOwnedTupleGo;cases tg<;>first
    |exact ah hQ
    | (cases u <;> first
        |exact ah hQ
        | (refine aa (wpAny_load ho ?_)
           rw[hc,hd];show wpAny M A (if(["enumerate","zip","dict_itemiterator","dict_reverseitemiterator","odict_iterator","itertools.zip_longest","itertools.pairwise"].contains n&&vs[0]?==some (rawInt _))=true then _ else _) Q E s;rw[ax (by intro h;rw[hn,Bool.false_and] at h;cases h)];exact ah hQ))
def Es(K:PySem.W.Frag)(a:Addr):It :=
 ⟨λi H=>∃xs x,gx K H a xs/\xs[i]?=some x,λi H x H'=>H'=H/\∀xs,gx K H a xs->xs[i]?=some x,λi H=>∃xs,gx K H a xs/\xs.length<=i⟩
def Er(K:PySem.W.Frag)(a:Addr):It :=
 ⟨λi H=>∃xs x,gQ K H a xs/\xs[i]?=some x,λi H x H'=>H'=H/\∀xs,gQ K H a xs->xs[i]?=some x,λi H=>∃xs,gQ K H a xs/\xs.length<=i⟩
def xn(lo:Int)(n:Nat):It:=⟨λi _=>i<n,λi H x H'=>H'=H/\x=.int (lo+i),λi _=>n<=i⟩
theorem Zd{P:Program}{w:World}{K:PySem.W.Frag}{tg:Expr}(a it:Addr):Turn P w K tg (Es K a) [it] it (λi h=>h.IsListIter it a i) where
 mem:=by simp
 obj:=λi h st b hb=>by
  have e:b=it:=by simpa using hb
  subst e;obtain⟨o,e,c,d⟩:=st;exact⟨o,e,λv z=>by rw[d] at z;cases z⟩
 keep:=λi h h' st k=>st.at λo e=>k it (by simp) o e
 item:=by
  intro X hP hw hK hc i pins s σ H E I hf st hg;subst hP hw hK;obtain⟨xs,x,hq,hx⟩:=hg;obtain⟨aT,rv,p,hz⟩:=I.list hq;obtain⟨u,hu,ru⟩:=rv.get hx;obtain⟨f0,f1,f2,f3,f4,f5⟩:=hf it (by simp);refine wpAny_pyNext_list_item st p.isList (x:=u) (by simpa using hu) λh' nh sb=>?_;have I1:Inv X pins σ H { s with heap:=h' }:=I.turned (t':=s.toks) (λb o hb e=>(sb.2 b hb).trans e) f0 f1 f3 f4 f5;obtain⟨o,e,c,d⟩:=id nh;exact⟨u,rfl,DA (s:={ s with heap:=h' }) e c d (by decide) ⟨x,H,I1,ru,⟨rfl,λys hy=>by rw[I.a91 hy hq];exact hx⟩,nh,λb hb=>(hf b hb).1⟩⟩
 done:=by
  intro X hP hw hK hc i pins s σ H E I hf st hg;subst hP hw hK;obtain⟨xs,hq,hx⟩:=hg;obtain⟨aT,rv,p,hz⟩:=I.list hq;obtain⟨f0,f1,f2,f3,f4,f5⟩:=hf it (by simp);have hl:=rv.length;exact wpAny_pyNext_list_end (I.ok.hd hc) st p.isList (by simp;omega) λh' eb=>⟨rfl,I.turned (t':=s.toks) (λb o hb e=>eb b o hb e) f0 f1 f3 f4 f5⟩
 self:=λ_ _ _ _ _ st h=>wpAny_pyIter_listiter st h
theorem ZL{P:Program}{w:World}{K:PySem.W.Frag}{tg:Expr}(a it:Addr):Turn P w K tg (Er K a) [it] it (λi h=>h.IsTupleIter it a i) where
 mem:=by simp
 obj:=λi h st b hb=>by
  have e:b=it:=by simpa using hb
  subst e;obtain⟨o,e,c,d⟩:=st;exact⟨o,e,λv z=>by rw[d] at z;cases z⟩
 keep:=λi h h' st k=>st.at λo e=>k it (by simp) o e
 item:=by
  intro X hP hw hK hc i pins s σ H E I hf st hg;subst hP hw hK;obtain⟨xs,x,hq,hx⟩:=hg;obtain⟨aT,rv,p,hz⟩:=I.tuple hq;obtain⟨u,hu,ru⟩:=rv.get hx;obtain⟨f0,f1,f2,f3,f4,f5⟩:=hf it (by simp);refine wpAny_pyNext_tuple_item st (show s.heap.IsTuple a aT.toArray from p) (x:=u) (by simpa using hu) λh' nh sb=>?_;have I1:Inv X pins σ H { s with heap:=h' }:=I.turned (t':=s.toks) (λb o hb e=>(sb.2 b hb).trans e) f0 f1 f3 f4 f5;obtain⟨o,e,c,d⟩:=id nh;exact⟨u,rfl,DA (s:={ s with heap:=h' }) e c d (by decide) ⟨x,H,I1,ru,⟨rfl,λys hy=>by rw[I.Zb hy hq];exact hx⟩,nh,λb hb=>(hf b hb).1⟩⟩
 done:=by
  intro X hP hw hK hc i pins s σ H E I hf st hg;subst hP hw hK;obtain⟨xs,hq,hx⟩:=hg;obtain⟨aT,rv,p,hz⟩:=I.tuple hq;obtain⟨f0,f1,f2,f3,f4,f5⟩:=hf it (by simp);have hl:=rv.length;exact wpAny_pyNext_tuple_end (I.ok.hd hc) st (show s.heap.IsTuple a aT.toArray from p) (by simp;omega) λh' eb=>⟨rfl,I.turned (t':=s.toks) (λb o hb e=>eb b o hb e) f0 f1 f3 f4 f5⟩
 self:=λ_ _ _ _ _ st h=>wpAny_pyIter_tupleiter st h
theorem ZK{P:Program}{w:World}{K:PySem.W.Frag}{tg:Expr}(it:Addr)(lo:Int)(n:Nat):Turn P w K tg (xn lo n) [it] it (λi h=>IsRangeIter h it (lo+(i:Nat)*1) ((n:Int)-(i:Nat)) 1) where
 mem:=by simp
 obj:=λi h st b hb=>by
  have e:b=it:=by simpa using hb
  subst e;exact ⟨_,st,λv z=>by
   have z':Data.fields _=Data.cell v:=z;cases z'⟩
 keep:=λi h h' st k=>k it (by simp) _ st
 item:=by
  intro X hP hw hK hc i pins s σ H E I hf st hg;subst hP hw hK;obtain⟨f0,f1,f2,f3,f4,f5⟩:=hf it (by simp);have W:=Walks.range (prog:=X.prog) (w:=X.w) (I.ok.hd hc) it lo 1 n;refine W.item i s _ _ hg st λv h' tk hv nh kk=>?_;obtain⟨t,rfl⟩:=hv;have I1:Inv X pins σ H { s with heap:=h',toks:=tk }:=I.turned (λb o hb e=>kk b o (by simpa using hb) e) f0 f1 f3 f4 f5;refine⟨_,rfl,DA (s:={ s with heap:=h',toks:=tk }) (n:="range_iterator") nh rfl rfl (by decide) ⟨.int (lo+i),H,I1,⟨t,?_⟩,⟨rfl,rfl⟩,nh,λb hb=>(hf b hb).1⟩⟩;rw[Int.mul_one]
 done:=by
  intro X hP hw hK hc i pins s σ H E I hf st hg;subst hP hw hK;obtain⟨f0,f1,f2,f3,f4,f5⟩:=hf it (by simp);exact wpAny_pyNext_range_end (I.ok.hd hc) st (by have:n<=i:=hg;omega) λh' eb=>⟨rfl,I.turned (t':=s.toks) (λb o hb e=>eb b o hb e) f0 f1 f3 f4 f5⟩
 self:=λ_ _ _ _ _ st h=>wpAny_pyIter_rangeiter st h
section
variable{X:Cx}{tg:Expr}
theorem KI{pins:List (Addr×Obj)}{σ:St}{H:Hp}{s:Shared}{R:It->Hp->Prop}{E:Value->Shared->Prop}{lo hi:Int}{t u v:Tok}{tk:Nat}(I:Inv X pins σ H s)(h1:-(2 ^ 62)<=lo)(h2:lo<2 ^ 62)(h3:-(2 ^ 62)<=hi)(h4:hi<2 ^ 62)(q:R (xn lo (hi-lo).toNat) H):wpAny (model X.prog X.w) X.A (pyIter (.ref s.heap.objs.size)) (Lg X pins σ tg R) E { s with heap:=s.heap.push { cls:=.type "range",data:=.fields #[.int lo t,.int hi u,.int 1 v] },toks:=tk }:=by
 refine wpAny_pyIter_range (IsRange.new ..) (small_one h1 h2 h3 h4) ?_;have I1:Inv X pins σ H { s with heap:=s.heap.push { cls:=.type "range",data:=.fields #[.int lo t,.int hi u,.int 1 v] },toks:=tk }:=I.kept λb o e=>ai _ e;refine ⟨(s.heap.push { cls:=.type "range",data:=.fields #[.int lo t,.int hi u,.int 1 v] }).objs.size,[(s.heap.push { cls:=.type "range",data:=.fields #[.int lo t,.int hi u,.int 1 v] }).objs.size],_,_,H,rfl,
  I1.kept (t':=tk) λb o e=>ai _ e,ZK _ lo (hi - lo).toNat,?_,λb hb=>?_,q⟩
 ·have e1:lo+((0:Nat):Int)*1=lo:=by simp
  have e2:(((hi-lo).toNat:Nat):Int)-((0:Nat):Int)=Builtin.Range.rangeSize lo hi 1:=by rw[rangeSize_one];split<;>omega
  show IsRangeIter _ _ (lo+((0:Nat):Int)*1) ((((hi-lo).toNat:Nat):Int)-((0:Nat):Int)) 1;rw[e1,e2];exact aF _ rfl
 ·have e:b=(s.heap.push { cls:=.type "range",data:=.fields #[.int lo t,.int hi u,.int 1 v] }).objs.size:=by simpa using hb
  subst e;exact I1.tG (aj _) (I1.bG.fresh (aj _))
def VA(ta:TA):TI:=λσ H R=>ta σ H λvs H1=>∃j:Int,vs=[.int j]/\-(2 ^ 62)<=j/\j<2 ^ 62/\R (xn 0 j.toNat) H1
def VB(ta:TA):TI:=λσ H R=>ta σ H λvs H1=>∃i j:Int,vs=[.int i,.int j]/\(-(2 ^ 62)<=i/\i<2 ^ 62/\-(2 ^ 62)<=j/\j<2 ^ 62)/\R (xn i (j-i).toNat) H1
theorem YI{a:Expr}{ta:TA}{p pos:Pos}(hg:Gl X "range")(hm:X.mg "range"=none)(ha:PA X [a] ta)(hs:starEach [a] X.env=[(false,eval a X.env)]:=by rfl):PI X tg (.Call (.Name "range" p) [a] [] pos) (VA ta):=by
 intro pins s σ H R I h;refine Call_ (T9 I hg hm boot_range (cG (cw (ha pos pins s σ H _ I h) λus s1 bh=>?_) hs rfl));obtain⟨vs,H1,I1,r1,q1⟩:=bh;obtain⟨j,e,q1,q2,q⟩:=q1;subst e;cases r1 with
 |cons r rr =>
  cases rr;obtain⟨t,rfl⟩:=r;exact call_range_1 (KI I1 (by omega) (by omega) q1 q2 (by simpa using q))
theorem YJ{a b:Expr}{ta:TA}{p pos:Pos}(hg:Gl X "range")(hm:X.mg "range"=none)(ha:PA X [a,b] ta)(hs:starEach [a,b] X.env=[(false,eval a X.env),(false,eval b X.env)]:=by rfl)(jZ:starEach [b] X.env=[(false,eval b X.env)]:=by rfl) :
  PI X tg (.Call (.Name "range" p) [a,b] [] pos) (VB ta):=by
 intro pins s σ H R I h;refine Call_ (T9 I hg hm boot_range (cG (cw (ha pos pins s σ H _ I h) λus s1 bh=>?_) (by rw[hs,jZ]) (by rw[jZ];rfl)));obtain⟨vs,H1,I1,r1,q1⟩:=bh;obtain⟨i,j,e,⟨q1,q2,q3,q4⟩,q⟩:=q1;subst e;cases r1 with
 |cons r rr =>
  cases rr with
  |cons r' rr =>
   cases rr;obtain⟨t,rfl⟩:=r;obtain⟨t',rfl⟩:=r';exact call_range_2 (KI I1 q1 q2 q3 q4 q)
def UC(wi:TI)(g:TG)(tb:TS):TS:=λD σ H=>wi σ H λJ H1=>∃W:Nat->Nat->St->Hp->Prop,(∃m,W 0 m σ H1)/\∀i m σ H,W i m σ H ->
 (J.stop i H/\D.nx σ H)\/(J.go i H/\∃N:St->Hp->Prop,(∀cj H',N cj H'->∃m',m'<m/\W (i+1) m' cj H')/\∀x H',J.uj i H x H'->g x σ H' λde H2=>tb { D with nx:=N,ct:=N,bk:=D.nx } de H2)
def wZ(fp:List Addr)(h:Heap):List (Addr×Obj):=fp.filterMap λb=>(h.get? b).map λo=>(b,o)
theorem Dq{fp:List Addr}{h:Heap}{b:Addr}{o:Obj}(hb:b∈fp)(e:h.get? b=some o):(b,o)∈wZ fp h:=gg.mpr ⟨b,hb,by rw[e];rfl⟩
theorem Yw{fp:List Addr}{h:Heap}{p:Addr×Obj}(hp:p∈wZ fp h):p.1∈fp/\h.get? p.1=some p.2:=by
 obtain⟨b,hb,e⟩:=gg.mp hp;cases q:h.get? b with
 |none=>rw[q] at e;cases e
 |some o =>
  rw[q] at e;have e':(b,o)=p:=aO e;subst e';exact⟨hb,q⟩
theorem Inv.pinned{pins:List (Addr×Obj)}{σ:St}{H:Hp}{s:Shared}{fp:List Addr}(I:Inv X pins σ H s)(hf:∀b∈fp,M9 X pins H b)(ho:∀b∈fp,∃o,s.heap.get? b=some o/\∀v,o.data≠.cell v):Inv X (pins++wZ fp s.heap) σ H s :=
 I.Y4 λp hp=>(bN.mp hp).elim (λz=>I.pin p (bP _ z)) λz=>by
  obtain⟨hb,e⟩:=Yw z;obtain⟨f0,f1,f2,_⟩:=hf p.1 hb;obtain⟨o,e',d⟩:=ho p.1 hb;rw[e] at e';cases e';exact⟨e,f0,f1,f2,d⟩
theorem Inv.CL{pins pl:List (Addr×Obj)}{σ:St}{H:Hp}{s:Shared}(I:Inv X (pins++pl) σ H s):Inv X pins σ H s:=I.Y4 λp hp=>I.pin p (bP _ (fA _ hp))
theorem OV{iter:Expr}{body:List Stmt}{wi:TI}{g:TG}{tb:TS}{pos:Pos}(hp:PassesOwn (model X.prog X.w) X.A X.env X.xe)(hc:X.calm=true)(hi:PI X tg iter wi)(hg:PG X tg g)(hb:jb X body tb)(hs:∀x,foldedSetIterable iter X.env x=pure x:=by intro _;rfl):PS X (.For tg iter body [] pos) (UC wi g tb):=by
 intro pins s σ H D I h;refine wpAny_For (cw (hi pins s σ H _ I h) λv s1 h1=>cw h1 λuW s2 h2=>?_) hs;obtain⟨it,fp,tn,J,H2,e,I2,T,nW,f2,W,⟨m0,w0⟩,turn⟩:=h2;subst e;have qr:∀{H':Hp},(∀b∈fp,H' b=none)->∀b∈fp,M9 X pins H' b:=λhn b hb=>⟨hn b hb,(f2 b hb).2⟩
 refine codeAny_forLoop_any (λn s'=>∃i cj H',Inv X pins cj H' s'/\tn i s'.heap/\(∀b∈fp,H' b=none)/\W i n cj H') ?_ m0 ⟨0,σ,H2,I2,nW,λb hb=>(f2 b hb).1,w0⟩;rintro n s3 ⟨i,lL,H3,I3,uy,wo,w3⟩;rcases turn i n lL H3 w3 with⟨stop,qn⟩|⟨go,N,hN,step⟩
 ·refine gA hp (cw (T.done X rfl rfl rfl hc i pins s3 lL H3 X.xe I3 (qr wo) uy stop) λr s4 ⟨hr,I4⟩=>?_);subst hr;exact tY ⟨lL,H3,I4,qn⟩
 ·refine gA hp (cw (T.item X rfl rfl rfl hc i pins s3 lL H3 X.xe I3 (qr wo) uy go) λr s4 ⟨u,hr,h4⟩=>?_);subst hr;refine gA hp (cw h4 λ_ s5 bh=>?_);obtain⟨x,H5,I5,r5,y5,qt,BD⟩:=bh;have Et:=I5.pinned (qr BD) (T.obj _ _ qt);refine gA hp (cw (hg _ s5 lL H5 x u _ Et r5 (step x H5 y5)) λ_ s6 bh=>?_);obtain⟨qk,H6,I6,q6⟩:=bh;refine gA hp (cw (hb _ s6 qk H6 _ I6 q6) λf s7 q7=>?_);have again:∀{mf:St} {H7:Hp},Inv X (pins++wZ fp s5.heap) mf H7 s7->N mf H7->∃m,m<n/\∃i cj H',Inv X pins cj H' s7/\tn i s7.heap/\(∀b∈fp,H' b=none)/\W i m cj H':=λ{mf H7} I7 n7=>by
   obtain⟨m',hm,w7⟩:=hN mf H7 n7;refine⟨m',hm,i+1,mf,H7,I7.CL,T.keep _ _ _ qt λb hb o e=>(I7.pin (b,o) (bP _ (bP _ (Dq hb e)))).1,λb hb=>?_,w7⟩;obtain⟨o,e,d⟩:=T.obj _ _ qt b hb;exact(I7.pin (b,o) (bP _ (bP _ (Dq hb e)))).2.1
  cases f with
  |next=>obtain⟨mf,H7,I7,n7⟩:=q7;exact again I7 n7
  |cont=>obtain⟨mf,H7,I7,n7⟩:=q7;exact again I7 n7
  |brk=>obtain⟨mf,H7,I7,q7⟩:=q7;exact⟨mf,H7,I7.CL,q7⟩
  |ret v=>obtain⟨x7,mf,H7,I7,r7,q7⟩:=q7;exact⟨x7,mf,H7,I7.CL,r7,q7⟩
end
noncomputable abbrev R2:=V->V->Hp->VK->Prop
def ft(X:Cx)(f:Value->Value->Sem Value)(r:R2):Prop :=
 ∀(pins:List (Addr×Obj)) (s:Shared) (σ:St) (H:Hp) (x y:V) (v u:Value) (Q:VK),Inv X pins σ H s->RelV x v->RelV y u->r x y H Q ->
  wpAny (model X.prog X.w) X.A (f v u) (EP X pins σ Q) X.xe s
def zz(X:Cx)(f:Value->Sem Value)(r:V->Hp->VK->Prop):Prop :=
 ∀(pins:List (Addr×Obj)) (s:Shared) (σ:St) (H:Hp) (x:V) (v:Value) (Q:VK),Inv X pins σ H s->RelV x v->r x H Q ->
  wpAny (model X.prog X.w) X.A (f v) (EP X pins σ Q) X.xe s
def l9(X:Cx)(f:Value)(r:List V->Hp->VK->Prop):Prop :=
 ∀(pins:List (Addr×Obj)) (s:Shared) (σ:St) (H:Hp) (xs:List V) (us:List Value) (Q:VK),Inv X pins σ H s->Vals xs us->r xs H Q ->
  wpAny (model X.prog X.w) X.A (call f us) (EP X pins σ Q) X.xe s
def Ta(X:Cx)(r:V->Hp->(Bool->Hp->Prop)->Prop):Prop :=
 ∀(pins:List (Addr×Obj)) (s:Shared) (σ:St) (H:Hp) (x:V) (v:Value) (Q:Bool->Hp->Prop),Inv X pins σ H s->RelV x v->r x H Q ->
  wpAny (model X.prog X.w) X.A (truthy v) (TP X pins σ Q) X.xe s
def sk(r:R2)(ta tb:TE):TE:=λσ H Q=>ta σ H λx H1=>tb σ H1 λy H2=>r x y H2 Q
def LJ(r:V->Hp->VK->Prop)(ta:TE):TE:=λσ H Q=>ta σ H λx H1=>r x H1 Q
def rI(C:Int->Int->Prop)(g:Int->Int->V):R2:=λx y H Q=>∃i j,x=.int i/\y=.int j/\C i j/\Q (g i j) H
def lO(g:Int->Int->V):R2:=λx y H Q=>∃i j,x=.int i/\y=.int j/\Q (g i j) H
def rU(g:Int->V):V->Hp->VK->Prop:=λx H Q=>∃i,x=.int i/\Q (g i) H
section
variable{X:Cx}{a b c:Expr}{ta tb tc:TE}{pos:Pos}
theorem BX(ha:PE X a ta)(hb:PE X b tb){pins:List (Addr×Obj)}{s:Shared}{σ:St}{H:Hp}{R:V->V->Hp->Prop}(I:Inv X pins σ H s)(h:ta σ H λx H1=>tb σ H1 λy H2=>R x y H2){Q:Value->Shared->Prop}{f:Value->Value->Sem Value}(hf:∀v u s2 x y H2,Inv X pins σ H2 s2->RelV x v->RelV y u->R x y H2->wpAny (model X.prog X.w) X.A (f v u) Q X.xe s2) :
  wpAny (model X.prog X.w) X.A (eval a X.env) (λv bW=>wpAny (model X.prog X.w) X.A (eval b X.env) (λu iu=>wpAny (model X.prog X.w) X.A (f v u) Q X.xe iu) X.xe bW) X.xe s:=by
 refine cw (ha pins s σ H _ I h) λv s1 bh=>?_;obtain⟨x,H1,I1,r1,q1⟩:=bh;refine cw (hb pins s1 σ H1 _ I1 q1) λu s2 bh=>?_;obtain⟨y,H2,I2,r2,q2⟩:=bh;exact hf v u s2 x y H2 I2 r1 r2 q2
theorem GY{op:Operator}{r:R2}(ho:ft X (binaryOp op) r)(ha:PE X a ta)(hb:PE X b tb):PE X (.BinOp a op b pos) (sk r ta tb):=by
 intro pins s σ H Q I h;exact wpAny_BinOp (BX ha hb I h λv u s2 x y H2 I2 rx ry q=>ho pins s2 σ H2 x y v u Q I2 rx ry q)
theorem Wf{op:UnaryOp}{r:V->Hp->VK->Prop}(ho:zz X (unaryOp op) r)(ha:PE X a ta):PE X (.UnaryOp op a pos) (LJ r ta):=by
 intro pins s σ H Q I h;exact UnaryOp_ (cw (ha pins s σ H _ I h) λv s1 ⟨x,H1,I1,r1,q1⟩=>ho pins s1 σ H1 x v Q I1 r1 q1)
theorem uG{f:Value->Value->Sem Value}{C:Int->Int->Prop}{g:Int->Int->Int}(rule:∀(i j:Int) (t u:Tok) (s:Shared) (Q:Value->Shared->Prop) (E:Value->Shared->Prop),C i j->Q (.int (g i j) s.toks) { s with toks:=s.toks+1 }->wpAny (model X.prog X.w) X.A (f (.int i t) (.int j u)) Q E s) :
  ft X f (rI C λi j=>.int (g i j)):=by
 intro pins s σ H x y v u Q I rx ry h;obtain⟨i,j,rfl,rfl,hc,q⟩:=h;obtain⟨t,rfl⟩:=rx;obtain⟨t',rfl⟩:=ry;exact rule i j t t' s _ _ hc ⟨.int (g i j),H,I.tok _,⟨_,rfl⟩,q⟩
theorem tJ{f:Value->Value->Sem Value}{g:Int->Int->Int}(rule:∀(i j:Int) (t u:Tok) (s:Shared) (Q:Value->Shared->Prop) (E:Value->Shared->Prop),Q (.int (g i j) s.toks) { s with toks:=s.toks+1 }->wpAny (model X.prog X.w) X.A (f (.int i t) (.int j u)) Q E s) :
  ft X f (lO λi j=>.int (g i j)):=by
 intro pins s σ H x y v u Q I rx ry h;obtain⟨i,j,rfl,rfl,q⟩:=h;obtain⟨t,rfl⟩:=rx;obtain⟨t',rfl⟩:=ry;exact rule i j t t' s _ _ ⟨.int (g i j),H,I.tok _,⟨_,rfl⟩,q⟩
theorem zw{f:Value->Value->Sem Value}{g:Int->Int->Bool}(rule:∀(i j:Int) (t u:Tok) (s:Shared) (Q:Value->Shared->Prop) (E:Value->Shared->Prop),Q (.bool (g i j)) s->wpAny (model X.prog X.w) X.A (f (.int i t) (.int j u)) Q E s) :
  ft X f (lO λi j=>.bl (g i j)):=by
 intro pins s σ H x y v u Q I rx ry h;obtain⟨i,j,rfl,rfl,q⟩:=h;obtain⟨t,rfl⟩:=rx;obtain⟨t',rfl⟩:=ry;exact rule i j t t' s _ _ ⟨.bl (g i j),H,I,rfl,q⟩
def BO(i j:Int):Prop:=0<j/\j<1073741824
def oU(i j:Int):Prop:=0<=j/\j<=1000000/\i.natAbs<2 ^ 64
def rH(i j:Int):Prop:=(-(2 ^ 64)<i/\i<2 ^ 64)\/(-(2 ^ 64)<j/\j<2 ^ 64)
theorem rH.ok{i j:Int}(h:rH i j):IntMulOk i j:=by
 rcases h with⟨h1,h2⟩|⟨h1,h2⟩
 ·exact .of_left (intBits_le_64 h1 h2)
 ·exact .of_right (intBits_le_64 h1 h2)
theorem XD:ft X (binaryOp .Add) (lO λi j=>.int (i+j)):=tJ λ_ _ _ _ _ _ _ q=>add_int q
theorem OC:ft X (binaryOp .Sub) (lO λi j=>.int (i-j)):=tJ λ_ _ _ _ _ _ _ q=>sub_int q
theorem XJ:ft X (binaryOp .Mult) (rI rH λi j=>.int (i*j)):=uG λ_ _ _ _ _ _ _ hc q=>mul_int q hc.ok
theorem Rm:ft X (binaryOp .FloorDiv) (rI BO λi j=>.int (i / j)):=uG λi j _ _ _ _ _ hc q=>by
 have h1:(0:Int)<j:=hc.1;have h2:j<1073741824:=hc.2;exact floordiv_int (by omega) (by rw[Int.fdiv_eq_ediv_of_nonneg i (by omega)];exact q) (.inl (PyProof.noPylong_small (by omega)))
theorem XI:ft X (binaryOp .Mod) (rI (λ_ j=>0<j) λi j=>.int (i % j)):=uG λi j _ _ _ _ _ hc q=>by
 have h1:(0:Int)<j:=hc;exact mod_int' (by omega) (by rw[Int.fmod_eq_emod_of_nonneg i (by omega)];exact q)
theorem XM:ft X (binaryOp .Pow) (rI oU λi j=>.int (i ^ j.toNat)):=uG λ_ _ _ _ _ _ _ hc q=>pow_int_small hc.1 hc.2.1 hc.2.2 q
theorem XO:ft X (binaryOp .LShift) (rI oU λi j=>.int (i*2 ^ j.toNat)):=uG λ_ _ _ _ _ _ _ hc q=>lshift_int_small hc.1 hc.2.1 hc.2.2 q
theorem XE:ft X (binaryOp .BitAnd) (lO λi j=>.int (Builtin.bitAnd i j)):=tJ λ_ _ _ _ _ _ _ q=>and_int q
theorem VZ:ft X (binaryOp .BitOr) (lO λi j=>.int (Builtin.bitOr i j)):=tJ λ_ _ _ _ _ _ _ q=>or_int q
theorem QP:ft X (inplaceOp .Add) (lO λi j=>.int (i+j)):=tJ λ_ _ _ _ _ _ _ q=>iadd_int q
theorem QQ:ft X (inplaceOp .Sub) (lO λi j=>.int (i-j)):=tJ λ_ _ _ _ _ _ _ q=>isub_int q
theorem LH{f:Value->Sem Value}{g:Int->Int}(rule:∀(i:Int) (t:Tok) (s:Shared) (Q:Value->Shared->Prop) (E:Value->Shared->Prop),Q (.int (g i) s.toks) { s with toks:=s.toks+1 }->wpAny (model X.prog X.w) X.A (f (.int i t)) Q E s) :
  zz X f (rU λi=>.int (g i)):=by
 intro pins s σ H x v Q I rx h;obtain⟨i,rfl,q⟩:=h;obtain⟨t,rfl⟩:=rx;exact rule i t s _ _ ⟨.int (g i),H,I.tok _,⟨_,rfl⟩,q⟩
theorem Qp:zz X (unaryOp .USub) (rU λi=>.int (-i)):=LH λ_ _ _ _ _ q=>neg_int q
end
def Gi:V->V->Bool
 |.aQ,.aQ=>true|.aQ,.int _=>true|.int _,.aQ=>true|.aQ,.bl _=>true|.bl _,.aQ=>true|.aQ,.str _=>true|.str _,.aQ=>true
 |.int _,.int _=>true|.bl _,.bl _=>true|.str _,.str _=>true|.kN _,.kN _=>true
 |.int _,.str _=>true|.str _,.int _=>true|.bl _,.str _=>true|.str _,.bl _=>true
 |_,_=>false
def LY:R2:=λx y H Q=>Gi x y=true/\Q (.bl (decide (x=y))) H
def LW:R2:=λx y H Q=>Gi x y=true/\Q (.bl (!decide (x=y))) H
theorem yT{i j:Int}:decide (V.int i=V.int j)=(i==j):=by
 rw[cq];simp
theorem yH{i j:Bool}:decide (V.bl i=V.bl j)=(i==j):=by
 rw[cq];simp
theorem yU{i j:Str}:decide (V.str i=V.str j)=(i==j):=by
 rw[cq];simp
theorem Jz{i j:Array UInt8}:decide (V.kN i=V.kN j)=(i.toList==j.toList):=by
 rw[cq];cases i;cases j;simp
section
variable{X:Cx}{a b c:Expr}{ta tb tc:TE}{pos:Pos}
theorem i5{pins:List (Addr×Obj)}{σ:St}{H:Hp}{s:Shared}{Q:VK}{k k':Bool}(I:Inv X pins σ H s)(q:Q (.bl k) H)(e:k=k'):EP X pins σ Q (.bool k') s:=by
 subst e;exact⟨.bl k,H,I,rfl,q⟩
theorem DG:ft X (compareOp .Eq) LY:=by
 intro pins s σ H x y v u Q I rx ry h;obtain⟨hs,q⟩:=h;cases x with
 |aQ =>
  cases rx;cases y with
  |aQ=>cases ry;exact PySem.EqNone.eq_none_none (i5 I q (by simp))
  |bl j=>cases ry;exact PySem.EqNone.eq_none_bool (i5 I q (by simp))
  |int j=>obtain⟨t',rfl⟩:=ry;exact PySem.EqNone.eq_none_int (i5 I q (by simp))
  |str j=>obtain⟨t',rfl⟩:=ry;exact PySem.EqNone.eq_none_str (i5 I q (by simp))
  |_=>exact absurd (show false=true from hs) Bool.false_ne_true
 |bl i =>
  cases rx;cases y with
  |aQ=>cases ry;exact PySem.EqNone.eq_bool_none (i5 I q (by simp))
  |bl j=>cases ry;exact eq_bool (i5 I q yH)
  |str j=>obtain⟨t',rfl⟩:=ry;exact PySem.EqMixed.eq_bool_str (i5 I q (by simp))
  |_=>exact absurd (show false=true from hs) Bool.false_ne_true
 |int i =>
  obtain⟨t,rfl⟩:=rx;cases y with
  |aQ=>cases ry;exact PySem.EqNone.eq_int_none (i5 I q (by simp))
  |int j=>obtain⟨t',rfl⟩:=ry;exact eq_int (i5 I q yT)
  |str j=>obtain⟨t',rfl⟩:=ry;exact PySem.EqMixed.eq_int_str (i5 I q (by simp))
  |_=>exact absurd (show false=true from hs) Bool.false_ne_true
 |str i =>
  obtain⟨t,rfl⟩:=rx;cases y with
  |aQ=>cases ry;exact PySem.EqNone.eq_str_none (i5 I q (by simp))
  |bl j=>cases ry;exact PySem.EqMixed.eq_str_bool (i5 I q (by simp))
  |int j=>obtain⟨t',rfl⟩:=ry;exact PySem.EqMixed.eq_str_int (i5 I q (by simp))
  |str j=>obtain⟨t',rfl⟩:=ry;exact eq_str (i5 I q yU)
  |_=>exact absurd (show false=true from hs) Bool.false_ne_true
 |kN i =>
  obtain⟨t,rfl⟩:=rx;cases y with
  |kN j=>obtain⟨t',rfl⟩:=ry;exact PySem.W.eq_bytes (i5 I q Jz)
  |_=>exact absurd (show false=true from hs) Bool.false_ne_true
 |_=>cases y<;>exact absurd (show false=true from hs) bI
theorem DH:ft X (compareOp .NotEq) LW:=by
 intro pins s σ H x y v u Q I rx ry h;obtain⟨hs,q⟩:=h;cases x with
 |aQ =>
  cases rx;cases y with
  |aQ=>cases ry;exact PySem.EqNone.ne_none_none (i5 I q (by simp))
  |bl j=>cases ry;exact PySem.EqNone.ne_none_bool (i5 I q (by simp))
  |int j=>obtain⟨t',rfl⟩:=ry;exact PySem.EqNone.ne_none_int (i5 I q (by simp))
  |str j=>obtain⟨t',rfl⟩:=ry;exact PySem.EqNone.ne_none_str (i5 I q (by simp))
  |_=>exact absurd (show false=true from hs) Bool.false_ne_true
 |bl i =>
  cases rx;cases y with
  |aQ=>cases ry;exact PySem.EqNone.ne_bool_none (i5 I q (by simp))
  |bl j=>cases ry;exact ne_bool (i5 I q (congrArg not yH))
  |str j=>obtain⟨t',rfl⟩:=ry;exact PySem.EqMixed.ne_bool_str (i5 I q (by simp))
  |_=>exact absurd (show false=true from hs) Bool.false_ne_true
 |int i =>
  obtain⟨t,rfl⟩:=rx;cases y with
  |aQ=>cases ry;exact PySem.EqNone.ne_int_none (i5 I q (by simp))
  |int j=>obtain⟨t',rfl⟩:=ry;exact ne_int (i5 I q (congrArg not yT))
  |str j=>obtain⟨t',rfl⟩:=ry;exact PySem.EqMixed.ne_int_str (i5 I q (by simp))
  |_=>exact absurd (show false=true from hs) Bool.false_ne_true
 |str i =>
  obtain⟨t,rfl⟩:=rx;cases y with
  |aQ=>cases ry;exact PySem.EqNone.ne_str_none (i5 I q (by simp))
  |bl j=>cases ry;exact PySem.EqMixed.ne_str_bool (i5 I q (by simp))
  |int j=>obtain⟨t',rfl⟩:=ry;exact PySem.EqMixed.ne_str_int (i5 I q (by simp))
  |str j=>obtain⟨t',rfl⟩:=ry;exact ne_str (i5 I q (congrArg not yU))
  |_=>exact absurd (show false=true from hs) Bool.false_ne_true
 |kN i =>
  obtain⟨t,rfl⟩:=rx;cases y with
  |kN j=>obtain⟨t',rfl⟩:=ry;exact PySem.W.ne_bytes (i5 I q (congrArg not Jz))
  |_=>exact absurd (show false=true from hs) Bool.false_ne_true
 |_=>cases y<;>exact absurd (show false=true from hs) bI
theorem VY:ft X (compareOp .Lt) (lO λi j=>.bl (decide (i<j))):=zw λ_ _ _ _ _ _ _ q=>lt_int q
theorem VX:ft X (compareOp .LtE) (lO λi j=>.bl (decide (i<=j))):=zw λ_ _ _ _ _ _ _ q=>le_int q
theorem VW:ft X (compareOp .Gt) (lO λi j=>.bl (decide (j<i))):=zw λ_ _ _ _ _ _ _ q=>gt_int q
theorem VU:ft X (compareOp .GtE) (lO λi j=>.bl (decide (j<=i))):=zw λ_ _ _ _ _ _ _ q=>ge_int q
theorem XH:ft X (compareOp .Is) (λx y H Q=>y=.aQ/\Q (.bl (decide (x=.aQ))) H):=by
 intro pins s σ H x y v u Q I rx ry h;obtain⟨rfl,q⟩:=h;cases ry;refine is_none_gen (i5 I q ?_);cases x<;>first
  |(cases rx;rfl)
  |(obtain⟨t,rfl⟩:=rx;rfl)
theorem Rn:ft X (compareOp .IsNot) (λx y H Q=>y=.aQ/\Q (.bl (!decide (x=.aQ))) H):=by
 intro pins s σ H x y v u Q I rx ry h;obtain⟨rfl,q⟩:=h;cases ry;refine isnot_none_gen (i5 I q ?_);cases x<;>first
  |(cases rx;rfl)
  |(obtain⟨t,rfl⟩:=rx;rfl)
theorem JR{op:CmpOp}{r:R2}(ho:ft X (compareOp op) r)(ha:PE X a ta)(hb:PE X b tb)(hm:behindInMarks op b=false):PE X (.Compare a [op] [b] pos) (sk r ta tb):=by
 intro pins s σ H Q I h;exact wpAny_Compare1 (BX ha hb I h λv u s2 x y H2 I2 rx ry q=>ho pins s2 σ H2 x y v u Q I2 rx ry q) hm
def DM(t:TE):TT:=λσ H Q=>t σ H λx H'=>∃k,x=.bl k/\Q k H'
theorem JV{op:CmpOp}{r:R2}(ho:ft X (compareOp op) r)(ha:PE X a ta)(hb:PE X b tb)(hm:behindInMarks op b=false):PT X (.Compare a [op] [b] pos) (DM (sk r ta tb)):=by
 intro pins s σ H Q I h;refine wpAny_isTrue_Compare1 (cw (ha pins s σ H _ I h) λv s1 ⟨x,H1,I1,r1,q1⟩=>cw (hb pins s1 σ H1 _ I1 q1) λu s2 ⟨y,H2,I2,r2,q2⟩ =>
  cw (ho pins s2 σ H2 x y v u _ I2 r1 r2 q2) λc s3 ⟨z,H3,I3,r3,k,e,q3⟩=>?_) hm
 subst e;cases r3;exact cv ⟨H3,I3,q3⟩
def Ei(r r':R2)(ta tb tc:TE):TE:=λσ H Q=>ta σ H λx H1=>tb σ H1 λy H2=>r x y H2 λz H3=>∃k,z=.bl k /\
 (if k=true then tc σ H3 λw' H4=>r' y w' H4 Q else Q (.bl false) H3)
theorem a73{op ie:CmpOp}{r r':R2}(ho:ft X (compareOp op) r)(ka:ft X (compareOp ie) r')(ha:PE X a ta)(hb:PE X b tb)(hc:PE X c tc)(hm:lastMarks [op,ie] [b,c]=false:=by with_unfolding_all rfl):PE X (.Compare a [op,ie] [b,c] pos) (Ei r r' ta tb tc):=by
 intro pins s σ H Q I h;refine Compare_chain (cw (ha pins s σ H _ I h) λv s1 ⟨x,H1,I1,r1,q1⟩=>chain_link (cw (hb pins s1 σ H1 _ I1 q1) λu s2 ⟨y,H2,I2,r2,q2⟩ =>
  cw (ho pins s2 σ H2 x y v u _ I2 r1 r2 q2) λd s3 ⟨z,H3,I3,r3,k,e,q3⟩=>?_)) hm
 subst e;cases r3;refine cv ?_;cases k with
 |false=>exact ite_ff ⟨.bl false,H3,I3,rfl,q3⟩
 |true=>exact ite_tt (chain_last (cw (hc pins s3 σ H3 _ I3 q3) λw' s4 ⟨z',H4,I4,r4,q4⟩=>ka pins s4 σ H4 y z' u w' Q I4 r2 r4 q4))
theorem a61{op ie:CmpOp}{r r':R2}(ho:ft X (compareOp op) r)(ka:ft X (compareOp ie) r')(ha:PE X a ta)(hb:PE X b tb)(hc:PE X c tc)(hm:lastMarks [op,ie] [b,c]=false:=by with_unfolding_all rfl):PT X (.Compare a [op,ie] [b,c] pos) (DM (Ei r r' ta tb tc)):=by
 intro pins s σ H Q I h;refine isTrue_chain (cw (ha pins s σ H _ I h) λv s1 ⟨x,H1,I1,r1,q1⟩=>test_link (cw (hb pins s1 σ H1 _ I1 q1) λu s2 ⟨y,H2,I2,r2,q2⟩ =>
  cw (ho pins s2 σ H2 x y v u _ I2 r1 r2 q2) λd s3 ⟨z,H3,I3,r3,k,e,q3⟩=>?_)) hm
 subst e;cases r3;refine cv ?_;cases k with
 |false =>
  obtain⟨k',e',q'⟩:=q3;cases e';exact ite_ff ⟨H3,I3,q'⟩
 |true =>
  refine ite_tt (test_last (cw (hc pins s3 σ H3 _ I3 q3) λw' s4 ⟨z',H4,I4,r4,q4⟩=>cw (ka pins s4 σ H4 y z' u w' _ I4 r2 r4 q4) λd' s5 bh=>?_));obtain⟨z2,H5,I5,r5,k2,e2,q5⟩:=bh;subst e2;cases r5;exact cv ⟨H5,I5,q5⟩
def BS(K:PySem.W.Frag)(x:V)(H:Hp)(k:Bool):Prop :=
 match x with
 |.aQ=>k=false
 |.bl b=>k=b
 |.int i=>k=(i != 0)
 |.str y=>y.length<=sizeLine/\k=((y.length:Int) != 0)
 |.kN y=>y.size<=sizeLine/\k=((y.size:Int) != 0)
 |.ref p=>(∃xs,gx K H p xs/\k=!xs.isEmpty)\/(∃xs,gQ K H p xs/\k=!xs.isEmpty)\/∃kvs,H p=some (.dK kvs)/\k=!kvs.isEmpty
 |_=>False
theorem Zq{κ:Type}{kvs:List (κ×V)}{vs:List (κ×Value)}(r:KV kvs vs):(!vs.isEmpty)=!kvs.isEmpty:=by
 cases r<;>rfl
theorem Iq{xs:List V}{aT:List Value}(r:Vals xs aT):(!aT.toArray.isEmpty)=!xs.isEmpty:=by
 cases r<;>simp
theorem T8:(sizeLine:Nat)<2 ^ 63:=by rw[kf];decide
theorem Qm:Ta X (λx H Q=>∃k,BS X.K x H k/\Q k H):=by
 intro pins s σ H x v Q I rx h;obtain⟨k,e,q⟩:=h;have hl:=T8;have hs:sizeLine=16777216:=kf;cases x with
 |aQ =>
  cases rx;have e':k=false:=e;subst e';exact truthy_none ⟨H,I,q⟩
 |bl b =>
  cases rx;have e':k=b:=e;subst e';exact cv ⟨H,I,q⟩
 |int i =>
  obtain⟨t,rfl⟩:=rx;have e':k=(i != 0):=e;subst e';exact PySem.P.truthy_int ⟨H,I,q⟩
 |str y =>
  obtain⟨t,rfl⟩:=rx;obtain⟨hy,e'⟩:y.length<=sizeLine/\k=((y.length:Int) != 0):=e;subst e';exact PySem.P.truthy_str (by omega) ⟨H,I.tok _,q⟩
 |kN y =>
  obtain⟨t,rfl⟩:=rx;obtain⟨hy,e'⟩:y.size<=sizeLine/\k=((y.size:Int) != 0):=e;subst e';exact PySem.W.truthy_bytes (by omega) ⟨H,I.tok _,q⟩
 |ref p =>
  cases rx;have e':(∃xs,gx X.K H p xs/\k=!xs.isEmpty)\/(∃xs,gQ X.K H p xs/\k=!xs.isEmpty)\/∃kvs,H p=some (.dK kvs)/\k=!kvs.isEmpty:=e;rcases e' with⟨xs,hx,e'⟩|⟨xs,hx,e'⟩|⟨kvs,hx,e'⟩
  ·subst e';obtain⟨aT,r,pl,hz⟩:=I.list hx;have hlen:=r.length;exact wpAny_truthy_list pl.isList (by simp only[List.size_toArray];omega) ⟨H,I.tok _,by rw[Iq r];exact q⟩
  ·subst e';obtain⟨aT,r,pl,hz⟩:=I.tuple hx;have hlen:=r.length;exact truthy_tuple pl (by simp only[List.size_toArray];omega) ⟨H,I.tok _,by rw[Iq r];exact q⟩
  ·subst e';obtain⟨hz,hS,vs,r,m⟩:kvs.length<=sizeLine/\(p==sysModules)=false/\∃vs,KV kvs vs/\s.heap.DictOf (p9 X.prog X.w) p vs:=I.bG p _ hx;have hlen:kvs.length=vs.length:=lJ r;exact wpAny_truthy_dict hS m (by omega) ⟨H,I.tok _,by rw[Zq r];exact q⟩
 |_=>exact(show False from e).elim
theorem a60(ha:PE X a ta)(he:∀whole,isTrue a X.env whole=(do let v <- whole;standAt a.pos;holding [v] (truthy v))) :
  PT X a (λσ H Q=>ta σ H λx H'=>∃k,BS X.K x H' k/\Q k H'):=by
 intro pins s σ H Q I h;exact isTrue_plain (cw (ha pins s σ H _ I h) λv s1 ⟨x,H1,I1,r1,q1⟩=>Qm pins s1 σ H1 x v Q I1 r1 q1) (he _)
theorem ZA:ft X (binaryOp .Add) (λx y H Q=>∃i j,x=.str i/\y=.str j/\i.length+j.length<=sizeLine/\Q (.str (i++j)) H):=by
 intro pins s σ H x y v u Q I rx ry h;obtain⟨i,j,rfl,rfl,hz,q⟩:=h;obtain⟨t,rfl⟩:=rx;obtain⟨t',rfl⟩:=ry;exact add_str (λt' tk=>⟨.str (i++j),H,I.tok _,⟨_,rfl⟩,q⟩) hz
theorem vals1{x:V}{us:List Value}(r:Vals [x] us):∃u,us=[u]/\RelV x u:=by
 cases r with
 |cons r1 r2=>cases r2;exact⟨_,rfl,r1⟩
theorem vals2{x y:V}{us:List Value}(r:Vals [x,y] us):∃u w',us=[u,w']/\RelV x u/\RelV y w':=by
 cases r with
 |cons r1 r2 =>
  cases r2 with
  |cons r3 r4=>cases r4;exact⟨_,_,rfl,r1,r3⟩
theorem HM:l9 X (.type "int") (λxs H Q=>(∃i,xs=[.int i]/\Q (.int i) H)\/∃k,xs=[.bl k]/\Q (.int (if k then 1 else 0)) H):=by
 intro pins s σ H xs us Q I r h;rcases h with⟨i,rfl,q⟩|⟨k,rfl,q⟩
 ·obtain⟨u,rfl,t,rfl⟩:=vals1 r;exact call_int_int ⟨.int i,H,I,⟨_,rfl⟩,q⟩
 ·obtain⟨u,rfl,r1⟩:=vals1 r;cases r1;exact call_int_bool ⟨.int (if k then 1 else 0),H,I.tok _,⟨_,rfl⟩,q⟩
theorem aF4:l9 X (.type "str") (λxs H Q=>∃i,xs=[.int i]/\i.natAbs.log2<1920/\Q (.str (toString i)) H):=by
 intro pins s σ H xs us Q I r h;obtain⟨i,rfl,hz,q⟩:=h;obtain⟨u,rfl,t,rfl⟩:=vals1 r;exact PySem.P.str_of_int hz ⟨.str _,H,I.tok _,⟨_,rfl⟩,q⟩
end
structure rK(h:Heap)(x dx C:Addr)(mA:Str->Option Value):Prop where
 obj:h.get? x=some (PySem.W.instObj C dx)
 ns:h.Ns1 dx mA
 ne:dx≠x
theorem Ia{h:Heap}{dx:Addr}{mA:Str->Option Value}(n:h.Ns1 dx mA):∃od,h.get? dx=some od/\∀name,PySem.W.lookIn name od=some (mA name):=by
 obtain⟨o,es,ep,ho,hd,hk,_,hm⟩:=n;refine⟨o,ho,λname=>?_⟩;have e:=hm name;unfold nsFind findBy at e;rw[<- Array.find?_toList] at e;unfold PySem.W.lookIn;rw[hd];dsimp only;split
 ·rename_i y q;rw[q] at e;exact fY some e
 ·rename_i q;rw[q] at e;have a:es.toList.any (·.refKey)=false:=by
   rw[List.any_eq_false];intro y hy;obtain⟨z,t,ou⟩:=hk y (Array.mem_toList_iff.mp hy);simp[DictEntry.refKey,ou]
  have a':¬es.toList.any (·.refKey)=true:=by rw[a];exact bI
  rw[ax a'];exact fY some e
theorem rK.look{h:Heap}{x dx C:Addr}{mA:Str->Option Value}(I:rK h x dx C mA):∃od,PySem.W.InstAt h x (PySem.W.instObj C dx) C (some od)/\∀name,PySem.W.lookIn name od=some (mA name) :=
 let ⟨od,ho,hl⟩:=Ia I.ns
 ⟨od,⟨I.obj,rfl,rfl,ho⟩,hl⟩
section
variable{prog:Program}{w:World}{A:Around}{E:Value->Shared->Prop}{s:Shared}{K:PySem.W.Frag}{x dx C f:Addr}{mA:Str->Option Value}{name:Str}{v:Value}
theorem get_map{expr:Bool}{Q:Value->Shared->Prop}(X:K.In s.heap)(I:rK s.heap x dx C mA)(hg:PySem.W.plainGet K C name=true)(hh:PySem.W.hasDictIn K C=true)(ha:PySem.W.findIn K (.ref C) name=some none)(hv:mA name=some v)(Am:PySem.W.handedIn v=true)(h:Q v { s with toks:=s.toks+1 }) :
  wpAny (model prog w) A (getAttr (.ref x) name expr) Q E s:=by
 obtain⟨od,J,hl⟩:=I.look;exact PySem.W.get_value X J (je hg).1 (PySem.W.findObj_own hh ha rfl (by rw[hl,hv])) Am h
theorem SX{pl:Sem Bool}{Q:Value×List Value->Shared->Prop}(X:K.In s.heap)(I:rK s.heap x dx C mA)(hg:PySem.W.plainGet K C name=true)(hf:PySem.W.findIn K (.ref C) name=some (some (.ref f)))(ht:PySem.W.isFn K (.ref f)=true)(hv:mA name=none)(h:Q (.ref f,[.ref x]) s) :
  wpAny (model prog w) A (getMethod (.ref x) name pl) Q E s:=by
 obtain⟨od,J,hl⟩:=I.look;exact PySem.W.method_fn X J (je hg).1 (je hg).2 hf (fZ.mp ht) (by show(PySem.W.lookIn name od).map (·.isSome)=some false;rw[hl,hv];rfl) h
theorem Sa{ns:List Str}{Q:Unit->Shared->Prop}(X:K.In s.heap)(I:rK s.heap x dx C mA)(hs:PySem.W.findIn K (.ref C) "__setattr__"=some (some (.builtin "object.__setattr__")))(hp:PySem.W.plainOver K C=true)(ht:PySem.W.takerIn K C name=some none)(hh:PySem.W.hasDictIn K C=true)(hw:PySem.Within mA ns)(hsz:ns.length<=sizeLine)(h:∀h',rK h' x dx C (λy=>if y=name then some v else mA y)->Heap.SameBut dx s.heap h'->Q () { s with heap:=h',toks:=s.toks+2 }) :
  wpAny (model prog w) A (setAttr (.ref x) name v) Q E s:=by
 obtain⟨od,J,hl⟩:=I.look;refine PySem.W.set_plain X J hs (PySem.W.osa_open (s:={ s with toks:=s.toks+1 }) (r:=none) X J hp ht λb=>?_);obtain⟨cd,hc,pK⟩:=PySem.W.any_some hh;have hx:s.heap.get? x=some ⟨.ref C,some dx,.plain,#[]⟩:=I.obj;refine aa (ah (aa (aa (wpAny_loadPart hx (aa (PySem.W.Looks.here (s:={ s with toks:=s.toks+1 }) (PySem.W.looks_clsIn X hc) ?_))))));rw[pK];refine ah (a:=some dx) (aa (ah (aa ?_)));refine wpAny_nsSet1 (s:={ s with toks:=s.toks+1 }) I.ns λh' mF jZ=>?_;obtain⟨oD,esD,epD,MK,Ng,Ni⟩:=mF.count (PySem.Within.cons name v hw);refine aa (wpAny_lookBehind MK (by rw[Ng];exact pastItsLine_dict (aM Ni (by rw[bU];omega))) ?_);exact ah (h _ ⟨(jZ.2 _ (aL I.ne)).trans I.obj,mF,I.ne⟩ jZ)
theorem a88{R:Result->Shared->Prop}{vs:List Value}{kw:List (Str×Value)}(X:K.In s.heap)(hm:PySem.W.makesIn K C=true)(hi:PySem.W.findIn K (.ref C) "__init__"=some (some (.ref f)))(hf:PySem.W.typeIn K (.ref f)=some (.type "function"))(h:codeAny (model prog w) (A.under (.builtin "type.__call__" ⟨.ref C :: vs,kw⟩)) (.call (.ref f) ⟨.ref (s.heap.objs.size + 1) :: vs,kw⟩) (PySem.W.InitBack (s.heap.objs.size + 1) R)
   { s with heap:=(s.heap.push PySem.W.emptyDict).push (PySem.W.instObj C s.heap.objs.size) }) :
  codeAny (model prog w) A (.call (.ref C) ⟨vs,kw⟩) R s:=by
 obtain⟨hh,g,d,t,os⟩:=s;exact PySem.W.make_core (PySem.W.makes_of X hm) (PySem.W.looks_findIn X hi) (λself=>PySem.W.bind_fn X self hf) (.inl rfl) h
end
def u3(f:Str)(v:V):List (Str×V)->List (Str×V)
 |[]=>[(f,v)]
 |(g,x)::r=>if g=f then(g,v)::r else(g,x)::u3 f v r
theorem IF(f g:Str)(v:V):∀fs:List (Str×V),(u3 f v fs).lookup g=if g=f then some v else fs.lookup g
 |[]=>by
  show List.lookup g [(f,v)]=_;by_cases h:g=f
  ·have hb:(g==f)=true:=fZ.mpr h;simp only[List.lookup,hb,if_pos h]
  ·have hb:(g==f)=false:=cE.mpr h;simp only[List.lookup,hb,if_neg h]
 |(k,x)::r=>by
  have ih:=IF f g v r;rw[show u3 f v ((k,x)::r)=(if k=f then(k,v)::r else(k,x)::u3 f v r) from rfl];by_cases hk:k=f
  ·rw[au hk];by_cases h:g=k
   ·have hb:(g==k)=true:=fZ.mpr h;simp only[List.lookup,hb,if_pos (h.trans hk)]
   ·have hb:(g==k)=false:=cE.mpr h;simp only[List.lookup,hb,if_neg (λe:g=f=>h (e.trans hk.symm))]
  ·rw[ax hk];by_cases h:g=k
   ·have hb:(g==k)=true:=fZ.mpr h;simp only[List.lookup,hb,if_neg (λe:g=f=>hk (h.symm.trans e))]
   ·have hb:(g==k)=false:=cE.mpr h;simp only[List.lookup,hb];exact ih
theorem CO(f:Str)(v:V):∀fs:List (Str×V),f∈(u3 f v fs).map (·.1)/\∀g,g∈fs.map (·.1)->g∈(u3 f v fs).map (·.1)
 |[]=>⟨by simp[u3],λg h=>by simp at h⟩
 |(k,x)::r=>by
  obtain⟨i1,i2⟩:=CO f v r;rw[show u3 f v ((k,x)::r)=(if k=f then(k,v)::r else(k,x)::u3 f v r) from rfl];by_cases hk:k=f
  ·rw[au hk];subst hk;exact⟨by simp,λg h=>by simpa using h⟩
  ·rw[ax hk];refine⟨?_,λg h=>?_⟩
   ·rw[ba];exact br _ i1
   ·rw[ba] at h ⊢;rcases aI.mp h with e|e
    ·exact aI.mpr (.inl e)
    ·exact br _ (i2 g e)
theorem IE(f:Str)(v:V):∀fs:List (Str×V),(u3 f v fs).length<=fs.length+1
 |[]=>by simp[u3]
 |(k,x)::r=>by
  have ih:=IE f v r;rw[show u3 f v ((k,x)::r)=(if k=f then(k,v)::r else(k,x)::u3 f v r) from rfl];by_cases hk:k=f
  ·rw[au hk,bU,bU];omega
  ·rw[ax hk,bU,bU];omega
theorem B3.some_of{v:V}{o:Option Value}(r:B3 (some v) o):∃u,o=some u/\RelV v u:=by
 cases o with
 |none=>exact(show False from r).elim
 |some u=>exact⟨u,rfl,r⟩
theorem B3.none_of{o:Option Value}(r:B3 none o):o=none:=by
 cases o with
 |none=>rfl
 |some u=>exact(show False from r).elim
theorem a08{v:V}{u:Value}(r:RelV v u):PySem.W.handedIn u=true:=by
 cases v with
 |aQ=>cases (show u=Value.none from r);rfl
 |bl b=>cases (show u=Value.bool b from r);rfl
 |int i=>obtain⟨t,e⟩:=(show ∃t,u=Value.int i t from r);cases e;rfl
 |str x=>obtain⟨t,e⟩:=(show ∃t,u=Value.str x t from r);cases e;rfl
 |kN b=>obtain⟨t,e⟩:=(show ∃t,u=Value.bytes b t from r);cases e;rfl
 |rq b=>obtain⟨t,e⟩:=(show ∃t,u=Value.float b t from r);cases e;rfl
 |ref a=>cases (show u=Value.ref a from r);rfl
 |ty n=>cases (show u=Value.type n from r);rfl
section
variable{P:Program}{w:World}{H H':Hp}{h h':Heap}{a C dx:Addr}{fs iR:List (Str×V)}
theorem yW(bG:fX P w H h)(e:H a=some (.ins C dx fs)):∃mA,rK h a dx C mA/\(∀f,B3 (fs.lookup f) (mA f))/\PySem.Within mA (fs.map (·.1))/\fs.length<=1000/\H dx=some (.own a):=by
 obtain⟨d,z,ne,ob,mA,n,r,q⟩:=(show j4 P w H h a (.ins C dx fs) from bG a _ e)
 exact⟨mA,⟨ob,n,ne⟩,r,q,z,d⟩
end
structure iT(K:PySem.W.Frag)(C:Addr):Prop where
 pg:PySem.W.plainGet K C Str.empty=true
 hd:PySem.W.hasDictIn K C=true
 po:PySem.W.plainOver K C=true
 sa:PySem.W.findIn K (.ref C) "__setattr__"=some (some (.builtin "object.__setattr__"))
theorem iT.get{K:PySem.W.Frag}{C:Addr}(c:iT K C)(f:Str):PySem.W.plainGet K C f=true:=c.pg
def w5(K:PySem.W.Frag)(C:Addr)(f:Str):Prop:=PySem.W.findIn K (.ref C) f=some none
theorem w5.WH{K:PySem.W.Frag}{C:Addr}{f:Str}(n:w5 K C f):PySem.W.takerIn K C f=some none:=by
 unfold PySem.W.takerIn;rw[show PySem.W.findIn K (.ref C) f=some none from n]
 rfl
structure Meth(K:PySem.W.Frag)(C:Addr)(m:Str)(f:Addr):Prop where
 at_:PySem.W.findIn K (.ref C) m=some (some (.ref f))
 fn:PySem.W.isFn K (.ref f)=true
 kp:PySem.W.keepIn K (.ref f)=true
section
variable{X:Cx}{pins:List (Addr×Obj)}{σ:St}{H:Hp}{s:Shared}{a C dx:Addr}{fs:List (Str×V)}{f:Str}{v:V}{A:Around}{E:Value->Shared->Prop}
theorem Io{b:Bool}{Q:Value->Shared->Prop}(I:Inv X pins σ H s)(e:H a=some (.ins C dx fs))(c:iT X.K C)(n:w5 X.K C f)(l:fs.lookup f=some v)(h:∀u s',Inv X pins σ H s'->RelV v u->Q u s'):wpAny (model X.prog X.w) A (getAttr (.ref a) f b) Q E s:=by
 obtain⟨mA,O,r,_,_,_⟩:=yW I.bG e;obtain⟨u,hu,ru⟩:=B3.some_of (v:=v) (o:=mA f) (by rw[<- l];exact r f);exact get_map I.gm O (c.get f) c.hd n hu (a08 ru) (h u _ (I.tok _) ru)
theorem Ip{m:Str}{g:Addr}{pl:Sem Bool}{Q:Value×List Value->Shared->Prop}(I:Inv X pins σ H s)(e:H a=some (.ins C dx fs))(c:iT X.K C)(k:Meth X.K C m g)(l:fs.lookup m=none)(h:Q (.ref g,[.ref a]) s):wpAny (model X.prog X.w) A (getMethod (.ref a) m pl) Q E s:=by
 obtain⟨mA,O,r,_,_,_⟩:=yW I.bG e;have hn:mA m=none:=B3.none_of (by rw[<- l];exact r m);exact SX I.gm O (c.get m) k.at_ k.fn hn h
theorem Iy{y:V}{u:Value}{Q:Unit->Shared->Prop}(I:Inv X pins σ H s)(e:H a=some (.ins C dx fs))(c:iT X.K C)(n:w5 X.K C f)(hl:fs.length<1000)(ry:RelV y u)(h:∀s',Inv X pins σ (upd H a (.ins C dx (u3 f y fs))) s'->Q () s'):wpAny (model X.prog X.w) A (setAttr (.ref a) f u) Q E s:=by
 obtain⟨mA,O,r,wi,_,ho⟩:=yW I.bG e;have hz:(fs.map (·.1)).length<=sizeLine:=by rw[ak,kf];omega
 refine Sa I.gm O c.sa c.po n.WH c.hd wi hz λh' O' sb=>h _ ?_;have hd:∃o,h'.get? dx=some o:=let ⟨o,_,_,e',_⟩:=O'.ns;⟨o,e'⟩
 refine I.write (x:=a) (e:=dx) (by rw[e];exact True.intro) (.inr ho) (λb q hb z=>(sb.2 b hb).trans z) hd ?_;refine⟨by rw[i7 O.ne];exact ho,?_,O.ne,O'.obj,_,O'.ns,λg=>?_,λg hg=>?_⟩
 ·have:=IE f y fs;omega
 ·show B3 ((u3 f y fs).lookup g) (if g=f then some u else mA g);rw[IF];by_cases q:g=f
  ·rw[au q,au q];exact ry
  ·rw[ax q,ax q];exact r g
 ·by_cases q:g=f
  ·rw[q];exact(CO f y fs).1
  ·refine(CO f y fs).2 g (wi g λz=>hg ?_);show(if g=f then some u else mA g)=none;rw[ax q];exact z
theorem Inv.made(I:Inv X pins σ H s):Inv X pins σ (upd (upd H s.heap.objs.size (.own (s.heap.objs.size+1))) (s.heap.objs.size+1) (.ins C s.heap.objs.size []))
  { s with heap:=(s.heap.push PySem.W.emptyDict).push (PySem.W.instObj C s.heap.objs.size) }:=by
 have e1:(s.heap.push PySem.W.emptyDict).get? s.heap.objs.size=some PySem.W.emptyDict:=aF s.heap rfl;have e2:((s.heap.push PySem.W.emptyDict).push (PySem.W.instObj C s.heap.objs.size)).get? (s.heap.objs.size+1)=some (PySem.W.instObj C s.heap.objs.size):=by
  have:=aF (s.heap.push PySem.W.emptyDict) (o:=PySem.W.instObj C s.heap.objs.size) rfl
  rwa [fB] at this
 have e3:(s.heap.push PySem.W.emptyDict).Ns s.heap.objs.size (λ_=>none):=⟨PySem.W.emptyDict,#[],_,e1,rfl,(λe he=>absurd he (by simp)),λ_=>rfl⟩
 have I1:=I.laid (a:=s.heap.objs.size) (o:=.own (s.heap.objs.size+1)) (h':=s.heap.push PySem.W.emptyDict) (t':=s.toks) (λb u q=>ai _ q) (aj _) ⟨_,e1⟩;refine I1.laid (a:=s.heap.objs.size+1) (o:=.ins C s.heap.objs.size []) (t':=s.toks) (λb u q=>ai _ q) (Nat.le_of_eq (fB _ _)) ?_;have ne:s.heap.objs.size≠s.heap.objs.size+1:=aR (fq _);refine⟨by rw[i7 ne,m9],cI _,ne,e2,λ_=>none,(Heap.Ns1.of_empty e3).at λo q=>ai _ q,λ_=>True.intro,λy hy=>absurd rfl hy⟩
theorem QC{prog:Program}{w:World}{env:Env}{e:Expr}{f:Str}{pos:Pos}{s:Shared}{Q:Value->Shared->Prop}(hb:attributeBase e f env (eval e env)=eval e env)(h:wpAny (model prog w) A (eval e env) (λo bW=>wpAny (model prog w) A (getAttr o f true) Q E bW) E s):wpAny (model prog w) A (eval (.Attribute e f pos) env) Q E s :=
 Attribute_any_ h (by rw[arm_eval_Attribute,hb])
end
def UB(K:PySem.W.Frag)(ta:TE)(f:Str):TE:=λσ H Q=>ta σ H λx H1=>∃a C dx fs v,x=.ref a/\H1 a=some (.ins C dx fs)/\iT K C/\w5 K C f/\fs.lookup f=some v/\Q v H1
def Uo(K:PySem.W.Frag)(ta tv:TE)(f:Str):TS:=λD σ H=>tv σ H λy H1=>ta σ H1 λx H2=>∃a C dx fs,x=.ref a/\H2 a=some (.ins C dx fs)/\iT K C/\w5 K C f/\fs.length<1000 /\
 D.nx σ (upd H2 a (.ins C dx (u3 f y fs)))
def BP(X:Cx)(op:Operator)(rd:V->V->Hp->VK->Prop):Prop :=
 ∀(pins:List (Addr×Obj)) (s:Shared) (σ:St) (H:Hp) (x y:V) (u v:Value) (Q:VK),Inv X pins σ H s->RelV x u->RelV y v->rd x y H Q->wpAny (model X.prog X.w) X.A (inplaceOp op u v) (EP X pins σ Q) X.xe s
def RP(K:PySem.W.Frag)(ta tv:TE)(rd:V->V->Hp->VK->Prop)(f:Str):TS:=λD σ H=>ta σ H λx H1=>∃a C dx fs v,x=.ref a/\H1 a=some (.ins C dx fs)/\iT K C/\w5 K C f/\fs.lookup f=some v /\
 tv σ H1 λy H2=>rd v y H2 λz H3=>∃sZ iR,H3 a=some (.ins C sZ iR)/\iR.length<1000/\D.nx σ (upd H3 a (.ins C sZ (u3 f z iR)))
section
variable{X:Cx}{o e value:Expr}{f:Str}{pos pos' uq:Pos}{ta tv:TE}
theorem OI(he:PE X e ta)(hb:attributeBase e f X.env (eval e X.env)=eval e X.env):PE X (.Attribute e f pos) (UB X.K ta f):=by
 intro pins s σ H Q I h;refine QC hb (cw (he pins s σ H _ I h) λu s1 bh=>?_);obtain⟨x,H1,I1,rx,a,C,dx,fs,v,ex,ea,c,n,l,q⟩:=bh;subst ex;obtain rfl:u=Value.ref a:=rx;exact Io I1 ea c n l λu' s2 I2 ru=>⟨v,H1,I2,ru,q⟩
theorem OU(ha:PE X o ta)(hv:PE X value tv)(hs:swapsWith value (some (.Attribute o f pos')) pos.line X.env=pure false):PS X (.Assign [.Attribute o f pos'] value pos) (Uo X.K ta tv f):=by
 intro pins s σ H D I h;refine plainObj_wpAny_Assign_Attribute (cw (hv pins s σ H _ I h) λu s1 ⟨y,H1,I1,ry,q⟩=>cw (ha pins s1 σ H1 _ I1 q) λov s2 bh=>?_) hs;obtain⟨x,H2,I2,rx,a,C,dx,fs,ex,ea,c,n,l,q2⟩:=bh;subst ex;obtain rfl:ov=Value.ref a:=rx;exact Iy I2 ea c n l ry λs3 I3=>⟨σ,_,I3,q2⟩
theorem YN{op:Operator}{rd:V->V->Hp->VK->Prop}(ha:PE X o ta)(hv:PE X value tv)(om:BP X op rd):PS X (.AugAssign (.Attribute o f uq) op value pos) (RP X.K ta tv rd f):=by
 intro pins s σ H D I h;refine wpAny_AugAssign_AttributeAny (cw (ha pins s σ H _ I h) λov s1 bh=>?_);obtain⟨x,H1,I1,rx,a,C,dx,fs,v,ex,ea,c,n,l,q⟩:=bh;subst ex;obtain rfl:ov=Value.ref a:=rx;refine Io I1 ea c n l λu s2 I2 ru=>cw (hv pins s2 σ H1 _ I2 q) λw3 s3 ⟨y,H2,I3,ry,q3⟩=>cw (om pins s3 σ H2 v y u w3 _ I3 ru ry q3) λw4 s4 bh=>?_;obtain⟨z,H3,I4,rz,sZ,iR,Om,l',q4⟩:=bh;exact Iy I4 Om c n l' rz λs5 I5=>⟨σ,_,I5,q4⟩
def Ub:V->V->Hp->VK->Prop:=λx y H Q=>∃i j,x=.int i/\y=.int j/\Q (.int (i+j)) H
theorem Xi:BP X .Add Ub:=by
 rintro pins s σ H x y u v Q I rx ry ⟨i,j,rfl,rfl,q⟩;obtain⟨t,rfl⟩:=(show ∃t,u=Value.int i t from rx)
 obtain⟨t',rfl⟩:=(show ∃t',v=Value.int j t' from ry)
 exact PyProof.Rows.iadd_int ⟨.int (i+j),H,I.tok _,⟨_,rfl⟩,q⟩
end
section
variable{X:Cx}{pins:List (Addr×Obj)}{σ:St}{H:Hp}{s:Shared}{A:Around}{E:Value->Shared->Prop}{Q:Value->Shared->Prop}{c:Value}{b:Bool}
inductive gM(K:PySem.W.Frag)(H:Hp):V->Value->Prop where
 |aQ:gM K H .aQ (.type "NoneType")
 |bl (x:Bool):gM K H (.bl x) (.type "bool")
 |int (i:Int):gM K H (.int i) (.type "int")
 |str (x:Str):gM K H (.str x) (.type "str")
 |rq (x:UInt64):gM K H (.rq x) (.type "float")
 |lst {a:Addr} {xs:List V} (e:H a=some (.lst xs)):gM K H (.ref a) (.type "list")
 |jq {a:Addr} {o:Obj} {xs:List V} (e:H a=some (.jq o (.lst xs))):gM K H (.ref a) (.type "list")
 |tup {a:Addr} {xs:List V} (e:H a=some (.tup xs)):gM K H (.ref a) (.type "tuple")
 |dK {a:Addr} {kvs:List (Key×V)} (e:H a=some (.dK kvs)):gM K H (.ref a) (.type "dict")
 |dT {a:Addr} {kvs:List (List Key×V)} (e:H a=some (.dT kvs)):gM K H (.ref a) (.type "dict")
 |ins {a C dx:Addr} {fs:List (Str×V)} (e:H a=some (.ins C dx fs)) (cl:iT K C) (ha:PySem.W.findIn K (.ref C) "__class__"=some (some (.builtin "object.__class__")))
   (hn:PySem.W.specialIn K (.builtin "object.__class__") "__get__"=some (some (.builtin "getset_descriptor.__get__"))) (xK:PySem.W.takesIn K (.builtin "object.__class__")=some true)
   (hm:PySem.W.mroIn K C (.type "object")=some true):gM K H (.ref a) (.ref C)
theorem a02{x:V}{u t:Value}(I:Inv X pins σ H s)(rx:RelV x u)(ty:gM X.K H x t)(e:PySem.W.kitOne X.K t c=some b)(h:∀tk,Q (.bool b) { s with toks:=tk }) :
  wpAny (model X.prog X.w) A (call (.builtin "isinstance") [u,c]) Q E s:=by
 cases ty with
 |aQ=>cases (show u=Value.none from rx);exact bK PySem.W.kitx_none I.gm True.intro e (λz=>nomatch z) h
 |bl y=>cases (show u=Value.bool y from rx);exact bK PySem.W.kitx_bool I.gm True.intro e (λz=>nomatch z) h
 |int i=>obtain⟨t,q⟩:=(show ∃t,u=Value.int i t from rx);cases q;exact bK PySem.W.kitx_int I.gm True.intro e (λz=>nomatch z) h
 |str y=>obtain⟨t,q⟩:=(show ∃t,u=Value.str y t from rx);cases q;exact bK PySem.W.kitx_str I.gm True.intro e (λz=>nomatch z) h
 |rq y=>obtain⟨t,q⟩:=(show ∃t,u=Value.float y t from rx);cases q;exact bK PySem.W.kitx_float I.gm True.intro e (λz=>nomatch z) h
 |@lst a xs ea =>
  cases (show u=Value.ref a from rx);obtain⟨_,_,n,_,h1⟩:=(show j4 X.prog X.w H s.heap a (.lst xs) from I.bG a _ ea)
  exact bK PySem.W.kitx_list I.gm ⟨_,h1,rfl⟩ e (λz=>nomatch z) h
 |@jq a ob xs ea =>
  cases (show u=Value.ref a from rx);obtain⟨_,_,_,n,_,h1⟩:=(show j4 X.prog X.w H s.heap a (.jq ob (.lst xs)) from I.bG a _ ea)
  exact bK PySem.W.kitx_list I.gm ⟨_,h1,rfl⟩ e (λz=>nomatch z) h
 |@tup a xs ea =>
  cases (show u=Value.ref a from rx);obtain⟨_,_,_,p⟩:=(show j4 X.prog X.w H s.heap a (.tup xs) from I.bG a _ ea)
  obtain⟨o,h1,h2,_⟩:=p;exact bK Lr I.gm ⟨o,h1,h2⟩ e (λz=>nomatch z) h
 |@dK a kvs ea =>
  cases (show u=Value.ref a from rx);obtain⟨_,_,vs,_,p⟩:=(show j4 X.prog X.w H s.heap a (.dK kvs) from I.bG a _ ea)
  obtain⟨o,es,ep,h1,h2,_⟩:=p;exact bK PySem.W.kitx_dict I.gm ⟨o,h1,h2.1⟩ e (λz=>nomatch z) h
 |@dT a kvs ea =>
  cases (show u=Value.ref a from rx);obtain⟨_,_,xs,_,o,es,ep,h1,h2,_⟩:=(show j4 X.prog X.w H s.heap a (.dT kvs) from I.bG a _ ea)
  exact bK PySem.W.kitx_dict I.gm ⟨o,h1,h2.1⟩ e (λz=>nomatch z) h
 |@ins a C dx fs ea cl ha hn xK hm =>
  cases (show u=Value.ref a from rx);obtain⟨mA,O,_⟩:=yW I.bG ea;obtain⟨od,J,_⟩:=O.look;exact bK (PySem.W.kitx_own (cl.get _) cl.hd ha hn xK hm) I.gm J e (λz=>nomatch z) h
end
structure p8(k:Nat)(A:Around):Prop where
 hd:A.handled=none
 dp:A.depth+3*k+5<recursionLimit
 un:A.units+16*k+200<cLine
theorem p8.mono{j k:Nat}{A:Around}(r:p8 k A)(h:j<=k):p8 j A:=⟨r.hd,by have:=r.dp;omega,by have:=r.un;omega⟩
theorem p8.deeper{k:Nat}{A:Around}(r:p8 (k+1) A)(env:Env):p8 k (A.deeper env) :=
 ⟨r.hd,by have:=r.dp;show A.depth+1+3*k+5<_;omega,by have:=r.un;show A.units+3+16*k+200<_;omega⟩
theorem Zv{A:Around}{C:Addr}{us:List Value}{kw:List (Str×Value)}:(A.under (.builtin "type.__call__" ⟨.ref C::us,kw⟩)).depth=A.depth+1:=by
 first|rfl|simp[Around.under,Code.weight,Code.isCreation,Code.isGuard,Code.isCaller,Code.frames,Code.isFrame,guardIds]
theorem Zw{A:Around}{C:Addr}{us:List Value}{kw:List (Str×Value)}:(A.under (.builtin "type.__call__" ⟨.ref C::us,kw⟩)).units=A.units+1:=by
 first|rfl|simp[Around.under,Code.cUnits,Code.frames,Code.isFrame]
theorem p8.make{k:Nat}{A:Around}(r:p8 (k+1) A)(C:Addr)(us:List Value)(kw:List (Str×Value)):p8 k (A.under (.builtin "type.__call__" ⟨.ref C::us,kw⟩)) :=
 ⟨r.hd,by have:=r.dp;rw[Zv];omega,by have:=r.un;rw[Zw];omega⟩
theorem p8.depth{k:Nat}{A:Around}(r:p8 k A):A.depth<recursionLimit:=by have:=r.dp;omega
def Gn:TA:=λ_ H Q=>Q [] H
def WA(ta:TE)(tr:TA):TA:=λσ H Q=>ta σ H λx H1=>tr σ H1 λxs H2=>Q (x::xs) H2
section
variable{X:Cx}{e:Expr}{es:List Expr}{te:TE}{t:TA}{pos:Pos}
theorem P4:PA X [] Gn:=λ_ _ _ _ H Q I h=>Calls.spliced_nil ⟨[],H,I,.nil,h⟩
theorem I9(ha:PE X e te)(hr:PA X es t)(hs:starEach (e::es) X.env=(false,eval e X.env)::starEach es X.env:=by rfl):PA X (e::es) (WA te t):=by
 intro pos pins s σ H Q I h;rw[hs];show wpAny _ _ (spliced ((false,eval e X.env)::backTo pos (starEach es X.env))) _ _ s;refine Calls.spliced_cons (cw (ha pins s σ H _ I h) λu s1 bh=>?_);obtain⟨x,H1,I1,r1,q1⟩:=bh;exact cw (hr pos pins s1 σ H1 _ I1 q1) λus s2 ⟨xs,H2,I2,r2,q2⟩=>⟨x::xs,H2,I2,.cons r1 r2,q2⟩
def UL(t:TA):TE:=λσ H Q=>t σ H λxs H1=>xs.length<=sizeLine/\∀p,H1 p=none->Q (.ref p) (upd H1 p (.tup xs))
def UE(t:TA):TE:=λσ H Q=>t σ H λxs H1=>xs.length<=sizeLine/\∀p,H1 p=none->Q (.ref p) (upd H1 p (.lst xs))
theorem OP{x1}(h:PA X es t):PE X (.Tuple es x1 pos) (UL t):=by
 intro pins s σ H Q I hq;refine wpAny_Tuple_spliced (cw (h pos pins s σ H _ I hq) λus s1 ⟨xs,H1,I1,r,z,q⟩=>⟨by rw[<- r.length];exact z,?_⟩);have hf:H1 s1.heap.objs.size=none:=I1.bG.fresh (aj _);refine⟨.ref s1.heap.objs.size,upd H1 s1.heap.objs.size (.tup xs),I1.laid (t':=s1.toks) (λb u e=>ai _ e) (aj _) ?_,rfl,q _ hf⟩;exact⟨z,us,r,⟨_,aF _ rfl,rfl,⟨_,rfl⟩,rfl⟩⟩
theorem OK(h:PA X es t):PE X (.List es pos) (UE t):=by
 intro pins s σ H Q I hq;refine wpAny_List_spliced (cw (h pos pins s σ H _ I hq) λus s1 ⟨xs,H1,I1,r,z,q⟩=>⟨by rw[<- r.length];exact z,?_⟩);have hf:H1 s1.heap.objs.size=none:=I1.bG.fresh (aj _);refine⟨.ref s1.heap.objs.size,upd H1 s1.heap.objs.size (.lst xs),I1.laid (t':=s1.toks) (λb u e=>ai _ e) (aj _) ?_,rfl,q _ hf⟩;exact⟨z,us,0,r,aF _ rfl⟩
end
noncomputable abbrev Sp:=List V->Hp->VK->XK->Prop
noncomputable abbrev mZ:=List Env->Hp->Shared->XK->Value->Shared->Prop
structure rJ(P:Program)(w:World)(K:PySem.W.Frag)(mg:Str->Option Value)(base:Heap)(A:Around)(outer:List Env)(s:Shared)(H:Hp):Prop where
 frames:A.frames=some outer
 mod:Mod K mg base
 bs:∀b o,base.get? b=some o->s.heap.get? b=some o/\H b=none
 mW:base.objs.size<=s.heap.objs.size
 G0:s.heap.FunFrames base outer
 nB:∀b∈fF outer,H b=none
 bG:fX P w H s.heap
 bare:AllBare s.gens
def CE(outer:List Env)(P:Program)(w:World)(H:Hp)(s:Shared)(Q:VK)(u:Value)(s':Shared):Prop :=
 ∃v H',s'.os=s.os/\AllBare s'.gens/\Un (fF outer) [] H H' s.heap s'.heap/\fX P w H' s'.heap/\RelV v u/\Q v H'
def CR(CX:mZ)(outer:List Env)(P:Program)(w:World)(H:Hp)(s:Shared)(Q:VK)(E:XK)(r:Result)(s':Shared):Prop :=
 match r with
 |.ok (.ret u)=>CE outer P w H s Q u s'
 |.ok _=>False
 |.error e=>CX outer H s E e s'
structure gN(P:Program)(w:World)(K:PySem.W.Frag)(mg:Str->Option Value)(base:Heap)(CX:mZ)(k:Nat)(f:Addr)(fd:FuncData)(ps:List Str)(sp:Sp):Prop where
 len:∀vs H Q E,sp vs H Q E->vs.length=ps.length
 run:∀(A:Around) (outer:List Env) (s:Shared) (H:Hp) (args:Args) (us:List Value) (vs:List V) (Q:VK) (E:XK),p8 k A->rJ P w K mg base A outer s H->BindsTo s fd args (ps.zip us)->Vals vs us->sp vs H Q E ->
  codeAny (model P w) A (.call (.ref f) args) (CR CX outer P w H s Q E) s
theorem rJ.make{P:Program}{w:World}{K:PySem.W.Frag}{mg:Str->Option Value}{base:Heap}{A:Around}{outer:List Env}{s:Shared}{H:Hp}(e:rJ P w K mg base A outer s H)(C:Addr)(us:List Value)(kw:List (Str×Value)) :
  rJ P w K mg base (A.under (.builtin "type.__call__" ⟨.ref C::us,kw⟩)) outer s H:=⟨by first|exact e.frames|(simpa[Around.under,Code.envs,Code.isFrame,pushEnvs] using e.frames),e.mod,e.bs,e.mW,e.G0,e.nB,e.bG,e.bare⟩
section
variable{X:Cx}{pins:List (Addr×Obj)}{σ:St}{H:Hp}{s s':Shared}
theorem Inv.Hy(I:Inv X pins σ H s):rJ X.prog X.w X.K X.mg X.base X.A X.stack s H :=
 ⟨I.ok.frames,I.ok.mod,I.bs,aM I.ok.mW I.sz,I.stack,I.zd,I.bG,I.bare⟩
theorem Inv.after{Q:VK}{u:Value}(I:Inv X pins σ H s)(h:CE X.stack X.prog X.w H s Q u s'):EP X pins σ Q u s':=by
 obtain⟨v,H',os,bare,un,bG,r,q⟩:=h;obtain⟨hh,g,d,t,uF⟩:=s';obtain rfl:uF=s.os:=os;exact⟨v,H',I.call (h':=hh) (g':=g) (d':=d) (t':=t) (ch:=[]) un bG bare (λb z=>absurd z (by simp)),r,q⟩
end
def Wz(sp:Sp)(dvs:List V)(E:XK)(t:TA):TE:=λσ H Q=>t σ H λvs H1=>sp (vs++dvs) H1 Q E
def Hh(C:Addr)(sp:Sp)(dvs:List V)(E:XK)(t:TA):TE:=λσ H Q=>t σ H λvs H1=>∀x dx,H1 x=none->H1 dx=none->dx≠x ->
 sp (.ref x::(vs++dvs)) (upd (upd H1 dx (.own x)) x (.ins C dx [])) (λv H2=>v=.aQ/\Q (.ref x) H2) E
def Binds(K:PySem.W.Frag)(fd:FuncData)(ps:List Str)(ds:List Value):Prop :=
 ∀(s:Shared) (us:List Value),K.In s.heap->(us++ds).length=ps.length->BindsTo s fd ⟨us,[]⟩ (ps.zip (us++ds))
theorem Binds.all{K:PySem.W.Frag}{fd:FuncData}{ps:List Str}(h:∀us:List Value,us.length=ps.length->bindArgs fd ⟨us,[]⟩=pure (ps.zip us)):Binds K fd ps []:=λs us _ hl=>by
 rw[eP] at hl ⊢;exact .of_eq (h us hl)
def Passes(CX:mZ)(X:Cx)(E:XK):Prop:=∀(pins:List (Addr×Obj)) (σ:St) (H:Hp) (s:Shared) (e:Value) (s':Shared),Inv X pins σ H s->CX X.stack H s E e s'->X.xe e s'
section
variable{X:Cx}{CX:mZ}{k:Nat}{f C:Addr}{fd:FuncData}{ps:List Str}{sp:Sp}{dvs:List V}{ds:List Value}{E:XK}{x m:Str}{p pos apos:Pos}{e o:Expr}{es:List Expr}{ta:TE}{t:TA}
theorem Ef{pins:List (Addr×Obj)}{σ:St}{H:Hp}{s:Shared}{Q:VK}{us:List Value}{vs:List V}(F:gN X.prog X.w X.K X.mg X.base CX k f fd ps sp)(hr:p8 k X.A)(hb:Binds X.K fd ps ds)(hd:Vals dvs ds)(hx:Passes CX X E)(I:Inv X pins σ H s)(r:Vals vs us)(h:sp (vs++dvs) H Q E):wpAny (model X.prog X.w) X.A (call (.ref f) us) (EP X pins σ Q) X.xe s:=by
 have r2:Vals (vs++dvs) (us++ds):=r.append hd;have hl:(us++ds).length=ps.length:=by rw[<- r2.length];exact F.len _ _ _ _ h
 refine wpAny_call (fu (F.run X.A X.stack s H ⟨us,[]⟩ (us++ds) (vs++dvs) Q E hr I.Hy (hb s us I.gm hl) r2 h) λr s' hq=>?_);cases r with
 |error e=>exact hx pins σ H s e s' I hq
 |ok fl =>
  cases fl with
  |ret u=>exact I.after hq
  |next=>exact False.elim hq
  |brk=>exact False.elim hq
  |cont=>exact False.elim hq
theorem Rv(F:gN X.prog X.w X.K X.mg X.base CX k f fd ps sp)(hr:p8 k X.A)(hg:Gl X x)(hm:X.mg x=some (.ref f))(hk:PySem.W.keepIn X.K (.ref f)=true)(hb:Binds X.K fd ps ds)(hd:Vals dvs ds)(hx:Passes CX X E)(ha:PA X (e::es) t)(iC:(x==("__debug__":Str))=false:=by decide)(he:starEach (e::es) X.env=(false,eval e X.env)::starEach es X.env:=by rfl)(gu:(backTo pos (starEach es X.env)).any (·.1)=false:=by rfl) :
  PE X (.Call (.Name x p) (e::es) [] pos) (Wz sp dvs E t):=by
 intro pins s σ H Q I h;refine cV (R7 I hg hm ?_ iC);refine jA (h₀:=X.base) I.ok.mod.mx hk (cw (ha pos pins s σ H _ I h) λus s1 ⟨vs,H1,I1,r,q⟩=>⟨I1.gm,?_⟩) he gu;exact Ef F hr hb hd hx I1 r q
structure Mk(K:PySem.W.Frag)(C f:Addr):Prop where
 makes:PySem.W.makesIn K C=true
 init:PySem.W.findIn K (.ref C) "__init__"=some (some (.ref f))
 fn:PySem.W.isFn K (.ref f)=true
 kp:PySem.W.keepIn K (.ref C)=true
theorem KJ{pins:List (Addr×Obj)}{σ:St}{H:Hp}{s:Shared}{Q:VK}{us:List Value}{vs:List V}(M:Mk X.K C f)(F:gN X.prog X.w X.K X.mg X.base CX k f fd ps sp)(hr:p8 (k+1) X.A)(hb:Binds X.K fd ps ds)(hd:Vals dvs ds)(hx:Passes CX X E)(I:Inv X pins σ H s)(r:Vals vs us)(h:∀x dx,H x=none->H dx=none->dx≠x->sp (.ref x::(vs++dvs)) (upd (upd H dx (.own x)) x (.ins C dx [])) (λv H2=>v=.aQ/\Q (.ref x) H2) E) :
  wpAny (model X.prog X.w) X.A (call (.ref C) us) (EP X pins σ Q) X.xe s:=by
 have hq:=h (s.heap.objs.size+1) s.heap.objs.size (I.bG.fresh (lK _)) (I.bG.fresh (aj _)) (aR (fq _));have I2:=Inv.made (C:=C) I;have r2:Vals (V.ref (s.heap.objs.size+1)::(vs++dvs)) (Value.ref (s.heap.objs.size+1)::(us++ds)):=.cons rfl (r.append hd);have hl:(Value.ref (s.heap.objs.size+1)::us++ds).length=ps.length:=by
  have e:=r2.length;rw[F.len _ _ _ _ hq] at e;exact e.symm
 refine wpAny_call (a88 (f:=f) I.gm M.makes M.init (fZ.mp M.fn) (fu (F.run _ X.stack _ _ ⟨Value.ref (s.heap.objs.size + 1) :: us,[]⟩ (Value.ref (s.heap.objs.size + 1) :: (us ++ ds)) _ _ E (hr.make C us [])
  (I2.Hy.make C us []) (hb _ (Value.ref (s.heap.objs.size + 1) :: us) I2.gm hl) r2 hq) λr s' mD=>?_))
 cases r with
 |error e=>exact hx pins σ _ _ e s' I2 mD
 |ok fl =>
  cases fl with
  |ret u =>
   obtain⟨v,H',I3,rv,ev,q3⟩:=I2.after mD;subst ev;exact⟨rv,⟨V.ref (s.heap.objs.size+1),H',I3,rfl,q3⟩⟩
  |next=>exact False.elim mD
  |brk=>exact False.elim mD
  |cont=>exact False.elim mD
theorem Ry(M:Mk X.K C f)(F:gN X.prog X.w X.K X.mg X.base CX k f fd ps sp)(hr:p8 (k+1) X.A)(hg:Gl X x)(hm:X.mg x=some (.ref C))(hb:Binds X.K fd ps ds)(hd:Vals dvs ds)(hx:Passes CX X E)(ha:PA X (e::es) t)(iC:(x==("__debug__":Str))=false:=by decide)(he:starEach (e::es) X.env=(false,eval e X.env)::starEach es X.env:=by rfl)(gu:(backTo pos (starEach es X.env)).any (·.1)=false:=by rfl) :
  PE X (.Call (.Name x p) (e::es) [] pos) (Hh C sp dvs E t):=by
 intro pins s σ H Q I h;refine cV (R7 I hg hm ?_ iC);refine jA (h₀:=X.base) I.ok.mod.mx M.kp (cw (ha pos pins s σ H _ I h) λus s1 ⟨vs,H1,I1,r,q⟩=>⟨I1.gm,?_⟩) he gu;exact KJ M F hr hb hd hx I1 r q
theorem a69(M:Mk X.K C f)(F:gN X.prog X.w X.K X.mg X.base CX k f fd ps sp)(hr:p8 (k+1) X.A)(hg:Gl X x)(hm:X.mg x=some (.ref C))(hb:Binds X.K fd ps ds)(hd:Vals dvs ds)(hx:Passes CX X E)(iC:(x==("__debug__":Str))=false:=by decide):PE X (.Call (.Name x p) [] [] pos) (Hh C sp dvs E Gn):=by
 intro pins s σ H Q I h;refine cV (R7 I hg hm ?_ iC);exact Ez I.gm M.kp (KJ (us:=[]) M F hr hb hd hx I .nil h)
end
section
variable{X:Cx}{CX:mZ}{k:Nat}{f C:Addr}{fd:FuncData}{ps ks:List Str}{sp:Sp}{E:XK}{x m:Str}{p pos apos Mw:Pos}{e o:Expr}{es:List Expr}{iX:List Keyword}{te ta:TE}{t tk:TA}{nm:Option Str}
variable{g:List Value->List Value->List Value}{gV:List V->List V->List V}
end
structure iD(N P:List Str)(sc:Scope):Prop where
 kind:sc.kind=.function
 co:sc.isCoroutine=false
 gen:sc.isGenerator=false
 nd:N.Nodup
 pre:N.take P.length=P
 par:∀x∈P,sc.names.lookup x=some .local\/sc.names.lookup x=some .cell
 mm:∀y∈sc.names,y.2≠.free
theorem HL{kindOf:Str->Option NameKind}{x:Str}:∀{binds:List (Str×Value)} {m:Str->Option Value},(∀v,(x,v)∉binds)->bindL kindOf binds m x=m x
 |[],_,_=>rfl
 |(n,v)::r,m,h=>by
  unfold bindL;rw[HL λw hw=>h w (br _ hw)];split
  ·have:x≠n:=by rintro rfl;exact h v gh
   simp[this]
  ·rfl
theorem HJ{kindOf:Str->Option NameKind}{x:Str}:∀{binds:List (Str×Value)} {m:Str->Option Value},(∀v,(x,v)∉binds)->bindC kindOf binds m x=m x
 |[],_,_=>rfl
 |(n,v)::r,m,h=>by
  unfold bindC;rw[HJ λw hw=>h w (br _ hw)];split
  ·rfl
  ·have:x≠n:=by rintro rfl;exact h v gh
   simp[this]
theorem HK{kindOf:Str->Option NameKind}{x:Str}{v:Value}:∀{P:List Str} {vs:List Value} {i:Nat} {m:Str->Option Value},P.Nodup->P[i]?=some x->vs[i]?=some v->kindOf x=some .local ->
  bindL kindOf (P.zip vs) m x=some v
 |[],_,_,_,_,h,_,_=>by simp at h
 |_::_,[],_,_,_,_,h,_=>by simp at h
 |p::P,w::vs,0,m,nd,h1,h2,hk=>by
  simp at h1 h2;subst h1;subst h2;show bindL kindOf ((p,w)::P.zip vs) m p=_;unfold bindL;rw[HL λv hv=>(fK.mp nd).1 (lW hv).1,au hk];simp
 |p::P,w::vs,i+1,m,nd,h1,h2,hk=>by
  show bindL kindOf ((p,w)::P.zip vs) m x=_;unfold bindL;exact HK (i:=i) (fK.mp nd).2 (by simpa using h1) (by simpa using h2) hk
theorem HI{kindOf:Str->Option NameKind}{x:Str}{v:Value}:∀{P:List Str} {vs:List Value} {i:Nat} {m:Str->Option Value},P.Nodup->P[i]?=some x->vs[i]?=some v->kindOf x≠some .local ->
  bindC kindOf (P.zip vs) m x=some v
 |[],_,_,_,_,h,_,_=>by simp at h
 |_::_,[],_,_,_,_,h,_=>by simp at h
 |p::P,w::vs,0,m,nd,h1,h2,hk=>by
  simp at h1 h2;subst h1;subst h2;show bindC kindOf ((p,w)::P.zip vs) m p=_;unfold bindC;rw[HJ λv hv=>(fK.mp nd).1 (lW hv).1,ax hk];simp
 |p::P,w::vs,i+1,m,nd,h1,h2,hk=>by
  show bindC kindOf ((p,w)::P.zip vs) m x=_;unfold bindC;exact HI (i:=i) (fK.mp nd).2 (by simpa using h1) (by simpa using h2) hk
def start(N:List Str)(vs:List V):St:=vs.map some++List.replicate (N.length-vs.length) none
def oW(CX:mZ)(P:Program)(w:World)(K:PySem.W.Frag)(mg:Str->Option Value)(base:Heap)(N:List Str)(qual:Str)(scope:Scope)(f:Addr)(cd:Value)(A:Around)(outer:List Env)(s:Shared)(H:Hp)(E:XK):Cx where
 prog:=P
 w:=w
 K:=K
 mg:=mg
 base:=base
 A:=A.deeper (envOfC qual scope s.heap.objs.size f cd)
 N:=N
 dz:=s
 iY:=H
 env:=envOfC qual scope s.heap.objs.size f cd
 outer:=outer
 stack:=envOfC qual scope s.heap.objs.size f cd::outer
 ex:=[]
 calm:=true
 fn:=λ_=>true
 pn:=[]
 xe:=λe s'=>wpAny (model P w) (A.deeper (envOfC qual scope s.heap.objs.size f cd)) (leaving (envOfC qual scope s.heap.objs.size f cd) e) (λ_ nX=>CX outer H s E e nX) (λe' nX=>CX outer H s E e' nX) s'
theorem CB{sc:Scope}{n:Nat}{x:Str}(h:sc.names.lookup x=some .cell):∃c,(cellsFrom n sc.names []).lookup x=some c:=by
 have q:=dF sc.names n [] (.inl h);exact eL.mp q
theorem a03{CX:mZ}{P:Program}{w:World}{K:PySem.W.Frag}{mg:Str->Option Value}{base:Heap}{N ps:List Str}{qual:Str}{scope:Scope}{f:Addr}{cd:Value}{A:Around}{outer:List Env}{s s1:Shared}{H:Hp}{E:XK}{us:List Value}{vs:List V}(S:iD N ps scope)(hd:A.handled=none)(e0:rJ P w K mg base A outer s H)(hl:vs.length=ps.length)(r:Vals vs us)(x:InCallC s s.heap.objs.size (bindL (envOfC qual scope s.heap.objs.size f cd).kindOf (ps.zip us) λ_=>none) (cellsFrom (s.heap.objs.size+1) scope.names []) (bindC (envOfC qual scope s.heap.objs.size f cd).kindOf (ps.zip us) λ_=>none) s1) :
  Inv (oW CX P w K mg base N qual scope f cd A outer s H E) [] (start N vs) H s1:=by
 have gu:ps.length<=N.length:=by have:=fY List.length S.pre;rw[dt] at this;omega
 obtain⟨h1,tk,rfl,hk⟩:=x.done;have uL:∀b:Addr,b∉(oW CX P w K mg base N qual scope f cd A outer s H E).ex:=λb z=>absurd (show b∈([]:List Addr) from z) (by simp);refine ⟨⟨e0.mod,S.kind,rfl,rfl,aj _,λy z c h1 h2=>?_,λy hy=>?_,λy c _ h=>?_,λ_=>hd,Around.frames_deeper e0.frames,.inr ⟨rfl,rfl⟩,λb z=>absurd z (uL b),e0.bs,e0.mW,λb _ _=>uL b,λb z=>absurd z (uL b),e0.G0,e0.nB⟩,
  rfl,e0.bare,Un.kept hk,⟨_,x.toInCall.ns,λi y v h1 h2 h3=>?_⟩,λy c h=>⟨_,x.cell y c h⟩,e0.bG.fresh (aj _),λy c h=>?_,λp hp=>absurd (show p ∈ ([]:List (Addr × Obj)) from hp) (by simp),e0.bG.kept hk,?_⟩
 ·exact name_of_addr x.apart (aJ h1) (aJ h2)
 ·have hy:scope.names.lookup y=some .cell\/scope.names.lookup y=some .free:=hy;rcases hy with hy|hy
  ·exact CB hy
  ·exact absurd rfl (S.mm _ (aJ hy))
 ·exact dX (x.above y c (aJ h))
 ·have hi:i<vs.length:=by
   unfold start at h2;by_cases hi:i<vs.length
   ·exact hi
   ·rw[cL (by simpa using hi)] at h2;rw[du] at h2;split at h2<;>cases h2
  have ha:vs[i]?=some v:=by
   unfold start at h2;rw[aA (by simpa using hi),aE] at h2;cases e:vs[i]? with
   |none=>rw[e] at h2;cases h2
   |some a=>rw[e] at h2;cases h2;rfl
  obtain⟨u,hu,rv⟩:=r.get ha;have hp:ps[i]?=some y:=by
   rw[<- S.pre,List.getElem?_take_of_lt (by omega)];exact h1
  have Fc:ps.Nodup:=by rw[<- S.pre];exact S.nd.sublist (List.take_sublist _ _)
  refine⟨u,rv,?_⟩;rcases S.par y (aH hp) with k|k
  ·exact .inl ⟨k,HK Fc hp hu k⟩
  ·obtain⟨c,e⟩:=CB (n:=s.heap.objs.size+1) k;refine .inr ⟨.inl k,c,e,?_⟩;have q:=x.cell y c e;rw[HI Fc hp hu (by show scope.names.lookup y≠_;rw[k];decide)] at q;exact q
 ·exact e0.bG.fresh (dX (x.above y c (aJ h)))
 ·unfold start;show _=N.length;rw[aU,ak,iG];omega
theorem Vv{CX:mZ}{P:Program}{w:World}{K:PySem.W.Frag}{mg:Str->Option Value}{base:Heap}{k:Nat}{f:Addr}{name qual:Str}{params:Arguments}{body:List Stmt}{scope:Scope}{dV kV doc pm fG ct oc:Value}{an od:Option Addr}{lP:Array (Option Value)}{N ps:List Str}{sp:Sp}(lk:K.lookup f=some ⟨oc,od,.func (PySem.W.fnOf name qual params body scope dV kV doc pm an fG ct),lP⟩)(lz:PySem.W.codeIn K fG qual=true)(S:iD N ps scope)(len:∀vs H Q E,sp vs H Q E->vs.length=ps.length)(vI:∀ (A:Around) (outer:List Env) (s:Shared) (H:Hp) (vs:List V) (Q:VK) (E:XK),p8 k (A.deeper (envOfC qual scope s.heap.objs.size f fG))->sp vs H Q E ->
   ∃ t,jb (oW CX P w K mg base N qual scope f fG A outer s H E) body t/\t { nx:=λ_ H'=>Q .aQ H',rt:=Q } (start N vs) H) :
  gN P w K mg base CX (k+1) f (PySem.W.fnOf name qual params body scope dV kV doc pm an fG ct) ps sp:=by
 refine⟨len,λA outer s H args us vs Q E hr e0 hb r sG=>?_⟩;have hl:=len _ _ _ _ sG;have KX:K.In s.heap:=e0.mod.mx.keeps λb o e=>(e0.bs b o e).1;have lim:s.heap.NoLimit:=e0.mod.nolimit.keeps λb o e=>(e0.bs b o e).1;have kH:∀y∈ps.zip us,scope.names.lookup y.1=some .local\/(scope.names.lookup y.1=some .cell/\((cellsFrom (s.heap.objs.size+1) scope.names []).lookup y.1).isSome=true):=λ⟨n,v⟩ hy=>by
  rcases S.par n (lW hy).1 with q|q
  ·exact .inl q
  ·exact .inr ⟨q,dF _ _ _ (.inl q)⟩
 refine codeAny_call_function hr.depth (KX _ _ lk) rfl S.co S.gen rfl (PySem.W.codeRec_of KX lz) (hb _ _ _ _ ?_);refine wpAny_newFunctionEnv_cells S.kind kH λenv he s1 x=>?_;subst he;refine⟨lim.keeps x.toInCall.keep,codeAny_func ?_⟩;obtain⟨t,ht,hq⟩:=vI A outer s H vs Q E (hr.deeper _) sG;have I:Inv (oW CX P w K mg base N qual scope f fG A outer s H E) [] (start N vs) H s1:=a03 S hr.hd e0 hl r x;refine bQ (ht [] s1 (start N vs) H _ I hq) (λfl s' hs=>?_) λe s' hs=>hs;have fin:∀{cj:St} {H':Hp} {v:V} {u:Value},Inv (oW CX P w K mg base N qual scope f fG A outer s H E) [] cj H' s'->RelV v u->Q v H'->CE outer P w H s Q u s' :=
  λ{cj H' v u} J rv q=>⟨v,H',J.os,J.bare,J.base,J.bG,rv,q⟩
 cases fl with
 |ret u =>
  obtain⟨v,cj,H',J,rv,q⟩:=hs;exact fin J rv q
 |next =>
  obtain⟨cj,H',J,q⟩:=hs;exact fin (v:=V.aQ) (u:=Value.none) J rfl q
 |brk =>
  obtain⟨_,_,_,q⟩:=hs;exact False.elim q
 |cont =>
  obtain⟨_,_,_,q⟩:=hs;exact False.elim q
section
variable{X:Cx}{x:Str}{p pos:Pos}{e:Expr}{es:List Expr}{t:TA}{id T:String}{r:List V->Hp->VK->Prop}
def zP(r:List V->Hp->VK->Prop)(t:TA):TE:=λσ H Q=>t σ H λvs H1=>r vs H1 Q
theorem zm(hc:l9 X (.builtin id) r)(hg:Gl X x)(hm:X.mg x=none)(hv:bootBuiltins x=some (.builtin id))(ha:PA X (e::es) t)(hn:x≠"__name__":=by decide)(iC:(x==("__debug__":Str))=false:=by decide)(he:starEach (e::es) X.env=(false,eval e X.env)::starEach es X.env:=by rfl)(gu:(backTo pos (starEach es X.env)).any (·.1)=false:=by rfl):PE X (.Call (.Name x p) (e::es) [] pos) (zP r t):=by
 intro pins s σ H Q I h;refine cV (T9 I hg hm hv ?_ hn iC);exact PyProof.Rows.callWith_builtin1 (cw (ha pos pins s σ H _ I h) λus s1 ⟨vs,H1,I1,r1,q1⟩=>hc pins s1 σ H1 vs us Q I1 r1 q1) he gu
theorem D8(hc:l9 X (.type T) r)(hg:Gl X x)(hm:X.mg x=none)(hv:bootBuiltins x=some (.type T))(ha:PA X (e::es) t)(hn:x≠"__name__":=by decide)(iC:(x==("__debug__":Str))=false:=by decide)(he:starEach (e::es) X.env=(false,eval e X.env)::starEach es X.env:=by rfl)(gu:(backTo pos (starEach es X.env)).any (·.1)=false:=by rfl):PE X (.Call (.Name x p) (e::es) [] pos) (zP r t):=by
 intro pins s σ H Q I h;refine cV (T9 I hg hm hv ?_ hn iC);exact cG (cw (ha pos pins s σ H _ I h) λus s1 ⟨vs,H1,I1,r1,q1⟩=>hc pins s1 σ H1 vs us Q I1 r1 q1) he gu
end
end L2

namespace HT
open PySem PyProof.Rows
section
open PySem.SeqAt
open PySem.AutoSeq1 (wpAny_loadPart')
open PySem.MeetsSeq PySem.MeetsSeq2 PySem.MeetsSeq3
end
section
variable{prog:Program}{w:World}{A:Around}{E:Value->Shared->Prop}{s:Shared}
theorem QF{t b:Addr}{vs ws:List Value}{Q:Value->Shared->Prop}(ht:IsTup s.heap t vs.toArray)(hb:IsTup s.heap b ws.toArray)(hv:vs≠[])(h1:ws=[]->Q (.ref t) s)(h2:ws≠[]->Q (.ref s.heap.objs.size) { s with heap:=s.heap.push { cls:=.type "tuple",data:=.seq (vs++ws).toArray } })(hsz:vs.length+ws.length<=sizeLine):wpAny (model prog w) A (binaryOp .Add (.ref t) (.ref b)) Q E s:=by
 obtain⟨⟨cls,dd,data,sl⟩,ho,hc,n,hd⟩:=id ht;obtain⟨⟨wA,pS,data2,kD⟩,ku,nu,n2,hd2⟩:=id hb;simp only at hc hd nu hd2;subst hc hd nu hd2;have e:vs.toArray++ws.toArray=(vs++ws).toArray:=by simp
 by_cases hw:ws=[]
 ·exact concat_meets ⟨_,ho,rfl⟩ ⟨_,ku,rfl⟩ iU lH ig gT (gH _ _)
   (tuple_addW1 t b vs.toArray ws.toArray n n2 dd pS sl kD (by simpa using hv) (by simp[hw])) ⟨ho,ku,h1 hw⟩
 ·refine concat_meets ⟨_,ho,rfl⟩ ⟨_,ku,rfl⟩ iU lH ig gT (gH _ _)
   (tuple_addW2 t b vs.toArray ws.toArray n n2 dd pS sl kD (by simpa using hv) (by simpa using hw) (by rw[ay,ay];exact hsz)) ⟨ho,ku,?_⟩
  rw[e];exact h2 hw
def dE(n d:Nat):Option Int->Nat
 |none=>d
 |some v=>if v<0 then(v+(n:Int)).toNat else min v.toNat n
theorem Pf(n d:Nat)(hd:d<=n)(o:Option Int):dE n d o<=n:=by
 cases o with
 |none=>exact hd
 |some v =>
  show(if v<0 then(v+(n:Int)).toNat else min v.toNat n)<=n;by_cases hv:v<0
  ·rw[au hv];omega
  ·rw[ax hv];exact Nat.min_le_right _ _
theorem Jx(v:Int)(n d:Nat):(if v<0 then max (v+(n:Int)) 0 else min v (n:Int))=((dE n d (some v):Nat):Int):=by
 show(if v<0 then max (v+(n:Int)) 0 else min v (n:Int))=(((if v<0 then(v+(n:Int)).toNat else min v.toNat n):Nat):Int);by_cases hv:v<0
 ·simp only[if_pos hv];omega
 ·simp only[if_neg hv];omega
theorem Ze(lo hi:Option Int)(n:Nat):Builtin.Slice.sliceAdjust lo hi 1 (n:Int)=(((dE n 0 lo:Nat):Int),((dE n n hi:Nat):Int)):=by
 have h1:¬((1:Int)<0):=by omega
 unfold Builtin.Slice.sliceAdjust;simp only[h1,if_false];refine Prod.ext ?_ ?_
 ·cases lo with
  |none=>rfl
  |some v=>exact Jx v n 0
 ·cases hi with
  |none=>rfl
  |some v=>exact Jx v n n
theorem ZD(i j:Nat):Builtin.Slice.slicePlaces (i:Int) (j:Int) 1=j-i:=by
 unfold Builtin.Slice.slicePlaces;have h1:(1:Int)>0:=by omega
 simp only[h1,if_true,Int.ediv_one];split<;>omega
theorem Iz{v:Value}{o:Option Int}{Q:Option Int->Shared->Prop}(p:IsPart v o)(h:Q o s):wpAny (model prog w) A (Builtin.Slice.slicePartIndex v) Q E s:=by
 cases p with
 |none=>exact pk h
 |int i t=>exact slicePart_int h
theorem S6{sl:Addr}{vl vu:Value}{lo hi:Option Int}{n:Nat}{Q:Int×Int×Nat->Shared->Prop}(hs:s.heap.IsSliceOf sl vl vu .none)(pl:IsPart vl lo)(pu:IsPart vu hi)(h:Q (((dE n 0 lo:Nat):Int),1,dE n n hi-dE n 0 lo) s):wpAny (model prog w) A (Builtin.Slice.sliceApplied (.ref sl) (pure (n:Int))) Q E s:=by
 obtain⟨os,ll,mI,nt⟩:=id hs;unfold Builtin.Slice.sliceApplied Builtin.Slice.sliceFields;refine aa (aa (dO ll nt (x:=vl) rfl (aa (dO ll nt (x:=vu) rfl (aa (dO ll nt (x:=.none) rfl (ah ?_)))))));refine aa (pk ?_);show wpAny _ _ (if((1:Int)==0)=true then _ else _) _ _ s;rw[ax (by decide)];refine aa (Iz pl (aa (Iz pu (aa (ah ?_)))));show wpAny _ _ (match Builtin.Slice.sliceAdjust lo hi 1 (n:Int) with|(lo,hi)=>pure (lo,(1:Int),Builtin.Slice.slicePlaces lo hi 1)) _ _ s;rw[Ze lo hi n];show wpAny _ _ (pure (((dE n 0 lo:Nat):Int),(1:Int),Builtin.Slice.slicePlaces ((dE n 0 lo:Nat):Int) ((dE n n hi:Nat):Int) 1)) _ _ s;rw[ZD];exact ah h
theorem a65(xs:Array Value)(i k:Nat):((List.range k).filterMap λ(m:Nat)=>xs[((i:Int)+(m:Int)*1).toNat]?).toArray=((xs.toList.drop i).take k).toArray:=by
 have e:(λ(m:Nat)=>xs[((i:Int)+(m:Int)*1).toNat]?)=λm=>xs[i+m]?:=by
  funext m
  have:((i:Int)+(m:Int)*1).toNat=i+m:=by omega
  rw[this]
 rw[e];have:=pick_run xs i k;rw[Lv] at this;have e2:((λx=>xs[x]?) ∘ λx=>i+x)=λm=>xs[i+m]?:=rfl;rw[e2] at this;rw[this]
theorem Yg{t sl:Addr}{items:Array Value}{vl vu:Value}{lo hi:Option Int}{Q:Value->Shared->Prop}(ht:IsTup s.heap t items)(hs:s.heap.IsSliceOf sl vl vu .none)(pl:IsPart vl lo)(pu:IsPart vu hi)(hw:¬(dE items.size 0 lo=0/\dE items.size items.size hi=items.size))(h:Q (.ref s.heap.objs.size) { s with heap:=s.heap.push { cls:=.type "tuple",data:=.seq ((items.toList.drop (dE items.size 0 lo)).take (dE items.size items.size hi-dE items.size 0 lo)).toArray } })(hsz:items.size<=sizeLine):wpAny (model prog w) A (getItem (.ref t) (.ref sl)) Q E s:=by
 have gJ:sizeOk (.seq ((items.toList.drop (dE items.size 0 lo)).take (dE items.size items.size hi-dE items.size 0 lo)).toArray):=by
  show((items.toList.drop (dE items.size 0 lo)).take (dE items.size items.size hi-dE items.size 0 lo)).toArray.size<=sizeLine;rw[ay,dt,kR,bA];omega
 have hj:dE items.size items.size hi<=items.size:=Pf _ _ (aj _) hi;obtain⟨os,ll,mI,nt⟩:=id hs;have vK:s.TypeIs (.ref sl) "slice":=⟨os,ll,mI⟩
 unfold getItem
 try with_reducible refine bq ?_
 first|refine aa (ah ?_)|skip
 refine aa (nG ht.typeIs (by decide) ?_);refine aa (dH (name:=Str.ofString "__getitem__") ht.typeIs aZ
  (bY aZ ht.typeIs sh ?_ (xq _ _)))
 show wpAny _ _ (Builtin.Tuple.tupleItemsOf (.ref t) >>= _) _ _ s;refine aa (tZ ht ?_);refine aa (dP vK ?_);rw[au (by decide)];refine aa (S6 hs pl pu ?_);have lq:¬((((dE items.size 0 lo:Nat):Int)==0&&(1:Int)==1&&(dE items.size items.size hi-dE items.size 0 lo)==items.size)=true):=by
  intro q;rw[bg,bg] at q;have q1:((dE items.size 0 lo:Nat):Int)=0:=eq_of_beq q.1.1;have q2:dE items.size items.size hi-dE items.size 0 lo=items.size:=eq_of_beq q.2;exact hw ⟨by omega,by omega⟩
 show wpAny _ _ (if(((dE items.size 0 lo:Nat):Int)==0&&(1:Int)==1&&(dE items.size items.size hi-dE items.size 0 lo)==items.size)=true then _ else _) _ _ s;rw[ax lq,a65]
 first
  |exact wpAny_bind (m:=Builtin.Tuple.tupleExact _) (wpAny_newObj_type (wpAny_pure ⟨_,rfl,wpAny_pure h⟩) gJ)
  |exact wpAny_bind (m:=Builtin.Tuple.tupleExact _) (wpAny_newObj_type (wpAny_bind (wpAny_pure (wpAny_pure ⟨_,rfl,wpAny_pure h⟩))) gJ)
  |exact wpAny_bind (wpAny_bind (m:=Builtin.Tuple.tupleExact _) (wpAny_newObj_type (wpAny_pure (wpAny_pure ⟨_,rfl,wpAny_pure h⟩)) gJ))
  |exact wpAny_bind (wpAny_bind (m:=Builtin.Tuple.tupleExact _) (wpAny_newObj_type (wpAny_pure ⟨_,rfl,wpAny_pure h⟩) gJ))
end
end HT
namespace L2
open PySem PySem.Spec PyProof.Rows
noncomputable abbrev TO:=St->Hp->(Option Int->Hp->Prop)->Prop
def PO(X:Cx)(e:Option Expr)(t:TO):Prop :=
 ∀(pins:List (Addr×Obj)) (s:Shared) (σ:St) (H:Hp) (Q:Option Int->Hp->Prop),Inv X pins σ H s->t σ H Q ->
  wpAny (model X.prog X.w) X.A (evalPart e X.env) (λu s'=>∃o H',Inv X pins σ H' s'/\IsPart u o/\Q o H') X.xe s
def So:TO:=λ_ H Q=>Q none H
def WE(t:TE):TO:=λσ H Q=>t σ H λx H1=>∃i,x=.int i/\Q (some i) H1
section
variable{X:Cx}{e:Expr}{te:TE}{lo hi:Option Expr}{tl th:TO}{pos p2:Pos}
theorem zb:PO X none So:=by
 intro pins s σ H Q I h;rw[Lp];exact ah ⟨none,H,I,.none,h⟩
theorem JU(h:PE X e te):PO X (some e) (WE te):=by
 intro pins s σ H Q I hw;rw[evalPart_some];refine cw (h pins s σ H _ I hw) λu s1 bh=>?_;obtain⟨x,H1,I1,r1,q1⟩:=bh;obtain⟨i,rfl,q⟩:=q1;obtain⟨t,rfl⟩:=r1;exact⟨some i,H1,I1,.int i t,q⟩
def xi(X:Cx)(r:V->Option Int->Option Int->Hp->VK->Prop):Prop :=
 ∀(pins:List (Addr×Obj)) (s:Shared) (σ:St) (H:Hp) (x:V) (v vl vu:Value) (lo hi:Option Int) (sl:Addr) (Q:VK),Inv X pins σ H s->RelV x v->s.heap.IsSliceOf sl vl vu .none->IsPart vl lo->IsPart vu hi->r x lo hi H Q ->
  ∃T id,typeLookup (.type T) "__getitem__"=pure (some (.builtin id))/\s.TypeIs v T/\wpAny (model X.prog X.w) X.A (getItem v (.ref sl)) (EP X pins σ Q) X.xe s
def LK(r:V->Option Int->Option Int->Hp->VK->Prop)(te:TE)(tl th:TO):TE:=λσ H Q=>te σ H λx H1=>tl σ H1 λl H2=>th σ H2 λu H3=>r x l u H3 Q
theorem CJ{r:V->Option Int->Option Int->Hp->VK->Prop}(hr:xi X r)(he:PE X e te)(hl:PO X lo tl)(hu:PO X hi th):PE X (.Subscript e (.Slice lo hi none p2) pos) (LK r te tl th):=by
 intro pins s σ H Q I h;refine Subscript_ (cw (he pins s σ H _ I h) λv s1 bh=>?_);obtain⟨x,H1,I1,r1,q1⟩:=bh;refine wpAny_Slice (cw (hl pins s1 σ H1 _ I1 q1) λvl s2 ⟨l,H2,I2,pl,q2⟩=>cw (hu pins s2 σ H2 _ I2 q2) λvu s3 bh=>?_);obtain⟨u,H3,I3,pu,q3⟩:=bh;rw[Lp];refine ah ?_;have I4:Inv X pins σ H3 { s3 with heap:=s3.heap.push { cls:=.type "slice",data:=.fields #[vl,vu,.none] } }:=I3.kept (t':=s3.toks) λb ob q=>ai _ q;obtain⟨T,id,hT,ht,hg⟩:=hr pins { s3 with heap:=s3.heap.push { cls:=.type "slice",data:=.fields #[vl,vu,.none] } } σ H3 x v vl vu l u s3.heap.objs.size Q I4 r1 (lX ..) pl pu q3;show wpAny (model X.prog X.w) X.A (subscriptTail e (.Slice lo hi none p2) v (.ref s3.heap.objs.size)) (EP X pins σ Q) X.xe { s3 with heap:=s3.heap.push { cls:=.type "slice",data:=.fields #[vl,vu,.none] } };exact Ew (ops:=[.ref s3.heap.objs.size,v]) ht hT hg (by with_unfolding_all rfl)
def U0(xs:List V)(lo hi:Option Int):List V:=(xs.drop (HT.dE xs.length 0 lo)).take (HT.dE xs.length xs.length hi-HT.dE xs.length 0 lo)
theorem IC(xs:List V)(lo hi:Option Int):(U0 xs lo hi).length<=xs.length:=by
 unfold U0;rw[dt,kR];omega
def Ul(K:PySem.W.Frag):V->Option Int->Option Int->Hp->VK->Prop:=λx lo hi H Q=>∃a xs,x=.ref a/\gQ K H a xs /\
 ¬(HT.dE xs.length 0 lo=0/\HT.dE xs.length xs.length hi=xs.length)/\∀p,H p=none->Q (.ref p) (upd H p (.tup (U0 xs lo hi)))
theorem PL:xi X (Ul X.K):=by
 intro pins s σ H x v vl vu lo hi sl Q I rx hs pl pu h;obtain⟨a,xs,rfl,hx,hw,q⟩:=h;cases rx;obtain⟨aT,r,ht,hz⟩:=I.tuple hx;have hlen:aT.toArray.size=xs.length:=by rw[ay];exact r.length.symm
 refine⟨"tuple",_,aZ.lookup,ht.typeIs,?_⟩;refine HT.Yg ht hs pl pu (by rw[hlen];exact hw) ?_ (by rw[hlen];exact hz);rw[hlen];refine⟨.ref s.heap.objs.size,_,I.laid (t':=s.toks) (o:=.tup (U0 xs lo hi)) (λb ob q=>ai _ q) (aj _) ?_,rfl,q _ (I.bG.fresh (aj _))⟩;exact⟨aM (IC xs lo hi) hz,_,(r.drop (HT.dE xs.length 0 lo)).take (HT.dE xs.length xs.length hi-HT.dE xs.length 0 lo),E2.new _ _⟩
def Wj(K:PySem.W.Frag):R2:=λx y H Q=>∃a b xs ys,x=.ref a/\y=.ref b/\gQ K H a xs/\gQ K H b ys/\xs≠[]/\xs.length+ys.length<=sizeLine /\
 (ys=[]->Q (.ref a) H)/\(ys≠[]->∀p,H p=none->Q (.ref p) (upd H p (.tup (xs++ys))))
theorem Vals.R6{xs:List V}{us:List Value}(r:Vals xs us):us=[]↔xs=[]:=by
 cases r with
 |nil=>simp
 |cons _ _=>simp
theorem Rk:ft X (binaryOp .Add) (Wj X.K):=by
 intro pins s σ H x y v u Q I rx ry h;obtain⟨a,b,xs,ys,rfl,rfl,ha,hb,hx,hz,q1,q2⟩:=h;cases rx;cases ry;obtain⟨aT,r1,p1,_⟩:=I.tuple ha;obtain⟨my,r2,p2,_⟩:=I.tuple hb;refine HT.QF p1 p2 (λz=>hx (r1.R6.mp z)) (λz=>⟨.ref a,H,I,rfl,q1 (r2.R6.mp z)⟩) (λz=>?_) (by rw[<- r1.length,<- r2.length];exact hz);refine⟨.ref s.heap.objs.size,_,I.laid (t':=s.toks) (o:=.tup (xs++ys)) (λb ob q=>ai _ q) (aj _) ?_,rfl,q2 (λw=>z (r2.R6.mpr w)) _ (I.bG.fresh (aj _))⟩;exact⟨by rw[aU];exact hz,_,r1.append r2,E2.new _ _⟩
end
def kG(n:Nat)(i:Int):Option Nat:=if 0<=i then(if i<n then some i.toNat else none) else if -(n:Int)<=i then some (i+n).toNat else none
def fW{α:Type}(xs:List α)(i:Int):Option α:=(kG xs.length i).bind λj=>xs[j]?
theorem JI{n:Nat}{i:Int}{j:Nat}(h:kG n i=some j):seqIndex? i n=some j/\j<n/\-(n:Int)<=i/\i<n:=by
 unfold kG at h;by_cases h0:0<=i
 ·rw[au h0] at h;by_cases h1:i<n
  ·rw[au h1] at h;have e:i.toNat=j:=aO h;exact⟨by rw[seqIndex_of h0 h1,e],by omega,by omega,h1⟩
  ·rw[ax h1] at h;cases h
 ·rw[ax h0] at h;by_cases h1:-(n:Int)<=i
  ·rw[au h1] at h;have e:(i+n).toNat=j:=aO h;exact⟨by rw[seqIndex_neg (by omega) h1,e],by omega,h1,by omega⟩
  ·rw[ax h1] at h;cases h
theorem Ck{α:Type}{xs:List α}{i:Int}{v:α}(h:fW xs i=some v):∃j,seqIndex? i xs.length=some j/\xs[j]?=some v/\j<xs.length/\-(xs.length:Int)<=i/\i<xs.length:=by
 unfold fW at h;cases e:kG xs.length i with
 |none=>rw[e] at h;cases h
 |some j =>
  rw[e] at h;obtain⟨h1,h2,h3,h4⟩:=JI e;exact⟨j,h1,h,h2,h3,h4⟩
theorem o6{α:Type}{xs:List α}{j:Nat}{v:α}(h:xs[j]?=some v):fW xs (j:Int)=some v:=by
 have hj:j<xs.length:=(aq.mp h).1;have e:kG xs.length (j:Int)=some j:=by
  unfold kG;rw[au (by omega),au (by omega)];simp
 unfold fW;rw[e];exact h
def Cg(b:Expr):Prop:=∀o i,subscripted b false o i=operate [o,i] (getItem o i)
def sg(X:Cx)(r:R2):Prop :=
 ∀(value slice:Expr) (pins:List (Addr×Obj)) (s:Shared) (σ:St) (H:Hp) (x y:V) (v u:Value) (Q:VK),Inv X pins σ H s->RelV x v->RelV y u->r x y H Q ->
  subscripted slice false v u=operate [v,u] (getItem v u)->wpAny (model X.prog X.w) X.A (subscriptTail value slice v u) (EP X pins σ Q) X.xe s
def lF(X:Cx)(id:String)(r:V->List V->Hp->VK->Prop):Prop :=
 ∀(pins:List (Addr×Obj)) (s:Shared) (σ:St) (H:Hp) (x:V) (xs:List V) (v:Value) (us:List Value) (Q:VK),Inv X pins σ H s->RelV x v->Vals xs us->r x xs H Q ->
  wpAny (model X.prog X.w) X.A (call (.builtin id) (v::us)) (EP X pins σ Q) X.xe s
section
variable{X:Cx}{a b:Expr}{ta tb:TE}{pos:Pos}
theorem GX{r:R2}(hr:sg X r)(ha:PE X a ta)(hb:PE X b tb)(hs:Cg b):PE X (.Subscript a b pos) (sk r ta tb):=by
 intro pins s σ H Q I h;exact Subscript_ (BX ha hb I h λv u s2 x y H2 I2 rx ry q=>hr a b pins s2 σ H2 x y v u Q I2 rx ry q (hs _ _))
def Ud(K:PySem.W.Frag):R2:=λx y H Q=>∃p xs i v,x=.ref p/\y=.int i/\gx K H p xs/\fW xs i=some v/\Q v H
def Ug(K:PySem.W.Frag):R2:=λx y H Q=>∃p xs i v,x=.ref p/\y=.int i/\gQ K H p xs/\fW xs i=some v/\Q v H
def Ue:R2:=λx y H Q=>∃z i c,x=.str z/\y=.int i/\z.length<=sizeLine/\fW z.cps.toList i=some c/\Q (.str ⟨#[c]⟩) H
theorem QT:sg X (Ud X.K):=by
 intro value slice pins s σ H x y v u Q I rx ry h hs;obtain⟨p,xs,i,z,rfl,rfl,hq,he,q⟩:=h;cases rx;obtain⟨t,rfl⟩:=ry;obtain⟨aT,r,pl,hz⟩:=I.list hq;obtain⟨j,h1,h2,h3,h4,h5⟩:=Ck he;obtain⟨w,ew,fT⟩:=r.get h2;have hl:=r.length;have hn:=T8;have fin:EP X pins σ Q w s:=⟨z,H,I,fT,q⟩
 by_cases h0:0<=i
 ·have hj:i.toNat=j:=by
   rw[seqIndex_of h0 h5] at h1;exact aO h1
  exact item_listR pl.isList h0 (by omega) (by rw[hj];simpa using ew) fin hs
 ·have hj:(i+(aT.toArray.size:Int)).toNat=j:=by
   rw[seqIndex_neg (by omega) h4] at h1;rw[ay,<- hl];exact aO h1
  exact subscriptTail_builtinR (x:=w) pl.isList.typeIs nH.lookup
   (wpAny_getItem_list_neg (Q:=λr s'=>r=w/\EP X pins σ Q r s') pl.isList (by omega) (by rw[ay]<;>omega) (by omega) (by rw[hj];simpa using ew) ⟨rfl,fin⟩) hs
theorem Xo:sg X (Ug X.K):=by
 intro value slice pins s σ H x y v u Q I rx ry h hs;obtain⟨p,xs,i,z,rfl,rfl,hq,he,q⟩:=h;cases rx;obtain⟨t,rfl⟩:=ry;obtain⟨aT,r,pl,hz⟩:=I.tuple hq;obtain⟨j,h1,h2,h3,h4,h5⟩:=Ck he;obtain⟨w,ew,fT⟩:=r.get h2;have hl:=r.length;have hn:=T8;have fin:EP X pins σ Q w s:=⟨z,H,I,fT,q⟩
 exact subscriptTail_builtinR (x:=w) pl.typeIs slot_tuple_getitem.lookup
  (getItem_tuple (j:=j) (Q:=λr s'=>r=w/\EP X pins σ Q r s') pl (by omega) (by omega) (by rw[ay,<- hl];exact h1) (by simpa using ew) ⟨rfl,fin⟩) hs
theorem Xm:sg X Ue:=by
 intro value slice pins s σ H x y v u Q I rx ry h hs;obtain⟨z,i,c,rfl,rfl,hz,he,q⟩:=h;obtain⟨t,rfl⟩:=rx;obtain⟨t',rfl⟩:=ry;obtain⟨j,h1,h2,h3,h4,h5⟩:=Ck he;have hl:z.cps.toList.length=z.length:=by simp[Str.length]
 rw[hl] at h1 h4 h5;have hn:=T8;exact Ew (typeIs_str s z t) slot_str_getitem.lookup (getItem_str (c:=c) (by
  have e1:decide (i < -(2 ^ 63:Int))=false:=aG (by omega);have e2:decide (i>=2 ^ 63)=false:=aG (by omega);rw [e1,e2,Bool.or_false]) (by rw [h1];simpa using h2) ⟨.str ⟨#[c]⟩,H,I.tok _,⟨_,rfl⟩,q⟩) hs
theorem Zx(aT:List Value)(n j:Nat)(u:Value):Obj.mapSeq (·.setIfInBounds j u) { cls:=.type "list",data:=.seq aT.toArray n }={ cls:=.type "list",data:=.seq (aT.set j u).toArray n }:=by
 simp[Obj.mapSeq]
theorem Inv.lst{pins:List (Addr×Obj)}{σ:St}{H:Hp}{s:Shared}{p:Addr}{xs:List V}(I:Inv X pins σ H s)(h:H p=some (.lst xs)) :
  ∃(aT:List Value) (n:Nat),Vals xs aT/\s.heap.get? p=some { cls:=.type "list",data:=.seq aT.toArray n }/\xs.length<=sizeLine:=by
 obtain⟨z,aT,n,r,e⟩:=I.bG p _ h;exact⟨aT,n,r,e,z⟩
theorem Inv.XA{pins:List (Addr×Obj)}{σ:St}{H:Hp}{s:Shared}{p:Addr}{xs ys:List V}{aT its':List Value}{n n':Nat}{f:Obj->Obj}(I:Inv X pins σ H s)(h:H p=some (.lst xs))(ho:s.heap.get? p=some { cls:=.type "list",data:=.seq aT.toArray n })(hf:f { cls:=.type "list",data:=.seq aT.toArray n }={ cls:=.type "list",data:=.seq its'.toArray n' })(r:Vals ys its')(hz:ys.length<=sizeLine)(t:Nat) :
  Inv X pins σ (upd H p (.lst ys)) { s with heap:=s.heap.update p f,toks:=t }:=by
 have e:(s.heap.update p f).get? p=some { cls:=.type "list",data:=.seq its'.toArray n' }:=by
  rw[aW f ho (by rw[hf]<;>rfl),hf]
 refine I.write (x:=p) (e:=p) (by rw[h];trivial) (.inl rfl) (λb u hb q=>(bx _ _ (aL hb)).trans q) ⟨_,e⟩ ?_;exact⟨hz,its',n',r,e⟩
def Wm:V->V->V->Hp->(Hp->Prop)->Prop:=λo i v H Q=>∃p xs k j,o=.ref p/\i=.int k/\H p=some (.lst xs)/\kG xs.length k=some j/\Q (upd H p (.lst (xs.set j v)))
theorem set_list:BQ X Wm:=by
 intro pins s σ H o i v ov iv u Q I ro ri rv h;obtain⟨p,xs,k,j,rfl,rfl,hp,hj,q⟩:=h;cases ro;obtain⟨t,rfl⟩:=ri;obtain⟨aT,n,r,ho,hz⟩:=I.lst hp;obtain⟨h1,h2,h3,h4⟩:=JI hj;have hl:=r.length;have hn:=T8;have I':Inv X pins σ (upd H p (.lst (xs.set j v))) { s with heap:=s.heap.update p (Obj.mapSeq (·.setIfInBounds j u)) } :=
  I.XA hp ho (Zx aT n j u) (r.set rv j) (by rw[cS];exact hz) s.toks
 by_cases h0:0<=k
 ·have hk:k.toNat=j:=by
   rw[seqIndex_of h0 h4] at h1;exact aO h1
  exact PySem.W.ki_setAt ho h0 (by omega) (by rw[ay,<- hl];exact h4) (by rw[hk];exact⟨_,I',q⟩)
 ·have hk:(k+(aT.toArray.size:Int)).toNat=j:=by
   rw[seqIndex_neg (by omega) h3] at h1;rw[ay,<- hl];exact aO h1
  exact PySem.W.ki_setBack ho (by omega) (by rw[ay,<- hl];exact h3) (by omega) (by rw[hk];exact⟨_,I',q⟩)
theorem aA8(lo hi:Option Int)(n:Nat):(sliceBounds lo hi none n).1=((HT.dE n 0 lo:Nat):Int)/\(sliceBounds lo hi none n).2.1=((HT.dE n n hi:Nat):Int)/\(sliceBounds lo hi none n).2.2=1:=by
 refine⟨?_,?_,rfl⟩
 ·cases lo with
  |none=>simp[sliceBounds,HT.dE]
  |some i =>
   simp only[sliceBounds,HT.dE,Option.getD_none,show(1:Int)>0 by decide,if_true];by_cases h:i<0
   ·simp only[h,if_true]<;>omega
   ·simp only[h,if_false]<;>omega
 ·cases hi with
  |none=>simp[sliceBounds,HT.dE]
  |some i =>
   simp only[sliceBounds,HT.dE,Option.getD_none,show(1:Int)>0 by decide,if_true];by_cases h:i<0
   ·simp only[h,if_true]<;>omega
   ·simp only[h,if_false]<;>omega
theorem XU(aT:List Value)(lo hi:Option Int):slicePick aT.toArray lo hi none=((aT.drop (HT.dE aT.length 0 lo)).take (HT.dE aT.length aT.length hi-HT.dE aT.length 0 lo)).toArray:=by
 obtain⟨h1,h2,h3⟩:=aA8 lo hi aT.toArray.size;unfold slicePick;rw[h1,h2,h3];simp only[sliceRange_one,pick_run,List.size_toArray]<;>rfl
def Uk(K:PySem.W.Frag):V->Option Int->Option Int->Hp->VK->Prop:=λx lo hi H Q=>∃a xs,x=.ref a/\gx K H a xs/\∀p,H p=none->Q (.ref p) (upd H p (.lst (U0 xs lo hi)))
theorem Sg:xi X (Uk X.K):=by
 intro pins s σ H x v vl vu lo hi sl Q I rx hs pl pu h;obtain⟨a,xs,rfl,hx,q⟩:=h;cases rx;obtain⟨aT,r,ht,hz⟩:=I.list hx;have hlen:=r.length;refine⟨"list",_,nH.lookup,ht.isList.typeIs,?_⟩;refine Ll ht.isList hs pl pu .none (by simp) ?_ (by rw[ay]<;>omega);rw[XU,<- hlen];refine⟨.ref s.heap.objs.size,_,I.laid (t':=s.toks) (o:=.lst (U0 xs lo hi)) (λb ob q=>ai _ q) (aj _) ?_,rfl,q _ (I.bG.fresh (aj _))⟩;exact⟨aM (IC xs lo hi) hz,_,0,(r.drop (HT.dE xs.length 0 lo)).take (HT.dE xs.length xs.length hi-HT.dE xs.length 0 lo),aF _ rfl⟩
def L0:V->Bool
 |.aQ=>true
 |.bl _=>true
 |.int _=>true
 |.str _=>true
 |_=>false
def kM:V->V->Bool
 |.aQ,.aQ=>true
 |.bl a,.bl b=>a==b
 |.bl a,.int b=>(if a then 1 else 0)==b
 |.int a,.bl b=>a==(if b then 1 else 0)
 |.int a,.int b=>a==b
 |.str a,.str b=>a==b
 |_,_=>false
theorem Xf{A:Around}{s:Shared}{y x:V}{u v:Value}(ry:RelV y u)(rx:RelV x v)(fy:L0 y=true)(fx:L0 x=true):SeqAt.EqAt A s u v (kM y x):=by
 cases y with
 |aQ =>
  cases ry;cases x with
  |aQ=>cases rx;exact SeqAt.EqAt.same _
  |bl b=>cases rx;exact SeqAt.EqAt.none_bool b
  |int b=>obtain⟨t,rfl⟩:=rx;exact SeqAt.EqAt.none_int b t
  |str b=>obtain⟨t,rfl⟩:=rx;exact SeqAt.EqAt.none_str b t
  |_=>exact absurd (show false=true from fx) Bool.false_ne_true
 |bl a =>
  cases ry;cases x with
  |aQ=>cases rx;exact SeqAt.EqAt.bool_none a
  |bl b=>cases rx;exact SeqAt.EqAt.bool_bool a b
  |int b=>obtain⟨t,rfl⟩:=rx;exact SeqAt.EqAt.bool_int a b t
  |str b=>obtain⟨t,rfl⟩:=rx;exact SeqAt.EqAt.bool_str a b t
  |_=>exact absurd (show false=true from fx) Bool.false_ne_true
 |int a =>
  obtain⟨t',rfl⟩:=ry;cases x with
  |aQ=>cases rx;exact SeqAt.EqAt.int_none a t'
  |bl b=>cases rx;exact SeqAt.EqAt.int_bool a t' b
  |int b=>obtain⟨t,rfl⟩:=rx;exact SeqAt.EqAt.int_int a t' b t
  |str b=>obtain⟨t,rfl⟩:=rx;exact SeqAt.EqAt.int_str a t' b t
  |_=>exact absurd (show false=true from fx) Bool.false_ne_true
 |str a =>
  obtain⟨t',rfl⟩:=ry;cases x with
  |aQ=>cases rx;exact SeqAt.EqAt.str_none a t'
  |bl b=>cases rx;exact SeqAt.EqAt.str_bool a t' b
  |int b=>obtain⟨t,rfl⟩:=rx;exact SeqAt.EqAt.str_int a t' b t
  |str b=>obtain⟨t,rfl⟩:=rx;exact SeqAt.EqAt.str_str a t' b t
  |_=>exact absurd (show false=true from fx) Bool.false_ne_true
 |_=>exact absurd (show false=true from fy) bI
def sY(x:V)(u:Value):Bool:=match u with
 |.none=>kM .aQ x
 |.bool b=>kM (.bl b) x
 |.int i _=>kM (.int i) x
 |.str z _=>kM (.str z) x
 |_=>false
theorem DX{x y:V}{u:Value}(r:RelV y u)(f:L0 y=true):sY x u=kM y x:=by
 cases y with
 |aQ=>cases r;rfl
 |bl b=>cases r;rfl
 |int i=>obtain⟨t,rfl⟩:=r;rfl
 |str z=>obtain⟨t,rfl⟩:=r;rfl
 |_=>exact absurd (show false=true from f) bI
theorem CI{A:Around}{s:Shared}{x:V}{v:Value}(rx:RelV x v)(fx:L0 x=true):∀{xs:List V} {us:List Value},Vals xs us->xs.all L0=true->∀u∈us,SeqAt.EqAt A s u v (sY x u)
 |_,_,.nil,_=>λu hu=>by cases hu
 |y::xs,u::us,.cons r t,f=>λu' hu=>by
  rw[jt,bg] at f;rcases aI.mp hu with rfl|hu
  ·rw[DX r f.1];exact Xf r rx f.1 fx
  ·exact CI rx fx t f.2 u' hu
theorem aF8:l9 X (.builtin "len") (λxs H Q=>∃p ys,xs=[.ref p]/\(gx X.K H p ys\/gQ X.K H p ys)/\Q (.int ys.length) H):=by
 intro pins s σ H xs us Q I r h;obtain⟨p,ys,rfl,hq,q⟩:=h;obtain⟨u,rfl,rx⟩:=vals1 r;cases rx;have hn:=T8;rcases hq with hq|hq
 ·obtain⟨aT,r',pl,hz⟩:=I.list hq;have hlen:=r'.length;exact Calls.call_len_list pl.isList (by simp only[List.size_toArray]<;>omega) ⟨.int ys.length,H,I.tok _,⟨s.toks+1,by rw[ay,hlen]⟩,q⟩
 ·obtain⟨aT,r',pl,hz⟩:=I.tuple hq;have hlen:=r'.length;exact len_tuple pl (by simp only[List.size_toArray]<;>omega) ⟨.int ys.length,H,I.tok _,⟨s.toks+1,by rw[ay,hlen]⟩,q⟩
theorem aF7:l9 X (.builtin "len") (λxs H Q=>∃z,xs=[.str z]/\z.length<=sizeLine/\Q (.int z.length) H):=by
 intro pins s σ H xs us Q I r h;obtain⟨z,rfl,hz,q⟩:=h;obtain⟨u,rfl,t,rfl⟩:=vals1 r;have hn:=T8;exact len_str (by omega) ⟨.int z.length,H,I.tok _,⟨_,rfl⟩,q⟩
theorem aF6:l9 X (.type "list") (λxs H Q=>∃p ys,xs=[.ref p]/\(gx X.K H p ys\/gQ X.K H p ys)/\∀l,H l=none->Q (.ref l) (upd H l (.lst ys))):=by
 intro pins s σ H xs us Q I r h;obtain⟨p,ys,rfl,hq,q⟩:=h;obtain⟨u,rfl,rx⟩:=vals1 r;cases rx;have fin:∀(aT:List Value),Vals ys aT->ys.length<=sizeLine->∀(h':Heap) (c':Nat),(∀b o',s.heap.get? b=some o'->h'.get? b=some o') ->
   h'.get? s.heap.objs.size=some { cls:=.type "list",dict:=none,data:=.seq aT.toArray c',slots:=#[] }->EP X pins σ Q (.ref s.heap.objs.size) { s with heap:=h' }:=λaT r' hz h' c' kp e =>
  ⟨.ref s.heap.objs.size,_,I.laid (t':=s.toks) kp (aj _) (show j4 X.prog X.w _ h' _ (.lst ys) from⟨hz,aT,c',r',e⟩),rfl,q _ (I.bG.fresh (aj _))⟩
 rcases hq with hq|hq
 ·obtain⟨aT,r',pl,hz⟩:=I.list hq;have hlen:=r'.length;obtain⟨o,ho,hc,n,hd⟩:=pl.isList;exact call_list_seq p (.inl rfl) ho hc hd (λh' c' kp e=>fin aT r' hz h' c' kp e) (by simp only[List.size_toArray]<;>omega)
 ·obtain⟨aT,r',pl,hz⟩:=I.tuple hq;have hlen:=r'.length;obtain⟨o,ho,hc,n,hd⟩:=pl;exact call_list_seq p (.inr rfl) ho hc hd (λh' c' kp e=>fin aT r' hz h' c' kp e) (by simp only[List.size_toArray]<;>omega)
theorem XR:l9 X (.type "tuple") (λxs H Q=>∃p ys,xs=[.ref p]/\((gx X.K H p ys/\∀l,H l=none->Q (.ref l) (upd H l (.tup ys)))\/(gQ X.K H p ys/\Q (.ref p) H))):=by
 intro pins s σ H xs us Q I r h;obtain⟨p,ys,rfl,h⟩:=h;obtain⟨u,rfl,rx⟩:=vals1 r;cases rx;rcases h with⟨hq,q⟩|⟨hq,q⟩
 ·obtain⟨aT,r',pl,hz⟩:=I.list hq;have hlen:=r'.length;refine call_tuple_list pl.isList (λh' kp=>?_) (by simp only[List.size_toArray]<;>omega);have I1:Inv X pins σ H { s with heap:=h' }:=I.kept (t':=s.toks) kp;have I2:Inv X pins σ (upd H h'.objs.size (.tup ys)) { s with heap:=h'.push { cls:=.type "tuple",data:=.seq aT.toArray } } :=
   I1.laid (t':=s.toks) (λb o e=>ai _ e) (aj _) (show j4 X.prog X.w _ _ _ (.tup ys) from⟨hz,aT,r',E2.new _ _⟩)
  exact⟨.ref h'.objs.size,_,I2,rfl,q _ (I1.bG.fresh (aj _))⟩
 ·obtain⟨aT,r',pl,hz⟩:=I.tuple hq;exact call_tuple_same pl ⟨.ref p,H,I,rfl,q⟩
def nS(K:PySem.W.Frag)(T:String)(x:V)(H:Hp):Prop:=match x with
 |.str _=>T="str"
 |.int _=>T="int"
 |.ref p=>(T="list"/\∃xs,gx K H p xs)\/(T="tuple"/\∃o,K.lookup p=some o/\o.cls=.type "tuple"/\o.dict=none) \/
   (T="dict"/\((∃kvs,H p=some (.dK kvs))\/∃kvs,H p=some (.dT kvs)))\/(T="set"/\∃S n,H p=some (.set S n))
 |_=>False
theorem Js{pins:List (Addr×Obj)}{σ:St}{H:Hp}{s:Shared}{T:String}{x:V}{v:Value}(I:Inv X pins σ H s)(r:RelV x v)(ty:nS X.K T x H) :
  s.TypeIs v T/\∀a,v=.ref a->∃ob,s.heap.get? a=some ob/\ob.dict=none:=by
 cases x with
 |str z =>
  obtain⟨t,rfl⟩:=r;cases (show T="str" from ty);exact⟨typeIs_str s z t,λ_ e=>nomatch e⟩
 |int i =>
  obtain⟨t,rfl⟩:=r;cases (show T="int" from ty);exact⟨lV s i t,λ_ e=>nomatch e⟩
 |ref p =>
  cases r;rcases ty with⟨rfl,xs,hq⟩|⟨rfl,o,hk,hc,hd⟩|⟨rfl,hk⟩|⟨rfl,S,n,hk⟩
  ·obtain⟨aT,_,pl,_⟩:=I.list hq;refine⟨pl.isList.typeIs,λa e=>?_⟩;cases e;obtain⟨o,n,e,c,hd,_⟩:=pl;exact⟨o,e,hd⟩
  ·refine⟨⟨o,I.gm p o hk,hc⟩,λa e=>?_⟩;cases e;exact⟨o,I.gm _ o hk,hd⟩
  ·have z:∃o,s.heap.get? p=some o/\o.ExactDict:=by
    rcases hk with⟨kvs,hk⟩|⟨kvs,hk⟩
    ·obtain⟨_,_,_,_,o,_,_,e,ex,_⟩:=I.bG p _ hk;exact⟨o,e,ex⟩
    ·obtain⟨_,_,_,_,o,_,_,e,ex,_⟩:=I.bG p _ hk;exact⟨o,e,ex⟩
   obtain⟨o,e,ex⟩:=z;refine⟨⟨o,e,ex.1⟩,λa e2=>?_⟩;cases e2;exact⟨o,e,ex.2.1⟩
  ·obtain⟨o,_,_,_,e,ex,_⟩:=I.bG p _ hk;refine⟨⟨o,e,ex.1⟩,λa e2=>?_⟩;cases e2;exact⟨o,e,ex.2.1⟩
 |_=>exact False.elim ty
def UA(K:PySem.W.Frag)(T:String)(r:V->List V->Hp->VK->Prop)(to:TE):TE:=λσ H Q=>to σ H λx H1=>nS K T x H1/\r x [] H1 Q
def LO(K:PySem.W.Frag)(T:String)(r:V->List V->Hp->VK->Prop)(to:TE)(t:TA):TE:=λσ H Q=>to σ H λx H1=>nS K T x H1/\t σ H1 λxs H2=>r x xs H2 Q
variable{o e:Expr}{es:List Expr}{to:TE}{t:TA}{name:Str}{apos dU:Pos}{T id:String}{r:V->List V->Hp->VK->Prop}
theorem OG(pa:PlainAttrs T)(slot:Slot T name id)(qQ:typeOf (.builtin id)=pure (.type "method_descriptor"))(hm:lF X id r)(ho:PE X o to)(fR:attributeBase o name X.env (eval o X.env)=eval o X.env:=by rfl)(fQ:(apos.endLine==dU.line)=true:=by rfl):PE X (.Call (.Attribute o name apos) [] [] dU) (UA X.K T r to):=by
 intro pins s σ H Q I h;refine wpAny_Call_method0_late fR fQ (cw (ho pins s σ H _ I h) λv s1 bh=>?_);obtain⟨x,H1,I1,r1,ty,q1⟩:=bh;obtain⟨h1,h2⟩:=Js I1 r1 ty;exact⟨T,id,pa,slot,qQ,h1,h2,fC rfl (PySem.evalArgs_none (hm pins s1 σ H1 x [] v [] Q I1 r1 .nil q1))⟩
theorem Wc(pa:PlainAttrs T)(slot:Slot T name id)(qQ:typeOf (.builtin id)=pure (.type "method_descriptor"))(hm:lF X id r)(ho:PE X o to)(ha:PA X (e::es) t)(fR:attributeBase o name X.env (eval o X.env)=eval o X.env:=by rfl)(ky:((backTo dU (starEach (e :: es) X.env)).all (λx=>!x.1) && (backToKw dU (keywordEach [] X.env)).all (λx=>x.1.isSome)
   && decide ((e :: es).length + ([]:List Keyword).length + (if ([]:List Keyword).isEmpty then 0 else 1) < 30))=true:=by rfl)(fQ:(apos.endLine==dU.line)=true:=by rfl)(hs:starEach (e::es) X.env=(false,eval e X.env)::starEach es X.env:=by rfl)(eN:(backTo dU (starEach es X.env)).any (·.1)=false:=by rfl) :
  PE X (.Call (.Attribute o name apos) (e::es) [] dU) (LO X.K T r to t):=by
 intro pins s σ H Q I h;refine wpAny_Call_method_late fR ky fQ rfl (cw (ho pins s σ H _ I h) λv s1 bh=>?_);obtain⟨x,H1,I1,r1,ty,q1⟩:=bh;obtain⟨h1,h2⟩:=Js I1 r1 ty;refine⟨T,id,pa,slot,qQ,h1,h2,?_⟩;have hA:=ha dU pins s1 σ H1 _ I1 q1;rw[hs] at hA ⊢;refine fC (by show(false||(backTo dU (starEach es X.env)).any (·.1))=false;rw[eN]<;>rfl) (gk ?_);exact cw hA λus s2 ⟨vs,H2,I2,r2,q2⟩=>hm pins s2 σ H2 x vs v us Q I2 r1 r2 q2
end
def Ep(X:Cx)(id:String)(r:V->List V->Hp->VK->Prop):Prop :=
 ∀(pins:List (Addr×Obj)) (s:Shared) (σ:St) (H:Hp) (x:V) (xs:List V) (v:Value) (us:List Value) (Q:VK),Inv X pins σ H s->RelV x v->Vals xs us->r x xs H Q ->
  wpAny (model X.prog X.w) X.A (call (.builtin id) (v::us)) (EP X pins σ Q) X.xe s
theorem Vals.one{x:V}{us:List Value}(h:Vals [x] us):∃u,us=[u]/\RelV x u:=by
 cases h with
 |cons r h =>
  cases h;exact⟨_,rfl,r⟩
theorem Vals.zero:∀{us:List Value},Vals [] us->us=[]
 |_,.nil=>rfl
theorem Vals.dropLast{xs:List V}{us:List Value}(h:Vals xs us):Vals xs.dropLast us.dropLast:=by
 induction h with
 |nil=>exact .nil
 |cons r t ih =>
  cases t with
  |nil=>exact .nil
  |cons q t'=>exact .cons r ih
theorem Vals.eraseIdx:∀{xs:List V} {us:List Value} (i:Nat),Vals xs us->Vals (xs.eraseIdx i) (us.eraseIdx i)
 |_,_,_,.nil=>.nil
 |_,_,0,.cons _ t=>t
 |_,_,i+1,.cons r t=>.cons r (Vals.eraseIdx i t)
theorem Vals.reverse{xs:List V}{us:List Value}(h:Vals xs us):Vals xs.reverse us.reverse:=by
 induction h with
 |nil=>exact .nil
 |cons r t ih=>rw[gE,gE];exact Vals.append ih (.cons r .nil)
theorem Vals.rep{xs:List V}{us:List Value}(h:Vals xs us):∀k:Nat,Vals (List.replicate k xs).flatten (List.replicate k us).flatten
 |0=>.nil
 |k+1=>by
  rw[bz,bz,cZ,cZ];exact Vals.append h (Vals.rep h k)
theorem Zn{α:Type}(l:List α):l.eraseIdx (l.length-1)=l.dropLast:=by
 induction l with
 |nil=>rfl
 |cons a r ih =>
  cases r with
  |nil=>rfl
  |cons b r =>
   have e:(a::b::r).length-1=((b::r).length-1)+1:=by
    have h1:(a::b::r).length=r.length+2:=rfl;have h2:(b::r).length=r.length+1:=rfl;omega
   rw[e,List.eraseIdx_cons_succ,ih]
   all_goals rfl
theorem foldl_rep(aT:List Value):∀(k:Nat) (acc:List Value),
  List.foldl (λx1 x2=>x1++x2) acc.toArray (List.replicate k aT.toArray)=(acc++(List.replicate k aT).flatten).toArray
 |0,acc=>by simp
 |k+1,acc=>by
  have e:acc.toArray++aT.toArray=(acc++aT).toArray:=by simp
  have e2:(acc++aT)++(List.replicate k aT).flatten=acc++(List.replicate (k+1) aT).flatten:=by
   rw[bz,cZ,kn]
  rw[<- e2,<- foldl_rep aT k (acc++aT),<- e,bz,eO]
section
variable{X:Cx}{pins:List (Addr×Obj)}{σ:St}{H:Hp}{s:Shared}{l b:Addr}{xs ys zs:List V}
theorem Inv.rP{aT its':List Value}{n:Nat}{f:Array Value->Array Value}{t':Nat}(I:Inv X pins σ H s)(hH:H l=some (.lst xs))(e:s.heap.get? l=some { cls:=.type "list",data:=.seq aT.toArray n })(hf:f aT.toArray=its'.toArray)(hv:Vals ys its')(hz:ys.length<=sizeLine) :
  Inv X pins σ (upd H l (.lst ys)) { s with heap:=s.heap.update l (Obj.mapSeq f),toks:=t' }:=by
 have q:=PySem.IsL.update e f;rw[hf] at q;refine I.write (x:=l) (e:=l) (by rw[hH];exact trivial) (.inl rfl) (λb' u hb hu=>(bx s.heap (Obj.mapSeq f) (aL hb)).trans hu) ⟨_,q⟩ ?_;exact⟨hz,its',_,hv,q⟩
theorem Inv.HB{aT:List Value}{t':Nat}(I:Inv X pins σ H s)(hv:Vals ys aT)(hz:ys.length<=sizeLine) :
  Inv X pins σ (upd H s.heap.objs.size (.lst ys)) { s with heap:=s.heap.push { cls:=.type "list",data:=.seq aT.toArray },toks:=t' } :=
 I.laid (λ_ _ q=>ai _ q) (aj _) ⟨hz,aT,0,hv,aF _ rfl⟩
theorem Inv.fresh(I:Inv X pins σ H s):H s.heap.objs.size=none:=I.bG.fresh (aj _)
theorem Inv.tI(I:Inv X pins σ H s)(hH:H l=some (.lst xs)):xs.length<=sizeLine/\∃(aT:List Value) (n:Nat),Vals xs aT/\xs.length=aT.length/\s.heap.get? l=some { cls:=.type "list",data:=.seq aT.toArray n }:=by
 obtain⟨z,aT,n,r,e⟩:=I.bG l _ hH;exact⟨z,aT,n,r,r.length,e⟩
theorem a78{n:Nat}(h:n<=sizeLine):Builtin.List.listTooLong n=false:=by
 unfold Builtin.List.listTooLong;exact aG (by omega)
end
section
variable{X:Cx}
def RN:V->List V->Hp->VK->Prop:=λx vs H Q=>∃l xs y,x=.ref l/\vs=[y]/\H l=some (.lst xs)/\xs.length<sizeLine/\Q .aQ (upd H l (.lst (xs++[y])))
theorem Ys:Ep X "list.append" RN:=by
 intro pins s σ H x vs v us Q I rx rv h;obtain⟨l,xs,y,rfl,rfl,hH,hz,q⟩:=h;cases rx;obtain⟨u,rfl,ru⟩:=rv.one;obtain⟨z,aT,n,r,hl,e⟩:=I.tI hH;refine cW F.slot_list_append ⟨_,e,rfl⟩ F.entry_list_append (F.args_list_append_2 _ _) (PySem.list_append l aT.toArray n u (by rw[ay];omega)) ⟨e,?_⟩;refine⟨.aQ,_,I.rP (its':=aT++[u]) hH e (by simp) (r.append (.cons ru .nil)) ?_,rfl,q⟩;rw[aU,xA];omega
def Uh:V->List V->Hp->VK->Prop:=λx vs H Q=>∃l xs y,x=.ref l/\vs=[]/\H l=some (.lst xs)/\xs[xs.length-1]?=some y/\Q y (upd H l (.lst xs.dropLast))
theorem XB:Ep X "list.pop" Uh:=by
 intro pins s σ H x vs v us Q I rx rv h;obtain⟨l,xs,y,rfl,rfl,hH,hy,q⟩:=h;cases rx;have sE:=rv.zero;subst sE;obtain⟨z,aT,n,r,hl,e⟩:=I.tI hH;obtain⟨u,hu,ru⟩:=r.get hy;have uY:aT.toArray[aT.toArray.size-1]?=some u:=by
  show aT.toArray[aT.length-1]?=some u;rw[<- fm,<- hl];exact hu
 refine cW F.slot_list_pop ⟨_,e,rfl⟩ F.entry_list_pop (F.args_list_pop_1 _) (MeetsSeq.list_pop_last l aT.toArray n u uY (by rw[ay];omega)) ⟨e,?_⟩;refine⟨y,_,I.rP (its':=aT.dropLast) hH e ?_ r.dropLast ?_,ru,q⟩
 ·show aT.toArray.eraseIdxIfInBounds (aT.toArray.size-1)=aT.dropLast.toArray;rw[ay,List.eraseIdxIfInBounds_toArray,Zn]
 ·rw[List.length_dropLast];omega
def Pd:V->List V->Hp->VK->Prop:=λx vs H Q=>∃l xs,x=.ref l/\vs=[]/\H l=some (.lst xs)/\Q .aQ (upd H l (.lst []))
theorem a81:Ep X "list.clear" Pd:=by
 intro pins s σ H x vs v us Q I rx rv h;obtain⟨l,xs,rfl,rfl,hH,q⟩:=h;cases rx;have sE:=rv.zero;subst sE;obtain⟨z,aT,n,r,hl,e⟩:=I.tI hH;refine cW F.slot_list_clear ⟨_,e,rfl⟩ F.entry_list_clear (F.args_list_clear_1 _) (AutoSeq1.list_clear_list_0 l aT.toArray n (by rw[ay];omega)) ⟨e,?_⟩;exact⟨.aQ,_,I.rP (its':=[]) (ys:=[]) hH e rfl .nil (cI _),rfl,q⟩
def Uc:R2:=λx y H Q=>∃l b xs zs,x=.ref l/\y=.ref b/\H l=some (.lst xs)/\H b=some (.lst zs)/\xs.length+zs.length<=sizeLine/\∀p,H p=none->Q (.ref p) (upd H p (.lst (xs++zs)))
theorem XG:ft X (binaryOp .Add) Uc:=by
 intro pins s σ H x y v u Q I rx ry h;obtain⟨l,b,xs,zs,rfl,rfl,hH,hB,hz,q⟩:=h;cases rx;cases ry;obtain⟨z,aT,n,r,hl,e⟩:=I.tI hH;obtain⟨z2,my,n2,r2,AD,e2⟩:=I.tI hB;refine PySem.P.add_list e e2 ?_ (by rw[ay,ay];omega);have ea:aT.toArray++my.toArray=(aT++my).toArray:=by simp
 rw[ea];exact⟨.ref _,_,I.HB (t':=s.toks) (r.append r2) (by rw[aU];omega),rfl,q _ I.fresh⟩
def Ui:R2:=λx y H Q=>∃l k xs,x=.ref l/\y=.int k/\H l=some (.lst xs)/\-(2 ^ 63)<=k/\k<2 ^ 63/\xs.length*k.toNat<=sizeLine /\
 ∀p,H p=none->Q (.ref p) (upd H p (.lst (List.replicate k.toNat xs).flatten))
theorem len_rep{α:Type}(xs:List α)(k:Nat):(List.replicate k xs).flatten.length=k*xs.length:=by
 induction k with
 |zero=>simp
 |succ k ih=>rw[bz,cZ,aU,ih,Nat.succ_mul,Nat.add_comm]
theorem XN:ft X (binaryOp .Mult) Ui:=by
 intro pins s σ H x y v u Q I rx ry h;obtain⟨l,k,xs,rfl,rfl,hH,h1,h2,hz,q⟩:=h;cases rx;obtain⟨t,rfl⟩:=ry;obtain⟨z,aT,n,r,hl,e⟩:=I.tI hH;have hlen:aT.toArray.size*k.toNat<=sizeLine:=by rw[ay,<- hl];exact hz
 have AS:¬aT.toArray.size*k.toNat>(2 ^ 63-1) / 8:=by
  have:(sizeLine:Nat)<=(2 ^ 63-1) / 8:=by decide
  omega
 have AO:¬(!Builtin.List.listFitsIndex k)=true:=by
  rw[fitsIndex_both h1 h2];exact bI
 have vm:¬Builtin.List.listTooLong (aT.toArray.size*k.toNat)=true:=by
  rw[a78 hlen];exact bI
 have Aw:List.foldl (λx1 x2=>x1++x2) #[] (List.replicate (if aT.toArray.isEmpty=true then 0 else k.toNat) aT.toArray)=(List.replicate k.toNat aT).flatten.toArray:=by
  have f0:∀m:Nat,List.foldl (λx1 x2=>x1++x2) #[] (List.replicate m aT.toArray)=(List.replicate m aT).flatten.toArray:=λm=>by
   have:=foldl_rep aT m [];rw[List.nil_append] at this;exact this
  rw[f0];cases aT with
  |nil=>simp
  |cons a r'=>rw[if_neg (by simp)]
 refine Eu (T:="list") (U:="int") (by decide) ⟨_,e,rfl⟩ (λs'=>lV s' k t) noFill_list_mul F.fills_int_mul ju repeat_list F.slot_int_index.lookup
  (cW ju (lV s k t) F.entry_int_rmul (F.args_int_rmul_2 _ _) (int___rmul___int_list k t l aT.toArray n)
   ⟨e,rfl,⟨_,e,rfl⟩,cW F.slot_list_mul ⟨_,e,rfl⟩ F.entry_list_mul (F.args_list_mul_2 _ _) (AutoListH.list___mul___list_int_3 l aT.toArray n k t AO AS vm) ⟨e,?_⟩⟩)
 rw[Aw];exact⟨.ref _,_,I.HB (t':=s.toks) (r.rep k.toNat) (by rw[len_rep,ua];exact hz),rfl,q _ I.fresh⟩
end
section
variable{prog:Program}{w:World}{A:Around}{E:Value->Shared->Prop}{s:Shared}
end
section
variable{X:Cx}
end
end L2

namespace L2
open PySem PySem.Spec PyProof.Rows
section
variable{κ:Type}[DecidableEq κ]
def N4(kvs:List (κ×V))(k:κ):Option V:=(kvs.find? λkv=>decide (kv.1=k)).map (·.2)
def putK(kvs:List (κ×V))(k:κ)(v:V):List (κ×V) :=
 if(kvs.any λkv=>decide (kv.1=k))=true then kvs.map (λkv=>if kv.1=k then(kv.1,v) else kv) else kvs++[(k,v)]
theorem CN{p:κ×V}{r:List (κ×V)}{k:κ}(e:p.1=k):N4 (p::r) k=some p.2:=by simp[N4,List.find?_cons,e]
theorem CM{p:κ×V}{r:List (κ×V)}{k:κ}(e:¬p.1=k):N4 (p::r) k=N4 r k:=by simp[N4,List.find?_cons,e]
theorem HG(k:κ):∀kvs:List (κ×V),(kvs.any λkv=>decide (kv.1=k))=(N4 kvs k).isSome
 |[]=>rfl
 |p::r=>by
  rw[dI];by_cases e:p.1=k
  ·simp only[CN e,decide_eq_true e,Bool.true_or,Option.isSome_some]
  ·rw[CM e,aG e,qh];exact HG k r
theorem Y1(kvs:List (κ×V))(k:κ)(v:V):(putK kvs k v).length<=kvs.length+1:=by
 unfold putK;split
 ·rw[ak];omega
 ·rw[aU,bU,List.length_nil];omega
theorem B3.P7{o:Option V}{u:Option Value}(r:B3 o u):o.isSome=u.isSome:=by
 cases o with
 |none=>cases u with
  |none=>rfl
  |some _=>exact(show False from r).elim
 |some _=>cases u with
  |none=>exact(show False from r).elim
  |some _=>rfl
theorem B3.getD{o:Option V}{u:Option Value}{d:V}{d':Value}(r:B3 o u)(rd:RelV d d'):RelV (o.getD d) (u.getD d'):=by
 cases o with
 |none=>cases u with
  |none=>exact rd
  |some _=>exact(show False from r).elim
 |some _=>cases u with
  |none=>exact(show False from r).elim
  |some _=>exact r
theorem KV.val{kvs:List (κ×V)}{vs:List (κ×Value)}(r:KV kvs vs)(k:κ):B3 (N4 kvs k) (valueAt vs k):=by
 unfold KV at r
 induction r with
 |nil=>exact True.intro
 |@cons p q ps qs h t ih =>
  obtain⟨h1,h2⟩:=h;by_cases e:p.1=k
  ·have e':q.1=k:=h1.symm.trans e;have b:valueAt (q::qs) k=some q.2:=by simp[valueAt,List.find?_cons,e']
   rw[CN e,b];exact h2
  ·have e':¬q.1=k:=λz=>e (h1.trans z);have b:valueAt (q::qs) k=valueAt qs k:=by simp[valueAt,List.find?_cons,e']
   rw[CM e,b];exact ih
theorem KV.any{kvs:List (κ×V)}{vs:List (κ×Value)}(r:KV kvs vs)(k:κ):(kvs.any λkv=>decide (kv.1=k))=vs.any λkv=>decide (kv.1=k):=by
 unfold KV at r
 induction r with
 |nil=>rfl
 |cons h t ih=>rw[dI,dI,ih,h.1]
theorem KV.Em{kvs:List (κ×V)}{vs:List (κ×Value)}(r:KV kvs vs)(k:κ){y:V}{u:Value}(ry:RelV y u) :
  KV (kvs.map λkv=>if kv.1=k then(kv.1,y) else kv) (vs.map λkv=>if kv.1=k then(kv.1,u) else kv):=by
 unfold KV at r ⊢
 induction r with
 |nil=>exact .nil
 |@cons p q ps qs h t ih =>
  rw[ba,ba];refine .cons ?_ ih;obtain⟨h1,h2⟩:=h;by_cases e:p.1=k
  ·rw[au e,au (h1.symm.trans e)];exact⟨h1,ry⟩
  ·rw[ax e,ax (λz=>e (h1.trans z))];exact⟨h1,h2⟩
theorem KV.put{kvs:List (κ×V)}{vs:List (κ×Value)}(r:KV kvs vs)(k:κ){y:V}{u:Value}(ry:RelV y u):KV (putK kvs k y) (stored vs k u):=by
 unfold putK stored;rw[r.any k];by_cases e:(vs.any λkv=>decide (kv.1=k))=true
 ·rw[au e,au e];exact r.Em k ry
 ·rw[ax e,ax e];exact Paired.snoc r ⟨rfl,ry⟩
theorem KV.keys{kvs:List (κ×V)}{vs:List (κ×Value)}(r:KV kvs vs):kvs.map (·.1)=vs.map (·.1):=by
 unfold KV at r
 induction r with
 |nil=>rfl
 |cons h t ih=>rw[ba,ba,ih,h.1]
theorem KV.length{kvs:List (κ×V)}{vs:List (κ×Value)}(r:KV kvs vs):kvs.length=vs.length:=lJ r
end
theorem tR{P:Program}{w:World}{k:Key}{u:Value}(r:RelV (kV k) u):(p9 P w).is k u=true:=by
 cases k with
 |inl i=>obtain⟨t,e⟩:=(show ∃t,u=Value.int i t from r);subst e;exact Z' P w i t
 |inr x=>obtain⟨t,e⟩:=(show ∃t,u=Value.str x t from r);subst e;exact aH2 P w x t
theorem HX{P:Program}{w:World}:∀{ks:List Key} {us:List Value},Vals (ks.map kV) us->ItemsAre (p9 P w) ks us
 |[],_,r=>by rw[ki] at r;cases r;exact .nil
 |k::ks,_,r=>by
  rw[ba] at r;cases r with
  |cons h t=>exact .cons (tR h) (HX t)
noncomputable abbrev KT(H:Hp):List (List Key×V)->List (List Key×Addr×Value)->Prop:=Paired λp q=>p.1=q.1/\H q.2.1=some (.tup (p.1.map kV))/\RelV p.2 q.2.2
theorem KT.val{H:Hp}{kvs:List (List Key×V)}{xs:List (List Key×Addr×Value)}(r:KT H kvs xs)(k:List Key):B3 (N4 kvs k) ((atKey xs k).map (·.2)):=by
 induction r with
 |nil=>exact True.intro
 |@cons p q ps qs h t ih =>
  obtain⟨h1,_,h2⟩:=h;by_cases e:p.1=k
  ·have e':q.1=k:=h1.symm.trans e;have b:atKey (q::qs) k=some q.2:=by simp[atKey,List.find?_cons,e']
   rw[CN e,b];exact h2
  ·have e':¬q.1=k:=λz=>e (h1.trans z);have b:atKey (q::qs) k=atKey qs k:=by simp[atKey,List.find?_cons,e']
   rw[CM e,b];exact ih
theorem KT.Em{H:Hp}{kvs:List (List Key×V)}{xs:List (List Key×Addr×Value)}(r:KT H kvs xs)(k:List Key){y:V}{u:Value}(ry:RelV y u) :
  KT H (kvs.map λkv=>if kv.1=k then(kv.1,y) else kv) (xs.map (putAt k u)):=by
 induction r with
 |nil=>exact .nil
 |@cons p q ps qs h t ih =>
  rw[ba,ba];refine .cons ?_ ih;obtain⟨h1,h2,h3⟩:=h;unfold putAt;by_cases e:p.1=k
  ·rw[au e,au (h1.symm.trans e)];exact⟨h1,h2,ry⟩
  ·rw[ax e,ax (λz=>e (h1.trans z))];exact⟨h1,h2,h3⟩
theorem KT.put{H:Hp}{kvs:List (List Key×V)}{xs:List (List Key×Addr×Value)}(r:KT H kvs xs)(k:List Key){b:Addr}{y:V}{u:Value}(hb:H b=some (.tup (k.map kV)))(ry:RelV y u) :
  KT H (putK kvs k y) (storedH xs k b u):=by
 have e:(kvs.any λkv=>decide (kv.1=k))=(atKey xs k).isSome:=by
  rw[HG,(r.val k).P7,kh]
 unfold putK storedH;rw[e];by_cases q:(atKey xs k).isSome=true
 ·rw[au q,au q];exact r.Em k ry
 ·rw[ax q,ax q];exact Paired.snoc r ⟨rfl,hb,ry⟩
theorem KT.keeps{H H':Hp}{kvs:List (List Key×V)}{xs:List (List Key×Addr×Value)}(r:KT H kvs xs)(ht:∀b ys,H b=some (.tup ys)->H' b=some (.tup ys)):KT H' kvs xs :=
 Paired.HD r λ_ _ z=>⟨z.1,ht _ _ z.2.1,z.2.2⟩
section
variable{P:Program}{w:World}{H:Hp}{h:Heap}{a:Addr}
theorem Ha{u:HO}(ok:fX P w H h)(e:Rd H a u):j4 P w H h a u:=e.ok ok
theorem rY{kvs:List (Key×V)}(ok:fX P w H h)(e:Rd H a (.dK kvs)):kvs.length<=sizeLine/\(a==sysModules)=false/\∃vs,KV kvs vs/\h.DictOf (p9 P w) a vs :=
 show j4 P w H h a (.dK kvs) from Ha ok e
theorem GK{kvs:List (Key×V)}(ok:fX P w H h)(e:H a=some (.dK kvs)):kvs.length<=sizeLine/\(a==sysModules)=false/\∃vs,KV kvs vs/\h.DictOf (p9 P w) a vs:=rY ok (.inl e)
theorem wW{ks:List Key}(ok:fX P w H h)(e:H a=some (.tup (ks.map kV))):(tupleKind (p9 P w)).is h ks a:=by
 obtain⟨_,aT,r,o,h1,h2,⟨n,h3⟩,_⟩:=(show j4 P w H h a (.tup (ks.map kV)) from ok a _ e)
 exact⟨o,aT.toArray,n,h1,h2,h3,by simpa using HX r⟩
theorem wL{kvs:List (List Key×V)}(ok:fX P w H h)(e:Rd H a (.dT kvs)):kvs.length<=sizeLine/\(a==sysModules)=false /\
  ∃xs,KT H kvs xs/\h.DictOfH (tupleKind (p9 P w)) a xs:=by
 obtain⟨z,y,xs,r,o,es,ep,h1,h2,h3,h4,h5⟩:=(show j4 P w H h a (.dT kvs) from Ha ok e)
 refine⟨z,y,xs,r,o,es,ep,h1,h2,h3,h4,λx hx=>?_,h5⟩;have all:∀{l:List (List Key×V)} {m:List (List Key×Addr×Value)},KT H l m->∀x∈m,(tupleKind (p9 P w)).is h x.1 x.2.1:=by
  intro l m q
  induction q with
  |nil=>intro x hx;exact nomatch hx
  |@cons p q ps qs hq t ih =>
   intro x hx;rcases aI.mp hx with e|hx
   ·subst e;exact wW ok (by rw[<- hq.1];exact hq.2.1)
   ·exact ih x hx
 exact all r x hx
theorem Vt{kvs:List (List Key×V)}(ok:fX P w H h)(e:H a=some (.dT kvs)):kvs.length<=sizeLine/\(a==sysModules)=false /\
  ∃xs,KT H kvs xs/\h.DictOfH (tupleKind (p9 P w)) a xs:=wL ok (.inl e)
end
def Y3(H:Hp)(a:Addr)(y:V)(r:Option V):Prop :=
 (∃kvs k,Rd H a (.dK kvs)/\y=kV k/\r=N4 kvs k)\/∃kvs k b,Rd H a (.dT kvs)/\y=.ref b/\H b=some (.tup (k.map kV))/\r=N4 kvs k
def zp(H:Hp)(a:Addr)(y v:V)(H':Hp):Prop :=
 (∃kvs k,H a=some (.dK kvs)/\y=kV k/\kvs.length<sizeLine/\H'=upd H a (.dK (putK kvs k v))) \/
 ∃kvs k b,H a=some (.dT kvs)/\y=.ref b/\H b=some (.tup (k.map kV))/\kvs.length<sizeLine/\H'=upd H a (.dT (putK kvs k v))
theorem Y3.k{H:Hp}{a:Addr}{kvs:List (Key×V)}{k:Key}(e:H a=some (.dK kvs)):Y3 H a (kV k) (N4 kvs k):=.inl ⟨kvs,k,.inl e,rfl,rfl⟩
theorem zp.k{H:Hp}{a:Addr}{kvs:List (Key×V)}{k:Key}{v:V}(e:H a=some (.dK kvs))(hl:kvs.length<sizeLine):zp H a (kV k) v (upd H a (.dK (putK kvs k v))):=.inl ⟨kvs,k,e,rfl,hl,rfl⟩
section
variable{X:Cx}{pins:List (Addr×Obj)}{σ:St}{H:Hp}{s:Shared}{a:Addr}{y v:V}{u r:Value}{o:Option V}{A:Around}{E:Value->Shared->Prop}
theorem Inv.big(I:Inv X pins σ H s):sysModules<s.heap.objs.size:=by
 have h:mainGlobals<s.heap.objs.size:=(I.mod.glob.keeps I.bk).lt;exact cX (by decide) h
theorem a17{Q:Value->Shared->Prop}(hu:A.units+1<cLine)(I:Inv X pins σ H s)(g:Y3 H a y (some v))(ry:RelV y u)(h:∀w' s',Inv X pins σ H s'->RelV v w'->Q w' s') :
  wpAny (model X.prog X.w) A (getItem (.ref a) u) Q E s:=by
 rcases g with⟨kvs,k,e,ey,l⟩|⟨kvs,k,b,e,ey,eb,l⟩
 ·subst ey;obtain⟨z,hd,vs,rel,dd⟩:=rY I.bG e;obtain⟨w',hw,fT⟩:=B3.some_of (v:=v) (o:=valueAt vs k) (by rw[l];exact rel.val k);exact wpAny_getItem_of (tR ry) dd.mapOf hw (h w' _ (I.tok _) fT)
 ·subst ey;cases (show u=Value.ref b from ry);obtain⟨z,hd,xs,rel,dd⟩:=wL I.bG e;obtain⟨w',hw,fT⟩:=B3.some_of (v:=v) (o:=(atKey xs k).map (·.2)) (by rw[l];exact rel.val k);obtain⟨p,hp,oj⟩:=ae.mp hw;refine wpAny_getItem_heap (gR hu) (wW I.bG eb) dd hp ?_;rw[oj];exact h w' _ (I.tok _) fT
theorem Tn{Q:Value->Shared->Prop}(hu:A.units+1<cLine)(I:Inv X pins σ H s)(g:Y3 H a y o)(ry:RelV y u)(h:∀s',Inv X pins σ H s'->Q (.bool o.isSome) s') :
  wpAny (model X.prog X.w) A (compareOp .In u (.ref a)) Q E s:=by
 rcases g with⟨kvs,k,e,ey,l⟩|⟨kvs,k,b,e,ey,eb,l⟩
 ·subst ey;obtain⟨z,hd,vs,rel,dd⟩:=rY I.bG e;refine wpAny_in_of (tR ry) hd dd.mapOf ?_;rw[<- (rel.val k).P7,<- l];exact h _ (I.tok _)
 ·subst ey;cases (show u=Value.ref b from ry);obtain⟨z,hd,xs,rel,dd⟩:=wL I.bG e;refine wpAny_in_heap (gR hu) (wW I.bG eb) hd dd ?_;have q:=(rel.val k).P7;rw[kh] at q;rw[<- q,<- l];exact h _ (I.tok _)
theorem QI{Q:Value->Shared->Prop}(hu:A.units+1<cLine)(I:Inv X pins σ H s)(g:Y3 H a y o)(ry:RelV y u)(h:∀s',Inv X pins σ H s'->Q (.bool (!o.isSome)) s') :
  wpAny (model X.prog X.w) A (compareOp .NotIn u (.ref a)) Q E s:=by
 rcases g with⟨kvs,k,e,ey,l⟩|⟨kvs,k,b,e,ey,eb,l⟩
 ·subst ey;obtain⟨z,hd,vs,rel,dd⟩:=rY I.bG e;refine wpAny_notIn_of (tR ry) hd dd.mapOf ?_;rw[<- (rel.val k).P7,<- l];exact h _ (I.tok _)
 ·subst ey;cases (show u=Value.ref b from ry);obtain⟨z,hd,xs,rel,dd⟩:=wL I.bG e;refine wpAny_notIn_heap (gR hu) (wW I.bG eb) hd dd ?_;have q:=(rel.val k).P7;rw[kh] at q;rw[<- q,<- l];exact h _ (I.tok _)
theorem Co{h':Heap}{t':Nat}{ob:HO}(I:Inv X pins σ H s)(mu:xl (H a))(hs:Heap.SameBut a s.heap h')(he:∃q,h'.get? a=some q)(new:j4 X.prog X.w (upd H a ob) h' a ob) :
  Inv X pins σ (upd H a ob) { s with heap:=h',toks:=t' } :=
 I.write (x:=a) (e:=a) mu (.inl rfl) (λb q hb z=>(hs.2 b hb).trans z) he new
theorem DW{P:Program}{w:World}{H':Hp}{h':Heap}{kvs:List (Key×V)}{vs:List (Key×Value)}(z:kvs.length<=sizeLine)(hd:(a==sysModules)=false)(rel:KV kvs vs)(dd:h'.DictOf (p9 P w) a vs) :
  j4 P w H' h' a (.dK kvs):=⟨z,hd,vs,rel,dd⟩
theorem a16{H':Hp}{Q:Unit->Shared->Prop}(hu:A.units+1<cLine)(I:Inv X pins σ H s)(g:zp H a y v H')(ry:RelV y u)(rv:RelV v r)(h:∀s',Inv X pins σ H' s'->Q () s') :
  wpAny (model X.prog X.w) A (setItem (.ref a) u r) Q E s:=by
 rcases g with⟨kvs,k,e,ey,l,eH⟩|⟨kvs,k,b,e,ey,eb,l,eH⟩
 ·subst ey eH;obtain⟨z,hd,vs,rel,dd⟩:=GK I.bG e;have hz:vs.length<=sizeLine:=by rw[<- rel.length];exact z
  have hl:(putK kvs k v).length<=sizeLine:=by have:=Y1 kvs k v;omega
  refine wpAny_setItem_pairs (hsz:=hz) (tR ry) dd λh' oS hs=>h _ ?_;have he:∃q,h'.get? a=some q:=let ⟨q,_,_,hq,_⟩:=oS;⟨q,hq⟩
  exact Co I (by rw[e];exact True.intro) hs he (DW hl hd (rel.put k rv) oS)
 ·subst ey eH;cases (show u=Value.ref b from ry);obtain⟨z,hd,xs,rel,dd⟩:=Vt I.bG e;have hz:xs.length<=sizeLine:=by rw[<- lJ rel];exact z
  have hl:(putK kvs k v).length<=sizeLine:=by have:=Y1 kvs k v;omega
  refine wpAny_setItem_heap (hsz:=hz) (gR hu) (wW I.bG eb) dd λh' oS hs=>h _ ?_;obtain⟨q,es,ep,hq,h2,h3,h4,_,h5⟩:=oS;refine Co I (by rw[e];exact True.intro) hs ⟨q,hq⟩ ⟨hl,hd,_,(rel.put k eb rv).keeps λc ys ec=>?_,q,es,ep,hq,h2,h3,h4,h5⟩;rw[i7 (VS ec e (λz=>nomatch z))];exact ec
end
section
variable{X:Cx}{pins:List (Addr×Obj)}{σ:St}{H:Hp}{s:Shared}{a:Addr}{kvs:List (Key×V)}{k:Key}{u:Value}{A:Around}{E:Value->Shared->Prop}
theorem Vo{Q:Value->Shared->Prop}(I:Inv X pins σ H s)(e:Rd H a (.dK kvs))(h:∀t s',Inv X pins σ H s'->Q (.int kvs.length t) s'):wpAny (model X.prog X.w) A (call (.builtin "len") [.ref a]) Q E s:=by
 obtain⟨z,hd,vs,rel,dd⟩:=rY I.bG e;refine call_len_dict hd dd (by rw[<- rel.length];rw[kf] at z;omega) ?_;rw[<- rel.length];exact h _ _ (I.tok _)
end
theorem ZV{X:Cx}{pins:List (Addr×Obj)}{σ:St}{H:Hp}{s:Shared}{a:Addr}{y:V}{o:Option V}(I:Inv X pins σ H s)(g:Y3 H a y o):s.TypeIs (.ref a) "dict":=by
 rcases g with⟨kvs,k,e,_,_⟩|⟨kvs,k,b,e,_,_,_⟩
 ·obtain⟨_,_,vs,_,dd⟩:=rY I.bG e;exact dd.typeIs
 ·obtain⟨_,_,xs,_,dd⟩:=wL I.bG e;exact dd.typeIs
section
variable{X:Cx}{o i e value:Expr}{pos pos' uq:Pos}{td ty tv:TE}
end
theorem Ks{P:Program}{w:World}{H:Hp}(h:Heap)(hb:sysModules<h.objs.size):j4 P w H (h.push { cls:=.type "dict",data:=.dict #[] }) h.objs.size (.dK []) :=
 ⟨cI _,cE.mpr (aL (aR hb)),[],.nil,Heap.DictOf.new h⟩
def Qg:TE:=λ_ H Q=>∀p,H p=none->Q (.ref p) (upd H p (.dK []))
section
variable{X:Cx}{pos:Pos}
theorem a72:PE X (.Dict [] [] pos) Qg:=λpins s σ H Q I h =>
 wpAny_Dict_empty ⟨.ref s.heap.objs.size,_,I.laid (a:=s.heap.objs.size) (o:=.dK []) (t':=s.toks) (λ_ _ q=>ai _ q) (aj _) (Ks s.heap I.big),rfl,h _ (I.bG.fresh (aj _))⟩
end
def yM:List (TE×TE)->St->Hp->(List (V×V)->Hp->Prop)->Prop
 |[],_,H,Q=>Q [] H
 |(tk,tv)::r,σ,H,Q=>tk σ H λx H1=>tv σ H1 λy H2=>yM r σ H2 λps H3=>Q ((x,y)::ps) H3
noncomputable abbrev VV:List (V×V)->List (Value×Value)->Prop:=Paired λp q=>RelV p.1 q.1/\RelV p.2 q.2
def xj(X:Cx)(pos:Pos)(keys:List (Option Expr))(values:List Expr)(hW:List (TE×TE)):Prop :=
 ∀(pins:List (Addr×Obj)) (s:Shared) (σ:St) (H:Hp) (Q:List (V×V)->Hp->Prop),Inv X pins σ H s->yM hW σ H Q ->
  wpAny (model X.prog X.w) X.A (evalPairs (pairTrees keys values X.env pos)) (λvs s'=>∃ps H',Inv X pins σ H' s'/\VV ps vs/\Q ps H') X.xe s
theorem RB{X:Cx}{pos:Pos}:xj X pos [] [] []:=λpins s σ H Q I h=>pairTrees_nil_walk ⟨[],H,I,.nil,h⟩
theorem a64{X:Cx}{pos:Pos}{k v:Expr}{ks:List (Option Expr)}{vs:List Expr}{tk tv:TE}{hW:List (TE×TE)}(hk:PE X k tk)(hv:PE X v tv)(hr:xj X pos ks vs hW) :
  xj X pos (some k::ks) (v::vs) ((tk,tv)::hW):=λpins s σ H Q I h =>
 pairTrees_cons_walk (cw (hk pins s σ H _ I h) λu s1 ⟨x,H1,I1,rx,q1⟩=>cw (hv pins s1 σ H1 _ I1 q1) λw2 s2 ⟨y,H2,I2,ry,q2⟩ =>
  cw (hr pins s2 σ H2 _ I2 q2) λws s3 ⟨ps,H3,I3,rel,q3⟩=>⟨(x,y) :: ps,H3,I3,.cons ⟨rx,ry⟩ rel,q3⟩)
def T3(kvs more:List (Key×V)):List (Key×V):=more.foldl (λacc kv=>putK acc kv.1 kv.2) kvs
theorem KV.merge:∀{more:List (Key×V)} {rs:List (Key×Value)} {kvs:List (Key×V)} {vs:List (Key×Value)},KV more rs->KV kvs vs->KV (T3 kvs more) (merged vs rs):=by
 intro more rs kvs vs r;unfold KV at r
 induction r generalizing kvs vs with
 |nil=>intro q;exact q
 |@cons p q ps qs h t ih =>
  intro r0;have e:KV (putK kvs p.1 p.2) (stored vs q.1 q.2):=by
   have:=r0.put p.1 h.2;rw[<- h.1];exact this
  exact ih e
theorem IV:∀(more kvs:List (Key×V)),(T3 kvs more).length<=kvs.length+more.length
 |[],kvs=>by show kvs.length<=kvs.length+0;omega
 |p::r,kvs=>by
  have h1:=IV r (putK kvs p.1 p.2);have h2:=Y1 kvs p.1 p.2;show(T3 (putK kvs p.1 p.2) r).length<=_;rw[bU];omega
theorem Ik{P:Program}{w:World}:∀{kvs:List (Key×V)} {ws:List (Value×Value)},VV (kvs.map λkv=>(kV kv.1,kv.2)) ws->∃rs,Carries (p9 P w) ws rs/\KV kvs rs
 |[],_,r=>by rw[ki] at r;cases r;exact⟨[],True.intro,.nil⟩
 |p::kvs,_,r=>by
  rw[ba] at r;cases r with
  |@cons a b as bs h t =>
   obtain⟨rs,c,q⟩:=Ik (P:=P) (w:=w) t;obtain⟨b1,b2⟩:=b;exact⟨(p.1,b2)::rs,⟨tR h.1,rfl,c⟩,.cons ⟨rfl,h.2⟩ q⟩
def WB(hW:List (TE×TE)):TE:=λσ H Q=>∀p,H p=none->yM hW σ (upd H p (.dK [])) λps H2=>H2 p=some (.dK [])/\∃kvs:List (Key×V),ps=kvs.map (λkv=>(kV kv.1,kv.2))/\kvs.length<=15/\Q (.ref p) (upd H2 p (.dK (T3 [] kvs)))
theorem Rw{X:Cx}{pos:Pos}{keys:List (Option Expr)}{values:List Expr}{hW:List (TE×TE)}(h:xj X pos keys values hW)(lA:keys.all (·.isSome)=true)(hl:keys.length=values.length)(h0:keys≠[])(BB:keys.length<=15):PE X (.Dict keys values pos) (WB hW):=by
 intro pins s σ H Q I q;have hn:=I.bG.fresh (aj s.heap.objs.size);have I1:=I.laid (a:=s.heap.objs.size) (o:=.dK []) (h':=s.heap.push { cls:=.type "dict",data:=.dict #[] }) (t':=s.toks) (λ_ _ q=>ai _ q) (aj _) (Ks s.heap I.big);refine wpAny_Dict_walk (knd:=p9 X.prog X.w) lA hl h0 BB (cw (h pins _ σ _ _ I1 (q _ hn)) λws s2 bh=>?_);obtain⟨ps,H2,I2,rel,e,kvs,ep,lk,q2⟩:=bh;subst ep;obtain⟨rs,c,rk⟩:=Ik (P:=X.prog) (w:=X.w) rel;obtain⟨z,hd,vs0,r0,dd⟩:=GK I2.bG e;cases r0;refine⟨rs,c,dd,λh' oS hs=>⟨.ref s.heap.objs.size,_,?_,rfl,q2⟩⟩;have hz:(T3 [] kvs).length<=sizeLine:=by
  have h1:=IV kvs [];rw[List.length_nil] at h1;rw[kf];omega
 have he:∃q,h'.get? s.heap.objs.size=some q:=let ⟨q,_,_,hq,_⟩:=oS;⟨q,hq⟩
 exact Co I2 (by rw[e];exact True.intro) hs he (DW hz hd (rk.merge .nil) oS)
section
variable{X:Cx}{pins:List (Addr×Obj)}{σ:St}{H:Hp}{s:Shared}{a:Addr}{y d:V}{u r:Value}{o:Option V}{A:Around}{E:Value->Shared->Prop}
end
section
variable{X:Cx}{o e f:Expr}{apos dU:Pos}{td ty tx:TE}
end
section
variable{X:Cx}{pins:List (Addr×Obj)}{σ:St}{H:Hp}{s:Shared}{a:Addr}{kvs:List (Key×V)}{A:Around}{E:Value->Shared->Prop}
theorem SO{Q:Value->Shared->Prop}(I:Inv X pins σ H s)(e:Rd H a (.dK kvs))(h:∀p s',H p=none->Inv X pins σ (upd H p (.dK kvs)) s'->Q (.ref p) s'):wpAny (model X.prog X.w) A (call (.type "dict") [.ref a]) Q E s:=by
 obtain⟨z,hd,vs,rel,dd⟩:=rY I.bG e;refine kt_call_dict hd dd (by rw[<- rel.length];exact z) λh' oS hs=>?_;refine h _ _ (I.bG.fresh (aj _)) (I.laid (a:=s.heap.objs.size) (o:=.dK kvs) (t':=s.toks) (λb q hq=>?_) (aj _) (DW z (cE.mpr (aL (aR I.big))) rel oS));exact(hs.2 b (aR (aB hq))).trans (ai _ hq)
end
section
variable{X:Cx}{pins:List (Addr×Obj)}{σ:St}{H:Hp}{s:Shared}{a:Addr}{y:V}{u:Value}{A:Around}{E:Value->Shared->Prop}
end
end L2

namespace Lj
open PySem PySem.W PySem.Calls PyProof.Rows
theorem Yd{P:Params}{h:Heap}:∀(ns:List Int) (vs:List Value),WellAll P h vs (ns.map WData.int)->IntsAre vs ns:=by
 intro ns
 induction ns with
 |nil =>
  intro vs w;rw[ki] at w;cases w;exact .nil
 |cons n ns ih =>
  intro vs w;rw[ba] at w;cases w with
  |cons a b =>
   cases a;exact .cons _ _ (ih _ b)
theorem YU{l:OpenLaw}{n:Nat}(hn:l.most=some n){P:Params}{h:Heap}{args:List WData}{vals:List Value}(oi:l.row.toRowW.claim.pre args=true)(Ak:WellAll P h vals args) :
  ∃a vs ns,vals=[Value.ref a]/\args=[WData.list (ns.map WData.int)]/\h.get? a=some { cls:=.type "list",data:=.seq vs.toArray }/\IntsAre vs ns/\ns.length<=n:=by
 have MI:WShape.hasAll [] args [.list .int]=true:=(pre_splitW oi).1;have hc:l.pre.holds [] { args:=args }=true:=(pre_splitW oi).2;obtain⟨d,r,rfl,h1,h2⟩:=hasAllW_cons MI;obtain rfl:=hasAllW_nil h2;obtain⟨xs,rfl,h3⟩:=hasW_list h1;obtain⟨ns,rfl⟩:=items_int h3;have hlen:ns.length<=n:=by
  unfold OpenLaw.pre at hc;have h4:(WTm.not (.lt (.lit (.int (n:Int))) (.len (.arg 0)))).holds [] { args:=[.list (ns.map .int)] }=true:=by
   have h4:=(holds_andW hc).1;rw[hn] at h4;exact h4
  have h5:=condW_of h4 (w_not (w_lt w_lit (w_len_list (w_arg rfl))));rw[ak] at h5;refine Nat.le_of_not_lt λq=>?_;have q':(n:Int)<((ns.length:Nat):Int):=by omega
  first
   |(rw[aC q'] at h5;exact absurd h5 (by decide))
   |(simp at h5;omega)
 cases Ak with
 |cons w1 w2 =>
  cases w2;cases w1 with
  |list ho lA=>exact⟨_,_,ns,rfl,rfl,ho,Yd ns _ lA,hlen⟩
theorem YL(l:OpenLaw)(args:List WData):l.row.toRowW.claim.post args (.bool true) args=true :=
 postW_of (r:=l.row.toRowW) (X:=(true==true))
  (show WShape.has [] (.bool true) .bool=true by first|rfl|decide|simp[WShape.has,WShape.arms,WShape.armsAll])
  (show(WTm.eq .res (.lit (.bool true))).value [] { args:=args,res:=some (.bool true),after:=args }=some (.bool (true==true)) from w_eq_bool (w_res rfl) w_lit) rfl
theorem ZS{l:OpenLaw}{n:Nat}{q:Program}{loose:List Str}{XP:(Str->Option Value)->Heap->Prop}{YP:World->Heap->Prop}{d:DefRec}(hn:l.most=some n)(vD:d.params.defaults=[])(call:∀ (w:World) (dz bW:Shared) (mg mb:Str->Option Value) (fa:Addr) (o:Obj) (pm cd doc:Value) (a:Addr) (vs:List Value) (ns:List Int),
   Ground q loose [] XP w dz mg mb bW.heap->YP w bW.heap ->
   bW.heap.get? fa=some o->o.data=.func (docDef d.name d.params d.body d.scope pm cd doc)->bW.heap.CodeRec cd d.name->mg d.name=some (.ref fa) ->
   bW.heap.get? a=some { cls:=.type "list",data:=.seq vs.toArray }->IntsAre vs ns->ns.length<=n->bW.gens=#[] ->
   codeAny (model l.prog w) callerA (.call (.ref fa) ⟨[.ref a],[]⟩) (λr s'=>r=.ok (.ret (.bool true))/\OldK bW.heap s'.heap/\s'.os=bW.os/\AllBare s'.gens) bW) :
  WalkO q loose XP YP l.row.toRowW d [] (λf vs=>PySem.call f vs):=by
 intro w dz bW mg mb G Y fa o pm cd doc dV kV ho hd lz hD hmg hg args vals as oi MR hrd Ak pF;obtain rfl:dV=.none:=Dflts.none hD vD;obtain rfl:kV=.none:=Dflts.noKw hD;obtain⟨a,vs,ns,rfl,rfl,kr,hints,hlen⟩:=YU hn oi Ak;refine enter_call (fu (call w dz bW mg mb fa o pm cd doc a vs ns G Y ho (fd_plain hd) lz hmg kr hints hlen hg) λr s' hq=>?_);obtain⟨rfl,h2,h3,h4⟩:=hq;exact⟨.inl ⟨.bool true,.bool true,[],rfl,λ_=>rfl,.bool true,YL l _,λ_=>⟨List.Pairwise.nil,λ_ hm=>(nomatch hm)⟩⟩,h2,h3,h4⟩
section
variable{prog:Program}{w:World}{A:Around}{E:Value->Shared->Prop}{s:Shared}{K:Frag}
end
end Lj
namespace L2
open PySem PySem.Spec PyProof.Rows
theorem Ih:∀{vs:List Value} {ns:List Int},IntsAre vs ns->Vals (ns.map V.int) vs
 |_,_,.nil=>.nil
 |_,_,.cons n t h=>.cons ⟨t,rfl⟩ (Ih h)
def zq(H:Hp):Prop:=∀b,H b=none\/∃o xs,H b=some (.jq o (.lst xs))
theorem a95{P:Program}{w:World}{K:PySem.W.Frag}{mg mb:Str->Option Value}{CX:mZ}{k:Nat}{fa a:Addr}{fd:FuncData}{x:Str}{sp:Sp}{bW:Shared}{vs:List Value}{ns:List Int}(KX:K.In bW.heap)(sL:bW.heap.Ns mainGlobals mg)(hb:bW.heap.Ns builtinsNs mb)(AV:∀x:Str,x≠"__name__"->mb x=bootBuiltins x)(AB:bW.heap.NoLimit)(hg:bW.gens=#[])(ha:bW.heap.get? a=some { cls:=.type "list",data:=.seq vs.toArray })(hi:IntsAre vs ns)(hl:ns.length<=sizeLine)(hr:p8 k callerA)(F:∀base:Heap,K.In base->base.Ns mainGlobals mg->gN P w K mg base CX k fa fd [x] sp)(vJ:∀(s:Shared) (u:Value),BindsTo s fd ⟨[u],[]⟩ [(x,u)])(sG:∀H:Hp,zq H->gx K H a (ns.map V.int)->sp [.ref a] H (λv _=>v=.bl true) λ_ _ _=>False)(Be:∀H e s',CX [] H bW (λ_ _ _=>False) e s'->False) :
  codeAny (model P w) callerA (.call (.ref fa) ⟨[.ref a],[]⟩) (λr s'=>r=.ok (.ret (.bool true))/\OldK bW.heap s'.heap/\s'.os=bW.os/\AllBare s'.gens) bW:=by
 have rv:=Ih hi;have Ad:=hi.length;have core:∀H:Hp,zq H->gx K H a (ns.map V.int)->fX P w H bW.heap->(∀b,H b≠none->b=a)->(H a≠none->K.lookup a=none) ->
   codeAny (model P w) callerA (.call (.ref fa) ⟨[.ref a],[]⟩) (λr s'=>r=.ok (.ret (.bool true))/\OldK bW.heap s'.heap/\s'.os=bW.os/\AllBare s'.gens) bW:=by
  intro H hO hS bG hA hK;have K0:∀{b:Addr} {o:Obj},bW.heap.get? b=some o->H b=none->(oY bW.heap H).get? b=some o:=λe n=>SY e n;have uL:∀{b:Addr} {o:Obj} {es:Array DictEntry} {ep:Nat},bW.heap.get? b=some o->o.data=.dict es ep->H b=none:=λ{b o es ep} e d=>by
   cases q:H b with
   |none=>rfl
   |some u =>
    have e':b=a:=hA b (by rw[q];simp);subst e';rw[ha] at e;cases e;have d':Data.seq vs.toArray _=Data.dict es ep:=d;cases d'
  have xG:∀{b:Addr} {m:Str->Option Value},bW.heap.Ns b m->(oY bW.heap H).Ns b m:=λ{b m} ⟨o,es,ep,e,d,r⟩=>⟨o,es,ep,K0 e (uL e d),d,r⟩
  have FN:K.In (oY bW.heap H):=λb o e=>K0 (KX b o e) (by
   cases q:H b with
   |none=>rfl
   |some u =>
    have e':b=a:=hA b (by rw[q];simp);subst e';rw [hK (by rw [q];simp)] at e;cases e)
  have hM:Mod K mg (oY bW.heap H):=⟨FN,xG sL,⟨mb,xG hb,AV⟩,let ⟨mc,h1,h2⟩:=AB;⟨mc,xG h1,h2⟩⟩
  have e0:rJ P w K mg (oY bW.heap H) callerA [] bW H:=⟨rfl,hM,λb o e=>Rh e,Nat.le_of_eq (a06 _ _),trivial,λb hb=>absurd (show b∈([]:List Addr) from hb) (by simp),bG,.of_eq hg⟩
  refine fu ((F _ FN (xG sL)).run callerA [] bW H ⟨[.ref a],[]⟩ [.ref a] [.ref a] _ _ hr e0 (vJ bW (.ref a)) (.cons rfl .nil) (sG H hO hS)) λr s' h=>?_;cases r with
  |error e=>exact(Be H e s' h).elim
  |ok fl =>
   cases fl with
   |next=>exact False.elim h
   |brk=>exact False.elim h
   |cont=>exact False.elim h
   |ret u =>
    obtain⟨v,H',os,bare,un,Ar,r',q⟩:=h;have q':v=.bl true:=q;subst q';obtain rfl:u=Value.bool true:=r';refine⟨rfl,OldK.of_keep λb o e=>?_,os,bare⟩;cases q:H b with
    |none=>exact un.keep b o e q (by intro z;exact absurd (show b∈([]:List Addr) from z) (by simp)) (by simp)
    |some u =>
     rcases hO b with z|⟨ob,xs,z⟩
     ·rw[q] at z;cases z
     ·have z2:=un.gY b ob _ z;obtain⟨e1,_⟩:=bG b _ z;obtain⟨e2,_⟩:=Ar b _ z2;rw[e] at e1;cases e1;exact e2
 cases hk:K.lookup a with
 |some o =>
  have e:=KX a o hk;rw[ha] at e;cases e;refine core (λ_=>none) (λ_=>.inl rfl) (.inr ⟨_,vs.toArray,_,hk,rfl,rfl,rfl,by rw[ay,Ad];exact hl,by simpa using rv⟩) (λb u z=>by have z':(none:Option HO)=some u:=z;cases z') (λb z=>absurd rfl z) λz=>absurd rfl z
 |none =>
  refine core (λb=>if b=a then some (.jq { cls:=.type "list",data:=.seq vs.toArray } (.lst (ns.map V.int))) else none) (λb=>?_) (.inl (.inr ⟨{ cls:=.type "list",data:=.seq vs.toArray },au rfl⟩)) (λb u z=>?_) (λb z=>?_) λ_=>hk
  ·by_cases hb:b=a
   ·exact .inr ⟨_,_,au hb⟩
   ·exact .inl (ax hb)
  ·by_cases hb:b=a
   ·have z':=(au hb).symm.trans z;cases z';subst hb;exact⟨ha,by rw[ak];exact hl,vs,_,rv,ha⟩
   ·have z':=(ax hb).symm.trans z;cases z'
  ·by_cases hb:b=a
   ·exact hb
   ·exact absurd (ax hb) z
theorem Sy{l:PySem.W.OpenLaw}{n k:Nat}{q:Program}{loose:List Str}{XP:(Str->Option Value)->Heap->Prop}{YP:World->Heap->Prop}{d:DefRec}{K:Params->PySem.W.Frag}{CX:World->mZ}{sp:World->Sp}{x:Str}(hn:l.most=some n)(mF:n<=sizeLine)(vD:d.params.defaults=[])(hr:p8 k callerA)(hY:∀(w:World) (h:Heap),YP w h->(K w.params).In h)(F:∀ (w:World) (mg:Str->Option Value) (fa:Addr) (h:Heap),(K w.params).In h->h.Ns mainGlobals mg->mg d.name=some (.ref fa) ->
   ∃fd:FuncData,(∀(s:Shared) (u:Value),BindsTo s fd ⟨[u],[]⟩ [(x,u)]) /\
    ∀ base:Heap,(K w.params).In base->base.Ns mainGlobals mg->gN l.prog w (K w.params) mg base (CX w) k fa fd [x] (sp w))(sG:∀(w:World) (H:Hp) (a:Addr) (ns:List Int),ns.length<=n->zq H->gx (K w.params) H a (ns.map V.int)->sp w [.ref a] H (λv _=>v=.bl true) λ_ _ _=>False)(Be:∀(w:World) (H:Hp) (s:Shared) (e:Value) (s':Shared),CX w [] H s (λ_ _ _=>False) e s'->False) :
  PySem.W.WalkO q loose XP YP l.row.toRowW d [] (λf vs=>PySem.call f vs):=by
 refine Lj.ZS hn vD λw dz bW mg mb fa o pm cd doc a vs ns G Y ho hd lz hmg kr hints hlen hg=>?_;have KX:=hY w _ Y;obtain⟨fd,hb,hF⟩:=F w mg fa _ KX G.T.g hmg;exact a95 KX G.T.g G.T.b G.T.builtins G.T.nolimit hg kr hints (aM hlen mF) hr hF hb (λH hO hS=>sG w H a ns hlen hO hS) λH e s'=>Be w H bW e s'
def A3(s:Stmt):Arguments:=match s with
 |.FunctionDef _ a _ _ _ _ _ _ _ _=>a
 |_=>{ posonlyargs:=[],args:=[],vararg:=none,kwonlyargs:=[],kw_defaults:=[],kwarg:=none,defaults:=[] }
def l0(s:Stmt):List Stmt:=match s with
 |.FunctionDef _ _ b _ _ _ _ _ _ _=>b
 |_=>[]
def k7(s:Stmt):Scope:=match s with
 |.FunctionDef _ _ _ _ _ _ sc _ _ _=>sc
 |_=>{ kind:=.function,names:=[],isGenerator:=false,isCoroutine:=false }
structure qb(K:PySem.W.Frag)(x qual:Str)(st:Stmt)(f:Addr)(fd:FuncData):Prop where
 ex:∃(oc:Value) (od:Option Addr) (kV doc pm:Value) (an:Option Addr) (fG ct:Value) (lP:Array (Option Value)),
  fd=PySem.W.fnOf x qual (A3 st) (l0 st) (k7 st) .none kV doc pm an fG ct/\K.lookup f=some ⟨oc,od,.func fd,lP⟩/\PySem.W.codeIn K fG qual=true
 kp:PySem.W.keepIn K (.ref f)=true
section
variable{P:Program}{w:World}{K:PySem.W.Frag}{mg:Str->Option Value}{base:Heap}
theorem qb.binds{x qual:Str}{st:Stmt}{f:Addr}{fd:FuncData}{ps:List Str}(F:qb K x qual st f fd)(h:∀(kV doc pm:Value) (an:Option Addr) (fG ct:Value) (us:List Value),us.length=ps.length->bindArgs (PySem.W.fnOf x qual (A3 st) (l0 st) (k7 st) .none kV doc pm an fG ct) ⟨us,[]⟩=pure (ps.zip us)):Binds K fd ps []:=by
 obtain⟨oc,od,kV,doc,pm,an,fG,ct,lP,rfl,lk,lz⟩:=F.ex;exact .all (h kV doc pm an fG ct)
theorem Lc{x qual:Str}{st:Stmt}{f:Addr}{oc:Value}{od an:Option Addr}{lP:Array (Option Value)}{kV doc pm fG ct:Value}(l:K.lookup f=some ⟨oc,od,.func (PySem.W.fnOf x qual (A3 st) (l0 st) (k7 st) .none kV doc pm an fG ct),lP⟩)(c:PySem.W.codeIn K fG qual=true)(k:PySem.W.keepIn K (.ref f)=true):qb K x qual st f (PySem.W.fnOf x qual (A3 st) (l0 st) (k7 st) .none kV doc pm an fG ct):=⟨⟨oc,od,kV,doc,pm,an,fG,ct,lP,rfl,l,c⟩,k⟩
end
section
variable{X:Cx}
theorem a21:l9 X (.builtin "len") (λxs H Q=>∃a kvs,xs=[V.ref a]/\H a=some (.dK kvs)/\Q (.int kvs.length) H):=by
 intro pins s σ H xs us Q I r h;obtain⟨a,kvs,rfl,ha,q⟩:=h;obtain⟨u,rfl,ru⟩:=vals1 r;cases ru;exact Vo I (.inl ha) λt s' I'=>⟨.int kvs.length,H,I',⟨t,rfl⟩,q⟩
end
section
variable{κ:Type}[DecidableEq κ]
end
end L2

namespace L2
open PySem PySem.Spec PyProof.Rows
section
variable{prog:Program}{w:World}{A:Around}{R:Result->Shared->Prop}{s:Shared}
theorem aF2{elt target iter:Expr}{ifs:List Expr}{scope:Scope}{pos:Pos}{it acc:Value}{env:Env}(I:Nat->Shared->Prop)(turn:∀ n s,I n s->wpAny (model prog w) A (pyNext it) (λr bW=>match r with
   |none=>R (.ok .next) bW
   | some v=>wpAny (model prog w) A (letOwnedTupleGo target it v) (λ_ bW=>wpAny (model prog w) A (assign target env v) (λ_ iu =>
     wpAny (model prog w) A (forIn ifs true λc r=>if r=true then do let ok <- isTrue c env (eval c env);pure (ForInStep.yield ok) else pure (ForInStep.yield r)) (λok gW =>
      if ok=true then wpAny (model prog w) A (eval elt env) (λx nV =>
       wpAny (model prog w) A (call (.builtin "list.append") [acc,x]) (λ_ uv=>∃ m,m < n/\I m uv) (λ_ _=>False) nV) (notedBy (model prog w) A env λe s'=>R (.error e) s') gW
      else ∃ m,m < n/\I m gW) (λ_ _=>False) iu) (λ_ _=>False) bW) (λ_ _=>False) bW) (λ_ _=>False) s)(n:Nat)(h:I n s) :
  codeAny (model prog w) A (.compLoop (.ListComp elt [⟨target,iter,ifs,0⟩] scope pos) 0 it acc env) R s:=by
 refine codeAny_loop rfl I (λn s hI=>?_) n h;show wpAny _ A ((compTurn (.ListComp elt [⟨target,iter,ifs,0⟩] scope pos) 0 it acc env).onRaise (λx=>do noteFrame x env;theTreesLotGoes x)) _ _ s;refine wpAny_noted ?_;rw[compTurn_list];refine aa (iE (aa (bQ (turn n s hI) (λr bW fE=>?_) λ_ _ h'=>h'.elim)));cases r with
 |none=>exact ah fE
 |some v =>
  refine aa (bQ fE (λ_ bW fE=>?_) λ_ _ h'=>h'.elim);refine aa (bQ fE (λ_ iu kq=>aa (bQ kq (λok gW uX=>?_) λ_ _ h'=>h'.elim)) λ_ _ h'=>h'.elim);cases ok with
  |false=>exact wpAny_pure ⟨rfl,uX⟩
  |true =>
   exact aa (aa (bQ uX (λx nV Ag=>aa (bQ Ag (λ_ uv Af=>ah (ah ⟨rfl,Af⟩)) λ_ _ h'=>h'.elim)) λ_ _ h'=>h'))
end
def lS(X:Cx)(es:List Expr)(t:TT):Prop :=
 ∀(pins:List (Addr×Obj)) (s:Shared) (σ:St) (H:Hp) (Q:Bool->Hp->Prop),Inv X pins σ H s->t σ H Q ->
  wpAny (model X.prog X.w) X.A (forIn es true λc r=>if r=true then do let ok <- isTrue c X.env (eval c X.env);pure (ForInStep.yield ok) else pure (ForInStep.yield r)) (TP X pins σ Q) X.xe s
def UN:TT:=λ_ H Q=>Q true H
section
variable{X:Cx}
theorem RI:lS X [] UN:=λpins s σ H Q I h=>ah ⟨H,I,h⟩
theorem RJ{c:Expr}{t:TT}(h:PT X c t):lS X [c] t:=by
 intro pins s σ H Q I q;simp only[List.forIn_cons,List.forIn_nil,if_true];exact aa (aa (bQ (h pins s σ H Q I q) (λb s' hb=>ah (ah hb)) λ_ _ x=>x))
end
def L8(scope:Scope)(cl:List (Str×Addr))(C:Addr):List (Str×Addr):=cellsFrom (C+1) scope.names []++cl
theorem B9:∀(names:List (Str×NameKind)) (n:Nat) (acc:List (Str×Addr)),cellsFrom n names acc=cellsFrom n names []++acc
 |[],_,_=>rfl
 |(y,k)::r,n,acc=>by
  unfold cellsFrom;split
  ·rw[B9 r (n+1) ((y,n)::acc),B9 r (n+1) [(y,n)],kn]
   rfl
  ·exact B9 r n acc
theorem U1{x:Str}{c:Addr}:∀{names:List (Str×NameKind)} {n:Nat},(x,c)∈cellsFrom n names []->(x,NameKind.cell)∈names
 |[],_,h=>by simp[cellsFrom] at h
 |(y,k)::r,n,h=>by
  unfold cellsFrom at h;split at h
  ·rename_i hk;rw[B9] at h;rcases bN.mp h with z|z
   ·exact br _ (U1 z)
   ·cases cz.mp z;rw[show k=NameKind.cell from by simpa using hk];exact gh
  ·exact br _ (U1 h)
theorem E5{α:Type}{x:Str}:∀{a b:List (Str×α)},(a++b).lookup x=(a.lookup x).or (b.lookup x)
 |[],_=>rfl
 |(y,v)::r,b=>by
  rw[gU,cA,cA];cases x==y
  ·exact E5
  ·rfl
theorem HN{scope:Scope}{cl:List (Str×Addr)}{C:Addr}{x:Str}(h:scope.names.lookup x=some .cell\/∃c,cl.lookup x=some c):∃c,(L8 scope cl C).lookup x=some c:=by
 unfold L8;rw[E5];cases e:(cellsFrom (C+1) scope.names []).lookup x with
 |some c=>exact⟨c,rfl⟩
 |none =>
  rcases h with h|h
  ·have q:=dF scope.names (C+1) [] (.inl h);rw[e] at q;cases q
  ·exact h
theorem N1{env:Env}:∀{names:List (Str×NameKind)} {x:Str},names.lookup x=some .cell ->
  (names.map λ(n,k)=>if(k==NameKind.free&&env.scope.kind==.function&&env.kindOf n==some .cell) then(n,NameKind.cell) else(n,k)).lookup x=some .cell
 |[],_,h=>by simp at h
 |(n,k)::r,x,h=>by
  have ih:=@N1 env r x;show List.lookup x ((if(k==NameKind.free&&env.scope.kind==.function&&env.kindOf n==some .cell)=true then(n,NameKind.cell) else(n,k))::_)=_;cases hx:x==n with
  |true =>
   simp only[List.lookup_cons,hx] at h;cases h;simp[List.lookup_cons,hx]
  |false =>
   simp only[List.lookup_cons,hx] at h;by_cases hc:(k==NameKind.free&&env.scope.kind==.function&&env.kindOf n==some .cell)=true
   ·rw[au hc];simp only[List.lookup_cons,hx];exact ih h
   ·rw[ax hc];simp only[List.lookup_cons,hx];exact ih h
theorem Kr{scope:Scope}{cl:List (Str×Addr)}{C:Addr}{h:Heap}(ck:CellsOk h (C+1) (cellsFrom (C+1) scope.names [])){x:Str}{c:Addr}(e:(L8 scope cl C).lookup x=some c):C<c\/cl.lookup x=some c:=by
 unfold L8 at e;rw[E5] at e;cases e2:(cellsFrom (C+1) scope.names []).lookup x with
 |some c' =>
  rw[e2] at e;cases e;exact .inl (ck.empty x c (aJ e2)).2
 |none =>
  rw[e2] at e;exact .inr e
theorem XY{M:Model}{A:Around}{E:Value->Shared->Prop}{s:Shared}{scope:Scope}{globals:Addr}{cl:List (Str×Addr)}{qual:Str}{outer:Env}{Q:Env->Shared->Prop}(hQ:∀ fE:Heap,fE.Ns s.heap.objs.size (λ_=>none)->(∀ b o,s.heap.get? b=some o->fE.get? b=some o)->CellsOk fE (s.heap.objs.size + 1) (cellsFrom (s.heap.objs.size + 1) scope.names []) ->
   Q (newEnv scope s.heap.objs.size globals (L8 scope cl s.heap.objs.size) qual none .none (some outer) builtinsNs) { s with heap:=fE }) :
  wpAny M A (newFunctionEnv scope globals cl [] qual none .none (some outer)) Q E s:=by
 simp only[newFunctionEnv,Option.isSome_some,if_true];refine aa (wpAny_alloc ?_);refine aa (wpAny_layCells _ (λname kind cells=>by cases MX:kind==NameKind.cell<;>simp[MX]) _ _ _ _ ?_);have ok:=cellsFrom_ok scope.names (s.heap.push { cls:=.type "dict",data:=.dict #[] }) (s.heap.objs.size+1) [] ⟨λ_ _ hm=>(nomatch hm),List.Pairwise.nil⟩ (by rw[fB];exact aj _);rw[fB] at ok;rw[show({ s with heap:=s.heap.push { cls:=.type "dict",data:=.dict #[] } }:Shared).heap.objs.size=s.heap.objs.size+1 from fB ..];rw[List.forIn_nil];refine aa (ah (ah ?_));rw[B9];exact hQ _ ((Heap.Ns.new s.heap (.type "dict")).keeps (pushCells_keeps _ _)) (λb o e=>pushCells_keeps _ _ b o (ai _ e)) ok
def d8(X:Cx)(pins:List (Addr×Obj))(scope:Scope)(N':List Str)(cl:List (Str×Addr))(C:Addr)(s:Shared)(H:Hp)(fp:List Addr):Cx where
 prog:=X.prog
 w:=X.w
 K:=X.K
 mg:=X.mg
 base:=X.base
 A:=X.A
 N:=N'
 dz:=s
 iY:=H
 env:=compEnvC scope (L8 scope cl C) C X.env
 outer:=X.stack
 stack:=X.stack
 ex:=fp
 calm:=true
 fn:=λx=>decide (scope.names.lookup x=some .cell)
 pn:=X.pn++pins
 xe:=λ_ _=>False
structure dZ(X:Cx)(scope:Scope)(N':List Str)(d4:List Nat)(cl:List (Str×Addr)):Prop where
 kind:scope.kind=.function
 cells:∀y∈scope.names,y.2=.cell->scope.names.lookup y.1=some .cell
 names:∀y∈scope.names,y.2=.local->scope.names.lookup y.1=some .local
 rE:closureFor scope X.env=pure cl
 cin:∀x c,cl.lookup x=some c->X.env.cells.lookup x=some c
 wB:∀x,scope.names.lookup x=some .free->∃c,cl.lookup x=some c
 nd:N'.Nodup
 OB:∀(i j:Nat),d4[i]?=some j->∃x,N'[i]?=some x/\X.N[j]?=some x/\scope.names.lookup x=some .free/\(X.env.kindOf x=some .cell\/X.env.kindOf x=some .free)
 BL:d4.length<=N'.length
theorem C8{env:Env}:∀{names:List (Str×NameKind)} {x:Str},names.lookup x=some .free ->
  (names.map λ(n,k)=>if(k==NameKind.free&&env.scope.kind==.function&&env.kindOf n==some .cell) then(n,NameKind.cell) else(n,k)).lookup x=some .cell \/
  (names.map λ(n,k)=>if(k==NameKind.free&&env.scope.kind==.function&&env.kindOf n==some .cell) then(n,NameKind.cell) else(n,k)).lookup x=some .free
 |[],_,h=>by simp at h
 |(n,k)::r,x,h=>by
  have ih:=@C8 env r x;show List.lookup x ((if(k==NameKind.free&&env.scope.kind==.function&&env.kindOf n==some .cell)=true then(n,NameKind.cell) else(n,k))::_)=_\/List.lookup x ((if(k==NameKind.free&&env.scope.kind==.function&&env.kindOf n==some .cell)=true then(n,NameKind.cell) else(n,k))::_)=_;cases hx:x==n with
  |true =>
   simp only[List.lookup_cons,hx] at h;cases h;by_cases hc:(NameKind.free==NameKind.free&&env.scope.kind==.function&&env.kindOf n==some .cell)=true
   ·rw[au hc];simp[List.lookup_cons,hx]
   ·rw[ax hc];simp[List.lookup_cons,hx]
  |false =>
   simp only[List.lookup_cons,hx] at h;by_cases hc:(k==NameKind.free&&env.scope.kind==.function&&env.kindOf n==some .cell)=true
   ·rw[au hc];simp only[List.lookup_cons,hx];exact ih h
   ·rw[ax hc];simp only[List.lookup_cons,hx];exact ih h
theorem N3{env:Env}:∀{names:List (Str×NameKind)} {x:Str},((names.map λ(n,k)=>if(k==NameKind.free&&env.scope.kind==.function&&env.kindOf n==some .cell) then(n,NameKind.cell) else(n,k)).lookup x=some .cell \/
  (names.map λ(n,k)=>if (k == NameKind.free && env.scope.kind == .function && env.kindOf n == some .cell) then (n,NameKind.cell) else (n,k)).lookup x=some .free)->names.lookup x=some .free \/ names.lookup x=some .cell
 |[],_,h=>by simp at h
 |(n,k)::r,x,h=>by
  have ih:=@N3 env r x;rw[ba] at h;cases hx:x==n with
  |true =>
   simp only[List.lookup_cons,hx];by_cases hc:(k==NameKind.free&&env.scope.kind==.function&&env.kindOf n==some .cell)=true
   ·left;simp only[Bool.and_eq_true,beq_iff_eq] at hc;rw[hc.1.1]
   ·simp only[if_neg hc,List.lookup_cons,hx] at h;rcases h with h|h
    ·exact .inr h
    ·exact .inl h
  |false =>
   simp only[List.lookup_cons,hx];by_cases hc:(k==NameKind.free&&env.scope.kind==.function&&env.kindOf n==some .cell)=true
   ·simp only[if_pos hc,List.lookup_cons,hx] at h;exact ih h
   ·simp only[if_neg hc,List.lookup_cons,hx] at h;exact ih h
def E9(σ:St)(d4:List Nat)(n:Nat):St:=d4.map (λj=>(σ[j]?).join)++List.replicate (n-d4.length) none
section
variable{X:Cx}{pins:List (Addr×Obj)}{σ:St}{H:Hp}{s:Shared}
theorem Inv.Zl{scope:Scope}{N':List Str}{d4:List Nat}{cl:List (Str×Addr)}{C:Addr}{h1:Heap}{fp:List Addr}{tk:Nat}(I:Inv X pins σ H s)(S:dZ X scope N' d4 cl)(hc:X.calm=true)(hf:∀b∈fp,M9 X pins H b)(ho:∀b∈fp,∃o,s.heap.get? b=some o)(hC:s.heap.objs.size<=C)(hn:∃m,h1.Ns C m)(k:∀b o,s.heap.get? b=some o->h1.get? b=some o)(ck:CellsOk h1 (C+1) (cellsFrom (C+1) scope.names [])) :
  Inv (d8 X pins scope N' cl C s H fp) [] (E9 σ d4 N'.length) H { s with heap:=h1,toks:=tk }:=by
 obtain⟨m,hm⟩:=hn;have MW:(relabel scope X.env).kind=.function:=S.kind;have EY:∀b o,s.heap.get? b=some o->b≠C:=λb o e z=>absurd (aB e) (by rw[z];exact ij.mpr hC);have two:∀{x:Str} {c:Addr},(L8 scope cl C).lookup x=some c->(C<c/\h1.IsCell c none/\(x,c)∈cellsFrom (C+1) scope.names [])\/(cl.lookup x=some c/\(cellsFrom (C+1) scope.names []).lookup x=none):=λ{x c} h=>by
  unfold L8 at h;rw[E5] at h;cases e:(cellsFrom (C+1) scope.names []).lookup x with
  |some c' =>
   rw[e] at h;cases h;have hm:=aJ e;exact .inl ⟨(ck.empty x c hm).2,(ck.empty x c hm).1,hm⟩
  |none =>
   rw[e] at h;exact .inr ⟨h,rfl⟩
 have uH:∀{x:Str} {c:Addr},cl.lookup x=some c->c<s.heap.objs.size:=λ{x c} h=>by
  obtain⟨v,o,e,_⟩:=I.cell x c (S.cin x c h);exact aB e
 have frees:∀{x:Str},scope.names.lookup x=some .free->(L8 scope cl C).lookup x=cl.lookup x:=λ{x} h=>by
  unfold L8;rw[E5];cases e:(cellsFrom (C+1) scope.names []).lookup x with
  |some c' =>
   have:=S.cells _ (U1 (aJ e)) rfl;rw[h] at this;cases this
  |none=>rfl
 refine⟨⟨I.mod,MW,I.ok.glob,I.ok.blt,hC,?_,?_,?_,λ_=>I.ok.hd hc,I.ok.frames,.inl rfl,?_,I.bs,?_,?_,?_,I.stack,I.zd⟩,rfl,I.bare,Un.kept k,⟨m,hm,?_⟩,?_,?_,?_,?_,I.bG.kept k,?_⟩
 ·intro x y c h1 h2;rcases two h1 with⟨l1,_,q1⟩|⟨q1,_⟩<;>rcases two h2 with⟨l2,_,q2⟩|⟨q2,_⟩
  ·exact PySem.name_of_addr ck.apart q1 q2
  ·exact absurd (cX l1 (av (uH q2) hC)) (bL _)
  ·exact absurd (cX l2 (av (uH q1) hC)) (bL _)
  ·exact I.ok.inj x y c (S.cin x c q1) (S.cin y c q2)
 ·intro x hx;rcases N3 (env:=X.env) (names:=scope.names) hx with z|z
  ·obtain⟨c,hc⟩:=S.wB x z;exact⟨c,(frees z).trans hc⟩
  ·have q:=dF scope.names (C+1) [] (.inl z);obtain⟨c,hc⟩:=eL.mp q;refine⟨c,?_⟩;show(L8 scope cl C).lookup x=some c;unfold L8;rw[E5,hc]
   rfl
 ·intro x c hf h;have z:scope.names.lookup x=some .cell:=bC hf;have q:=dF scope.names (C+1) [] (.inl z);rcases two h with⟨l,_⟩|⟨_,e⟩
  ·exact dX (jB hC l)
  ·rw[e] at q;cases q
 ·intro b hb;obtain⟨f0,f1,f2,f3,f4,f5⟩:=hf b hb;obtain⟨o,e⟩:=ho b hb;refine⟨EY b o e,λx c h=>?_⟩;rcases two h with⟨l,_⟩|⟨q,_⟩
  ·intro z;subst z;exact absurd (cX l (av (aB e) hC)) (bL _)
  ·exact f4 x c (S.cin x c q)
 ·exact aM I.ok.mW I.sz
 ·intro b o e hb;obtain⟨f0,f1,f2,f3,f4,f5⟩:=hf b hb;rcases f3 with f3|f3
  ·exact I.ok.jH b o e f3
  ·exact absurd (aB (I.ok.bs b o e).1) (ij.mpr f3)
 ·intro b hb z;obtain⟨f0,f1,f2,f3,f4,f5⟩:=hf b hb;rcases aI.mp (I.O9 b z) with z|z
  ·exact f1 z
  ·exact f2 z
 ·intro i x v NZ h2 h3;have hi:i<d4.length:=by
   unfold E9 at h2;by_cases hi:i<d4.length
   ·exact hi
   ·rw[cL (by simpa using hi),du] at h2;split at h2<;>cases h2
  obtain⟨j,hj⟩:∃j,d4[i]?=some j:=⟨_,ao hi⟩
  have hs:σ[j]?=some (some v):=by
   unfold E9 at h2;rw[aA (by simpa using hi),aE,hj] at h2;simp only[Option.map_some] at h2;cases e:σ[j]? with
   |none=>rw[e] at h2;cases h2
   |some a=>rw[e] at h2;exact fY some (aO h2)
  obtain⟨y,MB,MA,Aj,Fm⟩:=S.OB i j hj;have ey:y=x:=by
   have vM:N'[i]?=some x:=NZ;rw[MB] at vM;exact aO vM
  subst ey;obtain⟨m0,Fw,hl⟩:=I.loc;obtain ⟨u,ru,hu⟩:=hl j y v MA hs (by
   rcases Fm with z|z
   ·exact .inr (.inl z)
   ·exact .inr (.inr z))
  refine⟨u,ru,.inr ⟨C8 (env:=X.env) (names:=scope.names) Aj,?_⟩⟩;rcases hu with⟨z,_⟩|⟨_,c,Nj,nu⟩
  ·rcases Fm with z'|z'<;>(rw[z'] at z;cases z)
  ·obtain⟨c',vH⟩:=S.wB y Aj;have e:=S.cin y c' vH;rw[Nj] at e;cases e;obtain⟨o,e1,e2⟩:=nu;exact⟨c,(frees Aj).trans vH,o,k _ _ e1,e2⟩
 ·intro x c h;rcases two h with⟨_,q,_⟩|⟨q,_⟩
  ·exact⟨none,q⟩
  ·obtain⟨v,o,e1,e2⟩:=I.cell x c (S.cin x c q);exact⟨v,o,k _ _ e1,e2⟩
 ·exact I.bG.fresh hC
 ·intro x c h;rcases two h with⟨l,_⟩|⟨q,_⟩
  ·exact I.bG.fresh (dX (jB hC l))
  ·exact I.eR x c (S.cin x c q)
 ·intro p hp;have lj:p∈X.pn++pins:=by simpa[d8] using hp
  obtain⟨p1,p2,p3,p4,p5⟩:=I.pin p lj;refine⟨k _ _ p1,p2,EY _ _ p1,λz=>?_,p5⟩;rcases aI.mp (I.O9 _ z) with z|z
  ·exact p3 z
  ·exact p4 z
 ·unfold E9;show _=N'.length;rw[aU,ak,iG];have:=S.BL;omega
theorem Inv.Ko{scope:Scope}{N':List Str}{cl:List (Str×Addr)}{C:Addr}{fp:List Addr}{iJ:List (Addr×Obj)}{cj:St}{H':Hp}{s':Shared}(I:Inv X pins σ H s)(hf:∀b∈fp,M9 X pins H b)(J:Inv (d8 X pins scope N' cl C s H fp) iJ cj H' s'):Inv X pins σ H' s' :=
 I.Dx (ch:=fp) J.os J.base J.bG J.bare λb hb=>by
  obtain⟨f0,f1,f2,f3,f4,f5⟩:=hf b hb;exact⟨f3,f1,f4,f5⟩
theorem Inv.WJ{D:Addr}{ys:List V}{aT:List Value}{n:Nat}(I:Inv X pins σ H s)(f:M9 X pins H D)(hs:X.dz.heap.objs.size<=D)(hv:Vals ys aT)(hz:ys.length<=sizeLine)(ho:s.heap.get? D=some { cls:=.type "list",data:=.seq aT.toArray n }):Inv X pins σ (upd H D (.lst ys)) s:=by
 obtain⟨f0,f1,f2,f3,f4,f5⟩:=f;have dW:∀b o,X.dz.heap.get? b=some o->b≠D:=λb o e z=>absurd (aB e) (by rw[z];exact ij.mpr hs);have tup:∀b u,H b=some u->upd H D (.lst ys) b=some u:=λb u e=>by rw[i7 (p6 e f0)];exact e
 refine⟨I.ok,I.os,I.bare,⟨?_,?_,?_,I.base.there,?_,?_,?_⟩,I.loc,I.cell,?_,?_,?_,?_,I.len⟩
 ·exact λb o e n1 n2 n3=>I.base.keep b o e n1 n2 n3
 ·exact λb o e n1 n2 n3=>I.base.slot b o e n1 n2 n3
 ·exact λb o e n1 n2=>by rw[i7 (dW b o e)];exact I.base.free b o e n1 n2
 ·exact λb xs e=>tup _ _ (I.base.ip b xs e)
 ·exact λb o u e=>tup _ _ (I.base.gY b o u e)
 ·exact λb ps e=>by
   obtain⟨more,q⟩:=I.base.ir b ps e;exact⟨more,tup _ _ q⟩
 ·rw[i7 f1.symm];exact I.free
 ·exact λx c e=>by rw[i7 (f4 x c e)];exact I.eR x c e
 ·intro p hp;obtain⟨p1,p2,p3⟩:=I.pin p hp;exact⟨p1,by rw[i7 (f5 p hp)];exact p2,p3⟩
 ·intro a o e;by_cases ha:a=D
  ·subst ha;rw[m9] at e;cases e;exact⟨hz,aT,n,hv,ho⟩
  ·rw[i7 ha] at e;have q:=I.bG a o e;refine q.Q2 (λb u _ h=>h) (λb hb=>tup _ _ hb) (λb xs hb=>tup _ _ hb)
end
end L2

namespace L2
open PySem PySem.Spec PyProof.Rows
def wR(wi:TI)(d4:List Nat)(n:Nat)(g:TG)(tc:TT)(te:TE):TE:=λσ H Q=>wi σ H λJ H1=>∃W:Nat->Nat->List V->St->Hp->Prop,(∃m,W 0 m [] (E9 σ d4 n) H1)/\∀i m ys σ H,W i m ys σ H ->
 (J.stop i H/\∀p,H p=none->Q (.ref p) (upd H p (.lst ys))) \/
 (J.go i H/\ys.length < sizeLine/\∀ x H',J.uj i H x H'->g x σ H' λde H2=>tc de H2 λb H3 =>
  if b=true then te de H3 λy H4=>∃ m',m' < m/\W (i + 1) m' (ys ++ [y]) de H4 else ∃ m',m' < m/\W (i + 1) m' ys de H3)
noncomputable abbrev N5(aT:List Value)(n:Nat):Obj:={ cls:=.type "list",data:=.seq aT.toArray n }
section
variable{X:Cx}{pins:List (Addr×Obj)}{σ:St}{H:Hp}{s:Shared}
theorem Dh{elt tg iter:Expr}{ifs:List Expr}{scope:Scope}{N':List Str}{d4:List Nat}{cl:List (Str×Addr)}{pos:Pos}{it:Addr}{fp:List Addr}{tn:Nat->Heap->Prop}{J:It}{g:TG}{tc:TT}{te:TE}{xx:Addr->Shared->Hp->Value->Shared->Prop}{RR:Value->Addr->Result->Shared->Prop}{E:Value->Shared->Prop}{W:Nat->Nat->List V->St->Hp->Prop}{m0:Nat}{Q:VK}(S:dZ X scope N' d4 cl)(hc:X.calm=true)(hg:∀C s H,PG (d8 X pins scope N' cl C s H fp) tg g)(ht:∀C s H,lS (d8 X pins scope N' cl C s H fp) ifs tc)(he:∀C s H,PE ((d8 X pins scope N' cl C s H fp).Q1 (xx C s H)) elt te)(I:Inv X pins σ H s)(T:Turn X.prog X.w X.K tg J fp it tn)(st:tn 0 s.heap)(hf:∀b∈fp,M9 X pins H b)(w0:W 0 m0 [] (E9 σ d4 N'.length) H)(turn:∀ i m ys σ H,W i m ys σ H->(J.stop i H/\∀ p,H p=none->Q (.ref p) (upd H p (.lst ys))) \/
   (J.go i H/\ys.length < sizeLine/\∀ x H',J.uj i H x H'->g x σ H' λde H2=>tc de H2 λb H3 =>
    if b=true then te de H3 λy H4=>∃ m',m' < m/\W (i + 1) m' (ys ++ [y]) de H4 else ∃ m',m' < m/\W (i + 1) m' ys de H3))(Ny:∀D C s' H' m,Inv X pins σ H' s'->Q (.ref D) H'->s'.heap.Ns C m->H' C=none->s.heap.objs.size<=C->RR (.ref D) C (.ok .next) s')(Nx:∀D C e s',s.heap.objs.size<=C->xx C s H e s'->notedBy (model X.prog X.w) X.A (compEnvC scope (L8 scope cl C) C X.env) (λe s'=>RR (.ref D) C (.error e) s') e s') :
  wpAny (model X.prog X.w) X.A (newList []) (λacc gW=>wpAny (model X.prog X.w) X.A (newFunctionEnv scope X.env.globals cl [] X.env.qual none .none (some X.env)) (λcenv nV =>
   cenv.frame=X.env.frame/\codeAny (model X.prog X.w) X.A (.compStart (.ListComp elt [⟨tg,iter,ifs,0⟩] scope pos) 0 (.ref it) acc { cenv with scope:=relabel scope X.env }) (RR acc cenv.locals) nV) E gW) E s:=by
 refine bT (XY λfE kx jn vG=>?_);dsimp only at kx jn vG ⊢;generalize vL:s.heap.push { cls:=.type "list",dict:=none,data:=.seq ([]:List Value).toArray }=H2 at kx jn vG ⊢;generalize eD:s.heap.objs.size=D at *;have hC:H2.objs.size=D+1:=by rw[<- vL,fB,eD]
 generalize eC:H2.objs.size=C at *;have FP:D≠C:=by omega
 have lt:∀b o,s.heap.get? b=some o->b<D:=λb o e=>by rw[<- eD];exact aB e
 have Ae:D<=C:=by omega
 have sv:∀b o,s.heap.get? b=some o->b≠C:=λb o e=>aR (av (lt b o e) Ae);have uN:∀b o,s.heap.get? b=some o->b≠D:=λb o e=>aR (lt b o e);have old:∀b o,s.heap.get? b=some o->fE.get? b=some o:=λb o e=>jn b o (vL▸ai _ e);have ow:fE.get? D=some (N5 [] 0):=jn _ _ (by rw[<- vL,<- eD];exact aF _ rfl);have kr:∀b∈fp,∃o,s.heap.get? b=some o:=λb hb=>by
  obtain⟨o,e,_⟩:=T.obj _ _ st b hb;exact⟨o,e⟩
 have FO:D∉fp:=λhm=>by
  obtain⟨o,e⟩:=kr D hm;exact uN D o e rfl
 have X1:Inv (d8 X pins scope N' cl C s H fp) [] (E9 σ d4 N'.length) H { s with heap:=fE } :=
  I.Zl S hc hf kr (by rw[eD];omega) ⟨_,kx⟩ old vG
 have EL:tn 0 fE:=T.keep _ _ _ st λb _ o e=>old b o e;have Oj:∀{H':Hp},(∀b∈fp,H' b=none)->∀b∈fp,M9 (d8 X pins scope N' cl C s H fp) [] H' b:=λhn b hb=>by
  obtain⟨f0,f1,f2,f3,f4,f5⟩:=hf b hb;obtain⟨o,e⟩:=kr b hb;refine⟨hn b hb,?_,?_,.inl hb,λx c q=>(Kr vG q).elim (λl z=>absurd (cX (z▸l) (av (lt b o e) Ae)) (bL _)) λq=>f4 x c (S.cin x c q),λp hp=>?_⟩
  ·exact sv b o e
  ·exact λz=>by
    rcases aI.mp (I.O9 b z) with z|z
    ·exact f1 z
    ·exact f2 z
  ·have lj:p∈X.pn++pins:=by simpa[d8] using hp
   exact f5 p lj
 have fD:∀{H':Hp},H' D=none->M9 (d8 X pins scope N' cl C s H fp) [] H' D:=λhn=>by
  refine⟨hn,FP,λz=>?_,.inr (by show s.heap.objs.size<=D;omega),λx c q=>?_,λp hp=>?_⟩
  ·exact absurd (I.zu (a:=D) (by omega)) λlq=>by
    rcases aI.mp (I.O9 D z) with z|z
    ·exact absurd I.lt (by rw[<- z,eD];exact bL _)
    ·exact lq z
  ·rcases Kr vG q with l|q
   ·exact λz=>absurd (av (z▸l) Ae) (bL _)
   ·obtain⟨v,o,e,_⟩:=I.cell x c (S.cin x c q);exact uN c o e
  ·have lj:p∈X.pn++pins:=by simpa[d8] using hp
   exact uN _ _ (I.pin p lj).1
 have zW:∀{H':Hp} {s':Shared} {cj:St} {aT:List Value} {n:Nat},Inv (d8 X pins scope N' cl C s H fp) [] cj H' s'->H' D=none->s'.heap.get? D=some (N5 aT n) ->
   Inv (d8 X pins scope N' cl C s H fp) [(D,N5 aT n)] cj H' s':=λ{H' s' cj aT n} J0 hn e=>J0.Y4 λp hp=>by
  have z:p=(D,N5 aT n):=by simpa using hp
  subst z;obtain⟨f0,f1,f2,_⟩:=fD hn;exact⟨e,f0,f1,f2,λv z=>nomatch z⟩
 have BE:∀{H':Hp} {aT:List Value} {n:Nat},(∀b∈fp,H' b=none)->∀b∈fp,M9 (d8 X pins scope N' cl C s H fp) [(D,N5 aT n)] H' b:=λ{H' aT n} hn b hb=>by
  obtain⟨f0,f1,f2,f3,f4,f5⟩:=Oj hn b hb;refine⟨f0,f1,f2,f3,f4,λp hp=>?_⟩;have lj:p∈(d8 X pins scope N' cl C s H fp).pn\/p=(D,N5 aT n):=by simpa using hp
  rcases lj with z|z
  ·exact f5 p (fA _ z)
  ·subst z;exact λz=>FO (by rw[show D=b from z];exact hb)
 have loop:∀gW:Shared,gW={ s with heap:=fE } ->
   codeAny (model X.prog X.w) X.A (.compLoop (.ListComp elt [⟨tg,iter,ifs,0⟩] scope pos) 0 (.ref it) (.ref D) (compEnvC scope (L8 scope cl C) C X.env)) (RR (.ref D) C) gW:=by
  rintro gW rfl;refine aF2 (λn s'=>∃ i ys cj H' aT nn,Inv (d8 X pins scope N' cl C s H fp) [] cj H' s'/\tn i s'.heap/\(∀ b ∈ fp,H' b=none)/\H' D=none/\Vals ys aT/\ys.length <= sizeLine /\
   s'.heap.get? D=some (N5 aT nn)/\W i n ys cj H') ?_ m0 ⟨0,[],_,H,[],0,X1,EL,λb hb=>(hf b hb).1,I.bG.fresh (by omega),.nil,cI _,ow,w0⟩
  rintro n s3 ⟨i,ys,lL,H3,aT,nn,I3,uy,wo,d3,v3,z3,o3,w3⟩;have Lh:=zW I3 d3 o3;rcases turn i n ys lL H3 w3 with⟨stop,q⟩|⟨go,hz,step⟩
  ·refine cw (T.done (d8 X pins scope N' cl C s H fp) rfl rfl rfl rfl i _ s3 _ H3 _ Lh (BE wo) uy stop) λr s4 ⟨hr,I4⟩=>?_;subst hr;have o4:=(I4.pin (D,N5 aT nn) (by simp)).1;have J4:Inv X pins σ H3 s4:=I.Ko hf I4;have Ol:M9 X pins H3 D:=by
    refine⟨d3,cB (by rw[<- eD];exact I.lt),I.zu (by omega),.inr (by have:=I.sz;omega),λx c q=>?_,λp hp=>?_⟩
    ·obtain⟨v,o,e,_⟩:=I.cell x c q;exact uN c o e
    ·exact uN _ _ (I.pin p hp).1
   obtain⟨mC,Az,_⟩:=I4.loc;exact Ny D C s4 (upd H3 D (.lst ys)) mC (J4.WJ Ol (by have:=I.sz;omega) v3 z3 o4) (q D d3) Az (by rw[i7 FP.symm];exact I4.free) (by omega)
  ·refine cw (T.item (d8 X pins scope N' cl C s H fp) rfl rfl rfl rfl i _ s3 _ H3 _ Lh (BE wo) uy go) λr s4 ⟨u,hr,h4⟩=>?_;subst hr;refine cw h4 λ_ s5 bh=>?_;obtain⟨x,H5,I5,r5,y5,qt,BD⟩:=bh;have o5:=I5.pin (D,N5 aT nn) (by simp);have Et:=I5.pinned (BE BD) (T.obj _ _ qt);refine cw (hg C s H _ s5 _ H5 x u _ Et r5 (step x H5 y5)) λ_ s6 bh=>?_;obtain⟨qk,H6,I6,q6⟩:=bh;refine cw (ht C s H _ s6 qk H6 _ I6 q6) λok s7 ⟨H7,I7,q7⟩=>?_;have back:∀{EC:St} {H8:Hp} {s8:Shared},Inv (d8 X pins scope N' cl C s H fp) ([(D,N5 aT nn)]++wZ fp s5.heap) EC H8 s8->(∀b∈fp,H8 b=none)/\tn (i+1) s8.heap/\H8 D=none/\s8.heap.get? D=some (N5 aT nn) :=
    λ{EC H8 s8} I8=>by
     have pf:∀b∈fp,∀o,s5.heap.get? b=some o->s8.heap.get? b=some o/\H8 b=none:=λb hb o e=>by
      have:=I8.pin (b,o) (bP _ (bP _ (Dq hb e)));exact⟨this.1,this.2.1⟩
     have pd:=I8.pin (D,N5 aT nn) (by simp);refine⟨λb hb=>?_,T.keep _ _ _ qt λb hb o e=>(pf b hb o e).1,pd.2.1,pd.1⟩;obtain⟨o,e,_⟩:=T.obj _ _ qt b hb;exact(pf b hb o e).2
   cases ok with
   |false =>
    obtain⟨m',hm,w7⟩:=q7;obtain⟨b1,b2,b3,b4⟩:=back I7;exact⟨m',hm,i+1,ys,qk,H7,aT,nn,I7.Y4 λp hp=>absurd hp (by simp),b2,b1,b3,v3,z3,b4,w7⟩
   |true =>
    refine bQ (he C s H _ s7 qk H7 _ (I7.Q1 _) q7) (λxv s8 bh=>?_) λe s' hx=>Nx D C e s' (by omega) hx;obtain⟨y,H8,I8,r8,m',hm,w8⟩:=bh;have I8:=I8.yO;obtain⟨b1,b2,b3,b4⟩:=back I8;refine cW F.slot_list_append ⟨_,b4,rfl⟩ F.entry_list_append (F.args_list_append_2 _ _) (PySem.list_append D aT.toArray nn xv (by rw[ay];have:=v3.length;omega)) ⟨b4,?_⟩;have q:∃n',(s8.heap.update D (Obj.mapSeq (·.push xv))).get? D=some (N5 (aT++[xv]) n'):=by
     have q0:=PySem.IsL.update b4 (·.push xv);have e0:aT.toArray.push xv=(aT++[xv]).toArray:=by simp
     rw[e0] at q0;exact⟨_,q0⟩
    obtain⟨n',q⟩:=q;have I8':Inv (d8 X pins scope N' cl C s H fp) [] qk H8 s8:=I8.Y4 λp hp=>absurd hp (by simp);obtain⟨f0,f1,f2,f3,f4,f5⟩:=fD (H':=H8) b3;have kp:∀b o,b≠D->s8.heap.get? b=some o->(s8.heap.update D (Obj.mapSeq (·.push xv))).get? b=some o:=λb' u hb hu=>(bx s8.heap (Obj.mapSeq (·.push xv)) (aL hb)).trans hu;refine⟨m',hm,i+1,ys++[y],qk,H8,aT++[xv],n',I8'.turned (it:=D) (t':=s8.toks) kp f0 f1 f3 f4 f5,T.keep _ _ _ b2 λb hb o e=>kp b o (λz=>FO (by rw[<- z];exact hb)) e,b1,b3,v3.append (.cons r8 .nil),?_,q,w8⟩;rw[aU,xA];omega
 exact⟨rfl,codeAny_compStart_list (loop _ rfl) (T.self _ 0 _ _ _ EL (loop _ rfl))⟩
theorem Inv.wM{C:Addr}{h':Heap}{s2:Shared}{H2:Hp}(I:Inv X pins σ H s)(hC:s2.heap.objs.size<=C)(I2:Inv X pins σ H2 s2)(hn:H C=none)(sb:Heap.SameBut C s.heap h'):Inv X pins σ H { s with heap:=h' }:=by
 have f:=I2.tG (b:=C) (H':=H) hC hn;obtain⟨f0,f1,f2,f3,f4,f5⟩:=f;exact I.turned (t':=s.toks) (λb o hb e=>sb.extBut b o hb e) f0 f1 f3 f4 f5
theorem Il{M:Model}{A:Around}{E:Value->Shared->Prop}{s:Shared}{a:Sem Value}{b:Sem Env}{P:Env->Prop}{Q:Value->Env->Shared->Prop}(h:wpAny M A a (λx s1=>wpAny M A b (λy s2=>P y/\Q x y s2) E s1) E s):wpAny M A a (λx s1=>wpAny M A b (λy s2=>Q x y s2) E s1) E s :=
 bQ h (λ_ _ h=>bQ h (λ_ _ h=>h.2) λ_ _ z=>z) λ_ _ z=>z
theorem JS{elt tg iter:Expr}{ifs:List Expr}{scope:Scope}{N':List Str}{d4:List Nat}{cl:List (Str×Addr)}{pos:Pos}{wi:TI}{g:TG}{tc:TT}{te:TE}(S:dZ X scope N' d4 cl)(hc:X.calm=true)(hi:PI X tg iter wi)(hg:∀pins C s H fp,PG (d8 X pins scope N' cl C s H fp) tg g)(ht:∀pins C s H fp,lS (d8 X pins scope N' cl C s H fp) ifs tc)(he:∀pins C s H fp,PE (d8 X pins scope N' cl C s H fp) elt te)(hs:∀x,foldedSetIterable iter X.env x=pure x):PE X (.ListComp elt [⟨tg,iter,ifs,0⟩] scope pos) (wR wi d4 N'.length g tc te):=by
 intro pins s σ H Q I h;rw[eval_ListComp];refine Lm (use:=none) rfl hs S.rE S.kind S.names (cw (hi pins s σ H _ I h) λxv bW fE=>cw fE λuW iu kq=>?_);obtain⟨it,fp,tn,J,H2,e,I2,T,nW,f2,W,⟨m0,w0⟩,turn⟩:=kq;subst e;refine Il (Dh (xx:=λ_ _ _ _ _=>False) (RR:=λacc C=>compPost (model X.prog X.w) X.A X.xe none (EP X pins σ Q) acc C) S hc (λC s H=>hg pins C s H fp) (λC s H=>ht pins C s H fp) (λC s H=>he pins C s H fp) I2 T nW f2 w0 turn ?_ λ_ _ _ _ _ z=>z.elim);intro D C s' H' m I' q hn hC hsz;exact⟨m,hn,λh' sb=>⟨.ref D,H',I'.wM hsz I2 hC sb,rfl,q⟩⟩
theorem aH0{elt tg iter:Expr}{ifs:List Expr}{scope:Scope}{N':List Str}{d4:List Nat}{cl:List (Str×Addr)}{pos uz px:Pos}{wi:TI}{g:TG}{tc:TT}{te:TE}{i:Nat}{x:Str}(S:dZ X scope N' d4 cl)(hc:X.calm=true)(hi:PI X tg iter wi)(hg:∀pins C s H fp,PG (d8 X pins scope N' cl C s H fp) tg g)(ht:∀pins C s H fp,lS (d8 X pins scope N' cl C s H fp) ifs tc)(he:∀pins C s H fp,PE (d8 X pins scope N' cl C s H fp) elt te)(hs:∀x,foldedSetIterable iter X.env x=pure x)(hN:X.N.Nodup)(vz:X.N[i]?=some x)(hx:Loc X.env.scope x)(hf:X.fn x=true\/X.env.scope.names.lookup x=some .local) :
  PS X (.Assign [.Name x px] (.ListComp elt [⟨tg,iter,ifs,0⟩] scope pos) uz) (xh (wR wi d4 N'.length g tc te) (tQ i)):=by
 intro pins s σ H D I h;have xM:∃b,swapsWith (.ListComp elt [⟨tg,iter,ifs,0⟩] scope pos) (some (.Name x px)) uz.line X.env=pure b:=⟨_,rfl⟩
 obtain⟨b,xM⟩:=xM;cases b with
 |false=>exact Ji hN vz hx (JS S hc hi hg ht he hs) xM hf pins s σ H D I h
 |true =>
  rw[exec_Assign_Name_used _ _ _ _ xM];refine aa (iE (aa ?_));show wpAny _ X.A (do let _ <- comprehension (.ListComp elt [⟨tg,iter,ifs,0⟩] scope pos) scope X.env _ (newList []) false (eval iter X.env) (some (assign (.Name x px) X.env))) _ _ s;refine aa (bQ (Lm (use:=some (assign (.Name x px) X.env)) (Q:=λ_ s'=>SP X pins D .next s') rfl hs S.rE S.kind S.names
   (cw (hi pins s σ H _ I h) λxv bW fE=>cw fE λuW iu kq=>?_)) (λ_ s' hq=>ah (ah hq)) λ_ _ e=>e)
  obtain⟨it,fp,tn,J,H2,e,I2,T,nW,f2,W,⟨m0,w0⟩,turn⟩:=kq;subst e;refine Il (Dh (xx:=λ_ _ _ _ _=>False) (Q:=λv H1=>tQ i v σ H1 D.nx) (RR:=λacc C=>compPost (model X.prog X.w) X.A X.xe (some (assign (.Name x px) X.env)) (λ_ s'=>SP X pins D .next s') acc C) S hc (λC s H=>hg pins C s H fp) (λC s H=>ht pins C s H fp) (λC s H=>he pins C s H fp) I2 T nW f2 w0 turn ?_ λ_ _ _ _ _ z=>z.elim);intro Dl C s' H' m I' q hn hC hsz;show wpAny _ X.A (assign (.Name x px) X.env (.ref Dl)) _ _ _;refine wpAny_assign_Name (Ig I' hN vz hx (v:=.ref Dl) rfl (λs3 I3 ⟨a,sb,ha⟩=>?_) hf);have NC:C≠a:=by
   obtain⟨f0,f1,f2,f3,f4,f5⟩:=I2.tG (b:=C) (H':=H') hsz hC;rcases ha with z|z
   ·rw[z];exact f1
   ·exact λz'=>f4 _ _ z z'.symm
  obtain⟨f0,f1,f2,f3,f4,f5⟩:=I2.tG (b:=C) (H':=H') hsz hC;refine⟨m,hn.sameBut sb NC,λh3 LU=>⟨_,H',I3.turned (t':=s3.toks) (λb o hb e=>LU.extBut b o hb e) f0 f1 f3 f4 f5,q⟩⟩
end
end L2

namespace HT
open PySem PyProof.Rows
section
variable{prog:Program}{w:World}{A:Around}{E:Value->Shared->Prop}{s:Shared}
theorem SE{t b:Addr}{ws:List Value}{Q:Value->Shared->Prop}(ht:IsTup s.heap t #[])(hb:IsTup s.heap b ws.toArray)(h1:Q (.ref b) s):wpAny (model prog w) A (binaryOp .Add (.ref t) (.ref b)) Q E s:=by
 obtain⟨⟨cls,dd,data,sl⟩,ho,hc,n,hd⟩:=id ht;obtain⟨⟨wA,pS,data2,kD⟩,ku,nu,n2,hd2⟩:=id hb;simp only at hc hd nu hd2;subst hc hd nu hd2;exact concat_meets ⟨_,ho,rfl⟩ ⟨_,ku,rfl⟩ iU lH ig gT (gH _ _)
   (tuple_addW0 t b #[] ws.toArray n n2 dd pS sl kD rfl) ⟨ho,ku,h1⟩
theorem Yi{t sl:Addr}{items:Array Value}{vl vu:Value}{lo hi:Option Int}{Q:Value->Shared->Prop}(ht:IsTup s.heap t items)(hs:s.heap.IsSliceOf sl vl vu .none)(pl:IsPart vl lo)(pu:IsPart vu hi)(hw:dE items.size 0 lo=0/\dE items.size items.size hi=items.size)(h:Q (.ref t) s):wpAny (model prog w) A (getItem (.ref t) (.ref sl)) Q E s:=by
 obtain⟨os,ll,mI,nt⟩:=id hs;have vK:s.TypeIs (.ref sl) "slice":=⟨os,ll,mI⟩
 unfold getItem
 try with_reducible refine bq ?_
 first|refine aa (ah ?_)|skip
 refine aa (nG ht.typeIs (by decide) ?_);refine aa (dH (name:=Str.ofString "__getitem__") ht.typeIs aZ
  (bY aZ ht.typeIs sh ?_ (xq _ _)))
 show wpAny _ _ (Builtin.Tuple.tupleItemsOf (.ref t) >>= _) _ _ s;refine aa (tZ ht ?_);refine aa (dP vK ?_);rw[au (by decide)];refine aa (S6 hs pl pu ?_);have Ai:((((dE items.size 0 lo:Nat):Int)==0&&(1:Int)==1&&(dE items.size items.size hi-dE items.size 0 lo)==items.size)=true):=by
  rw[hw.1,hw.2];simp
 show wpAny _ _ (if(((dE items.size 0 lo:Nat):Int)==0&&(1:Int)==1&&(dE items.size items.size hi-dE items.size 0 lo)==items.size)=true then _ else _) _ _ s;rw[au Ai];obtain⟨o,ho,hc,_⟩:=id ht;unfold Builtin.Tuple.tupleIsExact;refine aa (aa (dP ht.typeIs (ah ?_)));rw[au (by decide)]
 first
  |exact wpAny_bind (wpAny_rule (wpAny_bind (wpAny_pure ⟨_,rfl,wpAny_pure h⟩)))
  |exact wpAny_bind (wpAny_rule (wpAny_pure ⟨_,rfl,wpAny_pure h⟩))
  |exact wpAny_bind (wpAny_rule (wpAny_bind (wpAny_pure (wpAny_pure ⟨_,rfl,wpAny_pure h⟩))))
end
end HT
namespace L2
open PySem PySem.Spec PyProof.Rows
section
variable{X:Cx}
def Pc(K:PySem.W.Frag):R2:=λx y H Q=>∃a b xs ys,x=.ref a/\y=.ref b/\gQ K H a xs/\gQ K H b ys/\xs.length+ys.length<=sizeLine /\
 (xs=[]->Q (.ref b) H)/\(ys=[]->Q (.ref a) H)/\(∀p,H p=none->Q (.ref p) (upd H p (.tup (xs++ys))))
theorem a76:ft X (binaryOp .Add) (Pc X.K):=by
 intro pins s σ H x y v u Q I rx ry h;obtain⟨a,b,xs,ys,rfl,rfl,ha,hb,hz,q0,q1,q2⟩:=h;by_cases hx:xs=[]
 ·subst hx;cases rx;cases ry;obtain⟨aT,r1,p1,_⟩:=I.tuple ha;obtain⟨my,r2,p2,_⟩:=I.tuple hb;cases r1;exact HT.SE p1 p2 ⟨.ref b,H,I,rfl,q0 rfl⟩
 ·exact Rk pins s σ H _ _ v u Q I rx ry ⟨a,b,xs,ys,rfl,rfl,ha,hb,hx,hz,q1,λ_=>q2⟩
def Wn(K:PySem.W.Frag):V->Option Int->Option Int->Hp->VK->Prop:=λx lo hi H Q=>∃a xs,x=.ref a/\gQ K H a xs /\
 (U0 xs lo hi=xs->Q (.ref a) H)/\∀p,H p=none->Q (.ref p) (upd H p (.tup (U0 xs lo hi)))
theorem Sh:xi X (Wn X.K):=by
 intro pins s σ H x v vl vu lo hi sl Q I rx hs pl pu h;obtain⟨a,xs,rfl,hx,q0,q⟩:=h;by_cases hw:HT.dE xs.length 0 lo=0/\HT.dE xs.length xs.length hi=xs.length
 ·cases rx;obtain⟨aT,r,ht,hz⟩:=I.tuple hx;have hlen:aT.toArray.size=xs.length:=by rw[ay];exact r.length.symm
  refine⟨"tuple",_,aZ.lookup,ht.typeIs,?_⟩;exact HT.Yi ht hs pl pu (by rw[hlen];exact hw) ⟨.ref a,H,I,rfl,q0 (by unfold U0;rw[hw.1,hw.2];simp)⟩
 ·exact PL pins s σ H _ v vl vu lo hi sl Q I rx hs pl pu ⟨a,xs,rfl,hx,hw,q⟩
theorem ZT:l9 X (.builtin "isinstance") (λxs H Q=>∃x t c b,xs=[x,.ty c]/\gM X.K H x t/\PySem.W.kitOne X.K t (.type c)=some b/\Q (.bl b) H):=by
 intro pins s σ H xs us Q I r h;obtain⟨x,t,c,b,rfl,hT,hk,q⟩:=h;obtain⟨u,w',rfl,ru,fT⟩:=vals2 r;cases (show w'=Value.type c from fT);exact a02 I ru hT hk λtk=>⟨.bl b,H,I.tok tk,rfl,q⟩
theorem a23(hc:X.calm=true):l9 X (.builtin "all") (λxs H Q=>∃(a:Addr) (bs:List Bool),xs=[.ref a]/\gx X.K H a (bs.map V.bl)/\Q (.bl (bs.all id)) H):=by
 intro pins s σ H xs us Q I r h;obtain⟨a,bs,rfl,ha,q⟩:=h;obtain⟨u,rfl,ru⟩:=vals1 r;cases ru;obtain⟨aT,rv,p,hz⟩:=I.list ha;refine call_all_walk ?_;refine iy p.isList ?_;have dW:a≠s.heap.objs.size:=by
  obtain⟨o,e,_⟩:=id p.isList;exact aR (aB e)
 have hl:=rv.length;rw[ak] at hl;refine⟨s.heap.objs.size,_,_,_,_,_,λi=>bs.getD i true,rfl,Walks.list (A:=X.A.in1) (I.ok.hd hc) _ a dW aT.toArray,⟨⟨_,aF _ rfl,rfl,rfl⟩,?_⟩,?_,λh' tk k=>?_⟩
 ·obtain⟨o,e,q1⟩:=id p.isList;exact⟨o,ai _ e,q1⟩
 ·intro i v s' Q' E' hP hQ;have hv:aT[i]?=some v:=by simpa using hP
  have hi:i<bs.length:=by rw[hl];exact(aq.mp hv).1
  obtain⟨u',vb,zR⟩:=rv.get (i:=i) (x:=V.bl bs[i]) (by rw[aE,ao hi];rfl);rw[hv] at vb;cases vb;cases (show v=Value.bool bs[i] from zR);refine cv ?_;have:bs.getD i true=bs[i]:=by simp[List.getD,hi]
  dsimp only at hQ;rw[this] at hQ;exact hQ
 ·have e1:(List.range aT.toArray.size).all (λi=>bs.getD i true)=bs.all id:=by
   rw[ay,<- hl];rw[cq];simp only[List.all_eq_true,List.mem_range,id];constructor
   ·intro hh x hx;obtain⟨i,hi,rfl⟩:=dS.mp hx;have:=hh i hi;simpa[List.getD,hi] using this
   ·intro hh i hi;have:=hh bs[i] (dY hi);simpa[List.getD,hi] using this
  rw[e1];exact ⟨.bl (bs.all id),H,I.kept (t':=tk) λb o e=>k b o (by
   intro hb;have:b=s.heap.objs.size:=by simpa using hb
   exact absurd (aB e) (by rw [this];exact bL _)) (ai _ e),rfl,q⟩
end
end L2

namespace HT
open PySem PyProof.Rows
section
variable{prog:Program}{w:World}{A:Around}{E:Value->Shared->Prop}{s:Shared}
theorem Yf{sl:Addr}{n:Nat}{t:Tok}{Q:Int×Int×Nat->Shared->Prop}(hs:s.heap.IsSliceOf sl .none .none (.int (-1) t))(h:Q ((n:Int)-1,-1,n) s) :
  wpAny (model prog w) A (Builtin.Slice.sliceApplied (.ref sl) (pure (n:Int))) Q E s:=by
 obtain⟨os,ll,mI,nt⟩:=id hs;unfold Builtin.Slice.sliceApplied Builtin.Slice.sliceFields;refine aa (aa (dO ll nt (x:=.none) rfl (aa (dO ll nt (x:=.none) rfl (aa (dO ll nt (x:=.int (-1) t) rfl (ah ?_)))))));refine aa (slicePart_int ?_);show wpAny _ _ (if((-1:Int)==0)=true then _ else _) _ _ s;rw[ax (by decide)];refine aa (pk (aa (pk (aa (ah ?_)))));show wpAny _ _ (match Builtin.Slice.sliceAdjust none none (-1) (n:Int) with|(lo,hi)=>pure (lo,(-1:Int),Builtin.Slice.slicePlaces lo hi (-1))) _ _ s;have e1:Builtin.Slice.sliceAdjust none none (-1) (n:Int)=((n:Int)-1,-1):=rfl;rw[e1];show wpAny _ _ (pure ((n:Int)-1,(-1:Int),Builtin.Slice.slicePlaces ((n:Int)-1) (-1) (-1))) _ _ s;have e2:Builtin.Slice.slicePlaces ((n:Int)-1) (-1) (-1)=n:=by
  unfold Builtin.Slice.slicePlaces;have h1:¬((-1:Int)>0):=by omega
  simp only[h1,if_false];have h2:(-(-1:Int))=1:=by omega
  rw[h2];simp only[Int.ediv_one];split<;>omega
 rw[e2];exact ah h
theorem KH(xs:Array Value):((List.range xs.size).filterMap λ(m:Nat)=>xs[(((xs.size:Nat):Int)-1+(m:Int)*(-1)).toNat]?).toArray=xs.toList.reverse.toArray:=by
 congr 1
 apply List.ext_getElem?;intro i;have e:(List.range xs.size).filterMap (λ(m:Nat)=>xs[(((xs.size:Nat):Int)-1+(m:Int)*(-1)).toNat]?)=(List.range xs.size).map λm=>xs.toList.reverse.getD m .none:=by
  have:∀(l:List Nat),(∀m∈l,m<xs.size)->l.filterMap (λ(m:Nat)=>xs[(((xs.size:Nat):Int)-1+(m:Int)*(-1)).toNat]?)=l.map λm=>xs.toList.reverse.getD m .none:=by
   intro l hl
   induction l with
   |nil=>rfl
   |cons a r ih =>
    have ha:=hl a (by simp);have e1:(((xs.size:Nat):Int)-1+(a:Int)*(-1)).toNat=xs.size-1-a:=by omega
    have e2:xs[xs.size-1-a]?=some xs[xs.size-1-a]:=by simp
    have e3:xs.toList.reverse.getD a .none=xs[xs.size-1-a]:=by
     have hl:a<xs.toList.reverse.length:=by simpa using ha
     rw[nN,ao hl];simp[List.getElem_reverse]
    rw[cF,e1,e2,ba,e3,ih λm hm=>hl m (by simp[hm])]
  exact this _ λm hm=>by simpa using hm
 rw[e];by_cases hi:i<xs.size
 ·rw[aE,jg hi];simp only[Option.map_some,List.getD_eq_getElem?_getD];rw[ao (by simpa using hi)]
  rfl
 ·rw[cM (by simpa using hi),cM (by simpa using hi)]
theorem Yh{t sl:Addr}{items:Array Value}{tk:Tok}{Q:Value->Shared->Prop}(ht:IsTup s.heap t items)(hs:s.heap.IsSliceOf sl .none .none (.int (-1) tk))(h:Q (.ref s.heap.objs.size) { s with heap:=s.heap.push { cls:=.type "tuple",data:=.seq items.toList.reverse.toArray } })(hsz:items.size<=sizeLine):wpAny (model prog w) A (getItem (.ref t) (.ref sl)) Q E s:=by
 have gJ:sizeOk (.seq items.toList.reverse.toArray):=by
  show items.toList.reverse.toArray.size<=sizeLine;rw[ay,eG,bA];exact hsz
 obtain⟨os,ll,mI,nt⟩:=id hs;have vK:s.TypeIs (.ref sl) "slice":=⟨os,ll,mI⟩
 unfold getItem
 try with_reducible refine bq ?_
 first|refine aa (ah ?_)|skip
 refine aa (nG ht.typeIs (by decide) ?_);refine aa (dH (name:=Str.ofString "__getitem__") ht.typeIs aZ
  (bY aZ ht.typeIs sh ?_ (xq _ _)))
 show wpAny _ _ (Builtin.Tuple.tupleItemsOf (.ref t) >>= _) _ _ s;refine aa (tZ ht ?_);refine aa (dP vK ?_);rw[au (by decide)];refine aa (Yf hs ?_);have lq:¬((((items.size:Nat):Int)-1==0&&(-1:Int)==1&&items.size==items.size)=true):=by
  intro q;rw[bg,bg] at q;exact absurd q.1.2 (by decide)
 show wpAny _ _ (if(((items.size:Nat):Int)-1==0&&(-1:Int)==1&&items.size==items.size)=true then _ else _) _ _ s;rw[ax lq,KH]
 first
  |exact wpAny_bind (m:=Builtin.Tuple.tupleExact _) (wpAny_newObj_type (wpAny_pure ⟨_,rfl,wpAny_pure h⟩) gJ)
  |exact wpAny_bind (m:=Builtin.Tuple.tupleExact _) (wpAny_newObj_type (wpAny_bind (wpAny_pure (wpAny_pure ⟨_,rfl,wpAny_pure h⟩))) gJ)
  |exact wpAny_bind (wpAny_bind (m:=Builtin.Tuple.tupleExact _) (wpAny_newObj_type (wpAny_pure (wpAny_pure ⟨_,rfl,wpAny_pure h⟩)) gJ))
  |exact wpAny_bind (wpAny_bind (m:=Builtin.Tuple.tupleExact _) (wpAny_newObj_type (wpAny_pure ⟨_,rfl,wpAny_pure h⟩) gJ))
end
end HT
namespace L2
open PySem PySem.Spec PyProof.Rows
section
variable{X:Cx}{e st:Expr}{te ts:TE}{pos p2:Pos}
theorem XW(aT:List Value):slicePick aT.toArray none none (some (-1))=aT.reverse.toArray:=by
 have h:=HT.KH aT.toArray;unfold slicePick;have e1:(sliceBounds none none (some (-1)) aT.toArray.size).1=((aT.toArray.size:Nat):Int)-1:=rfl;have e2:(sliceBounds none none (some (-1)) aT.toArray.size).2.1=-1:=rfl;have e3:(sliceBounds none none (some (-1)) aT.toArray.size).2.2=-1:=rfl;rw[e1,e2,e3];have e4:sliceRange (((aT.toArray.size:Nat):Int)-1) (-1) (-1)=(List.range aT.toArray.size).map λ(m:Nat)=>(((aT.toArray.size:Nat):Int)-1+(m:Int)*(-1)).toNat:=by
  unfold sliceRange;have h1:¬((-1:Int)>0):=by omega
  simp only[h1,if_false];have h2:(if((aT.toArray.size:Nat):Int)-1 > -1 then(((aT.toArray.size:Nat):Int)-1-(-1)-(-1)-1) / (-(-1)) else 0).toNat=aT.toArray.size:=by
   rw[show(-(-1):Int)=1 from rfl,Int.ediv_one];split<;>omega
  rw[h2]
  congr 1
  funext m
  congr 1
  omega
 rw[e4,Lv];rw[show aT.reverse=aT.toArray.toList.reverse from rfl,<- h]
 rfl
theorem OO(he:PE X e te)(hs:PE X st ts):PE X (.Subscript e (.Slice none none (some st) p2) pos) (λσ H Q=>te σ H λx H1=>ts σ H1 λy H2=>y=.int (-1)/\∃a xs,x=.ref a/\((gQ X.K H2 a xs/\∀p,H2 p=none->Q (.ref p) (upd H2 p (.tup xs.reverse)))\/(gx X.K H2 a xs/\∀p,H2 p=none->Q (.ref p) (upd H2 p (.lst xs.reverse))))):=by
 intro pins s σ H Q I h;refine Subscript_ (cw (he pins s σ H _ I h) λv s1 bh=>?_);obtain⟨x,H1,I1,r1,q1⟩:=bh;refine wpAny_Slice ?_;rw[Lp];refine ah ?_;refine ah ?_;rw[evalPart_some];refine cw (hs pins s1 σ H1 _ I1 q1) λu s2 bh=>?_;obtain⟨y,H2,I2,r2,q2⟩:=bh;obtain⟨rfl,a,xs,rfl,q⟩:=q2;obtain⟨t,rfl⟩:=r2;cases r1;have I4:Inv X pins σ H2 { s2 with heap:=s2.heap.push { cls:=.type "slice",data:=.fields #[.none,.none,.int (-1) t] } }:=I2.kept (t':=s2.toks) λb ob q=>ai _ q;show wpAny (model X.prog X.w) X.A (subscriptTail e (.Slice none none (some st) p2) (.ref a) (.ref s2.heap.objs.size)) (EP X pins σ Q) X.xe { s2 with heap:=s2.heap.push { cls:=.type "slice",data:=.fields #[.none,.none,.int (-1) t] } };rcases q with⟨hx,q⟩|⟨hx,q⟩
 ·obtain⟨aT,r,ht,hz⟩:=I4.tuple hx;have hlen:aT.toArray.size=xs.length:=by rw[ay];exact r.length.symm
  refine Ew (ops:=[.ref a,.ref s2.heap.objs.size]) ht.typeIs aZ.lookup (HT.Yh ht (lX ..) ?_ (by rw[hlen];exact hz)) (by with_unfolding_all rfl);have ee:aT.toArray.toList.reverse.toArray=aT.reverse.toArray:=by simp
  rw[ee];refine⟨.ref _,_,I4.laid (t':=s2.toks) (o:=.tup xs.reverse) (λb ob q=>ai _ q) (aj _) ?_,rfl,q _ (I4.bG.fresh (aj _))⟩;exact⟨by rw[eG];exact hz,aT.reverse,r.reverse,E2.new _ _⟩
 ·obtain⟨aT,r,ht,hz⟩:=I4.list hx;have hlen:aT.toArray.size=xs.length:=by rw[ay];exact r.length.symm
  refine Ew (ops:=[.ref a,.ref s2.heap.objs.size]) ht.isList.typeIs nH.lookup (Ll ht.isList (lX ..) .none .none (.int (-1) t) (by simp) ?_ (by rw[hlen];exact hz)) (by with_unfolding_all rfl);rw[XW];refine⟨.ref _,_,I4.laid (t':=s2.toks) (o:=.lst xs.reverse) (λb ob q=>ai _ q) (aj _) ?_,rfl,q _ (I4.bG.fresh (aj _))⟩;exact⟨by rw[eG];exact hz,_,0,r.reverse,aF _ rfl⟩
end
end L2

namespace L2
open PySem PySem.Spec PyProof.Rows
theorem j4.get{P:Program}{w:World}{H:Hp}{h:Heap}{a:Addr}:∀{o:HO},j4 P w H h a o->∃ob,h.get? a=some ob
 |.lst _,x=>by obtain⟨_,_,_,_,e⟩:=x;exact⟨_,e⟩
 |.tup _,x=>by obtain⟨_,_,_,o,e,_⟩:=x;exact⟨o,e⟩
 |.dK _,x=>by obtain⟨_,_,_,_,o,es,ep,e,_⟩:=x;exact⟨o,e⟩
 |.dT _,x=>by obtain⟨_,_,_,_,o,es,ep,e,_⟩:=x;exact⟨o,e⟩
 |.set _ _,x=>by obtain⟨o,es,ep,t,e,_⟩:=x;exact⟨o,e⟩
 |.ins _ _ _,x=>by obtain⟨_,_,_,e,_⟩:=x;exact⟨_,e⟩
 |.own _,x=>x
 |.xd _,x=>by obtain⟨mA,n,_⟩:=x;obtain⟨od,e,_⟩:=Ia n;exact⟨od,e⟩
 |.lN _ _,x=>by obtain⟨_,_,_,e⟩:=x;exact⟨_,e⟩
 |.jq _ _,x=>⟨_,x.1⟩
 |.pw _,x=>⟨_,x⟩
 |.met _ _,x=>⟨_,x⟩
 |.ext _,x=>x.2.1
def Du(H':Hp)(h0:Heap)(l:List Env)(e:Value)(C:Addr)(h:Heap):Prop :=
 ∃(ea:Addr) (a0:Value) (B:Heap),e=.ref ea/\Heap.FlyingW B l ea (.ref C) a0 h/\∀b o,h.get? b=some o->b∉fF l->(H' b≠none\/∃o0,h0.get? b=some o0)->B.get? b=some o
def gO(P:Program)(w:World):mZ:=λouter H s E e s'=>∃(C:Addr) (H':Hp),s'.os=s.os/\AllBare s'.gens/\Un (fF outer) [] H H' s.heap s'.heap/\fX P w H' s'.heap/\Du H' s.heap outer e C s'.heap/\E (.ref C) none H'
section
variable{X:Cx}{pins:List (Addr×Obj)}{σ:St}{H:Hp}{s s':Shared}{E:XK}{e:Value}
theorem Inv.flew(I:Inv X pins σ H s)(h:gO X.prog X.w X.stack H s E e s'):∃C H',Inv X pins σ H' s'/\Du H' s.heap X.stack e C s'.heap/\E (.ref C) none H':=by
 obtain⟨C,H',ho,hb,hu,bG,fl,hE⟩:=h;exact⟨C,H',I.Dx (ch:=[]) ho hu bG hb (by simp),fl,hE⟩
theorem zh(I:Inv X pins σ H s){b:Addr}(hb:b∈fF X.stack):∃o,s.heap.get? b=some o/\∀vs,o.data≠.fields vs:=(I.stack.mem hb).2
theorem Dz{nA:Heap}{B:Heap}{ea C:Addr}{a0:Value}(I:Inv X pins σ H s)(eJ:X.stack=X.env::X.outer)(hex:X.ex=[])(hf:X.env.frame=some X.env.locals)(nZ:∀b o,s.heap.get? b=some o->b∉fF X.stack->(H b≠none\/∃o0,X.dz.heap.get? b=some o0)->B.get? b=some o)(sl:∀b∈fF X.stack,∀o,s.heap.get? b=some o->∃sl,nA.get? b=some { o with slots:=sl })(fw:Heap.FlyingW B X.outer ea (.ref C) a0 nA)(hE:E (.ref C) none H):gO X.prog X.w X.outer X.iY X.dz E (.ref ea) { s with heap:=nA }:=by
 have mB:∀b,b∈fF X.outer->b∈fF X.stack:=λb hb=>by rw[eJ];unfold fF at hb ⊢;rw[cF,hf];exact br _ hb
 have uK:∀b o,X.dz.heap.get? b=some o->b∉fF X.outer->b∉fF X.stack:=λb o e hb z=>by
  rcases aI.mp (I.O9 b z) with z|z
  ·exact absurd (aB e) (by rw[z];exact ij.mpr I.ok.above)
  ·exact hb z
 have nU:∀b u,H b=some u->b∉fF X.stack:=λb u e z=>by rw[I.zd b z] at e;cases e
 have kept:∀b o,s.heap.get? b=some o->b∉fF X.stack->(H b≠none\/∃o0,X.dz.heap.get? b=some o0)->nA.get? b=some o:=λb o e n q=>fw.1 b o (nZ b o e n q);have uM:∀b,b∉X.ex:=λb=>by rw[hex];simp
 refine⟨C,H,I.os,I.bare,⟨?_,?_,?_,?_,I.base.ip,I.base.gY,I.base.ir⟩,?_,⟨ea,a0,B,rfl,fw,?_⟩,hE⟩
 ·exact λb o e n1 n2 _=>kept b o (I.base.keep b o e n1 n2 (uM b)) (uK b o e n2) (.inr ⟨o,e⟩)
 ·intro b o e n1 n2 _;obtain⟨LP,e1⟩:=I.base.slot b o e n1 n2 (uM b);obtain⟨kD,e2⟩:=sl b (mB b n2) _ e1;exact⟨kD,e2⟩
 ·exact λb o e n1 _=>I.base.free b o e n1 (uM b)
 ·intro b o e _;obtain⟨o1,e1⟩:=I.base.there b o e (uM b);by_cases hb:b∈fF X.stack
  ·obtain⟨kD,e2⟩:=sl b hb _ e1;exact⟨_,e2⟩
  ·exact⟨o1,kept b o1 e1 hb (.inr ⟨o,e⟩)⟩
 ·intro a o e;exact (I.bG a o e).Q2 (λb u hb q=>by
   have kK:∃v,H b=some v:=by
    rcases hb with rfl|hb
    ·exact⟨o,e⟩
    ·exact⟨_,hb⟩
   obtain⟨v,hv⟩:=kK;exact kept b u q (nU b v hv) (.inl (by rw [hv];simp))) (λb hb=>hb) (λb xs hb=>hb)
 ·intro b o e n q;rcases q with q|⟨o0,q⟩
  ·obtain⟨v,hv⟩:=nK.mp q;obtain⟨o1,e1⟩:=(I.bG b v hv).get;have z:=nZ b o1 e1 (nU b v hv) (.inl (by rw[hv];simp));have z':=fw.1 b o1 z;have:o=o1:=by
    have e':nA.get? b=some o:=e;rw[z'] at e';exact(aO e').symm
   subst this;exact z
  ·obtain⟨o1,e1⟩:=I.base.there b o0 q (uM b);have z:=nZ b o1 e1 (uK b o0 q n) (.inr ⟨o0,q⟩);have z':=fw.1 b o1 z;have:o=o1:=by
    have e':nA.get? b=some o:=e;rw[z'] at e';exact(aO e').symm
   subst this;exact z
theorem aD5{h0:Heap}{C:Addr}{Ex:Value->Shared->Prop}(I:Inv X pins σ H s)(fl:Du H h0 X.stack e C s.heap)(Ob:∀b o,X.dz.heap.get? b=some o->∃o',h0.get? b=some o')(eJ:X.stack=X.env::X.outer)(hex:X.ex=[])(hf:X.env.frame=some X.env.locals)(hE:E (.ref C) none H):wpAny (model X.prog X.w) X.A (leaving X.env e) (λ_ nX=>gO X.prog X.w X.outer X.iY X.dz E e nX) Ex s:=by
 obtain⟨ea,a0,B,rfl,fw,hB⟩:=fl;have fw0:=fw;rw[eJ] at fw;refine wpAny_leaves_onW (by rw[I.ok.frames,eJ]) hf fw λnA rn us=>?_;refine Dz I eJ hex hf (λb o e n q=>hB b o e n (q.imp id λ⟨o0,q⟩=>Ob b o0 q)) (λb hb o e=>?_) rn hE;obtain⟨o1,e1,nf⟩:=zh I hb;rw[e] at e1;cases e1;exact us b o e nf
theorem Zt{h':Heap}{ea C:Addr}{vs:List Value}{Ex:Value->Shared->Prop}(I:Inv X pins σ H s)(hx:Heap.MadeExcOf s.heap h' ea (.ref C) vs)(eJ:X.stack=X.env::X.outer)(hex:X.ex=[])(hf:X.env.frame=some X.env.locals)(hE:E (.ref C) none H):wpAny (model X.prog X.w) X.A (leaving X.env (.ref ea)) (λ_ nX=>gO X.prog X.w X.outer X.iY X.dz E (.ref ea) nX) Ex { s with heap:=h' }:=by
 have sR:=I.stack;rw[eJ] at sR;have MY:∀env∈(X.env::X.outer),∀b,env.frame=some b->b∈fF X.stack:=λenv he b hb=>by rw[eJ];exact gg.mpr ⟨env,he,hb⟩
 refine wpAny_leaves_madeW (s:={ s with heap:=h' }) (base:=PySem.W.hideAll s.heap (fF X.stack)) (h:=s.heap) (by rw[I.ok.frames,eJ]) hf (λb o q=>Lq _ q) (PySem.W.funFrames_hide sR MY) hx λnA t fw _ _ us=>?_;refine(show gO X.prog X.w X.outer X.iY X.dz E (.ref ea) { s with heap:=nA } from Dz I eJ hex hf (λb o e n _=>Ey _ e n) (λb hb o e=>?_) fw hE);obtain⟨o1,e1,nf⟩:=zh I hb;rw[e] at e1;cases e1;exact us b o (hx.keeps b o e) nf
theorem a34{l:List Env}{H H':Hp}{h0 h h1 B:Heap}{Pg:Program}{w:World}(u:Un (fF l) [] H H' h0 h)(ok:fX Pg w H' h)(hB:∀b o,h.get? b=some o->b∉fF l->(H' b≠none\/∃o0,h0.get? b=some o0)->B.get? b=some o)(st:B.StaysIn h1)(us:h.UpToSlots h1)(sQ:∀b∈fF l,H' b=none/\∃o,h.get? b=some o/\∀vs,o.data≠.fields vs):Un (fF l) [] H H' h0 h1/\fX Pg w H' h1/\∀b o,h1.get? b=some o->b∉fF l->(H' b≠none\/∃o0,h0.get? b=some o0)->B.get? b=some o:=by
 have nU:∀b u,H' b=some u->b∉fF l:=λb u e z=>by rw[(sQ b z).1] at e;cases e
 have kept:∀b o,h.get? b=some o->b∉fF l->(H' b≠none\/∃o0,h0.get? b=some o0)->h1.get? b=some o:=λb o e n q=>st b o (hB b o e n q);have FW:∀b∈fF l,∀o,h.get? b=some o->∃sl,h1.get? b=some { o with slots:=sl }:=λb hb o e=>by
  obtain⟨_,o1,e1,nf⟩:=sQ b hb;rw[e] at e1;cases e1;exact us b o e nf
 refine⟨⟨?_,?_,u.free,?_,u.ip,u.gY,u.ir⟩,?_,?_⟩
 ·exact λb o e n1 n2 n3=>kept b o (u.keep b o e n1 n2 n3) n2 (.inr ⟨o,e⟩)
 ·intro b o e n1 n2 n3;obtain⟨LP,e1⟩:=u.slot b o e n1 n2 n3;obtain⟨kD,e2⟩:=FW b n2 _ e1;exact⟨kD,e2⟩
 ·intro b o e n;obtain⟨o1,e1⟩:=u.there b o e n;by_cases hb:b∈fF l
  ·obtain⟨kD,e2⟩:=FW b hb _ e1;exact⟨_,e2⟩
  ·exact⟨o1,kept b o1 e1 hb (.inr ⟨o,e⟩)⟩
 ·intro a o e;exact (ok a o e).Q2 (λb u hb q=>by
   have kK:∃v,H' b=some v:=by
    rcases hb with rfl|hb
    ·exact⟨o,e⟩
    ·exact⟨_,hb⟩
   obtain⟨v,hv⟩:=kK;exact kept b u q (nU b v hv) (.inl (by rw [hv];simp))) (λb hb=>hb) (λb xs hb=>hb)
 ·intro b o e n q;have:∃o1,h.get? b=some o1:=by
   rcases q with q|⟨o0,q⟩
   ·obtain⟨v,hv⟩:=nK.mp q;exact(ok b v hv).get
   ·exact u.there b o0 q (by simp)
  obtain⟨o1,e1⟩:=this;have z:=hB b o1 e1 n q;rw[st b o1 z] at e;cases e;exact z
section
variable{s':Shared}
structure Lies(X:Cx)(H H':Hp)(s:Shared)(B:Heap)(ea C:Addr)(a0:Value)(s':Shared):Prop where
 os:s'.os=s.os
 bare:AllBare s'.gens
 un:Un (fF X.stack) [] H H' s.heap s'.heap
 bG:fX X.prog X.w H' s'.heap
 nZ:∀b o,s'.heap.get? b=some o->b∉fF X.stack->(H' b≠none\/∃o0,s.heap.get? b=some o0)->B.get? b=some o
theorem Lies.inv{H':Hp}{B:Heap}{ea C:Addr}{a0:Value}(I:Inv X pins σ H s)(l:Lies X H H' s B ea C a0 s'):Inv X pins σ H' s':=I.Dx (ch:=[]) l.os l.un l.bG l.bare (by simp)
theorem leave_held{H':Hp}{B:Heap}{ea C:Addr}{a0:Value}{Ex:Value->Shared->Prop}(I:Inv X pins σ H s)(l:Lies X H H' s B ea C a0 s')(hh:Heap.HeldW B X.stack ea (.ref C) a0 X.env.locals s'.heap)(eJ:X.stack=X.env::X.outer)(hex:X.ex=[])(hf:X.env.frame=some X.env.locals)(hE:E (.ref C) none H'):wpAny (model X.prog X.w) X.A (leaving X.env (.ref ea)) (λ_ nX=>gO X.prog X.w X.outer X.iY X.dz E (.ref ea) nX) Ex s':=by
 have J:=l.inv I;have AN:=hh;rw[eJ] at AN;unfold leaving;refine aa (wpAny_noteFrame_againW hf AN.2.2.2 ?_);refine wpAny_landsW AN λnA fl us=>?_;obtain⟨k1,k2,⟨_,_,k3⟩,k4⟩:=fl;refine Dz J eJ hex hf (λb o e n q=>l.nZ b o e n (q.imp id λ⟨o0,q⟩=>I.base.there b o0 q (by rw[hex];simp))) (λb hb o e=>?_) ⟨k1,k2,k3,k4⟩ hE;obtain⟨o1,e1,nf⟩:=zh J hb;rw[e] at e1;cases e1;exact us b o e nf
end
def yQ(X:Cx)(Ξ:XK):Prop:=∀(pins:List (Addr×Obj)) (σ:St) (H:Hp) (s:Shared) (h':Heap) (ea C:Addr) (vs:List Value),Inv X pins σ H s->Heap.MadeExcOf s.heap h' ea (.ref C) vs->Ξ (.ref C) none H->X.xe (.ref ea) { s with heap:=h' }
def Z4(X:Cx)(Ξ:XK):Prop:=∀(pins:List (Addr×Obj)) (σ:St) (H H':Hp) (s s':Shared) (B:Heap) (ea C:Addr) (a0:Value),Inv X pins σ H s->Lies X H H' s B ea C a0 s'->Heap.HeldW B X.stack ea (.ref C) a0 X.env.locals s'.heap->Ξ (.ref C) none H'->X.xe (.ref ea) s'
def Qj(C:Addr)(Ξ:XK)(t:TA):TS:=λ_ σ H=>t σ H λvs H1=>vs.length<=sizeLine/\Ξ (.ref C) none H1
theorem a63{x:Str}{C:Addr}{B newId gC:String}{bm:List Value}{np dU pos:Pos}{jr:Expr}{rest:List Expr}{t:TA}{Ξ:XK}(hc:X.calm=true)(O:OwnCls x C bm newId X.mg X.base)(FB:ExcBaseFacts B newId gC bm)(hg:Gl X x)(ha:PA X (jr::rest) t)(hr:yQ X Ξ)(he:starEach (jr::rest) X.env=(false,eval jr X.env)::starEach rest X.env)(eN:(backTo dU (starEach rest X.env)).any (·.1)=false)(hd:(x==("__debug__":Str))=false) :
  PS X (.Raise (some (.Call (.Name x np) (jr::rest) [] dU)) none pos) (Qj C Ξ t):=by
 intro pins s σ H D I h;obtain⟨tl,N,nm,q,bs,hdct,sn,sub,ab,col,dd,k0,k1,k2,k3,k5,mN,hC,hN,xP,T⟩:=O.obj;refine wpAny_Raise_call_subT (C:=C) (nm:=nm) (q:=q) (N:=N) (bs:=bs) (bm:=tl) (hdct:=hdct) (sn:=sn) (sub:=sub) (ab:=ab) (col:=col) (dd:=dd) (k0:=k0) (k1:=k1) (k2:=k2) (k3:=k3) (k5:=k5)
  FB (mN:=mN) (T.hasType FB.hasBase) (I.ok.hd hc) (by rw[he];show(false||(backTo dU (starEach rest X.env)).any (·.1))=false;rw[eN];rfl) xP (R7 I hg O.bound ⟨rfl,?_⟩ hd)
 have h':=ha dU pins s σ H _ I h;rw[he] at h' ⊢;refine gk (bQ h' (λvs iu kq=>?_) λ_ _ y=>y);obtain⟨ws,H1,I1,rv,hz,hE⟩:=kq;exact⟨rfl,by rw[<- rv.length];exact hz,I1.bk _ _ hC,hN.keeps I1.bk,T.keeps I1.bk,λh2 ea hm=>hr pins σ H1 iu h2 ea C vs I1 hm hE⟩
def U5(X:Cx)(pins:List (Addr×Obj))(xe:Value->Shared->Prop):Cx:={ X with pn:=X.pn++pins,xe:=xe }
def B8(X:Cx)(ea:Addr):Cx:={ X with A:=X.A.mark (some (.ref ea)),calm:=false,xe:=λ_ _=>False }
theorem Inv.WI{xe:Value->Shared->Prop}(I:Inv X pins σ H s):Inv (U5 X pins xe) [] σ H s :=
 ⟨⟨I.ok.mod,I.ok.kind,I.ok.glob,I.ok.blt,I.ok.above,I.ok.inj,I.ok.has,I.ok.pT,I.ok.hd,I.ok.frames,I.ok.qp,I.ok.wt,I.ok.bs,I.ok.mW,I.ok.jH,I.ok.kz,I.ok.G0,I.ok.nB⟩,I.os,I.bare,I.base,I.loc,I.cell,I.free,I.eR,
  λp hp=>I.pin p (by simpa [U5] using hp),I.bG,I.len⟩
theorem Inv.sd{xe:Value->Shared->Prop}{iJ:List (Addr×Obj)}(I:Inv (U5 X pins xe) iJ σ H s):Inv X pins σ H s :=
 ⟨⟨I.ok.mod,I.ok.kind,I.ok.glob,I.ok.blt,I.ok.above,I.ok.inj,I.ok.has,I.ok.pT,I.ok.hd,I.ok.frames,I.ok.qp,I.ok.wt,I.ok.bs,I.ok.mW,I.ok.jH,I.ok.kz,I.ok.G0,I.ok.nB⟩,I.os,I.bare,I.base,I.loc,I.cell,I.free,I.eR,
  λp hp=>I.pin p (fA _ hp),I.bG,I.len⟩
theorem Inv.Jq{ea:Addr}(I:Inv X pins σ H s):Inv (B8 X ea) pins σ H s :=
 ⟨⟨I.ok.mod,I.ok.kind,I.ok.glob,I.ok.blt,I.ok.above,I.ok.inj,I.ok.has,I.ok.pT,λz=>(by cases z),I.ok.frames,I.ok.qp,I.ok.wt,I.ok.bs,I.ok.mW,I.ok.jH,I.ok.kz,I.ok.G0,I.ok.nB⟩,I.os,I.bare,I.base,I.loc,I.cell,I.free,I.eR,I.pin,I.bG,I.len⟩
theorem Inv.Y6{ea:Addr}(J:X.Ok)(I:Inv (B8 X ea) pins σ H s):Inv X pins σ H s :=
 ⟨J,I.os,I.bare,I.base,I.loc,I.cell,I.free,I.eR,I.pin,I.bG,I.len⟩
theorem SP.sd{xe:Value->Shared->Prop}{D:Ends}{f:Flow}(h:SP (U5 X pins xe) [] D f s):SP X pins D f s:=by
 cases f with
 |next=>obtain⟨a,b,I,q⟩:=h;exact⟨a,b,I.sd,q⟩
 |brk=>obtain⟨a,b,I,q⟩:=h;exact⟨a,b,I.sd,q⟩
 |cont=>obtain⟨a,b,I,q⟩:=h;exact⟨a,b,I.sd,q⟩
 |ret u=>obtain⟨v,a,b,I,r,q⟩:=h;exact⟨v,a,b,I.sd,r,q⟩
theorem SP.Y6{ea:Addr}{D:Ends}{f:Flow}(J:X.Ok)(h:SP (B8 X ea) pins D f s):SP X pins D f s:=by
 cases f with
 |next=>obtain⟨a,b,I,q⟩:=h;exact⟨a,b,I.Y6 J,q⟩
 |brk=>obtain⟨a,b,I,q⟩:=h;exact⟨a,b,I.Y6 J,q⟩
 |cont=>obtain⟨a,b,I,q⟩:=h;exact⟨a,b,I.Y6 J,q⟩
 |ret u=>obtain⟨v,a,b,I,r,q⟩:=h;exact⟨v,a,b,I.Y6 J,r,q⟩
def rW(X:Cx)(D:Ends)(C:Addr)(H:Hp):List ExceptHandler->Prop
 |.ExceptHandler (some (.Name x _)) none (wD::pz) _::rest=>Gl X x/\(x==("__debug__":Str))=false/\∃C' b,X.mg x=some (.ref C')/\PySem.W.exmOne X.K (.ref C) (.ref C')=some b /\
   (if b=true then ∃t:TS,(∀ea,jb (B8 X ea) (wD::pz) t)/\t D (List.replicate X.N.length none) H else rW X D C H rest)
 |[]=>∃Ξ:XK,Z4 X Ξ/\Ξ (.ref C) none H
 |_=>False
end
end L2

namespace L2
open PySem PySem.Spec PyProof.Rows
section
variable{X:Cx}{pins:List (Addr×Obj)}{σ:St}{H H':Hp}{s s':Shared}{e:Value}{D:Ends}
def tV(X:Cx)(pins:List (Addr×Obj))(D:Ends)(hs:List ExceptHandler):Value->Shared->Prop:=λe bW =>
 wpAny (model X.prog X.w) X.A (noteFrame e X.env) (λ_ iu=>wpAny (model X.prog X.w) X.A (setFlight e none) (λ_ gW=>wpAny (model X.prog X.w) X.A (handleBy e X.env hs) (SP X pins D) X.xe gW) X.xe iu) X.xe bW
theorem Lies.step{B h1:Heap}{ea C:Addr}{a0:Value}(I:Inv X pins σ H s)(l:Lies X H H' s B ea C a0 s')(st:B.StaysIn h1)(us:s'.heap.UpToSlots h1):Lies X H H' s B ea C a0 { s' with heap:=h1 }:=by
 have J:=l.inv I;obtain⟨u,ok,ib⟩:=a34 l.un l.bG l.nZ st us λb hb=>⟨J.zd b hb,zh J hb⟩
 exact⟨l.os,l.bare,u,ok,ib⟩
theorem ZY{s:Shared}{B:Heap}{l:List Env}{ea L:Addr}{cls a0:Value}{A:Around}{M:Model}{E:Value->Shared->Prop}{Q:Unit->Shared->Prop}(fw:Heap.FlyingW B l ea cls a0 s.heap)(h:∀h',Heap.HeldW B l ea cls a0 L h'->(∀b o,s.heap.get? b=some o->(∀vs,o.data≠.fields vs)->h'.get? b=some o)->Q () { s with heap:=h' }):wpAny M A (setFlight (.ref ea) (some L)) Q E s:=by
 obtain⟨f1,f2,f3,oe,vs,T,oT,ts,he,jo,hd,h1,oq,qZ,hT,mH,h3⟩:=fw;have vc:3<ts.size:=(nP.mp h3).1;have other:∀b,b≠T->(s.heap.update T (Obj.mapFields (·.setIfInBounds 3 ((some L).elim Value.none λf=>rawInt f)))).get? b=s.heap.get? b :=
  λb hb=>bx _ _ (aL hb)
 have jI:∀b o,s.heap.get? b=some o->(∀vs,o.data≠.fields vs)->b≠T:=λb o hb vi q=>by
  rw[q,hT] at hb;injection hb with hb;subst hb;exact vi ts mH
 unfold setFlight;refine aa (dO he hd h1 ?_);rw[au (show(Value.ref T != Value.none)=true from by simp)];refine cU hT mH vc (h _ ⟨λb o AU=>(other b λq=>by rw [q,oq] at AU;cases AU).trans (f1 b o AU),f2,
  f3.of_keeps λb o hb vi=>⟨o,(other b (jI b o hb vi)).trans hb,rfl⟩,?_⟩ λb o hb vi=>(other b (jI b o hb vi)).trans hb)
 exact⟨oe,vs,T,_,_,(other ea (aL qZ)).trans he,jo,hd,h1,oq,qZ,aW _ hT (cC (bj mH _)),bj mH _,by simp[vc]⟩
theorem HV{B:Heap}{ea C:Addr}{a0:Value}(hf:X.env.frame=some X.env.locals):∀(hs:List ExceptHandler) (s':Shared),Inv X pins σ H s->Lies X H H' s B ea C a0 s'->Heap.FlyingW B X.stack ea (.ref C) a0 s'.heap->rW X D C H' hs ->
  wpAny (model X.prog X.w) X.A (handleBy (.ref ea) X.env hs) (SP X pins D) X.xe s'
 |[],s',I,l,fw,t=>by
  obtain⟨Ξ,hh,hE⟩:=t;refine wpAny_handleBy_nil ?_;unfold PySem.passOn;obtain⟨f1,f2,f3,oe,vs,T,oT,ts,he,jo,hd,h1,_⟩:=id fw;refine aa (dO he hd h1 ?_);rw[ax (by simp),hf];refine aa (ZY fw λh2 held k=>wpAny_throw ?_);have l2:=l.step I held.1 (λb o hb hn=>⟨o.slots,k b o hb hn⟩);exact hh pins σ H H' s _ B ea C a0 I l2 held hE
 |.ExceptHandler none _ _ _::_,_,_,_,_,t=>t.elim
 |.ExceptHandler (some e) nm bd pos::rest,s',I,l,fw,t=>by
  cases e
  case Name x np =>
   cases nm with
   |some y=>exact t.elim
   |none =>
    cases bd with
    |nil=>exact t.elim
    |cons wD pz =>
     obtain⟨hg,iC,C',b,hm,hx,q⟩:=t;have J:=l.inv I;have JM:Inv (B8 X ea) pins σ H' s':=J.Jq;have LT:PySem.W.Looks (model X.prog X.w) s'.heap (typeOf (.ref ea)) (.ref C):=λA Q E s2 k q=>by
      obtain⟨ob,ho,hc⟩:=fw.there;exact wpAny_typeOf_ref (k _ _ ho) (by rw[hc];exact q)
     refine wpAny_handleBy_cons (codeAny_handlers_test ?_) (by intro z;cases z);refine R7 (X:=B8 X ea) JM hg hm ?_ iC;refine(PySem.W.exm_one (M:=model X.prog X.w) J.gm LT hx).here ?_;cases b with
     |false =>
      simp only[Bool.false_eq_true,if_false] at q;exact HV hf rest s' I l fw q
     |true =>
      simp only[if_true] at q;obtain⟨t,ht,hq⟩:=q;refine codeAny_handlers_suite ?_;refine wpAny_setFlight_noneW fw.1 fw.2.2.1 fw.2.2.2.at λh2 k1 k2 k3 k4=>?_;have l2:=l.step I k1 (λb o hb hn=>⟨o.slots,k4 b o hb hn⟩);have J2:=l2.inv I;have J3:Inv (B8 X ea) pins (List.replicate X.N.length none) H' { s' with heap:=h2 }:=(J2.weak (by rw [iG,J2.len]) λi v z=>by
       rw [du] at z;split at z <;> cases z).Jq
      refine bQ (ht ea pins _ _ H' D J3 hq) (λf s2 hf=>hf.Y6 I.ok) λ_ _ z=>z.elim
  all_goals exact t.elim
theorem a74{hs:List ExceptHandler}{Ξ:XK}(eJ:X.stack=X.env::X.outer)(hf:X.env.frame=some X.env.locals)(hT:∀C H',Ξ (.ref C) none H'->rW X D C H' hs) :
  Passes (gO X.prog X.w) (U5 X pins (tV X pins D hs)) Ξ:=by
 intro iJ σ H s e s' I0 h;have I:Inv X pins σ H s:=I0.sd;obtain⟨C,H',ho,hb,hu,bG,⟨ea,a0,B,rfl,fw,hB⟩,hE⟩:=h;have l:Lies X H H' s B ea C a0 s':=⟨ho,hb,hu,bG,hB⟩
 have fw:Heap.FlyingW B X.stack ea (.ref C) a0 s'.heap:=fw;show tV X pins D hs (.ref ea) s';unfold tV;have rn:=fw;rw[eJ] at rn;refine wpAny_looks_onW (by rw[I.ok.frames,eJ]) hf rn λh1 held us=>?_;have l1:=l.step I held.1 us;refine wpAny_landsW held λh2 fl LC=>?_;have l2:=l1.step I fl.1 LC;rw[<- eJ] at fl;exact HV hf hs _ I l2 fl (hT C H' hE)
theorem OY{hs:List ExceptHandler}{h₀:ExceptHandler}{body:List Stmt}{pos:Pos}{t:Ends->TS}{Ξ:Ends->XK}(eJ:X.stack=X.env::X.outer)(hf:X.env.frame=some X.env.locals)(hb:∀pins D,(∀C H',Ξ D (.ref C) none H'->rW X D C H' (h₀::hs))->jb (U5 X pins (tV X pins D (h₀::hs))) body (t D)) :
  PS X (.Try body (h₀::hs) [] [] pos) (λD σ H=>(∀C H',Ξ D (.ref C) none H'->rW X D C H' (h₀::hs))/\t D D σ H):=by
 intro pins s σ H D I ⟨hT,h⟩;refine wpAny_Try_except (bQ (hb pins D hT [] s σ H D I.WI h) (λf s1 q=>?_) λe s1 q=>q);have q:=q.sd;cases f with
 |next =>
  obtain⟨cj,H',I',q⟩:=q;exact cw (tY ⟨cj,H',I',q⟩) λ_ _ z=>z
 |brk=>exact q
 |cont=>exact q
 |ret u=>exact q
end
end L2

namespace L2
open PySem PySem.Spec PyProof.Rows
section
variable{M:Model}{A:Around}{E:Value->Shared->Prop}{env:Env}{s:Shared}
theorem SN{e:Expr}{scope:Scope}{pos:Pos}{mn first:Sem Value}{g:Comprehension}{gs:List Comprehension}{cl:List (Str×Addr)}{Q:Value->Shared->Prop}{RX:Value->Addr->Result->Shared->Prop}(ja:clausesOf e=g::gs)(hs:∀x,foldedSetIterable g.iter env x=pure x)(vF:closureFor scope env=pure cl)(kH:scope.kind=.function)(qS:∀x∈scope.names,x.2=.local->scope.names.lookup x.1=some .local)(ok:∀acc C f s',RX acc C (.ok f) s'->∃m,s'.heap.Ns C m/\∀h',Heap.SameBut C s'.heap h'->Q acc { s' with heap:=h' })(er:∀acc C x s',RX acc C (.error x) s'->∃m,s'.heap.Ns C m/\∀h' m',h'.Ns C m'->Heap.SameBut C s'.heap h'->∀cenv:Env,cenv.frame=env.frame->wpAny M A (PySem.passOn "comprehension.variables-let-go" x cenv:Sem Value) (λ_ _=>False) E { s' with heap:=h' })(h:wpAny M A first (λx s1=>wpAny M A (pyIter x) (λit s2=>wpAny M A mn (λacc s3=>wpAny M A (newFunctionEnv scope env.globals cl [] env.qual none .none (some env)) (λcenv s4 =>
   cenv.frame=env.frame/\codeAny M A (.compStart e 0 it acc { cenv with scope:=relabel scope env }) (RX acc cenv.locals) s4) E s3) E s2) E s1) E s):wpAny M A (comprehension e scope env pos mn false first none) Q E s:=by
 have keep:∀{α:Type} {m:Sem α} {P P':α->Shared->Prop} {t:Shared},wpAny M A m P E t->(∀a t',P a t'->P' a t')->wpAny M A m P' E t:=λa b=>bQ a b λ_ _ z=>z;unfold comprehension;rw[vF,ja];refine aa (keep h λx s1 h1=>aa (iE (aa (dh (hs x) (aa (bq (keep h1 λit s2 h2=>wpAny_standIf (aa (keep h2 λacc s3 h3=>aa (ah (aa (keep h3 λcenv s4 h4=>?_))))))))))));obtain⟨sQ,h4⟩:=h4;dsimp only;have hv:∀x∈(scope.names.filter λx=>(x.2==.local||x.2==.cell)&&x.1 != (".0":Str)).reverse,x.2=.local->Env.kindOf { cenv with scope:=relabel scope env } x.1=some .local :=
  λx hx hl=>lookup_relabel_local (qS x (bS.mp (List.mem_reverse.mp hx)).1 hl)
 refine bq (aa (Ln (bq (wpAny_run (fu h4 λr s5 h5=>?_)))));cases r with
 |ok f =>
  obtain⟨m,n5,q⟩:=ok _ _ _ _ h5;exact aa (bq (wpAny_comp_letGo (cenv:={ cenv with scope:=relabel scope env }) kH _ s5 m hv n5 λh6 m6 _ k6=>ah (q h6 k6)))
 |error x =>
  obtain⟨m,n5,q⟩:=er _ _ _ _ h5;exact aa (bq (wpAny_comp_letGo (cenv:={ cenv with scope:=relabel scope env }) kH _ s5 m hv n5 λh6 m6 n6 k6=>bQ (q h6 m6 n6 k6 _ sQ) (λ_ _ f=>f.elim) λ_ _ y=>y))
end
end L2

namespace L2
open PySem PySem.Spec PyProof.Rows
theorem IT{B B' h h2:Heap}{C:Addr}(hB:∀b,b≠C->B'.get? b=B.get? b)(hh:∀b,b≠C->h2.get? b=h.get? b){oC:Obj}(hC:B.get? C=some oC):∀{l:List Env},h.FunFrames B l->h2.FunFrames B' l
 |[],x=>x
 |env::r,⟨x1,⟨L,o,x2,x3,x4,x5⟩,x6⟩=>by
  have hL:L≠C:=λz=>by rw[z,hC] at x3;cases x3
  exact⟨x1,⟨L,o,x2,(hB L hL).trans x3,(hh L hL).trans x4,x5⟩,IT hB hh hC x6⟩
section
variable{X:Cx}{pins:List (Addr×Obj)}{σ:St}{H H':Hp}{s s':Shared}
theorem ZX{s:Shared}{B:Heap}{l:List Env}{ea L:Addr}{cls a0:Value}{A:Around}{M:Model}{E:Value->Shared->Prop}{Q:Unit->Shared->Prop}(fw:Heap.HeldW B l ea cls a0 L s.heap)(h:∀h',Heap.HeldW B l ea cls a0 L h'->(∀b o,s.heap.get? b=some o->(∀vs,o.data≠.fields vs)->h'.get? b=some o)->Q () { s with heap:=h' }):wpAny M A (setFlight (.ref ea) (some L)) Q E s:=by
 obtain⟨f1,f2,f3,oe,vs,T,oT,ts,he,jo,hd,h1,oq,qZ,hT,mH,h3⟩:=fw;have FT:3<ts.size:=(nP.mp h3).1;have qG:∀b,b≠T->(s.heap.update T (Obj.mapFields (·.setIfInBounds 3 ((some L).elim Value.none λf=>rawInt f)))).get? b=s.heap.get? b:=λb hb=>bx _ _ (aL hb);have EX:∀b o,s.heap.get? b=some o->(∀vs,o.data≠.fields vs)->b≠T:=λb o hb hn q=>by
  rw[q,hT] at hb;cases hb;exact hn ts mH
 unfold setFlight;refine aa (dO he hd h1 ?_);rw[au (show(Value.ref T != Value.none)=true from by simp)];refine cU hT mH FT (h _ ⟨λb o hb=>(qG b λq=>by rw[q,oq] at hb;cases hb).trans (f1 b o hb),f2,f3.of_keeps λb o hb hn=>⟨o,(qG b (EX b o hb hn)).trans hb,rfl⟩,?_⟩ λb o hb hn=>(qG b (EX b o hb hn)).trans hb);exact⟨oe,vs,T,_,_,(qG ea (aL qZ)).trans he,jo,hd,h1,oq,qZ,aW _ hT (cC (bj mH _)),bj mH _,by simp[FT]⟩
theorem Lies.wM{B h2:Heap}{ea Cc C L:Addr}{a0:Value}{o o2:Obj}(l:Lies X H H' s B ea Cc a0 s')(held:Heap.HeldW B X.stack ea (.ref Cc) a0 L s'.heap)(sb:Heap.SameBut C s'.heap h2)(ya:h2.get? C=some o2)(EW:o2.isFreed=false)(hn:H C=none)(hs:s.heap.get? C=some o)(nf:C∉fF X.stack) :
  ∃B',Lies X H H' { s with heap:=s.heap.update C λ_=>o2 } B' ea Cc a0 { s' with heap:=h2 }/\Heap.HeldW B' X.stack ea (.ref Cc) a0 L h2:=by
 obtain⟨oC,eC⟩:=l.un.there C o hs (by simp);have n':H' C=none:=l.un.free C o hs hn (by simp);have hB:B.get? C=some oC:=l.nZ C oC eC nf (.inr ⟨o,hs⟩);have b1:(B.update C λ_=>o2).get? C=some o2:=aW _ hB EW;have b2:∀b,b≠C->(B.update C λ_=>o2).get? b=B.get? b:=λb hb=>bx _ _ (aL hb);have s1:(s.heap.update C λ_=>o2).get? C=some o2:=aW _ hs EW;have s2:∀b,b≠C->(s.heap.update C λ_=>o2).get? b=s.heap.get? b:=λb hb=>bx _ _ (aL hb);have ox:∀b,b≠C->h2.get? b=s'.heap.get? b:=sb.2;have ne:∀{b:Addr},B.get? b=none->b≠C:=λ{b} h z=>by rw[z,hB] at h;cases h
 obtain⟨f1,f2,f3,oe,vs,T,oT,ts,he,jo,hd,h1,oq,qZ,hT,mH,h3⟩:=held;refine⟨B.update C λ_=>o2,⟨l.os,l.bare,⟨λb u e n1 n2 n3=>?_,λb u e n1 n2 n3=>?_,λb u e n1 n2=>?_,λb u e n1=>?_,l.un.ip,l.un.gY,l.un.ir⟩,?_,λb u e n1 q=>?_⟩,λb u e=>?_,(b2 ea (ne f2)).trans f2,IT b2 ox hB f3,oe,vs,T,oT,ts,(ox ea (ne f2)).trans he,jo,hd,h1,(b2 T (ne oq)).trans oq,qZ,(ox T (ne oq)).trans hT,mH,h3⟩
 ·by_cases z:b=C
  ·subst z;rw[show({ s with heap:=s.heap.update b λ_=>o2 }:Shared).heap.get? b=_ from s1] at e;cases e;exact ya
  ·exact(ox b z).trans (l.un.keep b u ((s2 b z).symm.trans e) n1 n2 n3)
 ·have z:b≠C:=λz=>nf (z▸n2);obtain⟨sl,q⟩:=l.un.slot b u ((s2 b z).symm.trans e) n1 n2 n3;exact⟨sl,(ox b z).trans q⟩
 ·by_cases z:b=C
  ·subst z;exact n'
  ·exact l.un.free b u ((s2 b z).symm.trans e) n1 n2
 ·by_cases z:b=C
  ·subst z;exact⟨_,ya⟩
  ·obtain⟨w,q⟩:=l.un.there b u ((s2 b z).symm.trans e) n1;exact⟨w,(ox b z).trans q⟩
 ·intro a u e;exact (l.bG a u e).Q2 (λb w hb q=>by
   have:b≠C:=λz=>by
    rcases hb with rfl|hb
    ·rw[z,n'] at e;cases e
    ·rw[z,n'] at hb;cases hb
   exact (ox b this).trans q) (λb hb=>hb) (λb xs hb=>hb)
 ·by_cases z:b=C
  ·subst z;rw[show({ s' with heap:=h2 }:Shared).heap.get? b=_ from ya] at e;cases e;exact b1
  ·refine(b2 b z).trans (l.nZ b u ((ox b z).symm.trans e) n1 ?_);rcases q with q|⟨o0,q⟩
   ·exact .inl q
   ·exact .inr ⟨o0,(s2 b z).symm.trans q⟩
 ·by_cases z:b=C
  ·subst z;rw[b1] at e;cases e;exact ya
  ·exact(ox b z).trans (f1 b u ((b2 b z).symm.trans e))
def yF(X:Cx)(Ξ:XK)(pins:List (Addr×Obj))(scope:Scope)(N':List Str)(cl:List (Str×Addr))(fp:List Addr)(C:Addr)(s:Shared)(H:Hp):Value->Shared->Prop :=
 λe s'=>∃kF iP H1 s1,Inv (d8 X pins scope N' cl C s H fp) kF iP H1 s1/\gO X.prog X.w X.stack H1 s1 Ξ e s'
def Hx(X:Cx)(pins:List (Addr×Obj))(σ:St)(Q:VK):Value->Addr->Result->Shared->Prop:=λacc C r s'=>match r with
 |.ok _=>∃m,s'.heap.Ns C m/\∀h',Heap.SameBut C s'.heap h'->EP X pins σ Q acc { s' with heap:=h' }
 |.error x=>∃m,s'.heap.Ns C m/\∀h' m',h'.Ns C m'->Heap.SameBut C s'.heap h'->∀cenv:Env,cenv.frame=X.env.frame->wpAny (model X.prog X.w) X.A (PySem.passOn "comprehension.variables-let-go" x cenv:Sem Value) (λ_ _=>False) X.xe { s' with heap:=h' }
theorem a67{elt tg iter:Expr}{ifs:List Expr}{scope:Scope}{N':List Str}{d4:List Nat}{cl:List (Str×Addr)}{pos:Pos}{wi:TI}{g:TG}{tc:TT}{te:TE}{Ξ:XK}(eJ:X.stack=X.env::X.outer)(hf:X.env.frame=some X.env.locals)(hh:Z4 X Ξ)(S:dZ X scope N' d4 cl)(hc:X.calm=true)(hi:PI X tg iter wi)(hg:∀pins C s H fp,PG (d8 X pins scope N' cl C s H fp) tg g)(ht:∀pins C s H fp,lS (d8 X pins scope N' cl C s H fp) ifs tc)(he:∀pins C s H fp,PE ((d8 X pins scope N' cl C s H fp).Q1 (yF X Ξ pins scope N' cl fp C s H)) elt te)(hs:∀x,foldedSetIterable iter X.env x=pure x):PE X (.ListComp elt [⟨tg,iter,ifs,0⟩] scope pos) (wR wi d4 N'.length g tc te):=by
 intro pins s σ H Q I h;rw[eval_ListComp];refine SN (RX:=Hx X pins σ Q)
  rfl hs S.rE S.kind S.names (λ_ _ _ _ z=>z) (λ_ _ _ _ z=>z) (cw (hi pins s σ H _ I h) λxv s1 h1=>cw h1 λuW s2 h2=>?_)
 obtain⟨it,fp,tn,J,H2,e,I2,T,nW,f2,W,⟨m0,w0⟩,turn⟩:=h2;subst e;refine Dh (xx:=λC s H=>yF X Ξ pins scope N' cl fp C s H) (RR:=Hx X pins σ Q) S hc (λC s H=>hg pins C s H fp) (λC s H=>ht pins C s H fp) (λC s H=>he pins C s H fp) I2 T nW f2 w0 turn ?_ ?_
 ·intro D C s' H' m I' q hn hC hsz;exact⟨m,hn,λh' sb=>⟨.ref D,H',I'.wM hsz I2 hC sb,rfl,q⟩⟩
 ·rintro D C e s' hsz ⟨kF,iP,H1,s1,K1,cx⟩;obtain⟨Cc,H',ho,hb,hu,bG,⟨ea,a0,B,rfl,fw,hB⟩,hE⟩:=cx;have J1:Inv X pins σ H1 s1:=I2.Ko f2 K1;have l:Lies X H1 H' s1 B ea Cc a0 s':=⟨ho,hb,hu,bG,hB⟩
  have rn:=fw;rw[eJ] at rn;show wpAny (model X.prog X.w) X.A (noteFrame (.ref ea) X.env) _ _ s';refine wpAny_looks_onW (by rw[J1.ok.frames,eJ]) hf rn λh3 held us=>?_;rw[<- eJ] at held;have l1:=l.step J1 held.1 us;have lc:Lies (d8 X pins scope N' cl C s2 H2 fp) H1 H' s1 B ea Cc a0 { s' with heap:=h3 }:=⟨l1.os,l1.bare,l1.un,l1.bG,l1.nZ⟩
  obtain⟨mC,Az,_⟩:=(lc.inv K1).loc;refine⟨mC,Az,λh4 m4 n4 sb cenv sQ=>?_⟩;obtain⟨o4,es,ep,e4,_⟩:=n4;have Mf:o4.isFreed=false:=(Heap.get?_some_iff.mp e4).2;obtain⟨m1,⟨o1,gK,ep1,e1,_⟩,_⟩:=K1.loc;have n1:H1 C=none:=K1.free;have nf:C∉fF X.stack:=λz=>by
   rcases aI.mp (I2.O9 C z) with z|z
   ·exact absurd I2.lt (by rw[<- z];exact ij.mpr hsz)
   ·exact I2.zu hsz z
  obtain⟨B2,l2,pJ⟩:=l1.wM held sb e4 Mf n1 e1 nf;have J2:Inv X pins σ H1 { s1 with heap:=s1.heap.update C λ_=>o4 }:=J1.wM hsz I2 n1 (bf _ _ _);unfold PySem.passOn;obtain⟨g1,g2,g3,oe,vs,T',oT,ts,vC,jo,hd,M',_⟩:=id pJ;refine aa (dO vC hd M' ?_);rw[ax (by simp),sQ,hf];refine aa (ZX pJ λh5 pI k5=>wpAny_throw ?_);have l5:=l2.step J2 pI.1 (λb o hb hn=>⟨o.slots,k5 b o hb hn⟩);exact hh pins σ H1 H' _ _ B2 ea Cc a0 J2 l5 pI hE
end
end L2

namespace L2
open PySem PySem.Spec PyProof.Rows
section
variable{X:Cx}
theorem Wd{e:Expr}{t:TE}{pos:Pos}(he:PE X e t):PE X (.FormattedValue e (-1) none pos) (λσ H Q=>t σ H λx H1=>(∃i,x=.int i/\i.natAbs.log2<1920/\Q (.str (toString i)) H1)\/∃y,x=.str y/\y.length<=sizeLine/\Q (.str y) H1):=by
 intro pins s σ H Q I h;refine wpAny_FormattedValue_plain (cw (he pins s σ H _ I h) λv s1 bh=>?_);obtain⟨x,H1,I1,r1,q1⟩:=bh;rcases q1 with⟨i,rfl,hd,q⟩|⟨y,rfl,hy,q⟩
 ·obtain⟨t,rfl⟩:=r1;exact wpAny_formatField_int hd ⟨.str _,H1,I1.tok _,⟨_,rfl⟩,q⟩
 ·obtain⟨t,rfl⟩:=r1;exact wpAny_formatField_str ⟨.str _,H1,I1,⟨_,rfl⟩,q⟩ ⟨.str _,H1,I1.tok _,⟨_,rfl⟩,q⟩ hy
inductive tX(X:Cx):List Expr->List TE->Prop
 |nil:tX X [] []
 |cons {e:Expr} {t:TE} {es:List Expr} {ts:List TE} (h:PE X e t) (r:tX X es ts):tX X (e::es) (t::ts)
def yC:List TE->St->Hp->Str->(Str->Hp->Prop)->Prop
 |[],_,H,acc,Q=>Q acc H
 |t::ts,σ,H,acc,Q=>t σ H λx H1=>∃y,x=.str y/\(acc++y).length<=sizeLine/\yC ts σ H1 (acc++y) Q
theorem Kv{pins:List (Addr×Obj)}{σ:St}{Q:Str->Hp->Prop}:∀{es:List Expr} {ts:List TE},tX X es ts->∀{s:Shared} {H:Hp} {acc:Str},Inv X pins σ H s->yC ts σ H acc Q ->
  Joins (model X.prog X.w) X.A X.xe (evalEach es X.env) acc (λout s1=>∃H1,Inv X pins σ H1 s1/\Q out H1) s
 |_,_,.nil,s,H,acc,I,h=>⟨H,I,h⟩
 |_,_,.cons he r,s,H,acc,I,h=>by
  rw[arm_evalEach_cons];refine cw (he pins s σ H _ I h) λv s1 bh=>?_;obtain⟨x,H1,I1,r1,y,ey,hy,q1⟩:=bh;subst ey;obtain⟨t,rfl⟩:=r1;exact⟨y,t,rfl,hy,Kv r I1 q1⟩
theorem Ii{M:Model}{A:Around}{E:Value->Shared->Prop}{Q Q':Str->Shared->Prop}(hq:∀x s,Q x s->Q' x s):∀{l:List (Sem Value)} {acc:Str} {s:Shared},Joins M A E l acc Q s->Joins M A E l acc Q' s
 |[],acc,s,h=>hq _ _ h
 |x::r,acc,s,h=>cw h λv s1 ⟨y,t,e,hz,h1⟩=>⟨y,t,e,hz,Ii hq h1⟩
theorem Rx{kX kW:Expr}{rest:List Expr}{ts:List TE}{pos:Pos}(h:tX X (kX::kW::rest) ts):PE X (.JoinedStr (kX::kW::rest) pos) (λσ H Q=>yC ts σ H Str.empty λout H1=>out.length<=sizeLine/\Q (.str out) H1):=by
 intro pins s σ H Q I hw;refine wpAny_JoinedStr (Ii (λx s1 ⟨H1,I1,hl,q⟩=>⟨hl,.str x,H1,I1.tok _,⟨_,rfl⟩,q⟩) (Kv h I hw))
theorem Zr{lo:Int}{acc:Array Value}{n:Nat}(h:ItemsOf (λi v=>∃t,v=.int (lo+i*1) t) acc n):Vals ((List.range n).map λ(k:Nat)=>V.int (lo+k)) acc.toList:=by
 have hl:acc.toList.length=n:=by
  have:=h.1;simpa using this
 have go:∀(m:Nat) (l:List Value),l.length<=n->m+l.length=n->(∀i v,l[i]?=some v->∃t,v=Value.int (lo+((m+i:Nat):Int)) t)->Vals ((List.range' m l.length).map λ(k:Nat)=>V.int (lo+k)) l:=by
  intro m l
  induction l generalizing m with
  |nil=>intro _ _ _;exact .nil
  |cons x r ih =>
   intro h1 h2 h3;simp only[List.length_cons,List.range'_succ,List.map_cons];refine .cons ?_ (ih (m+1) (by simp at h1;omega) (by simp at h2;omega) λi v hv=>?_)
   ·obtain⟨t,e⟩:=h3 0 x rfl;exact⟨t,by rw[e];simp⟩
   ·obtain⟨t,e⟩:=h3 (i+1) v (by simpa using hv);exact⟨t,by rw[e,show m+(i+1)=m+1+i by omega]⟩
 have:=go 0 acc.toList (by omega) (by omega) λi v hv=>?_
 ·rw[hl,<- List.range_eq_range'] at this;exact this
 ·have hi:i<n:=by
   have:=(aq.mp hv).1;omega
  have:acc[i]?=some v:=by rw[<- fm];exact hv
  obtain⟨t,e⟩:=h.2 i v this;refine⟨t,?_⟩;rw[e];simp
theorem IU(hc:X.calm=true):l9 X (.type "list") (λxs H Q=>∃a lo hi,xs=[.ref a]/\H a=some (.lN lo hi)/\(-(2 ^ 62)<=lo/\lo<2 ^ 62/\-(2 ^ 62)<=hi/\hi<2 ^ 62/\hi-lo<=100000)/\∀p,H p=none->Q (.ref p) (upd H p (.lst ((List.range (hi-lo).toNat).map λ(k:Nat)=>V.int (lo+k))))):=by
 intro pins s σ H xs us Q I r h;obtain⟨a,lo,hi,rfl,ha,⟨h1,h2,h3,h4,h5⟩,q⟩:=h;obtain⟨t,u,v,ho⟩:=I.bG a _ ha;cases r with
 |cons r rr =>
 cases rr;cases r;have hn:Builtin.Range.rangeSize lo hi 1=((hi-lo).toNat:Nat):=by rw[rangeSize_one];split<;>omega
 refine call_list_range (n:=(hi-lo).toNat) (I.ok.hd hc) ho (small_one h1 h2 h3 h4) hn (by omega) λh' mj acc c hk hS kd=>?_;have hp:H s.heap.objs.size=none:=I.bG.fresh (aj _);refine⟨.ref _,_,I.laid (a:=s.heap.objs.size) (o:=.lst ((List.range (hi-lo).toNat).map λ(k:Nat)=>V.int (lo+k))) (t':=mj) hk (aj _) ⟨?_,acc.toList,c,Zr kd,by simpa using hS⟩,rfl,q _ hp⟩;rw[ak,kj];have:(hi-lo).toNat<=100000:=by omega
 exact aM this (by decide)
theorem YD{a:Expr}{ta:TA}{p pos:Pos}(hg:Gl X "range")(hm:X.mg "range"=none)(ha:PA X [a] ta)(hs:starEach [a] X.env=[(false,eval a X.env)]):PE X (.Call (.Name "range" p) [a] [] pos) (λσ H Q=>ta σ H λvs H1=>∃j:Int,vs=[.int j]/\∀q,H1 q=none->Q (.ref q) (upd H1 q (.lN 0 j))):=by
 intro pins s σ H Q I h;refine cV (T9 I hg hm boot_range (cG (cw (ha pos pins s σ H _ I h) λus s1 bh=>?_) hs rfl));obtain⟨vs,H1,I1,r1,q1⟩:=bh;obtain⟨j,e,q⟩:=q1;subst e;cases r1 with
 |cons r rr =>
  cases rr;obtain⟨t,rfl⟩:=r;exact call_range_1 ⟨.ref s1.heap.objs.size,_,I1.laid (a:=s1.heap.objs.size) (o:=.lN 0 j) (λb o e=>ai _ e) (aj _) ⟨_,_,_,aF _ rfl⟩,rfl,q _ (I1.bG.fresh (aj _))⟩
theorem YE{a b:Expr}{ta:TA}{p pos:Pos}(hg:Gl X "range")(hm:X.mg "range"=none)(ha:PA X [a,b] ta)(hs:starEach [a,b] X.env=[(false,eval a X.env),(false,eval b X.env)])(jZ:starEach [b] X.env=[(false,eval b X.env)]):PE X (.Call (.Name "range" p) [a,b] [] pos) (λσ H Q=>ta σ H λvs H1=>∃i j:Int,vs=[.int i,.int j]/\∀q,H1 q=none->Q (.ref q) (upd H1 q (.lN i j))):=by
 intro pins s σ H Q I h;refine cV (T9 I hg hm boot_range (cG (cw (ha pos pins s σ H _ I h) λus s1 bh=>?_) (by rw[hs,jZ]) (by rw[jZ];rfl)));obtain⟨vs,H1,I1,r1,q1⟩:=bh;obtain⟨i,j,e,q⟩:=q1;subst e;cases r1 with
 |cons r rr =>
  cases rr with
  |cons r' rr =>
   cases rr;obtain⟨t,rfl⟩:=r;obtain⟨t',rfl⟩:=r';exact call_range_2 ⟨.ref s1.heap.objs.size,_,I1.laid (a:=s1.heap.objs.size) (o:=.lN i j) (λb o e=>ai _ e) (aj _) ⟨_,_,_,aF _ rfl⟩,rfl,q _ (I1.bG.fresh (aj _))⟩
def wG(K:PySem.W.Frag)(P:Params)(a:Addr)(kvs:List (Str×V)):Prop :=
 ∃es n,K.lookup a=some ⟨.type "dict",none,.dict es n,#[]⟩/\PySem.W.KeysLit P es.toList/\(a==sysModules)=false/\∀x,B3 (kvs.lookup x) (findBy Value.isStrOf es x)
theorem Jf{kvs:List (Str×V)}(neg:Bool):ft X (compareOp (if neg then .NotIn else .In)) (λx y H Q=>∃a z,y=.ref a/\wG X.K X.w.params a kvs/\x=.str z/\Q (.bl (xor neg (kvs.lookup z).isSome)) H):=by
 intro pins s σ H x y v u Q I rx ry h;obtain⟨a,z,rfl,⟨es,n,hl,hk,lo,hf⟩,rfl,q⟩:=h;obtain⟨t,rfl⟩:=rx;cases ry;have hm:=PySem.W.mapOf_K (prog:=X.prog) (w:=X.w) I.gm hl hk;have e:=hf z;have ee:(findBy Value.isStrOf es z).isSome=(kvs.lookup z).isSome:=by
  cases h1:kvs.lookup z<;>cases h2:findBy Value.isStrOf es z<;>rw[h1,h2] at e<;>first|rfl|exact e.elim
 cases neg
 ·exact wpAny_in_of (strKind_is X.prog X.w z t) lo hm ⟨.bl _,H,I.tok _,by rw[ee];rfl,by simpa using q⟩
 ·exact wpAny_notIn_of (strKind_is X.prog X.w z t) lo hm ⟨.bl _,H,I.tok _,by rw[ee];rfl,by simpa using q⟩
theorem VH{kvs:List (Str×V)}:sg X (λx y H Q=>∃a z v,x=.ref a/\wG X.K X.w.params a kvs/\y=.str z/\kvs.lookup z=some v/\Q v H):=by
 intro value slice pins s σ H x y v u Q I rx ry h hs;obtain⟨a,z,d,rfl,⟨es,n,hl,hk,lo,hf⟩,rfl,hz,q⟩:=h;cases rx;obtain⟨t,rfl⟩:=ry;have hm:=PySem.W.mapOf_K (prog:=X.prog) (w:=X.w) I.gm hl hk;have e:=hf z;rw[hz] at e;cases h2:findBy Value.isStrOf es z with
 |none=>rw[h2] at e;exact e.elim
 |some r =>
  rw[h2] at e;exact Ew hm.typeIs slot_dict_getitem.lookup (wpAny_getItem_of (strKind_is X.prog X.w z t) hm h2 ⟨d,H,I.tok _,e,q⟩) hs
theorem QS(hu:X.A.units+1<cLine):sg X (λx y H Q=>∃a v,x=.ref a/\Y3 H a y (some v)/\Q v H):=by
 intro value slice pins s σ H x y v u Q I rx ry h hs;obtain⟨a,d,rfl,g,q⟩:=h;cases rx;exact Ew (ZV I g) slot_dict_getitem.lookup (a17 hu I g ry λw' s3 I3 fT=>⟨d,H,I3,fT,q⟩) hs
end
end L2

namespace ST
open PySem PyProof.Rows
noncomputable abbrev ke(xs:Array Nat):Prop:=xs.toList.Pairwise (· < ·)
theorem ke.lt{xs:Array Nat}(h:ke xs){i k:Nat}(vA:i<k)(hk:k<xs.size):xs.getD i 0<xs.getD k 0:=by
 have:=List.pairwise_iff_getElem.mp h i k (by simpa using cX vA hk) (by simpa using hk) vA;simp only[Array.getElem_toList] at this;rw[<- dM (h:=cX vA hk),<- dM (h:=hk)];exact this
theorem ke.le{xs:Array Nat}(h:ke xs){i k:Nat}(vA:i<=k)(hk:k<xs.size):xs.getD i 0<=xs.getD k 0:=by
 rcases Nat.eq_or_lt_of_le vA with e|e
 ·rw[e];exact aj _
 ·exact dX (h.lt e hk)
theorem Cq{xs:Array Nat}{j:Nat}(h:ke xs):∀(fuel lo hi:Nat),hi-lo<=fuel->lo<=hi->hi<=xs.size->(∀i,i<lo->xs.getD i 0<j)->(∀i,hi<=i->i<xs.size->j<=xs.getD i 0) ->
  SetTable.below.go xs j fuel lo hi<=xs.size/\(∀i,i<SetTable.below.go xs j fuel lo hi->xs.getD i 0<j)/\∀i,SetTable.below.go xs j fuel lo hi<=i->i<xs.size->j<=xs.getD i 0
 |0,lo,hi,h1,h2,h3,h4,h5=>by
  unfold SetTable.below.go;have:lo=hi:=by omega
  subst this;exact⟨h3,h4,h5⟩
 |fuel+1,lo,hi,h1,h2,h3,h4,h5=>by
  unfold SetTable.below.go;split
  ·rename_i hl;have hm:(lo+hi) / 2<xs.size:=by omega
   have em:xs.getD ((lo+hi) / 2) j=xs.getD ((lo+hi) / 2) 0:=by simp[Array.getD,hm]
   dsimp only;rw[em];by_cases hc:xs.getD ((lo+hi) / 2) 0<j
   ·rw[au hc];exact Cq h fuel _ hi (by omega) (by omega) h3 (λi kd=>jB (h.le (by omega) hm) hc) h5
   ·rw[ax hc];exact Cq h fuel lo _ (by omega) (by omega) (by omega) h4 λi kd hs=>aM (Nat.le_of_not_lt hc) (h.le kd hs)
  ·have:lo=hi:=by omega
   subst this;exact⟨h3,h4,h5⟩
theorem R0{xs:Array Nat}(j:Nat)(h:ke xs):SetTable.below xs j<=xs.size/\(∀i,i<SetTable.below xs j->xs.getD i 0<j)/\∀i,SetTable.below xs j<=i->i<xs.size->j<=xs.getD i 0 :=
 Cq h _ 0 _ (by omega) (by omega) (aj _) (λi hi=>absurd hi (Nat.not_lt_zero _)) λi h1 h2=>absurd h2 (by omega)
theorem below_at{xs:Array Nat}(h:ke xs){i:Nat}(hi:i<xs.size):SetTable.below xs (xs.getD i 0)=i:=by
 obtain⟨h1,h2,h3⟩:=R0 (xs.getD i 0) h;rcases gD (SetTable.below xs (xs.getD i 0)) i with z|z|z
 ·exact absurd (h3 _ (aj _) (by omega)) (Nat.not_le_of_lt (h.lt z hi))
 ·exact z
 ·exact absurd (h2 i z) (bL _)
theorem Zj{xs:Array Nat}(h:ke xs){i:Nat}(hi:i<xs.size):SetTable.below xs (xs.getD i 0+1)=i+1:=by
 obtain⟨h1,h2,h3⟩:=R0 (xs.getD i 0+1) h;rcases gD (SetTable.below xs (xs.getD i 0+1)) (i+1) with z|z|z
 ·have:=h3 i (by omega) hi;omega
 ·exact z
 ·have:=h2 (i+1) z;have:=h.lt (fq i) (k:=i+1) (by omega);omega
theorem Zk{xs:Array Nat}(h:ke xs):SetTable.below xs 0=0:=by
 obtain⟨_,h2,_⟩:=R0 0 h;rcases Nat.eq_zero_or_pos (SetTable.below xs 0) with z|z
 ·exact z
 ·exact absurd (h2 0 z) (Nat.not_lt_zero _)
theorem getD_mem{xs:Array Nat}{i:Nat}(hi:i<xs.size):xs[i]?=some (xs.getD i 0):=by simp[Array.getD,hi]
theorem ZG{t:SetTable}{j:Nat}(h:ke t.place)(hs:t.slot j=.empty):j∉t.place.toList:=by
 intro hm;obtain⟨i,hi,e⟩:=dS.mp hm;have kd:i<t.place.size:=by simpa using hi
 have ej:t.place.getD i 0=j:=by rw[<- dM (h:=kd)];simpa using e
 have hb:=below_at h kd;rw[ej] at hb;unfold SetTable.slot at hs;dsimp only at hs;rw[hb,getD_mem kd,ej] at hs;simp at hs
theorem ZE{xs:Array Nat}{j:Nat}(h:ke xs)(hj:j∉xs.toList):ke (SetTable.insertAt xs (SetTable.below xs j) j):=by
 obtain⟨h1,h2,h3⟩:=R0 j h;show(SetTable.insertAt xs (SetTable.below xs j) j).toList.Pairwise (· < ·);rw[SetTable.toList_insertAt,List.pairwise_append];have tk:∀a∈xs.toList.take (SetTable.below xs j),a<j:=λa ha=>by
  obtain⟨i,hi,e⟩:=dS.mp ha;rw[dt] at hi;rw[List.getElem_take] at e;have hs:i<xs.size:=by simp at hi;omega
  have:=h2 i (by omega);rw[<- dM (h:=hs)] at this;simp at e;omega
 have dp:∀b∈xs.toList.drop (SetTable.below xs j),j<b:=λb hb=>by
  obtain⟨i,hi,e⟩:=dS.mp hb;rw[kR] at hi;rw[List.getElem_drop] at e;have hs:SetTable.below xs j+i<xs.size:=by simp at hi;omega
  have:=h3 (SetTable.below xs j+i) (by omega) hs;rw[<- dM (h:=hs)] at this;have dW:b≠j:=λz=>hj (by rw[<- z];exact List.mem_of_mem_drop hb);simp at e;omega
 refine⟨h.take,Ls.mpr ⟨dp,h.drop⟩,λa ha b hb=>?_⟩;have pL:=tk a ha;rcases aI.mp hb with z|z
 ·omega
 ·have:=dp b z;omega
theorem YR(n:Nat):ke (Array.range n):=by
 show(Array.range n).toList.Pairwise (· < ·);rw[Array.toList_range];exact ik
structure Well(L:Bool)(t:SetTable):Prop where
 su:ke t.place
 rC:t.dummies=#[]
 led:t.led=L
theorem a79{t:SetTable}(hd:t.dummies=#[])(j:Nat):t.slot j≠.dummy:=by
 unfold SetTable.slot;dsimp only;split
 ·intro z;cases z
 ·rw[hd];split
  ·rename_i z;simp[SetTable.has] at z
  ·intro z;cases z
theorem IH{t:SetTable}(hd:t.dummies=#[]){hashAt:Nat->Int}{h:Int}:∀(fuel:Nat) (p:SetTable.Probe) {j:Nat} {dm:Option Nat},p.dummy=none->SetTable.probe.go t hashAt h fuel p=some (.empty j dm)->t.slot j=.empty/\dm=none
 |0,p,j,dm,_,e=>by simp[SetTable.probe.go] at e
 |fuel+1,p,j,dm,hp,e=>by
  unfold SetTable.probe.go at e;have ad:∀q:SetTable.Probe,q.dummy=none->(t.advance q).dummy=none:=λq hq=>by
   unfold SetTable.advance;split
   ·exact hq
   ·exact hq
  split at e
  ·rename_i hs;cases e;exact⟨hs,hp⟩
  ·rename_i hs;exact absurd hs (a79 hd _)
  ·split at e
   ·cases e
   ·exact IH hd fuel _ (ad p hp) e
theorem a12{t:SetTable}(hd:t.dummies=#[]){h:Int}{j:Nat}{wd:Bool}(e:t.freeSlot h=some (j,wd)):t.slot j=.empty/\wd=false:=by
 unfold SetTable.freeSlot at e;split at e
 ·rename_i j' dm hp;obtain⟨h1,h2⟩:=IH hd _ _ rfl hp;subst h2;cases e;exact⟨h1,rfl⟩
 ·cases e
theorem K3{L:Bool}{t:SetTable}(h:Well L t)(n:Nat):Well L (t.standIn n):=⟨YR n,rfl,h.led⟩
theorem ZZ{L:Bool}{t:SetTable}{es:Array (Int×Value)}{h:Int}{x:Value}(hw:Well L t):Well L (layNew t es h x).2.1/\(layNew t es h x).2.2.1=false:=by
 unfold layNew;split
 ·rename_i slot wd e;obtain⟨h1,h2⟩:=a12 hw.rC e;refine⟨?_,h2⟩;have hd:SetTable.has t.dummies slot=false:=by rw[hw.rC];simp[SetTable.has]
  have w2:Well L (t.put slot).1:=⟨ZE hw.su (ZG hw.su h1),by simp only[SetTable.put,hd];exact hw.rC,hw.led⟩
  dsimp only;unfold SetTable.orStandIn;split
  ·exact w2
  ·exact K3 w2 _
 ·exact⟨K3 hw _,rfl⟩
theorem HY{L:Bool}{mask finger moves:Nat}{led plain:Bool}{hashes:Array Int}{t:SetTable}{o:Array Nat}(hl:led=L)(e:SetTable.laid mask finger moves led plain hashes=some (t,o)):Well L t:=by
 unfold SetTable.laid at e;cases ho:SetTable.layClean mask hashes with
 |none=>rw[ho] at e;cases e
 |some owner =>
  rw[ho] at e;simp only[Option.bind_eq_bind,Option.bind_some,Option.pure_def,Option.some.injEq,Prod.mk.injEq] at e;obtain⟨rfl,_⟩:=e;refine⟨?_,rfl,hl⟩;show(List.map _ _).toArray.toList.Pairwise (· < ·);rw[EA];have sub:((List.range (mask+1)).filterMap λj=>(owner.getD j none).map (j,·)).map (·.1) |>.Sublist (List.range (mask+1)):=by
   generalize List.range (mask+1)=l
   induction l with
   |nil=>simp
   |cons a r ih =>
    rw[cF];cases owner.getD a none with
    |none=>exact ih.cons a
    |some k=>exact ih.cons_cons a
  exact List.Pairwise.sublist sub ik
theorem XT{L:Bool}{t:SetTable}{es:Array (Int×Value)}{n:Nat}(hw:Well L t):Well L (relayAll t es n).2.1:=by
 unfold relayAll;split
 ·rename_i t' order e;dsimp only;split
  ·exact HY hw.led e
  ·exact K3 hw _
 ·exact K3 hw _
end ST

namespace ST
open PySem PyProof.Rows
def toI:Value->Int
 |.int k _=>k
 |_=>0
def Led(w:World):Bool:=!(w.params.followText "set-order")
section
variable{prog:Program}{w:World}
def j3(prog:Program)(w:World)(h:Heap)(a:Addr)(ks:List Int):Prop :=
 ∃o es ep t,h.get? a=some o/\o.ExactSet/\o.data=.set es ep t/\ElemsOf (intKind prog w) es.toList/\(es.toList.map λe=>toI e.2).Perm ks/\ks.Nodup/\es.size<scanBound/\t.fits es.size=true/\Well (Led w) t
theorem j3.at{h h':Heap}{a:Addr}{ks:List Int}(x:j3 prog w h a ks)(k:∀o,h.get? a=some o->h'.get? a=some o):j3 prog w h' a ks:=by
 obtain⟨o,es,ep,t,e,r⟩:=x;exact⟨o,es,ep,t,k o e,r⟩
theorem Z2{e:Int×Value}{es:List (Int×Value)}(h:ElemsOf (intKind prog w) es)(he:e∈es):∃tk,e.2=.int (toI e.2) tk/\e.1=(intKind prog w).hash (toI e.2):=by
 obtain⟨⟨k,h1,h2⟩,_⟩:=h e he;obtain⟨t,ht⟩:=nJ (k:=k) (v:=e.2) h1;refine⟨t,by rw[ht];rfl,?_⟩;rw[h2,ht]
 rfl
theorem La{e:Int×Value}{es:List (Int×Value)}(h:ElemsOf (intKind prog w) es)(he:e∈es)(k:Int):(intKind prog w).is k e.2=decide (toI e.2=k):=by
 obtain⟨t,ht,_⟩:=Z2 h he;show Value.isInt k e.2=_;rw[ht];generalize toI e.2=m;show Value.isInt k (.int m t)=decide (m=k);by_cases z:m=k
 ·subst z;simp[Value.isInt]
 ·rw[aG z];cases hv:Value.isInt k (.int m t) with
  |false=>rfl
  |true =>
   obtain⟨t',e'⟩:=nJ hv;cases e';exact absurd rfl z
theorem j3.mem{a:Addr}{es:List (Int×Value)}{ks:List Int}(h:ElemsOf (intKind prog w) es)(hp:(es.map λe=>toI e.2).Perm ks)(k:Int):(es.findIdx? λe=>(intKind prog w).is k e.2).isSome=decide (k∈ks):=by
 rw[cq,bo,<- hp.mem_iff,aS,eL];constructor
 ·rintro⟨i,hi⟩;obtain⟨h1,h2,_⟩:=jX.mp hi;have hm:=dY h1;rw[La h hm] at h2;exact⟨_,hm,bC h2⟩
 ·rintro⟨e,he,rfl⟩;cases hf:es.findIdx? λe'=>(intKind prog w).is (toI e.2) e'.2 with
  |some i=>exact⟨i,rfl⟩
  |none =>
   have:=List.findIdx?_eq_none_iff.mp hf e he;rw[La h he] at this;simp at this
variable{A:Around}{E:Value->Shared->Prop}{s:Shared}
def C9(ks:List Int)(k:Int):List Int:=if k∈ks then ks else ks++[k]
theorem Kj(ks:List Int)(k:Int):(C9 ks k).length<=ks.length+1:=by unfold C9;split<;>simp
theorem Gx{a:Addr}{ks:List Int}{k:Int}{tk:Tok}{Q:Bool->Shared->Prop}(hS:j3 prog w s.heap a ks)(hr:ks.length+1<scanBound)(h:∀h' b,Heap.SameBut a s.heap h'->j3 prog w h' a (C9 ks k)->Q b { s with heap:=h' }):wpAny (model prog w) A (setAddHashed a (.int k tk) ((intKind prog w).hash k)) Q E s:=by
 obtain⟨o,es,ep,t,ho,hx,hd,iw,hp,hn,hb,hf,hw⟩:=hS;have hlen:es.size=ks.length:=by rw[<- hp.length_eq];simp
 have ou:(intKind prog w).is k (.int k tk)=true:=zA _ _ _ _;have gv:∀(b:Bool) (s1:Shared) (Q':Unit->Shared->Prop),Q' () s1->wpAny (model prog w) A (match b with|true=>rule "set.scan.the-table-gave-way"|false=>pure ()) Q' E s1:=λb s1 Q' q=>by
  cases b
  ·exact ah q
  ·exact fN q
 unfold setAddHashed setAddHashedIn;refine bq (aa (aV ho hd hf ?_));dsimp only;rw[byScan_of rfl hb iw,au rfl];unfold setAddByScan;refine aa (aa (fN (aa (wpAny_setScan_of ou ho hd hf iw ?_))));have hm:=j3.mem (a:=a) iw hp k;cases sH:es.toList.findIdx? (λe=>(intKind prog w).is k e.2) with
 |some j =>
  rw[sH] at hm;have hk:k∈ks:=by simpa using hm.symm
  refine ah (ah ?_);have e0:s={ s with heap:=s.heap }:=rfl;rw[e0];refine h s.heap _ (iB a s.heap) ?_;unfold C9;rw[au hk];exact⟨o,es,ep,t,ho,hx,hd,iw,hp,hn,hb,hf,hw⟩
 |none =>
  rw[sH] at hm;have hk:k∉ks:=by simpa using hm.symm
  dsimp only;have p1:=layNew_perm t es ((intKind prog w).hash k) (.int k tk);have f1:=layNew_fits t es ((intKind prog w).hash k) (.int k tk);obtain⟨w1,zL⟩:=ZZ (es:=es) (h:=(intKind prog w).hash k) (x:=.int k tk) hw;generalize layNew t es ((intKind prog w).hash k) (.int k tk)=R1 at p1 f1 w1 zL ⊢;obtain⟨gK,t1,wd,Of⟩:=R1;dsimp only at p1 f1 w1 zL ⊢;subst zL;rw[Array.toList_push] at p1;have FZ:ElemsOf (intKind prog w) gK.toList:=(iw.push ou rfl).perm p1;have sz1:gK.size=es.size+1:=by rw[<- bA,p1.length_eq];simp
  have k1:(gK.toList.map λe=>toI e.2).Perm (C9 ks k):=by
   unfold C9;rw[ax hk];refine(p1.map _).trans ?_;rw[az];exact hp.append_right _
  have n1:(C9 ks k).Nodup:=by
   unfold C9;rw[ax hk,cY];exact⟨hn,by simp,λx hx y hy=>by simp at hy;subst hy;exact λz=>hk (z▸hx)⟩
  refine aa (gv _ _ _ ?_);have fin:∀ (t2:SetTable),t2.fits gK.size=true->Well (Led w) t2->wpAny (model prog w) A (do
    storeSet a gK t2
    if(!false&&t2.tooFull)=true then do
      (match(relayAll t2 gK (SetTable.grown gK.size)).2.2 with|true=>rule "set.scan.the-table-gave-way"|false=>pure ())
      storeSet a (relayAll t2 gK (SetTable.grown gK.size)).1 (relayAll t2 gK (SetTable.grown gK.size)).2.1
      pure (some true)
     else pure (some true)) (λr s'=>wpAny (model prog w) A (match r with | some added=>pure added | none=>setAddHashedIn a (.int k tk) ((intKind prog w).hash k) 99999) Q E s') E s:=λt2 f2 w2=>by
   have g1:(s.heap.update a (Obj.putSet gK t2)).get? a=some { o with data:=.set gK (ep+1) t2 }:=by
    have:=aW (Obj.putSet gK t2) ho (by rw[kA gK t2 hd];rfl);rw[kA gK t2 hd] at this;exact this
   refine aa (eA ho hd ?_ (eB (by omega)));have EM:=bf s.heap a (Obj.putSet gK t2);split
   ·have p2:=relayAll_perm t2 gK (SetTable.grown gK.size);have f3:=relayAll_fits t2 gK (SetTable.grown gK.size);have w3:=XT (es:=gK) (n:=SetTable.grown gK.size) w2;generalize relayAll t2 gK (SetTable.grown gK.size)=R2 at p2 f3 w3 ⊢;obtain⟨rA,t3,gv2⟩:=R2;dsimp only at p2 f3 w3 ⊢;have sz2:rA.size=gK.size:=by rw[<- bA,p2.length_eq,bA]
    refine aa (gv _ _ _ ?_);refine aa (eA g1 rfl ?_ (eB (by omega)));refine ah (ah (h _ _ (EM.trans (bf _ a _)) ?_));have g2:((s.heap.update a (Obj.putSet gK t2)).update a (Obj.putSet rA t3)).get? a=some { o with data:=.set rA (ep+1+1) t3 }:=by
     have:=aW (Obj.putSet rA t3) g1 (by rw[kA rA t3 rfl];rfl);rw[kA rA t3 rfl] at this;exact this
    exact⟨_,rA,_,t3,g2,hx,rfl,FZ.perm p2,(p2.map _).trans k1,n1,by omega,f3,w3⟩
   ·exact ah (ah (h _ _ EM ⟨_,gK,_,t2,g1,hx,rfl,FZ,k1,n1,by omega,f1 |> λ_=>f2,w2⟩))
  split
  ·refine aa (dh (hashByValue_scannable 8 rfl) ?_);exact fin _ f1 w1
  ·refine aa (ah ?_);exact fin _ f1 w1
end
end ST

namespace ST
open PySem PyProof.Rows
theorem aE5:entryFor table "set.__iter__"=some Builtin.«frozenset.__iter__» :=
 zB (id':="frozenset.__iter__") (by kernel_rfl) rfl (by decide +kernel) (by kernel_rfl)
theorem A8:Slot "set_iterator" "__next__" "set_iterator.__next__" :=
 .of (owner:="set_iterator") (n:="__next__") (by rw[js,fL];kernel_rfl) (by decide +kernel) (by decide +kernel) (by decide +kernel)
  (by first|exact .inl (by decide +kernel)|exact .inr (by decide +kernel)) (by rw[eK];kernel_rfl)
theorem ID:entryFor table "set_iterator.__next__"=some Builtin.«set_iterator.__next__»:=entryFor_of_tree (by kernel_rfl)
theorem IL(a:Value):argsOk "set_iterator.__next__" ⟨[a],[]⟩:=by
 unfold argsOk
 kernel_rfl
theorem IS:Slot "set_iterator" "__iter__" "set_iterator.__iter__" :=
 .of (owner:="set_iterator") (n:="__iter__") (by rw[js,fL];kernel_rfl) (by decide +kernel) (by decide +kernel) (by decide +kernel)
  (by first|exact .inl (by decide +kernel)|exact .inr (by decide +kernel)) (by rw[eK];kernel_rfl)
theorem ZW:entryFor table "set_iterator.__iter__"=some Builtin.«dict_keyiterator.__iter__» :=
 zB (id':="dict_keyiterator.__iter__") (by kernel_rfl) rfl (by decide +kernel) (by kernel_rfl)
theorem aG4(a:Value):argsOk "set_iterator.__iter__" ⟨[a],[]⟩:=by
 unfold argsOk
 kernel_rfl
end ST

namespace ST
open PySem PyProof.Rows
inductive Rd|text|plain|drawn
structure Lies(h:Heap)(a:Addr)(es:Array (Int×Value))(ep:Nat)(t:SetTable):Prop where
 at_:∃o,h.get? a=some o/\o.cls=.type "set"/\o.data=.set es ep t
 fit:t.fits es.size=true
theorem Lies.at{h h':Heap}{a:Addr}{es:Array (Int×Value)}{ep:Nat}{t:SetTable}(x:Lies h a es ep t)(k:∀o,h.get? a=some o->h'.get? a=some o):Lies h' a es ep t :=
 ⟨let ⟨o,e,r⟩:=x.at_;⟨o,k o e,r⟩,x.fit⟩
def B6(h:Heap)(I a:Addr)(f:Value)(i n ep:Nat):Prop:=∃o,h.get? I=some o/\o.cls=.type "set_iterator"/\o.data=.fields #[f,rawInt i,.ref a,rawInt n,rawInt ep]
theorem B6.at{h h':Heap}{I a:Addr}{f:Value}{i n ep:Nat}(x:B6 h I a f i n ep)(k:∀o,h.get? I=some o->h'.get? I=some o):B6 h' I a f i n ep:=let ⟨o,e,r⟩:=x;⟨o,k o e,r⟩
theorem B6.ty{s:Shared}{I a:Addr}{f:Value}{i n ep:Nat}(x:B6 s.heap I a f i n ep):s.TypeIs (.ref I) "set_iterator":=let ⟨o,e,c,_⟩:=x;⟨o,e,c⟩
def wO(w:World)(a:Addr)(es:Array (Int×Value))(ep:Nat)(pl:List Nat):Rd->List Value
 |.text=>(pickOrder (w.params.setOrder a ep) es).toList.map (·.2)
 |.plain=>es.toList.map (·.2)
 |.drawn=>pl.map λj=>(es.getD j (0,.none)).2
def slotAt(t:SetTable):Nat->Nat
 |0=>0
 |i+1=>t.place.getD i 0+1
def O1(h:Heap)(t:SetTable)(b:Addr)(pl:List Nat)(i:Nat)(f:Value):Rd->Prop
 |.text=>∃k:Nat,f=rawInt k
 |.plain=>f=rawInt (slotAt t i)
 |.drawn=>f=.ref b/\∃o e,h.get? b=some o/\o.cls=.type "tuple"/\o.data=.seq (pl.map λj=>rawInt (j:Nat)).toArray e
def tD(w:World)(es:Array (Int×Value))(t:SetTable)(pl:List Nat):Rd->Prop
 |.text=>w.params.followText "set-order"=true
 |.plain=>w.params.followText "set-order"=false/\(t.plain=true\/es.size<=1)/\Well true t
 |.drawn=>w.params.followText "set-order"=false/\pl.Perm (List.range es.size)
section
variable{prog:Program}{w:World}{A:Around}{E:Value->Shared->Prop}{s:Shared}{a:Addr}{es:Array (Int×Value)}{ep:Nat}{t:SetTable}
theorem U4{Q:Bool->Shared->Prop}(h:Q (w.params.followText "set-order") s):wpAny (model prog w) A setsByText Q E s:=by
 unfold setsByText;exact aa (qc (ah h))
theorem Ic(hL:Lies s.heap a es ep t)(ht:w.params.followText "set-order"=true){sl g:Nat}{Q:Option (Value×Nat)->Shared->Prop}(h:Q (((pickOrder (w.params.setOrder a ep) es)[g]?).map λe=>(e.2,sl)) s) :
  wpAny (model prog w) A (setNext a sl g ep) Q E s:=by
 obtain⟨o,ho,_,hd⟩:=hL.at_;unfold setNext;refine aa (aV ho hd hL.fit ?_);refine aa (U4 ?_);rw[ht,au rfl,ax (by simp)];unfold setWalk;refine aa (aa (aV ho hd hL.fit ?_));refine aa (U4 ?_);rw[ht,au rfl];exact aa (qc (ah (ah h)))
theorem Iv(hL:Lies s.heap a es ep t)(ht:w.params.followText "set-order"=false)(hp:t.plain=true\/es.size<=1)(hl:t.led=true){sl g:Nat}{Q:Option (Value×Nat)->Shared->Prop}(h:Q (match es[SetTable.below t.place sl]?,t.place[SetTable.below t.place sl]? with|some (_,x),some j=>some (x,j+1)|_,_=>none) s):wpAny (model prog w) A (setNext a sl g ep) Q E s:=by
 obtain⟨o,ho,_,hd⟩:=hL.at_;unfold setNext;refine aa (aV ho hd hL.fit ?_);refine aa (U4 ?_);rw[ht,ax (by decide)];show wpAny _ _ (if(!t.plain&&decide (es.size>1))=true then _ else _) _ _ _;rw[ax (by rcases hp with e|e<;>simp[e])];refine aa (dh (a:=()) ?_ (ah h));show((if(!t.led&&!es.isEmpty)=true then unsupported "set:maker-not-led" else pure ()):Sem Unit)=pure ();rw[hl]
 rfl
theorem Zz(hL:Lies s.heap a es ep t){j:Nat}(hj:j<es.size){Q:Value->Shared->Prop}(h:Q (es.getD j (0,.none)).2 s):wpAny (model prog w) A (setNextDrawn a j ep) Q E s:=by
 obtain⟨o,ho,_,hd⟩:=hL.at_;unfold setNextDrawn;refine aa (aV ho hd hL.fit ?_);dsimp only;rw[ax (by simp)];have e:es[j]?=some (es.getD j (0,.none)):=by simp[Array.getD,hj]
 rw[e];exact ah h
end
end ST

namespace ST
open PySem PyProof.Rows
section
variable{prog:Program}{w:World}{A:Around}{E:Value->Shared->Prop}{s:Shared}{a I b:Addr}{es:Array (Int×Value)}{ep:Nat}{t:SetTable}{pl:List Nat}
theorem KS(hL:Lies s.heap a es ep t):t.place.size=es.size:=by
 have:=hL.fit;unfold SetTable.fits at this;simp at this;exact this.1
theorem Ij(hw:ke t.place){i:Nat}(hi:i<=t.place.size):SetTable.below t.place (slotAt t i)=i:=by
 cases i with
 |zero=>exact Zk hw
 |succ i=>exact Zj hw (by omega)
theorem entries{Q:Array (Int×Value)->Shared->Prop}(hL:Lies s.heap a es ep t)(h:Q es s):wpAny (model prog w) A (setEntries a) Q E s:=by
 obtain⟨o,ho,_,hd⟩:=hL.at_;unfold setEntries;exact aa (aV ho hd hL.fit (ah h))
theorem Tp{f f':Value}{i n:Nat}{h:Heap}(hi:B6 h I a f i n ep){x:Value}(hx:x=rawInt ((i:Int)+1)):B6 ((h.update I (Obj.mapFields (·.setIfInBounds 0 f'))).update I (Obj.mapFields (·.setIfInBounds 1 x))) I a f' (i+1) n ep:=by
 obtain⟨o,ho,hc,hd⟩:=hi;have h1:=aW (Obj.mapFields (·.setIfInBounds 0 f')) ho (cC (bj hd _));have d1:(Obj.mapFields (·.setIfInBounds 0 f') o).data=.fields #[f',rawInt i,.ref a,rawInt n,rawInt ep]:=by rw[bj hd];simp
 have h2:=aW (Obj.mapFields (·.setIfInBounds 1 x)) h1 (cC (bj d1 _));refine⟨_,h2,(nL ..).trans ((nL ..).trans hc),?_⟩;rw[bj d1];subst hx;simp[rawInt]
theorem To{f:Value}{i n:Nat}{h:Heap}(hi:B6 h I a f i n ep){x:Value}(hx:x=rawInt ((i:Int)+1)):B6 (h.update I (Obj.mapFields (·.setIfInBounds 1 x))) I a f (i+1) n ep:=by
 obtain⟨o,ho,hc,hd⟩:=hi;have h2:=aW (Obj.mapFields (·.setIfInBounds 1 x)) ho (cC (bj hd _));refine⟨_,h2,(nL ..).trans hc,?_⟩;rw[bj hd];subst hx;simp[rawInt]
theorem Gj{α:Type}{f f' x:Value}{i n:Nat}{m:Sem α}{Q':α->Shared->Prop}(hi:B6 s.heap I a f i n ep)(hx:x=rawInt ((i:Int)+1))(h:∀h',B6 h' I a f' (i+1) n ep->Heap.SameBut I s.heap h'->wpAny (model prog w) A m Q' E { s with heap:=h' }) :
  wpAny (model prog w) A (do setField (.ref I) 0 f';setField (.ref I) 1 x;m) Q' E s:=by
 obtain⟨o,ho,hc,hd⟩:=id hi;refine aa (cU ho hd (by simp) ?_);have h1:=aW (Obj.mapFields (·.setIfInBounds 0 f')) ho (cC (bj hd _));have d1:(Obj.mapFields (·.setIfInBounds 0 f') o).data=.fields #[f',rawInt i,.ref a,rawInt n,rawInt ep]:=by rw[bj hd];simp
 refine aa (cU (s:={ s with heap:=_ }) h1 d1 (by simp) ?_);exact h _ (Tp hi hx) ((bf ..).trans (bf ..))
theorem Up{α:Type}{f x:Value}{i n:Nat}{m:Sem α}{Q':α->Shared->Prop}(hi:B6 s.heap I a f i n ep)(hx:x=rawInt ((i:Int)+1))(h:∀h',B6 h' I a f (i+1) n ep->Heap.SameBut I s.heap h'->wpAny (model prog w) A m Q' E { s with heap:=h' }) :
  wpAny (model prog w) A (do setField (.ref I) 1 x;m) Q' E s:=by
 obtain⟨o,ho,hc,hd⟩:=id hi;refine aa (cU ho hd (by simp) ?_);exact h _ (To hi hx) (bf ..)
theorem zo{α:Type}(next:Nat->Nat)(xs:Array α):(pickOrder next xs).toList.Perm xs.toList:=by
 have go:∀(fuel k:Nat) (left:List α) (out:Array α),fuel=left.length->(pickOrder.go next fuel k left out).toList.Perm (out.toList++left):=by
  intro fuel
  induction fuel with
  |zero =>
   intro k left out e;have:left=[]:=dC e.symm;subst this;simp[pickOrder.go]
  |succ n ih =>
   intro k left out e;have dQ:next k % left.length<left.length:=Nat.mod_lt _ (by omega)
   unfold pickOrder.go;rw[ao dQ];refine(ih _ _ _ (by rw[nM dQ];omega)).trans ?_;rw[Array.toList_push,kn];refine List.Perm.append_left _ ?_;have:left.Perm (left[next k % left.length]::left.eraseIdx (next k % left.length)):=by
    rw[kB]
    conv=>lhs;rw[<- xy (next k % left.length) left,pv dQ]
    exact List.perm_middle
   exact this.symm
 have:=go xs.size 0 xs.toList #[] (by simp);simpa[pickOrder] using this
theorem next_item{r:Rd}{i:Nat}{f:Value}{Q:Option Value->Shared->Prop}(hL:Lies s.heap a es ep t)(hr:tD w es t pl r)(hi:B6 s.heap I a f i es.size ep)(hf:O1 s.heap t b pl i f r)(dW:b≠I)(dQ:i<es.size)(h:∀v h' f',(wO w a es ep pl r)[i]?=some v->B6 h' I a f' (i+1) es.size ep->O1 h' t b pl (i+1) f' r->Heap.SameBut I s.heap h'->Q (some v) { s with heap:=h' }):wpAny (model prog w) A (pyNext (.ref I)) Q E s:=by
 obtain⟨o,ho,hc,hd⟩:=id hi;unfold pyNext;refine aa (Ln (dH (name:=Str.ofString "__next__") hi.ty A8 (bY A8 hi.ty ID ?_ (IL _))));unfold Builtin.«set_iterator.__next__»;refine aa (ah ?_);refine aa (wpAny_fieldsOf ho hd ?_);dsimp only[rawInt];refine aa (entries hL ?_);rw[ax (by simp)];rw[bO,bO];cases r with
 |text =>
  obtain⟨k,rfl⟩:=hf;dsimp only[rawInt];refine aa (Ic hL hr ?_);have hl:i<(pickOrder (w.params.setOrder a ep) es).size:=by
   have:=(zo (w.params.setOrder a ep) es).length_eq;simp at this;omega
  rw[cO hl];refine Gj hi rfl λh' h1 h2=>ah ⟨_,rfl,ah (h _ _ _ ?_ h1 ⟨_,rfl⟩ h2)⟩;show((pickOrder (w.params.setOrder a ep) es).toList.map (·.2))[i]?=_;simp[hl]
 |plain =>
  obtain⟨r1,r2,r3⟩:=hr;have hs:=KS hL;obtain rfl:=hf;dsimp only[rawInt];rw[bO];refine aa (Iv hL r1 r2 r3.led ?_);rw[Ij r3.su (by omega),cO dQ,getD_mem (by omega)];refine Gj hi rfl λh' h1 h2=>ah ⟨_,rfl,ah (h _ _ _ ?_ h1 rfl h2)⟩;show(es.toList.map (·.2))[i]?=_;simp[dQ]
 |drawn =>
  obtain⟨r1,r2⟩:=hr;obtain⟨rfl,ob,e,hb,FH,xR⟩:=hf;have gu:i<pl.length:=by rw[r2.length_eq];simpa using dQ
  dsimp only;refine aa (wpAny_seqItems hb xR ?_);have hj:pl[i]<es.size:=by
   have:=r2.mem_iff.mp (dY gu);simpa using this
  have e1:(pl.map λj=>rawInt (j:Nat)).toArray[i]?=some (rawInt (pl[i]:Nat)):=by simp[gu]
  dsimp only;rw[e1];dsimp only[rawInt];rw[bO];refine aa (Zz hL hj ?_);refine Up hi rfl λh' h1 h2=>ah ⟨_,rfl,ah (h _ _ _ ?_ h1 ⟨rfl,ob,e,by rw[h2.2 b dW];exact hb,FH,xR⟩ h2)⟩;show(pl.map λj=>(es.getD j (0,.none)).2)[i]?=_;simp[gu]
theorem CK{Q:Option Value->Shared->Prop}{I:Addr}{h0:Heap}(hh:A.handled=none)(Oa:Heap.ExtBut I h0 s.heap)(h:∀h',Heap.ExtBut I h0 h'->Q none { s with heap:=h' }) :
  wpAny (model prog w) A.in1 (newExc (.type "StopIteration") [] >>= λe=>(raiseNew e:Sem Fin)) (λfin s'=>∃v,fin=Fin.done (Flow.ret v)/\wpAny (model prog w) A (pure (some v)) Q E s')
   (λe s'=>wpAny (model prog w) A (do
     let x <- isInstance e (Value.type "StopIteration")
     if x=true then pure none else throw e) Q E s') s:=by
 refine aa ?_;simp only[newExc,newTuple];refine aa (bT ?_ (by size_fits));refine aa (m:=firstArgMember _ _) (dh (a:=Value.none) (by first|rfl|(simp only[firstArgMember];rfl)) ?_);refine bT ?_ (by size_fits);simp only[raiseNew];refine aa (wpAny_handled ?_);rw[show A.in1.handled=none from hh];refine aa (ah (wpAny_throw ?_));refine aa (eT (T:="StopIteration") (b:=true) ⟨_,aF _ rfl,rfl⟩ isSubtype_stop ?_);exact ah (h _ ((Oa.push _).push _))
theorem next_end{r:Rd}{f:Value}{Q:Option Value->Shared->Prop}(hh:A.handled=none)(hL:Lies s.heap a es ep t)(hr:tD w es t pl r)(hi:B6 s.heap I a f es.size es.size ep)(hf:O1 s.heap t b pl es.size f r)(dW:b≠I)(h:∀h',Heap.ExtBut I s.heap h'->Q none { s with heap:=h' }):wpAny (model prog w) A (pyNext (.ref I)) Q E s:=by
 obtain⟨o,ho,hc,hd⟩:=id hi;unfold pyNext;refine aa (Ln (dH (name:=Str.ofString "__next__") hi.ty A8 (bY A8 hi.ty ID ?_ (IL _))));unfold Builtin.«set_iterator.__next__»;refine aa (ah ?_);refine aa (wpAny_fieldsOf ho hd ?_);dsimp only[rawInt];refine aa (entries hL ?_);rw[ax (by simp)];rw[bO,bO];cases r with
 |text =>
  obtain⟨k,rfl⟩:=hf;dsimp only[rawInt];refine aa (Ic hL hr ?_);have hl:(pickOrder (w.params.setOrder a ep) es).size<=es.size:=by
   have:=(zo (w.params.setOrder a ep) es).length_eq;simp at this;omega
  rw[uh hl];refine aa (cU ho hd (by simp) ?_);exact CK (s:={ s with heap:=_ }) hh (bf ..).extBut h
 |plain =>
  obtain⟨r1,r2,r3⟩:=hr;have hs:=KS hL;obtain rfl:=hf;dsimp only[rawInt];rw[bO];refine aa (Iv hL r1 r2 r3.led ?_);rw[Ij r3.su (by omega),uh (aj _)];refine aa (cU ho hd (by simp) ?_);exact CK (s:={ s with heap:=_ }) hh (bf ..).extBut h
 |drawn =>
  obtain⟨r1,r2⟩:=hr;obtain⟨rfl,ob,e,hb,FH,xR⟩:=hf;have gu:pl.length=es.size:=by rw[r2.length_eq];simp
  dsimp only;refine aa (wpAny_seqItems hb xR ?_);have e1:(pl.map λj=>rawInt (j:Nat)).toArray[es.size]?=none:=by simp[gu]
  dsimp only;rw[e1];dsimp only[rawInt];refine aa (cU ho hd (by simp) ?_);have h1:=aW (Obj.mapFields (·.setIfInBounds 0 (Value.int 0 0))) ho (cC (bj hd _));refine aa (cU (s:={ s with heap:=_ }) h1 (bj hd _) (by simp) ?_);exact CK (s:={ s with heap:=_ }) hh ((bf ..).trans (bf ..)).extBut h
end
end ST

namespace ST
open PySem PyProof.Rows
section
variable{prog:Program}{w:World}{A:Around}{E:Value->Shared->Prop}{s:Shared}{a I b:Addr}{es:Array (Int×Value)}{ep:Nat}{t:SetTable}{pl:List Nat}
theorem YG{α:Type}{l:List α}{k:Nat}(dQ:k<l.length):(l[k]::l.eraseIdx k).Perm l:=by
 rw[kB]
 conv=>rhs;rw[<- xy k l,pv dQ]
 exact List.perm_middle.symm
theorem Di{α:Type}:∀(n:Nat) (xs:List α) (s:Shared) (Q:List α->Shared->Prop),n=xs.length->(∀ys d,ys.Perm xs->Q ys { s with drawn:=d })->wpAny (model prog w) A (drawOrder n xs) Q E s
 |0,xs,s,Q,e,h=>by
  have:xs=[]:=dC e.symm;subst this;exact ah (h [] s.drawn (gi _))
 |n+1,[],s,Q,e,h=>by simp at e
 |n+1,x::xs,s,Q,e,h=>by
  unfold drawOrder;refine aa ?_;intro Γ p hΓ;refine⟨by simp,?_⟩;generalize (model prog w).w.draws .order (s.drawn.get .order)=k;have dQ:k % (x::xs).length<(x::xs).length:=Nat.mod_lt _ (by simp);have go:wpAny (model prog w) A (match (x :: xs)[k % (x :: xs).length]? with
   |some y=>do
    let ys <- drawOrder n ((x::xs).eraseIdx (k % (x::xs).length))
    pure (y::ys)
   | none=>unsupported "internal:drawOrder") Q E { s with drawn:=s.drawn.bump .order }:=by
   rw[ao dQ];refine aa (Di n _ _ _ (by rw[nM dQ];simp at e ⊢;omega) λys d hp=>ah ?_);exact h _ d ((List.Perm.cons _ hp).trans (YG dQ))
  exact go
theorem KG{r:Rd}(hr:tD w es t pl r):(wO w a es ep pl r).Perm (es.toList.map (·.2)):=by
 cases r with
 |text=>exact(zo _ es).map _
 |plain=>exact gi _
 |drawn =>
  refine(hr.2.map _).trans ?_;have:(List.range es.size).map (λj=>(es.getD j (0,.none)).2)=es.toList.map (·.2):=by
   apply List.ext_getElem
   ·simp
   ·intro i h1 h2;simp at h1;simp[Array.getD,h1]
  rw[this]
theorem Lies.ty(hL:Lies s.heap a es ep t):s.TypeIs (.ref a) "set":=let ⟨o,e,c,_⟩:=hL.at_;⟨o,e,c⟩
theorem a43(hL:Lies s.heap a es ep t)(hw:Well (Led w) t)(hz:es.size<=10000){Q:Value->Shared->Prop}(h:∀r pl b f I h' d',tD w es t pl r->B6 h' I a f 0 es.size ep->O1 h' t b pl 0 f r->b≠I->(b=a\/s.heap.objs.size<=b)->(∀c o,s.heap.get? c=some o->h'.get? c=some o)->s.heap.objs.size<=I->s.heap.objs.size<=h'.objs.size->Q (.ref I) { s with heap:=h',drawn:=d' }) :
  wpAny (model prog w) A (pyIter (.ref a)) Q E s:=by
 obtain⟨o,ho,Av,hd⟩:=hL.at_;refine wpAny_pyIter_slot hL.ty F.slot_set_iter (bY F.slot_set_iter hL.ty aE5 ?_ (F.args_set_iter_1 _));unfold Builtin.«frozenset.__iter__»;refine aa (ah ?_);unfold Builtin.Frozenset.sizeOf;refine aa (aa (entries hL (ah ?_)));unfold setDrawn;refine aa (aa (aV ho hd hL.fit ?_));refine aa (U4 (ah ?_));have dQ:=aB ho;have fin:∀(r:Rd) (f:Value) (b:Addr) (pl:List Nat) (h1:Heap) (d1:Drawn),tD w es t pl r->(∀h',(∀c o,h1.get? c=some o->h'.get? c=some o)->O1 h' t b pl 0 f r)->b<h1.objs.size->(b=a\/s.heap.objs.size<=b)->(∀c o,s.heap.get? c=some o->h1.get? c=some o)->s.heap.objs.size<=h1.objs.size ->
   wpAny (model prog w) A.in1 (do
    let e <- setEpoch a
    ret (<- newFields "set_iterator" [f,rawInt 0,.ref a,rawInt es.size,rawInt e])) (λfin s'=>∃ v,fin=Fin.done (Flow.ret v)/\∃ T' r,s'.TypeIs v T'/\typeLookup (.type T') "__next__"=pure (some r)/\Q v s') E { s with heap:=h1,drawn:=d1 }:=λr f b pl h1 d1 hr hf hb Nn he hsz=>by
  have sV:Lies h1 a es ep t:=hL.at λo e=>he a o e;obtain⟨o1,ML,_,Nh⟩:=sV.at_;unfold setEpoch;refine aa (aa (aV (s:={ s with heap:=h1,drawn:=d1 }) ML Nh sV.fit (ah ?_)));refine aa (bT (ah ⟨_,rfl,"set_iterator",_,⟨_,aF _ rfl,rfl⟩,A8.lookup,?_⟩));refine h r pl b f h1.objs.size _ d1 hr ⟨_,aF _ rfl,rfl,rfl⟩ (hf _ λc o e=>ai _ e) (aR hb) Nn (λc o e=>ai _ (he c o e)) hsz (by rw[xo];exact Nat.le_succ_of_le hsz)
 have e0:s={ s with heap:=s.heap,drawn:=s.drawn }:=rfl;cases hT:w.params.followText "set-order" with
 |true =>
  dsimp only[Bool.not_true,Bool.false_and];rw[ax (by simp)];refine aa (ah ?_);rw[e0];exact fin .text (rawInt 0) a [] s.heap s.drawn hT (λh' _=>⟨0,rfl⟩) dQ (.inl rfl) (λc o e=>e) (aj _)
 |false =>
  show wpAny _ _ (if(!false&&(!t.plain&&decide (es.size>1)))=true then _ else _ ) _ _ _;by_cases hp:t.plain=true\/es.size<=1
  ·rw[ax (by rcases hp with e|e<;>simp[e])];refine aa (ah ?_);rw[e0];refine fin .plain (rawInt 0) a [] s.heap s.drawn ⟨hT,hp,?_⟩ (λh' _=>rfl) dQ (.inl rfl) (λc o e=>e) (aj _);have:Led w=true:=by unfold Led;rw[hT];rfl
   rw[<- this];exact hw
  ·have h1:t.plain=false:=by cases hq:t.plain with|true=>exact absurd (.inl hq) hp|false=>rfl
   have h2:¬es.size<=1:=λz=>hp (.inr z);rw[au (by simp[h1];omega)];refine aa (Di _ _ _ _ (kj).symm λys d hy=>?_);have hl:ys.length=es.size:=by rw[hy.length_eq];simp
   refine aa (bT ?_ (by show(List.map _ ys).toArray.size<=sizeLine;rw[ay,ak,hl];exact aM hz (by decide)));refine fin .drawn (.ref s.heap.objs.size) s.heap.objs.size ys _ d ⟨hT,hy⟩ (λh' hk=>⟨rfl,_,_,hk _ _ (aF _ rfl),rfl,rfl⟩) (by rw[xo];exact fq _) (.inr (aj _)) (λc o e=>ai _ e) (by rw[xo];exact lK _)
theorem YX(hh:A.handled=none){r:Rd}(hr:tD w es t pl r)(dW:b≠I)(MM:a≠I) :
  Walks prog w A I [I,a,b] [I] es.size (λi v=>(wO w a es ep pl r)[i]?=some v) (λi h=>Lies h a es ep t/\∃f,B6 h I a f i es.size ep/\O1 h t b pl i f r) where
 sub:=λc hc=>by simp at hc;simp[hc]
 frame:=λi h h' st hk=>by
  obtain⟨hL,f,hi,hf⟩:=st;refine⟨hL.at λo e=>hk a (by simp) o e,f,hi.at λo e=>hk I (by simp) o e,?_⟩;cases r with
  |text=>exact hf
  |plain=>exact hf
  |drawn =>
   obtain⟨e1,o,e,h1,h2⟩:=hf;exact⟨e1,o,e,hk b (by simp) o h1,h2⟩
 item:=λi s Q E hi st hQ=>by
  obtain⟨hL,f,hI,hf⟩:=st;exact next_item hL hr hI hf dW hi λv h' f' hv h1 h2 h3=>hQ v h' s.toks hv ⟨hL.at λo e=>by rw[h3.2 a MM];exact e,f',h1,h2⟩ λc o hc e=>h3.extBut c o (λz=>hc (by simp[z])) e
 done:=λs Q E st hQ=>by
  obtain⟨hL,f,hI,hf⟩:=st;exact next_end hh hL hr hI hf dW λh' he=>hQ h' s.toks λc o hc e=>he c o (λz=>hc (by simp[z])) e
 self:=λi s Q E st hQ=>by
  obtain⟨hL,f,hI,hf⟩:=st;refine wpAny_pyIter_slot hI.ty IS (bY IS hI.ty ZW ?_ (aG4 _));exact aa (ah (ah ⟨_,rfl,"set_iterator",_,hI.ty,A8.lookup,hQ⟩))
end
end ST

namespace ST
open PySem PyProof.Rows
theorem aD3:typeLookup (.type "set") "__len__"=pure (some (.builtin "set.__len__")):=by rw[js,fL];kernel_rfl
section
variable{prog:Program}{w:World}{A:Around}{E:Value->Shared->Prop}{s:Shared}{a I b:Addr}{es:Array (Int×Value)}{ep:Nat}{t:SetTable}{pl:List Nat}
theorem aG9(hh:A.handled=none)(hL:Lies s.heap a es ep t)(hw:Well (Led w) t)(hz:es.size<=10000){Q:List Value->Shared->Prop}(h:∀(vs:List Value) h' d' mj,vs.Perm (es.toList.map (·.2))->(∀c o,s.heap.get? c=some o->h'.get? c=some o)->s.heap.objs.size<=h'.objs.size->s.toks<=mj->Q vs { s with heap:=h',drawn:=d',toks:=mj }) :
  wpAny (model prog w) A (collect (.ref a)) Q E s:=by
 have dQ:a<s.heap.objs.size:=let ⟨o,ho,_⟩:=hL.at_;aB ho
 unfold collect;refine aa (wpAny_runValue (fc F.entry_proto_collect ?_));rw[eM F.plain_proto_collect _];show wpAny _ A.in1 (newList [] >>= λl=>again (.builtin "list.__iadd__" ⟨[l,.ref a],[]⟩)) _ _ s;refine aa (bT ?_);refine ah ⟨lI F.plain_list_iadd _,fc F.entry_list_iadd ?_⟩;rw[eM F.plain_list_iadd _];have sV:Lies (s.heap.push { cls:=.type "list",data:=.seq ([]:List Value).toArray }) a es ep t:=hL.at λo e=>ai _ e;have xW:(s.heap.push { cls:=.type "list",data:=.seq ([]:List Value).toArray }).get? s.heap.objs.size=some { cls:=.type "list",data:=.seq ([]:List Value).toArray }:=aF _ rfl;have dW:s.heap.objs.size≠a:=cB dQ;have h1:Builtin.List.listSameRef (.ref s.heap.objs.size) (.ref a)=false:=by simp[Builtin.List.listSameRef,dW]
 show wpAny _ A.in1 (Builtin.List.listExtendWith (.ref s.heap.objs.size) (.ref a) (.ref s.heap.objs.size)) _ _ _;unfold Builtin.List.listExtendWith;refine aa (dP (Lies.ty (s:={ s with heap:=_ }) sV) ?_);rw[ax (by rw[h1];decide)];refine aa (a43 (s:={ s with heap:=_ }) sV hw hz λr pl b f I h2 d2 hr hI hf hb Nk he Bd h2z=>?_);have xX:Lies h2 a es ep t:=sV.at λo e=>he a o e;have rf:=he _ _ xW;refine aa (bq ?_);unfold Builtin.List.listLengthHint;refine aa (wpAny_specialOf (Lies.ty (s:={ s with heap:=h2,drawn:=d2 }) xX) aD3 ?_);generalize Fz:("set.__len__":String)=My;dsimp only;rw[show splitId My=some ("set","__len__") from by subst Fz;decide +kernel];dsimp only;refine aa (eT (b:=true) (Lies.ty (s:={ s with heap:=h2,drawn:=d2 }) xX) (by rw[eK];kernel_rfl) ?_);rw[ax (by decide)];subst Fz;rw[au (by decide +kernel)];refine aa (dP (Lies.ty (s:={ s with heap:=h2,drawn:=d2 }) xX) ?_);refine ah ?_;rw[au (by decide +kernel)];refine aa (fN ?_);refine aa ?_;show wpAny _ A.in1 (updateSeq s.heap.objs.size (·.push .none) >>= λ_=>updateSeq s.heap.objs.size (·.pop)) _ _ _;refine aa (wpAny_updateSeq (s:={ s with heap:=h2,drawn:=d2 }) rf rfl ?_);have xV:=aW (Obj.mapSeq (·.push Value.none)) rf rfl;refine wpAny_updateSeq (s:={ s with heap:=_,drawn:=d2 }) xV rfl ?_;have Nv:=aW (Obj.mapSeq (·.pop)) xV rfl;have qG:∀c o,c≠s.heap.objs.size->h2.get? c=some o->((h2.update s.heap.objs.size (Obj.mapSeq (·.push Value.none))).update s.heap.objs.size (Obj.mapSeq (·.pop))).get? c=some o :=
  λc o hc e=>(bx _ _ (aL hc)).trans ((bx _ _ (aL hc)).trans e)
 have sD:s.heap.objs.size<(s.heap.push { cls:=.type "list",data:=.seq ([]:List Value).toArray }).objs.size:=by rw[xo];exact fq _
 have hSI:I≠s.heap.objs.size:=cB (av sD Bd);have hSb:b≠s.heap.objs.size:=by
  rcases Nk with z|z
  ·rw[z];exact aL dW
  ·exact cB (av sD z)
 have W:=(YX (prog:=prog) (w:=w) (A:=A.in1) (a:=a) (b:=b) (I:=I) (es:=es) (ep:=ep) (t:=t) (pl:=pl) hh hr hb (aR (av (cX dQ sD) Bd))).toS;have st:Lies h2 a es ep t/\∃f,B6 h2 I a f 0 es.size ep/\O1 h2 t b pl 0 f r:=⟨xX,f,hI,hf⟩
 have nW:=W.frame 0 ({ s with heap:=h2,drawn:=d2 }:Shared) _ s.toks st (aj _) λc hc o e=>qG c o (λz=>by simp at hc;rcases hc with y|y|y<;>simp_all) e;refine ah ⟨lI F.plain_extend_loop _,codeAny_extend_loopS W (aM hz (by decide)) _ (λz=>by simp at z;rcases z with y|y|y<;>simp_all) _ es.size 0 _ _ _ rfl (cI _) nW Nv (ItemsOf.nil _) λs' xb c' hm nz ow=>?_⟩;show wpAny _ A (load s.heap.objs.size >>= _) _ _ s';refine aa (wpAny_load nz ?_);refine ah ?_;have eS:s'={ s with heap:=s'.heap,drawn:=d2,toks:=s'.toks }:=by
  obtain⟨lj,g',d',mj,uF⟩:=s';have m1:g'=s.gens:=hm.gens;have m2:d'=d2:=hm.drawn;have m3:uF=s.os:=hm.os;subst m1;subst m2;subst m3
  rfl
 have eo:xb.toList=wO w a es ep pl r:=by
  have l1:(wO w a es ep pl r).length=es.size:=by rw[(KG hr).length_eq];simp
  apply List.ext_getElem
  ·rw[l1];simpa using ow.1
  ·intro i h1 h2;have:=ow.2 i xb.toList[i] (by simp at h1 ⊢);dsimp only at this;rw[ao h2] at this;exact(aO this).symm
 rw[eo,eS];refine h _ _ d2 s'.toks (KG hr) (λc o e=>?_) (dX (aB nz)) hm.toks;have hc:c<s.heap.objs.size:=aB e;have n1:c≠s.heap.objs.size:=aR hc;have n2:c≠I:=aR (av (cX hc sD) Bd);exact hm.heap c o (by simp[n1,n2]) (qG c o n1 (he c o (ai _ e)))
theorem ZH{ks:List Int}(hh:A.handled=none)(hS:j3 prog w s.heap a ks)(FR:ks.length<64){Q:Value->Shared->Prop}(h:∀(S:Addr) (vs:List Value) (ns:List Int) e h' d' mj,IntsAre vs ns->ns.Perm ks->ns.Pairwise (·<=·)->h'.get? S=some (seqObj "list" vs.toArray e)->s.heap.objs.size<=S->(∀c o,s.heap.get? c=some o->h'.get? c=some o)->s.toks<=mj->Q (.ref S) { s with heap:=h',drawn:=d',toks:=mj }) :
  wpAny (model prog w) A (call (.builtin "sorted") [.ref a]) Q E s:=by
 obtain⟨o,es,ep,t,ho,hx,hd,iw,hp,hn,hb,hf,hw⟩:=hS;have hL:Lies s.heap a es ep t:=⟨⟨o,ho,hx.1,hd⟩,hf⟩
 have hz:es.size=ks.length:=by rw[<- hp.length_eq];simp
 refine Calls.call_function_entry kind_sorted plain_sorted entry_sorted (args_sorted1 _) ?_;unfold Builtin.«sorted»;refine aa (m:=checkCount "sorted" 1 1 _) (ah ?_);refine aa (aG9 (A:=A.in1) hh hL hw (by omega) λvs h1 d1 zN hv he sD xK=>?_);have hI:IntsAre vs (vs.map toI):=by
  have all:∀v∈vs,∃tk,v=.int (toI v) tk:=λv Am=>by
   obtain⟨e,vC,rfl⟩:=aS.mp (hv.mem_iff.mp Am);obtain⟨tk,h1,_⟩:=Z2 iw vC;exact⟨tk,h1⟩
  clear hv
  induction vs with
  |nil=>exact .nil
  |cons v r ih =>
   obtain⟨tk,e⟩:=all v (by simp);have:=IntsAre.cons (toI v) tk (ih λu hu=>all u (by simp[hu]));rw[<- e] at this;exact this
 have hk:(vs.map toI).Perm ks:=by
  refine(hv.map toI).trans ?_;rw[uc];exact hp
 have hl:vs.length<64:=by rw[hv.length_eq];simp;omega
 refine aa (wpAny_newList (s:={ s with heap:=h1,drawn:=d1,toks:=zN }) ?_);have vh:(h1.push (seqObj "list" vs.toArray 0)).get? h1.objs.size=some (seqObj "list" vs.toArray 0):=aF _ rfl;refine aa (bq (bY (s:={ s with heap:=h1.push (seqObj "list" vs.toArray 0),drawn:=d1,toks:=zN }) slot_list_sort ⟨_,vh,rfl⟩ entry_list_sort (list_sort_tree vh hI hl λout zZ a1 a2 a3=>⟨_,rfl,?_⟩) (args_list_sort _)));obtain⟨e,vC⟩:=sortedHeap_at (vs:=vs) (out:=out) vh;refine ah ⟨_,rfl,h h1.objs.size out.toList zZ e _ d1 zN a1 (a2.trans hk) a3 vC sD (λc o' e'=>?_) xK⟩;have hc:=aB (he c o' e');rw[sortedHeap_old (aR hc) (by rw[xo];exact Nat.lt_succ_of_lt hc)];exact ai _ (he c o' e')
end
end ST

namespace ST
open PySem PyProof.Rows
def i4(ks xs:List Int):List Int:=xs.foldl C9 ks
theorem E7:∀(xs ks:List Int),(i4 ks xs).length<=ks.length+xs.length
 |[],ks=>by simp[i4]
 |x::xs,ks=>by
  have:=E7 xs (C9 ks x);have h2:=Kj ks x;show(i4 (C9 ks x) xs).length<=_;simp only[List.length_cons];omega
theorem E3:∀(xs ks:List Int) (k:Int),k∈i4 ks xs↔k∈ks\/k∈xs
 |[],ks,k=>by simp[i4]
 |x::xs,ks,k=>by
  show k∈i4 (C9 ks x) xs↔_;rw[E3 xs];unfold C9;split
  ·rename_i h;constructor
   ·rintro(a|a)
    ·exact .inl a
    ·exact .inr (by simp[a])
   ·rintro(a|a)
    ·exact .inl a
    ·rcases aI.mp a with rfl|b
     ·exact .inl h
     ·exact .inr b
  ·simp[or_assoc]
theorem U8:∀(xs ks:List Int),ks.Nodup->(i4 ks xs).Nodup
 |[],ks,h=>h
 |x::xs,ks,h=>by
  show(i4 (C9 ks x) xs).Nodup;refine U8 xs _ ?_;unfold C9;split
  ·exact h
  ·rename_i hk;rw[cY];exact⟨h,by simp,λa ha b hb=>by simp at hb;subst hb;exact λz=>hk (z▸ha)⟩
section
variable{prog:Program}{w:World}{A:Around}{E:Value->Shared->Prop}{s:Shared}{a:Addr}
theorem Im:Well (Led w) (SetTable.fresh 0 0 (Led w)):=⟨by simp[ke,SetTable.fresh],rfl,rfl⟩
theorem HR{h:Heap}(e:h.get? a=some { cls:=.type "set",dict:=none,data:=.set #[] 0 (.fresh 0 0 (Led w)) }):j3 prog w h a [] :=
 ⟨_,#[],0,_,e,⟨rfl,rfl,rfl⟩,rfl,(by intro e he;simp at he),by simp,by simp,by decide,by rfl,Im⟩
theorem a33{R:Result->Shared->Prop}{I:Addr}{fp wr:List Addr}{G:Array GenState->Array GenState->Prop}{n:Nat}{P:Nat->Value->Prop}{St:Nat->Shared->Prop}(W:WalksS prog w A.in1 I fp wr G n P St)(FL:a∉fp){ns:List Int}(hn:n=ns.length)(hv:∀i v,P i v->∃tk,v=.int (ns.getD i 0) tk)(hb:n+1<scanBound):∀(k i:Nat) (s:Shared),i+k=n->St i s->j3 prog w s.heap a (i4 [] (ns.take i)) ->
   (∀s',Moved (a::wr) G s s'->j3 prog w s'.heap a (i4 [] ns)->R (.ok (.ret .none)) s')->codeAny (model prog w) A (.builtin "set.update.loop" ⟨[.ref a,.ref I],[]⟩) R s:=by
 have hw:a∉wr:=λh=>FL (W.sub _ h);have ux:∀b∈wr,b∈a::wr:=λb hb=>by simp[hb]
 intro k
 induction k with
 |zero =>
  intro i s e st hS hR;obtain rfl:i=n:=by omega
  refine fc jf ?_;rw[eM eF _];unfold Builtin.«set.update.loop»;refine aa (W.done s _ _ st λs' m=>ah (hR s' (m.mono ux) (j3.at ?_ λo e=>m.heap a o hw e)));rw[hn,dk] at hS;exact hS
 |succ k ih =>
  intro i s e st hS hR;have dQ:i<ns.length:=by omega
  refine fc jf ?_;rw[eM eF _];unfold Builtin.«set.update.loop»;refine aa (W.item i s _ _ (by omega) st λv s' hP nh m=>?_);obtain⟨tk,rfl⟩:=hv i v hP;have nz:=j3.at hS λo e=>m.heap a o hw e;have hl:=E7 (ns.take i) [];rw[dt] at hl;simp only[List.length_nil] at hl;refine aa (bq ?_);unfold setAdd;refine bq (aa ((intKind prog w).pyHash (k:=ns.getD i 0) (zA _ _ _ _) ?_));refine Gx (s:={ s' with toks:=s'.toks+1 }) nz (by omega) λh' bb sb rf=>?_;have e2:C9 (i4 [] (ns.take i)) (ns.getD i 0)=i4 [] (ns.take (i+1)):=by
   unfold i4;rw[fb,List.foldl_append,ao dQ];simp[List.getD,dQ]
  rw[e2] at rf;refine ah ⟨lI eF _,ih (i+1) _ (by omega) (W.frame _ s' _ _ nh (lK _) λb hb o e=>by rw[sb.2 b λz=>FL (z▸hb)];exact e) rf λs2 m2 h2=>?_⟩;exact hR s2 (Moved.trans W.gtrans ((m.mono ux).then_heap (lK _) λb o hb e=>by rw[sb.2 b λz=>hb (by rw[z];simp)];exact e) m2) h2
end
end ST

namespace ST
open PySem PyProof.Rows
section
variable{prog:Program}{w:World}{A:Around}{E:Value->Shared->Prop}{s:Shared}{a:Addr}
noncomputable abbrev u4(w:World):Obj:={ cls:=.type "set",dict:=none,data:=.set #[] 0 (.fresh 0 0 (Led w)) }
theorem JQ{Q:Value->Shared->Prop}(h:Q (.ref s.heap.objs.size) { s with heap:=s.heap.push (u4 w) }):wpAny (model prog w) A (newSet (.type "set")) Q E s:=by
 unfold newSet;refine aa (U4 ?_);exact bT h (cI _)
theorem SI(x:Value){Q:Value->Shared->Prop}(h:Q (.ref s.heap.objs.size) { s with heap:=s.heap.push (u4 w) }):codeAny (model prog w) A (.call (.builtin "set.__new__") ⟨[.type "set",x],[]⟩) (wants Q E) s:=by
 refine codeAny_of_tree (?_:wpAny _ A.in1 (do
  checkBuiltinCall "set.__new__" ⟨[.type "set",x],[]⟩
  again (.builtin "set.__new__" ⟨[.type "set",x],[]⟩)) _ _ s)
 refine aa (dh (F.newCall_set_1 x) (ah ⟨lI F.plain_set_new _,?_⟩));refine fc F.entry_set_new ?_;rw[eM F.plain_set_new _];unfold Builtin.«set.__new__»;have sub:=sub_set_self;refine aa (m:=Builtin.Frozenset.newClass "set" _) ?_;unfold Builtin.Frozenset.newClass;dsimp only;refine aa (dh (a:=true) (by first|rfl|(simp[isType];rfl)) ?_);rw[ax (by decide)];refine aa (dh sub ?_);rw[ax (by decide)];refine ah ?_;exact aa (JQ (ah h))
theorem CD{vs:List Value}{ns:List Int}(h:IntsAre vs ns):vs.length=ns.length:=by
 induction h with
 |nil=>rfl
 |cons n t r ih=>simp[ih]
def xc(h:Heap)(l:Addr)(items:Array Value):Prop:=h.IsList l items\/h.IsTuple l items
theorem xc.lt{h:Heap}{l:Addr}{items:Array Value}(x:xc h l items):l<h.objs.size:=by
 rcases x with⟨_,e,_⟩|⟨_,e,_⟩<;>exact aB e
theorem a97{l:Addr}{items:Array Value}{ns:List Int}{Q:Fin->Shared->Prop}(hh:A.handled=none)(hS:s.heap.get? a=some (u4 w))(hl:xc s.heap l items)(hi:IntsAre items.toList ns)(hb:items.size+1<scanBound)(dW:a≠l)(h:∀h' tk,j3 prog w h' a (i4 [] ns)->(∀b o,b≠a->s.heap.get? b=some o->h'.get? b=some o)->s.toks<=tk->wpAny (model prog w) A (ret .none) Q E { s with heap:=h',toks:=tk }) :
  wpAny (model prog w) A (Builtin.«set.__init__» ⟨[.ref a,.ref l],[]⟩) Q E s:=by
 have hT:s.TypeIs (.ref a) "set":=⟨_,hS,rfl⟩
 have hLi:Lies s.heap a #[] 0 (SetTable.fresh 0 0 (Led w)):=⟨⟨_,hS,rfl,rfl⟩,rfl⟩
 have dQ:=hl.lt;have Fu:l≠s.heap.objs.size:=aR dQ;unfold Builtin.«set.__init__» noKeywords;dsimp only;refine aa (dh (a:=()) rfl ?_);have nm:∀{Q':String->Shared->Prop},(∀x,Q' x s)->wpAny (model prog w) A (typeNameOfCut 200 (.ref a)) Q' E s:=λ{Q'} q=>by
  unfold typeNameOfCut shownTypeOf;refine aa (aa (dP hT ?_));rw[ax (by decide)];refine ah (dh (a:="set") ?_ (q _));unfold typeNameCut;dsimp only
  first|(unfold typeName;rw[find?_eq_fast];kernel_rfl)|kernel_rfl
 refine aa (nm λx=>?_);refine aa (m:=checkCount _ 0 1 _) (ah ?_);refine aa (m:=Builtin.Frozenset.addrOf _) (ah ?_);unfold setUsed;refine aa (aa (aV hS rfl rfl (ah ?_)));rw[ax (by show ¬((SetTable.fill (SetTable.fresh 0 0 (Led w)) != 0)=true);unfold SetTable.fill;simp[SetTable.fresh])];unfold Builtin.Frozenset.updateFrom Builtin.Frozenset.isAnySet;obtain⟨c,sT,Ba,it,hit,Fx,St,W,eJ⟩:∃c:String,(c="list"\/c="tuple")/\s.TypeIs (.ref l) c/\∃it:Obj,(∀Q':Value->Shared->Prop,Q' (.ref s.heap.objs.size) { s with heap:=s.heap.push it }->wpAny (model prog w) A (pyIter (.ref l)) Q' E s) /\
   (∀b o,s.heap.get? b=some o->(s.heap.push it).get? b=some o)/\∃St:Nat->Shared->Prop,WalksS prog w A.in1 s.heap.objs.size [s.heap.objs.size,l] [s.heap.objs.size] (λa b=>b=a) items.size (λi v=>items[i]?=some v) St/\St 0 { s with heap:=s.heap.push it }:=by
  rcases hl with hl|hl
  ·obtain⟨o,ho,hc,_⟩:=id hl;exact⟨"list",.inl rfl,⟨o,ho,hc⟩,_,λQ' q=>iy hl q,λb o e=>ai _ e,_,(Walks.list (A:=A.in1) hh _ l Fu items).toS,⟨⟨_,aF _ rfl,rfl,rfl⟩,hl.push _⟩⟩
  ·obtain⟨o,ho,hc,_⟩:=id hl;exact⟨"tuple",.inr rfl,⟨o,ho,hc⟩,_,λQ' q=>wpAny_pyIter_tuple hl q,λb o e=>ai _ e,_,(Walks.tuple (A:=A.in1) hh _ l Fu items).toS,⟨⟨_,aF _ rfl,rfl,rfl⟩,hl.push _⟩⟩
 refine aa (aa (aa (eT (b:=false) Ba (by rcases sT with rfl|rfl<;>(rw[eK];kernel_rfl)) ?_)));show wpAny (model prog w) A (isInstance (Value.ref l) (Value.type "frozenset")) _ _ _;refine eT (b:=false) Ba (by rcases sT with rfl|rfl<;>(rw[eK];kernel_rfl)) ?_;rw[ax (by decide)];refine aa (dP Ba ?_);rw[ax (by rcases sT with rfl|rfl<;>decide)];refine aa (hit _ ?_);refine aa (wpAny_runValue ?_);have Nq:a<s.heap.objs.size:=aB hS;have hsz:items.size=ns.length:=by rw[<- bA];exact CD hi
 refine a33 (a:=a) (ns:=ns) W (by simp only[List.mem_cons,List.not_mem_nil,or_false,not_or];exact⟨aR Nq,dW⟩) hsz (λi v hv=>IntsAre.int_at hi i v (by rw[fm];exact hv)) hb items.size 0 _ (by omega)
  eJ (HR (Fx _ _ hS)) λs' m nz=>?_
 have eS:s'={ s with heap:=s'.heap,toks:=s'.toks }:=by
  obtain⟨lj,g',d',mj,uF⟩:=s';have m1:g'=s.gens:=m.gens;have m2:d'=s.drawn:=m.drawn;have m3:uF=s.os:=m.os;subst m1;subst m2;subst m3
  rfl
 rw[eS];refine ah (h _ _ nz (λb o hb e=>?_) m.toks);exact m.heap b o (by simp only[List.mem_cons,List.not_mem_nil,or_false,not_or];exact⟨hb,aR (aB e)⟩) (Fx _ _ e)
theorem Kl{l:Addr}{items:Array Value}{ns:List Int}{Q:Value->Shared->Prop}(hh:A.handled=none)(hl:xc s.heap l items)(hi:IntsAre items.toList ns)(hb:items.size+1<scanBound)(h:∀h' tk,j3 prog w h' s.heap.objs.size (i4 [] ns)->(∀b o,s.heap.get? b=some o->h'.get? b=some o)->s.toks<=tk->Q (.ref s.heap.objs.size) { s with heap:=h',toks:=tk }) :
  wpAny (model prog w) A (call (.type "set") [.ref l]) Q E s:=by
 have cs:=F.called_set;obtain⟨_,_,y1⟩:=cs.mro;have y2:=cs.made;have y3:=cs.sub;have y4:=cs.notType;have y5:=cs.canCreate;have y6:=F.typeCall_set_1 (.ref l);refine wpAny_call (codeAny_of_tree (?_:wpAny _ _ (callAny (.type "set") _) _ _ _));refine ah ⟨Code.quiet_builtin _ (by decide +kernel),fc F.entry_type_call ?_⟩;rw[Around.under_plain (weight_type_call_type "set" [.ref l] []) rfl]
 repeat (any_goals (first|assumption|wp_step))
 refine fu (SI (.ref l) (E:=E) (Q:=λv s1=>v=.ref s.heap.objs.size/\s1={ s with heap:=s.heap.push (u4 w) }) ⟨rfl,rfl⟩) ?_;rintro(e|fl) s1 hr
 ·exact hr
 cases fl with
 |next=>exact hr
 |brk=>exact hr
 |cont=>exact hr
 |ret v =>
 obtain⟨rfl,rfl⟩:=hr;have hS:(s.heap.push (u4 w)).get? s.heap.objs.size=some (u4 w):=aF _ rfl;have hT:Shared.TypeIs { s with heap:=s.heap.push (u4 w) } (.ref s.heap.objs.size) "set":=⟨_,hS,rfl⟩
 have y7:=cs.init.lookup;have y8:=cs.init.bind (.ref s.heap.objs.size)
 repeat (any_goals (first|assumption|wp_step))
 refine fu (codeAny_call_builtin (R:=wants (λv s2=>v=.none/\∃h' tk,s2={ s with heap:=h',toks:=tk }/\j3 prog w h' s.heap.objs.size (i4 [] ns)/\(∀b o,s.heap.get? b=some o->h'.get? b=some o)/\s.toks<=tk) E) cs.init.plain F.entry_set_init (check_set_init_1 hT ?_)) ?_
 ·have AE:xc (s.heap.push (u4 w)) l items:=hl.imp (·.push _) (·.push _);have MP:=hl.lt;refine a97 (s:={ s with heap:=s.heap.push (u4 w) }) (by simp[hh]) hS AE hi hb (cB MP) λh' tk h1 h2 h3=>ah ⟨rfl,h',tk,rfl,h1,λb o e=>h2 b o (aR (aB e)) (ai _ e),h3⟩
 ·rintro(e|fl) s2 hr
  ·exact hr
  cases fl with
  |next=>exact hr
  |brk=>exact hr
  |cont=>exact hr
  |ret v =>
  obtain⟨rfl,h',tk,rfl,h1,h2,h3⟩:=hr
  repeat (any_goals (first|assumption|wp_step))
  exact h _ _ h1 h2 h3
end
end ST

namespace L2
open PySem PySem.Spec PyProof.Rows
def V8(X:Cx)(a:Addr)(ks:List Int):HO:=.ext λh=>ST.j3 X.prog X.w h a ks
def K5(ns:List Int):List Int:=(ST.i4 [] ns).mergeSort (λa b=>decide (a<=b))
theorem CZ:∀{a b:List Int},a.Perm b->a.Pairwise (·<=·)->b.Pairwise (·<=·)->a=b
 |[],b,h,_,_=>by rw[List.nil_perm.mp h]
 |x::a,[],h,_,_=>absurd h.length_eq (by simp)
 |x::a,y::b,h,h1,h2=>by
  rw[Ls] at h1 h2;have e:x=y:=by
   have m1:=h.mem_iff (a:=y);have m2:=h.mem_iff (a:=x);simp only[List.mem_cons,true_or,true_iff,iff_true] at m1 m2;rcases m1 with z|z
   ·exact z.symm
   ·rcases m2 with z'|z'
    ·exact z'
    ·have:=h1.1 y z;have:=h2.1 x z';omega
  subst e;rw[CZ (h.cons_inv) h1.2 h2.2]
theorem IA(ns:List Int):(K5 ns).Pairwise (·<=·):=by
 have:=List.pairwise_mergeSort (le:=λa b:Int=>decide (a<=b)) (λa b c h1 h2=>by simp at *;omega) (λa b=>by simp;omega) (ST.i4 [] ns);exact this.imp λh=>by simpa using h
theorem Z7(ns:List Int):(K5 ns).Perm (ST.i4 [] ns):=List.mergeSort_perm _ _
theorem YY(ns:List Int):(K5 ns).length<=ns.length:=by
 rw[(Z7 ns).length_eq];have:=ST.E7 ns [];simpa using this
section
variable{X:Cx}{pins:List (Addr×Obj)}{σ:St}{H:Hp}{s:Shared}
theorem Inv.draw(I:Inv X pins σ H s)(d:Drawn):Inv X pins σ H { s with drawn:=d } :=
 I.step (g':=s.gens) (t':=s.toks) (d':=d) (ch:=[]) (by simp) (λb o _ _ _ e _=>e) (λb o _ _ _ e _=>⟨o.slots,e⟩) (λb o _ _ e=>e) (λb o _ e=>⟨o,e⟩) (λ_ _ e=>e) (λ_ _ _ e=>e) (λb ps e=>⟨#[],by simp[e]⟩) (λm hm=>hm) I.bG I.bare
theorem Cy{h:Heap}{H:Hp}{a:Addr}{ks:List Int}(x:ST.j3 X.prog X.w h a ks):j4 X.prog X.w H h a (V8 X a ks) :=
 ⟨x,by obtain⟨o,_,_,_,e,_⟩:=x;exact⟨o,e⟩,λh1 h2 y k=>y.at k⟩
theorem ZN{ns:List Int}{vs:List Value}(h:IntsAre vs ns):Vals (ns.map V.int) vs:=by
 induction h with
 |nil=>exact .nil
 |cons n t r ih=>exact .cons ⟨t,rfl⟩ ih
theorem Dj:∀{ns:List Int} {vs:List Value},Vals (ns.map V.int) vs->IntsAre vs ns
 |[],_,h=>by cases h;exact .nil
 |n::ns,_,h=>by
  cases h with
  |cons r rr =>
   obtain⟨t,rfl⟩:=r;exact .cons n t (Dj rr)
theorem IM(hc:X.calm=true):l9 X (.type "set") (λxs H Q=>∃a ns,xs=[.ref a]/\gx X.K H a (ns.map V.int)/\ns.length<60/\∀p,H p=none->Q (.ref p) (upd H p (V8 X p (ST.i4 [] ns)))):=by
 intro pins s σ H xs us Q I r h;obtain⟨a,ns,rfl,hq,hl,q⟩:=h;cases r with
 |cons r rr =>
 cases rr;cases r;obtain⟨aT,rv,p,hz⟩:=I.list hq;have hI:=Dj rv;have hlen:=ST.CD hI;refine ST.Kl (ns:=ns) (I.ok.hd hc) (.inl p.isList) (by simpa using hI) (by rw[ay,hlen];exact av (Nat.succ_lt_succ hl) (by decide)) λh' tk hS hk _=>?_;exact⟨.ref _,_,I.laid (a:=s.heap.objs.size) (t':=tk) hk (aj _) (Cy hS),rfl,q _ (I.bG.fresh (aj _))⟩
theorem IP(hc:X.calm=true):l9 X (.type "set") (λxs H Q=>∃a ns,xs=[.ref a]/\gQ X.K H a (ns.map V.int)/\ns.length<60/\∀p,H p=none->Q (.ref p) (upd H p (V8 X p (ST.i4 [] ns)))):=by
 intro pins s σ H xs us Q I r h;obtain⟨a,ns,rfl,hq,hl,q⟩:=h;cases r with
 |cons r rr =>
 cases rr;cases r;obtain⟨aT,rv,p,hz⟩:=I.tuple hq;have hI:=Dj rv;have hlen:=ST.CD hI;refine ST.Kl (ns:=ns) (I.ok.hd hc) (.inr (show s.heap.IsTuple a aT.toArray from p)) (by simpa using hI) (by rw[ay,hlen];exact av (Nat.succ_lt_succ hl) (by decide)) λh' tk hS hk _=>?_;exact⟨.ref _,_,I.laid (a:=s.heap.objs.size) (t':=tk) hk (aj _) (Cy hS),rfl,q _ (I.bG.fresh (aj _))⟩
theorem V6(hc:X.calm=true):l9 X (.builtin "sorted") (λxs H Q=>∃a ns,xs=[.ref a]/\H a=some (V8 X a (ST.i4 [] ns))/\ns.length<60/\∀p,H p=none->Q (.ref p) (upd H p (.lst ((K5 ns).map V.int)))):=by
 intro pins s σ H xs us Q I r h;obtain⟨a,ns,rfl,ha,hl,q⟩:=h;cases r with
 |cons r rr =>
 cases rr;cases r;have hS:ST.j3 X.prog X.w s.heap a (ST.i4 [] ns):=(I.bG a _ ha).1;have hn:=ST.E7 ns [];simp only[List.length_nil] at hn;refine ST.ZH (I.ok.hd hc) hS (by omega) λS vs zZ e h' d' mj h1 h2 h3 h4 h5 h6 _=>?_;have e1:zZ=K5 ns:=CZ (h2.trans (Z7 ns).symm) h3 (IA ns);subst e1;have hz:=YY ns;exact⟨.ref S,_,(I.laid (a:=S) (o:=.lst ((K5 ns).map V.int)) (t':=mj) h6 h5 ⟨by rw[ak];exact aM hz (aM (dX hl) (by decide)),vs,e,ZN h1,h4⟩).draw d',rfl,q S (I.bG.fresh h5)⟩
end
end L2

namespace ST
open PySem PyProof.Rows
end ST
namespace L2
open PySem PySem.Spec PyProof.Rows
section
variable{prog:Program}{w:World}{A:Around}{R:Result->Shared->Prop}{s:Shared}
end
section
variable{X:Cx}{pins:List (Addr×Obj)}{σ:St}{H:Hp}{s:Shared}
end
end L2

namespace HT
open PySem PyProof.Rows Builtin
theorem Ye:fillsNumberSlot (.type "tuple") "mul"=pure false :=
 PySem.fillsNumberSlot_seq (id:="tuple.__mul__") (r:=some (.builtin "tuple.__rmul__")) qf.lookup (by decide +kernel) F.slot_tuple_rmul.lookup (by decide +kernel)
theorem aB6:seqRepeat? (.type "tuple")=pure (some (.builtin "tuple.__mul__")):=by
 unfold seqRepeat?;rw[PySem.seqSlot_of (T:="tuple") (name:="__mul__") (id:="tuple.__mul__") qf.lookup (by decide +kernel),PySem.seqSlot_of (T:="tuple") (name:="__rmul__") (id:="tuple.__rmul__") F.slot_tuple_rmul.lookup (by decide +kernel)]
 rfl
theorem XZ(a:Int)(t:Tok)(l:Addr)(items:Array Value)(n:Nat)(dd:Option Addr)(sl:Array (Option Value)) :
  Meets (Builtin.«int.__rmul__» ⟨[.int a t,.ref l],[]⟩) (λ_ R s=>s.heap.get? l=some { cls:=.type "tuple",dict:=dd,data:=.seq items n,slots:=sl }/\R (.ok (.ret Value.notImplemented)) s) :=
 .of_wp λprog w A R s h=>by obtain⟨hp,g,d,tk,os⟩:=s;obtain⟨hl,h⟩:=h;wp_walk;exact⟨_,rfl,h⟩
theorem Yb(t:Value)(c:Value):Builtin.«tuple.__mul__» ⟨[t,c],[]⟩=(do
 let n <- asIndex c
 if n < -(2 ^ 63)||n>=2 ^ 63 then
  rule "tuple.repeat.overflow";raiseError "OverflowError" s!"cannot fit '{<- typeNameOf c}' into an index-sized integer"
 let xs <- Builtin.Tuple.tupleItemsOf t
 if xs.isEmpty||n==1 then
  if <- Builtin.Tuple.tupleIsExact t then rule "tuple.repeat.same-object";return <- ret t
 if n<=0||xs.isEmpty then return <- ret (<- Builtin.Tuple.tupleExact #[])
 if xs.size*n>(2 ^ 63-1) / 8 then rule "tuple.repeat.no-memory";raiseNew (<- newExc (.type "MemoryError") [])
 if Builtin.Tuple.tupleTooMany (xs.size*n) then unsupported "tuple.__mul__:memory"
 ret (<- Builtin.Tuple.tupleExact ((List.replicate n.toNat xs).foldl (· ++ ·) #[]))):=rfl
section
variable{prog:Program}{w:World}{A:Around}{E:Value->Shared->Prop}{s:Shared}
theorem Zp(aT:List Value):∀(m:Nat) (acc:Array Value),List.foldl (λx1 x2=>x1++x2) acc (List.replicate m aT.toArray)=acc++(List.replicate m aT).flatten.toArray:=by
 intro m
 induction m with
 |zero=>intro acc;simp
 |succ m ih=>intro acc;rw[bz,eO,ih,bz,cZ];simp
theorem Zc{a:Addr}{aT:List Value}{n:Int}{t:Tok}{Q:Value->Shared->Prop}(ht:IsTup s.heap a aT.toArray)(dW:aT≠[])(h1:1<=n)(h2:n<2 ^ 62)(hz:aT.length*n.toNat<=sizeLine)(q1:n=1->Q (.ref a) s)(q2:Q (.ref s.heap.objs.size) { s with heap:=s.heap.push { cls:=.type "tuple",data:=.seq (List.replicate n.toNat aT).flatten.toArray } }):wpAny (model prog w) A (binaryOp .Mult (.ref a) (.int n t)) Q E s:=by
 obtain⟨o,ho,hc,k,hd⟩:=id ht;obtain⟨cls,dict,data,slots⟩:=o;dsimp only at hc hd;subst hc hd;have he:aT.toArray.isEmpty=false:=by cases aT<;>first|exact absurd rfl dW|rfl
 refine Eu (T:="tuple") (U:="int") (by decide) ht.typeIs (λs'=>lV s' n t) Ye F.fills_int_mul ju aB6 F.slot_int_index.lookup
  (cW ju (lV s n t) F.entry_int_rmul (F.args_int_rmul_2 _ _) (XZ n t a aT.toArray k dict slots) ⟨ho,rfl,ht.typeIs,?_⟩)
 refine bY qf ht.typeIs F.entry_tuple_mul ?_ (F.args_tuple_mul_2 _ _);rw[Yb];refine aa (dh (show asIndex (.int n t)=pure n from rfl) ?_);dsimp only;rw[ax (by simp only[Bool.or_eq_true,decide_eq_true_eq];omega)];refine aa (tZ ht ?_);have big:¬((aT.toArray.size:Int)*n>(2 ^ 63-1) / 8):=by
  rw[ay];have:((aT.length*n.toNat:Nat):Int)=(aT.length:Int)*n:=by rw[Int.natCast_mul];rw[show((n.toNat:Nat):Int)=n by omega]
  rw[<- this];have hs:sizeLine<2 ^ 59:=by decide
  omega
 have many:¬(Builtin.Tuple.tupleTooMany ((aT.toArray.size:Int)*n)=true):=by
  unfold Builtin.Tuple.tupleTooMany;rw[ay,bo];have:((aT.length*n.toNat:Nat):Int)=(aT.length:Int)*n:=by rw[Int.natCast_mul];rw[show((n.toNat:Nat):Int)=n by omega]
  rw[<- this];omega
 have hsz:sizeOk (.seq (List.replicate n.toNat aT).flatten.toArray):=by
  show(List.replicate n.toNat aT).flatten.toArray.size<=sizeLine;simp only[List.size_toArray,List.length_flatten,List.map_replicate,List.sum_replicate_nat];rw[ua];exact hz
 by_cases e1:n=1
 ·subst e1;rw[au (by rw[he];rfl)];unfold Builtin.Tuple.tupleIsExact;refine aa (aa (dP ht.typeIs (ah ?_)));rw[au (by decide)]
  first
   |exact aa (fN (aa (ah ⟨_,rfl,ah (q1 rfl)⟩)))
   |exact aa (fN (ah ⟨_,rfl,(q1 rfl)⟩))
   |exact aa (fN (ah ⟨_,rfl,ah (q1 rfl)⟩))
 ·rw[ax (by rw[he];simpa using e1)];rw[ax (by rw[he];simp;omega),ax big,ax many];rw[show List.foldl (λx1 x2=>x1++x2) #[] (List.replicate n.toNat aT.toArray)=(List.replicate n.toNat aT).flatten.toArray by rw[Zp];simp]
  first
   |exact aa (m:=Builtin.Tuple.tupleExact _) (bT (ah ⟨_,rfl,q2⟩) hsz)
   |exact aa (m:=Builtin.Tuple.tupleExact _) (bT (ah ⟨_,rfl,ah q2⟩) hsz)
end
end HT
namespace L2
open PySem PySem.Spec PyProof.Rows
section
variable{X:Cx}
def Wl(K:PySem.W.Frag):R2:=λx y H Q=>∃(a:Addr) (n:Int) (xs:List V),x=.ref a/\y=.int n/\gQ K H a xs/\xs≠[]/\1<=n/\n<2 ^ 62/\xs.length*n.toNat<=sizeLine /\
 (n=1->Q (.ref a) H)/\(∀p,H p=none->Q (.ref p) (upd H p (.tup (List.replicate n.toNat xs).flatten)))
theorem Ro:ft X (binaryOp .Mult) (Wl X.K):=by
 intro pins s σ H x y v u Q I rx ry h;obtain⟨a,n,xs,rfl,rfl,ha,dW,h1,h2,hz,q1,q2⟩:=h;cases rx;obtain⟨tk,rfl⟩:=ry;obtain⟨aT,r,p,_⟩:=I.tuple ha;refine HT.Zc p (λz=>dW (r.R6.mp z)) h1 h2 (by rw[<- r.length];exact hz) (λe=>⟨.ref a,H,I,rfl,q1 e⟩) ?_;refine⟨.ref s.heap.objs.size,_,I.laid (t':=s.toks) (o:=.tup (List.replicate n.toNat xs).flatten) (λb ob q=>ai _ q) (aj _) ?_,rfl,q2 _ (I.bG.fresh (aj _))⟩;exact⟨by rw[len_rep,ua];exact hz,_,r.rep _,E2.new _ _⟩
def C6(sep:Str)(ys:List Str):Nat:=ys.foldl (λn y=>n+y.length+sep.length) 0
theorem Y':∀{ys:List Str} {vs:List Value},Vals (ys.map V.str) vs->∃l:List (Str×Tok),vs=strValues l/\l.map (·.1)=ys:=by
 intro ys
 induction ys with
 |nil=>intro vs h;cases h;exact⟨[],rfl,rfl⟩
 |cons y ys ih =>
  intro vs h;cases h with
  |cons r rr =>
   obtain⟨t,rfl⟩:=r;obtain⟨l,rfl,e⟩:=ih rr;exact⟨(y,t)::l,rfl,by rw[ba,e]⟩
theorem a10(sep:Str):∀(ps:List Str) (acc:Array Nat) (n:Nat),acc.size<=n->(ps.foldl (λacc p=>acc++sep.cps++p.cps) acc).size<=ps.foldl (λn y=>n+y.length+sep.length) n:=by
 intro ps
 induction ps with
 |nil=>intro acc n h;exact h
 |cons p ps ih =>
  intro acc n h;rw[eO,eO];refine ih _ _ ?_;rw[Array.size_append,Array.size_append];have:p.length=p.cps.size:=rfl;have:sep.length=sep.cps.size:=rfl;omega
theorem HU(sep:Str)(ys:List Str):(Builtin.Str.glued sep ys).length<=C6 sep ys:=by
 cases ys with
 |nil=>exact aj _
 |cons y ys =>
  show((ys.foldl (λacc p=>acc++sep.cps++p.cps) y.cps)).size<=ys.foldl (λn y=>n+y.length+sep.length) (0+y.length+sep.length);refine a10 sep ys _ _ ?_;have:y.length=y.cps.size:=rfl;omega
theorem Rb:lF X "str.join" (λx xs H Q=>∃sep a ys,x=.str sep/\xs=[.ref a]/\gx X.K H a (ys.map V.str)/\C6 sep ys<=sizeLine/\Q (.str (Builtin.Str.glued sep ys)) H):=by
 intro pins s σ H x xs v us Q I rx r h;obtain⟨sep,a,ys,rfl,rfl,hq,hz,q⟩:=h;obtain⟨t,rfl⟩:=rx;cases r with
 |cons r rr =>
 cases rr;cases r;obtain⟨aT,rv,pl,_⟩:=I.list hq;obtain⟨l,rfl,el⟩:=Y' rv;have hl:Builtin.Str.tooLong ((l.map (·.1)).toArray.foldl (·+·.length+sep.length) 0)=false:=by
  unfold Builtin.Str.tooLong;rw[aN,List.foldl_toArray,el];exact ij.mpr hz
 refine cW F.slot_str_join (typeIs_str s sep t) F.entry_str_join (F.args_str_join_2 _ _) (meets_str_join_list sep t a l hl) ⟨pl.isList,?_⟩;have fin:wants (EP X pins σ Q) X.xe (Except.ok (Flow.ret (.str (Builtin.Str.glued sep ys) s.toks))) { s with toks:=s.toks+1 }:=⟨.str _,H,I.tok _,⟨_,rfl⟩,q⟩
 have gen:(Made.str (Builtin.Str.glued sep (l.map (·.1)))).post (λv s'=>wants (EP X pins σ Q) X.xe (Except.ok (Flow.ret v)) s') s:=by
  rw[el];exact⟨aM (HU sep ys) hz,fin⟩
 rcases l with _|⟨p,_|⟨p2,l⟩⟩
 ·exact gen
 ·subst el;exact⟨.str p.1,H,I,⟨_,rfl⟩,q⟩
 ·exact gen
end
end L2

namespace HT
open PySem PyProof.Rows Builtin PySem.SeqAt
theorem XX(l:Addr)(items:Array Value)(n:Nat)(dd:Option Addr)(sl:Array (Option Value))(x:Value)(e:Value->Bool)(j:Nat)(hj:j<items.size)(hit:e items[j]=true)(lq:∀m (hm:m<items.size),m<j->e items[m]=false) :
    Meets (Builtin.«tuple.index» ⟨[.ref l,x],[]⟩)
      (λA R s=>s.heap.get? l=some { cls:=.type "tuple",dict:=dd,data:=.seq items n,slots:=sl }/\(∀y,y∈items->EqAt A.in1 s y x (e y))/\R (.ok (.ret (.int j s.toks))) { s with toks:=s.toks+1 }) :=
  .of_wp λprog w A R s h=>by
    obtain⟨hp,g,d,tk,os⟩:=s;obtain⟨hl,he,h⟩:=h
    wp_walk using wpAny_loadPart' hl
    show wpAny (model prog w) A.in1 (forIn ([:Min.min items.size items.size]:Std.Legacy.Range) ((none,()):Option PySem.Fin × Unit) (λ(i:Nat) __s =>
            match items[i]? with
            |some y=>do
              let __do_lift <- eqBool y x
              if __do_lift=true then do
                  let __do_lift <- retInt (i:Nat)
                  pure (ForInStep.done (some __do_lift,()))
                else pure (ForInStep.yield (none,()))
            | x=>pure (ForInStep.yield (none,())))) _ _ _
    rw[Std.Legacy.Range.forIn_eq_forIn_range'];simp only[Std.Legacy.Range.size,Nat.sub_zero,Nat.add_sub_cancel,Nat.div_one,Nat.min_self];refine wpAny_forIn_list _ (λrest b s'=>b=(none,())/\s'=⟨hp,g,d,tk,os⟩/\∃i,rest=List.range' i (items.size-i)/\i<=j) _ ?_ ?_ _ _ ⟨rfl,rfl,0,by simp,cI _⟩
    · rintro y rest b s' ⟨rfl,rfl,i,hr,hi⟩;have dQ:i<items.size:=by omega
      rw[show items.size-i=(items.size-(i+1))+1 by omega,List.range'_succ] at hr;cases hr;rw[show items[y]?=some items[y] from cO dQ];refine aa (he _ (Array.getElem_mem dQ) prog w _ _ ?_);by_cases gX:y=j
      · subst gX;rw[hit]
        wp_walk
        exact⟨_,rfl,h⟩
      · rw[lq y dQ (by omega)]
        wp_walk
        exact⟨rfl,rfl,y+1,rfl,by omega⟩
    · rintro b s' ⟨rfl,rfl,i,hr,hi⟩;exfalso;have:=fY List.length hr;simp at this;omega
section
variable{prog:Program}{w:World}{A:Around}{E:Value->Shared->Prop}{s:Shared}
theorem Yv:typeLookup (.type "tuple") (dunderI "add")=pure none:=by
 show typeLookup (.type "tuple") "__iadd__"=pure none;rw[js,fL];kernel_rfl
theorem a99{t b:Addr}{vs ws:List Value}{Q:Value->Shared->Prop}(ht:IsTup s.heap t vs.toArray)(hb:IsTup s.heap b ws.toArray)(h0:vs=[]->Q (.ref b) s)(h1:ws=[]->Q (.ref t) s)(h2:Q (.ref s.heap.objs.size) { s with heap:=s.heap.push { cls:=.type "tuple",data:=.seq (vs++ws).toArray } })(hsz:vs.length+ws.length<=sizeLine):wpAny (model prog w) A (inplaceOp .Add (.ref t) (.ref b)) Q E s:=by
 obtain⟨⟨cls,dd,data,sl⟩,ho,hc,n,hd⟩:=id ht;obtain⟨⟨wA,pS,data2,kD⟩,ku,nu,n2,hd2⟩:=id hb;simp only at hc hd nu hd2;subst hc hd nu hd2;have e:vs.toArray++ws.toArray=(vs++ws).toArray:=by simp
 refine wpAny_inplaceOp_concat (T:="tuple") ⟨_,ho,rfl⟩ ⟨_,ku,rfl⟩ Yv iU lH ?_;by_cases hv:vs=[]
 ·subst hv;exact cW qg ⟨_,ho,rfl⟩ nO (lY _ _) (tuple_addW0 t b #[] ws.toArray n n2 dd pS sl kD rfl) ⟨ho,ku,h0 rfl⟩
 by_cases hw:ws=[]
 ·exact cW qg ⟨_,ho,rfl⟩ nO (lY _ _) (tuple_addW1 t b vs.toArray ws.toArray n n2 dd pS sl kD (by simpa using hv) (by simp[hw])) ⟨ho,ku,h1 hw⟩
 ·refine cW qg ⟨_,ho,rfl⟩ nO (lY _ _) (tuple_addW2 t b vs.toArray ws.toArray n n2 dd pS sl kD (by simpa using hv) (by simpa using hw) (by rw[ay,ay];exact hsz)) ⟨ho,ku,?_⟩;rw[e];exact h2
end
end HT
namespace L2
open PySem PySem.Spec PyProof.Rows
section
variable{X:Cx}
def yP(ys:List V)(y:V)(n:Nat):Prop:=ys.all L0=true/\L0 y=true/\(∃z,ys[n]?=some z/\kM z y=true)/\∀(m:Nat) z,m<n->ys[m]?=some z->kM z y=false
theorem CA:∀{xs:List V} {us:List Value} {i:Nat} (hi:i<us.length),Vals xs us->∃x,xs[i]?=some x/\RelV x us[i]
 |_,_,0,hi,.cons r _=>⟨_,rfl,r⟩
 |_,_,i+1,hi,.cons _ t=>by
  obtain⟨x,h1,h2⟩:=CA (i:=i) (by simpa using hi) t;exact⟨x,by simpa using h1,by simpa using h2⟩
theorem KW{xs:List V}(h:xs.all L0=true){i:Nat}{x:V}(e:xs[i]?=some x):L0 x=true:=dw.mp h x (aH e)
theorem HP{ys:List V}{y:V}{n:Nat}{aT:List Value}(F:yP ys y n)(r:Vals ys aT):∃hn:n<aT.toArray.size,sY y aT.toArray[n]=true/\∀m (hm:m<aT.toArray.size),m<n->sY y aT.toArray[m]=false:=by
 obtain⟨fs,fy,⟨z,hz,he⟩,lq⟩:=F;have hl:=r.length;have hn:n<aT.length:=by
  have:=(aq.mp hz).1;omega
 refine⟨by simpa using hn,?_,λm hm Ay=>?_⟩
 ·obtain⟨x,hx,rx⟩:=CA hn r;rw[hz] at hx;cases hx;rw[zC,DX rx (KW fs hz)];exact he
 ·have sN:m<aT.length:=by simpa using hm
  obtain⟨x,hx,rx⟩:=CA sN r;rw[zC,DX rx (KW fs hx)];exact lq m x Ay hx
def JY(K:PySem.W.Frag):V->List V->Hp->VK->Prop:=λx xs H Q=>∃a ys y n,x=.ref a/\xs=[y]/\gQ K H a ys/\yP ys y n/\Q (.int n) H
def JX(K:PySem.W.Frag):V->List V->Hp->VK->Prop:=λx xs H Q=>∃a ys y n,x=.ref a/\xs=[y]/\gx K H a ys/\yP ys y n/\n<2 ^ 62/\Q (.int n) H
theorem Yu:lF X "tuple.index" (JY X.K):=by
 intro pins s σ H x xs v us Q I rx r h;obtain⟨a,ys,y,n,rfl,rfl,hq,W,q⟩:=h;cases rx;cases r with
 |cons ry rr =>
 cases rr;obtain⟨aT,rv,p,hz⟩:=I.tuple hq;obtain⟨hn,hit,lq⟩:=HP W rv;obtain⟨⟨cls,dd,data,sl⟩,ho,hc,k,hd⟩:=id p;simp only at hc hd;subst hc hd;refine cW F.slot_tuple_index p.typeIs F.entry_tuple_index (F.args_tuple_index_2 _ _) (HT.XX a aT.toArray k dd sl _ (sY y) n hn hit lq) ⟨ho,λw hw=>CI ry W.2.1 rv W.1 w (by simpa using hw),⟨.int n,H,I.tok _,⟨_,rfl⟩,q⟩⟩
theorem Yt:lF X "list.index" (JX X.K):=by
 intro pins s σ H x xs v us Q I rx r h;obtain⟨a,ys,y,n,rfl,rfl,hq,W,mF,q⟩:=h;cases rx;cases r with
 |cons ry rr =>
 cases rr;obtain⟨aT,rv,p,hz⟩:=I.list hq;obtain⟨hn,hit,lq⟩:=HP W rv;have pt:=p.isList.typeIs;obtain⟨⟨cls,dd,data,sl⟩,k,ho,hc,FF,hd⟩:=id p;simp only at hc FF hd;subst hc FF hd;refine cW F.slot_list_index pt F.entry_list_index (F.args_list_index_2 _ _) (SeqAt.list_indexAt a aT.toArray k none sl _ (sY y) n hn (by omega) hit lq) ⟨ho,λw hw=>CI ry W.2.1 rv W.1 w (by simpa using hw),⟨.int n,H,I.tok _,⟨_,rfl⟩,q⟩⟩
def xf(K:PySem.W.Frag)(H:Hp)(a:Addr)(xs:List V):Prop :=
 H a=some (.tup xs)\/∃(o:Obj) (aT:Array Value) (n:Nat),K.lookup a=some o/\o.cls=.type "tuple"/\o.dict=none/\o.data=.seq aT n/\aT.size<=sizeLine/\Vals xs aT.toList
theorem xf.sq{K:PySem.W.Frag}{H:Hp}{a:Addr}{xs:List V}(h:xf K H a xs):gQ K H a xs:=by
 rcases h with h|⟨o,aT,n,h1,h2,_,h3,h4,h5⟩
 ·exact .inl (.inl h)
 ·exact .inr ⟨o,aT,n,h1,h2,h3,h4,h5⟩
theorem Inv.UP{pins:List (Addr×Obj)}{σ:St}{H:Hp}{s:Shared}{a:Addr}{xs:List V}(I:Inv X pins σ H s)(h:xf X.K H a xs):s.TypeIs (.ref a) "tuple"/\∀b,Value.ref a=.ref b->∃ob,s.heap.get? b=some ob/\ob.dict=none:=by
 rcases h with h|⟨o,aT,n,h1,h2,h3,_⟩
 ·obtain⟨_,aT,_,o,e,c,_,d⟩:=(show j4 X.prog X.w H s.heap a (.tup xs) from I.bG a _ h)
  exact⟨⟨o,e,c⟩,λb q=>by cases q;exact⟨o,e,d⟩⟩
 ·exact⟨⟨o,I.gm a o h1,h2⟩,λb q=>by cases q;exact⟨o,I.gm a o h1,h3⟩⟩
def Qh(K:PySem.W.Frag)(to:TE)(t:TA):TE:=λσ H Q=>to σ H λx H1=>(∃a xs,x=.ref a/\gx K H1 a xs/\t σ H1 λys H2=>JX K x ys H2 Q)\/(∃a xs,x=.ref a/\xf K H1 a xs/\t σ H1 λys H2=>JY K x ys H2 Q)
theorem a70{o e:Expr}{es:List Expr}{to:TE}{t:TA}{apos dU:Pos}(ho:PE X o to)(ha:PA X (e::es) t)(fR:attributeBase o "index" X.env (eval o X.env)=eval o X.env)(ky:((backTo dU (starEach (e :: es) X.env)).all (λx=>!x.1) && (backToKw dU (keywordEach [] X.env)).all (λx=>x.1.isSome)
   && decide ((e :: es).length + ([]:List Keyword).length + (if ([]:List Keyword).isEmpty then 0 else 1) < 30))=true)(fQ:(apos.endLine==dU.line)=true)(hs:starEach (e::es) X.env=(false,eval e X.env)::starEach es X.env)(eN:(backTo dU (starEach es X.env)).any (·.1)=false) :
  PE X (.Call (.Attribute o "index" apos) (e::es) [] dU) (Qh X.K to t):=by
 intro pins s σ H Q I h;refine wpAny_Call_method_late fR ky fQ rfl (cw (ho pins s σ H _ I h) λv s1 bh=>?_);obtain⟨x,H1,I1,r1,q1⟩:=bh;rcases q1 with⟨a,xs,rfl,hq,q1⟩|⟨a,xs,rfl,hq,q1⟩
 ·cases r1;obtain⟨aT,rv,pl,hz⟩:=I1.list hq;have pt:=pl.isList.typeIs;obtain⟨ob,k,e1,_,e2,_⟩:=id pl;refine⟨"list","list.index",F.plainAttrs_list,F.slot_list_index,F.type_list_index,pt,λb q=>by cases q;exact⟨ob,e1,e2⟩,?_⟩;have hA:=ha dU pins s1 σ H1 _ I1 q1;rw[hs] at hA ⊢;refine fC (by show(false||(backTo dU (starEach es X.env)).any (·.1))=false;rw[eN]<;>rfl) (gk ?_);exact cw hA λus s2 ⟨vs,H2,I2,r2,q2⟩=>Yt pins s2 σ H2 (.ref a) vs (.ref a) us Q I2 rfl r2 q2
 ·cases r1;obtain⟨pt,hd⟩:=I1.UP hq;refine⟨"tuple","tuple.index",F.plainAttrs_tuple,F.slot_tuple_index,F.type_tuple_index,pt,hd,?_⟩;have hA:=ha dU pins s1 σ H1 _ I1 q1;rw[hs] at hA ⊢;refine fC (by show(false||(backTo dU (starEach es X.env)).any (·.1))=false;rw[eN]<;>rfl) (gk ?_);exact cw hA λus s2 ⟨vs,H2,I2,r2,q2⟩=>Yu pins s2 σ H2 (.ref a) vs (.ref a) us Q I2 rfl r2 q2
def Wk(K:PySem.W.Frag):V->V->Hp->VK->Prop:=λx y H Q=>(∃i j,x=.int i/\y=.int j/\Q (.int (i+j)) H) \/
 ∃a b xs ys,x=.ref a/\y=.ref b/\gQ K H a xs/\gQ K H b ys/\xs.length+ys.length<=sizeLine/\(xs=[]->Q (.ref b) H)/\(ys=[]->Q (.ref a) H)/\(∀p,H p=none->Q (.ref p) (upd H p (.tup (xs++ys))))
theorem JG:BP X .Add (Wk X.K):=by
 rintro pins s σ H x y u v Q I rx ry h;rcases h with h|⟨a,b,xs,ys,rfl,rfl,ha,hb,hz,q0,q1,q2⟩
 ·exact Xi pins s σ H x y u v Q I rx ry h
 ·cases rx;cases ry;obtain⟨aT,r1,p1,_⟩:=I.tuple ha;obtain⟨my,r2,p2,_⟩:=I.tuple hb;refine HT.a99 p1 p2 (λz=>⟨.ref b,H,I,rfl,q0 (r1.R6.mp z)⟩) (λz=>⟨.ref a,H,I,rfl,q1 (r2.R6.mp z)⟩) ?_ (by rw[<- r1.length,<- r2.length];exact hz);refine⟨.ref s.heap.objs.size,_,I.laid (t':=s.toks) (o:=.tup (xs++ys)) (λb ob q=>ai _ q) (aj _) ?_,rfl,q2 _ (I.bG.fresh (aj _))⟩;exact⟨by rw[aU];exact hz,_,r1.append r2,E2.new _ _⟩
end
end L2

namespace ST
open PySem PyProof.Rows
theorem QM{mask i p fuel:Nat}{owner:Array (Option Nat)}(h:owner.getD i (some 0)=none):SetTable.layClean.free mask owner (fuel+1) i p=some i:=by
 unfold SetTable.layClean.free;have e:SetTable.runEnd mask i+1-i=(SetTable.runEnd mask i-i)+1:=by
  unfold SetTable.runEnd;split<;>omega
 rw[e,ub,iz];rw[Nat.add_zero,h]
 rfl
def Spot(k:Int):Prop:=0<=k/\k<8
structure Own(mask:Nat)(owner:Array (Option Nat))(pre:List Int):Prop where
 sz:owner.size=mask+1
 fwd:∀(i:Nat) (k:Int),pre[i]?=some k->owner[k.toNat]?=some (some i)
 bwd:∀(j i:Nat),owner[j]?=some (some i)->pre[i]?=some (j:Int)
theorem JK{mask:Nat}(hm:7<=mask):∀(hs pre:List Int) (owner:Array (Option Nat)),(pre++hs).Nodup->(∀k∈pre++hs,Spot k)->Own mask owner pre ->
  ∃ jl,Own mask jl (pre ++ hs)/\hs.foldl (λacc h=>do
   let (owner,k) <- acc
   let j <- SetTable.layClean.free mask owner (SetTable.turns mask) (SetTable.bits h % (mask+1)) (SetTable.bits h)
   pure (owner.setIfInBounds j (some k),k + 1)) (some (owner,pre.length))=some (jl,(pre ++ hs).length)
 |[],pre,owner,_,_,o=>⟨owner,by simpa using o,by simp⟩
 |h::hs,pre,owner,hn,hp,o=>by
  obtain⟨h0,h8⟩:=hp h (by simp);have eb:SetTable.bits h % (mask+1)=h.toNat:=by
   unfold SetTable.bits;rw[Int.emod_eq_of_lt h0 (by omega)];exact Nat.mod_eq_of_lt (by omega)
  have dQ:h.toNat<owner.size:=by rw[o.sz];omega
  have jL:owner[h.toNat]?=some none:=by
   rw[cO dQ];cases e:owner[h.toNat] with
   |none=>rfl
   |some i =>
    have:=o.bwd h.toNat i (by rw[cO dQ,e]);rw[EB h0] at this;have hm:=aH this;rw[cY] at hn;exact absurd rfl (hn.2.2 h hm h (by simp))
  have ef:SetTable.layClean.free mask owner (SetTable.turns mask) (SetTable.bits h % (mask+1)) (SetTable.bits h)=some h.toNat:=by
   rw[eb];exact QM (fuel:=mask+14) (by rw[ng,jL];rfl)
  have o':Own mask (owner.setIfInBounds h.toNat (some pre.length)) (pre++[h]):=by
   refine⟨by rw[Array.size_setIfInBounds];exact o.sz,λi k hi=>?_,λj i hj=>?_⟩
   ·rw[List.getElem?_append] at hi;split at hi
    ·have hk:=o.fwd i k hi;have pG:=hp k (by have:=aH hi;simp[this]);have dW:h.toNat≠k.toNat:=λz=>by
      have:k=h:=by have:=pG.1;omega
      subst this;rw[cY] at hn;exact absurd rfl (hn.2.2 k (aH hi) k (by simp))
     rw[kC dW];exact hk
    ·rename_i Nc;have:i-pre.length=0:=by
      cases e:i-pre.length with
      |zero=>rfl
      |succ n=>rw[e] at hi;simp at hi
     rw[this] at hi;cases hi;have:i=pre.length:=by omega
     subst this;rw[iO dQ]
   ·by_cases e:h.toNat=j
    ·subst e;rw[iO dQ] at hj;cases hj;rw[EB h0];simp
    ·rw[kC e] at hj;have:=o.bwd j i hj;rw[aA (aq.mp this).1];exact this
  obtain⟨jl,o2,e2⟩:=JK hm hs (pre++[h]) _ (by simpa using hn) (by simpa using hp) o';refine⟨jl,by simpa using o2,?_⟩;rw[eO];have e1:(do
   let (owner,k) <- some (owner,pre.length)
   let j <- SetTable.layClean.free mask owner (SetTable.turns mask) (SetTable.bits h % (mask+1)) (SetTable.bits h)
   pure (owner.setIfInBounds j (some k),k + 1):Option (Array (Option Nat) × Nat))=some (owner.setIfInBounds h.toNat (some pre.length),(pre ++ [h]).length):=by
   simp only[Option.bind_eq_bind,Option.bind_some,ef,Option.pure_def];simp
  rw[e1,e2];simp
theorem Zs{mask finger moves:Nat}{led plain:Bool}{hashes:Array Int}(hm:7<=mask)(hn:hashes.toList.Nodup)(hs:∀k∈hashes.toList,Spot k) :
  ∃t o,SetTable.laid mask finger moves led plain hashes=some (t,o)/\o.toList.Perm (List.range hashes.size)/\t.mask=mask/\t.place.size=hashes.size:=by
 have o0:Own mask (Array.replicate (mask + 1) none) []:=⟨by simp,λi k h=>by simp at h,λj i h=>by
  rw[Array.getElem?_replicate] at h;split at h <;> cases h⟩
 obtain⟨owner,o,e⟩:=JK hm hashes.toList [] _ (by simpa using hn) (by simpa using hs) o0;rw[List.nil_append] at o e;have el:SetTable.layClean mask hashes=some owner:=by
  unfold SetTable.layClean;rw[<- Array.foldl_toList];have:=e;simp only[List.length_nil] at this;rw[this]
  rfl
 have hP:((List.range (mask+1)).filterMap λj=>owner.getD j none).Perm (List.range hashes.size):=by
  have gd:∀j i,owner.getD j none=some i↔owner[j]?=some (some i):=λj i=>by
   rw[ng];cases owner[j]? with
   |none=>simp
   |some x=>simp
  refine(cK ?_ List.nodup_range).mpr λi=>?_
  ·unfold List.Nodup;rw[List.pairwise_filterMap];refine List.Pairwise.imp ?_ ik;intro a b qY x hx y hy z;subst z;have h1:=o.bwd a x ((gd _ _).mp hx);have h2:=o.bwd b x ((gd _ _).mp hy);rw[h1] at h2;cases h2;omega
  ·rw[gg,gf];constructor
   ·rintro⟨j,_,hj⟩;have:=(aq.mp (o.bwd j i ((gd _ _).mp hj))).1;simpa using this
   ·intro hi;have kd:i<hashes.toList.length:=by simpa using hi
    have hg:=ao kd;have hk:=hs _ (dY kd);refine⟨(hashes.toList[i]).toNat,gf.mpr ?_,(gd _ _).mpr (o.fwd i _ hg)⟩;have:=hk.1;have:=hk.2;omega
 refine⟨{ mask,place:=((List.filterMap (λj=>(owner.getD j none).map (j,·)) (List.range (mask+1))).map (·.1)).toArray,dummies:=#[],finger,led,moves,plain },((List.filterMap (λj=>(owner.getD j none).map (j,·)) (List.range (mask+1))).map (·.2)).toArray,?_,?_,rfl,?_⟩
 ·unfold SetTable.laid;rw[el]
  rfl
 ·rw[EA,Lu];have:(λj=>Option.map (λx:Nat×Nat=>x.2) (Option.map (λx=>(j,x)) (owner.getD j none)))=λj=>owner.getD j none:=by
   funext j
   cases owner.getD j none<;>rfl
  rw[this];exact hP
 ·show(List.map _ _).toArray.size=_;rw[ay,ak];have:=hP.length_eq;rw[kj] at this;rw[<- this];have e3:(List.range (mask+1)).filterMap (λj=>owner.getD j none)=(List.filterMap (λj=>(owner.getD j none).map (j,·)) (List.range (mask+1))).map (·.2):=by
   rw[Lu]
   congr 1
   funext j
   cases owner.getD j none<;>rfl
  rw[e3,ak]
end ST

namespace ST
open PySem PyProof.Rows
section
variable{prog:Program}{w:World}{A:Around}{E:Value->Shared->Prop}{s:Shared}{a:Addr}
def oV(prog:Program)(w:World)(h:Heap)(a:Addr)(ks:List Int):Prop :=
 ∃o es ep t,h.get? a=some o/\o.ExactSet/\o.data=.set es ep t/\ElemsOf (intKind prog w) es.toList/\(es.toList.map λe=>toI e.2).Perm ks/\ks.Nodup/\es.size<scanBound/\t.fits es.size=true/\Well (Led w) t/\(ks=[]->7<=t.mask)
theorem oV.toW{h:Heap}{ks:List Int}(x:oV prog w h a ks):j3 prog w h a ks:=by
 obtain⟨o,es,ep,t,h1,h2,h3,h4,h5,h6,h7,h8,h9,_⟩:=x;exact⟨o,es,ep,t,h1,h2,h3,h4,h5,h6,h7,h8,h9⟩
theorem j3.toV{h:Heap}{ks:List Int}(x:j3 prog w h a ks)(hn:ks≠[]):oV prog w h a ks:=by
 obtain⟨o,es,ep,t,h1,h2,h3,h4,h5,h6,h7,h8,h9⟩:=x;exact⟨o,es,ep,t,h1,h2,h3,h4,h5,h6,h7,h8,h9,λz=>absurd z hn⟩
theorem j3.same{h:Heap}{ks us:List Int}(x:j3 prog w h a ks)(hp:ks.Perm us):j3 prog w h a us:=by
 obtain⟨o,es,ep,t,h1,h2,h3,h4,h5,h6,h7⟩:=x;exact⟨o,es,ep,t,h1,h2,h3,h4,h5.trans hp,hp.nodup_iff.mp h6,h7⟩
theorem a07{k:Int}(h:Spot k):(intKind prog w).hash k=k:=by
 obtain⟨h0,h8⟩:=h;show hashInt k=k;have:k=0\/k=1\/k=2\/k=3\/k=4\/k=5\/k=6\/k=7:=by omega
 rcases this with rfl|rfl|rfl|rfl|rfl|rfl|rfl|rfl<;>decide +kernel
theorem aD9{es:Array (Int×Value)}{ks:List Int}(iw:ElemsOf (intKind prog w) es.toList)(hp:(es.toList.map λe=>toI e.2).Perm ks)(hs:∀k∈ks,Spot k):(es.map (·.1)).toList=es.toList.map λe=>toI e.2:=by
 rw[Array.toList_map];refine List.map_congr_left λe he=>?_;obtain⟨tk,h1,h2⟩:=Z2 iw he;rw[h2];exact a07 (hs _ (hp.mem_iff.mp (aS.mpr ⟨e,he,rfl⟩)))
theorem JJ{es:Array (Int×Value)}{ks:List Int}{mask finger moves:Nat}{led plain:Bool}(hm:7<=mask)(hsz:es.size<=mask)(hl:led=Led w)(iw:ElemsOf (intKind prog w) es.toList)(hp:(es.toList.map λe=>toI e.2).Perm ks)(hn:ks.Nodup)(hs:∀k∈ks,Spot k) :
  ∃t o,SetTable.laid mask finger moves led plain (es.map (·.1))=some (t,o)/\(o.filterMap (es[·]?)).toList.Perm es.toList/\(o.filterMap (es[·]?)).size=es.size/\t.mask=mask/\t.fits es.size=true/\Well (Led w) t:=by
 have eh:=aD9 iw hp hs;obtain⟨t,o,e,hP,h1,h2⟩:=Zs (finger:=finger) (moves:=moves) (led:=led) (plain:=plain) (hashes:=es.map (·.1)) hm (by rw[eh];exact hp.nodup_iff.mpr hn) (by rw[eh];exact λk hk=>hs k (hp.mem_iff.mp hk));rw[Array.size_map] at hP h2;have e2:(o.filterMap (es[·]?)).toList.Perm es.toList:=by
  rw[Array.toList_filterMap];refine(hP.filterMap _).trans ?_;have:(List.range es.size).filterMap (es[·]?)=es.toList:=by
   have gen:∀(l:List (Int×Value)),(List.range l.length).filterMap (λi=>l[i]?)=l:=λl=>by
    induction l with
    |nil=>rfl
    |cons x r ih =>
     rw[bU,ub,cF];simp only[List.getElem?_cons_zero,List.filterMap_map]
     congr 1
   have:=gen es.toList;rw[bA] at this;rw[<- this]
   congr 1
   funext i
   rw[fm]
  rw[this]
 have hw:=HY hl e;refine⟨t,o,e,e2,by rw[<- bA,e2.length_eq,bA],h1,?_,hw⟩;unfold SetTable.fits SetTable.fill;rw[hw.rC,h2,h1];simp;exact hsz
theorem Hb{es:Array (Int×Value)}{t:SetTable}{o:Array Nat}(hsz:(o.filterMap (es[·]?)).size=es.size){Q:Array (Int×Value)×SetTable->Shared->Prop}(h:Q (o.filterMap (es[·]?),t) s):wpAny (model prog w) A (do
  let some (t,order):=(some (t,o):Option (SetTable×Array Nat))|unsupported "internal:set-table-without-room"
  let lE:=order.filterMap (es[·]?)
  if lE.size != es.size then unsupported "internal:set-table-lost-an-element"
  pure (lE,t)) Q E s:=by
 dsimp only;rw[ax (by rw[hsz];simp)];exact ah h
theorem zc{h:Heap}{o:Obj}{es lE:Array (Int×Value)}{ep:Nat}{t t':SetTable}(ho:h.get? a=some o)(hd:o.data=.set es ep t):(h.update a (Obj.putSet lE t')).get? a=some { o with data:=.set lE (ep+1) t' }:=by
 have:=aW (Obj.putSet lE t') ho (by rw[kA lE t' hd];rfl);rw[kA lE t' hd] at this;exact this
theorem above:∀n,n<300->7<SetTable.sizeAbove n/\n<SetTable.sizeAbove n/\SetTable.sizeAbove n<=sizeLine:=by decide +kernel
theorem RO{ks:List Int}{n:Nat}{Q:Unit->Shared->Prop}(hS:j3 prog w s.heap a ks)(hs:∀k∈ks,Spot k)(hn:n<300)(hkn:ks.length<=n)(h:∀h',Heap.SameBut a s.heap h'->(∃o es ep t,h'.get? a=some o/\o.ExactSet/\o.data=.set es ep t/\ElemsOf (intKind prog w) es.toList/\(es.toList.map λe=>toI e.2).Perm ks/\ks.Nodup/\es.size<scanBound/\t.fits es.size=true/\Well (Led w) t/\t.mask=SetTable.sizeAbove n-1)->Q () { s with heap:=h' }):wpAny (model prog w) A (setRelay a n) Q E s:=by
 obtain⟨o,es,ep,t,ho,hx,hd,iw,hp,nk,hb,hf,hw⟩:=hS;obtain⟨a1,a2,a3⟩:=above n hn;have hsz:es.size=ks.length:=by rw[<- hp.length_eq];simp
 unfold setRelay;refine aa (aV ho hd hf ?_);dsimp only;rw[ax (by omega)];obtain⟨t2,od,e1,e2,e3,e4,e5,e6⟩:=JJ (w:=w) (finger:=t.finger) (moves:=t.movedTo (SetTable.sizeAbove n-1)) (led:=t.led) (plain:=t.plain) (mask:=SetTable.sizeAbove n-1) (by omega) (by omega) hw.led iw hp nk hs;unfold SetTable.relaid;rw[e1];refine aa (Hb e3 ?_);dsimp only;refine eA ho hd (h _ (bf s.heap a _) ⟨_,_,_,_,zc ho hd,hx,rfl,iw.perm e2,(e2.map _).trans hp,nk,by omega,by rw[e3];exact e5,e6,e4⟩) (eB (by omega))
theorem Pe{ks:List Int}{n:Nat}{Q:Unit->Shared->Prop}(hS:oV prog w s.heap a ks)(hs:∀k∈ks,Spot k)(hn:ks.length+n<100)(h:∀h',Heap.SameBut a s.heap h'->(∃o es ep t,h'.get? a=some o/\o.ExactSet/\o.data=.set es ep t/\ElemsOf (intKind prog w) es.toList/\(es.toList.map λe=>toI e.2).Perm ks/\ks.Nodup/\es.size<scanBound/\t.fits es.size=true/\Well (Led w) t/\(ks=[]->7<=t.mask)/\(ks=[]->n<=t.mask))->Q () { s with heap:=h' }):wpAny (model prog w) A (setRoomFor a n) Q E s:=by
 obtain⟨o,es,ep,t,ho,hx,hd,iw,hp,nk,hb,hf,hw,hm⟩:=id hS;have hsz:es.size=ks.length:=by rw[<- hp.length_eq];simp
 have gu:t.place.size=es.size:=by
  simp only[SetTable.fits,Bool.and_eq_true,beq_iff_eq] at hf;exact hf.1
 unfold setRoomFor;refine aa (aV ho hd hf ?_);dsimp only;by_cases c:(t.fill+n)*5>=t.mask*3
 ·have e:t.roomFor n=some ((t.place.size+n)*2):=by unfold SetTable.roomFor;rw[au c]
  rw[e];refine RO hS.toW hs (by omega) (by omega) λh' hk nz=>h h' hk ?_;obtain⟨o,es,ep,t',ho,hx,hd,iw,hp,nk,hb,hf,hw,hm⟩:=nz;obtain⟨a1,a2,a3⟩:=above ((t.place.size+n)*2) (by omega);exact⟨o,es,ep,t',ho,hx,hd,iw,hp,nk,hb,hf,hw,λ_=>by omega,λ_=>by omega⟩
 ·have e:t.roomFor n=none:=by unfold SetTable.roomFor;rw[ax c]
  rw[e];exact ah (h s.heap (iB a s.heap) ⟨o,es,ep,t,ho,hx,hd,iw,hp,nk,hb,hf,hw,hm,λ_=>by omega⟩)
theorem Qx{o:Obj}{es:Array (Int×Value)}{ep:Nat}{t:SetTable}{Q:Array (Int×Value)->Shared->Prop}(ho:s.heap.get? a=some o)(hd:o.data=.set es ep t)(hf:t.fits es.size=true)(hw:Well (Led w) t)(h:∀l d',l.toList.Perm es.toList->Q l { s with drawn:=d' }):wpAny (model prog w) A (setWalk a) Q E s:=by
 unfold setWalk;refine aa (aV ho hd hf ?_);dsimp only;refine aa (U4 ?_);cases hb:w.params.followText "set-order" with
 |true =>
  rw[au rfl];exact aa (qc (ah (h _ s.drawn (zo _ es))))
 |false =>
  rw[ax (by decide)];have hl:t.led=true:=by rw[hw.led];unfold Led;rw[hb];rfl
  split
  ·refine aa (Di _ _ _ _ (by simp) λys d hp=>ah (h _ d (by simpa using hp)))
  ·refine aa (m:=(do if(!t.led&&decide (es.size>1))=true then unsupported "set:maker-not-led")) ?_;rw[hl];exact ah (ah (h es s.drawn (gi _)))
theorem RL{l:List Addr}{Q:Bool->Shared->Prop}(hl:∀a∈l,∃o es ep t,s.heap.get? a=some o/\o.data=.set es ep t/\t.fits es.size=true/\ElemsOf (intKind prog w) es.toList)(h:Q true s):wpAny (model prog w) A (setsQuiet l) Q E s:=by
 unfold setsQuiet;refine aa (wpAny_forIn_list _ (λrest b s'=>b=(none,PUnit.unit)/\s'=s/\∀a∈rest,a∈l) _ (λx rest b s' p=>?_) (λb s' p=>?_) _ _ ⟨rfl,rfl,λ_ z=>z⟩)
 ·obtain⟨rfl,rfl,hm⟩:=p;obtain⟨o,es,ep,t,ho,hd,hf,iw⟩:=hl x (hm x (by simp));unfold setEntries;refine aa (aa (aV ho hd hf (ah ?_)));refine aa (wpAny_forIn_array' _ (λrest b s2=>b=(none,PUnit.unit)/\s2=s'/\∀e∈rest,e∈es.toList) _ (λy ET b s2 p=>?_) (λb s2 p=>?_) _ _ ⟨rfl,rfl,λ_ z=>z⟩)
  ·obtain⟨rfl,rfl,ot⟩:=p;obtain⟨tk,e1,_⟩:=Z2 iw (ot y (by simp));dsimp only;rw[e1];exact ah ⟨rfl,rfl,λe z=>ot e (by simp[z])⟩
  ·obtain⟨rfl,rfl,_⟩:=p;exact ah ⟨rfl,rfl,λe z=>hm e (by simp[z])⟩
 ·obtain⟨rfl,rfl,_⟩:=p;exact ah h
theorem Sx{r:Addr}{ks ms:List Int}{o:Obj}{es:Array (Int×Value)}{ep:Nat}{t:SetTable}{Q:Array (Int×Value)->Shared->Prop}(ho:s.heap.get? a=some o)(hd:o.data=.set es ep t)(hf:t.fits es.size=true)(hw:Well (Led w) t)(iw:ElemsOf (intKind prog w) es.toList)(hR:j3 prog w s.heap r ks)(h:∀l h' d',l.toList.Perm es.toList->Heap.SameBut r s.heap h'->j3 prog w h' r ks->Q l { s with heap:=h',drawn:=d' }):wpAny (model prog w) A (setWalkUnseen a [r] (some r)) Q E s:=by
 obtain⟨o',lE,yf,t',ka,uZ,pK,vB,lj,vj,kK,AQ,Al⟩:=id hR;have wk:wpAny (model prog w) A (setWalk a) Q E s:=Qx ho hd hf hw λl d' hp=>h l s.heap d' hp (iB r s.heap) hR;unfold setWalkUnseen;refine aa (aV ho hd hf ?_);dsimp only;refine aa (U4 ?_);split
 ·exact wk
 ·refine aa (RL (λb hb=>?_) ?_)
  ·simp only[List.mem_cons,List.mem_nil_iff,or_false] at hb;rcases hb with rfl|rfl
   ·exact⟨_,_,_,_,ho,hd,hf,iw⟩
   ·exact⟨_,_,_,_,ka,pK,AQ,vB⟩
  ·rw[ax (by decide)];refine aa (fN ?_);refine aa (aV ka pK AQ ?_);dsimp only;split
   ·refine aa (eA ka pK ?_ (eB kK));refine ah (h es _ s.drawn (gi _) (bf s.heap r _) ⟨_,_,_,_,zc ka pK,uZ,rfl,vB,lj,vj,kK,AQ,⟨Al.su,Al.rC,?_⟩⟩);show(t'.led&&t.led)=_;rw[Al.led,hw.led,Bool.and_self]
   ·exact ah (h es s.heap s.drawn (gi _) (iB r s.heap) hR)
theorem KQ{es:Array (Int×Value)}{ks:List Int}(hp:(es.toList.map λe=>toI e.2).Perm ks):es.size=ks.length:=by rw[<- hp.length_eq];simp
theorem Zo{t:SetTable}{n:Nat}(hf:t.fits n=true):t.place.size=n:=by
 simp only[SetTable.fits,Bool.and_eq_true,beq_iff_eq] at hf;exact hf.1
theorem JP{r o:Addr}{ks ms:List Int}{each:Sem Unit}{Q:Unit->Shared->Prop}(hR:oV prog w s.heap r ks)(hO:j3 prog w s.heap o ms)(dW:r≠o)(pG:∀k∈ks,Spot k)(kc:∀k∈ms,Spot k)(hl:ks.length+ms.length<100)(Nf:∀(s':Shared) (Q':Unit->Shared->Prop),s'.heap.get? o=s.heap.get? o->Q' () s'->wpAny (model prog w) A each Q' E s')(h:∀h' d' us,(∀b o',b≠r->s.heap.get? b=some o'->h'.get? b=some o')->oV prog w h' r us->us.Nodup->(∀k,k∈us↔k∈ks\/k∈ms)->Q () { s with heap:=h',drawn:=d' }):wpAny (model prog w) A (setMerge r o each) Q E s:=by
 obtain⟨oo,eo,epo,to,xN,hox,As,mE,om,sJ,Fs,xO,how⟩:=id hO;have hsz:=KQ om;have nk:ks.Nodup:=let ⟨_,_,_,_,_,_,_,_,_,z,_⟩:=hR;z
 unfold setMerge;rw[ax (by simpa using dW)];refine aa (aV xN As xO ?_);dsimp only;by_cases he:eo.size=0
 ·rw[au (by simpa[Array.isEmpty] using he)];have Fw:ms=[]:=dC (by omega);exact ah (h s.heap s.drawn ks (λb o' _ e=>e) hR nk λk=>by rw[Fw];simp)
 rw[ax (by simpa[Array.isEmpty] using he)];have vk:ms≠[]:=λz=>he (by rw[hsz,z];rfl);refine aa (Pe hR pG (by omega) λh1 sO NA=>?_);obtain⟨or',es,ep,ts,sI,hx,hd,iw,hp,_,hb,hf,hw,MO,Ay⟩:=id NA;have MV:h1.get? o=some oo:=by rw[<- xN];exact sO.2 o (aL dW)
 have AH:∀b o',b≠r->s.heap.get? b=some o'->h1.get? b=some o':=λb o' hb e=>by rw[<- e];exact sO.2 b hb
 refine aa (aV (s:={ s with heap:=h1 }) sI hd hf ?_);dsimp only;have pH:ts.fill=ks.length:=by
  unfold SetTable.fill;rw[hw.rC,Zo hf,KQ hp]
  rfl
 have vn:(ts.led&&to.led)=Led w:=by rw[hw.led,how.led,Bool.and_self]
 by_cases AJ:ks=[]
 ·subst AJ;have vf:ts.road to=.slotForSlot\/ts.road to=.clean:=by
   unfold SetTable.road;rw[ax (by rw[pH];simp)];split
   ·exact .inl rfl
   ·exact .inr rfl
  rcases vf with hr|hr
  ·rw[hr];dsimp only;refine eA (s:={ s with heap:=h1 }) sI hd (h _ s.drawn ms (λb o' hb e=>?_) ⟨_,_,_,_,zc sI hd,hx,rfl,mE,om,sJ,Fs,xO,⟨how.su,how.rC,vn⟩,λz=>absurd z vk⟩ sJ λk=>by simp) (eB Fs);rw[<- AH b o' hb e];exact(bf h1 r _).2 b hb
  ·rw[hr];dsimp only;obtain⟨t2,od,e1,e2,e3,e4,e5,e6⟩:=JJ (w:=w) (finger:=ts.finger) (moves:=ts.moves) (led:=ts.led&&to.led) (plain:=ts.plain&&to.plain) (mask:=ts.mask) (MO rfl) (Ay rfl) vn mE om sJ kc;rw[e1];refine aa (Hb e3 ?_);dsimp only;refine eA (s:={ s with heap:=h1 }) sI hd (h _ s.drawn ms (λb o' hb e=>?_) ⟨_,_,_,_,zc sI hd,hx,rfl,mE.perm e2,(e2.map _).trans om,sJ,by omega,by rw[e3];exact e5,e6,λz=>absurd z vk⟩ sJ λk=>by simp) (eB (by omega));rw[<- AH b o' hb e];exact(bf h1 r _).2 b hb
 ·have hr:ts.road to=.oneByOne:=by
   unfold SetTable.road;rw [au (by
    rw[pH];have:ks.length≠0:=λz=>AJ (dC z);simpa using this)]
  rw[hr];dsimp only;have Nw:j3 prog w h1 r ks:=⟨or',es,ep,ts,sI,hx,hd,iw,hp,nk,hb,hf,hw⟩
  refine aa (Sx (s:={ s with heap:=h1 }) (ms:=ms) MV As xO how mE Nw λl h2 d2 AA AI Nz=>?_);refine aa (wpAny_forIn_array' _ (λrest b s'=>∃us h',s'={ s with heap:=h',drawn:=d2 }/\us.Nodup/\us≠[]/\us.length+rest.length<1000/\j3 prog w h' r us/\(∀b o',b≠r->s.heap.get? b=some o'->h'.get? b=some o')/\(∀k,(k∈us\/k∈rest.map λe=>toI e.2)↔(k∈ks\/k∈ms))/\∀e∈rest,e∈eo.toList) _ (λx rest b s' p=>?_) (λb s' p=>?_) _ _ ⟨ks,h2,rfl,nk,AJ,?_,Nz,λb o' hb e=>?_,λk=>?_,λe he=>AA.mem_iff.mp he⟩)
  ·obtain⟨us,h',rfl,An,qP,va,AZ,kI,qT,mB⟩:=p;obtain⟨x1,x2⟩:=x;obtain⟨tk,e1,e2⟩:=Z2 mE (mB (x1,x2) (by simp));dsimp only at e1 e2 ⊢;generalize toI x2=k at e1 e2;subst e1;subst e2;refine aa (bq (Gx (s:={ s with heap:=h',drawn:=d2 }) AZ (by simp at va;exact cX (by omega) (show 1000<scanBound by decide)) λh3 b3 Fy xV=>?_));have Ft:h3.get? o=some oo:=by
    rw[Fy.2 o (aL dW)];exact kI o oo (aL dW) xN
   refine aa (Nf _ _ (by rw[xN];exact Ft) ?_);refine aa (aV (s:={ s with heap:=h3,drawn:=d2 }) Ft As xO ?_);rw[ax (by simp)];refine ah ⟨C9 us k,h3,rfl,?_,?_,?_,xV,λb o' hb e=>?_,λj=>?_,λe he=>mB e (by simp[he])⟩
   ·exact U8 [k] us An
   ·unfold C9;split
    ·exact qP
    ·simp
   ·have:=Kj us k;simp at va;omega
   ·rw[Fy.2 b hb];exact kI b o' hb e
   ·rw[<- qT j];have:=E3 [k] us j;simp only[i4,List.foldl_cons,List.foldl_nil] at this;rw[this];simp[toI,or_assoc]
  ·obtain⟨us,h',rfl,An,qP,va,AZ,kI,qT,mB⟩:=p;exact ah (h h' d2 us kI (AZ.toV qP) An λk=>by rw[<- qT k];simp)
  ·have e1:=AA.length_eq;have e2:eo.toList.length=eo.size:=bA;omega
  ·rw[AI.2 b hb];exact AH b o' hb e
  ·rw[(AA.map _).mem_iff,om.mem_iff]
theorem SD(hT:s.TypeIs (.ref a) "set"){Q:Value->Shared->Prop}(h:Q (.type "set") s):wpAny (model prog w) A (Builtin.Frozenset.baseOf a) Q E s:=by
 unfold Builtin.Frozenset.baseOf;refine aa (eT (b:=true) hT (by rw[eK];kernel_rfl) ?_);exact ah h
theorem Ci(hT:s.TypeIs (.ref a) "set"){Q:Bool->Shared->Prop}(h:Q true s):wpAny (model prog w) A (Builtin.Frozenset.isAnySet (.ref a)) Q E s:=by
 unfold Builtin.Frozenset.isAnySet;refine aa (eT (b:=true) hT (by rw[eK];kernel_rfl) ?_);exact ah h
theorem Eh{h:Heap}{ks:List Int}(x:j3 prog w h a ks):∃o,h.get? a=some o/\o.cls=.type "set":=by
 obtain⟨o,_,_,_,e,hx,_⟩:=x;exact⟨o,e,hx.1⟩
theorem Zm:entryFor table "set.__or__"=some Builtin.«frozenset.__or__»:=zB (id':="frozenset.__or__") (by kernel_rfl) rfl (by decide +kernel) (by kernel_rfl)
theorem Xc{ks:List Int}{Q:Value->Shared->Prop}(hA:j3 prog w s.heap a ks)(pG:∀k∈ks,Spot k)(hl:ks.length<100)(h:∀h' d' us,(∀c o',s.heap.get? c=some o'->h'.get? c=some o')->oV prog w h' s.heap.objs.size us->us.Nodup->(∀k,k∈us↔k∈ks)->Q (.ref s.heap.objs.size) { s with heap:=h',drawn:=d' }):wpAny (model prog w) A (Builtin.Frozenset.copyOf a) Q E s:=by
 obtain⟨oa,ea,ca⟩:=Eh hA;have la:=aB ea;unfold Builtin.Frozenset.copyOf;refine aa (SD ⟨oa,ea,ca⟩ ?_);refine aa (JQ ?_);refine aa (m:=Builtin.Frozenset.addrOf (.ref s.heap.objs.size)) (ah ?_);have hE:(s.heap.push (u4 w)).get? s.heap.objs.size=some (u4 w):=aF _ rfl;obtain⟨o,es,ep,t,h1,h2,h3,h4,h5,h6,h7,h8,h9⟩:=HR (prog:=prog) hE;have hV:oV prog w (s.heap.push (u4 w)) s.heap.objs.size []:=⟨_,#[],0,.fresh 0 0 (Led w),hE,⟨rfl,rfl,rfl⟩,rfl,by simp[ElemsOf],by simp,by simp,by decide,rfl,Im,λ_=>aj 7⟩
 refine aa (JP (s:={ s with heap:=s.heap.push (u4 w) }) (each:=pure ()) hV (hA.at λo e=>ai _ e) (cB la) (λk hk=>by simp at hk) pG (by simpa using hl) (λs' Q' _ q=>ah q) λh' d' us hk hS hn hm=>?_);exact ah (h h' d' us (λc o' e=>hk c o' (aR (aB e)) (ai _ e)) hS hn λk=>by rw[hm k];simp)
theorem TZ{b:Addr}{ks ms:List Int}{Q:Value->Shared->Prop}(hA:j3 prog w s.heap a ks)(hB:j3 prog w s.heap b ms)(qY:a≠b)(pG:∀k∈ks,Spot k)(kc:∀k∈ms,Spot k)(hl:ks.length+ms.length<90)(h:∀h' d' us,(∀c o',s.heap.get? c=some o'->h'.get? c=some o')->j3 prog w h' s.heap.objs.size us->us.Nodup->(∀k,k∈us↔k∈ks\/k∈ms)->Q (.ref s.heap.objs.size) { s with heap:=h',drawn:=d' }):wpAny (model prog w) A (binaryOp .BitOr (.ref a) (.ref b)) Q E s:=by
 obtain⟨oa,ea,ca⟩:=Eh hA;obtain⟨ob,eb,cb⟩:=Eh hB;have Bc:s.TypeIs (.ref a) "set":=⟨oa,ea,ca⟩
 have FK:s.TypeIs (.ref b) "set":=⟨ob,eb,cb⟩
 have la:=aB ea;have lb:=aB eb;refine wpAny_binaryOp_same (op:=.BitOr) Bc FK F.fills_set_or F.slot_set_or (bY F.slot_set_or Bc Zm ?_ (F.args_set_or_2 _ _));refine aa (m:=Builtin.Frozenset.slot1 "__or__" ⟨[.ref a,.ref b],[]⟩) (dh (a:=(.ref a,.ref b)) rfl ?_);dsimp only;refine aa (aa (Ci Bc ?_));refine Ci FK ?_;refine aa (m:=Builtin.Frozenset.addrOf (.ref a)) (ah ?_);have hU:∀(us:List Int) (h':Heap),oV prog w h' s.heap.objs.size us->(∀k∈us,Spot k)->us.Nodup->us.length<=8:=λus h' _ hs hn=>by
  have:us.Sublist us:=List.Sublist.refl _;have hp:us.Perm ((List.range 8).map (λ(n:Nat)=>(n:Int)) |>.filter (·∈us)):=by
   refine(cK hn ?_).mpr λk=>?_
   ·exact Lw jh (by decide)
   ·rw[bS];constructor
    ·intro hk;refine⟨?_,by simpa using hk⟩;obtain⟨h0,h8⟩:=hs k hk;rw[aS];exact⟨k.toNat,gf.mpr (by omega),by omega⟩
    ·rintro⟨_,hk⟩;simpa using hk
  rw[hp.length_eq];exact aM (fh _ _) (by decide)
 refine aa (aa (Xc hA pG (by omega) λh1 d1 us sO xW MN Fv=>?_));have sE:∀k∈us,Spot k:=λk hk=>pG k ((Fv k).mp hk);have va:=hU us h1 xW sE MN;dsimp only;rw[au (by simp[Ne.symm qY])];have Bb:Shared.TypeIs { s with heap:=h1,drawn:=d1 } (.ref b) "set":=⟨ob,sO b ob eb,cb⟩
 refine aa (m:=Builtin.Frozenset.addrOf (.ref s.heap.objs.size)) (ah ?_);refine aa (bq ?_);unfold Builtin.Frozenset.updateFrom;refine aa (Ci Bb ?_);rw[au rfl];refine aa (m:=Builtin.Frozenset.addrOf (.ref b)) (ah ?_);unfold Builtin.Frozenset.merge;have FQ:j3 prog w h1 b ms:=hB.at (sO b);obtain⟨o,es,ep,t,ho,hx,hd,iw,hp,hn,hb,hf,hw⟩:=id FQ;have FC:∀(s':Shared) (Q':Nat->Shared->Prop),s'.heap.get? b=some o->Q' ep s'->wpAny (model prog w) A.in1 (setEpoch b) Q' E s':=λs' Q' e q=>by
  unfold setEpoch;exact aa (aV e hd hf (ah q))
 refine aa (FC _ _ ho ?_);refine JP (s:={ s with heap:=h1,drawn:=d1 }) xW FQ (cB lb) sE kc (by omega) (λs' Q' e q=>?_) λh2 d2 vs AI rf mF ot=>?_
 ·unfold Builtin.Frozenset.unchanged;refine aa (FC _ _ (e.trans ho) ?_);rw[ax (by simp)];exact ah q
 ·refine ah (ah ⟨_,rfl,by simp,?_⟩);exact h h2 d2 vs (λc o' e=>AI c o' (aR (aB e)) (sO c o' e)) rf.toW mF λk=>by rw[ot k,Fv k]
end
end ST
namespace L2
open PySem PySem.Spec PyProof.Rows
variable{X:Cx}
theorem Yy:ft X (binaryOp .BitOr) (λx y H Q=>∃a b ns ms,x=.ref a/\y=.ref b/\a≠b/\H a=some (V8 X a (ST.i4 [] ns))/\H b=some (V8 X b (ST.i4 [] ms))/\(∀k∈ns,ST.Spot k)/\(∀k∈ms,ST.Spot k)/\ns.length+ms.length<50 /\
  ∀ p,H p=none->Q (.ref p) (upd H p (V8 X p (ST.i4 [] (ns ++ ms))))):=by
 intro pins s σ H x y v u Q I rx ry h;obtain⟨a,b,ns,ms,rfl,rfl,qY,ha,hb,sL,kc,hl,q⟩:=h;cases rx;cases ry;have hA:ST.j3 X.prog X.w s.heap a (ST.i4 [] ns):=(I.bG a _ ha).1;have hB:ST.j3 X.prog X.w s.heap b (ST.i4 [] ms):=(I.bG b _ hb).1;have l1:=ST.E7 ns [];have l2:=ST.E7 ms [];have m1:=ST.E3 ns [];have m2:=ST.E3 ms [];refine ST.TZ hA hB qY (λk hk=>sL k (by simpa using(m1 k).mp hk)) (λk hk=>kc k (by simpa using(m2 k).mp hk)) (by simp at l1 l2;omega) λh' d' us hk hS hn hm=>?_;have nz:ST.j3 X.prog X.w h' s.heap.objs.size (ST.i4 [] (ns ++ ms)):=hS.same ((cK hn (ST.U8 _ _ (by simp))).mpr λk=>by
  rw[hm k,m1 k,m2 k,ST.E3];simp)
 exact⟨.ref _,_,(I.laid (a:=s.heap.objs.size) (t':=s.toks) hk (aj _) (Cy nz)).draw d',rfl,q _ (I.bG.fresh (aj _))⟩
end L2

namespace ST
open PySem PyProof.Rows
section
variable{prog:Program}{w:World}{A:Around}{E:Value->Shared->Prop}{s:Shared}{a:Addr}{ep:Nat}{K:Type}[DecidableEq K]{knd:PySem.KeyKind prog w K}{kvs:List (K×Value)}
end
end ST
namespace L2
open PySem PySem.Spec PyProof.Rows
section
variable{X:Cx}
end
end L2

namespace L2
open PySem PySem.Spec PyProof.Rows
section
variable{X:Cx}
theorem a22(hc:X.calm=true):l9 X (.builtin "all") (λxs H Q=>∃(a:Addr) (ns:List Int),xs=[.ref a]/\gx X.K H a (ns.map V.int)/\Q (.bl (ns.all λn=>n != 0)) H):=by
 intro pins s σ H xs us Q I r h;obtain⟨a,ns,rfl,ha,q⟩:=h;obtain⟨u,rfl,ru⟩:=vals1 r;cases ru;obtain⟨aT,rv,p,hz⟩:=I.list ha;refine call_all_walk ?_;refine iy p.isList ?_;have dW:a≠s.heap.objs.size:=by
  obtain⟨o,e,_⟩:=id p.isList;exact aR (aB e)
 have hl:=rv.length;rw[ak] at hl;refine⟨s.heap.objs.size,_,_,_,_,_,λi=>ns.getD i 1 != 0,rfl,Walks.list (A:=X.A.in1) (I.ok.hd hc) _ a dW aT.toArray,⟨⟨_,aF _ rfl,rfl,rfl⟩,?_⟩,?_,λh' tk k=>?_⟩
 ·obtain⟨o,e,q1⟩:=id p.isList;exact⟨o,ai _ e,q1⟩
 ·intro i v s' Q' E' hP hQ;have hv:aT[i]?=some v:=by simpa using hP
  have hi:i<ns.length:=by rw[hl];exact(aq.mp hv).1
  obtain⟨u',vb,zR⟩:=rv.get (i:=i) (x:=V.int ns[i]) (by rw[aE,ao hi];rfl);rw[hv] at vb;cases vb;obtain⟨t,rfl⟩:=zR;refine truthy_int ?_;have:ns.getD i 1=ns[i]:=by simp[List.getD,hi]
  dsimp only at hQ;rw[this] at hQ;exact hQ
 ·have e1:(List.range aT.toArray.size).all (λi=>ns.getD i 1 != 0)=ns.all λn=>n != 0:=by
   rw[ay,<- hl];rw[cq];simp only[List.all_eq_true,List.mem_range];constructor
   ·intro hh x hx;obtain⟨i,hi,rfl⟩:=dS.mp hx;have:=hh i hi;simpa[List.getD,hi] using this
   ·intro hh i hi;have:=hh ns[i] (dY hi);simpa[List.getD,hi] using this
  rw[e1];exact ⟨.bl _,H,I.kept (t':=tk) λb o e=>k b o (by
   intro hb;have:b=s.heap.objs.size:=by simpa using hb
   exact absurd (aB e) (by rw [this];exact bL _)) (ai _ e),rfl,q⟩
theorem XQ:l9 X (.builtin "len") (λxs H Q=>∃a,∃ks:List Int,xs=[.ref a]/\H a=some (V8 X a ks)/\Q (.int ks.length) H):=by
 intro pins s σ H xs us Q I r h;obtain⟨a,ks,rfl,ha,q⟩:=h;obtain⟨u,rfl,ru⟩:=vals1 r;cases ru;have hS:ST.j3 X.prog X.w s.heap a ks:=(I.bG a _ ha).1;obtain⟨o,es,ep,t,e,ex,ed,_,hp,nd,hz,hf,_⟩:=hS;have hl:es.size=ks.length:=by have:=hp.length_eq;simpa using this
 refine call_len_set e ex ed hf (by have:scanBound<2 ^ 62:=(by decide);omega) ⟨.int ks.length,H,I.tok _,⟨_,by rw[hl]⟩,q⟩
end
end L2

namespace L2
open PySem PySem.Spec PyProof.Rows
section
variable{X:Cx}
theorem Yx:ft X (compareOp .In) (λx y H Q=>∃i a S n,x=.int i/\y=.ref a/\H a=some (.set S n)/\Q (.bl (S i)) H):=by
 intro pins s σ H x y v u Q I rx ry h;obtain⟨i,a,S,n,rfl,rfl,ha,q⟩:=h;obtain⟨t,rfl⟩:=rx;cases ry;exact wpAny_inSet_of (knd:=intKind X.prog X.w) (k:=i) (zA _ _ _ _) rfl (I.bG a _ ha) ⟨.bl (S i),H,I.tok _,rfl,q⟩
theorem aC1:ft X (compareOp .NotIn) (λx y H Q=>∃i a S n,x=.int i/\y=.ref a/\H a=some (.set S n)/\Q (.bl (!S i)) H):=by
 intro pins s σ H x y v u Q I rx ry h;obtain⟨i,a,S,n,rfl,rfl,ha,q⟩:=h;obtain⟨t,rfl⟩:=rx;cases ry;exact wpAny_notInSet_of (knd:=intKind X.prog X.w) (k:=i) (zA _ _ _ _) rfl (I.bG a _ ha) ⟨.bl (!S i),H,I.tok _,rfl,q⟩
end
end L2

namespace ST
open PySem PyProof.Rows
section
variable{prog:Program}{w:World}{A:Around}{E:Value->Shared->Prop}{s:Shared}{a:Addr}
end
end ST
namespace L2
open PySem PyProof.Rows
def Wt(ns:List Int):List Int:=ns.mergeSort (λa b=>decide (a<=b))
section
variable{X:Cx}
end
end L2

namespace M
open PySem L2
set_option genInjectivity true in
inductive D where
 |aQ|bl (b:Bool)|int (i:Int)|str (x:Str)|ty (n:String)|ref (i:Nat)|tup (l:List D)
set_option genInjectivity true in
inductive O where
 |lst (l:List D)|oR (l:List D)
 |bV (kvs:List (Key×D))
 |ins (c:Str) (fs:List (Str×D))
 |set (S:Int->Bool) (n:Nat)
def O.mut:O->Bool
 |.oR _=>false
 |_=>true
def pb:D->Option Key
 |.int i=>some (.inl i)
 |.str x=>some (.inr x)
 |_=>none
def K2(kvs:List (Key×D))(k:Key):Option D:=(kvs.find? λkv=>decide (kv.1=k)).map (·.2)
def putD(kvs:List (Key×D))(k:Key)(v:D):List (Key×D) :=
 if(kvs.any λkv=>decide (kv.1=k))=true then kvs.map (λkv=>if kv.1=k then(kv.1,v) else kv) else kvs++[(k,v)]
def q8(f:Str)(v:D):List (Str×D)->List (Str×D)
 |[]=>[(f,v)]
 |(g,x)::r=>if g=f then(g,v)::r else(g,x)::q8 f v r
def rZ:List D->Str->Option D
 |.tup [.str y,v]::r,x=>if x=y then some v else rZ r x
 |_::_,_=>none
 |[],_=>none
def V4:List D->Option Str
 |[]=>some Str.empty
 |.str x::r=>(V4 r).map λy=>x++y
 |_=>none
structure Xn where
 cls:Str
noncomputable abbrev G:=List O
noncomputable abbrev S:=List (Option D)
noncomputable abbrev KD:=D->G->Prop
noncomputable abbrev KX:=Xn->G->Prop
noncomputable abbrev jz:KX:=λ_ _=>False
def DZ:Option O->Option (List D)
 |some (.lst l)=>some l
 |some (.oR l)=>some l
 |_=>none
noncomputable abbrev d5(g:G)(a:Nat):Option (List D):=DZ g[a]?
def rd(g:G):Nat->D->Option PyData
 |_,.aQ=>some .none
 |_,.bl b=>some (.bool b)
 |_,.int i=>some (.int i)
 |_,.str x=>some (.str x)
 |_,.ty _=>none
 |0,.ref _=>none
 |0,.tup _=>none
 |n+1,.ref a=>match d5 g a with
  |some l=>(l.mapM (rd g n)).map .list
  |none=>none
 |n+1,.tup l=>(l.mapM (rd g n)).map .tuple
def zT(g:G)(l:List D):Option (List PyData):=l.mapM (rd g 6)
def B1(g:G):D->Option (List D)
 |.tup l=>some l
 |.ref a=>d5 g a
 |_=>none
def V5:D->Bool
 |.aQ=>true
 |_=>false
def cut{α:Type}(xs:List α)(lo hi:Option Int):List α:=(xs.drop (HT.dE xs.length 0 lo)).take (HT.dE xs.length xs.length hi-HT.dE xs.length 0 lo)
def rO(g:G)(x:D)(c:String):Option Bool:=match x with
 |.aQ=>some (c=="NoneType")
 |.bl _=>some (c=="bool"||c=="int")
 |.int _=>some (c=="int")
 |.str _=>some (c=="str")
 |.tup _=>some (c=="tuple")
 |.ref a=>match g[a]? with
  |some (.lst _)=>some (c=="list")
  |_=>none
 |.ty _=>none
def k8(lo:Int)(n:Nat):List D:=(List.range n).map λ(k:Nat)=>.int (lo+k)
def O8:List D->Option Bool
 |[]=>some true
 |.bl b::r=>(O8 r).map λc=>b&&c
 |_=>none
inductive Pr where
 |bin (op:Operator)|un (op:UnaryOp)|cmp (op:CmpOp)
 |ix|jF (lo hi:Bool)|rev|tup|lst|mV
 |len|list|tuple|isin|all|max|min|int|str|jK|jJ|sset|uw|jU
 |FV|oQ|mT|fv|lD|fld (f:Str)
 |append|pop|get|index|join|iadd|clear|jk|extend|any|uA|sum|rP|qO|uE|uD (i:Int)
noncomputable abbrev DR:=List D->G->D->G->Prop
def Ya:Operator->Int->Int->Int->Prop
 |.Add,i,j,r=>r=i+j
 |.Sub,i,j,r=>r=i-j
 |.Mult,i,j,r=>rH i j/\r=i*j
 |.FloorDiv,i,j,r=>BO i j/\r=i / j
 |.Mod,i,j,r=>0<j/\r=i % j
 |.Pow,i,j,r=>oU i j/\r=i ^ j.toNat
 |.LShift,i,j,r=>oU i j/\r=i*2 ^ j.toNat
 |.BitAnd,i,j,r=>r=Builtin.bitAnd i j
 |.BitOr,i,j,r=>r=Builtin.bitOr i j
 |_,_,_,_=>False
def Te(op:Operator):DR:=λxs g d g' =>
 (∃i j r,xs=[.int i,.int j]/\Ya op i j r/\d=.int r/\g'=g) \/
 (op=.Add/\((∃ l m,xs=[.tup l,.tup m]/\l.length + m.length <= 100000/\d=.tup (l ++ m)/\g'=g) \/
  (∃a b l m,xs=[.ref a,.ref b]/\g[a]?=some (.lst l)/\g[b]?=some (.lst m)/\l.length+m.length<=100000/\d=.ref g.length/\g'=g++[.lst (l++m)]) \/
  (∃ x y,xs=[.str x,.str y]/\x.length + y.length <= 100000/\d=.str (x ++ y)/\g'=g))) \/
 (op=.Mult/\((∃ a l n,xs=[.ref a,.int n]/\g[a]?=some (.lst l)/\-(2 ^ 62) <= n/\n < 2 ^ 62/\l.length * n.toNat <= 100000/\d=.ref g.length/\g'=g ++ [.lst (List.replicate n.toNat l).flatten]) \/
  (∃ l n,xs=[.tup l,.int n]/\l ≠ []/\1 <= n/\n < 2 ^ 62/\l.length * n.toNat <= 100000/\d=.tup (List.replicate n.toNat l).flatten/\g'=g)))
def LF(op:UnaryOp):DR:=λxs g d g'=>op=.USub/\∃i,xs=[.int i]/\d=.int (-i)/\g'=g
def wu(g:G)(x y:D)(b:Bool):Prop :=
 (∃i j,x=.int i/\y=.int j/\b=decide (i=j))\/(∃i j,x=.bl i/\y=.bl j/\b=(i==j))\/(∃i j,x=.str i/\y=.str j/\b=decide (i=j)) \/
 ∃p q,rd g 6 x=some p/\rd g 6 y=some q/\p.canLay0=true/\q.canLay0=true/\b=PyData.eqv p q
def inR(g:G)(x y:D)(b:Bool):Prop :=
 (∃a kvs c,y=.ref a/\g[a]?=some (.bV kvs)/\pb x=some c/\b=(K2 kvs c).isSome) \/
 ∃l ps p,B1 g y=some l/\zT g l=some ps/\rd g 6 x=some p/\PyData.canLayAll0 ps=true/\p.canLay0=true/\b=(ps.any λq=>PyData.eqv q p)
def Gm(g:G)(x y:D)(b:Bool):Prop:=∃a S n i,y=.ref a/\g[a]?=some (.set S n)/\x=.int i/\b=S i
def Hv(g:G)(x y:D)(b:Bool):CmpOp->Prop
 |.Eq=>wu g x y b
 |.NotEq=>wu g x y (!b)
 |.In=>inR g x y b\/Gm g x y b
 |.NotIn=>inR g x y (!b)\/Gm g x y (!b)
 |.Lt=>∃i j,x=.int i/\y=.int j/\b=decide (i<j)
 |.LtE=>∃i j,x=.int i/\y=.int j/\b=decide (i<=j)
 |.Gt=>∃i j,x=.int i/\y=.int j/\b=decide (j<i)
 |.GtE=>∃i j,x=.int i/\y=.int j/\b=decide (j<=i)
 |.Is=>y=.aQ/\b=V5 x
 |.IsNot=>y=.aQ/\b=!V5 x
def Tj(op:CmpOp):DR:=λxs g d g'=>∃x y b,xs=[x,y]/\Hv g x y b op/\d=.bl b/\g'=g
def Gq(g:G)(x:D)(b:Bool):Prop :=
 (x=.aQ/\b=false)\/x=.bl b\/(∃i,x=.int i/\b=(i != 0))\/(∃l,x=.tup l/\b=!l.isEmpty)\/∃a l,x=.ref a/\d5 g a=some l/\b=!l.isEmpty
def Mx:DR:=λxs g d g'=>g'=g/\((∃x l i,xs=[x,.int i]/\B1 g x=some l/\fW l i=some d)\/(∃a kvs y c,xs=[.ref a,y]/\g[a]?=some (.bV kvs)/\pb y=some c/\K2 kvs c=some d) \/
 ∃ x i c,xs=[.str x,.int i]/\x.length <= 100000/\fW x.cps.toList i=some c/\d=.str ⟨#[c]⟩)
def uB(x:D)(lo hi:Option Int)(g:G)(d:D)(g':G):Prop:=(∃l,x=.tup l/\d=.tup (cut l lo hi)/\g'=g)\/∃a l,x=.ref a/\d5 g a=some l/\d=.ref g.length/\g'=g++[.lst (cut l lo hi)]
def Uu:Bool->Bool->DR
 |false,false,xs,g,d,g'=>∃x,xs=[x]/\uB x none none g d g'
 |true,false,xs,g,d,g'=>∃x i,xs=[x,.int i]/\uB x (some i) none g d g'
 |false,true,xs,g,d,g'=>∃x j,xs=[x,.int j]/\uB x none (some j) g d g'
 |true,true,xs,g,d,g'=>∃x i j,xs=[x,.int i,.int j]/\uB x (some i) (some j) g d g'
def Um:DR:=λxs g d g'=>(∃l,xs=[.tup l]/\d=.tup l.reverse/\g'=g)\/∃a l,xs=[.ref a]/\d5 g a=some l/\d=.ref g.length/\g'=g++[.lst l.reverse]
def UQ:DR:=λxs g d g'=>xs.length<=1000/\d=.tup xs/\g'=g
def TC:DR:=λxs g d g'=>xs.length<=1000/\d=.ref g.length/\g'=g++[.lst xs]
def tE:List D->List (Key×D)->Option (List (Key×D))
 |[],kvs=>some kvs
 |k::v::r,kvs=>(pb k).bind λc=>tE r (putD kvs c v)
 |_,_=>none
def Vr:DR:=λxs g d g'=>xs=[]/\d=.ref g.length/\g'=g++[.bV []]
def TB:DR:=λxs g d g'=>g'=g/\((∃x l,xs=[x]/\B1 g x=some l/\d=.int l.length)\/(∃a kvs,xs=[.ref a]/\g[a]?=some (.bV kvs)/\d=.int kvs.length)\/∃x,xs=[.str x]/\x.length<=100000/\d=.int x.length)
def VN:DR:=λxs g d g'=>(∃x l,xs=[x]/\B1 g x=some l/\d=.ref g.length/\g'=g++[.lst l])\/False
def Qo:DR:=λxs g d g'=>∃x l,xs=[x]/\B1 g x=some l/\d=.tup l/\g'=g
def VE:DR:=λxs g d g'=>∃x c b,xs=[x,.ty c]/\c∈["int","bool","str","tuple","list"]/\rO g x c=some b/\d=.bl b/\g'=g
def allR:DR:=λxs g d g'=>∃a l b,xs=[.ref a]/\d5 g a=some l/\(O8 l=some b\/∃ns:List Int,l=ns.map .int/\b=ns.all λn=>n != 0)/\d=.bl b/\g'=g
def Gy:List D->Option Bool
 |[]=>some false
 |.bl b::r=>(Gy r).map λc=>b||c
 |_=>none
def anyR:DR:=λxs g d g'=>∃a l b,xs=[.ref a]/\d5 g a=some l/\Gy l=some b/\d=.bl b/\g'=g
def PN:DR:=λxs g d g'=>False\/∃x,∃ns:List Int,xs=[x]/\B1 g x=some (ns.map .int)/\ns.length<=10000/\d=.ref g.length/\g'=g++[.lst ((Wt ns).map .int)]
def TF:DR:=λxs g d g'=>g'=g/\((∃i j,xs=[.int i,.int j]/\d=.int (if j>i then j else i))\/∃a,∃(ns:List Int) (M:Int),xs=[.ref a]/\d5 g a=some (ns.map .int)/\M∈ns/\(∀x∈ns,x<=M)/\d=.int M)
def TH:DR:=λxs g d g'=>g'=g/\((∃i j,xs=[.int i,.int j]/\d=.int (if j<i then j else i))\/∃a,∃(ns:List Int) (M:Int),xs=[.ref a]/\d5 g a=some (ns.map .int)/\M∈ns/\(∀x∈ns,M<=x)/\d=.int M)
def Wq:DR:=λxs g d g'=>∃a i S n,xs=[.ref a,.int i]/\g[a]?=some (.set S n)/\n+1<4096/\d=.aQ/\g'=g.set a (.set (λk=>S k||decide (k=i)) (if S i then n else n+1))
def Ph(i:Int):DR:=λxs g d g'=>xs=[]/\d=.ref g.length/\g'=g++[.set (λk=>decide (k=i)) 1]
def Uw:DR:=λxs g d g'=>∃a,∃ns:List Int,xs=[.ref a]/\d5 g a=some (ns.map .int)/\d=.int ns.sum/\g'=g
def VO:DR:=λxs g d g'=>∃a,∃ns:List Int,xs=[.ref a]/\d5 g a=some (ns.map .int)/\ns.length<60/\d=.int (ST.i4 [] ns).length/\g'=g
def VF:DR:=λxs g d g'=>∃i j,xs=[.int i,.int j]/\d=.int (i-j)/\g'=g
def Tx:DR:=λxs g d g'=>g'=g/\((∃i,xs=[.int i]/\d=.int i)\/∃b,xs=[.bl b]/\d=.int (if b then 1 else 0))
def Uv:DR:=λxs g d g'=>(∃i,xs=[.int i]/\i.natAbs.log2<1920/\d=.str (toString i)/\g'=g)\/∃x,xs=[.str x]/\d=.str x/\g'=g
def Xy:DR:=λxs g d g'=>∃j,xs=[.int j]/\-(2 ^ 62)<=j/\j<=100000/\d=.ref g.length/\g'=g++[.lst (k8 0 j.toNat)]
def Xz:DR:=λxs g d g'=>∃i j,xs=[.int i,.int j]/\(-(2 ^ 62)<=i/\i<2 ^ 62/\-(2 ^ 62)<=j/\j<2 ^ 62/\j-i<=100000)/\d=.ref g.length/\g'=g++[.lst (k8 i (j-i).toNat)]
def Wu:DR:=λxs g d g'=>∃a ns,xs=[.ref a]/\d5 g a=some (ns.map .int)/\ns.length<60/\d=.ref g.length/\g'=g++[.lst ((K5 ns).map .int)]
def Ux:DR:=λxs g d g'=>∃ns ms:List Int,xs=[.tup (ns.map .int),.tup (ms.map .int)]/\(∀k∈ns,ST.Spot k)/\(∀k∈ms,ST.Spot k)/\ns.length+ms.length<50/\d=.ref g.length/\g'=g++[.lst ((K5 (ns++ms)).map .int)]
def Ca(neg:Bool):DR:=λxs g d g'=>∃kvs x,xs=[.tup kvs,.str x]/\d=.bl (xor neg (rZ kvs x).isSome)/\g'=g
def Vz:DR:=λxs g d g'=>∃kvs x,xs=[.tup kvs,.str x]/\rZ kvs x=some d/\g'=g
def Oi:DR:=λxs g d g'=>g'=g/\((∃i,xs=[.int i]/\i.natAbs.log2<1920/\d=.str (toString i))\/∃x,xs=[.str x]/\x.length<=2000/\d=.str x)
def Vw:DR:=λxs g d g'=>∃x,V4 xs=some x/\d=.str x/\g'=g
def Tq(f:Str):DR:=λxs g d g'=>∃a c fs,xs=[.ref a]/\g[a]?=some (.ins c fs)/\fs.lookup f=some d/\g'=g
def appendR:DR:=λxs g d g'=>∃a y l,xs=[.ref a,y]/\g[a]?=some (.lst l)/\l.length<100000/\d=.aQ/\g'=g.set a (.lst (l++[y]))
def Ua:DR:=λxs g d g'=>∃a i l k,xs=[.ref a,.int i]/\g[a]?=some (.lst l)/\-(2 ^ 63)<=i/\i<2 ^ 63/\seqIndex? i l.length=some k/\l[k]?=some d/\g'=g.set a (.lst (l.eraseIdx k))
def Tt:DR:=λxs g d g'=>∃a y z kvs c,xs=[.ref a,y,z]/\g[a]?=some (.bV kvs)/\pb y=some c/\d=(K2 kvs c).getD z/\g'=g
def tP:D->Bool
 |.aQ=>true
 |.bl _=>true
 |.int _=>true
 |.str _=>true
 |_=>false
def toV:D->V
 |.bl b=>.bl b
 |.int i=>.int i
 |.str x=>.str x
 |_=>.aQ
def P8(l:List D)(y:D)(n:Nat):Prop:=l.all tP=true/\tP y=true/\(∃z,l[n]?=some z/\kM (toV z) (toV y)=true)/\∀(m:Nat) z,m<n->l[m]?=some z->kM (toV z) (toV y)=false
def Xj:DR:=λxs g d g'=>∃x y l n,xs=[x,y]/\B1 g x=some l/\P8 l y n/\l.length<=100000/\d=.int n/\g'=g
def joinR:DR:=λxs g d g'=>∃sep a ys,xs=[.str sep,.ref a]/\d5 g a=some (ys.map .str)/\C6 sep ys<=100000/\d=.str (Builtin.Str.glued sep ys)/\g'=g
def VC:DR:=λxs g d g'=>(∃i j,xs=[.int i,.int j]/\d=.int (i+j)/\g'=g)\/∃l m,xs=[.tup l,.tup m]/\l.length+m.length<=100000/\d=.tup (l++m)/\g'=g
def Xa:DR:=λxs g d g'=>∃a l,xs=[.ref a]/\g[a]?=some (.lst l)/\d=.aQ/\g'=g.set a (.lst [])
def Wg:DR:=λxs g d g'=>∃a l,xs=[.ref a]/\g[a]?=some (.lst (l++[d]))/\g'=g.set a (.lst l)
def QJ:DR:=λxs g d g'=>∃a b l m,xs=[.ref a,.ref b]/\g[a]?=some (.lst l)/\g[b]?=some (.lst m)/\l.length+m.length<=100000/\d=.aQ/\g'=g.set a (.lst (l++m))
def Xd:DR:=λxs g d g'=>∃a kvs,xs=[.ref a]/\g[a]?=some (.bV kvs)/\d=.ref g.length/\g'=g++[.bV kvs]
def PR:Pr->DR
 |.clear=>Xa
 |.any=>anyR
 |.sum=>Uw
 |.uE=>Wq
 |.uD i=>Ph i
 |.rP=>VO
 |.qO=>VF
 |.uA=>PN
 |.extend=>QJ
 |.jk=>Wg
 |.jU=>Xd
 |.bin op=>Te op
 |.un op=>LF op
 |.cmp op=>Tj op
 |.ix=>Mx
 |.jF a b=>Uu a b
 |.rev=>Um
 |.tup=>UQ
 |.lst=>TC
 |.mV=>Vr
 |.len=>TB
 |.list=>VN
 |.tuple=>Qo
 |.isin=>VE
 |.all=>allR
 |.max=>TF
 |.min=>TH
 |.int=>Tx
 |.str=>Uv
 |.jK=>Xy
 |.jJ=>Xz
 |.sset=>Wu
 |.uw=>Ux
 |.FV=>Ca false
 |.oQ=>Ca true
 |.mT=>Vz
 |.fv=>Oi
 |.lD=>Vw
 |.fld f=>Tq f
 |.append=>appendR
 |.pop=>Ua
 |.get=>Tt
 |.index=>Xj
 |.join=>joinR
 |.iadd=>VC
def cu(p:Pr)(xs:List D)(g:G)(Q:KD):Prop:=∃d g',PR p xs g d g'/\Q d g'
def wx(g:G)(x y:D)(k:Bool->Prop):Prop:=∃b,wu g x y b/\k b
def sC(g:G)(x y:D)(k:Bool->Prop):Prop:=∃b,inR g x y b/\k b
def pY(g:G)(x:D)(k:Bool->Prop):Prop:=∃b,Gq g x b/\k b
def Ur(x y v:D)(g g':G):Prop:=(∃a i l j,x=.ref a/\y=.int i/\g[a]?=some (.lst l)/\kG l.length i=some j/\g'=g.set a (.lst (l.set j v))) \/
 ∃a kvs c,x=.ref a/\g[a]?=some (.bV kvs)/\pb y=some c/\kvs.length<100000/\g'=g.set a (.bV (putD kvs c v))
def Z9(x y v:D)(g:G)(k:G->Prop):Prop:=∃g',Ur x y v g g'/\k g'
def He(f:Str)(cs:List Str)(x v:D)(g g':G):Prop:=∃a c fs,x=.ref a/\g[a]?=some (.ins c fs)/\c∈cs/\fs.length<100/\g'=g.set a (.ins c (q8 f v fs))
def wQ(f:Str)(cs:List Str)(x v:D)(g:G)(k:G->Prop):Prop:=∃g',He f cs x v g g'/\k g'
def lQ:Pr->D->G->Prop
 |.get,x,g=>∃a kvs,x=.ref a/\g[a]?=some (.bV kvs)
 |.join,x,g=>∃y,x=.str y
 |.uE,x,g=>∃a S n,x=.ref a/\g[a]?=some (.set S n)
 |.index,x,g=>(∃l,x=.tup l)\/∃a l,x=.ref a/\d5 g a=some l
 |_,x,g=>∃a l,x=.ref a/\d5 g a=some l
inductive IK where
 |fix (l:List D)|lst (a:Nat)|FY (a:Nat)|EN (a n:Nat)
def IK.at:IK->Nat->G->Option (Option D)
 |.fix l,i,_=>some l[i]?
 |.lst a,i,g=>match d5 g a with
  |some l=>some l[i]?
  |none=>none
 |.FY a,i,g=>match d5 g a with
  |some l=>some (l[i]?.map λd=>.tup [.int i,d])
  |none=>none
 |.EN a n,i,g=>match d5 g a with
  |some l=>if l.length=n then some (if i<n then l[n-1-i]? else none) else none
  |none=>none
inductive MT where
 |one (i:Nat)|many (is:List Nat)
def B7:List Nat->List D->S->Option S
 |[],[],σ=>some σ
 |i::is,d::ds,σ=>B7 is ds (σ.set i (some d))
 |_,_,_=>none
def jY(t:MT)(x:D)(σ:S)(k:S->Prop):Prop:=match t with
 |.one i=>k (σ.set i (some x))
 |.many is=>∃l cj,x=.tup l/\B7 is l σ=some cj/\k cj
set_option genInjectivity false in
set_option genSizeOf false in
inductive ME where
 |var (i:Nat)|lit (d:D)
 |nil|cons (a b:ME)|prim (p:Pr) (es:ME)|cQ (p:Pr) (o es:ME)|nD (es:ME)
 |chain (o1 o2:CmpOp) (a b c:ME)
 |eY (a b:ME)|iQ (a b:ME)|cJ (a:ME)|ite (c a b:ME)
 |call (f:Nat) (es:ME)|make (c:Str) (f:Nat) (es:ME)|bp (m:Str) (cs:List (Str×Nat)) (o es:ME)
 |comp (d4:List Nat) (n:Nat) (tg:MT) (it cond elt:ME)|jG (d4:List Nat) (n:Nat) (tg:MT) (it cond elt:ME)|gI (d4:List Nat) (n:Nat) (tg:MT) (it cond elt:ME)
 |iN (e:ME)|fP (a:ME)|iM (a b:ME)|sA (e:ME)|sy (e:ME)|eQ (e:ME)|no
noncomputable abbrev fo:=Nat->List D->G->KD->KX->Prop
def O7(σ:S)(d4:List Nat)(n:Nat):S:=d4.map (λj=>(σ[j]?).join)++List.replicate (n-d4.length) none
def turns(k:IK)(σ:S)(g:G)(fin:S->G->Prop)(turn:D->(S->G->Prop)->S->G->Prop):Prop :=
 ∃W:Nat->Nat->S->G->Prop,(∃m,W 0 m σ g)/\∀i m σ g,W i m σ g->(k.at i g=some none/\fin σ g)\/∃x,k.at i g=some (some x)/\∃N2:S->G->Prop,(∀cj g',N2 cj g'->∃m',m'<m/\W (i+1) m' cj g')/\turn x N2 σ g
def yN(k:IK)(σ:S)(g:G)(fin:List D->G->Prop)(turn:D->(Option D->S->G->Prop)->S->G->Prop):Prop :=
 ∃W:Nat->Nat->List D->S->G->Prop,(∃m,W 0 m [] σ g)/\∀i m ys σ g,W i m ys σ g->(k.at i g=some none/\fin ys g) \/
  ∃x,k.at i g=some (some x)/\ys.length<100000/\turn x (λy cj g'=>∃m',m'<m/\W (i+1) m' (ys++y.toList) cj g') σ g
def Ej(k:IK)(σ:S)(g:G)(fin:List Int->G->Prop)(turn:D->(Option Int->S->G->Prop)->S->G->Prop):Prop :=
 ∃W:Nat->Nat->List Int->S->G->Prop,(∃m,W 0 m [] σ g)/\∀i m ys σ g,W i m ys σ g->(k.at i g=some none/\ys.length<60/\fin ys g) \/
  ∃x,k.at i g=some (some x)/\ys.length<60/\turn x (λy cj g'=>∃m',m'<m/\W (i+1) m' (ys++y.toList) cj g') σ g
mutual
noncomputable def aX(P:fo):ME->S->G->KD->KX->Prop
 |.var i,σ,g,Q,_=>∃d,σ[i]?=some (some d)/\Q d g
 |.lit d,_,g,Q,_=>Q d g
 |.prim p es,σ,g,Q,E=>fe P es σ g (λxs g1=>cu p xs g1 Q) E
 |.cQ p o es,σ,g,Q,E=>aX P o σ g (λx g1=>lQ p x g1/\fe P es σ g1 (λxs g2=>cu p (x::xs) g2 Q) E) E
 |.nD es,σ,g,Q,E=>fe P es σ (g++[.bV []]) (λxs g1=>∃kvs,tE xs []=some kvs/\xs.length<=30/\g1[g.length]?=some (.bV [])/\Q (.ref g.length) (g1.set g.length (.bV kvs))) E
 |.chain o1 o2 a b c,σ,g,Q,E=>aX P a σ g (λx g1=>aX P b σ g1 (λy g2=>cu (.cmp o1) [x,y] g2 λz g3=>∃t,z=.bl t/\if t=true then aX P c σ g3 (λw g4=>cu (.cmp o2) [y,w] g4 Q) E else Q (.bl false) g3) E) E
 |.eY a b,σ,g,Q,E=>aX P a σ g (λx g1=>∃t,x=.bl t/\if t=true then aX P b σ g1 Q E else Q (.bl false) g1) E
 |.iQ a b,σ,g,Q,E=>aX P a σ g (λx g1=>∃t,x=.bl t/\if t=true then Q (.bl true) g1 else aX P b σ g1 Q E) E
 |.cJ a,σ,g,Q,E=>aX P a σ g (λx g1=>∃t,x=.bl t/\Q (.bl (!t)) g1) E
 |.ite c a b,σ,g,Q,E=>dD P c σ g (λt g1=>if t=true then aX P a σ g1 Q E else aX P b σ g1 Q E) E
 |.call f es,σ,g,Q,E=>fe P es σ g (λxs g1=>P f xs g1 Q E) E
 |.make c f es,σ,g,Q,E=>fe P es σ g (λxs g1=>P f (.ref g1.length::xs) (g1++[.ins c []]) (λd g2=>d=.aQ/\Q (.ref g1.length) g2) E) E
 |.bp m cs o es,σ,g,Q,E=>aX P o σ g (λx g1=>∃a c fs f,x=.ref a/\g1[a]?=some (.ins c fs)/\fs.lookup m=none/\cs.lookup c=some f/\fe P es σ g1 (λxs g2=>P f (x::xs) g2 Q E) E) E
 |.comp d4 n tg it cond elt,σ,g,Q,E=>iZ P it σ g (λk g1=>yN k (O7 σ d4 n) g1 (λys g=>Q (.ref g.length) (g++[.lst ys])) λx N σ g=>jY tg x σ λde=>dD P cond de g (λb g3=>if b=true then aX P elt de g3 (λy g4=>N (some y) de g4) jz else N none de g3) jz) E
 |.gI d4 n tg it cond elt,σ,g,Q,E=>iZ P it σ g (λk g1=>yN k (O7 σ d4 n) g1 (λys g=>Q (.ref g.length) (g++[.lst ys])) λx N σ g=>jY tg x σ λde=>dD P cond de g (λb g3=>if b=true then aX P elt de g3 (λy g4=>N (some y) de g4) E else N none de g3) jz) E
 |.jG d4 n tg it cond elt,σ,g,Q,E=>iZ P it σ g (λk g1=>Ej k (O7 σ d4 n) g1 (λys g=>Q (.ref g.length) (g++[.lst ((K5 ys).map .int)])) λx N σ g=>jY tg x σ λde=>dD P cond de g (λb g3=>if b=true then aX P elt de g3 (λy g4=>∃j,y=.int j/\N (some j) de g4) jz else N none de g3) jz) E
 |.nil,_,_,_,_=>False
 |.cons _ _,_,_,_,_=>False
 |.iN _,_,_,_,_=>False
 |.fP _,_,_,_,_=>False
 |.iM _ _,_,_,_,_=>False
 |.sA _,_,_,_,_=>False
 |.sy _,_,_,_,_=>False
 |.eQ _,_,_,_,_=>False
 |.no,_,_,_,_=>False
noncomputable def fe(P:fo):ME->S->G->(List D->G->Prop)->KX->Prop
 |.nil,_,g,Q,_=>Q [] g
 |.cons a b,σ,g,Q,E=>aX P a σ g (λx g1=>fe P b σ g1 (λxs g2=>Q (x::xs) g2) E) E
 |_,_,_,_,_=>False
noncomputable def dD(P:fo):ME->S->G->(Bool->G->Prop)->KX->Prop
 |.eY a b,σ,g,Q,E=>dD P a σ g (λt g1=>if t=true then dD P b σ g1 Q E else Q false g1) E
 |.iQ a b,σ,g,Q,E=>dD P a σ g (λt g1=>if t=true then Q true g1 else dD P b σ g1 Q E) E
 |.cJ a,σ,g,Q,E=>dD P a σ g (λt g1=>Q (!t) g1) E
 |.no,_,g,Q,_=>Q true g
 |.eQ e,σ,g,Q,E=>aX P e σ g (λx g1=>pY g1 x λb=>Q b g1) E
 |_,_,_,_,_=>False
noncomputable def iZ(P:fo):ME->S->G->(IK->G->Prop)->KX->Prop
 |.iN e,σ,g,R,E=>aX P e σ g (λx g1=>(∃l,x=.tup l/\R (.fix l) g1)\/∃a l,x=.ref a/\d5 g1 a=some l/\R (.lst a) g1) E
 |.fP a,σ,g,R,E=>aX P a σ g (λx g1=>∃j:Int,x=.int j/\-(2 ^ 62)<=j/\j<2 ^ 62/\R (.fix (k8 0 j.toNat)) g1) E
 |.iM a b,σ,g,R,E=>aX P a σ g (λx g1=>aX P b σ g1 (λy g2=>∃i j:Int,x=.int i/\y=.int j/\(-(2 ^ 62)<=i/\i<2 ^ 62/\-(2 ^ 62)<=j/\j<2 ^ 62)/\R (.fix (k8 i (j-i).toNat)) g2) E) E
 |.sA e,σ,g,R,E=>aX P e σ g (λx g1=>∃a l,x=.ref a/\d5 g1 a=some l/\R (.FY a) g1) E
 |.sy e,σ,g,R,E=>aX P e σ g (λx g1=>∃a l,x=.ref a/\d5 g1 a=some l/\R (.EN a l.length) g1) E
 |_,_,_,_,_=>False
end
set_option genInjectivity false in
set_option genSizeOf false in
inductive MS where
 |pass|seq (a b:MS)|expr (e:ME)|set (i:Nat) (e:ME)|nR (t:MT) (e:ME)|eI (o i v:ME)|dN (f:Str) (cs:List Str) (o v:ME)
 |jV (f:Str) (cs:List Str) (o v:ME)|mX (i:Nat) (p:Pr) (v:ME)|xE (o1 i1 o2 i2 e:ME)
 |ifs (c:ME) (a b:MS)|fS (t:MT) (it:ME) (b:MS)|uo (c:ME) (b:MS)|ret (e:ME)|qv|brk|cont
 |raise (x:Str) (es:ME)|S3 (b:MS) (hs:List (Str×ME))
structure Ends where
 nx:S->G->Prop
 rt:KD
 bk:S->G->Prop:=λ_ _=>False
 ct:S->G->Prop:=λ_ _=>False
def lM(P:fo)(N:Ends)(σ:S)(E:KX):List (Str×ME)->KX
 |[],x,g=>E x g
 |(y,e)::r,x,g=>if x.cls=y\/y="MintError" then aX P e σ g N.rt jz else lM P N σ E r x g
def wpS(P:fo):MS->Ends->S->G->KX->Prop
 |.pass,N,σ,g,_=>N.nx σ g
 |.seq a b,N,σ,g,E=>wpS P a { N with nx:=λiP g1=>wpS P b N iP g1 E } σ g E
 |.expr e,N,σ,g,E=>aX P e σ g (λ_ g1=>N.nx σ g1) E
 |.set i e,N,σ,g,E=>aX P e σ g (λx g1=>N.nx (σ.set i (some x)) g1) E
 |.nR t e,N,σ,g,E=>aX P e σ g (λx g1=>jY t x σ λiP=>N.nx iP g1) E
 |.eI o i v,N,σ,g,E=>aX P v σ g (λx g1=>aX P o σ g1 (λy g2=>aX P i σ g2 (λz g3=>Z9 y z x g3 λg4=>N.nx σ g4) E) E) E
 |.dN f cs o v,N,σ,g,E=>aX P v σ g (λx g1=>aX P o σ g1 (λy g2=>wQ f cs y x g2 λg3=>N.nx σ g3) E) E
 |.jV f cs o v,N,σ,g,E=>aX P o σ g (λy g1=>∃a c fs x,y=.ref a/\g1[a]?=some (.ins c fs)/\c∈cs/\fs.lookup f=some x/\aX P v σ g1 (λz g3=>cu .iadd [x,z] g3 λw g4=>∃iR,g4[a]?=some (.ins c iR)/\iR.length<100/\N.nx σ (g4.set a (.ins c (q8 f w iR)))) E) E
 |.xE o1 i1 o2 i2 e,N,σ,g,E=>aX P e σ g (λx g1=>∃u v,x=.tup [u,v]/\aX P o1 σ g1 (λy1 g2=>aX P i1 σ g2 (λz1 g3=>Z9 y1 z1 u g3 λg4=>aX P o2 σ g4 (λy2 g5=>aX P i2 σ g5 (λz2 g6=>Z9 y2 z2 v g6 λg7=>N.nx σ g7) E) E) E) E) E
 |.mX i p v,N,σ,g,E=>∃x,σ[i]?=some (some x)/\aX P v σ g (λz g1=>cu p [x,z] g1 λw g2=>N.nx (σ.set i (some w)) g2) E
 |.ifs c a b,N,σ,g,E=>dD P c σ g (λt g1=>if t=true then wpS P a N σ g1 E else wpS P b N σ g1 E) E
 |.fS t it b,N,σ,g,E=>iZ P it σ g (λk g1=>turns k σ g1 N.nx λx N2 σ g=>jY t x σ λde=>wpS P b { N with nx:=N2,ct:=N2,bk:=N.nx } de g E) E
 |.uo c b,N,σ,g,E=>∃W:Nat->S->G->Prop,(∃m,W m σ g)/\∀m σ g,W m σ g->dD P c σ g (λt g1=>if t=true then ∃N2:S->G->Prop,(∀cj g',N2 cj g'->∃m',m'<m/\W m' cj g')/\wpS P b { N with nx:=N2,ct:=N2,bk:=N.nx } σ g1 E else N.nx σ g1) E
 |.ret e,N,σ,g,E=>aX P e σ g N.rt E
 |.qv,N,_,g,_=>N.rt .aQ g
 |.brk,N,σ,g,_=>N.bk σ g
 |.cont,N,σ,g,_=>N.ct σ g
 |.raise x es,_,σ,g,E=>fe P es σ g (λvs g1=>vs.length<=1000/\E ⟨x⟩ g1) E
 |.S3 b hs,N,σ,g,E=>wpS P b N σ g (lM P N (σ.map λ_=>none) E hs)
structure aY where
 ar:Nat
 n:Nat
 body:MS
def b5(m:aY)(ds:List D):S:=ds.map some++List.replicate (m.n-ds.length) none
def a9(T:Nat->Option aY):Nat->fo
 |0,_,_,_,_,_=>False
 |k+1,f,ds,g,Q,E=>∃m,T f=some m/\ds.length=m.ar/\wpS (a9 T k) m.body ⟨λ_ g'=>Q .aQ g',Q,λ_ _=>False,λ_ _=>False⟩ (b5 m ds) g E
end M

namespace M
open PySem L2
theorem o7{p xs}{g:G}{Q Q':KD}(h:∀d g,Q d g->Q' d g)(q:cu p xs g Q):cu p xs g Q':=by
 obtain⟨d,g',a,b⟩:=q;exact⟨d,g',a,h _ _ b⟩
theorem Za{x}{g:G}{k k':Bool->Prop}(h:∀b,k b->k' b)(q:pY g x k):pY g x k':=by
 obtain⟨b,a,z⟩:=q;exact⟨b,a,h _ z⟩
theorem U6{x y v}{g:G}{k k':G->Prop}(h:∀g,k g->k' g)(q:Z9 x y v g k):Z9 x y v g k':=by
 obtain⟨b,a,z⟩:=q;exact⟨b,a,h _ z⟩
theorem ZF{f cs x v}{g:G}{k k':G->Prop}(h:∀g,k g->k' g)(q:wQ f cs x v g k):wQ f cs x v g k':=by
 obtain⟨b,a,z⟩:=q;exact⟨b,a,h _ z⟩
theorem B4{t x σ}{k k':S->Prop}(h:∀σ,k σ->k' σ)(q:jY t x σ k):jY t x σ k':=by
 cases t with
 |one i=>exact h _ q
 |many is=>obtain⟨l,cj,a,b,c⟩:=q;exact⟨l,cj,a,b,h _ c⟩
theorem ZM{k σ g}{fin jT:S->G->Prop}{turn hJ:D->(S->G->Prop)->S->G->Prop}(h:∀σ g,fin σ g->jT σ g)(h2:∀x N σ g,turn x N σ g->hJ x N σ g)(q:turns k σ g fin turn):turns k σ g jT hJ:=by
 obtain⟨W,w0,q⟩:=q;refine⟨W,w0,λi m σ g w=>?_⟩;rcases q i m σ g w with⟨a,b⟩|⟨x,a,N2,b,c⟩
 ·exact .inl ⟨a,h _ _ b⟩
 ·exact .inr ⟨x,a,N2,b,h2 _ _ _ _ c⟩
theorem IJ{k σ g}{fin jT:List D->G->Prop}{turn hJ:D->(Option D->S->G->Prop)->S->G->Prop}(h:∀ys g,fin ys g->jT ys g)(h2:∀x N σ g,turn x N σ g->hJ x N σ g)(q:yN k σ g fin turn):yN k σ g jT hJ:=by
 obtain⟨W,w0,q⟩:=q;refine⟨W,w0,λi m ys σ g w=>?_⟩;rcases q i m ys σ g w with⟨a,b⟩|⟨x,a,b,c⟩
 ·exact .inl ⟨a,h _ _ b⟩
 ·exact .inr ⟨x,a,b,h2 _ _ _ _ c⟩
theorem aG8{k σ g}{fin jT:List Int->G->Prop}{turn hJ:D->(Option Int->S->G->Prop)->S->G->Prop}(h:∀ys g,fin ys g->jT ys g)(h2:∀x N σ g,turn x N σ g->hJ x N σ g)(q:Ej k σ g fin turn):Ej k σ g jT hJ:=by
 obtain⟨W,w0,q⟩:=q;refine⟨W,w0,λi m ys σ g w=>?_⟩;rcases q i m ys σ g w with⟨a,b,c⟩|⟨x,a,b,c⟩
 ·exact .inl ⟨a,b,h _ _ c⟩
 ·exact .inr ⟨x,a,b,h2 _ _ _ _ c⟩
theorem E0{t:Bool}{A B A' B':Prop}(h1:A->A')(h2:B->B')(q:if t=true then A else B):if t=true then A' else B':=by
 cases t
 ·exact h2 q
 ·exact h1 q
def i6(P:fo):Prop:=∀f xs g Q Q' E E',(∀d g,Q d g->Q' d g)->(∀x g,E x g->E' x g)->P f xs g Q E->P f xs g Q' E'
mutual
theorem b8{P:fo}(hP:i6 P):∀(e:ME) (σ:S) (g:G) (Q Q':KD) (E E':KX),(∀d g,Q d g->Q' d g)->(∀x g,E x g->E' x g)->aX P e σ g Q E->aX P e σ g Q' E'
 |.var i,σ,g,Q,Q',E,E',h,hx,q=>by
  obtain⟨d,a,b⟩:=q;exact⟨d,a,h _ _ b⟩
 |.lit d,σ,g,Q,Q',E,E',h,hx,q=>by exact h _ _ q
 |.prim p es,σ,g,Q,Q',E,E',h,hx,q=>by
  exact v5 hP es _ _ _ _ _ _ (λxs g1 q=>o7 h q) hx q
 |.cQ p o es,σ,g,Q,Q',E,E',h,hx,q=>by
  exact b8 hP o _ _ _ _ _ _ (λx g1 q=>⟨q.1,v5 hP es _ _ _ _ _ _ (λxs g2 q=>o7 h q) hx q.2⟩) hx q
 |.nD es,σ,g,Q,Q',E,E',h,hx,q=>by
  exact v5 hP es _ _ _ _ _ _ (λxs g1 ⟨kvs,a,b,c,d⟩=>⟨kvs,a,b,c,h _ _ d⟩) hx q
 |.chain o1 o2 a b c,σ,g,Q,Q',E,E',h,hx,q=>by
  refine b8 hP a _ _ _ _ _ _ (λx g1 q=>b8 hP b _ _ _ _ _ _ (λy g2 q=>o7 (λz g3 q=>?_) q) hx q) hx q;obtain⟨t,e,q⟩:=q;exact⟨t,e,E0 (λq=>b8 hP c _ _ _ _ _ _ (λw g4 q=>o7 h q) hx q) (h _ _) q⟩
 |.eY a b,σ,g,Q,Q',E,E',h,hx,q=>by
  refine b8 hP a _ _ _ _ _ _ (λx g1 q=>?_) hx q;obtain⟨t,e,q⟩:=q;exact⟨t,e,E0 (λq=>b8 hP b _ _ _ _ _ _ h hx q) (h _ _) q⟩
 |.iQ a b,σ,g,Q,Q',E,E',h,hx,q=>by
  refine b8 hP a _ _ _ _ _ _ (λx g1 q=>?_) hx q;obtain⟨t,e,q⟩:=q;exact⟨t,e,E0 (h _ _) (λq=>b8 hP b _ _ _ _ _ _ h hx q) q⟩
 |.cJ a,σ,g,Q,Q',E,E',h,hx,q=>by
  refine b8 hP a _ _ _ _ _ _ (λx g1 q=>?_) hx q;obtain⟨t,e,q⟩:=q;exact⟨t,e,h _ _ q⟩
 |.ite c a b,σ,g,Q,Q',E,E',h,hx,q=>by
  exact o9 hP c _ _ _ _ _ _ (λt g1 q=>E0 (λq=>b8 hP a _ _ _ _ _ _ h hx q) (λq=>b8 hP b _ _ _ _ _ _ h hx q) q) hx q
 |.call f es,σ,g,Q,Q',E,E',h,hx,q=>by
  exact v5 hP es _ _ _ _ _ _ (λxs g1 q=>hP _ _ _ _ _ _ _ h hx q) hx q
 |.make c f es,σ,g,Q,Q',E,E',h,hx,q=>by
  exact v5 hP es _ _ _ _ _ _ (λxs g1 q=>hP _ _ _ _ _ _ _ (λd g2 q=>⟨q.1,h _ _ q.2⟩) hx q) hx q
 |.bp m cs o es,σ,g,Q,Q',E,E',h,hx,q=>by
  refine b8 hP o _ _ _ _ _ _ (λx g1 q=>?_) hx q;obtain⟨a,c,fs,f,q1,q2,q3,q4,q⟩:=q;exact⟨a,c,fs,f,q1,q2,q3,q4,v5 hP es _ _ _ _ _ _ (λxs g2 q=>hP _ _ _ _ _ _ _ h hx q) hx q⟩
 |.comp d4 n tg it cond elt,σ,g,Q,Q',E,E',h,hx,q=>by
  exact A6 hP it _ _ _ _ _ _ (λk g1 q=>IJ (λys g q=>h _ _ q) (λ_ _ _ _ q=>q) q) hx q
 |.gI d4 n tg it cond elt,σ,g,Q,Q',E,E',h,hx,q=>by
  exact A6 hP it _ _ _ _ _ _ (λk g1 q=>IJ (λys g q=>h _ _ q) (λx N σ g q=>B4 (λde q=>o9 hP cond _ _ _ _ _ _ (λb g3 q=>by
   cases b
   ·exact q
   ·exact b8 hP elt _ _ _ _ _ _ (λ_ _ z=>z) hx q) (λ_ _ z=>z) q) q) q) hx q
 |.jG d4 n tg it cond elt,σ,g,Q,Q',E,E',h,hx,q=>by
  exact A6 hP it _ _ _ _ _ _ (λk g1 q=>aG8 (λys g q=>h _ _ q) (λ_ _ _ _ q=>q) q) hx q
 |.nil,σ,g,Q,Q',E,E',h,hx,q=>(show False from q).elim
 |.cons _ _,σ,g,Q,Q',E,E',h,hx,q=>(show False from q).elim
 |.iN _,σ,g,Q,Q',E,E',h,hx,q=>(show False from q).elim
 |.fP _,σ,g,Q,Q',E,E',h,hx,q=>(show False from q).elim
 |.iM _ _,σ,g,Q,Q',E,E',h,hx,q=>(show False from q).elim
 |.sA _,σ,g,Q,Q',E,E',h,hx,q|.sy _,σ,g,Q,Q',E,E',h,hx,q=>(show False from q).elim
 |.eQ _,σ,g,Q,Q',E,E',h,hx,q=>(show False from q).elim
 |.no,σ,g,Q,Q',E,E',h,hx,q=>(show False from q).elim
theorem v5{P:fo}(hP:i6 P):∀(e:ME) (σ:S) (g:G) (Q Q':List D->G->Prop) (E E':KX),(∀d g,Q d g->Q' d g)->(∀x g,E x g->E' x g)->fe P e σ g Q E->fe P e σ g Q' E'
 |.nil,σ,g,Q,Q',E,E',h,hx,q=>by exact h _ _ q
 |.cons a b,σ,g,Q,Q',E,E',h,hx,q=>by
  exact b8 hP a _ _ _ _ _ _ (λx g1 q=>v5 hP b _ _ _ _ _ _ (λxs g2 q=>h _ _ q) hx q) hx q
 |.var _,σ,g,Q,Q',E,E',h,hx,q|.lit _,σ,g,Q,Q',E,E',h,hx,q|.prim _ _,σ,g,Q,Q',E,E',h,hx,q|.cQ _ _ _,σ,g,Q,Q',E,E',h,hx,q|.nD _,σ,g,Q,Q',E,E',h,hx,q|.chain _ _ _ _ _,σ,g,Q,Q',E,E',h,hx,q|.eY _ _,σ,g,Q,Q',E,E',h,hx,q|.iQ _ _,σ,g,Q,Q',E,E',h,hx,q|.cJ _,σ,g,Q,Q',E,E',h,hx,q|.ite _ _ _,σ,g,Q,Q',E,E',h,hx,q|.call _ _,σ,g,Q,Q',E,E',h,hx,q
 |.make _ _ _,σ,g,Q,Q',E,E',h,hx,q|.bp _ _ _ _,σ,g,Q,Q',E,E',h,hx,q|.comp _ _ _ _ _ _,σ,g,Q,Q',E,E',h,hx,q|.jG _ _ _ _ _ _,σ,g,Q,Q',E,E',h,hx,q|.gI _ _ _ _ _ _,σ,g,Q,Q',E,E',h,hx,q|.iN _,σ,g,Q,Q',E,E',h,hx,q|.fP _,σ,g,Q,Q',E,E',h,hx,q|.iM _ _,σ,g,Q,Q',E,E',h,hx,q|.sA _,σ,g,Q,Q',E,E',h,hx,q|.sy _,σ,g,Q,Q',E,E',h,hx,q|.eQ _,σ,g,Q,Q',E,E',h,hx,q|.no,σ,g,Q,Q',E,E',h,hx,q=>(show False from q).elim
theorem o9{P:fo}(hP:i6 P):∀(e:ME) (σ:S) (g:G) (Q Q':Bool->G->Prop) (E E':KX),(∀d g,Q d g->Q' d g)->(∀x g,E x g->E' x g)->dD P e σ g Q E->dD P e σ g Q' E'
 |.eY a b,σ,g,Q,Q',E,E',h,hx,q=>by
  exact o9 hP a _ _ _ _ _ _ (λt g1 q=>E0 (λq=>o9 hP b _ _ _ _ _ _ h hx q) (h _ _) q) hx q
 |.iQ a b,σ,g,Q,Q',E,E',h,hx,q=>by
  exact o9 hP a _ _ _ _ _ _ (λt g1 q=>E0 (h _ _) (λq=>o9 hP b _ _ _ _ _ _ h hx q) q) hx q
 |.cJ a,σ,g,Q,Q',E,E',h,hx,q=>by exact o9 hP a _ _ _ _ _ _ (λt g1 q=>h _ _ q) hx q
 |.no,σ,g,Q,Q',E,E',h,hx,q=>by exact h _ _ q
 |.eQ e,σ,g,Q,Q',E,E',h,hx,q=>by exact b8 hP e _ _ _ _ _ _ (λx g1 q=>Za (λb q=>h _ _ q) q) hx q
 |.var _,σ,g,Q,Q',E,E',h,hx,q|.lit _,σ,g,Q,Q',E,E',h,hx,q|.prim _ _,σ,g,Q,Q',E,E',h,hx,q|.cQ _ _ _,σ,g,Q,Q',E,E',h,hx,q|.nD _,σ,g,Q,Q',E,E',h,hx,q|.chain _ _ _ _ _,σ,g,Q,Q',E,E',h,hx,q|.ite _ _ _,σ,g,Q,Q',E,E',h,hx,q|.call _ _,σ,g,Q,Q',E,E',h,hx,q|.nil,σ,g,Q,Q',E,E',h,hx,q|.cons _ _,σ,g,Q,Q',E,E',h,hx,q
 |.make _ _ _,σ,g,Q,Q',E,E',h,hx,q|.bp _ _ _ _,σ,g,Q,Q',E,E',h,hx,q|.comp _ _ _ _ _ _,σ,g,Q,Q',E,E',h,hx,q|.jG _ _ _ _ _ _,σ,g,Q,Q',E,E',h,hx,q|.gI _ _ _ _ _ _,σ,g,Q,Q',E,E',h,hx,q|.iN _,σ,g,Q,Q',E,E',h,hx,q|.fP _,σ,g,Q,Q',E,E',h,hx,q|.iM _ _,σ,g,Q,Q',E,E',h,hx,q|.sA _,σ,g,Q,Q',E,E',h,hx,q|.sy _,σ,g,Q,Q',E,E',h,hx,q=>(show False from q).elim
theorem A6{P:fo}(hP:i6 P):∀(e:ME) (σ:S) (g:G) (Q Q':IK->G->Prop) (E E':KX),(∀d g,Q d g->Q' d g)->(∀x g,E x g->E' x g)->iZ P e σ g Q E->iZ P e σ g Q' E'
 |.iN e,σ,g,Q,Q',E,E',h,hx,q=>by
  exact b8 hP e _ _ _ _ _ _ (λx g1 q=>q.imp (λ⟨l,a,b⟩=>⟨l,a,h _ _ b⟩) λ⟨i,l,a,b,c⟩=>⟨i,l,a,b,h _ _ c⟩) hx q
 |.fP a,σ,g,Q,Q',E,E',h,hx,q=>by
  exact b8 hP a _ _ _ _ _ _ (λx g1 ⟨j,a,b,c,d⟩=>⟨j,a,b,c,h _ _ d⟩) hx q
 |.iM a b,σ,g,Q,Q',E,E',h,hx,q=>by
  exact b8 hP a _ _ _ _ _ _ (λx g1 q=>b8 hP b _ _ _ _ _ _ (λy g2 ⟨i,j,a,b,c,d⟩=>⟨i,j,a,b,c,h _ _ d⟩) hx q) hx q
 |.sA e,σ,g,Q,Q',E,E',h,hx,q=>by
  exact b8 hP e _ _ _ _ _ _ (λx g1 ⟨i,l,a,b,c⟩=>⟨i,l,a,b,h _ _ c⟩) hx q
 |.sy e,σ,g,Q,Q',E,E',h,hx,q=>by
  exact b8 hP e _ _ _ _ _ _ (λx g1 ⟨i,l,a,b,c⟩=>⟨i,l,a,b,h _ _ c⟩) hx q
 |.var _,σ,g,Q,Q',E,E',h,hx,q|.lit _,σ,g,Q,Q',E,E',h,hx,q|.prim _ _,σ,g,Q,Q',E,E',h,hx,q|.cQ _ _ _,σ,g,Q,Q',E,E',h,hx,q|.nD _,σ,g,Q,Q',E,E',h,hx,q|.chain _ _ _ _ _,σ,g,Q,Q',E,E',h,hx,q|.ite _ _ _,σ,g,Q,Q',E,E',h,hx,q|.call _ _,σ,g,Q,Q',E,E',h,hx,q|.nil,σ,g,Q,Q',E,E',h,hx,q|.cons _ _,σ,g,Q,Q',E,E',h,hx,q
 |.eY _ _,σ,g,Q,Q',E,E',h,hx,q|.iQ _ _,σ,g,Q,Q',E,E',h,hx,q|.cJ _,σ,g,Q,Q',E,E',h,hx,q|.eQ _,σ,g,Q,Q',E,E',h,hx,q|.no,σ,g,Q,Q',E,E',h,hx,q
 |.make _ _ _,σ,g,Q,Q',E,E',h,hx,q|.bp _ _ _ _,σ,g,Q,Q',E,E',h,hx,q|.comp _ _ _ _ _ _,σ,g,Q,Q',E,E',h,hx,q|.jG _ _ _ _ _ _,σ,g,Q,Q',E,E',h,hx,q|.gI _ _ _ _ _ _,σ,g,Q,Q',E,E',h,hx,q=>(show False from q).elim
end
structure Ends.le(N N':Ends):Prop where
 nx:∀σ g,N.nx σ g->N'.nx σ g
 rt:∀d g,N.rt d g->N'.rt d g
 bk:∀σ g,N.bk σ g->N'.bk σ g
 ct:∀σ g,N.ct σ g->N'.ct σ g
theorem HH{P:fo}(hP:i6 P){N N':Ends}{E E':KX}(h:N.le N')(hx:∀x g,E x g->E' x g){σ:S}:∀(hs:List (Str×ME)) x g,lM P N σ E hs x g->lM P N' σ E' hs x g
 |[],x,g,q=>hx x g q
 |(y,e)::r,x,g,q=>by
  unfold lM at q ⊢;split
  ·rename_i hh;rw[au hh] at q;exact b8 hP e _ _ _ _ _ _ h.rt (λ_ _ z=>z) q
  ·rename_i hh;rw[ax hh] at q;exact HH hP h hx r x g q
theorem wpS_mono{P:fo}(hP:i6 P):∀(s:MS) (N N':Ends) (σ:S) (g:G) (E E':KX),N.le N'->(∀x g,E x g->E' x g)->wpS P s N σ g E->wpS P s N' σ g E'
 |.pass,N,N',σ,g,E,E',h,hx,q=>h.nx _ _ q
 |.seq a b,N,N',σ,g,E,E',h,hx,q=>wpS_mono hP a { N with nx:=λiP g1=>wpS P b N iP g1 E } { N' with nx:=λiP g1=>wpS P b N' iP g1 E' } _ _ _ _ ⟨λiP g1 q=>wpS_mono hP b _ _ _ _ _ _ h hx q,h.rt,h.bk,h.ct⟩ hx q
 |.expr e,N,N',σ,g,E,E',h,hx,q=>b8 hP e _ _ _ _ _ _ (λx g1 q=>h.nx _ _ q) hx q
 |.set i e,N,N',σ,g,E,E',h,hx,q=>b8 hP e _ _ _ _ _ _ (λx g1 q=>h.nx _ _ q) hx q
 |.nR t e,N,N',σ,g,E,E',h,hx,q=>b8 hP e _ _ _ _ _ _ (λx g1 q=>B4 (λσ q=>h.nx _ _ q) q) hx q
 |.eI o i v,N,N',σ,g,E,E',h,hx,q=>b8 hP v _ _ _ _ _ _ (λx g1 q=>b8 hP o _ _ _ _ _ _ (λy g2 q=>b8 hP i _ _ _ _ _ _ (λz g3 q=>U6 (λg q=>h.nx _ _ q) q) hx q) hx q) hx q
 |.dN f cs o v,N,N',σ,g,E,E',h,hx,q=>b8 hP v _ _ _ _ _ _ (λx g1 q=>b8 hP o _ _ _ _ _ _ (λy g2 q=>ZF (λg q=>h.nx _ _ q) q) hx q) hx q
 | .jV f cs o v,N,N',σ,g,E,E',h,hx,q=>b8 hP o _ _ _ _ _ _ (λy g1 q=>by
   obtain⟨a,c,fs,x,q1,q2,q3,q4,q⟩:=q;exact ⟨a,c,fs,x,q1,q2,q3,q4,b8 hP v _ _ _ _ _ _ (λz g3 q=>o7 (λw g4 q=>by
    obtain⟨iR,k1,k2,k3⟩:=q;exact ⟨iR,k1,k2,h.nx _ _ k3⟩) q) hx q⟩) hx q
 |.xE o1 i1 o2 i2 e,N,N',σ,g,E,E',h,hx,q=>b8 hP e _ _ _ _ _ _ (λx g1 q=>let ⟨u,v,q1,q⟩:=q;⟨u,v,q1,b8 hP o1 _ _ _ _ _ _ (λy g2 q=>b8 hP i1 _ _ _ _ _ _ (λz g3 q=>U6 (λg4 q=>b8 hP o2 _ _ _ _ _ _ (λy g5 q=>b8 hP i2 _ _ _ _ _ _ (λz g6 q=>U6 (λg q=>h.nx _ _ q) q) hx q) hx q) q) hx q) hx q⟩) hx q
 |.mX i p v,N,N',σ,g,E,E',h,hx,q=>let ⟨x,q1,q⟩:=q;⟨x,q1,b8 hP v _ _ _ _ _ _ (λz g1 q=>o7 (λw g2 q=>h.nx _ _ q) q) hx q⟩
 |.ifs c a b,N,N',σ,g,E,E',h,hx,q=>o9 hP c _ _ _ _ _ _ (λt g1 q=>E0 (λq=>wpS_mono hP a _ _ _ _ _ _ h hx q) (λq=>wpS_mono hP b _ _ _ _ _ _ h hx q) q) hx q
 |.fS t it b,N,N',σ,g,E,E',h,hx,q=>A6 hP it _ _ _ _ _ _ (λk g1 q=>ZM h.nx (λx N2 σ g q=>B4 (λde q=>wpS_mono hP b { N with nx:=N2,ct:=N2,bk:=N.nx } { N' with nx:=N2,ct:=N2,bk:=N'.nx } _ _ _ _ ⟨λ_ _ z=>z,h.rt,h.nx,λ_ _ z=>z⟩ hx q) q) q) hx q
 |.uo c b,N,N',σ,g,E,E',h,hx,q=>by
  obtain⟨W,w0,q⟩:=q;refine⟨W,w0,λm σ g w=>o9 hP c _ _ _ _ _ _ (λt g1 q=>E0 (λq=>?_) (h.nx _ _) q) hx (q m σ g w)⟩;obtain⟨N2,a,q⟩:=q;exact⟨N2,a,wpS_mono hP b { N with nx:=N2,ct:=N2,bk:=N.nx } { N' with nx:=N2,ct:=N2,bk:=N'.nx } _ _ _ _ ⟨λ_ _ z=>z,h.rt,h.nx,λ_ _ z=>z⟩ hx q⟩
 |.ret e,N,N',σ,g,E,E',h,hx,q=>b8 hP e _ _ _ _ _ _ h.rt hx q
 |.qv,N,N',σ,g,E,E',h,hx,q=>h.rt _ _ q
 |.brk,N,N',σ,g,E,E',h,hx,q=>h.bk _ _ q
 |.cont,N,N',σ,g,E,E',h,hx,q=>h.ct _ _ q
 |.raise x es,N,N',σ,g,E,E',h,hx,q=>v5 hP es _ _ _ _ _ _ (λvs g1 q=>⟨q.1,hx _ _ q.2⟩) hx q
 |.S3 b hs,N,N',σ,g,E,E',h,hx,q=>wpS_mono hP b _ _ _ _ _ _ h (λx g q=>HH hP h hx hs x g q) q
theorem c8(T:Nat->Option aY):∀k,i6 (a9 T k)
 |0=>λf xs g Q Q' E E' h hx q=>q.elim
 |k+1=>λf xs g Q Q' E E' h hx q=>by
  obtain⟨m,a,b,q⟩:=q;exact⟨m,a,b,wpS_mono (c8 T k) m.body ⟨λ_ g'=>Q .aQ g',Q,λ_ _=>False,λ_ _=>False⟩ _ _ _ _ _ ⟨λ_ _ z=>h _ _ z,h,λ_ _ z=>z,λ_ _ z=>z⟩ hx q⟩
end M

namespace M
open PySem L2
def TupAt(K:PySem.W.Frag)(H:Hp)(a:Addr)(vs:List V):Prop :=
 H a=some (.tup vs)\/∃(o:Obj) (aT:Array Value) (n:Nat),K.lookup a=some o/\o.cls=.type "tuple"/\o.dict=none/\o.data=.seq aT n/\aT.size<=sizeLine/\Vals vs aT.toList
theorem TupAt.d{K:PySem.W.Frag}{H:Hp}{a:Addr}{vs:List V}(h:TupAt K H a vs):xf K H a vs:=h
theorem TupAt.sq{K:PySem.W.Frag}{H:Hp}{a:Addr}{vs:List V}(h:TupAt K H a vs):gQ K H a vs:=h.d.sq
mutual
inductive d0(K:PySem.W.Frag)(ρ:List Addr)(H:Hp):D->V->Prop
 |aQ:d0 K ρ H .aQ .aQ
 |bl (b:Bool):d0 K ρ H (.bl b) (.bl b)
 |int (i:Int):d0 K ρ H (.int i) (.int i)
 |str (x:Str):d0 K ρ H (.str x) (.str x)
 |ty (n:String):d0 K ρ H (.ty n) (.ty n)
 |ref {i:Nat} {a:Addr} (h:ρ[i]?=some a):d0 K ρ H (.ref i) (.ref a)
 |tup {l:List D} {a:Addr} {vs:List V} (h:TupAt K H a vs) (r:b0 K ρ H l vs):d0 K ρ H (.tup l) (.ref a)
inductive b0(K:PySem.W.Frag)(ρ:List Addr)(H:Hp):List D->List V->Prop
 |nil:b0 K ρ H [] []
 |cons {d:D} {v:V} {ds:List D} {vs:List V} (h:d0 K ρ H d v) (r:b0 K ρ H ds vs):b0 K ρ H (d::ds) (v::vs)
end
structure Ext(ρ:List Addr)(H:Hp)(bD:List Addr)(H':Hp):Prop where
 pre:∃more,bD=ρ++more
 tup:∀a xs,H a=some (.tup xs)->H' a=some (.tup xs)
theorem Ext.refl(ρ:List Addr)(H:Hp):Ext ρ H ρ H:=⟨⟨[],by simp⟩,λ_ _ h=>h⟩
theorem Ext.trans{ρ H bH H1 eW H2}(a:Ext ρ H bH H1)(b:Ext bH H1 eW H2):Ext ρ H eW H2:=by
 obtain⟨⟨m,rfl⟩,t⟩:=a;obtain⟨⟨m',rfl⟩,t'⟩:=b;exact⟨⟨m++m',by simp⟩,λx xs h=>t' _ _ (t _ _ h)⟩
theorem Ext.get{ρ H bD H'}(e:Ext ρ H bD H'){i:Nat}{a:Addr}(h:ρ[i]?=some a):bD[i]?=some a:=by
 obtain⟨⟨m,rfl⟩,_⟩:=e;rw[aA (aq.mp h).1];exact h
theorem TupAt.ext{K ρ H bD H'}(e:Ext ρ H bD H'){a:Addr}{vs:List V}(h:TupAt K H a vs):TupAt K H' a vs:=h.elim (λz=>.inl (e.tup _ _ z)) .inr
mutual
theorem d0.ext{K ρ H bD H'}(e:Ext ρ H bD H'):∀{d v},d0 K ρ H d v->d0 K bD H' d v
 |_,_,.aQ=>.aQ
 |_,_,.bl b=>.bl b
 |_,_,.int i=>.int i
 |_,_,.str x=>.str x
 |_,_,.ty n=>.ty n
 |_,_,.ref h=>.ref (e.get h)
 |_,_,.tup h r=>.tup (h.ext e) (b0.ext e r)
theorem b0.ext{K ρ H bD H'}(e:Ext ρ H bD H'):∀{ds vs},b0 K ρ H ds vs->b0 K bD H' ds vs
 |_,_,.nil=>.nil
 |_,_,.cons h r=>.cons (d0.ext e h) (b0.ext e r)
end
theorem b0.length{K ρ H}{ds:List D}{vs:List V}(h:b0 K ρ H ds vs):ds.length=vs.length:=by
 induction ds generalizing vs with
 |nil=>cases h;rfl
 |cons d ds ih =>
  cases h with
  |cons q r=>simp[ih r]
theorem b0.get{K ρ H}:∀{ds vs} {i:Nat} {d:D},b0 K ρ H ds vs->ds[i]?=some d->∃v,vs[i]?=some v/\d0 K ρ H d v
 |_,_,_,_,.nil,h=>by simp at h
 |_,_,0,_,.cons h _,e=>by simp at e;subst e;exact⟨_,rfl,h⟩
 |_,_,i+1,d,.cons _ r,e=>by
  obtain⟨v,h1,h2⟩:=b0.get (i:=i) (d:=d) r (by simpa using e);exact⟨v,by simpa using h1,h2⟩
theorem b0.set{K ρ H}{d:D}{v:V}(h:d0 K ρ H d v):∀{ds vs} (i:Nat),b0 K ρ H ds vs->b0 K ρ H (ds.set i d) (vs.set i v)
 |_,_,_,.nil=>.nil
 |_,_,0,.cons _ r=>.cons h r
 |_,_,i+1,.cons q r=>.cons q (b0.set h i r)
theorem b0.append{K ρ H}{ds es:List D}{vs ws:List V}(h:b0 K ρ H ds vs)(s:b0 K ρ H es ws):b0 K ρ H (ds++es) (vs++ws):=by
 induction ds generalizing vs with
 |nil=>cases h;exact s
 |cons d ds ih =>
  cases h with
  |cons q r=>exact .cons q (ih r)
theorem b0.rep{K ρ H}{ds:List D}{vs:List V}(r:b0 K ρ H ds vs):∀n,b0 K ρ H (List.replicate n ds).flatten (List.replicate n vs).flatten
 |0=>.nil
 |n+1=>by
  rw[bz,bz,cZ,cZ];exact b0.append r (b0.rep r n)
theorem b0.erase{K ρ H}:∀{ds:List D} {vs:List V} (i:Nat),b0 K ρ H ds vs->b0 K ρ H (ds.eraseIdx i) (vs.eraseIdx i)
 |_,_,_,.nil=>.nil
 |_,_,0,.cons _ r=>r
 |_,_,i+1,.cons q r=>.cons q (b0.erase i r)
theorem b0.take{K ρ H}:∀{ds:List D} {vs:List V} (n:Nat),b0 K ρ H ds vs->b0 K ρ H (ds.take n) (vs.take n)
 |_,_,0,_=>.nil
 |_,_,_+1,.nil=>.nil
 |_,_,n+1,.cons h r=>.cons h (b0.take n r)
theorem b0.drop{K ρ H}:∀{ds:List D} {vs:List V} (n:Nat),b0 K ρ H ds vs->b0 K ρ H (ds.drop n) (vs.drop n)
 |_,_,0,r=>r
 |_,_,_+1,.nil=>.nil
 |_,_,n+1,.cons _ r=>b0.drop n r
theorem b0.reverse{K ρ H}:∀{ds:List D} {vs:List V},b0 K ρ H ds vs->b0 K ρ H ds.reverse vs.reverse
 |_,_,.nil=>.nil
 |_,_,.cons h r=>by
  rw[gE,gE];exact b0.append (b0.reverse r) (.cons h .nil)
theorem b0.cut{K ρ H}{ds:List D}{vs:List V}(r:b0 K ρ H ds vs)(lo hi:Option Int):b0 K ρ H (M.cut ds lo hi) (U0 vs lo hi):=by
 unfold M.cut U0;rw[r.length];exact(r.drop _).take _
theorem b0.ints{K ρ H}:∀{ns:List Int} {vs:List V},b0 K ρ H (ns.map D.int) vs->vs=ns.map V.int
 |[],_,.nil=>rfl
 |_::_,_,.cons h r=>by cases h;rw[b0.ints r];rfl
theorem b0.ofInts{K ρ H}:∀(ns:List Int),b0 K ρ H (ns.map D.int) (ns.map V.int)
 |[]=>.nil
 |n::r=>.cons (.int n) (b0.ofInts r)
def tM(K:PySem.W.Frag)(H:Hp)(a:Addr)(vs:List V):Prop :=
 (∃o,H a=some (.jq o (.lst vs)))\/∃(o:Obj) (aT:Array Value) (n:Nat),K.lookup a=some o/\o.cls=.type "list"/\o.dict=none/\o.data=.seq aT n/\aT.size<=sizeLine/\Vals vs aT.toList
theorem tM.sq{K:PySem.W.Frag}{H:Hp}{a:Addr}{vs:List V}(h:tM K H a vs):gx K H a vs:=h.elim (λ⟨o,z⟩=>.inl (.inr ⟨o,z⟩)) .inr
inductive d9{α:Type}(K:PySem.W.Frag)(ρ:List Addr)(H:Hp):List (α×D)->List (α×V)->Prop
 |nil:d9 K ρ H [] []
 |cons {k:α} {d:D} {v:V} {ds:List (α×D)} {vs:List (α×V)} (h:d0 K ρ H d v) (r:d9 K ρ H ds vs):d9 K ρ H ((k,d)::ds) ((k,v)::vs)
theorem d9.ext{α:Type}{K ρ H bD H'}(e:Ext ρ H bD H'){ds:List (α×D)}{vs:List (α×V)}(h:d9 K ρ H ds vs):d9 K bD H' ds vs:=by
 induction h with
 |nil=>exact .nil
 |cons h r ih=>exact .cons (h.ext e) ih
theorem d9.length{α:Type}{K ρ H}{ds:List (α×D)}{vs:List (α×V)}(h:d9 K ρ H ds vs):ds.length=vs.length:=by
 induction h with
 |nil=>rfl
 |cons h r ih=>simp[ih]
def rV(K:PySem.W.Frag)(ρ:List Addr)(H:Hp):Option D->Option V->Prop
 |some d,some v=>d0 K ρ H d v
 |none,none=>True
 |_,_=>False
theorem d9.val{K ρ H}:∀{ds vs} (k:Key),d9 K ρ H ds vs->rV K ρ H (K2 ds k) (N4 vs k)
 |_,_,k,.nil=>trivial
 |_,_,k,.cons (k:=k') h r=>by
  unfold K2 N4;rw[iz,iz];by_cases e:k'=k
  ·simp only[e,decide_true];exact h
  ·simp only[e,decide_false];exact d9.val k r
theorem d9.Gz{K ρ H}:∀{ds vs} (k:Key),d9 K ρ H ds vs->(ds.any λkv=>decide (kv.1=k))=(vs.any λkv=>decide (kv.1=k))
 |_,_,k,.nil=>rfl
 |_,_,k,.cons h r=>by simp only[List.any_cons,d9.Gz k r]
theorem d9.snoc{K ρ H}{k:Key}{d:D}{v:V}(h:d0 K ρ H d v){ds vs}(t:d9 K ρ H ds vs):d9 K ρ H (ds++[(k,d)]) (vs++[(k,v)]):=by
 induction ds generalizing vs with
 |nil=>cases t;exact .cons h .nil
 |cons d ds ih =>
  cases t with
  |cons q r=>exact .cons q (ih r)
theorem d9.Ea{K ρ H}{k:Key}{d:D}{v:V}(h:d0 K ρ H d v):∀{ds vs},d9 K ρ H ds vs->d9 K ρ H (ds.map λkv=>if kv.1=k then(kv.1,d) else kv) (vs.map λkv=>if kv.1=k then(kv.1,v) else kv)
 |_,_,.nil=>.nil
 |_,_,.cons (k:=k') q r=>by
  simp only[List.map_cons];by_cases e:k'=k
  ·rw[au e,au e];exact .cons h (d9.Ea h r)
  ·rw[ax e,ax e];exact .cons q (d9.Ea h r)
theorem d9.put{K ρ H}{k:Key}{d:D}{v:V}(h:d0 K ρ H d v){ds vs}(r:d9 K ρ H ds vs):d9 K ρ H (putD ds k d) (putK vs k v):=by
 unfold putD putK;rw[r.Gz k];split
 ·exact r.Ea h
 ·exact r.snoc h
noncomputable abbrev n8(K:PySem.W.Frag)(x:Str)(C:Addr):Prop:=PySem.W.nsIn K mainGlobals x=some (some (.ref C))
theorem d9.look{K ρ H}{ds:List (Str×D)}{vs:List (Str×V)}(f:Str)(h:d9 K ρ H ds vs):rV K ρ H (ds.lookup f) (vs.lookup f):=by
 induction h with
 |nil=>trivial
 |cons h r ih =>
  rename_i k d v ds vs;rw[cA,cA];cases f==k
  ·exact ih
  ·exact h
theorem d9.u3{K ρ H}{f:Str}{d:D}{v:V}(h:d0 K ρ H d v){ds:List (Str×D)}{vs:List (Str×V)}(r:d9 K ρ H ds vs):d9 K ρ H (q8 f d ds) (L2.u3 f v vs):=by
 induction r with
 |nil=>exact .cons h .nil
 |cons q r ih =>
  unfold q8 L2.u3;split
  ·exact .cons h r
  ·exact .cons q ih
theorem Dr{f:Str}{d:D}{p:Str->Prop}(hf:p f):∀{ds:List (Str×D)},(∀x∈ds,p x.1)->∀x∈q8 f d ds,p x.1
 |[],_,x,hx=>by
  have:x=(f,d):=by simpa[q8] using hx
  rw[this];exact hf
 |(k,e)::r,h,x,hx=>by
  unfold q8 at hx;split at hx
  ·rcases aI.mp hx with z|z
   ·rw[z];exact h (k,e) (by simp)
   ·exact h x (by simp[z])
  ·rcases aI.mp hx with z|z
   ·rw[z];exact h (k,e) (by simp)
   ·exact Dr hf (λy hy=>h y (by simp[hy])) x z
def OH(K:PySem.W.Frag)(ρ:List Addr)(H:Hp):O->HO->Prop
 |.lst l,.lst vs=>b0 K ρ H l vs
 |.bV kvs,.dK vs=>d9 K ρ H kvs vs
 |.set S n,.set S' n'=>S=S'/\n=n'
 |.ins c fs,.ins C _ vs=>n8 K c C/\iT K C/\d9 K ρ H fs vs/\∀x∈fs,w5 K C x.1
 |_,_=>False
theorem OH.ext{K ρ H bD H'}(e:Ext ρ H bD H'){o:O}{u:HO}(h:OH K ρ H o u):OH K bD H' o u:=by
 cases o<;>cases u<;>first|exact h.elim|exact b0.ext e h|exact d9.ext e h|exact⟨h.1,h.2.1,h.2.2.1.ext e,h.2.2.2⟩|exact h
theorem OH.tT{K ρ H}{o:O}{xs:List V}(h:OH K ρ H o (.tup xs)):False:=by cases o<;>exact h
theorem OH.VT{K ρ H}{o:O}{ob:Obj}{u:HO}(h:OH K ρ H o (.jq ob u)):False:=by cases o<;>exact h
def E8(K:PySem.W.Frag)(ρ:List Addr)(H:Hp)(o:O)(a:Addr):Prop:=match o with
 |.oR l=>∃vs,tM K H a vs/\b0 K ρ H l vs
 |o=>∃u,H a=some u/\OH K ρ H o u
theorem E8.of{K ρ H}{o:O}{a:Addr}{u:HO}(hu:H a=some u)(h:OH K ρ H o u):E8 K ρ H o a:=by
 cases o<;>first|exact⟨u,hu,h⟩|(cases u<;>exact h.elim)
theorem E8.inv{K ρ H}{o:O}{a:Addr}(m:o.mut=true)(h:E8 K ρ H o a):∃u,H a=some u/\OH K ρ H o u:=by
 cases o<;>first|exact h|cases m
theorem E8.lst{K ρ H}{l:List D}{a:Addr}(h:E8 K ρ H (.lst l) a):∃vs,H a=some (.lst vs)/\b0 K ρ H l vs:=by
 obtain⟨u,h1,h2⟩:=h;cases u<;>first|exact⟨_,h1,h2⟩|exact h2.elim
theorem E8.bV{K ρ H}{l:List (Key×D)}{a:Addr}(h:E8 K ρ H (.bV l) a):∃vs,H a=some (.dK vs)/\d9 K ρ H l vs:=by
 obtain⟨u,h1,h2⟩:=h;cases u<;>first|exact⟨_,h1,h2⟩|exact h2.elim
theorem E8.set{K ρ H}{S:Int->Bool}{n:Nat}{a:Addr}(h:E8 K ρ H (.set S n) a):H a=some (.set S n):=by
 obtain⟨u,h1,h2⟩:=h;cases u<;>first|(obtain⟨rfl,rfl⟩:=(show _/\_ from h2);exact h1)|exact h2.elim
theorem E8.ins{K ρ H}{c:Str}{fs:List (Str×D)}{a:Addr}(h:E8 K ρ H (.ins c fs) a):∃C dx vs,H a=some (.ins C dx vs)/\n8 K c C/\iT K C/\d9 K ρ H fs vs/\∀x∈fs,w5 K C x.1:=by
 obtain⟨u,h1,h2⟩:=h;cases u<;>first|exact⟨_,_,_,h1,h2⟩|exact h2.elim
structure Rl(K:PySem.W.Frag)(ρ:List Addr)(g:G)(H:Hp):Prop where
 len:ρ.length=g.length
 obj:∀(i:Nat) o a,g[i]?=some o->ρ[i]?=some a->E8 K ρ H o a
 nd:∀(i j:Nat) o o' a,g[i]?=some o->g[j]?=some o'->o.mut=true->o'.mut=true->ρ[i]?=some a->ρ[j]?=some a->i=j
section
variable{K:PySem.W.Frag}{ρ:List Addr}{g:G}{H:Hp}
theorem Rl.lst(R:Rl K ρ g H){i:Nat}{l:List D}{a:Addr}(h:g[i]?=some (.lst l))(ha:ρ[i]?=some a):∃vs,H a=some (.lst vs)/\b0 K ρ H l vs:=(R.obj _ _ _ h ha).lst
theorem Rl.bV(R:Rl K ρ g H){i:Nat}{l:List (Key×D)}{a:Addr}(h:g[i]?=some (.bV l))(ha:ρ[i]?=some a):∃vs,H a=some (.dK vs)/\d9 K ρ H l vs:=(R.obj _ _ _ h ha).bV
theorem Rl.set(R:Rl K ρ g H){i:Nat}{S:Int->Bool}{n:Nat}{a:Addr}(h:g[i]?=some (.set S n))(ha:ρ[i]?=some a):H a=some (.set S n):=(R.obj _ _ _ h ha).set
theorem Rl.ins(R:Rl K ρ g H){i:Nat}{c:Str}{fs:List (Str×D)}{a:Addr}(h:g[i]?=some (.ins c fs))(ha:ρ[i]?=some a):∃C dx vs,H a=some (.ins C dx vs)/\n8 K c C/\iT K C/\d9 K ρ H fs vs/\∀x∈fs,w5 K C x.1:=(R.obj _ _ _ h ha).ins
theorem Rl.items(R:Rl K ρ g H){i:Nat}{l:List D}{a:Addr}(h:d5 g i=some l)(ha:ρ[i]?=some a):∃vs,gx K H a vs/\b0 K ρ H l vs:=by
 cases e:g[i]? with
 |none=>rw[d5,e] at h;cases h
 |some o =>
  rw[d5,e] at h;have q:=R.obj _ _ _ e ha;cases o with
  |lst m=>cases h;obtain⟨vs,z,r⟩:=q.lst;exact⟨vs,gx.of z,r⟩
  |oR m=>cases h;obtain⟨vs,z,r⟩:=q;exact⟨vs,z.sq,r⟩
  |_=>cases h
theorem t8{p:Addr}{o:HO}(hp:H p=none):Ext ρ H ρ (upd H p o):=⟨⟨[],by simp⟩,λa xs h=>by rw[i7 (p6 h hp)];exact h⟩
theorem tM.upd{p a:Addr}{o:HO}{vs:List V}(h:tM K H a vs)(hp:∀ob u,H p≠some (.jq ob u)):tM K (upd H p o) a vs:=by
 rcases h with⟨ob,z⟩|z
 ·refine .inl ⟨ob,?_⟩;rw[i7 ?_]
  ·exact z
  ·intro e;subst e;exact hp _ _ z
 ·exact .inr z
theorem E8.upd{p a:Addr}{o:O}{u:HO}{bD:List Addr}(h:E8 K ρ H o a)(dW:o.mut=true->a≠p)(hp:∀ob u,H p≠some (.jq ob u))(e:Ext ρ H bD (L2.upd H p u)):E8 K bD (L2.upd H p u) o a:=by
 cases hm:o.mut with
 |true =>
  obtain⟨u',h1,h2⟩:=h.inv hm;exact .of (by rw[i7 (dW hm)];exact h1) (h2.ext e)
 |false =>
  cases o<;>first|cases hm|skip
  obtain⟨vs,z,r⟩:=h;exact⟨vs,z.upd hp,r.ext e⟩
theorem Rl.grow{p:Addr}{o:HO}(R:Rl K ρ g H)(hp:H p=none):Rl K ρ g (upd H p o):=by
 have e:Ext ρ H ρ (upd H p o):=t8 hp;refine⟨R.len,λi ob a h1 h2=>?_,R.nd⟩;have q:=R.obj _ _ _ h1 h2;refine q.upd (λhm=>?_) (λob u z=>by rw[hp] at z;cases z) e;obtain⟨u,h1,_⟩:=q.inv hm;exact p6 h1 hp
theorem Rl.B5(R:Rl K ρ g H)(p:Addr):(ρ++[p])[g.length]?=some p:=by rw[<- R.len];simp
theorem N9{p:Addr}{o:HO}(hp:H p=none):Ext ρ H (ρ++[p]) (upd H p o):=⟨⟨[p],rfl⟩,(t8 (ρ:=ρ) hp).tup⟩
theorem Rl.new{p:Addr}{o:O}{u:HO}(R:Rl K ρ g H)(hp:H p=none)(r:OH K ρ H o u):Rl K (ρ++[p]) (g++[o]) (upd H p u):=by
 have e:Ext ρ H (ρ++[p]) (upd H p u):=N9 hp;have old:∀{i:Nat} {ob:O} {a:Addr},g[i]?=some ob->(ρ++[p])[i]?=some a->ρ[i]?=some a:=λ{i ob a} h1 h2=>by
  rw[aA (by rw[R.len];exact(aq.mp h1).1)] at h2;exact h2
 have split:∀{i:Nat} {ob:O},(g++[o])[i]?=some ob->g[i]?=some ob\/(i=g.length/\ob=o):=λ{i ob} h=>by
  rcases gD i g.length with q|q|q
  ·rw[aA q] at h;exact .inl h
  ·subst q;simp at h;exact .inr ⟨rfl,h.symm⟩
  ·rw[cM (by simp;omega)] at h;cases h
 refine⟨by simp[R.len],λi ob a h1 h2=>?_,λi j o1 o2 a h1 h2 m1 m2 h3 h4=>?_⟩
 ·rcases split h1 with q|⟨rfl,rfl⟩
  ·have z:=R.obj _ _ _ q (old q h2);refine z.upd (λhm=>?_) (λob u z=>by rw[hp] at z;cases z) e;obtain⟨u,h1,_⟩:=z.inv hm;exact p6 h1 hp
  ·rw[R.B5] at h2;cases h2;exact .of m9 (r.ext e)
 ·have nq:∀{i:Nat} {o:O} {a:Addr},g[i]?=some o->o.mut=true->ρ[i]?=some a->a≠p:=λ{i o a} h1 hm h2=>by
   obtain⟨u,z,_⟩:=(R.obj _ _ _ h1 h2).inv hm;exact p6 z hp
  rcases split h1 with q|⟨rfl,_⟩
  ·rcases split h2 with q'|⟨rfl,_⟩
   ·exact R.nd _ _ _ _ _ q q' m1 m2 (old q h3) (old q' h4)
   ·rw[R.B5] at h4;cases h4;exact absurd rfl (nq q m1 (old q h3))
  ·rcases split h2 with q'|⟨rfl,_⟩
   ·rw[R.B5] at h3;cases h3;exact absurd rfl (nq q' m2 (old q' h4))
   ·rfl
theorem Rl.alloc{p:Addr}{l:List D}{vs:List V}(R:Rl K ρ g H)(hp:H p=none)(r:b0 K ρ H l vs):Rl K (ρ++[p]) (g++[.lst l]) (upd H p (.lst vs)):=R.new hp r
theorem Rl.put{i:Nat}{a:Addr}{o o':O}{u:HO}(R:Rl K ρ g H)(h:g[i]?=some o)(hm:o.mut=true)(ha:ρ[i]?=some a)(r:OH K ρ H o' u) :
  Rl K ρ (g.set i o') (upd H a u)/\Ext ρ H ρ (upd H a u):=by
 obtain⟨u0,z0,EV⟩:=(R.obj _ _ _ h ha).inv hm;have e:Ext ρ H ρ (upd H a u):=⟨⟨[],by simp⟩,λb xs q=>by rw[i7];exact q;intro z;subst z;rw[z0] at q;cases q;exact EV.tT⟩
 refine⟨⟨by simp[R.len],λj ob b h1 h2=>?_,λj k o1 o2 b h1 h2 m1 m2 h3 h4=>?_⟩,e⟩
 ·by_cases gX:i=j
  ·subst gX;rw[ha] at h2;cases h2;have hi:i<g.length:=(aq.mp h).1;rw[aP hi] at h1;cases h1;exact .of m9 (r.ext e)
  ·rw[aw gX] at h1;refine(R.obj _ _ _ h1 h2).upd (λsN ez=>?_) (λob u z=>by rw[z0] at z;cases z;exact EV.VT) e;subst ez;exact gX (R.nd _ _ _ _ _ h h1 hm sN ha h2)
 ·have back:∀{j:Nat} {m:O},(g.set i o')[j]?=some m->m.mut=true->∃m',g[j]?=some m'/\m'.mut=true:=λ{j m} q sN=>by
   by_cases gX:i=j
   ·subst gX;exact⟨o,h,hm⟩
   ·rw[aw gX] at q;exact⟨m,q,sN⟩
  obtain⟨_,q1,n1⟩:=back h1 m1;obtain⟨_,q2,n2⟩:=back h2 m2;exact R.nd _ _ _ _ _ q1 q2 n1 n2 h3 h4
theorem Rl.write{i:Nat}{a:Addr}{l l':List D}{vs:List V}(R:Rl K ρ g H)(h:g[i]?=some (.lst l))(ha:ρ[i]?=some a)(r:b0 K ρ H l' vs) :
  Rl K ρ (g.set i (.lst l')) (upd H a (.lst vs))/\Ext ρ H ρ (upd H a (.lst vs)):=R.put h rfl ha r
end
structure l8(K:PySem.W.Frag)(ρ:List Addr)(H:Hp)(σ:S)(bE:St):Prop where
 len:σ.length=bE.length
 val:∀(i:Nat) d,σ[i]?=some (some d)->∃v,bE[i]?=some (some v)/\d0 K ρ H d v
section
variable{K:PySem.W.Frag}{ρ bD:List Addr}{H H':Hp}
theorem l8.ext{σ bE}(e:Ext ρ H bD H')(r:l8 K ρ H σ bE):l8 K bD H' σ bE:=⟨r.len,λi d h=>let ⟨v,a,b⟩:=r.val i d h;⟨v,a,b.ext e⟩⟩
theorem l8.set{σ bE d v}(r:l8 K ρ H σ bE)(i:Nat)(h:d0 K ρ H d v):l8 K ρ H (σ.set i (some d)) (bE.set i (some v)):=by
 refine⟨by simp[r.len],λj e q=>?_⟩;by_cases gX:i=j
 ·subst gX;have hi:i<σ.length:=by
   have:=(aq.mp q).1;simpa using this
  rw[aP hi] at q;cases q;exact⟨v,by rw[aP (by rw[<- r.len];exact hi)],h⟩
 ·rw[aw gX] at q ⊢;exact r.val j e q
theorem l8.start{ds vs}{n:Nat}(r:b0 K ρ H ds vs):l8 K ρ H (ds.map some++List.replicate (n-ds.length) none) (vs.map some++List.replicate (n-vs.length) none):=by
 refine⟨by simp[r.length],λi d h=>?_⟩;by_cases hi:i<ds.length
 ·rw[aA (by simpa using hi),aE] at h;cases e:ds[i]? with
  |none=>rw[e] at h;cases h
  |some x =>
   rw[e] at h;cases h;obtain⟨v,h1,h2⟩:=r.get e;refine⟨v,?_,h2⟩;rw[aA (by rw[ak,<- r.length];exact hi),aE,h1]
   rfl
 ·rw[cL (by simpa using hi),du] at h;split at h<;>cases h
theorem l8.d4{σ bE}(r:l8 K ρ H σ bE)(d4:List Nat)(n:Nat):l8 K ρ H (O7 σ d4 n) (E9 bE d4 n):=by
 refine⟨by simp[O7,E9],λi d h=>?_⟩;unfold O7 at h;unfold E9;by_cases hi:i<d4.length
 ·rw[aA (by simpa using hi),aE,ao hi] at h;rw[aA (by simpa using hi),aE,ao hi];simp only[Option.map_some] at h ⊢;cases e:σ[d4[i]]? with
  |none=>rw[e] at h;cases h
  |some x =>
   rw[e] at h;have hx:x=some d:=aO h;subst hx;obtain⟨v,h1,h2⟩:=r.val _ _ e;exact⟨v,by rw[h1];rfl,h2⟩
 ·rw[cL (by simpa using hi),du] at h;split at h<;>cases h
end
end M

namespace M
open PySem L2 PySem.Spec PyProof.Rows
def LQ(K:PySem.W.Frag)(ρ:List Addr)(H:Hp)(Q:VK):KD:=λd g'=>∀bD H' v,Ext ρ H bD H'->Rl K bD g' H'->d0 K bD H' d v->Q v H'
theorem LQ.ext{K ρ H bH H1 Q d g}(e:Ext ρ H bH H1)(h:LQ K ρ H Q d g):LQ K bH H1 Q d g:=λbD H' v e' R r=>h bD H' v (e.trans e') R r
theorem LQ.now{K ρ H Q d g v}(h:LQ K ρ H Q d g)(R:Rl K ρ g H)(r:d0 K ρ H d v):Q v H:=h ρ H v (.refl _ _) R r
theorem LQ.new{K ρ H Q}{g:G}{l:List D}{vs:List V}{p:Addr}(h:LQ K ρ H Q (.ref g.length) (g++[.lst l]))(R:Rl K ρ g H)(hp:H p=none)(r:b0 K ρ H l vs):Q (.ref p) (upd H p (.lst vs)) :=
 h (ρ++[p]) _ _ (N9 hp) (R.alloc hp r) (.ref (R.B5 p))
theorem LQ.tup{K ρ H Q}{g:G}{l:List D}{vs:List V}{p:Addr}(h:LQ K ρ H Q (.tup l) g)(R:Rl K ρ g H)(hp:H p=none)(r:b0 K ρ H l vs):Q (.ref p) (upd H p (.tup vs)) :=
 h ρ _ _ (t8 hp) (R.grow hp) (.tup (.inl m9) (r.ext (t8 hp)))
def r2(K:PySem.W.Frag)(p:Pr):R2:=λx y H Q=>∃d e g ρ,Rl K ρ g H/\d0 K ρ H d x/\d0 K ρ H e y/\cu p [d,e] g (LQ K ρ H Q)
def r1(K:PySem.W.Frag)(p:Pr):V->Hp->VK->Prop:=λx H Q=>∃d g ρ,Rl K ρ g H/\d0 K ρ H d x/\cu p [d] g (LQ K ρ H Q)
def rN(K:PySem.W.Frag)(p:Pr):List V->Hp->VK->Prop:=λxs H Q=>∃ds g ρ,Rl K ρ g H/\b0 K ρ H ds xs/\cu p ds g (LQ K ρ H Q)
theorem j0{n:Nat}(h:n<=100000):n<=sizeLine:=aM h (by decide)
theorem yZ{n:Nat}(h:n<100000):n<sizeLine:=av h (by decide)
theorem d0.i0{K ρ H i v}(h:d0 K ρ H (.int i) v):v=.int i:=by cases h;rfl
theorem d0.x9{K ρ H i v}(h:d0 K ρ H (.str i) v):v=.str i:=by cases h;rfl
theorem d0.L9{K ρ H i v}(h:d0 K ρ H (.bl i) v):v=.bl i:=by cases h;rfl
theorem d0.yK{K ρ H v}(h:d0 K ρ H .aQ v):v=.aQ:=by cases h;rfl
theorem d0.WK{K ρ H n v}(h:d0 K ρ H (.ty n) v):v=.ty n:=by cases h;rfl
theorem d0.i9{K ρ H i v}(h:d0 K ρ H (.ref i) v):∃a,v=.ref a/\ρ[i]?=some a:=by cases h;exact⟨_,rfl,by assumption⟩
theorem d0.w9{K ρ H l v}(h:d0 K ρ H (.tup l) v):∃a vs,v=.ref a/\TupAt K H a vs/\b0 K ρ H l vs:=by cases h;exact⟨_,_,rfl,by assumption,by assumption⟩
theorem b0.one{K ρ H d vs}(h:b0 K ρ H [d] vs):∃v,vs=[v]/\d0 K ρ H d v:=by
 cases h with
 |cons r rr=>cases rr;exact⟨_,rfl,r⟩
theorem b0.two{K ρ H d e vs}(h:b0 K ρ H [d,e] vs):∃v w,vs=[v,w]/\d0 K ρ H d v/\d0 K ρ H e w:=by
 cases h with
 |cons r rr=>obtain⟨w,rfl,q⟩:=rr.one;exact⟨_,_,rfl,r,q⟩
theorem t9{a b c d:D}(h:[a,b]=[c,d]):a=c/\b=d:=by cases h;exact⟨rfl,rfl⟩
section
variable{X:Cx}
theorem XF(op:Operator):ft X (binaryOp op) (r2 X.K (.bin op)):=by
 intro pins s σ H x y v u Q I rx ry h;obtain⟨d,e,g,ρ,R,rd,re,d',g',h,q⟩:=h;rcases h with⟨i,j,r,ex,ha,rfl,rfl⟩|⟨rfl,h⟩|⟨rfl,h⟩
 ·obtain⟨rfl,rfl⟩:=t9 ex;obtain rfl:=rd.i0;obtain rfl:=re.i0;have fin:=q.now R (.int r);cases op<;>first|exact(show False from ha).elim|skip
  ·cases ha;exact XD pins s σ H _ _ v u Q I rx ry ⟨i,j,rfl,rfl,fin⟩
  ·cases ha;exact OC pins s σ H _ _ v u Q I rx ry ⟨i,j,rfl,rfl,fin⟩
  ·obtain⟨hc,rfl⟩:=ha;exact XJ pins s σ H _ _ v u Q I rx ry ⟨i,j,rfl,rfl,hc,fin⟩
  ·obtain⟨hc,rfl⟩:=ha;exact XI pins s σ H _ _ v u Q I rx ry ⟨i,j,rfl,rfl,hc,fin⟩
  ·obtain⟨hc,rfl⟩:=ha;exact XM pins s σ H _ _ v u Q I rx ry ⟨i,j,rfl,rfl,hc,fin⟩
  ·obtain⟨hc,rfl⟩:=ha;exact XO pins s σ H _ _ v u Q I rx ry ⟨i,j,rfl,rfl,hc,fin⟩
  ·cases ha;exact VZ pins s σ H _ _ v u Q I rx ry ⟨i,j,rfl,rfl,fin⟩
  ·cases ha;exact XE pins s σ H _ _ v u Q I rx ry ⟨i,j,rfl,rfl,fin⟩
  ·obtain⟨hc,rfl⟩:=ha;exact Rm pins s σ H _ _ v u Q I rx ry ⟨i,j,rfl,rfl,hc,fin⟩
 ·rcases h with⟨l,m,ex,hz,rfl,rfl⟩|⟨a,b,l,m,ex,ha,hb,hz,rfl,rfl⟩|⟨x',y',ex,hz,rfl,rfl⟩
  ·obtain⟨rfl,rfl⟩:=t9 ex;obtain⟨a,vs,rfl,ta,rs⟩:=rd.w9;obtain⟨b,ws,rfl,tb,rt⟩:=re.w9;refine a76 pins s σ H _ _ v u Q I rx ry ⟨a,b,vs,ws,rfl,rfl,ta.sq,tb.sq,?_,λz=>?_,λz=>?_,λp hp=>q.tup R hp (rs.append rt)⟩
   ·rw[<- rs.length,<- rt.length];exact j0 hz
   ·subst z;cases rs;exact q.now R (.tup tb rt)
   ·subst z;cases rt;rw[eP] at q;exact q.now R (.tup ta rs)
  ·obtain⟨rfl,rfl⟩:=t9 ex;obtain⟨a',rfl,ra⟩:=rd.i9;obtain⟨b',rfl,rb⟩:=re.i9;obtain⟨vs,z1,rs⟩:=R.lst ha ra;obtain⟨ws,z2,rt⟩:=R.lst hb rb;exact XG pins s σ H _ _ v u Q I rx ry ⟨_,_,vs,ws,rfl,rfl,z1,z2,by rw[<- rs.length,<- rt.length];exact j0 hz,λp hp=>q.new R hp (rs.append rt)⟩
  ·obtain⟨rfl,rfl⟩:=t9 ex;obtain rfl:=rd.x9;obtain rfl:=re.x9;exact ZA pins s σ H _ _ v u Q I rx ry ⟨_,_,rfl,rfl,j0 hz,q.now R (.str _)⟩
 ·rcases h with⟨a,l,n,ex,ha,h1,h2,hz,rfl,rfl⟩|⟨l,n,ex,dW,h1,h2,hz,rfl,rfl⟩
  rotate_left
  ·obtain⟨rfl,rfl⟩:=t9 ex;obtain⟨a',vs,rfl,ta,rs⟩:=rd.w9;obtain rfl:=re.i0;refine Ro pins s σ H _ _ v u Q I rx ry ⟨_,_,vs,rfl,rfl,ta.sq,λz=>?_,h1,h2,by rw[<- rs.length];exact j0 hz,λz=>?_,λp hp=>q.tup R hp (rs.rep _)⟩
   ·subst z;cases rs;exact dW rfl
   ·subst z;have:(List.replicate (Int.toNat 1) l).flatten=l:=by simp
    rw[this] at q;exact q.now R (.tup ta rs)
  obtain⟨rfl,rfl⟩:=t9 ex;obtain⟨a',rfl,ra⟩:=rd.i9;obtain rfl:=re.i0;obtain⟨vs,z1,rs⟩:=R.lst ha ra;exact XN pins s σ H _ _ v u Q I rx ry ⟨_,_,vs,rfl,rfl,z1,by omega,by omega,by rw[<- rs.length];exact j0 hz,λp hp=>q.new R hp (rs.rep _)⟩
theorem V'(op:UnaryOp):zz X (unaryOp op) (r1 X.K (.un op)):=by
 intro pins s σ H x v Q I rx h;obtain⟨d,g,ρ,R,rd,d',g',⟨rfl,i,ex,rfl,rfl⟩,q⟩:=h;cases ex;obtain rfl:=rd.i0;exact Qp pins s σ H _ v Q I rx ⟨_,rfl,q.now R (.int _)⟩
section
variable{ρ:List Addr}{g:G}{H:Hp}{pins:List (Addr×Obj)}{σ:L2.St}{s:Shared}
theorem II(I:Inv X pins σ H s)(R:Rl X.K ρ g H)(n:Nat)(ih:∀{d:D} {v:V} {u:Value} {p:PyData},rd g n d=some p->d0 X.K ρ H d v->RelV v u->∃as,Reads s.heap u p as/\p.depth<=n){l:List D}:∀{vs:List V} {us:List Value} {ps:List PyData},l.mapM (rd g n)=some ps->b0 X.K ρ H l vs->Vals vs us->∃as,ReadsAll s.heap us ps as/\PyData.depthAll ps<=n:=by
 induction l with
 |nil =>
  intro vs us ps h rs rv;cases rs;cases rv;simp at h;subst h;exact⟨_,.nil,cI _⟩
 |cons d l il =>
  intro vs us ps h rs rv;cases rs with
  |cons ia rs =>
   cases rv with
   |cons ru rv =>
    rw[List.mapM_cons] at h;cases e:rd g n d with
    |none=>rw[e] at h;cases h
    |some p =>
     rw[e] at h;cases e2:l.mapM (rd g n) with
     |none=>rw[e2] at h;cases h
     |some qs =>
      rw[e2] at h;cases h;obtain⟨as,q1,d1⟩:=ih e ia ru;obtain⟨bs,q2,d2⟩:=il e2 rs rv;refine⟨_,.cons q1 q2,?_⟩;simp only[PyData.depthAll];omega
theorem T1(I:Inv X pins σ H s)(R:Rl X.K ρ g H)(n:Nat):∀{d:D} {v:V} {u:Value} {p:PyData},rd g n d=some p->d0 X.K ρ H d v->RelV v u->∃as,Reads s.heap u p as/\p.depth<=n:=by
 induction n with
 |zero =>
  intro d v u p h r ru;cases r with
  |aQ=>simp only[rd] at h;cases h;cases ru;exact⟨_,.none,Nat.zero_le _⟩
  |bl b=>simp only[rd] at h;cases h;cases ru;exact⟨_,.bool b,Nat.zero_le _⟩
  |int i=>simp only[rd] at h;cases h;obtain⟨t,rfl⟩:=ru;exact⟨_,.int i t,Nat.zero_le _⟩
  |str x=>simp only[rd] at h;cases h;obtain⟨t,rfl⟩:=ru;exact⟨_,.str x t,Nat.zero_le _⟩
  |_=>simp only[rd] at h;cases h
 |succ n ih =>
  intro d v u p h r ru;cases r with
  |aQ=>simp only[rd] at h;cases h;cases ru;exact⟨_,.none,Nat.zero_le _⟩
  |bl b=>simp only[rd] at h;cases h;cases ru;exact⟨_,.bool b,Nat.zero_le _⟩
  |int i=>simp only[rd] at h;cases h;obtain⟨t,rfl⟩:=ru;exact⟨_,.int i t,Nat.zero_le _⟩
  |str x=>simp only[rd] at h;cases h;obtain⟨t,rfl⟩:=ru;exact⟨_,.str x t,Nat.zero_le _⟩
  |ty x=>simp only[rd] at h;cases h
  |ref ha =>
   rename_i i a;simp only[rd] at h;cases e:d5 g i with
   |none=>rw[e] at h;cases h
   |some l =>
    rw[e] at h;dsimp only at h;cases e2:l.mapM (rd g n) with
    |none=>rw[e2] at h;cases h
    |some ps =>
     rw[e2] at h;cases h;cases ru;obtain⟨vs,hq,rs⟩:=R.items e ha;obtain⟨aT,rv,p,hz⟩:=I.list hq;obtain⟨as,q,hd⟩:=II I R n ih e2 rs rv;obtain⟨o,ho,hc,k,qV⟩:=p.isList;refine⟨_,.list ho hc qV (by simpa using q),?_⟩;simp only[PyData.depth];omega
  |tup ht rs =>
   rename_i l a vs;simp only[rd] at h;cases e2:l.mapM (rd g n) with
   |none=>rw[e2] at h;cases h
   |some ps =>
    rw[e2] at h;cases h;cases ru;obtain⟨aT,rv,pt,hz⟩:=I.tuple ht.sq;obtain⟨as,q,hd⟩:=II I R n ih e2 rs rv;obtain⟨o,ho,hc,k,qV⟩:=id pt;refine⟨_,.tuple ho hc qV (by simpa using q),?_⟩;simp only[PyData.depth];omega
end
end
section
variable{X:Cx}
theorem yS{α:Type}[BEq α][LawfulBEq α][DecidableEq α](a b:α):decide (a=b)=(a==b):=by
 by_cases e:a=b
 ·subst e;simp
 ·rw[aG e];exact(cE.mpr e).symm
theorem yX{K ρ H}{d:D}{v:V}{c:Key}(h:pb d=some c)(r:d0 K ρ H d v):v=kV c:=by
 cases r<;>first|(cases h;rfl)|cases h
theorem rV.some{K ρ H}{o:Option V}{d:D}(h:rV K ρ H (some d) o):∃v,o=some v/\d0 K ρ H d v:=by
 cases o with
 |none=>exact h.elim
 |some v=>exact⟨v,rfl,h⟩
theorem rV.isSome{K ρ H}{o:Option V}{d:Option D}(h:rV K ρ H d o):d.isSome=o.isSome:=by
 cases o<;>cases d<;>first|rfl|exact h.elim
theorem GN{pins:List (Addr×Obj)}{s:Shared}{σ:L2.St}{H:Hp}{ρ:List Addr}{g:G}{d e:D}{x y:V}{v u:Value}{b:Bool}{Q:VK}(hu:X.A.units+100<cLine)(I:Inv X pins σ H s)(rx:RelV x v)(ry:RelV y u)(R:Rl X.K ρ g H)(ia:d0 X.K ρ H d x)(re:d0 X.K ρ H e y)(h:wu g d e b)(neg:Bool)(q:Q (.bl (xor neg b)) H):wpAny (model X.prog X.w) X.A (compareOp (if neg then .NotEq else .Eq) v u) (EP X pins σ Q) X.xe s:=by
 rcases h with⟨i,j,rfl,rfl,rfl⟩|⟨i,j,rfl,rfl,rfl⟩|⟨i,j,rfl,rfl,rfl⟩|⟨p,p',h1,h2,c1,c2,rfl⟩
 ·obtain rfl:=ia.i0;obtain rfl:=re.i0;cases neg
  ·exact DG pins s σ H _ _ v u Q I rx ry ⟨rfl,by rw[yT];simpa[yS] using q⟩
  ·exact DH pins s σ H _ _ v u Q I rx ry ⟨rfl,by rw[yT];simpa[yS] using q⟩
 ·obtain rfl:=ia.L9;obtain rfl:=re.L9;cases neg
  ·exact DG pins s σ H _ _ v u Q I rx ry ⟨rfl,by rw[yH];simpa using q⟩
  ·exact DH pins s σ H _ _ v u Q I rx ry ⟨rfl,by rw[yH];simpa using q⟩
 ·obtain rfl:=ia.x9;obtain rfl:=re.x9;cases neg
  ·exact DG pins s σ H _ _ v u Q I rx ry ⟨rfl,by rw[yU];simpa[yS] using q⟩
  ·exact DH pins s σ H _ _ v u Q I rx ry ⟨rfl,by rw[yU];simpa[yS] using q⟩
 ·obtain⟨as,q1,d1⟩:=T1 I R 6 h1 ia rx;obtain⟨bs,q2,d2⟩:=T1 I R 6 h2 re ry;have hr:X.A.units+min p.depth p'.depth<cLine:=by omega
  cases neg
  ·exact SeqAt.compareEq_reads q1 q2 c1 c2 hr ⟨.bl _,H,I,rfl,by simpa using q⟩
  ·exact SeqAt.compareNe_reads q1 q2 c1 c2 hr ⟨.bl _,H,I,rfl,by simpa using q⟩
theorem in_of{pins:List (Addr×Obj)}{s:Shared}{σ:L2.St}{H:Hp}{ρ:List Addr}{g:G}{d e:D}{x y:V}{v u:Value}{b:Bool}{Q:VK}(hu:X.A.units+100<cLine)(I:Inv X pins σ H s)(rx:RelV x v)(ry:RelV y u)(R:Rl X.K ρ g H)(ia:d0 X.K ρ H d x)(re:d0 X.K ρ H e y)(h:inR g d e b)(neg:Bool)(q:Q (.bl (xor neg b)) H):wpAny (model X.prog X.w) X.A (compareOp (if neg then .NotIn else .In) v u) (EP X pins σ Q) X.xe s:=by
 rcases h with⟨a,kvs,c,rfl,ha,hc,rfl⟩|⟨l,ps,p,h0,h1,h2,c1,c2,rfl⟩
 ·obtain⟨a',rfl,ra⟩:=re.i9;obtain⟨vs,z,rs⟩:=R.bV ha ra;have:=yX hc ia;subst this;cases ry;rw[(rs.val c).isSome] at q;cases neg
  ·exact Tn (by omega) I (Y3.k z) rx λs' I'=>⟨.bl _,H,I',rfl,by simpa using q⟩
  ·exact QI (by omega) I (Y3.k z) rx λs' I'=>⟨.bl _,H,I',rfl,by simpa using q⟩
 ·obtain⟨as,q1,d1⟩:=T1 I R 6 h2 ia rx;cases e with
  |tup m =>
   cases h0;have h3:rd g 7 (.tup l)=some (.tuple ps):=by simp only[rd];rw[show l.mapM (rd g 6)=some ps from h1];rfl
   obtain⟨bs,q2,d2⟩:=T1 I R 7 h3 re ry;have hr:X.A.units+1+min (PyData.depthAll ps) p.depth<cLine:=by omega
   cases neg
   ·exact SeqAt.in_tuple_reads q2 q1 c1 c2 hr ⟨.bl _,H,I,rfl,by simpa using q⟩
   ·exact SeqAt.notIn_tuple_reads q2 q1 c1 c2 hr ⟨.bl _,H,I,rfl,by simpa using q⟩
  |ref a =>
   have h3:rd g 7 (.ref a)=some (.list ps):=by
    simp only[rd];rw[show d5 g a=some l from h0];dsimp only;rw[show l.mapM (rd g 6)=some ps from h1]
    rfl
   obtain⟨bs,q2,d2⟩:=T1 I R 7 h3 re ry;have hr:X.A.units+1+min (PyData.depthAll ps) p.depth<cLine:=by omega
   cases neg
   ·exact SeqAt.in_list_reads q2 q1 c1 c2 hr ⟨.bl _,H,I,rfl,by simpa using q⟩
   ·exact SeqAt.notIn_list_reads q2 q1 c1 c2 hr ⟨.bl _,H,I,rfl,by simpa using q⟩
  |_=>cases h0
theorem Y5(hu:X.A.units+100<cLine)(op:CmpOp):ft X (compareOp op) (r2 X.K (.cmp op)):=by
 intro pins s σ H x y v u Q I rx ry h;obtain⟨d,e,g,ρ,R,ia,re,d',g',⟨x',y',b,ex,h,rfl,rfl⟩,q⟩:=h;obtain⟨rfl,rfl⟩:=t9 ex;have fin:=q.now R (.bl b);have nY:∀{P:Int->Int->Bool},(∃i j,d=.int i/\e=.int j/\b=P i j)->∃i j,x=.int i/\y=.int j/\b=P i j:=λhh=>by
  obtain⟨i,j,z1,z2,z3⟩:=hh;exact⟨i,j,(z1▸ia).i0,(z2▸re).i0,z3⟩
 cases op
 ·exact GN hu I rx ry R ia re h false (by simpa using fin)
 ·exact GN hu I rx ry R ia re h true (by simpa using fin)
 ·obtain⟨i,j,e1,e2,e3⟩:=nY (P:=λi j=>decide (i<j)) h;exact VY pins s σ H _ _ v u Q I rx ry ⟨i,j,e1,e2,by subst e3;exact fin⟩
 ·obtain⟨i,j,e1,e2,e3⟩:=nY (P:=λi j=>decide (i<=j)) h;exact VX pins s σ H _ _ v u Q I rx ry ⟨i,j,e1,e2,by subst e3;exact fin⟩
 ·obtain⟨i,j,e1,e2,e3⟩:=nY (P:=λi j=>decide (j<i)) h;exact VW pins s σ H _ _ v u Q I rx ry ⟨i,j,e1,e2,by subst e3;exact fin⟩
 ·obtain⟨i,j,e1,e2,e3⟩:=nY (P:=λi j=>decide (j<=i)) h;exact VU pins s σ H _ _ v u Q I rx ry ⟨i,j,e1,e2,by subst e3;exact fin⟩
 ·obtain⟨rfl,rfl⟩:=(show _/\_ from h)
  obtain rfl:=re.yK;refine XH pins s σ H _ _ v u Q I rx ry ⟨rfl,?_⟩;have e:V5 d=decide (x=V.aQ):=by cases ia<;>simp[V5]
  rw[<- e];exact fin
 ·obtain⟨rfl,rfl⟩:=(show _/\_ from h)
  obtain rfl:=re.yK;refine Rn pins s σ H _ _ v u Q I rx ry ⟨rfl,?_⟩;have e:V5 d=decide (x=V.aQ):=by cases ia<;>simp[V5]
  rw[<- e];exact fin
 ·rcases h with h|⟨a,S,n,i,rfl,ha,rfl,rfl⟩
  ·exact in_of hu I rx ry R ia re h false (by simpa using fin)
  ·obtain⟨a',rfl,ra⟩:=re.i9;obtain rfl:=ia.i0;exact Yx pins s σ H _ _ v u Q I rx ry ⟨i,a',S,n,rfl,rfl,R.set ha ra,fin⟩
 ·rcases h with h|⟨a,S,n,i,rfl,ha,rfl,hb⟩
  ·exact in_of hu I rx ry R ia re h true (by simpa using fin)
  ·obtain⟨a',rfl,ra⟩:=re.i9;obtain rfl:=ia.i0;exact aC1 pins s σ H _ _ v u Q I rx ry ⟨i,a',S,n,rfl,rfl,R.set ha ra,by rw[<- hb,ug];exact fin⟩
theorem empty_eq{K ρ H}{l:List D}{vs:List V}(r:b0 K ρ H l vs):l.isEmpty=vs.isEmpty:=by cases r<;>rfl
theorem Ql{K:PySem.W.Frag}{ρ:List Addr}{g:G}{H:Hp}{d:D}{x:V}{b:Bool}(R:Rl K ρ g H)(r:d0 K ρ H d x)(h:Gq g d b):BS K x H b:=by
 rcases h with⟨rfl,rfl⟩|rfl|⟨i,rfl,rfl⟩|⟨l,rfl,rfl⟩|⟨a,l,rfl,hl,rfl⟩
 ·obtain rfl:=r.yK;rfl
 ·obtain rfl:=r.L9;rfl
 ·obtain rfl:=r.i0;rfl
 ·obtain⟨a,vs,rfl,ht,rs⟩:=r.w9;exact .inr (.inl ⟨_,ht.sq,by rw[empty_eq rs]⟩)
 ·obtain⟨a',rfl,ha⟩:=r.i9;obtain⟨vs,hq,rs⟩:=R.items hl ha;exact .inl ⟨_,hq,by rw[empty_eq rs]⟩
theorem QB{K ρ H}{l:List D}{vs:List V}{i:Int}{d:D}(r:b0 K ρ H l vs)(h:fW l i=some d):∃v,fW vs i=some v/\d0 K ρ H d v:=by
 unfold fW at h ⊢;rw[<- r.length];cases e:kG l.length i with
 |none=>rw[e] at h;cases h
 |some j =>
  rw[e] at h;exact r.get h
theorem yL{K ρ H}{g:G}{x:D}{v:V}{l:List D}(R:Rl K ρ g H)(r:d0 K ρ H x v)(h:B1 g x=some l):∃a vs,v=.ref a/\b0 K ρ H l vs/\((∃i,x=.ref i/\ρ[i]?=some a)/\gx K H a vs\/x=.tup l/\TupAt K H a vs):=by
 cases r with
 |tup ht rs=>cases h;exact⟨_,_,rfl,rs,.inr ⟨rfl,ht⟩⟩
 |ref ha=>obtain⟨vs,hq,rs⟩:=R.items h ha;exact⟨_,_,rfl,rs,.inl ⟨⟨_,rfl,ha⟩,hq⟩⟩
 |_=>cases h
theorem VI(hu:X.A.units+100<cLine):sg X (r2 X.K .ix):=by
 intro value slice pins s σ H x y v u Q I rx ry h hs;obtain⟨d,e,g,ρ,R,ia,re,d',g',⟨rfl,h⟩,q⟩:=h;rcases h with⟨x',l,i,ex,hl,ha⟩|⟨a,kvs,y',c,ex,ha,hc,hv⟩|⟨x',i,c,ex,h0,h1,rfl⟩
 ·obtain⟨rfl,rfl⟩:=t9 ex;obtain rfl:=re.i0;obtain⟨a,vs,rfl,rs,h⟩:=yL R ia hl;obtain⟨w,hw,fT⟩:=QB rs ha;rcases h with⟨_,hq⟩|⟨_,ht⟩
  ·exact QT value slice pins s σ H _ _ v u Q I rx ry ⟨_,_,i,w,rfl,rfl,hq,hw,q.now R fT⟩ hs
  ·exact Xo value slice pins s σ H _ _ v u Q I rx ry ⟨_,_,i,w,rfl,rfl,ht.sq,hw,q.now R fT⟩ hs
 ·obtain⟨rfl,rfl⟩:=t9 ex;obtain⟨a',rfl,ra⟩:=ia.i9;obtain⟨vs,z,rs⟩:=R.bV ha ra;have:=yX hc re;subst this;have q2:=rs.val c;rw[hv] at q2;obtain⟨w,hw,fT⟩:=q2.some;exact QS (by omega) value slice pins s σ H _ _ v u Q I rx ry ⟨_,w,rfl,by have:=Y3.k (k:=c) z;rw[hw] at this;exact this,q.now R fT⟩ hs
 ·obtain⟨rfl,rfl⟩:=t9 ex;obtain rfl:=ia.x9;obtain rfl:=re.i0;exact Xm value slice pins s σ H _ _ v u Q I rx ry ⟨x',i,c,rfl,rfl,j0 h0,h1,q.now R (.str _)⟩ hs
end
end M

namespace M
open PySem L2 PySem.Spec PyProof.Rows
section
variable{X:Cx}
def LV(K:PySem.W.Frag):V->Option Int->Option Int->Hp->VK->Prop:=λx lo hi H Q=>∃d g ρ d' g',Rl K ρ g H/\d0 K ρ H d x/\uB d lo hi g d' g'/\LQ K ρ H Q d' g'
theorem DL:xi X (LV X.K):=by
 intro pins s σ H x v vl vu lo hi sl Q I rx hs pl pu h;obtain⟨d,g,ρ,d',g',R,ia,h,q⟩:=h;rcases h with⟨l,rfl,rfl,rfl⟩|⟨a,l,rfl,hl,rfl,rfl⟩
 ·obtain⟨a,vs,rfl,ht,rs⟩:=ia.w9;refine Sh pins s σ H _ v vl vu lo hi sl Q I rx hs pl pu ⟨_,_,rfl,ht.sq,λz=>?_,λp hp=>q.tup R hp (rs.cut lo hi)⟩;refine q.now R (.tup ht ?_);have:=rs.cut lo hi;rw[z] at this;exact this
 ·obtain⟨a',rfl,ha⟩:=ia.i9;obtain⟨vs,hq,rs⟩:=R.items hl ha;exact Sg pins s σ H _ v vl vu lo hi sl Q I rx hs pl pu ⟨_,_,rfl,hq,λp hp=>q.new R hp (rs.cut lo hi)⟩
def Uj(K:PySem.W.Frag):V->V->V->Hp->(Hp->Prop)->Prop:=λo i v H Q=>∃BI di dv g ρ,Rl K ρ g H/\d0 K ρ H BI o/\d0 K ρ H di i/\d0 K ρ H dv v/\Z9 BI di dv g (λg'=>∀bD H',Ext ρ H bD H'->Rl K bD g' H'->Q H')
theorem Py(hu:X.A.units+100<cLine):BQ X (Uj X.K):=by
 intro pins s σ H o i v ov iv u Q I ro ri rv h;obtain⟨BI,di,dv,g,ρ,R,r1,r2,r3,g',h,q⟩:=h;rcases h with⟨a,i',l,j,rfl,rfl,hl,hj,rfl⟩|⟨a,kvs,c,rfl,ha,hc,hz,rfl⟩
 ·obtain⟨a',rfl,ha⟩:=r1.i9;obtain rfl:=r2.i0;obtain⟨vs,z,rs⟩:=R.lst hl ha;obtain⟨R',e'⟩:=R.write hl ha (rs.set r3 j);exact set_list pins s σ H _ _ _ ov iv u Q I ro ri rv ⟨_,vs,_,j,rfl,rfl,z,by rw[<- rs.length];exact hj,q ρ _ e' R'⟩
 ·obtain⟨a',rfl,ra⟩:=r1.i9;obtain⟨vs,z,rs⟩:=R.bV ha ra;have:=yX hc r2;subst this;obtain⟨R',e'⟩:=R.put (o':=.bV (putD kvs c dv)) (u:=.dK (putK vs c v)) ha rfl ra (rs.put r3);cases ro;exact a16 (by omega) I (zp.k z (by rw[<- rs.length];exact yZ hz)) ri rv λs' I'=>⟨_,I',q ρ _ e' R'⟩
theorem Xw:l9 X (.builtin "len") (rN X.K .len):=by
 intro pins s σ H xs us Q I r h;obtain⟨ds,g,ρ,R,rs,d',g',⟨rfl,h⟩,q⟩:=h;rcases h with⟨x,l,rfl,hl,rfl⟩|⟨a,kvs,rfl,ha,rfl⟩|⟨x,rfl,hz,rfl⟩
 ·obtain⟨v,rfl,rv⟩:=rs.one;obtain⟨a,vs,rfl,rl,h⟩:=yL R rv hl;refine aF8 pins s σ H _ us Q I r ⟨_,_,rfl,?_,by rw[<- rl.length];exact q.now R (.int _)⟩;exact h.imp (λz=>z.2) (λz=>z.2.sq)
 ·obtain⟨v,rfl,rv⟩:=rs.one;obtain⟨a',rfl,ra⟩:=rv.i9;obtain⟨vs,z,rk⟩:=R.bV ha ra;exact a21 pins s σ H _ us Q I r ⟨_,_,rfl,z,by rw[<- rk.length];exact q.now R (.int _)⟩
 ·obtain⟨v,rfl,rv⟩:=rs.one;obtain rfl:=rv.x9;exact aF7 pins s σ H _ us Q I r ⟨_,rfl,j0 hz,q.now R (.int _)⟩
theorem d9.keys{α:Type}{K ρ H}{ds:List (α×D)}{vs:List (α×V)}(h:d9 K ρ H ds vs):ds.map (·.1)=vs.map (·.1):=by
 induction h with
 |nil=>rfl
 |cons _ _ ih=>rw[ba,ba,ih]
theorem QW(hc:X.calm=true):l9 X (.type "list") (rN X.K .list):=by
 intro pins s σ H xs us Q I r h;obtain⟨ds,g,ρ,R,rs,d',g',⟨x,l,rfl,hl,rfl,rfl⟩|⟨⟨⟩⟩,q⟩:=h;obtain⟨v,rfl,rv⟩:=rs.one;obtain⟨a,vs,rfl,rl,h⟩:=yL R rv hl;exact aF6 pins s σ H _ us Q I r ⟨_,_,rfl,h.imp (λz=>z.2) (λz=>z.2.sq),λp hp=>q.new R hp rl⟩
theorem a37:l9 X (.type "tuple") (rN X.K .tuple):=by
 intro pins s σ H xs us Q I r h;obtain⟨ds,g,ρ,R,rs,d',g',⟨x,l,rfl,hl,rfl,rfl⟩,q⟩:=h;obtain⟨v,rfl,rv⟩:=rs.one;obtain⟨a,vs,rfl,rl,h⟩:=yL R rv hl;refine XR pins s σ H _ us Q I r ⟨a,vs,rfl,?_⟩;exact h.imp (λz=>⟨z.2,λp hp=>q.tup R hp rl⟩) (λz=>⟨z.2.sq,q.now R (.tup z.2 rl)⟩)
theorem QR:l9 X (.builtin "isinstance") (rN X.K .isin):=by
 intro pins s σ H xs us Q I r h;obtain⟨ds,g,ρ,R,rs,d',g',⟨x,c,b,rfl,hc,hb,rfl,rfl⟩,q⟩:=h;obtain⟨v,w,rfl,r1,r2⟩:=rs.two;obtain rfl:=r2.WK;have fin:=q.now R (.bl b);have go:∀(t:Value) (v:V),gM X.K H v t->PySem.W.kitOne X.K t (.type c)=some b->Vals [v,V.ty c] us->wpAny (model X.prog X.w) X.A (call (.builtin "isinstance") us) (EP X pins σ Q) X.xe s :=
  λt v ht hk r=>ZT pins s σ H _ us Q I r ⟨v,t,c,b,rfl,ht,hk,fin⟩
 simp only[List.mem_cons,List.mem_nil_iff,or_false] at hc;cases r1 with
 |aQ=>refine go _ _ .aQ ?_ r;cases hb;rcases hc with rfl|rfl|rfl|rfl|rfl<;>rfl
 |bl y=>refine go _ _ (.bl y) ?_ r;cases hb;rcases hc with rfl|rfl|rfl|rfl|rfl<;>rfl
 |int y=>refine go _ _ (.int y) ?_ r;cases hb;rcases hc with rfl|rfl|rfl|rfl|rfl<;>rfl
 |str y=>refine go _ _ (.str y) ?_ r;cases hb;rcases hc with rfl|rfl|rfl|rfl|rfl<;>rfl
 |ty _=>cases hb
 |tup ht rs =>
  cases hb;rcases ht with ht|ht
  ·refine go _ _ (.tup ht) ?_ r;rcases hc with rfl|rfl|rfl|rfl|rfl<;>rfl
  ·obtain⟨o,aT,n,lk,ja,_⟩:=ht;obtain⟨u,w',rfl,ru,fT⟩:=vals2 r;cases (show w'=Value.type c from fT);cases ru;have hk:PySem.W.kitOne X.K (.type "tuple") (.type c)=some (c=="tuple"):=by rcases hc with rfl|rfl|rfl|rfl|rfl<;>rfl
   exact bK Lr I.gm ⟨o,I.gm _ _ lk,ja⟩ hk (λz=>nomatch z) λtk=>⟨.bl _,H,I.tok tk,rfl,fin⟩
 |@ref i a ha =>
  have sU:∃m,g'[i]?=some (.lst m)/\b=(c=="list"):=by
   simp only[rO] at hb;split at hb
   ·exact⟨_,by assumption,(aO hb).symm⟩
   ·cases hb
  obtain⟨m,e,rfl⟩:=sU;obtain⟨vs,z,_⟩:=R.lst e ha;refine go _ _ (.lst z) ?_ r;rcases hc with rfl|rfl|rfl|rfl|rfl<;>rfl
theorem Zf:∀{l:List D} {b:Bool},O8 l=some b->∃bs:List Bool,l=bs.map D.bl/\b=bs.all id:=by
 intro l
 induction l with
 |nil=>intro b h;cases h;exact⟨[],rfl,rfl⟩
 |cons d r ih =>
  intro b h;cases d<;>first|(cases h;done)|skip
  rename_i c;simp only[O8] at h;cases e:O8 r with
  |none=>rw[e] at h;cases h
  |some b' =>
   rw[e] at h;cases h;obtain⟨bs,rfl,rfl⟩:=ih e;exact⟨c::bs,rfl,by simp⟩
theorem b0.RE{K ρ H}:∀{bs:List Bool} {vs:List V},b0 K ρ H (bs.map D.bl) vs->vs=bs.map V.bl:=by
 intro bs
 induction bs with
 |nil=>intro vs h;cases h;rfl
 |cons b r ih =>
  intro vs h;cases h with
  |cons h rr=>rw[ih rr,h.L9];rfl
theorem WX(hc:X.calm=true):l9 X (.builtin "all") (rN X.K .all):=by
 intro pins s σ H xs us Q I r h;obtain⟨ds,g,ρ,R,rs,d',g',⟨a,l,b,rfl,hl,hb,rfl,rfl⟩,q⟩:=h;obtain⟨v,rfl,rv⟩:=rs.one;obtain⟨a',rfl,ra⟩:=rv.i9;obtain⟨vs,hq,rs⟩:=R.items hl ra;rcases hb with hb|⟨ns,rfl,rfl⟩
 rotate_left
 ·have:=rs.ints;subst this;exact a22 hc pins s σ H _ us Q I r ⟨_,ns,rfl,hq,q.now R (.bl _)⟩
 obtain⟨bs,rfl,rfl⟩:=Zf hb;have:=rs.RE;subst this;exact a23 hc pins s σ H _ us Q I r ⟨_,bs,rfl,hq,q.now R (.bl _)⟩
theorem Xl:l9 X (.type "int") (rN X.K .int):=by
 intro pins s σ H xs us Q I r h;obtain⟨ds,g,ρ,R,rs,d',g',⟨rfl,h⟩,q⟩:=h;rcases h with⟨i,rfl,rfl⟩|⟨b,rfl,rfl⟩
 ·obtain⟨v,rfl,rv⟩:=rs.one;obtain rfl:=rv.i0;exact HM pins s σ H _ us Q I r (.inl ⟨i,rfl,q.now R (.int _)⟩)
 ·obtain⟨v,rfl,rv⟩:=rs.one;obtain rfl:=rv.L9;exact HM pins s σ H _ us Q I r (.inr ⟨b,rfl,q.now R (.int _)⟩)
theorem PZ:l9 X (.type "str") (rN X.K .str):=by
 intro pins s σ H xs us Q I r h;obtain⟨ds,g,ρ,R,rs,d',g',⟨i,rfl,hi,rfl,rfl⟩|⟨x,rfl,rfl,rfl⟩,q⟩:=h
 ·obtain⟨v,rfl,rv⟩:=rs.one;obtain rfl:=rv.i0;exact aF4 pins s σ H _ us Q I r ⟨i,rfl,hi,q.now R (.str _)⟩
 ·obtain⟨v,rfl,rv⟩:=rs.one;obtain rfl:=rv.x9;obtain⟨u,rfl,t,rfl⟩:=vals1 r;exact PySem.P.str_of_str ⟨.str _,H,I,⟨_,rfl⟩,q.now R (.str _)⟩
def rM(K:PySem.W.Frag)(p:Pr):V->List V->Hp->VK->Prop:=λx xs H Q=>∃d ds g ρ,Rl K ρ g H/\d0 K ρ H d x/\b0 K ρ H ds xs/\cu p (d::ds) g (LQ K ρ H Q)
theorem zg{a b:D}{l m:List D}(h:a::l=b::m):a=b/\l=m:=by cases h;exact⟨rfl,rfl⟩
theorem a26:lF X "list.append" (rM X.K .append):=by
 intro pins s σ H x xs v us Q I rx r h;obtain⟨d,ds,g,ρ,R,rd,rs,d',g',⟨a,y,l,ex,ha,hz,rfl,rfl⟩,q⟩:=h;obtain⟨rfl,rfl⟩:=zg ex;obtain⟨a',rfl,ra⟩:=rd.i9;obtain⟨w,rfl,fT⟩:=rs.one;obtain⟨vs,z1,rv⟩:=R.lst ha ra;obtain⟨R2,e2⟩:=R.write ha ra (rv.append (.cons fT .nil));exact Ys pins s σ H _ _ v us Q I rx r ⟨_,vs,_,rfl,rfl,z1,by rw[<- rv.length];exact yZ hz,q ρ _ _ e2 R2 .aQ⟩
theorem SH:lF X "list.clear" (rM X.K .clear):=by
 intro pins s σ H x xs v us Q I rx r h;obtain⟨d,ds,g,ρ,R,rd,rs,d',g',⟨a,l,ex,ha,rfl,rfl⟩,q⟩:=h;obtain⟨rfl,rfl⟩:=zg ex;obtain⟨a',rfl,ra⟩:=rd.i9;cases rs;obtain⟨vs,z1,rv⟩:=R.lst ha ra;obtain⟨R2,e2⟩:=R.write ha ra (b0.nil);exact a81 pins s σ H _ _ v us Q I rx r ⟨_,vs,rfl,rfl,z1,q ρ _ _ e2 R2 .aQ⟩
theorem RA:lF X "list.pop" (rM X.K .jk):=by
 intro pins s σ H x xs v us Q I rx r h;obtain⟨d,ds,g,ρ,R,rd,rs,y,g',⟨a,l,ex,ha,rfl⟩,q⟩:=h;obtain⟨rfl,rfl⟩:=zg ex;obtain⟨a',rfl,ra⟩:=rd.i9;cases rs;obtain⟨vs,z1,rv⟩:=R.lst ha ra;obtain⟨w,hw,fT⟩:=rv.get (i:=l.length) (d:=y) (by simp);have hl:vs.length=l.length+1:=by rw[<- rv.length];simp
 have rl:b0 X.K ρ H l vs.dropLast:=by
  have:=rv.erase l.length;rw[List.eraseIdx_append_of_length_le (aj _)] at this;rw[show vs.eraseIdx l.length=vs.dropLast by rw[List.eraseIdx_eq_dropLast];omega] at this;simpa using this
 obtain⟨R2,e2⟩:=R.write ha ra rl;exact XB pins s σ H _ _ v us Q I rx r ⟨_,vs,w,rfl,rfl,z1,by rw[hl];exact hw,q ρ _ _ e2 R2 (fT.ext e2)⟩
theorem SQ:l9 X (.type "dict") (rN X.K .jU):=by
 intro pins s σ H xs us Q I r h;obtain⟨ds,g,ρ,R,rs,d',g',⟨a,kvs,rfl,ha,rfl,rfl⟩,q⟩:=h;obtain⟨v,rfl,rv⟩:=rs.one;obtain⟨a',rfl,ra⟩:=rv.i9;obtain⟨vs,z1,rk⟩:=R.bV ha ra;cases r with
 |cons r rr =>
 cases rr;cases r;refine SO I (.inl z1) λp s' hp I'=>⟨.ref p,_,I',rfl,?_⟩
 exact q (ρ++[p]) _ _ (N9 hp) (R.new hp (o:=.bV kvs) (u:=.dK vs) rk) (.ref (R.B5 p))
theorem b0.strs{K ρ H}{ys:List Str}{vs:List V}(h:b0 K ρ H (ys.map D.str) vs):vs=ys.map V.str:=by
 induction ys generalizing vs with
 |nil=>cases h;rfl
 |cons y ys ih =>
  cases h with
  |cons q r=>cases q;rw[ih r];rfl
theorem QU:lF X "str.join" (rM X.K .join):=by
 intro pins s σ H x xs v us Q I rx r h;obtain⟨d,ds,g,ρ,R,rd,rs,d',g',⟨sep,a,ys,ex,ha,hz,rfl,rfl⟩,q⟩:=h;obtain⟨rfl,rfl⟩:=zg ex;obtain rfl:=rd.x9;obtain⟨w,rfl,fT⟩:=rs.one;obtain⟨a',rfl,ra⟩:=fT.i9;obtain⟨vs,hq,rv⟩:=R.items ha ra;obtain rfl:=rv.strs;exact Rb pins s σ H _ _ v us Q I rx r ⟨sep,a',ys,rfl,rfl,hq,j0 hz,q.now R (.str _)⟩
theorem ty_str{d:D}{v:V}{g:G}{ρ:List Addr}{H:Hp}(R:Rl X.K ρ g H)(r:d0 X.K ρ H d v)(h:∃y,d=.str y):nS X.K "str" v H:=by
 obtain⟨y,rfl⟩:=h;obtain rfl:=r.x9;exact rfl
theorem ty_list{d:D}{v:V}{g:G}{ρ:List Addr}{H:Hp}(R:Rl X.K ρ g H)(r:d0 X.K ρ H d v)(h:∃a l,d=.ref a/\d5 g a=some l):nS X.K "list" v H:=by
 obtain⟨a,l,rfl,hl⟩:=h;obtain⟨a',rfl,ra⟩:=r.i9;obtain⟨vs,hq,_⟩:=R.items hl ra;exact .inl ⟨rfl,vs,hq⟩
end
end M

namespace M
open PySem L2 PySem.Spec PyProof.Rows
noncomputable abbrev gL:=List Str×XK
def LX(K:PySem.W.Frag)(ρ:List Addr)(H:Hp)(Ξ:gL):KX:=λx g'=>∀bD H' C,Ext ρ H bD H'->Rl K bD g' H'->x.cls∈Ξ.1->n8 K x.cls C->Ξ.2 (.ref C) none H'
theorem LX.ext{K:PySem.W.Frag}{ρ bH:List Addr}{H H1:Hp}{Ξ:gL}(e:Ext ρ H bH H1){x:Xn}{g:G}(h:LX K ρ H Ξ x g):LX K bH H1 Ξ x g:=λbD H' C e' R hm c=>h bD H' C (e.trans e') R hm c
noncomputable abbrev nE(ex:List Str):gL:=(ex,λ_ _ _=>False)
def LE(K:PySem.W.Frag)(Ξ:gL)(t:S->G->KD->KX->Prop):TE:=λbE H Q=>∃σ g ρ,l8 K ρ H σ bE/\Rl K ρ g H/\t σ g (LQ K ρ H Q) (LX K ρ H Ξ)
def LT(K:PySem.W.Frag)(Ξ:gL)(t:S->G->(Bool->G->Prop)->KX->Prop):TT:=λbE H Q=>∃σ g ρ,l8 K ρ H σ bE/\Rl K ρ g H/\t σ g (λb g'=>∀bD H',Ext ρ H bD H'->Rl K bD g' H'->Q b H') (LX K ρ H Ξ)
def LA(K:PySem.W.Frag)(Ξ:gL)(t:S->G->(List D->G->Prop)->KX->Prop):TA:=λbE H Q=>∃σ g ρ,l8 K ρ H σ bE/\Rl K ρ g H/\t σ g (λds g'=>∀bD H' vs,Ext ρ H bD H'->Rl K bD g' H'->b0 K bD H' ds vs->Q vs H') (LX K ρ H Ξ)
def tu(K:PySem.W.Frag)(gF:List Addr)(H0:Hp)(k:IK)(J:It):Prop:=∀ρ g H,Ext gF H0 ρ H->Rl K ρ g H->∀i,(k.at i g=some none->J.stop i H) /\
 ∀d,k.at i g=some (some d)->J.go i H/\∀v H',J.uj i H v H'->Ext ρ H ρ H'/\Rl K ρ g H'/\d0 K ρ H' d v
def LI(K:PySem.W.Frag)(Ξ:gL)(t:S->G->(IK->G->Prop)->KX->Prop):TI:=λbE H R=>∃σ g ρ,l8 K ρ H σ bE/\Rl K ρ g H/\t σ g (λk g'=>∀bD H' J,Ext ρ H bD H'->Rl K bD g' H'->tu K bD H' k J->R J H') (LX K ρ H Ξ)
def LG(K:PySem.W.Frag)(t:MT):TG:=λv bE H Q=>∃d σ g ρ,l8 K ρ H σ bE/\Rl K ρ g H/\d0 K ρ H d v/\jY t d σ (λcj=>∀dA,l8 K ρ H cj dA->Q dA H)
def LN(K:PySem.W.Frag)(ρ:List Addr)(H:Hp)(N:L2.Ends):Ends where
 nx:=λcj g'=>∀bD H' dA,Ext ρ H bD H'->Rl K bD g' H'->l8 K bD H' cj dA->N.nx dA H'
 rt:=LQ K ρ H N.rt
 bk:=λcj g'=>∀bD H' dA,Ext ρ H bD H'->Rl K bD g' H'->l8 K bD H' cj dA->N.bk dA H'
 ct:=λcj g'=>∀bD H' dA,Ext ρ H bD H'->Rl K bD g' H'->l8 K bD H' cj dA->N.ct dA H'
def LS(K:PySem.W.Frag)(Ξ:gL)(t:Ends->S->G->KX->Prop):TS:=λN bE H=>∃σ g ρ,l8 K ρ H σ bE/\Rl K ρ g H/\t (LN K ρ H N) σ g (LX K ρ H Ξ)
end M
namespace L2
open PySem PySem.Spec PyProof.Rows
section
variable{X:Cx}{e:Expr}
theorem PE.imp{t t':TE}(h:PE X e t)(i:∀σ H Q,t' σ H Q->t σ H Q):PE X e t':=λpins s σ H Q I q=>h pins s σ H Q I (i σ H Q q)
theorem PT.imp{t t':TT}(h:PT X e t)(i:∀σ H Q,t' σ H Q->t σ H Q):PT X e t':=λpins s σ H Q I q=>h pins s σ H Q I (i σ H Q q)
theorem PW.imp{t t':TT}(h:PW X e t)(i:∀σ H Q,t' σ H Q->t σ H Q):PW X e t':=λw pins s σ H Q I q=>h w pins s σ H Q I (i σ H Q q)
theorem PA.imp{es:List Expr}{t t':TA}(h:PA X es t)(i:∀σ H Q,t' σ H Q->t σ H Q):PA X es t':=λp pins s σ H Q I q=>h p pins s σ H Q I (i σ H Q q)
theorem lS.imp{es:List Expr}{t t':TT}(h:lS X es t)(i:∀σ H Q,t' σ H Q->t σ H Q):lS X es t':=λpins s σ H Q I q=>h pins s σ H Q I (i σ H Q q)
theorem PI.imp{tg:Expr}{t t':TI}(h:PI X tg e t)(i:∀σ H Q,t' σ H Q->t σ H Q):PI X tg e t':=λpins s σ H Q I q=>h pins s σ H Q I (i σ H Q q)
theorem PG.imp{t t':TG}(h:PG X e t)(i:∀v σ H Q,t' v σ H Q->t v σ H Q):PG X e t':=λpins s σ H v u Q I r q=>h pins s σ H v u Q I r (i v σ H Q q)
theorem PS.imp{st:Stmt}{t t':TS}(h:PS X st t)(i:∀N σ H,t' N σ H->t N σ H):PS X st t':=λpins s σ H N I q=>h pins s σ H N I (i N σ H q)
theorem jb.imp{st:List Stmt}{t t':TS}(h:jb X st t)(i:∀N σ H,t' N σ H->t N σ H):jb X st t':=λpins s σ H N I q=>h pins s σ H N I (i N σ H q)
end
end L2
namespace M
open PySem L2 PySem.Spec PyProof.Rows
section
variable{K:PySem.W.Frag}{Ξ:gL}{P:fo}(hP:i6 P){ρ gF:List Addr}{H H0:Hp}{σ:S}{bE:L2.St}{g:G}{m:ME}
include hP
theorem eX{Q0:KD}{Q:VK}(s:l8 K ρ H σ bE)(R:Rl K ρ g H)(e0:Ext gF H0 ρ H)(h:aX P m σ g Q0 (LX K gF H0 Ξ))(k:∀x g1 bH H1 v1,Ext ρ H bH H1->Rl K bH g1 H1->d0 K bH H1 x v1->Q0 x g1->Q v1 H1):LE K Ξ (aX P m) bE H Q :=
 ⟨σ,g,ρ,s,R,b8 hP m _ _ _ _ _ _ (λx g1 h bH H1 v1 e1 R1 r1=>k x g1 bH H1 v1 e1 R1 r1 h) (λ_ _ z=>LX.ext e0 z) h⟩
theorem jv{Q0:List D->G->Prop}{Q:List V->Hp->Prop}(s:l8 K ρ H σ bE)(R:Rl K ρ g H)(e0:Ext gF H0 ρ H)(h:fe P m σ g Q0 (LX K gF H0 Ξ))(k:∀x g1 bH H1 v1,Ext ρ H bH H1->Rl K bH g1 H1->b0 K bH H1 x v1->Q0 x g1->Q v1 H1):LA K Ξ (fe P m) bE H Q :=
 ⟨σ,g,ρ,s,R,v5 hP m _ _ _ _ _ _ (λx g1 h bH H1 v1 e1 R1 r1=>k x g1 bH H1 v1 e1 R1 r1 h) (λ_ _ z=>LX.ext e0 z) h⟩
theorem qo{Q0:Bool->G->Prop}{Q:Bool->Hp->Prop}(s:l8 K ρ H σ bE)(R:Rl K ρ g H)(e0:Ext gF H0 ρ H)(h:dD P m σ g Q0 (LX K gF H0 Ξ))(k:∀t g1 bH H1,Ext ρ H bH H1->Rl K bH g1 H1->Q0 t g1->Q t H1):LT K Ξ (dD P m) bE H Q :=
 ⟨σ,g,ρ,s,R,o9 hP m _ _ _ _ _ _ (λt g1 h bH H1 e1 R1=>k t g1 bH H1 e1 R1 h) (λ_ _ z=>LX.ext e0 z) h⟩
theorem ur{ms:MS}{N:L2.Ends}{N0:Ends}(s:l8 K ρ H σ bE)(R:Rl K ρ g H)(e0:Ext gF H0 ρ H)(h:wpS P ms N0 σ g (LX K gF H0 Ξ))(k:N0.le (LN K ρ H N)):LS K Ξ (wpS P ms) N bE H :=
 ⟨σ,g,ρ,s,R,wpS_mono hP ms _ _ _ _ _ _ k (λ_ _ z=>LX.ext e0 z) h⟩
end
theorem b0.lN{K ρ H}(lo:Int)(n:Nat):b0 K ρ H (k8 lo n) ((List.range n).map λ(k:Nat)=>V.int (lo+k)):=by
 unfold k8;have:∀l:List Nat,b0 K ρ H (l.map λ(k:Nat)=>D.int (lo+k)) (l.map λ(k:Nat)=>V.int (lo+k)):=by
  intro l
  induction l with
  |nil=>exact .nil
  |cons x r ih=>exact .cons (.int _) ih
 exact this _
section
variable{X:Cx}{Ξ:gL}{P:fo}(hP:i6 P){a b c e:Expr}{ma mb mc:ME}{pos:Pos}{p:Pr}
include hP
theorem Eg(h:PE X e (sk (r2 X.K p) (LE X.K Ξ (aX P ma)) (LE X.K Ξ (aX P mb)))):PE X e (LE X.K Ξ (aX P (.prim p (.cons ma (.cons mb .nil))))) :=
 h.imp λbE H Q bh=>by
  obtain⟨σ,g,ρ,s,R,h⟩:=bh;exact eX hP s R (.refl _ _) h λx g1 bH H1 v1 e1 R1 r1 h=>eX hP (s.ext e1) R1 e1 h λy g2 eW H2 v2 e2 R2 r2 h =>
   ⟨x,y,g2,eW,R2,r1.ext e2,r2,o7 (λd g' h=>h.ext (e1.trans e2)) h⟩
theorem PV{op:CmpOp}(h:PT X e (DM (sk (r2 X.K (.cmp op)) (LE X.K Ξ (aX P ma)) (LE X.K Ξ (aX P mb))))):PT X e (LT X.K Ξ (dD P (.eQ (.prim (.cmp op) (.cons ma (.cons mb .nil)))))) :=
 h.imp λbE H Q bh=>by
  obtain⟨σ,g,ρ,s,R,h⟩:=bh;refine eX hP s R (.refl _ _) h λx g1 bH H1 v1 e1 R1 r1 h=>eX hP (s.ext e1) R1 e1 h λy g2 eW H2 v2 e2 R2 r2 h=>?_;obtain⟨d',g',h,q⟩:=h;obtain⟨x',y',t,ex,hc,rfl,rfl⟩:=id h;refine⟨x,y,g',eW,R2,r1.ext e2,r2,_,_,h,λbD H' v e' R' r'=>?_⟩;obtain⟨t',ht,q⟩:=q;rcases ht with⟨z,_⟩|z|⟨i,z,_⟩|⟨l,z,_⟩|⟨a,l,z,_⟩<;>cases z
  exact⟨_,r'.L9,q bD H' (e1.trans (e2.trans e')) R'⟩
theorem Hc{op:UnaryOp}(ha:PE X a (LE X.K Ξ (aX P ma))):PE X (.UnaryOp op a pos) (LE X.K Ξ (aX P (.prim (.un op) (.cons ma .nil)))) :=
 (Wf (V' op) ha).imp λbE H Q bh=>by
  obtain⟨σ,g,ρ,s,R,h⟩:=bh;exact eX hP s R (.refl _ _) h λx g1 bH H1 v1 e1 R1 r1 h=>⟨x,g1,bH,R1,r1,o7 (λd g' h=>h.ext e1) h⟩
theorem Km{op ie:CmpOp}:∀bE H Q,LE X.K Ξ (aX P (.chain op ie ma mb mc)) bE H Q->Ei (r2 X.K (.cmp op)) (r2 X.K (.cmp ie)) (LE X.K Ξ (aX P ma)) (LE X.K Ξ (aX P mb)) (LE X.K Ξ (aX P mc)) bE H Q:=λbE H Q bh=>by
 obtain⟨σ,g,ρ,s,R,h⟩:=bh;refine eX hP s R (.refl _ _) h λx g1 bH H1 v1 e1 R1 r1 h=>eX hP (s.ext e1) R1 e1 h λy g2 eW H2 v2 e2 R2 r2 h=>?_;refine⟨x,y,g2,eW,R2,r1.ext e2,r2,o7 (λd g3 h jE H3 v3 e3 R3 r3=>?_) h⟩;obtain⟨t,rfl,h⟩:=h;obtain rfl:=r3.L9;refine⟨t,rfl,?_⟩;cases t
 ·exact h jE H3 _ (e1.trans (e2.trans e3)) R3 (.bl _)
 ·exact eX hP (s.ext (e1.trans (e2.trans e3))) R3 (e1.trans (e2.trans e3)) h λz g4 kU H4 v4 e4 R4 r4 h =>
   ⟨y,z,g4,kU,R4,r2.ext (e3.trans e4),r4,o7 (λd g' h=>h.ext (e1.trans (e2.trans (e3.trans e4)))) h⟩
theorem a55{op ie:CmpOp}(hu:X.A.units+100<cLine)(ha:PE X a (LE X.K Ξ (aX P ma)))(hb:PE X b (LE X.K Ξ (aX P mb)))(hc:PE X c (LE X.K Ξ (aX P mc)))(hm:lastMarks [op,ie] [b,c]=false) :
  PE X (.Compare a [op,ie] [b,c] pos) (LE X.K Ξ (aX P (.chain op ie ma mb mc))):=(a73 (Y5 hu op) (Y5 hu ie) ha hb hc hm).imp (Km hP)
theorem SF{op ie:CmpOp}{σ:S}{g:G}{Q:Bool->G->Prop}{E:KX}(h:dD P (.eQ (.chain op ie ma mb mc)) σ g Q E):aX P (.chain op ie ma mb mc) σ g (λd g'=>∃t,d=.bl t/\Q t g') E:=by
 have one:∀{o:CmpOp} {xs:List D} {g:G},cu (.cmp o) xs g (λd g1=>pY g1 d λb=>Q b g1)->cu (.cmp o) xs g λd g'=>∃t,d=.bl t/\Q t g':=by
  intro o xs g h;obtain⟨d',g',h,t',ht,q⟩:=h;obtain⟨x',y',t,ex,hc,rfl,rfl⟩:=id h;refine⟨_,_,h,t',?_,q⟩;rcases ht with⟨z,_⟩|z|⟨i,z,_⟩|⟨l,z,_⟩|⟨a,l,z,_⟩<;>first|exact z|cases z
 refine b8 hP ma _ _ _ _ _ _ (λx g1 h=>b8 hP mb _ _ _ _ _ _ (λy g2 h=>o7 (λz g3 h=>?_) h) (λ_ _ z=>z) h) (λ_ _ z=>z) h;obtain⟨t,rfl,h⟩:=h;refine⟨t,rfl,?_⟩;cases t
 ·obtain⟨b,hb,q⟩:=(show pY g3 (.bl false) λb=>Q b g3 from h)
  rcases hb with⟨z,_⟩|z|⟨i,z,_⟩|⟨l,z,_⟩|⟨a,l,z,_⟩<;>first|(cases z;exact⟨_,rfl,q⟩)|cases z
 ·exact b8 hP mc _ _ _ _ _ _ (λw g4 h=>one h) (λ_ _ z=>z) h
theorem a42{op ie:CmpOp}(hu:X.A.units+100<cLine)(ha:PE X a (LE X.K Ξ (aX P ma)))(hb:PE X b (LE X.K Ξ (aX P mb)))(hc:PE X c (LE X.K Ξ (aX P mc)))(hm:lastMarks [op,ie] [b,c]=false) :
  PT X (.Compare a [op,ie] [b,c] pos) (LT X.K Ξ (dD P (.eQ (.chain op ie ma mb mc)))) :=
 (a61 (Y5 hu op) (Y5 hu ie) ha hb hc hm).imp λbE H Q ⟨σ,g,ρ,s,R,h⟩ =>
  Km hP bE H _ (eX hP s R (.refl _ _) (SF hP h) λx g1 bH H1 v1 e1 R1 r1 h=>by
   obtain⟨t,rfl,h⟩:=h;exact ⟨t,r1.L9,h bH H1 e1 R1⟩)
theorem Pj{rest:List Expr}(ha:PE X a (LE X.K Ξ (aX P ma)))(hb:PE X (.BoolOp .And (b::rest) pos) (LE X.K Ξ (aX P mb))):PE X (.BoolOp .And (a::b::rest) pos) (LE X.K Ξ (aX P (.eY ma mb))) :=
 (OF ha hb).imp λbE H Q bh=>by
  obtain⟨σ,g,ρ,s,R,h⟩:=bh;refine eX hP s R (.refl _ _) h λx g1 bH H1 v1 e1 R1 r1 h=>?_;obtain⟨t,rfl,h⟩:=h;refine⟨t,r1.L9,?_⟩;cases t
  ·exact h bH H1 _ e1 R1 (.bl _)
  ·exact eX hP (s.ext e1) R1 e1 h λy g2 eW H2 v2 e2 R2 r2 h=>h eW H2 v2 (e1.trans e2) R2 r2
theorem Ws{rest:List Expr}(ha:PE X a (LE X.K Ξ (aX P ma)))(hb:PE X (.BoolOp .Or (b::rest) pos) (LE X.K Ξ (aX P mb))):PE X (.BoolOp .Or (a::b::rest) pos) (LE X.K Ξ (aX P (.iQ ma mb))) :=
 (We ha hb).imp λbE H Q bh=>by
  obtain⟨σ,g,ρ,s,R,h⟩:=bh;refine eX hP s R (.refl _ _) h λx g1 bH H1 v1 e1 R1 r1 h=>?_;obtain⟨t,rfl,h⟩:=h;refine⟨t,r1.L9,?_⟩;cases t
  ·exact eX hP (s.ext e1) R1 e1 h λy g2 eW H2 v2 e2 R2 r2 h=>h eW H2 v2 (e1.trans e2) R2 r2
  ·exact h bH H1 _ e1 R1 (.bl _)
theorem Pq(ha:PE X a (LE X.K Ξ (aX P ma))):PE X (.UnaryOp .Not a pos) (LE X.K Ξ (aX P (.cJ ma))) :=
 (OM ha).imp λbE H Q bh=>by
  obtain⟨σ,g,ρ,s,R,h⟩:=bh;refine eX hP s R (.refl _ _) h λx g1 bH H1 v1 e1 R1 r1 h=>?_;obtain⟨t,rfl,h⟩:=h;exact⟨t,r1.L9,h bH H1 _ e1 R1 (.bl _)⟩
theorem Pp(hc:PT X c (LT X.K Ξ (dD P mc)))(ha:PE X a (LE X.K Ξ (aX P ma)))(hb:PE X b (LE X.K Ξ (aX P mb))):PE X (.IfExp c a b pos) (LE X.K Ξ (aX P (.ite mc ma mb))) :=
 (a71 hc ha hb).imp λbE H Q bh=>by
  obtain⟨σ,g,ρ,s,R,h⟩:=bh;refine qo hP s R (.refl _ _) h λt g1 bH H1 e1 R1 h=>?_;cases t
  ·exact eX hP (s.ext e1) R1 e1 h λy g2 eW H2 v2 e2 R2 r2 h=>h eW H2 v2 (e1.trans e2) R2 r2
  ·exact eX hP (s.ext e1) R1 e1 h λy g2 eW H2 v2 e2 R2 r2 h=>h eW H2 v2 (e1.trans e2) R2 r2
theorem Pw{es:List Expr}{fU:ME}{k:Nat}(h:PA X es (LA X.K Ξ (fe P fU))):PE X (.Tuple es k pos) (LE X.K Ξ (aX P (.prim .tup fU))) :=
 (OP h).imp λbE H Q bh=>by
  obtain⟨σ,g,ρ,s,R,h⟩:=bh;refine jv hP s R (.refl _ _) h λds g1 bH H1 vs e1 R1 r1 h=>?_;obtain⟨d',g',⟨hz,rfl,rfl⟩,q⟩:=h;exact⟨by rw[<- r1.length];exact j0 (aM hz (by decide)),λp hp=>(q.ext e1).tup R1 hp r1⟩
theorem Jl{es:List Expr}{fU:ME}(h:PA X es (LA X.K Ξ (fe P fU))):PE X (.List es pos) (LE X.K Ξ (aX P (.prim .lst fU))) :=
 (OK h).imp λbE H Q bh=>by
  obtain⟨σ,g,ρ,s,R,h⟩:=bh;refine jv hP s R (.refl _ _) h λds g1 bH H1 vs e1 R1 r1 h=>?_;obtain⟨d',g',⟨hz,rfl,rfl⟩,q⟩:=h;exact⟨by rw[<- r1.length];exact j0 (aM hz (by decide)),λp hp=>(q.ext e1).new R1 hp r1⟩
theorem P1:PA X [] (LA X.K Ξ (fe P .nil)) :=
 (P4 (X:=X)).imp λbE H Q bh=>by
  obtain⟨σ,g,ρ,s,R,h⟩:=bh;exact h ρ H [] (.refl _ _) R .nil
theorem C0{es:List Expr}{fU:ME}(ha:PE X a (LE X.K Ξ (aX P ma)))(h:PA X es (LA X.K Ξ (fe P fU)))(hs:starEach (a::es) X.env=(false,eval a X.env)::starEach es X.env):PA X (a::es) (LA X.K Ξ (fe P (.cons ma fU))) :=
 (I9 ha h hs).imp λbE H Q bh=>by
  obtain⟨σ,g,ρ,s,R,h⟩:=bh;exact eX hP s R (.refl _ _) h λx g1 bH H1 v1 e1 R1 r1 h=>jv hP (s.ext e1) R1 e1 h λxs g2 eW H2 vs e2 R2 r2 h=>h eW H2 _ (e1.trans e2) R2 (.cons (r1.ext e2) r2)
theorem a48{p2:Pos}(ha:PE X a (LE X.K Ξ (aX P ma))):PE X (.Subscript a (.Slice none none none p2) pos) (LE X.K Ξ (aX P (.prim (.jF false false) (.cons ma .nil)))) :=
 (CJ DL ha zb zb).imp λbE H Q bh=>by
  obtain⟨σ,g,ρ,s,R,h⟩:=bh;refine eX hP s R (.refl _ _) h λx g1 bH H1 v1 e1 R1 r1 h=>?_;obtain⟨d',g',⟨x',ex,h⟩,q⟩:=h;cases ex;exact⟨x,g1,bH,d',g',R1,r1,h,q.ext e1⟩
theorem a46{p2:Pos}(ha:PE X a (LE X.K Ξ (aX P ma)))(hb:PE X b (LE X.K Ξ (aX P mb))):PE X (.Subscript a (.Slice (some b) none none p2) pos) (LE X.K Ξ (aX P (.prim (.jF true false) (.cons ma (.cons mb .nil))))) :=
 (CJ DL ha (JU hb) zb).imp λbE H Q bh=>by
  obtain⟨σ,g,ρ,s,R,h⟩:=bh;refine eX hP s R (.refl _ _) h λx g1 bH H1 v1 e1 R1 r1 h=>eX hP (s.ext e1) R1 e1 h λy g2 eW H2 v2 e2 R2 r2 h=>?_;obtain⟨d',g',⟨x',i,ex,h⟩,q⟩:=h;cases ex;exact⟨i,r2.i0,x,g2,eW,d',g',R2,r1.ext e2,h,q.ext (e1.trans e2)⟩
theorem a47{p2:Pos}(ha:PE X a (LE X.K Ξ (aX P ma)))(hb:PE X b (LE X.K Ξ (aX P mb))):PE X (.Subscript a (.Slice none (some b) none p2) pos) (LE X.K Ξ (aX P (.prim (.jF false true) (.cons ma (.cons mb .nil))))) :=
 (CJ DL ha zb (JU hb)).imp λbE H Q bh=>by
  obtain⟨σ,g,ρ,s,R,h⟩:=bh;refine eX hP s R (.refl _ _) h λx g1 bH H1 v1 e1 R1 r1 h=>eX hP (s.ext e1) R1 e1 h λy g2 eW H2 v2 e2 R2 r2 h=>?_;obtain⟨d',g',⟨x',i,ex,h⟩,q⟩:=h;cases ex;exact⟨i,r2.i0,x,g2,eW,d',g',R2,r1.ext e2,h,q.ext (e1.trans e2)⟩
theorem PY(ha:PE X a (LE X.K Ξ (aX P ma)))(he:∀whole,isTrue a X.env whole=(do let v <- whole;standAt a.pos;holding [v] (truthy v))):PT X a (LT X.K Ξ (dD P (.eQ ma))) :=
 (a60 ha he).imp λbE H Q bh=>by
  obtain⟨σ,g,ρ,s,R,h⟩:=bh;refine eX hP s R (.refl _ _) h λx g1 bH H1 v1 e1 R1 r1 h=>?_;obtain⟨b,h1,h2⟩:=h;exact⟨b,Ql R1 r1 h1,h2 bH H1 e1 R1⟩
theorem PU(ha:PT X a (LT X.K Ξ (dD P ma))):PT X (.UnaryOp .Not a pos) (LT X.K Ξ (dD P (.cJ ma))) :=
 (OZ ha).imp λbE H Q bh=>by
  obtain⟨σ,g,ρ,s,R,h⟩:=bh;exact qo hP s R (.refl _ _) h λt g1 bH H1 e1 R1 h=>h bH H1 e1 R1
theorem Qa{rest:List Expr}(ha:PT X a (LT X.K Ξ (dD P ma)))(hb:PW X (.BoolOp .And (b::rest) pos) (LT X.K Ξ (dD P mb))):PW X (.BoolOp .And (a::b::rest) pos) (LT X.K Ξ (dD P (.eY ma mb))) :=
 (Pa ha hb).imp λbE H Q bh=>by
  obtain⟨σ,g,ρ,s,R,h⟩:=bh;refine qo hP s R (.refl _ _) h λt g1 bH H1 e1 R1 h=>?_;cases t
  ·exact h bH H1 e1 R1
  ·exact qo hP (s.ext e1) R1 e1 h λt g2 eW H2 e2 R2 h=>h eW H2 (e1.trans e2) R2
theorem Ww{rest:List Expr}(ha:PT X a (LT X.K Ξ (dD P ma)))(hb:PW X (.BoolOp .Or (b::rest) pos) (LT X.K Ξ (dD P mb))):PW X (.BoolOp .Or (a::b::rest) pos) (LT X.K Ξ (dD P (.iQ ma mb))) :=
 (Wi ha hb).imp λbE H Q bh=>by
  obtain⟨σ,g,ρ,s,R,h⟩:=bh;refine qo hP s R (.refl _ _) h λt g1 bH H1 e1 R1 h=>?_;cases t
  ·exact qo hP (s.ext e1) R1 e1 h λt g2 eW H2 e2 R2 h=>h eW H2 (e1.trans e2) R2
  ·exact h bH H1 e1 R1
theorem Si:lS X [] (LT X.K Ξ (dD P .no)) :=
 (RI (X:=X)).imp λbE H Q bh=>by
  obtain⟨σ,g,ρ,s,R,h⟩:=bh;exact h ρ H (.refl _ _) R
theorem Pk{x:Str}{v:Value}{es:List Expr}{fU:ME}{q:Pos}(hv:(∃id,v=.builtin id)\/∃T,v=.type T)(hc:l9 X v (rN X.K p))(hg:Gl X x)(hm:X.mg x=none)(hb:bootBuiltins x=some v)(ha:PA X (e::es) (LA X.K Ξ (fe P fU)))(hn:x≠"__name__")(hd:(x==("__debug__":Str))=false)(eJ:starEach (e::es) X.env=(false,eval e X.env)::starEach es X.env)(gu:(backTo pos (starEach es X.env)).any (·.1)=false):PE X (.Call (.Name x q) (e::es) [] pos) (LE X.K Ξ (aX P (.prim p fU))):=by
 have base:PE X (.Call (.Name x q) (e::es) [] pos) (zP (rN X.K p) (LA X.K Ξ (fe P fU))):=by
  rcases hv with⟨id,rfl⟩|⟨T,rfl⟩
  ·exact zm hc hg hm hb ha hn hd eJ gu
  ·exact D8 hc hg hm hb ha hn hd eJ gu
 refine base.imp λbE H Q bh=>?_;obtain⟨σ,g,ρ,s,R,h⟩:=bh;exact jv hP s R (.refl _ _) h λxs g1 bH H1 vs e1 R1 r1 h=>⟨xs,g1,bH,R1,r1,o7 (λd g' h=>h.ext e1) h⟩
theorem RY{o:Expr}{es:List Expr}{mo fU:ME}{T:String}{name:Str}{id:String}{apos:Pos}(pa:PlainAttrs T)(slot:Slot T name id)(qQ:typeOf (.builtin id)=pure (.type "method_descriptor"))(hm:lF X id (rM X.K p))(hk:∀{d:D} {v:V} {g:G} {ρ:List Addr} {H:Hp},Rl X.K ρ g H->d0 X.K ρ H d v->lQ p d g->nS X.K T v H)(ho:PE X o (LE X.K Ξ (aX P mo)))(ha:PA X (e::es) (LA X.K Ξ (fe P fU)))(fR:attributeBase o name X.env (eval o X.env)=eval o X.env)(ky:((backTo pos (starEach (e::es) X.env)).all (λx=>!x.1)&&(backToKw pos (keywordEach [] X.env)).all (λx=>x.1.isSome)&&decide ((e::es).length+([]:List Keyword).length+(if([]:List Keyword).isEmpty then 0 else 1)<30))=true)(fQ:(apos.endLine==pos.line)=true)(hs:starEach (e::es) X.env=(false,eval e X.env)::starEach es X.env)(eN:(backTo pos (starEach es X.env)).any (·.1)=false) :
  PE X (.Call (.Attribute o name apos) (e::es) [] pos) (LE X.K Ξ (aX P (.cQ p mo fU))) :=
 (Wc pa slot qQ hm ho ha fR ky fQ hs eN).imp λbE H Q bh=>by
  obtain⟨σ,g,ρ,s,R,h⟩:=bh;exact eX hP s R (.refl _ _) h λx g1 bH H1 v1 e1 R1 r1 h=>⟨hk R1 r1 h.1,jv hP (s.ext e1) R1 e1 h.2 λxs g2 eW H2 ws e2 R2 r2 h =>
   ⟨x,xs,g2,eW,R2,r1.ext e2,r2,o7 (λd g' h=>h.ext (e1.trans e2)) h⟩⟩
theorem a50{o:Expr}{mo:ME}{T:String}{name:Str}{id:String}{apos:Pos}(pa:PlainAttrs T)(slot:Slot T name id)(qQ:typeOf (.builtin id)=pure (.type "method_descriptor"))(hm:lF X id (rM X.K p))(hk:∀{d:D} {v:V} {g:G} {ρ:List Addr} {H:Hp},Rl X.K ρ g H->d0 X.K ρ H d v->lQ p d g->nS X.K T v H)(ho:PE X o (LE X.K Ξ (aX P mo)))(fR:attributeBase o name X.env (eval o X.env)=eval o X.env)(fQ:(apos.endLine==pos.line)=true) :
  PE X (.Call (.Attribute o name apos) [] [] pos) (LE X.K Ξ (aX P (.cQ p mo .nil))) :=
 (OG pa slot qQ hm ho fR fQ).imp λbE H Q bh=>by
  obtain⟨σ,g,ρ,s,R,h⟩:=bh;exact eX hP s R (.refl _ _) h λx g1 bH H1 v1 e1 R1 r1 h=>⟨hk R1 r1 h.1,x,[],g1,bH,R1,r1,.nil,o7 (λd g' h=>h.ext e1) h.2⟩
omit hP in
theorem Kt{K ρ H}{d:D}{v:V}(r:d0 K ρ H d v)(h:tP d=true):v=toV d/\L0 v=true:=by
 cases r with
 |aQ=>exact⟨rfl,rfl⟩
 |bl _=>exact⟨rfl,rfl⟩
 |int _=>exact⟨rfl,rfl⟩
 |str _=>exact⟨rfl,rfl⟩
 |ty _=>exact absurd h bI
 |ref _=>exact absurd h bI
 |tup _ _=>exact absurd h bI
omit hP in
theorem a13{K ρ H}{l:List D}{vs:List V}(r:b0 K ρ H l vs)(h:l.all tP=true):vs=l.map toV/\vs.all L0=true:=by
 induction l generalizing vs with
 |nil=>cases r;exact⟨rfl,rfl⟩
 |cons d l ih =>
  cases r with
  |cons rd rs =>
   rw[jt,bg] at h;obtain⟨e1,f1⟩:=Kt rd h.1;obtain⟨e2,f2⟩:=ih rs h.2;subst e1 e2;exact⟨rfl,by rw[jt,f1,f2];rfl⟩
omit hP in
theorem HQ{K ρ H}{l:List D}{vs:List V}{y:D}{w:V}{n:Nat}(r:b0 K ρ H l vs)(ry:d0 K ρ H y w)(h:P8 l y n):yP vs w n:=by
 obtain⟨h1,h2,⟨z,h3,h4⟩,h5⟩:=h;obtain⟨e1,f1⟩:=a13 r h1;obtain⟨e2,f2⟩:=Kt ry h2;subst e1 e2;refine⟨f1,f2,⟨toV z,by rw[aE,h3];rfl,h4⟩,λm z' hm hz=>?_⟩;rw[aE,ae] at hz;obtain⟨Lz,hz,rfl⟩:=hz;exact h5 m Lz hm hz
theorem a54{o:Expr}{es:List Expr}{mo fU:ME}{apos:Pos}(ho:PE X o (LE X.K Ξ (aX P mo)))(ha:PA X (e::es) (LA X.K Ξ (fe P fU)))(fR:attributeBase o "index" X.env (eval o X.env)=eval o X.env)(ky:((backTo pos (starEach (e::es) X.env)).all (λx=>!x.1)&&(backToKw pos (keywordEach [] X.env)).all (λx=>x.1.isSome)&&decide ((e::es).length+([]:List Keyword).length+(if([]:List Keyword).isEmpty then 0 else 1)<30))=true)(fQ:(apos.endLine==pos.line)=true)(hs:starEach (e::es) X.env=(false,eval e X.env)::starEach es X.env)(eN:(backTo pos (starEach es X.env)).any (·.1)=false) :
  PE X (.Call (.Attribute o "index" apos) (e::es) [] pos) (LE X.K Ξ (aX P (.cQ .index mo fU))) :=
 (a70 ho ha fR ky fQ hs eN).imp λbE H Q bh=>by
  obtain⟨σ,g,ρ,s,R,h⟩:=bh;refine eX hP s R (.refl _ _) h λx g1 bH H1 v1 e1 R1 r1 h=>?_;obtain⟨hk,h⟩:=h;rcases hk with⟨l,rfl⟩|⟨a,l,rfl,hl⟩
  ·obtain⟨a',vs,rfl,ta,rs⟩:=r1.w9;refine .inr ⟨a',vs,rfl,ta.d,jv hP (s.ext e1) R1 e1 h λxs g2 eW H2 ws e2 R2 r2 h=>?_⟩;obtain⟨d',g',⟨x,y,l',n,ex,hi,W,hz,rfl,rfl⟩,q⟩:=h;cases ex;cases hi;obtain⟨w,rfl,fT⟩:=r2.one;exact⟨a',vs,w,n,rfl,rfl,(ta.ext e2).sq,HQ (rs.ext e2) fT W,(q.ext (e1.trans e2)).now R2 (.int n)⟩
  ·obtain⟨a',rfl,ra⟩:=r1.i9;obtain⟨vs,hq,_⟩:=R1.items hl ra;refine .inl ⟨a',vs,rfl,hq,jv hP (s.ext e1) R1 e1 h λxs g2 eW H2 ws e2 R2 r2 h=>?_⟩;obtain⟨d',g',⟨x,y,l',n,ex,hi,W,hz,rfl,rfl⟩,q⟩:=h;cases ex;obtain⟨w,rfl,fT⟩:=r2.one;obtain⟨nQ,MJ,kY⟩:=R2.items (show d5 _ a=some l' from hi) (e2.get ra);have hn:n<2 ^ 62:=by
    obtain⟨_,_,⟨z,Ah,_⟩,_⟩:=W;have:=(aq.mp Ah).1;omega
   exact⟨a',nQ,w,n,rfl,rfl,MJ,HQ kY fT W,hn,(q.ext (e1.trans e2)).now R2 (.int n)⟩
theorem a53{q p2 jj:Pos}(hc:X.calm=true)(ha:PE X a (LE X.K Ξ (aX P ma)))(mG:Gl X "list")(lx:X.mg "list"=none)(hg:Gl X "range")(hm:X.mg "range"=none)(hs:starEach [a] X.env=[(false,eval a X.env)]) :
  PE X (.Call (.Name "list" p2) [.Call (.Name "range" q) [a] [] pos] [] jj) (LE X.K Ξ (aX P (.prim .jK (.cons ma .nil)))) :=
 (D8 (IU hc) mG lx (by first|exact eZ|decide +kernel) (I9 (YD hg hm (C0 hP ha (P1 hP) (by rw[hs];rfl)) hs) P4)).imp λbE H Q bh=>by
  obtain⟨σ,g,ρ,s,R,h⟩:=bh;refine jv hP s R (.refl _ _) h λxs g1 bH H1 vs e1 R1 r1 h=>?_;obtain⟨d',g',⟨j,rfl,h1,h2,rfl,rfl⟩,q⟩:=h;obtain⟨v,rfl,rv⟩:=r1.one;obtain rfl:=rv.i0;refine⟨j,rfl,λq' hq=>⟨q',0,j,rfl,m9,⟨by omega,by omega,h1,by omega,by omega⟩,λp hp=>?_⟩⟩;rw[show(j-0).toNat=j.toNat by omega];exact(q.ext (e1.trans (t8 hq))).new (R1.grow hq) hp (b0.lN 0 _)
theorem a52{q p2 jj:Pos}(hc:X.calm=true)(ha:PE X a (LE X.K Ξ (aX P ma)))(hb:PE X b (LE X.K Ξ (aX P mb)))(mG:Gl X "list")(lx:X.mg "list"=none)(hg:Gl X "range")(hm:X.mg "range"=none)(hs:starEach [a,b] X.env=[(false,eval a X.env),(false,eval b X.env)])(jZ:starEach [b] X.env=[(false,eval b X.env)]) :
  PE X (.Call (.Name "list" p2) [.Call (.Name "range" q) [a,b] [] pos] [] jj) (LE X.K Ξ (aX P (.prim .jJ (.cons ma (.cons mb .nil))))) :=
 (D8 (IU hc) mG lx (by first|exact eZ|decide +kernel) (I9 (YE hg hm (C0 hP ha (C0 hP hb (P1 hP) (by rw[jZ];rfl)) (by rw[hs,jZ])) hs jZ) P4)).imp λbE H Q bh=>by
  obtain⟨σ,g,ρ,s,R,h⟩:=bh;refine jv hP s R (.refl _ _) h λxs g1 bH H1 vs e1 R1 r1 h=>?_;obtain⟨d',g',⟨i,j,rfl,hb,rfl,rfl⟩,q⟩:=h;obtain⟨v,w,rfl,rv,fT⟩:=r1.two;obtain rfl:=rv.i0;obtain rfl:=fT.i0;exact⟨i,j,rfl,λq' hq=>⟨q',i,j,rfl,m9,hb,λp hp=>(q.ext (e1.trans (t8 hq))).new (R1.grow hq) hp (b0.lN i _)⟩⟩
theorem RZ{q p2 jj:Pos}(hc:X.calm=true)(ha:PE X a (LE X.K Ξ (aX P ma)))(mG:Gl X "sorted")(lx:X.mg "sorted"=none)(hg:Gl X "set")(hm:X.mg "set"=none)(hs:starEach [a] X.env=[(false,eval a X.env)]) :
  PE X (.Call (.Name "sorted" p2) [.Call (.Name "set" q) [a] [] pos] [] jj) (LE X.K Ξ (aX P (.prim .sset (.cons ma .nil)))) :=
 (zm (V6 hc) mG lx (by first|exact qd|decide +kernel) (I9 (D8 (IM hc) hg hm (by first|exact fg|decide +kernel) (C0 hP ha (P1 hP) (by rw[hs];rfl)) (by decide) (by decide) (by rw[hs];rfl) rfl) P4)).imp λbE H Q bh=>by
  obtain⟨σ,g,ρ,s,R,h⟩:=bh;refine jv hP s R (.refl _ _) h λxs g1 bH H1 vs e1 R1 r1 h=>?_;obtain⟨d',g',⟨i,ns,rfl,hl,hz,rfl,rfl⟩,q⟩:=h;obtain⟨v,rfl,rv⟩:=r1.one;obtain⟨a',rfl,ra⟩:=rv.i9;obtain⟨ws,hq,rs⟩:=R1.items hl ra;obtain rfl:=rs.ints;refine⟨_,ns,rfl,hq,hz,λq' mD=>⟨q',ns,rfl,m9,hz,λp hp=>?_⟩⟩;exact(q.ext (e1.trans (t8 mD))).new (R1.grow mD) hp (b0.ofInts _)
theorem RV{q p2 jj:Pos}(hc:X.calm=true)(ha:PE X a (LE X.K Ξ (aX P ma)))(mG:Gl X "len")(lx:X.mg "len"=none)(hg:Gl X "set")(hm:X.mg "set"=none)(hs:starEach [a] X.env=[(false,eval a X.env)]) :
  PE X (.Call (.Name "len" p2) [.Call (.Name "set" q) [a] [] pos] [] jj) (LE X.K Ξ (aX P (.prim .rP (.cons ma .nil)))) :=
 (zm XQ mG lx PySem.boot_len (I9 (D8 (IM hc) hg hm (by first|exact fg|decide +kernel) (C0 hP ha (P1 hP) (by rw[hs];rfl)) (by decide) (by decide) (by rw[hs];rfl) rfl) P4)).imp λbE H Q bh=>by
  obtain⟨σ,g,ρ,s,R,h⟩:=bh;refine jv hP s R (.refl _ _) h λxs g1 bH H1 vs e1 R1 r1 h=>?_;obtain⟨d',g',⟨i,ns,rfl,hl,hz,rfl,rfl⟩,q⟩:=h;obtain⟨v,rfl,rv⟩:=r1.one;obtain⟨a',rfl,ra⟩:=rv.i9;obtain⟨ws,hq,rs⟩:=R1.items hl ra;obtain rfl:=rs.ints;refine⟨_,ns,rfl,hq,hz,λq' mD=>⟨q',_,rfl,m9,?_⟩⟩;exact(q.ext (e1.trans (t8 mD))).now (R1.grow mD) (.int _)
theorem Pn{f:Str}(ha:PE X a (LE X.K Ξ (aX P ma)))(hb:attributeBase a f X.env (eval a X.env)=eval a X.env):PE X (.Attribute a f pos) (LE X.K Ξ (aX P (.prim (.fld f) (.cons ma .nil)))) :=
 (OI ha hb).imp λbE H Q bh=>by
  obtain⟨σ,g,ρ,s,R,h⟩:=bh;refine eX hP s R (.refl _ _) h λx g1 bH H1 v1 e1 R1 r1 h=>?_;obtain⟨d',g',⟨i,c,fs,ex,hi,hf,rfl⟩,q⟩:=h;cases ex;obtain⟨a',rfl,ra⟩:=r1.i9;obtain⟨C,dx,vs,hH,_,hC,rk,na⟩:=R1.ins hi ra;have lk:=rk.look f;rw[hf] at lk;obtain⟨v,hv,rv⟩:=lk.some;exact⟨a',C,dx,vs,v,rfl,hH,hC,na _ (aJ hf),hv,q bH H1 v e1 R1 rv⟩
theorem Pu{i j:Nat}{x y:Str}{q1 q2 p1 p2 p3 p4 px py jj:Pos}(hc:X.calm=true)(hi:X.N[i]?=some x)(hj:X.N[j]?=some y)(vx:sf X.env.scope x)(vy:sf X.env.scope y)(dx:(x==("__debug__":Str))=false)(cx:(x==("__classdict__":Str))=false)(dy:(y==("__debug__":Str))=false)(cy:(y==("__classdict__":Str))=false)(mG:Gl X "sorted")(lx:X.mg "sorted"=none)(hg:Gl X "set")(hm:X.mg "set"=none) :
  PE X (.Call (.Name "sorted" p2) [.BinOp (.Call (.Name "set" q1) [.Name x px] [] p1) .BitOr (.Call (.Name "set" q2) [.Name y py] [] p3) p4] [] jj) (LE X.K Ξ (aX P (.prim .uw (.cons (.var i) (.cons (.var j) .nil))))) :=
 (zm (V6 hc) mG lx (by first|exact qd|decide +kernel) (I9 (GY Yy (D8 (IP hc) hg hm (by first|exact fg|decide +kernel) (I9 (Ee hi vx dx cx) P4)) (D8 (IP hc) hg hm (by first|exact fg|decide +kernel) (I9 (Ee hj vy dy cy) P4))) P4)).imp λbE H Q bh=>by
  obtain⟨σ,g,ρ,s,R,h⟩:=bh;obtain⟨d1,e1,d2,e2,d',g',⟨ns,ms,ex,sL,kc,hl,rfl,rfl⟩,q⟩:=h;cases ex;obtain⟨v1,s1,r1⟩:=s.val _ _ e1;obtain⟨v2,s2,r2⟩:=s.val _ _ e2;obtain⟨a1,xC,rfl,t1,ml⟩:=r1.w9;obtain rfl:=ml.ints;refine⟨.ref a1,s1,a1,ns,rfl,t1.sq,by omega,λp1 Aq=>?_⟩;obtain⟨a2,nQ,zS,t2,kY⟩:=(r2.ext (t8 (o:=V8 X p1 (ST.i4 [] ns)) Aq)).w9;obtain rfl:=kY.ints;refine⟨.ref a2,by rw[<- zS];exact s2,a2,ms,rfl,t2.sq,by omega,λp2 oj=>?_⟩;have dW:p1≠p2:=p6 (m9 (H:=H) (o:=V8 X p1 (ST.i4 [] ns))) oj;refine⟨p1,p2,ns,ms,rfl,rfl,dW,by rw[i7 dW];exact m9,m9,sL,kc,hl,λp3 Fq=>⟨p3,ns++ms,rfl,m9,by rw[aU];omega,λp hp=>?_⟩⟩;exact(q.ext (((t8 Aq).trans (t8 oj)).trans (t8 Fq))).new (((R.grow Aq).grow oj).grow Fq) hp (b0.ofInts _)
end
section
variable{X:Cx}{Ξ:gL}{P:fo}{a b c:Expr}{ma mb mc:ME}{pos:Pos}
theorem Px{i:Nat}{x:Str}(hN:X.N[i]?=some x)(hv:sf X.env.scope x)(hd:(x==("__debug__":Str))=false)(lz:(x==("__classdict__":Str))=false):PE X (.Name x pos) (LE X.K Ξ (aX P (.var i))) :=
 (Ee hN hv hd lz).imp λbE H Q bh=>by
  obtain⟨σ,g,ρ,s,R,h⟩:=bh;obtain⟨d,e,h⟩:=h;obtain⟨v,h1,h2⟩:=s.val _ _ e;exact⟨v,h1,h.now R h2⟩
theorem S8{e:Expr}{d:D}{v:V}(h:PE X e (tC v))(r:∀ρ H,d0 X.K ρ H d v):PE X e (LE X.K Ξ (aX P (.lit d))) :=
 h.imp λbE H Q bh=>by
  obtain⟨σ,g,ρ,s,R,h⟩:=bh;exact LQ.now h R (r ρ H)
theorem RS:PE X (.Dict [] [] pos) (LE X.K Ξ (aX P (.prim .mV .nil))) :=
 (a72 (X:=X)).imp λbE H Q ⟨σ,g,ρ,s,R,h⟩ p hp=>by
  obtain⟨d',g',⟨_,rfl,rfl⟩,q⟩:=h;exact q (ρ++[p]) _ _ (N9 hp) (R.new hp (o:=.bV []) (u:=.dK []) d9.nil) (.ref (R.B5 p))
end
end M

namespace L2
open PySem PySem.Spec PyProof.Rows
section
variable{X:Cx}{m:Str}{pos apos:Pos}{e o:Expr}{es:List Expr}{ta:TE}{t:TA}
def Qi(X:Cx)(m:Str)(E:XK)(ta:TE)(t:TA):TE:=λσ H Q=>ta σ H λx H1=>∃a C dx fs f fd ps k sp,x=.ref a/\H1 a=some (.ins C dx fs)/\fs.lookup m=none/\iT X.K C/\Meth X.K C m f /\
 gN X.prog X.w X.K X.mg X.base (gO X.prog X.w) k f fd ps sp/\p8 k X.A/\Binds X.K fd ps []/\t σ H1 λvs H2=>sp (x::(vs++[])) H2 Q E
theorem a68{pl:Sem Bool}{E:XK}(he:PE X o ta)(hx:Passes (gO X.prog X.w) X E)(ha:PA X (e::es) t)(eJ:starEach (e::es) X.env=(false,eval e X.env)::starEach es X.env)(gu:(backTo pos (starEach es X.env)).any (·.1)=false)(ht:eval (.Call (.Attribute o m apos) (e :: es) [] pos) X.env=(do
   let ov <- eval o X.env
   standAt apos.atName
   let (f,first) <- holding [ov] (getMethod ov m pl)
   callWith pos f first (backTo pos (starEach (e :: es) X.env)) (backToKw pos (keywordEach [] X.env)))) :
  PE X (.Call (.Attribute o m apos) (e::es) [] pos) (Qi X m E ta t):=by
 intro pins s σ H Q I h;refine xt (pl:=pl) (cw (he pins s σ H _ I h) λu s1 bh=>?_) ht;obtain⟨x,H1,I1,rx,a,C,dx,fs,f,fd,ps,k,sp,ex,ea,l,c,hm,F,hr,hb,q⟩:=bh;subst ex;obtain rfl:u=Value.ref a:=rx;refine Ip I1 ea c hm l ?_;refine jA (first:=[.ref a]) (h₀:=X.base) I.ok.mod.mx hm.kp (cw (ha pos pins s1 σ H1 _ I1 q) λus s2 ⟨vs,H2,I2,r,q2⟩=>⟨I2.gm,?_⟩) eJ gu;exact Ef (us:=.ref a::us) (vs:=.ref a::vs) F hr hb .nil hx I2 (.cons rfl r) q2
def Sn(X:Cx)(m:Str)(E:XK)(ta:TE):TE:=λσ H Q=>ta σ H λx H1=>∃a C dx fs f fd ps k sp,x=.ref a/\H1 a=some (.ins C dx fs)/\fs.lookup m=none/\iT X.K C/\Meth X.K C m f /\
 gN X.prog X.w X.K X.mg X.base (gO X.prog X.w) k f fd ps sp/\p8 k X.A/\Binds X.K fd ps []/\sp [x] H1 Q E
theorem YC{pl:Sem Bool}{E:XK}(he:PE X o ta)(hx:Passes (gO X.prog X.w) X E)(ht:eval (.Call (.Attribute o m apos) [] [] pos) X.env=(do
   let ov <- eval o X.env
   standAt apos.atName
   let (f,first) <- holding [ov] (getMethod ov m pl)
   callWith pos f first (backTo pos (starEach [] X.env)) (backToKw pos (keywordEach [] X.env)))) :
  PE X (.Call (.Attribute o m apos) [] [] pos) (Sn X m E ta):=by
 intro pins s σ H Q I h;refine xt (pl:=pl) (cw (he pins s σ H _ I h) λu s1 bh=>?_) ht;obtain⟨x,H1,I1,rx,a,C,dx,fs,f,fd,ps,k,sp,ex,ea,l,c,hm,F,hr,hb,q⟩:=bh;subst ex;obtain rfl:u=Value.ref a:=rx;refine Ip I1 ea c hm l ?_;exact Ez (first:=[.ref a]) I1.gm hm.kp (Ef (us:=[.ref a]) (vs:=[.ref a]) (dvs:=[]) F hr hb .nil hx I1 (.cons rfl .nil) q)
end
end L2
namespace M
open PySem L2 PySem.Spec PyProof.Rows
inductive pU(K:PySem.W.Frag):List D->List (Str×V)->Prop
 |nil:pU K [] []
 |cons {x:Str} {d:D} {v:V} {ds:List D} {vs:List (Str×V)} (h:∀ρ H,d0 K ρ H d v) (r:pU K ds vs):pU K (.tup [.str x,d]::ds) ((x,v)::vs)
theorem pU.look{K:PySem.W.Frag}{ρ:List Addr}{H:Hp}{ds vs}(x:Str)(h:pU K ds vs):rV K ρ H (rZ ds x) (vs.lookup x):=by
 induction h with
 |nil=>trivial
 |cons h r ih =>
  rename_i y d v ds vs;unfold rZ;rw[cA];by_cases e:x=y
  ·rw[au e,show(x==y)=true from by simp[e]];exact h ρ H
  ·rw[ax e,show(x==y)=false from by simpa using e];exact ih
def yh(X:Cx)(x:Str)(kvs:List D):Prop:=∃A vs,X.mg x=some (.ref A)/\wG X.K X.w.params A vs/\pU X.K kvs vs
def yq(neg:Bool):Pr:=if neg then .oQ else .FV
theorem JF{neg:Bool}:PR (yq neg)=Ca neg:=by cases neg<;>rfl
theorem YZ(a b c:Str):a++b++c=a++(b++c):=by
 cases a;cases b;cases c;show Str.mk _=Str.mk _;exact fY Str.mk (Lx ..)
theorem Ki(x:Str):x++Str.empty=x:=by cases x;show Str.mk _=_;simp[Str.empty]
theorem Rg(x:Str):Str.empty++x=x:=by cases x;show Str.mk _=_;simp[Str.empty]
section
variable{X:Cx}{Ξ:gL}{P:fo}(hP:i6 P){a b c:Expr}{ma mb mc:ME}{pos:Pos}
include hP
theorem Po{x:Str}{p:Pos}{kvs:List D}{neg:Bool}(hg:Gl X x)(hd:(x==("__debug__":Str))=false)(hG:yh X x kvs)(ha:PE X a (LE X.K Ξ (aX P ma)))(hm:behindInMarks (if neg then .NotIn else .In) (.Name x p)=false) :
  PE X (.Compare a [if neg then .NotIn else .In] [.Name x p] pos) (LE X.K Ξ (aX P (.prim (yq neg) (.cons (.lit (.tup kvs)) (.cons ma .nil))))):=by
 obtain⟨A,vs,hmg,hk,gr⟩:=hG;refine(JR (Jf (kvs:=vs) neg) ha (za (v:=.ref A) hg hmg rfl hd) hm).imp λbE H Q bh=>?_;obtain⟨σ,g,ρ,s,R,h⟩:=bh;refine eX hP s R (.refl _ _) h λd g1 bH H1 v1 e1 R1 r1 h=>?_;obtain⟨d',g',h,q⟩:=h;rw[JF] at h;obtain⟨uR,z,ex,rfl,rfl⟩:=h;cases ex;obtain rfl:=r1.x9;refine⟨A,z,rfl,hk,rfl,?_⟩;rw[<- (gr.look (ρ:=bH) (H:=H1) z).isSome];exact q bH H1 _ e1 R1 (.bl _)
theorem PQ{x:Str}{p:Pos}{kvs:List D}{neg:Bool}(hg:Gl X x)(hd:(x==("__debug__":Str))=false)(hG:yh X x kvs)(ha:PE X a (LE X.K Ξ (aX P ma)))(hm:behindInMarks (if neg then .NotIn else .In) (.Name x p)=false) :
  PT X (.Compare a [if neg then .NotIn else .In] [.Name x p] pos) (LT X.K Ξ (dD P (.eQ (.prim (yq neg) (.cons (.lit (.tup kvs)) (.cons ma .nil)))))):=by
 obtain⟨A,vs,hmg,hk,gr⟩:=hG;refine(JV (Jf (kvs:=vs) neg) ha (za (v:=.ref A) hg hmg rfl hd) hm).imp λbE H Q bh=>?_;obtain⟨σ,g,ρ,s,R,h⟩:=bh;refine eX hP s R (.refl _ _) h λd g1 bH H1 v1 e1 R1 r1 h=>?_;obtain⟨d',g',h,t,ht,q⟩:=h;rw[JF] at h;obtain⟨uR,z,ex,rfl,rfl⟩:=h;cases ex;obtain rfl:=r1.x9;refine⟨A,z,rfl,hk,rfl,t,?_,q bH H1 e1 R1⟩;rw[<- (gr.look (ρ:=bH) (H:=H1) z).isSome];rcases ht with⟨z,_⟩|z|⟨i,z,_⟩|⟨l,z,_⟩|⟨a,l,z,_⟩<;>cases z
 rfl
theorem RU{x:Str}{p:Pos}{kvs:List D}(hg:Gl X x)(hd:(x==("__debug__":Str))=false)(hG:yh X x kvs)(ha:PE X a (LE X.K Ξ (aX P ma)))(hs:Cg a):PE X (.Subscript (.Name x p) a pos) (LE X.K Ξ (aX P (.prim .mT (.cons (.lit (.tup kvs)) (.cons ma .nil))))):=by
 obtain⟨A,vs,hmg,hk,gr⟩:=hG;refine(GX (VH (kvs:=vs)) (za (v:=.ref A) hg hmg rfl hd) ha hs).imp λbE H Q bh=>?_;obtain⟨σ,g,ρ,s,R,h⟩:=bh;refine eX hP s R (.refl _ _) h λd g1 bH H1 v1 e1 R1 r1 h=>?_;obtain⟨d',g',⟨uR,z,ex,hz,rfl⟩,q⟩:=h;cases ex;obtain rfl:=r1.x9;have lk:=gr.look (ρ:=bH) (H:=H1) z;rw[hz] at lk;obtain⟨w,hw,lk⟩:=lk.some;exact⟨A,z,w,rfl,hk,rfl,hw,q bH H1 _ e1 R1 lk⟩
theorem Wr(ha:PE X a (LE X.K Ξ (aX P ma))):PE X (.FormattedValue a (-1) none pos) (LE X.K Ξ (aX P (.prim .fv (.cons ma .nil)))) :=
 (Wd ha).imp λbE H Q bh=>by
  obtain⟨σ,g,ρ,s,R,h⟩:=bh;refine eX hP s R (.refl _ _) h λd g1 bH H1 v1 e1 R1 r1 h=>?_;obtain⟨d',g',⟨rfl,h⟩,q⟩:=h;rcases h with⟨i,ex,h1,rfl⟩|⟨z,ex,h1,rfl⟩
  ·cases ex;exact .inl ⟨i,r1.i0,h1,q bH H1 _ e1 R1 (.str _)⟩
  ·cases ex;exact .inr ⟨z,r1.x9,j0 (by omega),q bH H1 _ e1 R1 (.str _)⟩
omit hP in
inductive lT(X:Cx)(Ξ:gL)(P:fo):List Expr->ME->List TE->Prop
 |nil:lT X Ξ P [] .nil []
 |lit {x:Str} {j:Nat} {p:Pos} {es:List Expr} {ms:ME} {ts:List TE} (hx:x.length<=2000) (r:lT X Ξ P es ms ts):lT X Ξ P (.Constant (.str x) j p::es) (.cons (.lit (.str x)) ms) (LE X.K Ξ (aX P (.lit (.str x)))::ts)
 |val {e:Expr} {m:ME} {p:Pos} {es:List Expr} {ms:ME} {ts:List TE} (he:PE X e (LE X.K Ξ (aX P m))) (r:lT X Ξ P es ms ts):lT X Ξ P (.FormattedValue e (-1) none p::es) (.cons (.prim .fv (.cons m .nil)) ms) (LE X.K Ξ (aX P (.prim .fv (.cons m .nil)))::ts)
theorem lT.Me{es ms ts}(h:lT X Ξ P es ms ts):tX X es ts:=by
 induction h with
 |nil=>exact .nil
 |lit hx r ih=>exact .cons (S8 Jg λ_ _=>.str _) ih
 |val he r ih=>exact .cons (Wr hP he) ih
theorem lT.join{bE:L2.St}{Q:Str->Hp->Prop}{es ms ts}(hf:lT X Ξ P es ms ts):∀{σ:S} {g:G} {ρ:List Addr} {H:Hp} {acc:Str},acc.length+2000*es.length<=100000->l8 X.K ρ H σ bE->Rl X.K ρ g H ->
  fe P ms σ g (λds g1=>∃x,V4 ds=some x/\∀bD H',Ext ρ H bD H'->Rl X.K bD g1 H'->Q (acc++x) H') (LX X.K ρ H Ξ)->yC ts bE H acc (λout H1=>out.length<=sizeLine/\Q out H1):=by
 have tl:∀{acc y:Str} {ρ:List Addr} {H:Hp} {bH:List Addr} {H1:Hp} {ds:List D} {g1:G},Ext ρ H bH H1->(∃x,V4 (.str y::ds)=some x/\∀bD H',Ext ρ H bD H'->Rl X.K bD g1 H'->Q (acc++x) H')->∃x,V4 ds=some x/\∀bD H',Ext bH H1 bD H'->Rl X.K bD g1 H'->Q (acc++y++x) H':=by
  intro acc y ρ H bH H1 ds g1 e1 h;obtain⟨x,hx,h⟩:=h;simp only[V4] at hx;cases hj:V4 ds with
  |none=>rw[hj] at hx;cases hx
  |some x' =>
   rw[hj] at hx;cases hx;refine⟨x',rfl,λbD H' e' R'=>?_⟩;rw[YZ];exact h bD H' (e1.trans e') R'
 induction hf with
 |nil =>
  intro σ g ρ H acc ha s R h;obtain⟨x,hx,h⟩:=h;cases hx;rw[Ki] at h;exact⟨j0 (by simpa using ha),h ρ H (.refl _ _) R⟩
 |lit hx r ih =>
  rename_i y j p es ms ts;intro σ g ρ H acc ha s R h;refine⟨σ,g,ρ,s,R,?_⟩;intro bH H1 v1 e1 R1 r1;obtain rfl:=r1.x9;have hl:(acc++y).length<=acc.length+2000:=by rw[Lo];omega
  simp only[List.length_cons] at ha;exact⟨y,rfl,j0 (by omega),ih (by omega) (s.ext e1) R1 (v5 hP _ _ _ _ _ _ _ (λds g1 h=>tl e1 h) (λ_ _ z=>LX.ext e1 z) h)⟩
 |val he r ih =>
  rename_i e m p es ms ts;intro σ g ρ H acc ha s R h;refine⟨σ,g,ρ,s,R,?_⟩;simp only[List.length_cons] at ha;refine b8 hP m _ _ _ _ _ _ (λd g1 h=>?_) (λ_ _ z=>z) h;obtain⟨d',g',⟨rfl,h⟩,q⟩:=h;have hy:∃y,d'=.str y/\y.length<=2000:=by
   rcases h with⟨i,ex,h1,rfl⟩|⟨z,ex,h1,rfl⟩
   ·exact⟨_,rfl,by rw[xr];have:=int_text_length_le (k:=1920) (by decide) h1;omega⟩
   ·exact⟨z,rfl,h1⟩
  obtain⟨y,rfl,hy⟩:=hy;refine⟨_,_,⟨rfl,h⟩,λbH H1 v1 e1 R1 r1=>?_⟩;obtain rfl:=r1.x9;have hl:(acc++y).length<=acc.length+2000:=by rw[Lo];omega
  exact⟨y,rfl,j0 (by omega),ih (by omega) (s.ext e1) R1 (v5 hP _ _ _ _ _ _ _ (λds g1 h=>tl e1 h) (λ_ _ z=>LX.ext e1 z) q)⟩
theorem RT{kX kW:Expr}{rest:List Expr}{ms:ME}{ts:List TE}(h:lT X Ξ P (kX::kW::rest) ms ts)(hl:(kX::kW::rest).length<=40):PE X (.JoinedStr (kX::kW::rest) pos) (LE X.K Ξ (aX P (.prim .lD ms))) :=
 (Rx (h.Me hP)).imp λbE H Q bh=>by
  obtain⟨σ,g,ρ,s,R,hw⟩:=bh;refine lT.join hP h (Q:=λout H1=>Q (.str out) H1) (acc:=Str.empty) ?_ s R (v5 hP ms _ _ _ _ _ _ (λds g1 hw=>?_) (λ_ _ z=>z) hw)
  ·have:Str.empty.length=0:=rfl;omega
  ·obtain⟨d',g',⟨x,hx,rfl,rfl⟩,q⟩:=hw;refine⟨x,hx,λbD H' e' R'=>?_⟩;rw[Rg];exact q bD H' _ e' R' (.str _)
omit hP in
def pA(ex:List Str)(K:PySem.W.Frag)(n:Nat)(t:List D->G->KD->KX->Prop):Sp:=λvs H Q E=>vs.length=n/\∃ds g ρ,b0 K ρ H ds vs/\Rl K ρ g H/\t ds g (LQ K ρ H Q) (LX K ρ H (ex,E))
omit hP in
def ph(X:Cx)(P:fo)(ex:List Str)(k f:Nat)(fa:Addr)(fd:FuncData)(ps:List Str):Prop :=
 gN X.prog X.w X.K X.mg X.base (gO X.prog X.w) k fa fd ps (pA ex X.K ps.length (P f))/\Binds X.K fd ps []/\∀ds g Q E,P f ds g Q E->ds.length=ps.length
theorem yB{k f:Nat}{fa:Addr}{fd:FuncData}{ps:List Str}(F:ph X P Ξ.1 k f fa fd ps){ρ gF:List Addr}{H H0:Hp}{g:G}{xs:List D}{vs:List V}{Q0:KD}{Q:VK}(e0:Ext gF H0 ρ H)(R:Rl X.K ρ g H)(r:b0 X.K ρ H xs vs)(h:P f xs g Q0 (LX X.K gF H0 Ξ))(k:∀d g',Q0 d g'->LQ X.K ρ H Q d g'):pA Ξ.1 X.K ps.length (P f) (vs++[]) H Q Ξ.2:=by
 rw[eP];exact⟨by rw[<- r.length];exact F.2.2 _ _ _ _ h,xs,g,ρ,r,R,hP _ _ _ _ _ _ _ k (λ_ _ z=>LX.ext e0 z) h⟩
theorem RQ{k f:Nat}{x:Str}{fa:Addr}{fd:FuncData}{ps:List Str}{es:List Expr}{e:Expr}{fU:ME}{p:Pos}(hx:Passes (gO X.prog X.w) X Ξ.2)(F:ph X P Ξ.1 k f fa fd ps)(hr:p8 k X.A)(hg:Gl X x)(hm:X.mg x=some (.ref fa))(hk:PySem.W.keepIn X.K (.ref fa)=true)(ha:PA X (e::es) (LA X.K Ξ (fe P fU)))(hd:(x==("__debug__":Str))=false)(eJ:starEach (e::es) X.env=(false,eval e X.env)::starEach es X.env)(gu:(backTo pos (starEach es X.env)).any (·.1)=false):PE X (.Call (.Name x p) (e::es) [] pos) (LE X.K Ξ (aX P (.call f fU))) :=
 (Rv F.1 hr hg hm hk F.2.1 .nil hx ha hd eJ gu).imp λbE H Q bh=>by
  obtain⟨σ,g,ρ,s,R,h⟩:=bh;exact jv hP s R (.refl _ _) h λxs g1 bH H1 vs e1 R1 r1 h=>yB hP F e1 R1 r1 h λd g' h=>h.ext e1
theorem JO{c:Str}{f k:Nat}{C fa:Addr}{fd:FuncData}{ps:List Str}(F:ph X P Ξ.1 k f fa fd ps)(hC:n8 X.K c C)(hc:iT X.K C){ρ gF:List Addr}{H H0:Hp}{g1:G}{xs:List D}{vs:List V}{Q:VK}(e0:Ext gF H0 ρ H)(R:Rl X.K ρ g1 H)(r:b0 X.K ρ H xs vs)(h:P f (.ref g1.length::xs) (g1++[.ins c []]) (λd g2=>d=.aQ/\LQ X.K gF H0 Q (.ref g1.length) g2) (LX X.K gF H0 Ξ)):∀x dx,H x=none->H dx=none->dx≠x->pA Ξ.1 X.K ps.length (P f) (.ref x::(vs++[])) (upd (upd H dx (.own x)) x (.ins C dx [])) (λv H2=>v=.aQ/\Q (.ref x) H2) Ξ.2:=by
 intro x dx hx FD dW;have Fn:upd H dx (.own x) x=none:=by rw[i7 (aL dW)];exact hx
 have R2:=R.grow (o:=.own x) FD;have e2:Ext ρ H ρ (upd H dx (.own x)):=t8 FD;have R3:=R2.new (o:=.ins c []) (u:=.ins C dx []) Fn ⟨hC,hc,.nil,λx hx=>absurd hx (by simp)⟩;have e3:Ext ρ (upd H dx (.own x)) (ρ++[x]) (upd (upd H dx (.own x)) x (.ins C dx [])):=N9 Fn;have:=yB hP F (e0.trans (e2.trans e3)) R3 (.cons (.ref (R.B5 x)) (r.ext (e2.trans e3))) h (Q:=λv H2=>v=.aQ/\Q (.ref x) H2) λd g' q bD H' v e' R' r'=>by
  obtain⟨rfl,q⟩:=q;exact⟨r'.yK,q bD H' _ (e0.trans (e2.trans (e3.trans e'))) R' (.ref (e'.get (R.B5 x)))⟩
 exact this
theorem RW{k f:Nat}{x:Str}{C fa:Addr}{fd:FuncData}{ps:List Str}{es:List Expr}{e:Expr}{fU:ME}{p:Pos}(hx:Passes (gO X.prog X.w) X Ξ.2)(F:ph X P Ξ.1 k f fa fd ps)(M:Mk X.K C fa)(hC:n8 X.K x C)(hc:iT X.K C)(hr:p8 (k+1) X.A)(hg:Gl X x)(hm:X.mg x=some (.ref C))(ha:PA X (e::es) (LA X.K Ξ (fe P fU)))(hd:(x==("__debug__":Str))=false)(eJ:starEach (e::es) X.env=(false,eval e X.env)::starEach es X.env)(gu:(backTo pos (starEach es X.env)).any (·.1)=false):PE X (.Call (.Name x p) (e::es) [] pos) (LE X.K Ξ (aX P (.make x f fU))) :=
 (Ry M F.1 hr hg hm F.2.1 .nil hx ha hd eJ gu).imp λbE H Q bh=>by
  obtain⟨σ,g,ρ,s,R,h⟩:=bh;exact jv hP s R (.refl _ _) h λxs g1 bH H1 vs e1 R1 r1 h=>JO hP F hC hc e1 R1 r1 h
theorem a51{k f:Nat}{x:Str}{C fa:Addr}{fd:FuncData}{ps:List Str}{p:Pos}(hx:Passes (gO X.prog X.w) X Ξ.2)(F:ph X P Ξ.1 k f fa fd ps)(M:Mk X.K C fa)(hC:n8 X.K x C)(hc:iT X.K C)(hr:p8 (k+1) X.A)(hg:Gl X x)(hm:X.mg x=some (.ref C))(hd:(x==("__debug__":Str))=false):PE X (.Call (.Name x p) [] [] pos) (LE X.K Ξ (aX P (.make x f .nil))) :=
 (a69 M F.1 hr hg hm F.2.1 .nil hx hd).imp λbE H Q bh=>by
  obtain⟨σ,g,ρ,s,R,h⟩:=bh;exact JO hP F hC hc (.refl _ _) R .nil h
omit hP in
def Cf(X:Cx)(P:fo)(ex:List Str)(m:Str)(cs:List (Str×Nat)):Prop:=∀c f C,cs.lookup c=some f->n8 X.K c C->∃k fa fd ps,Meth X.K C m fa/\ph X P ex k f fa fd ps/\p8 k X.A
theorem a49{m:Str}{cs:List (Str×Nat)}{o e:Expr}{es:List Expr}{mo fU:ME}{apos:Pos}{pl:Sem Bool}(hx:Passes (gO X.prog X.w) X Ξ.2)(hM:Cf X P Ξ.1 m cs)(ho:PE X o (LE X.K Ξ (aX P mo)))(ha:PA X (e::es) (LA X.K Ξ (fe P fU)))(eJ:starEach (e::es) X.env=(false,eval e X.env)::starEach es X.env)(gu:(backTo pos (starEach es X.env)).any (·.1)=false)(ht:eval (.Call (.Attribute o m apos) (e :: es) [] pos) X.env=(do
   let ov <- eval o X.env
   standAt apos.atName
   let (f,first) <- holding [ov] (getMethod ov m pl)
   callWith pos f first (backTo pos (starEach (e :: es) X.env)) (backToKw pos (keywordEach [] X.env)))):PE X (.Call (.Attribute o m apos) (e :: es) [] pos) (LE X.K Ξ (aX P (.bp m cs mo fU))) :=
 (a68 ho hx ha eJ gu ht).imp λbE H Q bh=>by
  obtain⟨σ,g,ρ,s,R,h⟩:=bh;refine eX hP s R (.refl _ _) h λx g1 bH H1 v1 e1 R1 r1 h=>?_;obtain⟨i,c,fs,f,rfl,hi,hf,mI,h⟩:=h;obtain⟨a',rfl,ra⟩:=r1.i9;obtain⟨C,dx,vs,hH,hC,ja,rk,na⟩:=R1.ins hi ra;obtain⟨k,fa,fd,ps,M,F,hr⟩:=hM c f C mI hC;have lk:=rk.look m;rw[hf] at lk;have hl:vs.lookup m=none:=by cases e:vs.lookup m with|none=>rfl|some w=>rw[e] at lk;exact lk.elim
  refine⟨a',C,dx,vs,fa,fd,ps,k,_,rfl,hH,hl,ja,M,F.1,hr,F.2.1,?_⟩;exact jv hP (s.ext e1) R1 e1 h λxs g2 eW H2 ws e2 R2 r2 h=>yB hP F (e1.trans e2) R2 (.cons (.ref (e2.get ra)) r2) h λd g' h=>h.ext (e1.trans e2)
theorem YV{m:Str}{cs:List (Str×Nat)}{o:Expr}{mo:ME}{apos:Pos}{pl:Sem Bool}(hx:Passes (gO X.prog X.w) X Ξ.2)(hM:Cf X P Ξ.1 m cs)(ho:PE X o (LE X.K Ξ (aX P mo)))(ht:eval (.Call (.Attribute o m apos) [] [] pos) X.env=(do
   let ov <- eval o X.env
   standAt apos.atName
   let (f,first) <- holding [ov] (getMethod ov m pl)
   callWith pos f first (backTo pos (starEach [] X.env)) (backToKw pos (keywordEach [] X.env)))):PE X (.Call (.Attribute o m apos) [] [] pos) (LE X.K Ξ (aX P (.bp m cs mo .nil))) :=
 (YC ho hx ht).imp λbE H Q bh=>by
  obtain⟨σ,g,ρ,s,R,h⟩:=bh;refine eX hP s R (.refl _ _) h λx g1 bH H1 v1 e1 R1 r1 h=>?_;obtain⟨i,c,fs,f,rfl,hi,hf,mI,h⟩:=h;obtain⟨a',rfl,ra⟩:=r1.i9;obtain⟨C,dx,vs,hH,hC,ja,rk,na⟩:=R1.ins hi ra;obtain⟨k,fa,fd,ps,M,F,hr⟩:=hM c f C mI hC;have lk:=rk.look m;rw[hf] at lk;have hl:vs.lookup m=none:=by cases e:vs.lookup m with|none=>rfl|some w=>rw[e] at lk;exact lk.elim
  exact⟨a',C,dx,vs,fa,fd,ps,k,_,rfl,hH,hl,ja,M,F.1,hr,F.2.1,yB hP F e1 R1 (.cons (.ref ra) .nil) h λd g' h=>h.ext e1⟩
end
end M

namespace M
open PySem L2 PySem.Spec PyProof.Rows
inductive jW(K:PySem.W.Frag)(ρ:List Addr)(H:Hp):List D->List (V×V)->Prop
 |nil:jW K ρ H [] []
 |cons {k d:D} {x y:V} {ds:List D} {ps:List (V×V)} (h1:d0 K ρ H k x) (h2:d0 K ρ H d y) (r:jW K ρ H ds ps):jW K ρ H (k::d::ds) ((x,y)::ps)
theorem Xe{K ρ H}{xs:List D}{ps:List (V×V)}(r:jW K ρ H xs ps):∀{acc kvs:List (Key×D)} {accV:List (Key×V)},tE xs acc=some kvs->d9 K ρ H acc accV->∃more:List (Key×V),ps=more.map (λkv=>(kV kv.1,kv.2))/\2*more.length=xs.length/\d9 K ρ H kvs (T3 accV more):=by
 induction r with
 |nil =>
  intro acc kvs accV h ra;cases h;exact⟨[],rfl,rfl,ra⟩
 |cons h1 h2 r ih =>
  rename_i k d x y ds ps;intro acc kvs accV h ra;simp only[tE] at h;cases hk:pb k with
  |none=>rw[hk] at h;cases h
  |some c =>
   rw[hk] at h;obtain⟨more,e1,e2,r2⟩:=ih (show tE ds (putD acc c d)=some kvs from h) (ra.put h2);have ex:=yX hk h1;subst ex;refine⟨(c,y)::more,by rw[ba,<- e1],by simp only[List.length_cons];omega,r2⟩
section
variable{X:Cx}{Ξ:gL}{P:fo}(hP:i6 P){pos:Pos}
inductive lU(X:Cx)(Ξ:gL)(P:fo):List (Option Expr)->List Expr->ME->List (TE×TE)->Prop
 |nil:lU X Ξ P [] [] .nil []
 |cons {k v:Expr} {ks:List (Option Expr)} {vs:List Expr} {mk mv ms:ME} {hW:List (TE×TE)} (hk:PE X k (LE X.K Ξ (aX P mk))) (hv:PE X v (LE X.K Ξ (aX P mv))) (r:lU X Ξ P ks vs ms hW) :
   lU X Ξ P (some k::ks) (v::vs) (.cons mk (.cons mv ms)) ((LE X.K Ξ (aX P mk),LE X.K Ξ (aX P mv))::hW)
theorem lU.Md{ks vs ms hW}(h:lU X Ξ P ks vs ms hW):xj X pos ks vs hW:=by
 induction h with
 |nil=>exact RB
 |cons hk hv r ih=>exact a64 hk hv ih
theorem lU.len{ks vs ms hW}(h:lU X Ξ P ks vs ms hW):ks.all (·.isSome)=true/\ks.length=vs.length:=by
 induction h with
 |nil=>exact⟨rfl,rfl⟩
 |cons hk hv r ih=>exact⟨by simpa using ih.1,by simp[ih.2]⟩
include hP
theorem lU.pairs{ks vs ms hW}(hd:lU X Ξ P ks vs ms hW):∀{bE:L2.St} {σ:S} {g:G} {ρ gF:List Addr} {H H0:Hp} {Qd:List D->G->Prop} {Q:List (V×V)->Hp->Prop},l8 X.K ρ H σ bE->Rl X.K ρ g H->Ext gF H0 ρ H->fe P ms σ g Qd (LX X.K gF H0 Ξ) ->
  (∀ds g' bD H' ps,Ext ρ H bD H'->Rl X.K bD g' H'->jW X.K bD H' ds ps->Qd ds g'->Q ps H')->yM hW bE H Q:=by
 induction hd with
 |nil =>
  intro bE σ g ρ gF H H0 Qd Q s R e0 h k;exact k [] g ρ H [] (.refl _ _) R .nil h
 |cons hk hv r ih =>
  intro bE σ g ρ gF H H0 Qd Q s R e0 h k;refine eX hP s R e0 h λx g1 bH H1 v1 e1 R1 r1 h=>eX hP (s.ext e1) R1 (e0.trans e1) h λy g2 eW H2 v2 e2 R2 r2 h=>?_;refine ih (s.ext (e1.trans e2)) R2 (e0.trans (e1.trans e2)) h λds g' bD H' ps e' R' rp hq=>?_;exact k _ g' bD H' _ (e1.trans (e2.trans e')) R' (.cons (r1.ext (e2.trans e')) (r2.ext e') rp) hq
theorem Pl{ks:List (Option Expr)}{vs:List Expr}{ms:ME}{hW:List (TE×TE)}(hd:lU X Ξ P ks vs ms hW)(h0:ks≠[])(BB:ks.length<=15):PE X (.Dict ks vs pos) (LE X.K Ξ (aX P (.nD ms))) :=
 (Rw hd.Md hd.len.1 hd.len.2 h0 BB).imp λbE H Q ⟨σ,g,ρ,s,R,h⟩ p hp=>by
  have e1:Ext ρ H (ρ++[p]) (upd H p (.dK [])):=N9 hp;refine lU.pairs hP hd (s.ext e1) (R.new hp (o:=.bV []) (u:=.dK []) d9.nil) e1 h λds g2 eW H2 ps e2 R2 rp hq=>?_;obtain⟨kvs,hk,hz,hg,q⟩:=hq;have oj:eW[g.length]?=some p:=e2.get (R.B5 p);obtain⟨vs',hv,rv⟩:=R2.bV hg oj;cases rv;obtain⟨more,em,hl,rk⟩:=Xe rp hk (accV:=[]) .nil;refine⟨hv,more,em,by omega,?_⟩;obtain⟨R3,e3⟩:=R2.put (o':=.bV kvs) (u:=.dK (T3 [] more)) hg rfl oj rk;exact q eW _ _ (e1.trans (e2.trans e3)) R3 (.ref oj)
end
end M

namespace M
open PySem L2 PySem.Spec PyProof.Rows
theorem VL{K:PySem.W.Frag}{gF:List Addr}{H0:Hp}{a:Addr}{l:List D}{vs:List V}(ht:TupAt K H0 a vs)(rs:b0 K gF H0 l vs):tu K gF H0 (.fix l) (Er K a):=by
 intro ρ g H e R i;have Ao:=ht.ext e;have EO:=rs.ext e;refine⟨λh=>⟨vs,Ao.sq,?_⟩,λd h=>?_⟩
 ·simp only[IK.at] at h;have:=gB.mp (aO h);rw[<- EO.length];exact this
 ·simp only[IK.at] at h;obtain⟨v,hv,rv⟩:=EO.get (aO h);refine⟨⟨vs,v,Ao.sq,hv⟩,λw H' y=>?_⟩;obtain⟨rfl,y⟩:=y;have:=y vs Ao.sq;rw[hv] at this;cases this;exact⟨.refl _ _,R,rv⟩
theorem VJ{K:PySem.W.Frag}{gF:List Addr}{H0:Hp}{a:Addr}{j:Nat}(ha:gF[j]?=some a):tu K gF H0 (.lst j) (Es K a):=by
 intro ρ g H e R i;have pL:=e.get ha;refine⟨λh=>?_,λd h=>?_⟩
 ·simp only[IK.at] at h;cases el:d5 g j with
  |none=>rw[el] at h;cases h
  |some l =>
   rw[el] at h;obtain⟨vs,hq,rs⟩:=R.items el pL;refine⟨vs,hq,?_⟩;have:=gB.mp (aO h);rw[<- rs.length];exact this
 ·simp only[IK.at] at h;cases el:d5 g j with
  |none=>rw[el] at h;cases h
  |some l =>
   rw[el] at h;obtain⟨vs,hq,rs⟩:=R.items el pL;obtain⟨v,hv,rv⟩:=rs.get (aO h);refine⟨⟨vs,v,hq,hv⟩,λw H' y=>?_⟩;obtain⟨rfl,y⟩:=y;have:=y vs hq;rw[hv] at this;cases this;exact⟨.refl _ _,R,rv⟩
theorem GR{K:PySem.W.Frag}{gF:List Addr}{H0:Hp}{lo:Int}{n:Nat}:tu K gF H0 (.fix (k8 lo n)) (xn lo n):=by
 unfold k8;intro ρ g H e R i;refine⟨λh=>?_,λd h=>?_⟩
 ·simp only[IK.at] at h;have:=gB.mp (aO h);show n<=i;simpa using this
 ·simp only[IK.at] at h;have h:=aO h;have hi:i<n:=by
   have:=(aq.mp h).1;simpa using this
  rw[aE,jg hi] at h;cases h;refine⟨hi,λw H' y=>?_⟩;obtain⟨rfl,rfl⟩:=y;exact⟨.refl _ _,R,.int _⟩
end M
namespace L2
open PySem PySem.Spec PyProof.Rows
theorem OS{X:Cx}{tg l:Expr}{tl:TE}(hl:PE X l tl):PI X tg l (λσ H R=>tl σ H λx H1=>(∃a,x=.ref a/\(∃xs,gx X.K H1 a xs)/\R (Es X.K a) H1)\/(∃a,x=.ref a/\(∃xs,gQ X.K H1 a xs)/\R (Er X.K a) H1)):=by
 intro pins s σ H R I h;refine cw (hl pins s σ H _ I h) λv s1 bh=>?_;obtain⟨x,H1,I1,r1,q1⟩:=bh;rcases q1 with⟨a,e,⟨xs,hq⟩,q⟩|⟨a,e,⟨xs,hq⟩,q⟩
 ·subst e;cases r1;obtain⟨aT,rv,p,hz⟩:=I1.list hq;refine iy p.isList ?_;refine⟨s1.heap.objs.size,[s1.heap.objs.size],_,_,H1,rfl,I1.kept (t':=s1.toks) λb o e=>ai _ e,Zd a _,⟨_,aF _ rfl,rfl,rfl⟩,λb hb=>?_,q⟩;have e:b=s1.heap.objs.size:=by simpa using hb
  subst e;exact I1.tG (aj _) (I1.bG.fresh (aj _))
 ·subst e;cases r1;obtain⟨aT,rv,p,hz⟩:=I1.tuple hq;refine wpAny_pyIter_tuple (show s1.heap.IsTuple a aT.toArray from p) ?_;refine⟨s1.heap.objs.size,[s1.heap.objs.size],_,_,H1,rfl,I1.kept (t':=s1.toks) λb o e=>ai _ e,ZL a _,⟨_,aF _ rfl,rfl,rfl⟩,λb hb=>?_,q⟩;have e:b=s1.heap.objs.size:=by simpa using hb
  subst e;exact I1.tG (aj _) (I1.bG.fresh (aj _))
end L2
namespace M
open PySem L2 PySem.Spec PyProof.Rows
section
variable{X:Cx}{Ξ:gL}{P:fo}(hP:i6 P){a b c tg:Expr}{ma mb mc:ME}{pos p:Pos}
include hP
theorem PD(ha:PE X a (LE X.K Ξ (aX P ma))):PI X tg a (LI X.K Ξ (iZ P (.iN ma))) :=
 (OS ha).imp λbE H R bh=>by
  obtain⟨σ,g,ρ,s,Rr,h⟩:=bh;refine eX hP s Rr (.refl _ _) h λx g1 bH H1 v1 e1 R1 r1 h=>?_;rcases h with⟨l,rfl,h⟩|⟨i,l,rfl,hl,h⟩
  ·obtain⟨a',vs,rfl,ht,rs⟩:=r1.w9;exact .inr ⟨_,rfl,⟨_,ht.sq⟩,h bH H1 _ e1 R1 (VL ht rs)⟩
  ·obtain⟨a',rfl,pL⟩:=r1.i9;obtain⟨vs,hq,rs⟩:=R1.items hl pL;exact .inl ⟨_,rfl,⟨_,hq⟩,h bH H1 _ e1 R1 (VJ pL)⟩
theorem Se(ha:PE X a (LE X.K Ξ (aX P ma)))(hg:Gl X "range")(hm:X.mg "range"=none)(hs:starEach [a] X.env=[(false,eval a X.env)]):PI X tg (.Call (.Name "range" p) [a] [] pos) (LI X.K Ξ (iZ P (.fP ma))) :=
 (YI hg hm (C0 hP ha (P1 hP) (by rw[hs];rfl)) hs).imp λbE H R bh=>by
  obtain⟨σ,g,ρ,s,Rr,h⟩:=bh;refine jv hP (m:=.cons ma .nil) s Rr (.refl _ _) (Q0:=λxs g1=>∃j:Int,xs=[.int j]/\-(2 ^ 62)<=j/\j<2 ^ 62/\∀bD H' J,Ext ρ H bD H'->Rl X.K bD g1 H'->tu X.K bD H' (.fix (k8 0 j.toNat)) J->R J H') ?_ λxs g1 bH H1 vs e1 R1 r1 h=>?_
  ·skip
   exact b8 hP ma _ _ _ _ _ _ (λx g1 ⟨j,e,h1,h2,h⟩=>⟨j,by rw[e],h1,h2,h⟩) (λ_ _ z=>z) h
  ·obtain⟨j,rfl,h1,h2,h⟩:=h;obtain⟨v,rfl,rv⟩:=r1.one;obtain rfl:=rv.i0;exact⟨_,rfl,h1,h2,h bH H1 _ e1 R1 GR⟩
theorem Sf(ha:PE X a (LE X.K Ξ (aX P ma)))(hb:PE X b (LE X.K Ξ (aX P mb)))(hg:Gl X "range")(hm:X.mg "range"=none)(hs:starEach [a,b] X.env=[(false,eval a X.env),(false,eval b X.env)])(jZ:starEach [b] X.env=[(false,eval b X.env)]) :
  PI X tg (.Call (.Name "range" p) [a,b] [] pos) (LI X.K Ξ (iZ P (.iM ma mb))) :=
 (YJ hg hm (C0 hP ha (C0 hP hb (P1 hP) (by rw[jZ];rfl)) (by rw[hs,jZ])) hs jZ).imp λbE H R bh=>by
  obtain⟨σ,g,ρ,s,Rr,h⟩:=bh;refine jv hP (m:=.cons ma (.cons mb .nil)) s Rr (.refl _ _) (Q0:=λxs g1=>∃i j:Int,xs=[.int i,.int j]/\(-(2 ^ 62)<=i/\i<2 ^ 62/\-(2 ^ 62)<=j/\j<2 ^ 62)/\∀bD H' J,Ext ρ H bD H'->Rl X.K bD g1 H'->tu X.K bD H' (.fix (k8 i (j-i).toNat)) J->R J H') ?_ λxs g1 bH H1 vs e1 R1 r1 h=>?_
  ·skip
   exact b8 hP ma _ _ _ _ _ _ (λx g1 h=>b8 hP mb _ _ _ _ _ _ (λy g2 ⟨i,j,e,e',h1,h⟩=>⟨i,j,by rw[e,e'],h1,h⟩) (λ_ _ z=>z) h) (λ_ _ z=>z) h
  ·obtain⟨i,j,rfl,h1,h⟩:=h;obtain⟨v,w,rfl,rv,fT⟩:=r1.two;obtain rfl:=rv.i0;obtain rfl:=fT.i0;exact⟨_,_,rfl,h1,h bH H1 _ e1 R1 GR⟩
end
section
variable{X:Cx}{pos:Pos}
theorem Pz{i:Nat}{x:Str}(hN:X.N.Nodup)(hi:X.N[i]?=some x)(hx:Loc X.env.scope x)(hf:X.fn x=true\/X.env.scope.names.lookup x=some .local):PG X (.Name x pos) (LG X.K (.one i)) :=
 (JT hN hi hx hf).imp λv bE H Q hq=>by
  obtain⟨d,σ,g,ρ,s,R,r,h⟩:=hq;exact h _ (s.set i r)
inductive fI(X:Cx):List Expr->List Nat->Prop
 |nil:fI X [] []
 |cons {x:Str} {p:Pos} {i:Nat} {es:List Expr} {is:List Nat} (hi:X.N[i]?=some x) (hx:Loc X.env.scope x) (hf:X.fn x=true\/X.env.scope.names.lookup x=some .local) (r:fI X es is):fI X (.Name x p::es) (i::is)
def DY:List Nat->pZ
 |[]=>Hz
 |i::is=>GO (tQ i) (DY is)
theorem YH(hN:X.N.Nodup){es:List Expr}{is:List Nat}(h:fI X es is):xk X es (DY is):=by
 induction h with
 |nil=>exact Rz
 |cons hi hx hf r ih=>exact a66 (JT hN hi hx hf) ih rfl
theorem De:∀{es:List Expr} {is:List Nat},fI X es is->(assignEach es X.env).length=is.length/\(assignEach es X.env).findIdx? (·.1)=none
 |_,_,.nil=>⟨rfl,rfl⟩
 |_,_,.cons (x:=x) (p:=p) (es:=es) hi hx hf r=>by
  obtain⟨h1,h2⟩:=De r;have e:assignEach (.Name x p::es) X.env=(false,assign (.Name x p) X.env)::assignEach es X.env:=rfl;rw[e];refine⟨by simp[h1],?_⟩;rw[List.findIdx?_cons,h2]
  rfl
theorem HS{K:PySem.W.Frag}{ρ:List Addr}{H:Hp}{k:S->Prop}{Q:L2.St->Hp->Prop}:∀{is:List Nat} {l:List D} {vs:List V} {σ cj:S} {bE:L2.St},B7 is l σ=some cj->b0 K ρ H l vs->l8 K ρ H σ bE->(∀dA,l8 K ρ H cj dA->Q dA H)->DY is vs bE H Q
 |[],_,_,_,_,_,h,.nil,s,q=>by
  simp only[B7] at h;cases h;exact⟨rfl,q _ s⟩
 |[],_,_,_,_,_,h,.cons _ _,s,q=>by simp only[B7] at h;cases h
 |i::is,_,_,_,_,_,h,.nil,s,q=>by simp only[B7] at h;cases h
 |i::is,_,_,_,_,_,h,.cons r rr,s,q=>by
  simp only[B7] at h;exact⟨_,_,rfl,HS (k:=k) h rr (s.set i r) q⟩
theorem Ds:∀{is:List Nat} {l:List D} {σ cj:S},B7 is l σ=some cj->l.length=is.length
 |[],[],_,_,_=>rfl
 |[],_::_,_,_,h=>by simp only[B7] at h;cases h
 |_::_,[],_,_,h=>by simp only[B7] at h;cases h
 |_::is,_::l,_,_,h=>by simp only[B7] at h;simp[Ds h]
theorem Kf{es:List Expr}{is:List Nat}{k:Nat}(hc:X.calm=true)(hN:X.N.Nodup)(hs:fI X es is):PG X (.Tuple es k pos) (LG X.K (.many is)) :=
 (OR hc (YH hN hs) (De hs).1 (De hs).2).imp λv bE H Q bh=>by
  obtain⟨d,σ,g,ρ,s,R,r,h⟩:=bh;obtain⟨l,cj,rfl,e,h⟩:=h;obtain⟨a',vs,rfl,ht,rs⟩:=r.w9;exact⟨_,_,rfl,ht.sq,by rw[<- rs.length];exact Ds e,HS (k:=λ_=>True) e rs s h⟩
end
theorem LN.ext{K ρ H N bH H1}(e:Ext ρ H bH H1):(LN K ρ H N).le (LN K bH H1 N) :=
 ⟨λσ g h bD H' dA e' R s=>h bD H' dA (e.trans e') R s,λd g h=>h.ext e,λσ g h bD H' dA e' R s=>h bD H' dA (e.trans e') R s,λσ g h bD H' dA e' R s=>h bD H' dA (e.trans e') R s⟩
section
variable{X:Cx}{Ξ:gL}{P:fo}(hP:i6 P){a b c tg:Expr}{ma mb mc:ME}{st:Stmt}{rest:List Stmt}{Ab mr:MS}{pos p:Pos}
include hP
theorem Jn:jb X [] (LS X.K Ξ (wpS P .pass)) :=
 (RH (X:=X)).imp λN bE H ⟨σ,g,ρ,s,R,h⟩=>h ρ H bE (.refl _ _) R s
theorem Kh(h1:PS X st (LS X.K Ξ (wpS P Ab)))(h2:jb X rest (LS X.K Ξ (wpS P mr))):jb X (st::rest) (LS X.K Ξ (wpS P (.seq Ab mr))) :=
 (a62 h1 h2).imp λN bE H ⟨σ,g,ρ,s,R,h⟩ =>
  ur hP s R (.refl _ _) (show wpS P Ab { LN X.K ρ H N with nx:=λiP g1=>wpS P mr (LN X.K ρ H N) iP g1 (LX X.K ρ H Ξ) } σ g (LX X.K ρ H Ξ) from h) ⟨λiP g1 h bH H1 Ly e1 R1 s1=>ur hP s1 R1 e1 h (LN.ext e1),λ_ _ z=>z,λ_ _ z=>z,λ_ _ z=>z⟩
theorem Sl(ha:PE X a (LE X.K Ξ (aX P ma)))(hs:swapsWith a none pos.line X.env=pure false):PS X (.Expr a pos) (LS X.K Ξ (wpS P (.expr ma))) :=
 (RC ha hs).imp λN bE H ⟨σ,g,ρ,s,R,h⟩=>eX hP s R (.refl _ _) h λx g1 bH H1 v1 e1 R1 r1 h=>h bH H1 bE e1 R1 (s.ext e1)
theorem Jp{i:Nat}{x:Str}{p:Pos}(h0:PS X (.Assign [.Name x p] a pos) (xh (LE X.K Ξ (aX P ma)) (tQ i))):PS X (.Assign [.Name x p] a pos) (LS X.K Ξ (wpS P (.set i ma))) :=
 h0.imp λN bE H ⟨σ,g,ρ,s,R,h⟩=>eX hP s R (.refl _ _) h λx g1 bH H1 v1 e1 R1 r1 h=>h bH H1 _ e1 R1 ((s.ext e1).set i r1)
theorem Qf{t:MT}(h0:PS X (.Assign [tg] a pos) (xh (LE X.K Ξ (aX P ma)) (LG X.K t))):PS X (.Assign [tg] a pos) (LS X.K Ξ (wpS P (.nR t ma))) :=
 h0.imp λN bE H ⟨σ,g,ρ,s,R,h⟩=>eX hP s R (.refl _ _) h λx g1 bH H1 v1 e1 R1 r1 h=>⟨x,σ,g1,bH,s.ext e1,R1,r1,B4 (λcj h dA s'=>h bH H1 dA e1 R1 s') h⟩
theorem a38(hu:X.A.units+100<cLine){o i:Expr}{mo mi:ME}{tp:Pos}(ha:PE X a (LE X.K Ξ (aX P ma)))(ho:PE X o (LE X.K Ξ (aX P mo)))(hi:PE X i (LE X.K Ξ (aX P mi)))(hs:swapsWithSole [.Subscript o i tp] a pos.line X.env=pure false)(pL:∀ v,assign (.Subscript o i tp) X.env v=(do
   let ov <- holding [v] (eval o X.env)
   let iv <- holding [v,ov] (eval i X.env)
   standAt tp
   holding [v,ov,iv] (setItem ov iv v)
   release [v,ov,iv] [])):PS X (.Assign [.Subscript o i tp] a pos) (LS X.K Ξ (wpS P (.eI mo mi ma))) :=
 (Jh ha (OQ ho hi (Py hu) pL) hs).imp λN bE H ⟨σ,g,ρ,s,R,h⟩ =>
  eX hP s R (.refl _ _) h λx g1 bH H1 v1 e1 R1 r1 h=>eX hP (s.ext e1) R1 e1 h λy g2 eW H2 v2 e2 R2 r2 h=>eX hP (s.ext (e1.trans e2)) R2 (e1.trans e2) h λz g3 jE H3 v3 e3 R3 r3 h =>
   ⟨y,z,x,g3,jE,R3,r2.ext e3,r3,r1.ext (e2.trans e3),U6 (λg4 h kU H4 e4 R4=>h kU H4 bE (e1.trans (e2.trans (e3.trans e4))) R4 (s.ext (e1.trans (e2.trans (e3.trans e4))))) h⟩
omit hP in
def yE(K:PySem.W.Frag)(f:Str)(cs:List Str):Prop:=∀c C,c∈cs->n8 K c C->w5 K C f
omit hP in
theorem Sd{f:Str}{cs:List Str}(hF:yE X.K f cs){ρ:List Addr}{H:Hp}{g g':G}{x v:D}{xv vv:V}(R:Rl X.K ρ g H)(rx:d0 X.K ρ H x xv)(rv:d0 X.K ρ H v vv)(h:He f cs x v g g') :
  ∃a C dx fs,xv=.ref a/\H a=some (.ins C dx fs)/\iT X.K C/\w5 X.K C f/\fs.length<1000/\Rl X.K ρ g' (upd H a (.ins C dx (u3 f vv fs)))/\Ext ρ H ρ (upd H a (.ins C dx (u3 f vv fs))):=by
 obtain⟨i,c,fs,rfl,hi,hc,hz,rfl⟩:=h;obtain⟨a',rfl,ra⟩:=rx.i9;obtain⟨C,dx,vs,hH,hC,ja,rk,na⟩:=R.ins hi ra;obtain⟨R',e'⟩:=R.put (o':=.ins c (q8 f v fs)) (u:=.ins C dx (u3 f vv vs)) hi rfl ra ⟨hC,ja,rk.u3 rv,Dr (p:=λy=>w5 X.K C y) (hF c C hc hC) na⟩;exact⟨a',C,dx,vs,rfl,hH,ja,hF c C hc hC,by rw[<- rk.length];omega,R',e'⟩
theorem Sm{f:Str}{cs:List Str}{o:Expr}{mo:ME}{tp:Pos}(hF:yE X.K f cs)(ho:PE X o (LE X.K Ξ (aX P mo)))(ha:PE X a (LE X.K Ξ (aX P ma)))(hs:swapsWith a (some (.Attribute o f tp)) pos.line X.env=pure false):PS X (.Assign [.Attribute o f tp] a pos) (LS X.K Ξ (wpS P (.dN f cs mo ma))) :=
 (OU ho ha hs).imp λN bE H ⟨σ,g,ρ,s,R,h⟩=>eX hP s R (.refl _ _) h λx g1 bH H1 v1 e1 R1 r1 h=>eX hP (s.ext e1) R1 e1 h λy g2 eW H2 v2 e2 R2 r2 h=>by
  obtain⟨g3,h,q⟩:=h;obtain⟨a',C,dx,fs,hx,hH,ja,na,hz,R3,e3⟩:=Sd hF R2 r2 (r1.ext e2) h;exact⟨a',C,dx,fs,hx,hH,ja,na,hz,q eW _ bE (e1.trans (e2.trans e3)) R3 (s.ext (e1.trans (e2.trans e3)))⟩
theorem Sk{i:Nat}{x:Str}{tp:Pos}{op:Operator}{p:Pr}(om:(op=.Add/\p=.iadd)\/(op=.Sub/\p=.qO))(hN:X.N.Nodup)(hi:X.N[i]?=some x)(hx:Loc X.env.scope x)(hf:X.fn x=true\/X.env.scope.names.lookup x=some .local)(ha:PE X a (LE X.K Ξ (aX P ma))):PS X (.AugAssign (.Name x tp) op a pos) (LS X.K Ξ (wpS P (.mX i p ma))):=by
 have ho:Lf X op (r2 X.K p):=by
  intro pins s σ H x y v u Q I rx ry h;obtain⟨d,e,g,ρ,R,rd,re,d',g',hr,q⟩:=h;rcases om with⟨rfl,rfl⟩|⟨rfl,rfl⟩
  ·rcases hr with⟨i,j,ex,rfl,rfl⟩|⟨l,m,ex,hz,rfl,rfl⟩
   ·obtain⟨rfl,rfl⟩:=t9 ex;obtain rfl:=rd.i0;obtain rfl:=re.i0;exact QP pins s σ H _ _ v u Q I rx ry ⟨i,j,rfl,rfl,q.now R (.int _)⟩
   ·obtain⟨rfl,rfl⟩:=t9 ex;obtain⟨p1,xC,rfl,t1,ml⟩:=rd.w9;obtain⟨p2,nQ,rfl,t2,kY⟩:=re.w9;refine JG pins s σ H _ _ v u Q I rx ry (.inr ⟨p1,p2,xC,nQ,rfl,rfl,t1.sq,t2.sq,by rw[<- ml.length,<- kY.length];exact j0 hz,λz=>?_,λz=>?_,λp hp=>q.tup R hp (ml.append kY)⟩)
    ·subst z;cases ml;exact q.now R (.tup t2 kY)
    ·subst z;cases kY;rw[eP] at q;exact q.now R (.tup t1 ml)
  ·obtain⟨i,j,ex,rfl,rfl⟩:=hr;obtain⟨rfl,rfl⟩:=t9 ex;obtain rfl:=rd.i0;obtain rfl:=re.i0;exact QQ pins s σ H _ _ v u Q I rx ry ⟨i,j,rfl,rfl,q.now R (.int _)⟩
 refine(OT hN hi hx ha ho hf).imp λN bE H bh=>?_;obtain⟨σ,g,ρ,s,R,h⟩:=bh;obtain⟨xd,MF,h⟩:=h;obtain⟨xv,hv,rx⟩:=s.val _ _ MF;refine⟨xv,hv,eX hP s R (.refl _ _) h λz g1 bH H1 v1 e1 R1 r1 h=>?_⟩;refine⟨xd,z,g1,bH,R1,rx.ext e1,r1,o7 (λw g2 q=>?_) h⟩;exact λeW H2 v2 e2 R2 r2=>q eW H2 _ (e1.trans e2) R2 ((s.ext (e1.trans e2)).set i r2)
theorem Sj{f:Str}{cs:List Str}{o:Expr}{mo:ME}{tp:Pos}(hF:yE X.K f cs)(ho:PE X o (LE X.K Ξ (aX P mo)))(ha:PE X a (LE X.K Ξ (aX P ma))):PS X (.AugAssign (.Attribute o f tp) .Add a pos) (LS X.K Ξ (wpS P (.jV f cs mo ma))) :=
 (YN ho ha JG).imp λN bE H ⟨σ,g,ρ,s,R,h⟩=>eX hP s R (.refl _ _) h λy g1 bH H1 v1 e1 R1 r1 h=>by
  obtain⟨i,c,fs,x,rfl,hi,hc,hf,h⟩:=h;obtain⟨a',rfl,ra⟩:=r1.i9;obtain⟨C,dx,vs,hH,hC,ja,rk,na⟩:=R1.ins hi ra;have lk:=rk.look f;rw[hf] at lk;obtain⟨v,hv,rv⟩:=lk.some;refine⟨a',C,dx,vs,v,rfl,hH,ja,hF c C hc hC,hv,eX hP (s.ext e1) R1 e1 h λz g3 jE H3 v3 e3 R3 r3 h=>?_⟩;obtain⟨d',g',hR,iR,kd,hz,q⟩:=h;have fin:∀{kU:List Addr} {H4:Hp} {vv:V},Ext jE H3 kU H4->Rl X.K kU g' H4->d0 X.K kU H4 d' vv->∃sZ iR,H4 a'=some (.ins C sZ iR)/\iR.length<1000/\N.nx bE (upd H4 a' (.ins C sZ (u3 f vv iR))):=by
   intro kU H4 vv e4 R4 r4;obtain⟨C2,Ga,nQ,vL,Bf,AR,ER,Mg⟩:=R4.ins kd ((e3.trans e4).get ra);have:C2=C:=by have h1:=Bf.symm.trans hC;cases h1;rfl
   subst this;obtain⟨R5,e5⟩:=R4.put (o':=.ins c (q8 f d' iR)) (u:=.ins C2 Ga (u3 f vv nQ)) kd rfl ((e3.trans e4).get ra) ⟨Bf,AR,ER.u3 r4,Dr (p:=λy=>w5 X.K C2 y) (hF c C2 hc Bf) Mg⟩;exact⟨Ga,nQ,vL,by rw[<- ER.length];omega,q kU _ bE (e1.trans (e3.trans (e4.trans e5))) R5 (s.ext (e1.trans (e3.trans (e4.trans e5))))⟩
  rcases hR with⟨j,l,ex,rfl,rfl⟩|⟨l,m,ex,Mz,rfl,rfl⟩
  ·obtain⟨rfl,rfl⟩:=t9 ex;obtain rfl:=rv.i0;obtain rfl:=r3.i0;exact .inl ⟨_,_,rfl,rfl,fin (.refl _ _) R3 (.int _)⟩
  ·obtain⟨rfl,rfl⟩:=t9 ex;obtain⟨p1,xC,rfl,t1,ml⟩:=(rv.ext e3).w9;obtain⟨p2,nQ,rfl,t2,kY⟩:=r3.w9;refine .inr ⟨p1,p2,xC,nQ,rfl,rfl,t1.sq,t2.sq,by rw[<- ml.length,<- kY.length];exact j0 Mz,λz=>?_,λz=>?_,λp hp=>?_⟩
   ·subst z;cases ml;exact fin (.refl _ _) R3 (.tup t2 kY)
   ·subst z;cases kY;rw[eP] at fin;exact fin (.refl _ _) R3 (.tup t1 ml)
   ·exact fin (t8 hp) (R3.grow hp) (.tup (.inl m9) ((ml.append kY).ext (t8 hp)))
theorem Wx{sa sb:List Stmt}{Fe msb:MS}(hc:PT X c (LT X.K Ξ (dD P mc)))(ha:jb X sa (LS X.K Ξ (wpS P Fe)))(hb:jb X sb (LS X.K Ξ (wpS P msb))):PS X (.If c sa sb pos) (LS X.K Ξ (wpS P (.ifs mc Fe msb))) :=
 (Wh hc ha hb).imp λN bE H ⟨σ,g,ρ,s,R,h⟩=>qo hP s R (.refl _ _) h λt g1 bH H1 e1 R1 h=>by
  cases t
  ·exact ur hP (s.ext e1) R1 e1 h (LN.ext e1)
  ·exact ur hP (s.ext e1) R1 e1 h (LN.ext e1)
theorem Jo(ha:PE X a (LE X.K Ξ (aX P ma))):PS X (.Return (some a) pos) (LS X.K Ξ (wpS P (.ret ma))) :=
 (OX ha).imp λN bE H ⟨σ,g,ρ,s,R,h⟩=>⟨σ,g,ρ,s,R,h⟩
theorem Qb{iter:Expr}{mi:ME}{body:List Stmt}{mb:MS}{t:MT}(hp:PassesOwn (model X.prog X.w) X.A X.env X.xe)(hc:X.calm=true)(hi:PI X tg iter (LI X.K Ξ (iZ P mi)))(hg:PG X tg (LG X.K t))(hb:jb X body (LS X.K Ξ (wpS P mb)))(hs:∀x,foldedSetIterable iter X.env x=pure x):PS X (.For tg iter body [] pos) (LS X.K Ξ (wpS P (.fS t mi mb))) :=
 (OV hp hc hi hg hb hs).imp λN bE H bh=>by
  obtain⟨σ,g,ρ,s,R,h⟩:=bh;refine⟨σ,g,ρ,s,R,A6 hP mi _ _ _ _ _ _ (λk g1 h bH H1 J e1 R1 j1=>?_) (λ_ _ z=>z) h⟩;obtain⟨W,⟨m0,w0⟩,h⟩:=h;refine⟨λi m dA H'=>∃cj g' bD,Ext bH H1 bD H'/\l8 X.K bD H' cj dA/\Rl X.K bD g' H'/\W i m cj g',⟨m0,σ,g1,bH,.refl _ _,s.ext e1,R1,w0⟩,?_⟩;rintro i m dA H' ⟨cj,g',bD,e',s',R',w'⟩;obtain⟨uV,uU⟩:=j1 bD g' H' e' R' i;rcases h i m cj g' w' with⟨ek,q⟩|⟨x,ek,N2,NB,q⟩
  ·exact .inl ⟨uV ek,q bD H' dA (e1.trans e') R' s'⟩
  ·obtain⟨go,yl⟩:=uU x ek;refine .inr ⟨go,λlZ H2=>∃de g2 eW,Ext bH H1 eW H2/\l8 X.K eW H2 de lZ/\Rl X.K eW g2 H2/\N2 de g2,?_,?_⟩
   ·rintro lZ H2 ⟨de,g2,eW,e2,s2,R2,n2⟩;obtain⟨m',hm,w2⟩:=NB de g2 n2;exact⟨m',hm,de,g2,eW,e2,s2,R2,w2⟩
   ·intro v H2 y;obtain⟨e2,R2,r2⟩:=yl v H2 y;refine⟨x,cj,g',bD,s'.ext e2,R2,r2,B4 (λde q lZ s2=>?_) q⟩;refine ur hP s2 R2 (e1.trans (e'.trans e2)) q ⟨?_,?_,?_,?_⟩
    ·exact λlL g3 n3 jE H3 qi e3 R3 s3=>⟨lL,g3,jE,(e'.trans e2).trans e3,s3,R3,n3⟩
    ·exact λd g3 h=>h.ext (e1.trans (e'.trans e2))
    ·exact λlL g3 h jE H3 qi e3 R3 s3=>h jE H3 qi (e1.trans ((e'.trans e2).trans e3)) R3 s3
    ·exact λlL g3 n3 jE H3 qi e3 R3 s3=>⟨lL,g3,jE,(e'.trans e2).trans e3,s3,R3,n3⟩
theorem Kp{d4:List Nat}{n:Nat}{t:MT}{mi iK me:ME}:∀bE H Q,LE X.K Ξ (aX P (.comp d4 n t mi iK me)) bE H Q->wR (LI X.K Ξ (iZ P mi)) d4 n (LG X.K t) (LT X.K (nE Ξ.1) (dD P iK)) (LE X.K (nE Ξ.1) (aX P me)) bE H Q:=λbE H Q bh=>by
 obtain⟨σ,g,ρ,s,R,h⟩:=bh;refine⟨σ,g,ρ,s,R,A6 hP mi _ _ _ _ _ _ (λk g1 h bH H1 J e1 R1 j1=>?_) (λ_ _ z=>z) h⟩;obtain⟨W,⟨m0,w0⟩,h⟩:=h;refine⟨λi m ui dA H'=>∃ys cj g' bD,Ext bH H1 bD H'/\l8 X.K bD H' cj dA/\Rl X.K bD g' H'/\b0 X.K bD H' ys ui/\W i m ys cj g',⟨m0,[],_,g1,bH,.refl _ _,(s.ext e1).d4 d4 n,R1,.nil,w0⟩,?_⟩;rintro i m ui dA H' ⟨ys,cj,g',bD,e',s',R',ry,w'⟩;obtain⟨uV,uU⟩:=j1 bD g' H' e' R' i;rcases h i m ys cj g' w' with⟨ek,q⟩|⟨x,ek,hz,q⟩
 ·exact .inl ⟨uV ek,λp hp=>(q.ext (e1.trans e')).new R' hp ry⟩
 ·obtain⟨go,yl⟩:=uU x ek;refine .inr ⟨go,by rw[<- ry.length];exact yZ hz,λv H2 y=>?_⟩;obtain⟨e2,R2,r2⟩:=yl v H2 y;refine⟨x,cj,g',bD,s'.ext e2,R2,r2,B4 (λde q lZ s2=>?_) q⟩;refine⟨de,g',bD,s2,R2,o9 hP iK _ _ _ _ _ _ (λb g3 q jE H3 e3 R3=>?_) (λ_ _ z=>z.elim) q⟩;cases b
  ·obtain⟨m',hm,w3⟩:=q;exact⟨m',hm,ys,de,g3,jE,(e'.trans e2).trans e3,s2.ext e3,R3,(ry.ext e2).ext e3,by simpa using w3⟩
  ·refine⟨de,g3,jE,s2.ext e3,R3,b8 hP me _ _ _ _ _ _ (λz g4 q kU H4 v4 e4 R4 r4=>?_) (λ_ _ z=>z.elim) q⟩;obtain⟨m',hm,w4⟩:=q;exact⟨m',hm,ys++[z],de,g4,kU,(e'.trans e2).trans (e3.trans e4),(s2.ext e3).ext e4,R4,(((ry.ext e2).ext e3).ext e4).append (.cons r4 .nil),by simpa using w4⟩
theorem YQ{d4:List Nat}{n:Nat}{t:MT}{mi iK me:ME}:∀bE H Q,LE X.K Ξ (aX P (.gI d4 n t mi iK me)) bE H Q->wR (LI X.K Ξ (iZ P mi)) d4 n (LG X.K t) (LT X.K (nE Ξ.1) (dD P iK)) (LE X.K Ξ (aX P me)) bE H Q:=λbE H Q bh=>by
 obtain⟨σ,g,ρ,s,R,h⟩:=bh;refine⟨σ,g,ρ,s,R,A6 hP mi _ _ _ _ _ _ (λk g1 h bH H1 J e1 R1 j1=>?_) (λ_ _ z=>z) h⟩;obtain⟨W,⟨m0,w0⟩,h⟩:=h;refine⟨λi m ui dA H'=>∃ys cj g' bD,Ext bH H1 bD H'/\l8 X.K bD H' cj dA/\Rl X.K bD g' H'/\b0 X.K bD H' ys ui/\W i m ys cj g',⟨m0,[],_,g1,bH,.refl _ _,(s.ext e1).d4 d4 n,R1,.nil,w0⟩,?_⟩;rintro i m ui dA H' ⟨ys,cj,g',bD,e',s',R',ry,w'⟩;obtain⟨uV,uU⟩:=j1 bD g' H' e' R' i;rcases h i m ys cj g' w' with⟨ek,q⟩|⟨x,ek,hz,q⟩
 ·exact .inl ⟨uV ek,λp hp=>(q.ext (e1.trans e')).new R' hp ry⟩
 ·obtain⟨go,yl⟩:=uU x ek;refine .inr ⟨go,by rw[<- ry.length];exact yZ hz,λv H2 y=>?_⟩;obtain⟨e2,R2,r2⟩:=yl v H2 y;refine⟨x,cj,g',bD,s'.ext e2,R2,r2,B4 (λde q lZ s2=>?_) q⟩;refine⟨de,g',bD,s2,R2,o9 hP iK _ _ _ _ _ _ (λb g3 q jE H3 e3 R3=>?_) (λ_ _ z=>z.elim) q⟩;cases b
  ·obtain⟨m',hm,w3⟩:=q;exact⟨m',hm,ys,de,g3,jE,(e'.trans e2).trans e3,s2.ext e3,R3,(ry.ext e2).ext e3,by simpa using w3⟩
  ·refine⟨de,g3,jE,s2.ext e3,R3,b8 hP me _ _ _ _ _ _ (λz g4 q kU H4 v4 e4 R4 r4=>?_) (λ_ _ z=>z.ext (e1.trans ((e'.trans e2).trans e3))) q⟩;obtain⟨m',hm,w4⟩:=q;exact⟨m',hm,ys++[z],de,g4,kU,(e'.trans e2).trans (e3.trans e4),(s2.ext e3).ext e4,R4,(((ry.ext e2).ext e3).ext e4).append (.cons r4 .nil),by simpa using w4⟩
end
end M

namespace M
open PySem L2 PySem.Spec PyProof.Rows
section
variable{X:Cx}{Ξ:gL}{P:fo}(hP:i6 P)
include hP
theorem a39{x:Str}{C:Addr}{B newId gC:String}{bm:List Value}{np dU pos:Pos}{jr:Expr}{rest:List Expr}{fU:ME}(hc:X.calm=true)(O:OwnCls x C bm newId X.mg X.base)(FB:ExcBaseFacts B newId gC bm)(hg:Gl X x)(ha:PA X (jr::rest) (LA X.K Ξ (fe P fU)))(hr:yQ X Ξ.2)(hx:x∈Ξ.1)(hC:n8 X.K x C)(he:starEach (jr::rest) X.env=(false,eval jr X.env)::starEach rest X.env)(eN:(backTo dU (starEach rest X.env)).any (·.1)=false)(hd:(x==("__debug__":Str))=false):PS X (.Raise (some (.Call (.Name x np) (jr::rest) [] dU)) none pos) (LS X.K Ξ (wpS P (.raise x fU))) :=
 (a63 hc O FB hg ha hr he eN hd).imp λN bE H bh=>by
  obtain⟨σ,g,ρ,s,R,h⟩:=bh;refine jv hP s R (.refl _ _) h λds g1 bH H1 vs e1 R1 r1 h=>?_;exact⟨by rw[<- r1.length];exact j0 (aM h.1 (by decide)),h.2 bH H1 C e1 R1 hx hC⟩
def zy(X:Cx)(ex:List Str)(D:L2.Ends)(hs:List ExceptHandler):gL:=(ex,λv _ H=>∃C,v=.ref C/\rW X D C H hs)
inductive lG(X:Cx)(Ξ:gL)(P:fo):List ExceptHandler->List (Str×ME)->Prop
 |nil (hh:Z4 X Ξ.2):lG X Ξ P [] []
 |cons {y:Str} {C':Addr} {p p1 p2:Pos} {e:Expr} {me:ME} {hs:List ExceptHandler} {ms:List (Str×ME)} (hg:Gl X y) (hd:(y==("__debug__":Str))=false) (hm:X.mg y=some (.ref C'))
   (hx:∀x C,x∈Ξ.1->n8 X.K x C->PySem.W.exmOne X.K (.ref C) (.ref C')=some (decide (x=y\/y="MintError"))) (he:∀ea,PE (B8 X ea) e (LE X.K (nE Ξ.1) (aX P me))) (r:lG X Ξ P hs ms) :
   lG X Ξ P (.ExceptHandler (some (.Name y p)) none [.Return (some e) p1] p2::hs) ((y,me)::ms)
theorem KU{N:L2.Ends}{ρ bD:List Addr}{H H':Hp}{σ:S}{g:G}{x:Xn}{C:Addr}(hl:σ.length=X.N.length)(e:Ext ρ H bD H')(R:Rl X.K bD g H')(hx:x.cls∈Ξ.1)(hC:n8 X.K x.cls C) :
  ∀{hs:List ExceptHandler} {ms:List (Str×ME)},lG X Ξ P hs ms->lM P (LN X.K ρ H N) (σ.map λ_=>none) (LX X.K ρ H Ξ) ms x g->rW X N C H' hs
 |_,_,.nil hh,q=>⟨Ξ.2,hh,q bD H' C e R hx hC⟩
 |_,_,.cons (me:=me) hg hd hm MC he r,q=>by
  refine⟨hg,hd,_,_,hm,MC _ _ hx hC,?_⟩;unfold lM at q;split at q
  ·rename_i ex;rw[au (by simpa using ex)];refine⟨LS X.K (nE Ξ.1) (wpS P (.seq (.ret me) .pass)),λea=>Kh (X:=B8 X ea) (Ξ:=nE Ξ.1) hP (Jo (X:=B8 X ea) hP (he ea)) (Jn (X:=B8 X ea) hP),?_⟩;refine⟨σ.map λ_=>none,g,bD,⟨by simp[hl],λi d z=>?_⟩,R,?_⟩
   ·rw[aE] at z;cases e:σ[i]? with
    |none=>rw[e] at z;cases z
    |some y=>rw[e] at z;cases z
   ·skip
    refine b8 hP me _ _ _ _ _ _ (λd g1 h=>?_) (λ_ _ z=>z.elim) q;exact h.ext e
  ·rename_i ex;rw[ax (by simpa using ex)];exact KU hl e R hx hC r q
theorem Qe{h₀:ExceptHandler}{hs:List ExceptHandler}{ms:List (Str×ME)}{body:List Stmt}{mb:MS}{pos:Pos}(eJ:X.stack=X.env::X.outer)(hf:X.env.frame=some X.env.locals)(hb:∀pins D,jb (U5 X pins (tV X pins D (h₀::hs))) body (LS X.K (zy X Ξ.1 D (h₀::hs)) (wpS P mb)))(hh:lG X Ξ P (h₀::hs) ms):PS X (.Try body (h₀::hs) [] [] pos) (LS X.K Ξ (wpS P (.S3 mb ms))):=by
 intro pins s bE H N I ⟨σ,g,ρ,sr,R,h⟩;refine OY (t:=λD=>LS X.K (zy X Ξ.1 D (h₀::hs)) (wpS P mb)) (Ξ:=λD=>(zy X Ξ.1 D (h₀::hs)).2) eJ hf (λpins D _=>hb pins D) pins s bE H N I ⟨λC H' ⟨C',e,z⟩=>by cases e;exact z,?_⟩;refine⟨σ,g,ρ,sr,R,wpS_mono hP mb _ _ _ _ _ _ ⟨λ_ _ z=>z,λ_ _ z=>z,λ_ _ z=>z,λ_ _ z=>z⟩ (λx g1 q bD H' C e' R' hm hc=>⟨C,rfl,?_⟩) h⟩;exact KU (Ξ:=Ξ) hP (sr.len.trans I.len) e' R' hm hc hh q
end
end M

namespace M
open PySem L2 PySem.Spec PyProof.Rows
structure d7 where
 N:List Str
 nm:List (Str×NameKind)
 nC:Bool
 fns:List (Str×Nat)
 con:List (Str×D)
 blt:List Str
 exc:List Str
 gd:List (Str×List D)
 cls:List (Str×Nat)
 mq:List (Str×Str×Nat)
 mU:List (Str×Str)
 ji:Bool
 iq:Bool
def fO:Expr->Bool
 |.Set ..=>false
 |.Starred ..=>false
 |.Slice ..=>false
 |_=>true
def t7:Expr->Bool
 |.ListComp ..=>false
 |.SetComp ..=>false
 |.DictComp ..=>false
 |_=>true
def tT:Expr->Bool
 |.Tuple ..=>false
 |_=>true
def Dc:Expr->Bool
 |.Name ..=>true
 |.Call ..=>true
 |.Subscript ..=>true
 |.Constant ..=>true
 |.Attribute ..=>true
 |.BinOp ..=>true
 |_=>false
def wY:Expr->Bool
 |.Call (.Name ..) ..=>false
 |_=>true
def d7.idx(c:d7)(x:Str):Option Nat:=c.N.findIdx? λy=>decide (y=x)
def d7.qm(c:d7)(x:Str):Bool:=match c.nm.lookup x with
 |some .local=>true
 |some .cell=>true
 |some .free=>true
 |_=>false
def d7.gl(c:d7)(x:Str):Bool:=decide (c.nm.lookup x=some .globalImplicit)
def d7.w6(c:d7)(x:Str):Bool:=decide (c.nm.lookup x=some .local)||decide (c.nm.lookup x=some .cell)
def T2(x:Str):Bool:=(x==("__debug__":Str))==false&&(x==("__classdict__":Str))==false&&decide (x≠"__name__")
def DN:List (Str×String):=[("int","int"),("bool","bool"),("str","str"),("tuple","tuple"),("list","list")]
def DV:List (Str×Pr):=[("len",.len),("list",.list),("tuple",.tuple),("isinstance",.isin),("all",.all),("int",.int),("str",.str),("dict",.jU)]
def Y8:List (Str×Pr):=[("clear",.clear),("pop",.jk)]
def Eb:List (Str×Pr):=[("append",.append),("join",.join)]
def S1:Expr->Option (Str×List Expr)
 |.Call (.Name x _) args [] _=>some (x,args)
 |_=>none
def asName:Expr->Option Str
 |.Name x _=>some x
 |_=>none
def frees(sc:Scope):List Str:=(sc.names.filter λy=>decide (y.2=.free)).map (·.1)
def locals(sc:Scope):List Str:=(sc.names.filter λy=>decide (y.2=.local)||decide (y.2=.cell)).map (·.1)
def d7.inner(c:d7)(sc:Scope):d7:={ c with N:=frees sc++locals sc,nm:=sc.names,nC:=false,ji:=false,iq:=false }
def d7.d4(c:d7)(sc:Scope):List Nat:=(frees sc).map λx=>(c.idx x).getD 0
def d7.Cw(c:d7)(sc:Scope):Bool :=
 decide (sc.kind=.function)&&sc.names.all (λy=>!decide (y.2=.cell)||decide (sc.names.lookup y.1=some .cell))&&sc.names.all (λy=>!decide (y.2=.local)||decide (sc.names.lookup y.1=some .local)) &&
 decide (frees sc++locals sc).Nodup&&(frees sc).all (λx=>(c.idx x).isSome&&decide (sc.names.lookup x=some .free)&&(decide (c.nm.lookup x=some .cell)||decide (c.nm.lookup x=some .free)))
def d7.slot(c:d7)(e:Expr):Option Nat:=(asName e).bind λx=>if c.w6 x then c.idx x else none
def d7.slots(c:d7):List Expr->Option (List Nat)
 |[]=>some []
 |e::r=>(c.slot e).bind λi=>(c.slots r).map λis=>i::is
def d7.tg(c:d7)(e:Expr):Option MT:=((c.slot e).map .one).orElse λ_=>match e with
 |.Tuple es _ _=>(c.slots es).map .many
 |_=>none
def rX:Const->Option D
 |.int i=>some (.int i)
 |.bool b=>some (.bl b)
 |.none=>some .aQ
 |.str x=>some (.str x)
 |_=>none
structure CF where
 e:d7->Expr->Option ME
 t:d7->Expr->Option ME
 s:d7->Stmt->Option MS
section
variable(r:CF)(c:d7)
def c1(p:Pr)(a:Expr):Option ME:=(r.e c a).map λm=>.prim p (.cons m .nil)
def c2(p:Pr)(a b:Expr):Option ME:=(r.e c a).bind λma=>(r.e c b).map λmb=>.prim p (.cons ma (.cons mb .nil))
def E6:List Expr->Option ME
 |[]=>some .nil
 |e::es=>if fO e then(r.e c e).bind λm=>(E6 es).map λms=>.cons m ms else none
def KY:Expr->Option Str
 |.Constant (.str x) _ _=>some x
 |_=>none
def Hu:Expr->Option Expr
 |.FormattedValue e k none _=>if k=-1 then some e else none
 |_=>none
def tO:List Expr->Option ME
 |[]=>some .nil
 |e::es=>((KY e).bind λx=>if x.length<=2000 then(tO es).map λms=>.cons (.lit (.str x)) ms else none).orElse λ_ =>
   (Hu e).bind λa=>(r.e c a).bind λm=>(tO es).map λms=>.cons (.prim .fv (.cons m .nil)) ms
def wI:List (Option Expr)->List Expr->Option ME
 |[],[]=>some .nil
 |some k::ks,v::vs=>(r.e c k).bind λmk=>(r.e c v).bind λmv=>(wI ks vs).map λms=>.cons mk (.cons mv ms)
 |_,_=>none
def yk(op:BoolOp):List Expr->Option ME
 |[]=>none
 |[a]=>r.e c a
 |a::b::rs=>(r.e c a).bind λma=>(yk op (b::rs)).map λmb=>match op with
  |.And=>.eY ma mb
  |.Or=>.iQ ma mb
def ym(op:BoolOp):List Expr->Option ME
 |[]=>none
 |[a]=>r.t c a
 |a::b::rs=>(r.t c a).bind λma=>(ym op (b::rs)).map λmb=>match op with
  |.And=>.eY ma mb
  |.Or=>.iQ ma mb
def KZ:List Expr->Option ME
 |[]=>some .no
 |[e]=>r.t c e
 |_=>none
def v9:List Stmt->Option MS
 |[]=>some .pass
 |s::rs=>(r.s c s).bind λm=>(v9 rs).map λms=>.seq m ms
def DQ(x:Str):Option ME :=
 if T2 x then(if c.qm x then(c.idx x).map .var else if c.gl x then((c.con.lookup x).map .lit).orElse λ_=>if c.blt.contains x then(DN.lookup x).map λt=>.lit (.ty t) else none else none) else none
def zG(op:UnaryOp)(a:Expr):Option ME:=if op=.Not then(r.e c a).map .cJ else c1 r c (.un op) a
def d7.zr(b:Expr):Option (List D):=(asName b).bind λx=>if c.gl x&&T2 x then c.gd.lookup x else none
def Tw:CmpOp->Option Bool
 |.In=>some false
 |.NotIn=>some true
 |_=>none
def wF(a:Expr)(ops:List CmpOp)(bs:List Expr):Option ME:=match ops,bs with
 |[op],[b]=>if behindInMarks op b then none else((Tw op).bind λneg=>(c.zr b).bind λkvs=>(r.e c a).map λma=>.prim (yq neg) (.cons (.lit (.tup kvs)) (.cons ma .nil))).orElse λ_=>c2 r c (.cmp op) a b
 |[op,ie],[b,d]=>if lastMarks [op,ie] [b,d] then none else(r.e c a).bind λma=>(r.e c b).bind λmb=>(r.e c d).map λmd=>.chain op ie ma mb md
 |_,_=>none
def DT:Expr->Bool
 |.UnaryOp .USub (.Constant (.int i) _ _) _=>decide (i=1)
 |_=>false
def Td:Expr->Option (Option Expr×Option Expr×Option Expr)
 |.Slice lo hi st _=>some (lo,hi,st)
 |_=>none
def ED(a:Expr):Option Expr->Option Expr->Option Expr->Option ME
 |none,none,none=>c1 r c (.jF false false) a
 |some b,none,none=>c2 r c (.jF true false) a b
 |none,some b,none=>c2 r c (.jF false true) a b
 |none,none,some d=>if DT d then c1 r c .rev a else none
 |_,_,_=>none
def En(a b:Expr):Option ME:=((Td b).bind λq=>ED r c a q.1 q.2.1 q.2.2).orElse λ_=>if fO b then((c.zr a).bind λkvs=>(r.e c b).map λmb=>.prim .mT (.cons (.lit (.tup kvs)) (.cons mb .nil))).orElse λ_=>c2 r c .ix a b else none
def zI(x:Str)(e:Expr):Option ME:=(S1 e).bind λq =>
 if x="list" && q.1="range" && c.blt.contains "list" && c.blt.contains "range" && c.gl "range" then (match q.2 with
  |[a]=>if fO a then c1 r c .jK a else none
  |[a,b]=>if fO a&&fO b then c2 r c .jJ a b else none
  | _=>none)
 else if x="sorted" && q.1="set" && c.blt.contains "sorted" && c.blt.contains "set" && c.gl "set" then (match q.2 with
  |[a]=>if fO a then c1 r c .sset a else none
  | _=>none)
 else if x="len" && q.1="set" && c.blt.contains "len" && c.blt.contains "set" && c.gl "set" then (match q.2 with
  |[a]=>if fO a then c1 r c .rP a else none
  | _=>none)
 else none
def US(x:Str)(e:Expr):List Expr->Option ME
 |[]=>zI r c x e
 |_=>none
def Cb(x:Str):Option ME:=if T2 x&&c.gl x then(c.cls.lookup x).map λf=>.make x f .nil else none
def Cd(x:Str)(e:Expr)(es:List Expr):Option ME:=if T2 x&&c.gl x then(US r c x e es).orElse λ_=>(E6 r c (e::es)).bind λms=>((c.fns.lookup x).map λf=>.call f ms).orElse λ_=>((c.cls.lookup x).map λf=>.make x f ms).orElse λ_=>if c.blt.contains x then(DV.lookup x).map λp=>.prim p ms else none else none
def Jw(x:Str):List Expr->Option ME
 |[]=>Cb c x
 |e::es=>Cd r c x e es
def d7.meths(m:Str):List (Str×Nat):=(c.mq.filter λy=>decide (y.1=m)).map (·.2)
def Ce(o:Expr)(m:Str)(apos pos:Pos)(args:List Expr):Option ME :=
 if wY o && (apos.endLine == pos.line) && decide (args.length < 20) then (r.e c o).bind λmo=>(E6 r c args).bind λms=>if m="index" then (if args.isEmpty then none else some (.cQ .index mo ms)) else if args.isEmpty && (Y8.lookup m).isSome then (Y8.lookup m).map λp=>.cQ p mo ms else (match Eb.lookup m with
  |some p=>if args.isEmpty then none else some (.cQ p mo ms)
  | none=>some (.bp m (c.meths m) mo ms)) else none
def DP(f:Expr)(args:List Expr)(iX:List Keyword)(pos:Pos):Option ME:=if iX.isEmpty then(match f with
 |.Name x _=>Jw r c x args
 |.Attribute o m apos=>Ce r c o m apos pos args
 | _=>none) else none
def wK(tg e:Expr):Option ME:=(((S1 e).bind λq =>
  if q.1="range" then (match q.2 with
   |[a]=>if c.gl "range"&&c.blt.contains "range"&&fO a then(r.e c a).map .fP else none
   |[a,b]=>if c.gl "range"&&c.blt.contains "range"&&fO a&&fO b then(r.e c a).bind λma=>(r.e c b).map λmb=>.iM ma mb else none
   | _=>none)
  else none):Option ME).orElse λ_=>if fO e then (r.e c e).map .iN else none
def tW(elt:Expr)(gens:List Comprehension)(sc:Scope):Option ME:=match gens with
 |[⟨tg,it,ifs,Fl⟩]=>if c.Cw sc&&decide (Fl=0)&&fO it then((c.inner sc).tg tg).bind λt=>(wK r c tg it).bind λmi=>(KZ r (c.inner sc) ifs).bind λmc=>(r.e (c.inner sc) elt).map λme=>.comp (c.d4 sc) (frees sc++locals sc).length t mi mc me else none
 |_=>none
def Tc:Expr->Option Str
 |.Name x _=>some x
 |_=>none
def zJ(f:Expr)(args:List Expr)(iX:List Keyword):Option ME:=(λ(_:CF) (_:d7)=>none) r c
def Ht:Expr->Option (Expr×Expr)
 |.BinOp a .BitOr b _=>some (a,b)
 |_=>none
def BW:List Expr->Option Str
 |[.Name x _]=>some x
 |_=>none
def xB(f:Expr)(args:List Expr)(iX:List Keyword):Option ME:=match args with
 |[a]=>if iX.isEmpty&&decide (Tc f=some "sorted")&&c.gl "sorted"&&c.blt.contains "sorted"&&c.gl "set"&&c.blt.contains "set" then(Ht a).bind λq=>(S1 q.1).bind λu=>(S1 q.2).bind λv=>if decide (u.1="set")&&decide (v.1="set") then(BW u.2).bind λx=>(BW v.2).bind λy=>if T2 x&&T2 y&&c.qm x&&c.qm y then(c.idx x).bind λi=>(c.idx y).map λj=>.prim .uw (.cons (.var i) (.cons (.var j) .nil)) else none else none else none
 |_=>none
def Hf:Expr->Option ME
 |.Name x _=>DQ c x
 |.Constant k _ _=>(rX k).map .lit
 |.BinOp a op b _=>c2 r c (.bin op) a b
 |.UnaryOp op a _=>zG r c op a
 |.Compare a ops bs _=>wF r c a ops bs
 |.BoolOp op vs _=>yk r c op vs
 |.IfExp t a b _=>(r.t c t).bind λmt=>(r.e c a).bind λma=>(r.e c b).map λmb=>.ite mt ma mb
 |.Tuple es _ _=>(E6 r c es).map (.prim .tup)
 |.List es _=>(E6 r c es).map (.prim .lst)
 |.Subscript a b _=>En r c a b
 |.Dict ks vs _=>if ks.isEmpty&&vs.isEmpty then some (.prim .mV .nil) else if decide (ks.length<=15) then(wI r c ks vs).map .nD else none
 |.JoinedStr vs _=>if decide (2<=vs.length)&&decide (vs.length<=40) then(tO r c vs).map (.prim .lD) else none
 |.Attribute o f _=>if wY o then c1 r c (.fld f) o else none
 |.Call f args iX pos=>(zJ r c f args iX).orElse λ_=>(xB c f args iX).orElse λ_=>DP r c f args iX pos
 |.ListComp elt gens sc _=>tW r c elt gens sc
 |_=>none
def stepT:Expr->Option ME
 |.UnaryOp op a _=>if op=.Not then(r.t c a).map .cJ else none
 |.BoolOp op vs _=>ym r c op vs
 |.Compare a ops bs _=>(wF r c a ops bs).map .eQ
 |e=>if Dc e then(r.e c e).map .eQ else none
def GA:Expr->Option (Str×Pos)
 |.Name x p=>some (x,p)
 |_=>none
def UX:Expr->Option (Expr×Expr)
 | .Tuple es _ _=>(match es with
  |[a,b]=>some (a,b)
  | _=>none)
 |_=>none
def d7.El(x:Str)(px:Pos)(y:Str)(py:Pos)(a b:Expr):Bool:=decide (c.nm.lookup x=some .local)&&decide (c.nm.lookup y=some .local)&&decide (x≠y)&&decide (py.line=px.line)&&fO a&&fO b&&!([a,b].all (foldedForSure 8))&&!([a,b].all (constantsAlone 8))
def d7.yA:List Expr->Expr->Bool
 |[s,t],e=>((GA s).bind λp=>(GA t).bind λq=>(UX e).map λz=>c.El p.1 p.2 q.1 q.2 z.1 z.2).getD false
 |_,_=>false
def GG:Expr->Option ME
 |.Constant k _ _=>(rX k).map .lit
 |_=>none
def yG:List Expr->Option ME
 |[]=>some .nil
 |e::es=>(GG e).bind λm=>(yG es).map λms=>.cons m ms
def GF:Expr->Option ME
 |.List es _=>(yG es).map (.prim .lst)
 |.Constant k _ _=>(rX k).map .lit
 |_=>none
def UW:List Stmt->Option Expr
 | [s]=>(match s with
  |.Return e _=>e
  | _=>none)
 |_=>none
def DS:ExceptHandler->Option (Str×Expr)
 |.ExceptHandler t n b _=>if n.isNone then t.bind λt=>(asName t).bind λy=>(UW b).map λe=>(y,e) else none
def wJ:List ExceptHandler->Option (List (Str×ME))
 |[]=>some []
 |h::hs=>(DS h).bind λq=>if c.exc.contains q.1&&c.gl q.1&&T2 q.1 then(GF q.2).bind λm=>(wJ hs).map λms=>(q.1,m)::ms else none
def Cj(e f:Option Expr):Option (Str×Expr×List Expr):=if f.isNone then e.bind λe=>(S1 e).bind λq=>q.2.head?.map λa=>(q.1,a,q.2.tail) else none
def d7.tF(f:Str):List Str:=(c.mU.filter λy=>decide (y.1=f)).map (·.2)
def DU:List Expr->Option (Expr×Expr×Expr×Expr)
 |_=>none
def Gh(tg e:Expr):Option MS:=match tg with
 |.Name x _=>if c.w6 x then(c.idx x).bind λi=>(r.e c e).map λm=>.set i m else none
 |.Tuple es _ _=>(DU es).elim (if(tT e&&t7 e)||c.yA es e then(c.slots es).bind λis=>(r.e c e).map λm=>.nR (.many is) m else none) λq=>if t7 e&&fO q.2.1&&fO q.2.2.2 then(r.e c q.1).bind λm1=>(r.e c q.2.1).bind λn1=>(r.e c q.2.2.1).bind λm2=>(r.e c q.2.2.2).bind λn2=>(r.e c e).map λm=>.xE m1 n1 m2 n2 m else none
 |.Subscript o i _=>if fO i&&t7 e then(r.e c o).bind λmo=>(r.e c i).bind λmi=>(r.e c e).map λm=>.eI mo mi m else none
 |.Attribute o f _=>if t7 e then(r.e c o).bind λmo=>(r.e c e).map λm=>.dN f (c.tF f) mo m else none
 |_=>none
def GB:Operator->Option Pr
 |.Add=>some .iadd
 |.Sub=>some .qO
 |_=>none
def toR(e:Expr):ME->ME
 |.comp a n t i k (.bp x y z w)=>if !t7 e&&c.iq then .gI a n t i k (.bp x y z w) else .comp a n t i k (.bp x y z w)
 |m=>m
def Hg:Stmt->Option MS
 |.Expr e _=>if t7 e then(r.e c e).map .expr else none
 | .Assign zO e _=>(match zO with
  |[tg]=>Gh r c tg e
  | _=>none)
 | .AugAssign tg op e _=>(match tg with
  |.Attribute o f _=>if decide (op=.Add) then(r.e c o).bind λmo=>(r.e c e).map λm=>.jV f (c.tF f) mo m else none
  |.Name x _=>if c.w6 x then(GB op).bind λp=>(c.idx x).bind λi=>(r.e c e).map λm=>.mX i p m else none
  | _=>none)
 |.If t a b _=>(r.t c t).bind λmt=>(v9 r c a).bind λma=>(v9 r c b).map λmb=>.ifs mt ma mb
 |.For tg it body yg _=>if c.nC&&(yg.isEmpty&&fO it) then(c.tg tg).bind λt=>(wK r c tg it).bind λmi=>(v9 r c body).map λmb=>.fS t mi mb else none
 | .Return e _=>(match e with
  |some e=>(r.e c e).map λm=>.ret (toR c e m)
  | none=>some .qv)
 |.Pass _=>some .pass
 |.Raise e f _=>(Cj e f).bind λq=>if c.ji&&c.exc.contains q.1&&c.gl q.1&&T2 q.1 then(E6 r c (q.2.1::q.2.2)).map (.raise q.1) else none
 |.Try body hs el fi _=>if c.iq&&!hs.isEmpty&&el.isEmpty&&fi.isEmpty then(v9 r { c with ji:=false,iq:=false } body).bind λmb=>(wJ c hs).map λms=>.S3 mb ms else none
 |_=>none
end
def comp:Nat->CF
 |0=>⟨λ_ _=>none,λ_ _=>none,λ_ _=>none⟩
 |n+1=>⟨Hf (comp n),stepT (comp n),λc s=>(Hg (comp n) c s).orElse λ_=>some (.expr .no)⟩
end M

namespace M
open PySem L2 PySem.Spec PyProof.Rows
structure gy(X:Cx)(c:d7)(P:fo)(Ξ:gL):Prop where
 N:X.N=c.N
 nd:c.N.Nodup
 loc:∀x,c.nm.lookup x=some .local->X.env.scope.names.lookup x=some .local
 wC:∀x,c.nm.lookup x=some .cell->X.env.scope.names.lookup x=some .cell
 yd:∀x,c.nm.lookup x=some .free->X.env.scope.names.lookup x=some .cell\/X.env.scope.names.lookup x=some .free
 BC:∀x,c.nm.lookup x=some .globalImplicit->X.env.scope.names.lookup x=some .globalImplicit
 cells:∀x,(c.nm.lookup x=some .cell\/c.nm.lookup x=some .free)->∃a,X.env.cells.lookup x=some a
 nC:∀x,c.nm.lookup x=some .cell->X.fn x=true
 calm:X.calm=true
 units:X.A.units+100<cLine
 own:c.nC=true->PassesOwn (model X.prog X.w) X.A X.env X.xe
 mono:i6 P
 con:∀x d,c.con.lookup x=some d->∃v u,X.mg x=some u/\RelV v u/\∀ρ H,d0 X.K ρ H d v
 blt:∀x,c.blt.contains x=true->X.mg x=none
 fns:∀x f,c.fns.lookup x=some f->∃k fa fd ps,ph X P Ξ.1 k f fa fd ps/\p8 k X.A/\X.mg x=some (.ref fa)/\PySem.W.keepIn X.K (.ref fa)=true
 cls:∀x f,c.cls.lookup x=some f->∃k C fa fd ps,ph X P Ξ.1 k f fa fd ps/\p8 (k+1) X.A/\X.mg x=some (.ref C)/\n8 X.K x C/\iT X.K C/\Mk X.K C fa
 mq:∀m y f C,(m,y,f)∈c.mq->n8 X.K y C->∃k fa fd ps,Meth X.K C m fa/\ph X P Ξ.1 k f fa fd ps/\p8 k X.A
 mU:∀f y C,(f,y)∈c.mU->n8 X.K y C->w5 X.K C f
 wq:Ξ.1=c.exc
 pass:Passes (gO X.prog X.w) X Ξ.2
 ji:c.ji=true->yQ X Ξ.2
 iq:c.iq=true->X.stack=X.env::X.outer/\X.env.frame=some X.env.locals/\Z4 X Ξ.2
 exc:∀x,c.exc.contains x=true->∃C,X.mg x=some (.ref C)/\n8 X.K x C/\∃B newId gC bm,OwnCls x C bm newId X.mg X.base/\ExcBaseFacts B newId gC bm
 ye:∀x y C C',c.exc.contains x=true->c.exc.contains y=true->n8 X.K x C->n8 X.K y C'->PySem.W.exmOne X.K (.ref C) (.ref C')=some (decide (x=y\/y="MintError"))
 sX:∀x kvs,c.gd.lookup x=some kvs->yh X x kvs
 code:c.nC=true->PySem.W.kdsCode X.K X.env.code=true
section
variable{X:Cx}{c:d7}{P:fo}{Ξ:gL}
theorem QO{c:d7}{x:Str}{i:Nat}(h:c.idx x=some i):c.N[i]?=some x:=by
 unfold d7.idx at h;rw[jX] at h;obtain⟨h1,h2,_⟩:=h;rw[ao h1,bC h2]
theorem gy.DO(C:gy X c P Ξ){x:Str}(h:c.qm x=true):sf X.env.scope x:=by
 unfold d7.qm at h;split at h
 ·rename_i e;exact .inl (C.loc x e)
 ·rename_i e;exact .inr (.inl (C.wC x e))
 ·rename_i e;rcases C.yd x e with z|z
  ·exact .inr (.inl z)
  ·exact .inr (.inr z)
 ·cases h
theorem gy.y9(C:gy X c P Ξ){x:Str}(h:c.gl x=true):Gl X x:=C.BC x (bC h)
theorem gy.w6(C:gy X c P Ξ){x:Str}(h:c.w6 x=true):Loc X.env.scope x/\(X.fn x=true\/X.env.scope.names.lookup x=some .local):=by
 unfold d7.w6 at h;rw[cT] at h;rcases h with h|h
 ·have:=C.loc x (bC h);exact⟨.inl this,.inr this⟩
 ·exact⟨.inr (C.wC x (bC h)),.inl (C.nC x (bC h))⟩
theorem gy.oZ(C:gy X c P Ξ){x:Str}{i:Nat}(h:c.idx x=some i):X.N[i]?=some x:=by rw[C.N];exact QO h
theorem gy.qH(C:gy X c P Ξ):X.N.Nodup:=by rw[C.N];exact C.nd
theorem Dg{e:Expr}{x:Str}(h:asName e=some x):∃p,e=.Name x p:=by
 cases e<;>first|(cases h;exact⟨_,rfl⟩)|cases h
theorem KP{e:Expr}{i:Nat}(h:c.slot e=some i):∃x p,e=.Name x p/\c.w6 x=true/\c.idx x=some i:=by
 unfold d7.slot at h;obtain⟨x,hx,h2⟩:=ag.mp h;obtain⟨p,rfl⟩:=Dg hx;split at h2
 ·exact⟨x,p,rfl,by assumption,h2⟩
 ·cases h2
theorem gy.slots(C:gy X c P Ξ):∀{es:List Expr} {is:List Nat},c.slots es=some is->fI X es is:=by
 intro es
 induction es with
 |nil=>intro is h;cases h;exact .nil
 |cons e r ih =>
  intro is h;unfold d7.slots at h;obtain⟨i,hi,h⟩:=ag.mp h;obtain⟨is',hs,rfl⟩:=ae.mp h;obtain⟨x,p,rfl,hl,hx⟩:=KP hi;exact .cons (C.oZ hx) (C.w6 hl).1 (C.w6 hl).2 (ih hs)
theorem orElse_some{α:Type}{a:Option α}{b:Unit->Option α}{m:α}(h:a.orElse b=some m):a=some m\/b ()=some m:=by
 cases a with
 |none=>exact .inr h
 |some x=>exact .inl h
theorem gy.Gp(C:gy X c P Ξ){tg:Expr}{t:MT}(h:c.tg tg=some t):PG X tg (LG X.K t):=by
 unfold d7.tg at h;rcases orElse_some h with h|h
 ·obtain⟨i,hi,rfl⟩:=ae.mp h;obtain⟨x,p,rfl,hl,hx⟩:=KP hi;exact Pz C.qH (C.oZ hx) (C.w6 hl).1 (C.w6 hl).2
 ·cases tg<;>first|(cases h;done)|skip
  obtain⟨is,hs,rfl⟩:=ae.mp (show(c.slots _).map MT.many=some t from h);exact Kf C.calm C.qH (C.slots hs)
theorem j6{e:Expr}{es:List Expr}{env:Env}(h:fO e=true):starEach (e::es) env=(false,eval e env)::starEach es env:=by
 cases e<;>first|rfl|cases h
theorem zl{e:Expr}{env:Env}(h:fO e=true):∀x,foldedSetIterable e env x=pure x:=by
 intro x;cases e<;>first|rfl|cases h
theorem Je{e:Expr}(h:fO e=true):Cg e:=by
 intro o i;cases e<;>first|rfl|cases h
theorem Rj{o i:Expr}{tp:Pos}{env:Env}(h:fO i=true):∀v,assign (.Subscript o i tp) env v=(do
      let ov <- holding [v] (eval o env)
      let iv <- holding [v,ov] (eval i env)
      standAt tp
      holding [v,ov,iv] (setItem ov iv v)
      release [v,ov,iv] []):=by
  intro v;cases i<;>first|rfl|cases h
theorem U7{e:Expr}{t:Option Expr}{n:Nat}{env:Env}(h:t7 e=true):swapsWith e t n env=pure false:=by
 cases e<;>first|rfl|cases h
theorem a80{e:Expr}{es:List Expr}{k:Nat}{p:Pos}{env:Env}(h:tT e=true):swappedStores [.Tuple es k p] e env=pure none:=by
 cases e<;>first|rfl|cases h
theorem YK{e:Expr}{env:Env}(h:Dc e=true):∀whole,isTrue e env whole=(do let v <- whole;standAt e.pos;holding [v] (truthy v)):=by
 intro w;cases e<;>first|rfl|cases h
theorem F0{e:Expr}{q:Str×List Expr}(h:S1 e=some q):∃p pos,e=.Call (.Name q.1 p) q.2 [] pos:=by
 cases e<;>first|(cases h;done)|skip
 rename_i f as iX pos;cases f<;>first|(cases h;done)|skip
 cases iX<;>first|(cases h;done)|skip
 cases h;exact⟨_,_,rfl⟩
theorem Kk{l:List Expr}{x:Str}(h:BW l=some x):∃p,l=[.Name x p]:=by
 rcases l with _|⟨e,_|⟨_,_⟩⟩
 ·cases h
 ·cases e<;>first|(cases h;exact⟨_,rfl⟩)|cases h
 ·cases e<;>cases h
theorem Sz{e:Expr}{q:Expr×Expr}(h:Ht e=some q):∃p,e=.BinOp q.1 .BitOr q.2 p:=by
 cases e<;>first|(cases h;done)|skip
 rename_i a op b p;cases op<;>first|(cases h;exact⟨_,rfl⟩)|cases h
theorem Ku{b:Expr}{kvs:List D}(h:c.zr b=some kvs):∃x p,b=.Name x p/\c.gl x=true/\T2 x=true/\c.gd.lookup x=some kvs:=by
 unfold d7.zr at h;obtain⟨x,hx,h2⟩:=ag.mp h;obtain⟨p,rfl⟩:=Dg hx;split at h2
 ·rename_i hc;rw[bg] at hc;exact⟨x,p,rfl,hc.1,hc.2,h2⟩
 ·cases h2
theorem K0{o:Expr}{f:Str}{env:Env}(h:wY o=true):attributeBase o f env (eval o env)=eval o env:=by
 cases o<;>first|rfl|skip
 rename_i f as iX pos;cases f<;>first|rfl|cases h
theorem Cn{env:Env}:∀(names:List (Str×NameKind)) (acc:List (Str×Addr)),(∀y∈names,y.2=.free->∃a,env.cells.lookup y.1=some a)->(∀x a,acc.lookup x=some a->env.cells.lookup x=some a) ->
  ∃ cl,(forIn names acc λ(y:Str × NameKind) (cs:List (Str × Addr))=>(match y with
   |(name,kind)=>if(kind==NameKind.free)=true then do
     let __do_lift <- cellOf env name
     pure (ForInStep.yield ((name,__do_lift)::cs))
    else pure (ForInStep.yield cs):Sem (ForInStep (List (Str × Addr)))))=pure cl/\(∀ x a,cl.lookup x=some a->env.cells.lookup x=some a)/\(∀ y ∈ names,y.2=.free->∃ a,cl.lookup y.1=some a)/\∀ x a,acc.lookup x=some a->∃ a',cl.lookup x=some a'
 |[],acc,_,h2=>⟨acc,rfl,h2,λy hy=>absurd hy (by simp),λx a h=>⟨a,h⟩⟩
 |(n,k)::r,acc,h1,h2=>by
  rw[List.forIn_cons];by_cases hk:k=.free
  ·subst hk;obtain⟨a,ha⟩:=h1 (n,.free) (by simp) rfl;have hc:cellOf env n=pure a:=by unfold cellOf;rw[ha]
   obtain ⟨cl,e,q1,q2,q3⟩:=Cn r ((n,a) :: acc) (λy hy=>h1 y (by simp [hy])) (λx b hb=>by
    rw[cA] at hb;cases hx:x==n with
    |true=>rw[hx] at hb;cases hb;rw[eq_of_beq hx];exact ha
    | false=>rw [hx] at hb;exact h2 x b hb)
   refine⟨cl,?_,q1,λy hy hf=>?_,λx b hb=>?_⟩
   ·simp only[beq_self_eq_true,if_true,hc];exact e
   ·rcases aI.mp hy with z|z
    ·subst z;exact q3 n a (by simp[List.lookup_cons])
    ·exact q2 y z hf
   ·cases hx:x==n with
    |true=>exact q3 x a (by rw[cA,hx])
    |false=>exact q3 x b (by rw[cA,hx];exact hb)
  ·have hb:(k==NameKind.free)=false:=by simpa using hk
   obtain⟨cl,e,q1,q2,q3⟩:=Cn r acc (λy hy=>h1 y (by simp[hy])) h2;refine⟨cl,?_,q1,λy hy hf=>?_,q3⟩
   ·simp only[hb,Bool.false_eq_true,if_false];exact e
   ·rcases aI.mp hy with z|z
    ·subst z;exact absurd hf hk
    ·exact q2 y z hf
end
end M

namespace M
open PySem L2 PySem.Spec PyProof.Rows
theorem YB{P:Program}{w:World}{X:Cx}:Passes (gO P w) X (λ_ _ _=>False):=λ_ _ _ _ _ _ _ h=>by
 obtain⟨_,_,_,_,_,_,_,z⟩:=h;exact z.elim
theorem Q3{env:Env}:∀{names:List (Str×NameKind)} {x:Str},names.lookup x=some .globalImplicit ->
  (names.map λ(n,k)=>if(k==NameKind.free&&env.scope.kind==.function&&env.kindOf n==some .cell) then(n,NameKind.cell) else(n,k)).lookup x=some .globalImplicit
 |[],_,h=>by simp at h
 |(n,k)::r,x,h=>by
  have ih:=@Q3 env r x;show List.lookup x ((if(k==NameKind.free&&env.scope.kind==.function&&env.kindOf n==some .cell)=true then(n,NameKind.cell) else(n,k))::_)=_;cases hx:x==n with
  |true =>
   simp only[List.lookup_cons,hx] at h;cases h;simp[List.lookup_cons,hx]
  |false =>
   simp only[List.lookup_cons,hx] at h;by_cases hc:(k==NameKind.free&&env.scope.kind==.function&&env.kindOf n==some .cell)=true
   ·rw[au hc];simp only[List.lookup_cons,hx];exact ih h
   ·rw[ax hc];simp only[List.lookup_cons,hx];exact ih h
section
variable{X:Cx}{c:d7}{P:fo}{Ξ:gL}
theorem gy.comp(C:gy X c P Ξ){sc:Scope}(h:c.Cw sc=true):∃cl,dZ X sc (frees sc++locals sc) (c.d4 sc) cl/\∀pins A s H fp,gy (d8 X pins sc (frees sc++locals sc) cl A s H fp) (c.inner sc) P (nE Ξ.1):=by
 unfold d7.Cw at h;simp only[Bool.and_eq_true,decide_eq_true_eq,List.all_eq_true] at h;obtain⟨⟨⟨⟨h1,h2⟩,h3⟩,h4⟩,h5⟩:=h;have jL:∀x,sc.names.lookup x=some .free->x∈frees sc:=λx hx=>by
  unfold frees;exact aS.mpr ⟨(x,.free),bS.mpr ⟨aJ hx,by simp⟩,rfl⟩
 have fr:∀x∈frees sc,(∃i,c.idx x=some i)/\sc.names.lookup x=some .free/\(c.nm.lookup x=some .cell\/c.nm.lookup x=some .free):=λx hx=>by
  have:=h5 x hx;rw[eL,cT] at this;simp only[decide_eq_true_eq] at this;exact⟨this.1.1,this.1.2,this.2⟩
 have rF:∀y∈sc.names,y.2=.free->∃a,X.env.cells.lookup y.1=some a:=λy hy hf=>by
  have hm:y.1∈frees sc:=aS.mpr ⟨y,bS.mpr ⟨hy,by simp[hf]⟩,rfl⟩;exact C.cells y.1 (fr y.1 hm).2.2
 obtain⟨cl,e,q1,q2,_⟩:=Cn sc.names [] rF (λx a h=>by simp at h);have h2:∀y∈sc.names,y.2=.cell->sc.names.lookup y.1=some .cell:=λy hy hl=>by
  have:=h2 y hy;rw[cT] at this;simp only[Bool.not_eq_true',decide_eq_false_iff_not,decide_eq_true_eq] at this;exact this.resolve_left λz=>z hl
 refine⟨cl,⟨h1,h2,λy hy hl=>?_,?_,q1,λx hx=>q2 (x,.free) (aJ hx) rfl,h4,λi j gX=>?_,?_⟩,λpins A s H fp=>?_⟩
 ·have:=h3 y hy;rw[cT] at this;simp only[Bool.not_eq_true',decide_eq_false_iff_not,decide_eq_true_eq] at this;exact this.resolve_left λz=>z hl
 ·simp only[closureFor];rw[e]
  rfl
 ·unfold d7.d4 at gX;rw[aE] at gX;cases ex:(frees sc)[i]? with
  |none=>rw[ex] at gX;cases gX
  |some x =>
   rw[ex] at gX;have hx:x∈frees sc:=aH ex;obtain⟨⟨k,hk⟩,hl,hc⟩:=fr x hx;have hj:k=j:=by
    have:=aO gX;dsimp only at this;rw[hk] at this;exact this
   subst hj;refine⟨x,?_,C.oZ hk,hl,?_⟩
   ·rw[aA (aq.mp ex).1];exact ex
   ·rcases hc with z|z
    ·exact .inl (C.wC x z)
    ·exact C.yd x z
 ·unfold d7.d4;rw[ak,aU];omega
 ·refine⟨rfl,h4,λx hx=>lookup_relabel_local hx,λx hx=>?_,λx hx=>C8 hx,λx hx=>Q3 hx,λx hx=>?_,λx _=>?_,rfl,C.units,(λ_=>PassesOwn.never),C.mono,C.con,C.blt,C.fns,C.cls,C.mq,C.mU,C.wq,YB,(λz=>by cases z),(λz=>by cases z),C.exc,C.ye,C.sX,(λz=>by cases z)⟩
  ·exact N1 hx
  ·rcases hx with hx|hx
   ·exact HN (.inl hx)
   ·exact HN (.inr (q2 (x,.free) (aJ hx) rfl))
  ·exact aC ‹_›
theorem gy.block{pins:List (Addr×Obj)}{sc:Scope}{N':List Str}{cl:List (Str×Addr)}{A:Addr}{s:Shared}{H:Hp}{fp:List Addr}(I:gy (d8 X pins sc N' cl A s H fp) (c.inner sc) P (nE Ξ.1)):gy ((d8 X pins sc N' cl A s H fp).Q1 (yF X Ξ.2 pins sc N' cl fp A s H)) (c.inner sc) P Ξ :=
 ⟨I.N,I.nd,I.loc,I.wC,I.yd,I.BC,I.cells,I.nC,I.calm,I.units,(λz=>by cases z),I.mono,I.con,I.blt,I.fns,I.cls,I.mq,I.mU,I.wq,λkF iP H1 s1 e s' J h=>⟨kF,iP,H1,s1,J.yO,h⟩,(λz=>by cases z),(λz=>by cases z),I.exc,I.ye,I.sX,(λz=>by cases z)⟩
theorem C4{x:Str}(h:T2 x=true):(x==("__debug__":Str))=false/\(x==("__classdict__":Str))=false/\x≠"__name__":=by
 unfold T2 at h;simp only[Bool.and_eq_true,decide_eq_true_eq,beq_iff_eq] at h;exact⟨h.1.1,h.1.2,h.2⟩
theorem a35{x:Str}{t:String}(h:DN.lookup x=some t):bootBuiltins x=some (.type t):=by
 have hm:=aJ h;simp only[DN,List.mem_cons,List.mem_nil_iff,or_false] at hm;rcases hm with z|z|z|z|z<;>(cases z;first|exact xw|exact PyProof.Rows.boot_bool|exact xu|exact si|exact eZ|decide +kernel|rfl)
theorem a24{x:Str}{p:Pr}(hc:X.calm=true)(h:DV.lookup x=some p):∃v,((∃id,v=.builtin id)\/∃T,v=.type T)/\bootBuiltins x=some v/\l9 X v (rN X.K p):=by
 have hm:=aJ h;simp only[DV,List.mem_cons,List.mem_nil_iff,or_false] at hm;rcases hm with z|z|z|z|z|z|z|z
 ·cases z;exact⟨.builtin "len",.inl ⟨_,rfl⟩,PySem.boot_len,Xw⟩
 ·cases z;exact⟨.type "list",.inr ⟨_,rfl⟩,by first|exact eZ|decide +kernel,QW hc⟩
 ·cases z;exact⟨.type "tuple",.inr ⟨_,rfl⟩,by first|exact si|decide +kernel,a37⟩
 ·cases z;exact⟨.builtin "isinstance",.inl ⟨_,rfl⟩,by first|exact PyProof.Rows.boot_isinstance|decide +kernel,QR⟩
 ·cases z;exact⟨.builtin "all",.inl ⟨_,rfl⟩,by first|exact PyProof.Rows.boot_all|decide +kernel,WX hc⟩
 ·cases z;exact⟨.type "int",.inr ⟨_,rfl⟩,by first|exact xw|decide +kernel,Xl⟩
 ·cases z;exact⟨.type "str",.inr ⟨_,rfl⟩,by first|exact xu|decide +kernel,PZ⟩
 ·cases z;exact⟨.type "dict",.inr ⟨_,rfl⟩,by first|exact PyProof.Rows.boot_dict|decide +kernel,SQ⟩
theorem Zy{x:Str}{p:Pr}(h:Y8.lookup x=some p):∃T id,PlainAttrs T/\Slot T x id/\typeOf (.builtin id)=pure (.type "method_descriptor")/\lF X id (rM X.K p) /\
  ∀{d:D} {v:V} {g:G} {ρ:List Addr} {H:Hp},Rl X.K ρ g H->d0 X.K ρ H d v->lQ p d g->nS X.K T v H:=by
 have hm:=aJ h;simp only[Y8,List.mem_cons,List.mem_nil_iff,or_false] at hm;rcases hm with z|z
 ·cases z;exact⟨_,_,gS,PySem.F.slot_list_clear,PySem.F.type_list_clear,SH,λR r h=>ty_list R r h⟩
 ·cases z;exact⟨_,_,gS,PySem.F.slot_list_pop,PySem.F.type_list_pop,RA,λR r h=>ty_list R r h⟩
theorem Yp{x:Str}{p:Pr}(hu:X.A.units+100<cLine)(h:Eb.lookup x=some p):∃T id,PlainAttrs T/\Slot T x id/\typeOf (.builtin id)=pure (.type "method_descriptor")/\lF X id (rM X.K p) /\
  ∀{d:D} {v:V} {g:G} {ρ:List Addr} {H:Hp},Rl X.K ρ g H->d0 X.K ρ H d v->lQ p d g->nS X.K T v H:=by
 have hm:=aJ h;simp only[Eb,List.mem_cons,List.mem_nil_iff,or_false] at hm;rcases hm with z|z
 ·cases z;exact⟨_,_,gS,PySem.F.slot_list_append,PySem.F.type_list_append,a26,λR r h=>ty_list R r h⟩
 ·cases z;exact⟨_,_,PySem.F.plainAttrs_str,PySem.F.slot_str_join,PySem.F.type_str_join,QU,λR r h=>ty_str R r h⟩
theorem KR{pos:Pos}{env:Env}:∀{es:List Expr},(∀e∈es,fO e=true)->(backTo pos (starEach es env)).all (λx=>!x.1)=true
 |[],_=>rfl
 |e::es,h=>by
  rw[j6 (h e (by simp))];have ih:=KR (pos:=pos) (env:=env) (es:=es) λx hx=>h x (by simp[hx]);unfold backTo at ih ⊢;rw[ba,jt,ih]
  rfl
theorem S5{pos:Pos}{env:Env}:∀{es:List Expr},(∀e∈es,fO e=true)->(backTo pos (starEach es env)).any (·.1)=false
 |[],_=>rfl
 |e::es,h=>by
  rw[j6 (h e (by simp))];have ih:=S5 (pos:=pos) (env:=env) (es:=es) λx hx=>h x (by simp[hx]);unfold backTo at ih ⊢;rw[ba,dI,ih]
  rfl
theorem CC{r:CF}:∀{es:List Expr} {m:ME},E6 r c es=some m->∀e∈es,fO e=true:=by
 intro es
 induction es with
 |nil=>intro m _ e he;exact absurd he (by simp)
 |cons a es ih =>
  intro m h e he;unfold E6 at h;split at h
  ·obtain⟨m1,h1,h⟩:=ag.mp h;obtain⟨m2,h2,_⟩:=ae.mp h;rcases aI.mp he with z|z
   ·rw[z];assumption
   ·exact ih h2 e z
  ·cases h
end
theorem Zh{a:Expr}{x:Str}(h:KY a=some x):∃j p,a=.Constant (.str x) j p:=by
 cases a with
 |Constant k j p=>cases k with
  |str y=>cases h;exact⟨_,_,rfl⟩
  |_=>cases h
 |_=>cases h
theorem SA{a e:Expr}(h:Hu a=some e):∃p,a=.FormattedValue e (-1) none p:=by
 cases a with
 |FormattedValue v k f p=>cases f with
  |none =>
   have h2:(if k=-1 then some v else none)=some e:=h;split at h2
   ·rename_i hk;cases h2;rw[hk];exact⟨_,rfl⟩
   ·cases h2
  |some _=>cases h
 |_=>cases h
structure qa(P:fo)(r:CF):Prop where
 e:∀X c Ξ,gy X c P Ξ->∀e m,r.e c e=some m->PE X e (LE X.K Ξ (aX P m))
 t:∀X c Ξ,gy X c P Ξ->∀e m,r.t c e=some m->PT X e (LT X.K Ξ (dD P m))
 s:∀X c Ξ,gy X c P Ξ->∀st m,r.s c st=some m->PS X st (LS X.K Ξ (wpS P m))
section
variable{X:Cx}{c:d7}{P:fo}{Ξ:gL}{r:CF}(S:qa P r)(C:gy X c P Ξ){a b d e:Expr}{m:ME}{pos:Pos}
include S C
theorem U3{p:Pr}(h:c1 r c p a=some m):∃ma,PE X a (LE X.K Ξ (aX P ma))/\m=.prim p (.cons ma .nil):=by
 obtain⟨ma,ha,rfl⟩:=ae.mp h;exact⟨ma,S.e X c Ξ C _ _ ha,rfl⟩
theorem Z3{p:Pr}(h:c2 r c p a b=some m):∃ma mb,PE X a (LE X.K Ξ (aX P ma))/\PE X b (LE X.K Ξ (aX P mb))/\m=.prim p (.cons ma (.cons mb .nil)):=by
 obtain⟨ma,ha,h⟩:=ag.mp h;obtain⟨mb,hb,rfl⟩:=ae.mp h;exact⟨ma,mb,S.e X c Ξ C _ _ ha,S.e X c Ξ C _ _ hb,rfl⟩
theorem sx:∀{es:List Expr} {m:ME},E6 r c es=some m->PA X es (LA X.K Ξ (fe P m)):=by
 intro es
 induction es with
 |nil=>intro m h;cases h;exact P1 C.mono
 |cons a es ih =>
  intro m h;unfold E6 at h;split at h
  ·rename_i bG;obtain⟨m1,h1,h⟩:=ag.mp h;obtain⟨m2,h2,rfl⟩:=ae.mp h;exact C0 C.mono (S.e X c Ξ C _ _ h1) (ih h2) (j6 bG)
  ·cases h
theorem Ml:∀{es:List Expr} {m:ME},tO r c es=some m->∃ts,lT X Ξ P es m ts:=by
 intro es
 induction es with
 |nil=>intro m h;cases h;exact⟨_,.nil⟩
 |cons a es ih =>
  intro m h;unfold tO at h;rcases orElse_some h with h1|h1
  ·obtain⟨x,hx,h2⟩:=ag.mp h1;obtain⟨j,p,rfl⟩:=Zh hx;split at h2
   ·obtain⟨m2,h3,rfl⟩:=ae.mp h2;obtain⟨ts,F⟩:=ih h3;exact⟨_,.lit (by assumption) F⟩
   ·cases h2
  ·obtain⟨x,hx,h2⟩:=ag.mp h1;obtain⟨m1,h3,h4⟩:=ag.mp h2;obtain⟨m2,h5,rfl⟩:=ae.mp h4;obtain⟨p,rfl⟩:=SA hx;obtain⟨ts,F⟩:=ih h5;exact⟨_,.val (S.e X c Ξ C _ _ h3) F⟩
theorem Mn:∀{ks:List (Option Expr)} {vs:List Expr} {m:ME},wI r c ks vs=some m->∃hW,lU X Ξ P ks vs m hW:=by
 intro ks
 induction ks with
 |nil=>intro vs m h;cases vs<;>first|(cases h;exact⟨_,.nil⟩)|cases h
 |cons k ks ih =>
  intro vs m h;cases k<;>first|(cases h;done)|skip
  cases vs<;>first|(cases h;done)|skip
  unfold wI at h;obtain⟨m1,h1,h⟩:=ag.mp h;obtain⟨m2,h2,h⟩:=ag.mp h;obtain⟨m3,h3,rfl⟩:=ae.mp h;obtain⟨hW,D⟩:=ih h3;exact⟨_,.cons (S.e X c Ξ C _ _ h1) (S.e X c Ξ C _ _ h2) D⟩
theorem Mo{op:BoolOp}:∀{vs:List Expr} {m:ME},yk r c op vs=some m->PE X (.BoolOp op vs pos) (LE X.K Ξ (aX P m)):=by
 intro vs
 induction vs with
 |nil=>intro m h;cases h
 |cons a vs ih =>
  intro m h;cases vs with
  |nil=>exact ON (S.e X c Ξ C _ _ h)
  |cons b vs =>
   unfold yk at h;obtain⟨m1,h1,h⟩:=ag.mp h;obtain⟨m2,h2,rfl⟩:=ae.mp h;cases op
   ·exact Pj C.mono (S.e X c Ξ C _ _ h1) (ih h2)
   ·exact Ws C.mono (S.e X c Ξ C _ _ h1) (ih h2)
theorem Mh{op:BoolOp}:∀{vs:List Expr} {m:ME},ym r c op vs=some m->PW X (.BoolOp op vs pos) (LT X.K Ξ (dD P m)):=by
 intro vs
 induction vs with
 |nil=>intro m h;cases h
 |cons a vs ih =>
  intro m h;cases vs with
  |nil =>
   cases op
   ·exact RK (S.t X c Ξ C _ _ h)
   ·exact Pb (S.t X c Ξ C _ _ h)
  |cons b vs =>
   unfold ym at h;obtain⟨m1,h1,h⟩:=ag.mp h;obtain⟨m2,h2,rfl⟩:=ae.mp h;cases op
   ·exact Qa C.mono (S.t X c Ξ C _ _ h1) (ih h2)
   ·exact Ww C.mono (S.t X c Ξ C _ _ h1) (ih h2)
theorem TU{es:List Expr}(h:KZ r c es=some m):lS X es (LT X.K Ξ (dD P m)):=by
 rcases es with _|⟨e,_|⟨_,_⟩⟩
 ·cases h;exact Si C.mono
 ·exact RJ (S.t X c Ξ C _ _ h)
 ·cases h
theorem xg:∀{EK:List Stmt} {m:MS},v9 r c EK=some m->jb X EK (LS X.K Ξ (wpS P m)):=by
 intro es
 induction es with
 |nil=>intro m h;cases h;exact Jn C.mono
 |cons a es ih =>
  intro m h;unfold v9 at h;obtain⟨m1,h1,h⟩:=ag.mp h;obtain⟨m2,h2,rfl⟩:=ae.mp h;exact Kh C.mono (S.s X c Ξ C _ _ h1) (ih h2)
end
theorem IG{e t:Expr}{n:Nat}{env:Env}(h:t7 e=true):swapsWithSole [t] e n env=pure false:=by
 show swapsWith e (some t) n env=pure false;exact U7 h
theorem ZC{x y:Str}{px py pt pB:Pos}{kt k2:Nat}{a b:Expr}{env:Env}(hk:env.scope.kind=.function)(hx:env.kindOf x=some .local)(hy:env.kindOf y=some .local)(dW:x≠y)(hl:py.line=px.line)(ha:fO a=true)(hb:fO b=true)(h1:[a,b].all (foldedForSure 8)=false)(h2:[a,b].all (constantsAlone 8)=false):swappedStores [.Tuple [.Name x px,.Name y py] kt pt] (.Tuple [a,b] k2 pB) env=pure (some [x,y]):=by
 have Nm:env.blockKind=.function:=by simp[Env.blockKind,hk,ScopeKind.isAnnotationScope]
 have hd:[x,y].eraseDups.length=2:=by
  have:(y==x)=false:=by simpa using aL dW
  simp[List.eraseDups_cons,this]
 have uZ:(env.kindOf x==some NameKind.local&&px.line==px.line)=true:=by simp[hx]
 have uY:(env.kindOf y==some NameKind.local&&py.line==px.line)=true:=by simp[hy,hl]
 have hp:Expr.pos (.Name x px)=px:=rfl;unfold swappedStores;simp only[List.length_cons,List.length_nil,Nm,List.head?_cons,Option.map_some,Option.getD_some,hp,List.filterMap_cons,List.filterMap_nil,uZ,uY,if_true,hd,h1,h2];rw[ax (by decide),ax ?_]
 ·rfl
 ·simp only[List.any_cons,List.any_nil,Bool.or_false,Bool.or_eq_true,not_or];constructor
  ·cases a<;>first|(intro h;cases h;done)|cases ha
  ·cases b<;>first|(intro h;cases h;done)|cases hb
theorem Qc{X:Cx}{Ξ:gL}{P:fo}(hP:i6 P){i j:Nat}{x y:Str}{a b:Expr}{px py pt pB pos:Pos}{kt k2:Nat}{fU:ME}(hc:X.calm=true)(hN:X.N.Nodup)(hi:X.N[i]?=some x)(hj:X.N[j]?=some y)(dW:x≠y)(hl:py.line=px.line)(hx:X.env.scope.names.lookup x=some .local)(hy:X.env.scope.names.lookup y=some .local)(oa:fO a=true)(ob:fO b=true)(h1:[a,b].all (foldedForSure 8)=false)(h2:[a,b].all (constantsAlone 8)=false)(ha:PA X [a,b] (LA X.K Ξ (fe P fU))):PS X (.Assign [.Tuple [.Name x px,.Name y py] kt pt] (.Tuple [a,b] k2 pB) pos) (LS X.K Ξ (wpS P (.nR (.many [i,j]) (.prim .tup fU)))):=by
 intro pins s bE H D I h;have gX:i≠j:=by
  rintro rfl;rw[hi] at hj;cases hj;exact dW rfl
 refine OW hc hN hi hj gX hx hy ha (ZC I.ok.kind hx hy dW hl oa ob h1 h2) rfl pins s bE H D I ?_;obtain⟨σ,g,ρ,sr,R,h⟩:=h;refine jv hP sr R (.refl _ _) (show fe P fU σ g (λxs g1=>cu .tup xs g1 _) _ from h) λds g1 bH H1 vs e1 R1 r1 h=>?_;obtain⟨d',g',⟨_,rfl,rfl⟩,l,cj,ex,hs,h⟩:=h;cases ex;have hl:=Ds hs;have e2:∃d1 d2,ds=[d1,d2]:=by
  rcases ds with _|⟨d1,_|⟨d2,_|⟨d3,r⟩⟩⟩<;>first|exact⟨_,_,rfl⟩|(simp at hl;done)|(simp at hl;omega)
 obtain⟨d1,d2,rfl⟩:=e2;obtain⟨v,w,rfl,q1,q2⟩:=r1.two;cases hs;exact⟨_,_,rfl,h bH H1 _ e1 R1 (((sr.ext e1).set i q1).set j q2)⟩
theorem gy.S3{X:Cx}{c:d7}{Ξ:gL}{P:fo}(C:gy X c P Ξ)(eJ:X.stack=X.env::X.outer)(hf:X.env.frame=some X.env.locals)(pins:List (Addr×Obj))(D:L2.Ends)(hs:List ExceptHandler) :
  gy (U5 X pins (tV X pins D hs)) { c with ji:=false,iq:=false } P (zy X Ξ.1 D hs) :=
 ⟨C.N,C.nd,C.loc,C.wC,C.yd,C.BC,C.cells,C.nC,C.calm,C.units,(λ_=>PassesOwn.looking),C.mono,C.con,C.blt,C.fns,C.cls,C.mq,C.mU,C.wq,a74 eJ hf λC H' ⟨C',e,z⟩=>(by cases e;exact z),(λz=>by cases z),(λz=>by cases z),C.exc,C.ye,C.sX,C.code⟩
end M

namespace M
open PySem L2 PySem.Spec PyProof.Rows
theorem Pt{X:Cx}{Ξ:gL}{P:fo}(hP:i6 P){a d:Expr}{ma:ME}{pos p2:Pos}(ha:PE X a (LE X.K Ξ (aX P ma)))(hd:PE X d (LE X.K Ξ (aX P (.prim (.un .USub) (.cons (.lit (.int 1)) .nil))))):PE X (.Subscript a (.Slice none none (some d) p2) pos) (LE X.K Ξ (aX P (.prim .rev (.cons ma .nil)))) :=
 (OO ha hd).imp λbE H Q bh=>by
  obtain⟨σ,g,ρ,s,R,h⟩:=bh;refine eX hP s R (.refl _ _) h λx g1 bH H1 v1 e1 R1 r1 h=>?_;obtain⟨d',g',hr,q⟩:=h;rcases hr with⟨l,ex,rfl,rfl⟩|⟨a,l,ex,hl,rfl,rfl⟩
  ·cases ex;obtain⟨a',vs,rfl,ht,rs⟩:=r1.w9;refine⟨σ,g',bH,s.ext e1,R1,?_⟩;refine⟨_,_,⟨rfl,1,rfl,rfl,rfl⟩,λeW H2 v2 e2 R2 r2=>?_⟩;refine⟨r2.i0,_,_,rfl,.inl ⟨(ht.ext e2).sq,λp hp=>?_⟩⟩;exact(q.ext (e1.trans e2)).tup R2 hp (rs.ext e2).reverse
  ·cases ex;obtain⟨a',rfl,ha⟩:=r1.i9;refine⟨σ,_,bH,s.ext e1,R1,?_⟩;refine⟨_,_,⟨rfl,1,rfl,rfl,rfl⟩,λeW H2 v2 e2 R2 r2=>?_⟩;obtain⟨vs,hq,rs⟩:=R2.items hl (e2.get ha);refine⟨r2.i0,_,_,rfl,.inr ⟨hq,λp hp=>?_⟩⟩;exact(q.ext (e1.trans e2)).new R2 hp rs.reverse
theorem Ib{o:Expr}{m:Str}{apos pos:Pos}{args:List Expr}{env:Env}(hb:wY o=true)(hl:(apos.endLine==pos.line)=true)(hf:methodCallForm args.length (backTo pos (starEach args env)) (backToKw pos (keywordEach [] env))=true) :
  eval (.Call (.Attribute o m apos) args [] pos) env=(do
   let ov <- eval o env
   standAt apos.atName
   let (f,first) <- holding [ov] (getMethod ov m (do return (<- importBound o env).getD true))
   callWith pos f first (backTo pos (starEach args env)) (backToKw pos (keywordEach [] env))):=by
 have h1:eval (.Call (.Attribute o m apos) args [] pos) env=(do
   let ov <- attributeBase o m env (eval o env)
   standAt apos.atName
   methodCall o m apos pos env ov (args.length + 0) (backTo pos (starEach args env)) (backToKw pos (keywordEach [] env))):=rfl
 rw[h1,K0 hb];have h2:∀ ov,methodCall o m apos pos env ov (args.length + 0) (backTo pos (starEach args env)) (backToKw pos (keywordEach [] env))=(do
   let (f,first) <- holding [ov] (getMethod ov m (do return (<- importBound o env).getD true))
   callWith pos f first (backTo pos (starEach args env)) (backToKw pos (keywordEach [] env))):=λov=>by
  unfold methodCall calleeOf methodCallPos;rw[Nat.add_zero,hf,hl];simp only[if_true,Bool.not_true,Bool.false_or,pure_bind]
 simp only[h2]
section
variable{X:Cx}{c:d7}{P:fo}{Ξ:gL}{r:CF}(S:qa P r)(C:gy X c P Ξ){a b d e:Expr}{m:ME}{pos:Pos}
include C
theorem XC{x:Str}(h:DQ c x=some m):PE X (.Name x pos) (LE X.K Ξ (aX P m)):=by
 unfold DQ at h;split at h
 ·rename_i iC;obtain⟨d1,d2,d3⟩:=C4 iC;split at h
  ·rename_i hv;obtain⟨i,hi,rfl⟩:=ae.mp h;exact Px (C.oZ hi) (C.DO hv) d1 d2
  ·split at h
   ·rename_i hg;rcases orElse_some h with h|h
    ·obtain⟨d,hd,rfl⟩:=ae.mp h;obtain⟨v,u,hm,r,rr⟩:=C.con x d hd;exact S8 (za (C.y9 hg) hm r d1) rr
    ·split at h
     ·rename_i hb;obtain⟨t,ht,rfl⟩:=ae.mp h;exact S8 (v:=.ty t) (Ru (C.y9 hg) (C.blt x hb) (a35 ht) rfl d3 d1) λ_ _=>.ty t
     ·cases h
   ·cases h
 ·cases h
omit C in
theorem xH{k:Const}{j:Nat}{d:D}(h:rX k=some d):PE X (.Constant k j pos) (LE X.K Ξ (aX P (.lit d))):=by
 cases k<;>first|(cases h;done)|skip
 ·cases h;exact S8 OL λ_ _=>.aQ
 ·cases h;exact S8 Wb λ_ _=>.bl _
 ·cases h;exact S8 OJ λ_ _=>.int _
 ·cases h;exact S8 Jg λ_ _=>.str _
include S
theorem TX{op:UnaryOp}(h:zG r c op a=some m):PE X (.UnaryOp op a pos) (LE X.K Ξ (aX P m)):=by
 unfold zG at h;split at h
 ·rename_i ho;subst ho;obtain⟨ma,ha,rfl⟩:=ae.mp h;exact Pq C.mono (S.e X c Ξ C _ _ ha)
 ·obtain⟨ma,ha,rfl⟩:=U3 S C h;exact Hc C.mono ha
theorem GW{ops:List CmpOp}{bs:List Expr}(h:wF r c a ops bs=some m):PE X (.Compare a ops bs pos) (LE X.K Ξ (aX P m))/\PT X (.Compare a ops bs pos) (LT X.K Ξ (dD P (.eQ m))):=by
 unfold wF at h;split at h
 ·rename_i op b;split at h
  ·cases h
  ·rename_i hm;have hm:behindInMarks op b=false:=by simpa using hm
   rcases orElse_some h with h|h
   ·obtain⟨neg,hn,h⟩:=ag.mp h;obtain⟨kvs,hk,h⟩:=ag.mp h;obtain⟨ma,ha,rfl⟩:=ae.mp h;obtain⟨x,p,rfl,hg,hd,hk⟩:=Ku hk;have ho:op=if neg then .NotIn else .In:=by cases op<;>cases hn<;>rfl
    subst ho;exact⟨Po C.mono (C.y9 hg) (C4 hd).1 (C.sX x kvs hk) (S.e X c Ξ C _ _ ha) hm,PQ C.mono (C.y9 hg) (C4 hd).1 (C.sX x kvs hk) (S.e X c Ξ C _ _ ha) hm⟩
   ·obtain⟨ma,mb,ha,hb,rfl⟩:=Z3 S C h;exact⟨Eg C.mono (JR (Y5 C.units op) ha hb hm),PV C.mono (JV (Y5 C.units op) ha hb hm)⟩
 ·split at h
  ·cases h
  ·rename_i hm;obtain⟨ma,ha,h⟩:=ag.mp h;obtain⟨mb,hb,h⟩:=ag.mp h;obtain⟨md,hd,rfl⟩:=ae.mp h;exact⟨a55 C.mono C.units (S.e X c Ξ C _ _ ha) (S.e X c Ξ C _ _ hb) (S.e X c Ξ C _ _ hd) (by simpa using hm),a42 C.mono C.units (S.e X c Ξ C _ _ ha) (S.e X c Ξ C _ _ hb) (S.e X c Ξ C _ _ hd) (by simpa using hm)⟩
 ·cases h
omit S C in
theorem Zi{d:Expr}(h:DT d=true):∃j p q,d=.UnaryOp .USub (.Constant (.int 1) j p) q:=by
 cases d with
 |UnaryOp op a q=>cases op with
  |USub=>cases a with
   |Constant k j p=>cases k with
    |int i=>rw[show i=1 from bC h];exact⟨_,_,_,rfl⟩
    |_=>cases h
   |_=>cases h
  |_=>cases h
 |_=>cases h
theorem TK{lo hi st:Option Expr}{p2:Pos}(h:ED r c a lo hi st=some m):PE X (.Subscript a (.Slice lo hi st p2) pos) (LE X.K Ξ (aX P m)):=by
 cases lo<;>cases hi<;>cases st<;>first|(cases h;done)|skip
 ·obtain⟨ma,ha,rfl⟩:=U3 S C h;exact a48 C.mono ha
 ·rename_i d;have h2:(if DT d=true then c1 r c .rev a else none)=some m:=h;split at h2
  ·rename_i hn;obtain⟨j,p,q,rfl⟩:=Zi hn;obtain⟨ma,ha,rfl⟩:=U3 S C h2;exact Pt C.mono ha (Hc C.mono (xH (k:=.int 1) rfl))
  ·cases h2
 ·obtain⟨ma,mb,ha,hb,rfl⟩:=Z3 S C h;exact a47 C.mono ha hb
 ·obtain⟨ma,mb,ha,hb,rfl⟩:=Z3 S C h;exact a46 C.mono ha hb
theorem VR(h:En r c a b=some m):PE X (.Subscript a b pos) (LE X.K Ξ (aX P m)):=by
 unfold En at h;rcases orElse_some h with h|h
 ·obtain⟨q,hq,h⟩:=ag.mp h;have eb:∃p,b=.Slice q.1 q.2.1 q.2.2 p:=by cases b<;>first|(cases hq;exact⟨_,rfl⟩)|cases hq
  obtain⟨p,rfl⟩:=eb;exact TK S C h
 ·split at h
  ·rename_i hb;rcases orElse_some h with h|h
   ·obtain⟨kvs,hk,h⟩:=ag.mp h;obtain⟨mb,kK,rfl⟩:=ae.mp h;obtain⟨x,p,rfl,hg,hd,hk⟩:=Ku hk;exact RU C.mono (C.y9 hg) (C4 hd).1 (C.sX x kvs hk) (S.e X c Ξ C _ _ kK) (Je hb)
   ·obtain⟨ma,mb,ha,kK,rfl⟩:=Z3 S C h;exact Eg C.mono (GX (VI C.units) ha kK (Je hb))
  ·cases h
theorem TN{x:Str}{px:Pos}(hg:c.gl x=true)(h:zI r c x e=some m):PE X (.Call (.Name x px) [e] [] pos) (LE X.K Ξ (aX P m)):=by
 unfold zI at h;obtain⟨q,hq,h'⟩:=ag.mp h;clear h;have h:=h';clear h';obtain⟨p,pos',rfl⟩:=F0 hq;obtain⟨y,as⟩:=q;dsimp only at h ⊢;split at h
 ·rename_i hc;simp only[Bool.and_eq_true,decide_eq_true_eq] at hc;obtain⟨⟨⟨⟨rfl,rfl⟩,hl⟩,hr⟩,sP⟩:=hc;rcases as with _|⟨a,_|⟨b,_|⟨_,_⟩⟩⟩
  ·cases h
  ·dsimp only at h;split at h
   ·rename_i ho;obtain⟨ma,ha,rfl⟩:=U3 S C h;exact a53 C.mono C.calm ha (C.y9 hg) (C.blt _ hl) (C.y9 sP) (C.blt _ hr) (j6 ho)
   ·cases h
  ·dsimp only at h;split at h
   ·rename_i ho;rw[bg] at ho;obtain⟨ma,mb,ha,hb,rfl⟩:=Z3 S C h;exact a52 C.mono C.calm ha hb (C.y9 hg) (C.blt _ hl) (C.y9 sP) (C.blt _ hr) (by rw[j6 ho.1,j6 ho.2];rfl) (j6 ho.2)
   ·cases h
  ·cases h
 ·split at h
  ·rename_i hc;simp only[Bool.and_eq_true,decide_eq_true_eq] at hc;obtain⟨⟨⟨⟨rfl,rfl⟩,hl⟩,hr⟩,sP⟩:=hc;rcases as with _|⟨a,_|⟨_,_⟩⟩
   ·cases h
   ·dsimp only at h;split at h
    ·rename_i ho;obtain⟨ma,ha,rfl⟩:=U3 S C h;exact RZ C.mono C.calm ha (C.y9 hg) (C.blt _ hl) (C.y9 sP) (C.blt _ hr) (j6 ho)
    ·cases h
   ·cases h
  ·split at h
   ·rename_i hc;simp only[Bool.and_eq_true,decide_eq_true_eq] at hc;obtain⟨⟨⟨⟨rfl,rfl⟩,hl⟩,hr⟩,sP⟩:=hc;rcases as with _|⟨a,_|⟨_,_⟩⟩
    ·cases h
    ·dsimp only at h;split at h
     ·rename_i ho;obtain⟨ma,ha,rfl⟩:=U3 S C h;exact RV C.mono C.calm ha (C.y9 hg) (C.blt _ hl) (C.y9 sP) (C.blt _ hr) (j6 ho)
     ·cases h
    ·cases h
   ·cases h
theorem Rf{x:Str}{px:Pos}{args:List Expr}(h:Jw r c x args=some m):PE X (.Call (.Name x px) args [] pos) (LE X.K Ξ (aX P m)):=by
 cases args with
 |nil =>
  have h2:Cb c x=some m:=h;unfold Cb at h2;split at h2
  ·rename_i iC;rw[bg] at iC;obtain⟨f,hf,rfl⟩:=ae.mp h2;obtain⟨k,C',fa,fd,ps,F,hr,hm,hC,ja,M⟩:=C.cls x f hf;exact a51 C.mono C.pass F M hC ja hr (C.y9 iC.2) hm (C4 iC.1).1
  ·cases h2
 |cons e es =>
  have h0:Cd r c x e es=some m:=h;clear h;have h:=h0;clear h0;unfold Cd at h;split at h
  ·rename_i iC;rw[bg] at iC;obtain⟨d1,d2,d3⟩:=C4 iC.1;rcases orElse_some h with h|h
   ·cases es with
    |nil=>exact TN S C iC.2 h
    |cons _ _=>cases h
   ·obtain⟨ms,kc,h⟩:=ag.mp h;have ok:=CC kc;have pa:=sx S C kc;have eJ:=j6 (env:=X.env) (es:=es) (ok e (by simp));have gu:=S5 (pos:=pos) (env:=X.env) (es:=es) λz hz=>ok z (by simp[hz]);rcases orElse_some h with h|h
    ·obtain⟨f,hf,rfl⟩:=ae.mp h;obtain⟨k,fa,fd,ps,F,hr,hm,hk⟩:=C.fns x f hf;exact RQ C.mono C.pass F hr (C.y9 iC.2) hm hk pa d1 eJ gu
    ·rcases orElse_some h with h|h
     ·obtain⟨f,hf,rfl⟩:=ae.mp h;obtain⟨k,C',fa,fd,ps,F,hr,hm,hC,ja,M⟩:=C.cls x f hf;exact RW C.mono C.pass F M hC ja hr (C.y9 iC.2) hm pa d1 eJ gu
     ·split at h
      ·rename_i hb;obtain⟨p,hp,rfl⟩:=ae.mp h;obtain⟨v,hv,AV,hc⟩:=a24 (X:=X) C.calm hp;exact Pk C.mono hv hc (C.y9 iC.2) (C.blt x hb) AV pa d3 d1 eJ gu
      ·cases h
  ·cases h
omit S in
theorem Kz{m:Str}:Cf X P Ξ.1 m (c.meths m):=λy f C' h hC=>by
 have hm:=aJ h;unfold d7.meths at hm;obtain⟨⟨m',y',f'⟩,h1,h2⟩:=aS.mp hm;obtain⟨h3,h4⟩:=bS.mp h1;cases h2;have:m'=m:=by simpa using h4
 subst this;exact C.mq m' y f C' h3 hC
theorem Rc{o:Expr}{mt:Str}{apos:Pos}{args:List Expr}(h:Ce r c o mt apos pos args=some m):PE X (.Call (.Attribute o mt apos) args [] pos) (LE X.K Ξ (aX P m)):=by
 unfold Ce at h;split at h
 ·rename_i hc;simp only[Bool.and_eq_true,decide_eq_true_eq] at hc;obtain⟨⟨hb,hl⟩,hn⟩:=hc;obtain⟨mo,ho,h⟩:=ag.mp h;obtain⟨ms,kc,h⟩:=ag.mp h;have ok:=CC kc;have pa:=sx S C kc;have po:=S.e X c Ξ C _ _ ho;have hf:methodCallForm args.length (backTo pos (starEach args X.env)) (backToKw pos (keywordEach [] X.env))=true:=by
   unfold methodCallForm;rw[KR ok];have:args.length+0<30:=by omega
   show(true&&true&&decide (args.length+0<30))=true;rw[aC this]
   rfl
  by_cases vz:mt="index"
  ·subst vz;rw[au rfl] at h;cases args with
   |nil=>cases h
   |cons e es =>
    cases h;exact a54 C.mono po pa (K0 hb) hf hl (j6 (env:=X.env) (es:=es) (ok e (by simp))) (S5 (pos:=pos) (env:=X.env) (es:=es) λz hz=>ok z (by simp[hz]))
  rw[ax vz] at h;cases args with
  |nil =>
   cases kc;by_cases h0:(Y8.lookup mt).isSome=true
   ·rw[au (by rw[h0];rfl)] at h;obtain⟨p,hp,rfl⟩:=ae.mp h;obtain⟨T,id,zX,sl,ty,Aa,hk⟩:=Zy (X:=X) hp;exact a50 C.mono zX sl ty Aa hk po (K0 hb) hl
   rw[ax (by rw[bg];exact λz=>h0 z.2)] at h;split at h
   ·cases h
   ·cases h;exact YV C.mono C.pass (Kz C) po (Ib hb hl hf)
  |cons e es =>
   have eJ:=j6 (env:=X.env) (es:=es) (ok e (by simp));have gu:=S5 (pos:=pos) (env:=X.env) (es:=es) λz hz=>ok z (by simp[hz]);rw[ax (by simp)] at h;split at h
   ·rename_i p hp;cases h;obtain⟨T,id,zX,sl,ty,Aa,hk⟩:=Yp (X:=X) C.units hp;exact RY C.mono zX sl ty Aa hk po pa (K0 hb) hf hl eJ gu
   ·cases h;exact a49 C.mono C.pass (Kz C) po pa eJ gu (Ib hb hl hf)
 ·cases h
theorem Fd{tg:Expr}(h:wK r c tg e=some m):PI X tg e (LI X.K Ξ (iZ P m)):=by
 unfold wK at h;rcases orElse_some h with h|h
 ·obtain⟨q,hq,h'⟩:=ag.mp h;rename_i h0;clear h h0;have h:=h';clear h';obtain⟨p,pos',rfl⟩:=F0 hq;obtain⟨y,as⟩:=q;dsimp only at h ⊢
  ·split at h
   ·rename_i hy;subst hy;rcases as with _|⟨a,_|⟨b,_|⟨_,_⟩⟩⟩
    ·cases h
    ·dsimp only at h;split at h
     ·rename_i hc;simp only[Bool.and_eq_true] at hc;obtain⟨⟨hg,hb⟩,ho⟩:=hc;obtain⟨ma,ha,rfl⟩:=ae.mp h;exact Se C.mono (S.e X c Ξ C _ _ ha) (C.y9 hg) (C.blt _ hb) (j6 ho)
     ·cases h
    ·dsimp only at h;split at h
     ·rename_i hc;simp only[Bool.and_eq_true] at hc;obtain⟨⟨⟨hg,hb⟩,ho⟩,ku⟩:=hc;obtain⟨ma,ha,h⟩:=ag.mp h;obtain⟨mb,kK,rfl⟩:=ae.mp h;exact Sf C.mono (S.e X c Ξ C _ _ ha) (S.e X c Ξ C _ _ kK) (C.y9 hg) (C.blt _ hb) (by rw[j6 ho,j6 ku];rfl) (j6 ku)
     ·cases h
    ·cases h
   ·cases h
 ·split at h
  ·obtain⟨ma,ha,rfl⟩:=ae.mp h;exact PD C.mono (S.e X c Ξ C _ _ ha)
  ·cases h
theorem Cv{elt:Expr}{gens:List Comprehension}{sc:Scope}(h:tW r c elt gens sc=some m):∃tg it ifs t mi mc me cl,gens=[⟨tg,it,ifs,0⟩]/\m=.comp (c.d4 sc) (frees sc++locals sc).length t mi mc me/\fO it=true /\
  dZ X sc (frees sc++locals sc) (c.d4 sc) cl/\PI X tg it (LI X.K Ξ (iZ P mi))/\(∀pins A s H fp,PG (d8 X pins sc (frees sc++locals sc) cl A s H fp) tg (LG X.K t)) /\
   (∀pins A s H fp,lS (d8 X pins sc (frees sc++locals sc) cl A s H fp) ifs (LT X.K (nE Ξ.1) (dD P mc)))/\(∀pins A s H fp,PE (d8 X pins sc (frees sc++locals sc) cl A s H fp) elt (LE X.K (nE Ξ.1) (aX P me)))/\∀pins A s H fp,PE ((d8 X pins sc (frees sc++locals sc) cl A s H fp).Q1 (yF X Ξ.2 pins sc (frees sc++locals sc) cl fp A s H)) elt (LE X.K Ξ (aX P me)):=by
 unfold tW at h;rcases gens with _|⟨⟨tg,it,ifs,Fl⟩,_|⟨_,_⟩⟩
 ·cases h
 ·dsimp only at h;split at h
  ·rename_i hs;simp only[Bool.and_eq_true,decide_eq_true_eq] at hs;obtain⟨⟨hs,rfl⟩,hit⟩:=hs;obtain⟨t,h1,h⟩:=ag.mp h;obtain⟨mi,h2,h⟩:=ag.mp h;obtain⟨mc,h3,h⟩:=ag.mp h;obtain⟨me,h4,rfl⟩:=ae.mp h;obtain⟨cl,Sc,I⟩:=C.comp hs;exact⟨tg,it,ifs,t,mi,mc,me,cl,rfl,rfl,hit,Sc,Fd S C h2,λpins A s H fp=>(I pins A s H fp).Gp h1,λpins A s H fp=>TU S (I pins A s H fp) h3,λpins A s H fp=>S.e _ _ _ (I pins A s H fp) elt me h4,λpins A s H fp=>S.e _ _ _ (I pins A s H fp).block elt me h4⟩
  ·cases h
 ·cases h
omit S in
theorem TJ{f:Expr}{args:List Expr}{iX:List Keyword}(h:xB c f args iX=some m):PE X (.Call f args iX pos) (LE X.K Ξ (aX P m)):=by
 unfold xB at h;rcases args with _|⟨a,_|⟨_,_⟩⟩
 ·cases h
 ·dsimp only at h;split at h
  ·rename_i hk;simp only[Bool.and_eq_true,decide_eq_true_eq] at hk;obtain⟨⟨⟨⟨⟨hk,hf⟩,mG⟩,hb⟩,Na⟩,Nl⟩:=hk;cases iX<;>first|(cases hk;done)|skip
   obtain⟨q,hq,h⟩:=ag.mp h;obtain⟨u,hu,h⟩:=ag.mp h;obtain⟨v,hv,h⟩:=ag.mp h;split at h
   ·rename_i hs;simp only[Bool.and_eq_true,decide_eq_true_eq] at hs;obtain⟨x,hx,h⟩:=ag.mp h;obtain⟨y,hy,h⟩:=ag.mp h;split at h
    ·rename_i hw;simp only[Bool.and_eq_true] at hw;obtain⟨⟨⟨nx,ny⟩,vx⟩,vy⟩:=hw;obtain⟨i,hi,h⟩:=ag.mp h;obtain⟨j,hj,rfl⟩:=ae.mp h;obtain⟨x1,x2,_⟩:=C4 nx;obtain⟨y1,y2,_⟩:=C4 ny;cases f<;>first|(cases hf;done)|skip
     cases hf;obtain⟨p,pp,e1⟩:=F0 hu;obtain⟨p',pp',e2⟩:=F0 hv;obtain⟨u1,u2⟩:=u;obtain⟨v1,v2⟩:=v;dsimp only at hs e1 e2 hx hy;obtain⟨rfl,rfl⟩:=hs;obtain⟨p1,rfl⟩:=Kk hx;obtain⟨p2,rfl⟩:=Kk hy;obtain⟨p3,rfl⟩:=Sz hq;rw[e1,e2];exact Pu C.mono C.calm (C.oZ hi) (C.oZ hj) (C.DO vx) (C.DO vy) x1 x2 y1 y2 (C.y9 mG) (C.blt _ hb) (C.y9 Na) (C.blt _ Nl)
    ·cases h
   ·cases h
  ·cases h
 ·cases h
theorem Mm:∀e m,Hf r c e=some m->PE X e (LE X.K Ξ (aX P m)):=by
 intro e m h;cases e with
 |Name x p=>exact XC C h
 |Constant k j p =>
  obtain⟨d,hd,rfl⟩:=ae.mp (show(rX k).map ME.lit=some m from h);exact xH hd
 |BinOp a op b p =>
  obtain⟨ma,mb,ha,hb,rfl⟩:=Z3 S C h;exact Eg C.mono (GY (XF op) ha hb)
 |UnaryOp op a p=>exact TX S C h
 |Compare a ops bs p=>exact(GW S C h).1
 |BoolOp op vs p=>exact Mo S C h
 |IfExp t a b p =>
  obtain⟨mt,ht,h⟩:=ag.mp h;obtain⟨ma,ha,h⟩:=ag.mp h;obtain⟨mb,hb,rfl⟩:=ae.mp h;exact Pp C.mono (S.t X c Ξ C _ _ ht) (S.e X c Ξ C _ _ ha) (S.e X c Ξ C _ _ hb)
 |Tuple es k p =>
  obtain⟨ma,ha,rfl⟩:=ae.mp h;exact Pw C.mono (sx S C ha)
 |List es p =>
  obtain⟨ma,ha,rfl⟩:=ae.mp h;exact Jl C.mono (sx S C ha)
 |Subscript a b p=>exact VR S C h
 |Dict ks vs p =>
  have h2:(if ks.isEmpty&&vs.isEmpty then some (ME.prim .mV .nil) else if decide (ks.length<=15) then(wI r c ks vs).map .nD else none)=some m:=h;split at h2
  ·rename_i hc;cases ks<;>cases vs<;>first|(cases hc;done)|skip
   cases h2;exact RS
  ·rename_i hc;split at h2
   ·rename_i hl;obtain⟨ms,hm,rfl⟩:=ae.mp h2;obtain⟨hW,D⟩:=Mn S C hm;refine Pl C.mono D (λz=>hc ?_) (bC hl);have:=D.len.2;subst z;cases vs<;>first|rfl|cases this
   ·cases h2
 |JoinedStr vs p =>
  have h2:(if decide (2<=vs.length)&&decide (vs.length<=40) then(tO r c vs).map (ME.prim .lD) else none)=some m:=h;split at h2
  ·rename_i hc;simp only[Bool.and_eq_true,decide_eq_true_eq] at hc;obtain⟨ms,hm,rfl⟩:=ae.mp h2;obtain⟨ts,F⟩:=Ml S C hm;rcases vs with _|⟨v1,_|⟨v2,vs⟩⟩
   ·simp at hc
   ·simp at hc
   ·exact RT C.mono F hc.2
  ·cases h2
 |Attribute o f p =>
  have h2:(if wY o then c1 r c (.fld f) o else none)=some m:=h;split at h2
  ·rename_i hb;obtain⟨ma,ha,rfl⟩:=U3 S C h2;exact Pn C.mono ha (K0 hb)
  ·cases h2
 |Call f args iX pos =>
  have h1:((zJ r c f args iX).orElse λ_=>(xB c f args iX).orElse λ_=>DP r c f args iX pos)=some m:=h;rcases orElse_some h1 with h2|h2
  ·unfold zJ at h2;cases h2
  clear h h1;rcases orElse_some h2 with h3|h3
  ·exact TJ C h3
  clear h2;unfold DP at h3;split at h3
  ·rename_i hk;cases iX<;>first|(cases hk;done)|skip
   cases f with
   |Name x p=>exact Rf S C h3
   |Attribute o a p=>exact Rc S C h3
   |_=>cases h3
  ·cases h3
 |ListComp elt gens sc p =>
  obtain⟨tg,it,ifs,t,mi,mc,me,cl,rfl,rfl,hit,Sc,q1,q2,q3,q4,_⟩:=Cv S C h;exact(JS Sc C.calm q1 q2 q3 q4 (zl hit)).imp λσ H Q h=>Kp C.mono σ H Q h
 |_=>cases h
theorem Mi:∀e m,stepT r c e=some m->PT X e (LT X.K Ξ (dD P m)):=by
 intro e m h;have plain:∀{e:Expr} {m:ME},(if Dc e then(r.e c e).map ME.eQ else none)=some m->PT X e (LT X.K Ξ (dD P m)):=λ{e m} h=>by
  split at h
  ·rename_i hp;obtain⟨ma,ha,rfl⟩:=ae.mp h;exact PY C.mono (S.e X c Ξ C _ _ ha) (YK hp)
  ·cases h
 cases e with
 |UnaryOp op a p =>
  have h2:(if op=.Not then(r.t c a).map ME.cJ else none)=some m:=h;split at h2
  ·rename_i ho;subst ho;obtain⟨ma,ha,rfl⟩:=ae.mp h2;exact PU C.mono (S.t X c Ξ C _ _ ha)
  ·cases h2
 |BoolOp op vs p=>exact(Mh S C h).pt
 |Compare a ops bs p =>
  obtain⟨ma,ha,rfl⟩:=ae.mp (show(wF r c a ops bs).map ME.eQ=some m from h);exact(GW S C ha).2
 |_=>exact plain h
end
end M

namespace M
open PySem L2 PySem.Spec PyProof.Rows
section
variable{X:Cx}{c:d7}{P:fo}{Ξ:gL}
theorem Kn{e:Expr}{m:ME}(h:GG e=some m):PE X e (LE X.K Ξ (aX P m))/\fO e=true:=by
 cases e<;>first|(cases h;done)|skip
 obtain⟨d,hd,rfl⟩:=ae.mp (show(rX _).map ME.lit=some m from h);exact⟨xH hd,rfl⟩
theorem a19(hP:i6 P):∀{es:List Expr} {m:ME},yG es=some m->PA X es (LA X.K Ξ (fe P m)):=by
 intro es
 induction es with
 |nil=>intro m h;cases h;exact P1 hP
 |cons e es ih =>
  intro m h;unfold yG at h;obtain⟨m1,h1,h⟩:=ag.mp h;obtain⟨m2,h2,rfl⟩:=ae.mp h;exact C0 hP (Kn h1).1 (ih h2) (j6 (Kn (X:=X) (Ξ:=Ξ) (P:=P) h1).2)
theorem SM(hP:i6 P){e:Expr}{m:ME}(h:GF e=some m):PE X e (LE X.K Ξ (aX P m)):=by
 cases e<;>first|(cases h;done)|skip
 ·obtain⟨d,hd,rfl⟩:=ae.mp (show(rX _).map ME.lit=some m from h);exact xH hd
 ·obtain⟨ms,hm,rfl⟩:=ae.mp h;exact Jl hP (a19 hP hm)
theorem Zg{h:ExceptHandler}{q:Str×Expr}(hq:DS h=some q):∃p p1 p2,h=.ExceptHandler (some (.Name q.1 p)) none [.Return (some q.2) p1] p2:=by
 obtain⟨t,n,b,p0⟩:=h;unfold DS at hq;cases n with
 |some _=>cases hq
 |none =>
  obtain⟨t,rfl,hq⟩:=ag.mp (show t.bind _=some q from hq);obtain⟨y,hy,hq⟩:=ag.mp hq;obtain⟨e,he,rfl⟩:=ae.mp hq;obtain⟨p,rfl⟩:=Dg hy;rcases b with _|⟨s,_|⟨_,_⟩⟩
  ·cases he
  ·cases s<;>first|(cases he;done)|(cases he;exact⟨_,_,_,rfl⟩)
  ·cases he
theorem SK(C:gy X c P Ξ)(AM:Z4 X Ξ.2):∀{hs:List ExceptHandler} {ms:List (Str×ME)},wJ c hs=some ms->lG X Ξ P hs ms:=by
 intro hs
 induction hs with
 |nil=>intro ms h;cases h;exact .nil AM
 |cons hd hs ih =>
  intro ms h;unfold wJ at h;obtain⟨q,hq,h'⟩:=ag.mp h;clear h;have h:=h';clear h';obtain⟨p,p1,p2,rfl⟩:=Zg hq;obtain⟨y,e⟩:=q;dsimp only at h ⊢;split at h
  ·rename_i hc;simp only[Bool.and_eq_true] at hc;obtain⟨m,h1,h⟩:=ag.mp h;obtain⟨ms',h2,rfl⟩:=ae.mp h;obtain⟨C',hm,hi,_⟩:=C.exc y hc.1.1;refine .cons (C.y9 hc.1.2) (C4 hc.2).1 hm (λx C1 hx h1=>C.ye x y C1 C' ?_ hc.1.1 h1 hi) (λea=>SM (X:=B8 X ea) C.mono h1) (ih h2);rw[C.wq] at hx;simpa using hx
  ·cases h
theorem ZR{e f:Option Expr}{q:Str×Expr×List Expr}(h:Cj e f=some q):f=none/\∃p p',e=some (.Call (.Name q.1 p) (q.2.1::q.2.2) [] p'):=by
 unfold Cj at h;cases f with
 |some _=>cases h
 |none =>
  obtain⟨t,rfl,h⟩:=ag.mp (show e.bind _=some q from h);obtain⟨z,hz,h⟩:=ag.mp h;obtain⟨p,p',rfl⟩:=F0 hz;obtain⟨x,as⟩:=z;cases as with
  |nil=>cases h
  |cons a as=>cases h;exact⟨rfl,_,_,rfl⟩
theorem YA{es:List Expr}{e:Expr}(h:c.yA es e=true):∃x px y py a b k p,es=[.Name x px,.Name y py]/\e=.Tuple [a,b] k p/\c.El x px y py a b=true:=by
 rcases es with _|⟨s,_|⟨t,_|⟨_,_⟩⟩⟩
 ·cases h
 ·cases h
 ·cases s<;>first|(cases h;done)|skip
  cases t<;>first|(cases h;done)|skip
  cases e<;>first|(cases h;done)|skip
  rename_i l _ _;rcases l with _|⟨a,_|⟨b,_|⟨_,_⟩⟩⟩
  ·cases h
  ·cases h
  ·exact⟨_,_,_,_,_,_,_,_,rfl,rfl,h⟩
  ·cases h
 ·cases h
theorem JE(C:gy X c P Ξ){f:Str}:yE X.K f (c.tF f):=λy C' h hC=>by
 unfold d7.tF at h;obtain⟨⟨f',y'⟩,h1,h2⟩:=aS.mp h;obtain⟨h3,h4⟩:=bS.mp h1;cases h2;have:f'=f:=by simpa using h4
 subst this;exact C.mU f' y' C' h3 hC
variable{r:CF}(S:qa P r)(C:gy X c P Ξ){pos:Pos}
include S C
theorem VQ{tg e:Expr}{m:MS}(hS:∀e m,r.e c e=some m->t7 e=false->∃elt gens sc p,e=.ListComp elt gens sc p/\∃r',qa P r'/\tW r' c elt gens sc=some m)(hT:∀a b k p m,r.e c (.Tuple [a,b] k p)=some m->∃r' ms,qa P r'/\E6 r' c [a,b]=some ms/\m=.prim .tup ms)(h:Gh r c tg e=some m):PS X (.Assign [tg] e pos) (LS X.K Ξ (wpS P m)):=by
 cases tg with
 |Name x px =>
  have h2:(if c.w6 x then(c.idx x).bind λi=>(r.e c e).map λm=>MS.set i m else none)=some m:=h;split at h2
  ·rename_i hl;obtain⟨i,hi,h2⟩:=ag.mp h2;obtain⟨me,he,rfl⟩:=ae.mp h2;cases hn:t7 e with
   |true=>exact Jp C.mono (Ji C.qH (C.oZ hi) (C.w6 hl).1 (S.e X c Ξ C _ _ he) (U7 hn) (C.w6 hl).2)
   |false =>
    obtain⟨elt,gens,sc,p,rfl,r',S',hx⟩:=hS e me he hn;obtain⟨tg,it,ifs,t,mi,mc,me,cl,rfl,rfl,hit,Sc,q1,q2,q3,q4,_⟩:=Cv S' C hx;refine Jp C.mono ?_;exact(aH0 Sc C.calm q1 q2 q3 q4 (zl hit) C.qH (C.oZ hi) (C.w6 hl).1 (C.w6 hl).2).imp λN σ H h=>Kp C.mono σ H _ h
  ·cases h2
 |Tuple es k pt =>
  have h0:((DU es).elim (if(tT e&&t7 e)||c.yA es e then(c.slots es).bind λis=>(r.e c e).map λm=>MS.nR (.many is) m else none) λq=>if t7 e&&fO q.2.1&&fO q.2.2.2 then(r.e c q.1).bind λm1=>(r.e c q.2.1).bind λn1=>(r.e c q.2.2.1).bind λm2=>(r.e c q.2.2.2).bind λn2=>(r.e c e).map λm=>MS.xE m1 n1 m2 n2 m else none)=some m:=h;cases hq:DU es with
  |some q =>
   rw[hq] at h0;dsimp only[Option.elim] at h0;split at h0
   ·cases hq
   ·cases h0
  |none =>
  rw[hq] at h0;have h2:(if(tT e&&t7 e)||c.yA es e then(c.slots es).bind λis=>(r.e c e).map λm=>MS.nR (.many is) m else none)=some m:=h0;split at h2
  ·rename_i hn;rw[cT,bg] at hn;obtain⟨is,hs,h2⟩:=ag.mp h2;obtain⟨me,he,rfl⟩:=ae.mp h2;rcases hn with hn|hn
   ·exact Qf C.mono (Jh (S.e X c Ξ C _ _ he) (Kf C.calm C.qH (C.slots hs)) (IG hn.2) (a80 hn.1))
   ·obtain⟨x,px,y,py,a,b,k2,pB,rfl,rfl,hk⟩:=YA hn
    ·unfold d7.El at hk;simp only[Bool.and_eq_true,decide_eq_true_eq,Bool.not_eq_true'] at hk;obtain⟨⟨⟨⟨⟨⟨⟨l1,l2⟩,dW⟩,hl⟩,oa⟩,ob⟩,f1⟩,f2⟩:=hk;obtain⟨r',ms,S',kc,rfl⟩:=hT _ _ _ _ _ he;have so:=C.slots hs;cases so with
     |cons hi _ _ so =>
     cases so with
     |cons hj _ _ so =>
     cases so;exact Qc C.mono C.calm C.qH hi hj dW hl (C.loc x l1) (C.loc y l2) oa ob f1 f2 (sx S' C kc)
  ·cases h2
 |Subscript o i pt =>
  have h2:(if fO i&&t7 e then(r.e c o).bind λmo=>(r.e c i).bind λmi=>(r.e c e).map λm=>MS.eI mo mi m else none)=some m:=h;split at h2
  ·rename_i hn;rw[bg] at hn;obtain⟨mo,ho,h2⟩:=ag.mp h2;obtain⟨mi,hi,h2⟩:=ag.mp h2;obtain⟨me,he,rfl⟩:=ae.mp h2;exact a38 C.mono C.units (S.e X c Ξ C _ _ he) (S.e X c Ξ C _ _ ho) (S.e X c Ξ C _ _ hi) (IG hn.2) (Rj hn.1)
  ·cases h2
 |Attribute o f pt =>
  have h2:(if t7 e then(r.e c o).bind λmo=>(r.e c e).map λm=>MS.dN f (c.tF f) mo m else none)=some m:=h;split at h2
  ·rename_i hn;obtain⟨mo,ho,h2⟩:=ag.mp h2;obtain⟨me,he,rfl⟩:=ae.mp h2;exact Sm C.mono (JE C) (S.e X c Ξ C _ _ ho) (S.e X c Ξ C _ _ he) (U7 hn)
  ·cases h2
 |_=>cases h
theorem Mj(hS:∀e m,r.e c e=some m->t7 e=false->∃elt gens sc p,e=.ListComp elt gens sc p/\∃r',qa P r'/\tW r' c elt gens sc=some m)(hT:∀a b k p m,r.e c (.Tuple [a,b] k p)=some m->∃r' ms,qa P r'/\E6 r' c [a,b]=some ms/\m=.prim .tup ms) :
  ∀st m,Hg r c st=some m->PS X st (LS X.K Ξ (wpS P m)):=by
 intro st m h;have hP:=C.mono;cases st with
 |AugAssign tg op e p =>
  cases tg with
  |Attribute o f tp =>
   have h2:(if decide (op=Operator.Add) then(r.e c o).bind λmo=>(r.e c e).map λm=>MS.jV f (c.tF f) mo m else none)=some m:=h;split at h2
   ·rename_i ho;obtain rfl:=bC ho;obtain⟨mo,ho,h2⟩:=ag.mp h2;obtain⟨me,he,rfl⟩:=ae.mp h2;exact Sj C.mono (JE C) (S.e X c Ξ C _ _ ho) (S.e X c Ξ C _ _ he)
   ·cases h2
  |Name x tp =>
   have h2:(if c.w6 x then(GB op).bind λp=>(c.idx x).bind λi=>(r.e c e).map λm=>MS.mX i p m else none)=some m:=h;split at h2
   ·rename_i hl;obtain⟨p,hp,h2⟩:=ag.mp h2;obtain⟨i,hi,h2⟩:=ag.mp h2;obtain⟨me,he,rfl⟩:=ae.mp h2;refine Sk C.mono ?_ C.qH (C.oZ hi) (C.w6 hl).1 (C.w6 hl).2 (S.e X c Ξ C _ _ he);cases op<;>first|(cases hp;done)|skip
    ·cases hp;exact .inl ⟨rfl,rfl⟩
    ·cases hp;exact .inr ⟨rfl,rfl⟩
   ·cases h2
  |_=>cases h
 |Expr e p =>
  have h2:(if t7 e then(r.e c e).map MS.expr else none)=some m:=h;split at h2
  ·rename_i hn;obtain⟨me,he,rfl⟩:=ae.mp h2;exact Sl hP (S.e X c Ξ C _ _ he) (U7 hn)
  ·cases h2
 |Assign zO e p =>
  rcases zO with _|⟨tg,_|⟨_,_⟩⟩
  ·cases h
  ·exact VQ S C hS hT h
  ·cases h
 |If t a b p =>
  obtain⟨mt,ht,h⟩:=ag.mp h;obtain⟨ma,ha,h⟩:=ag.mp h;obtain⟨mb,hb,rfl⟩:=ae.mp h;exact Wx hP (S.t X c Ξ C _ _ ht) (xg S C ha) (xg S C hb)
 |For tg it body yg p =>
  have h2:(if c.nC&&(yg.isEmpty&&fO it) then(c.tg tg).bind λt=>(wK r c tg it).bind λmi=>(v9 r c body).map λmb=>MS.fS t mi mb else none)=some m:=h;split at h2
  ·rename_i hc;rw[bg,bg] at hc;cases yg<;>first|(cases hc.2.1;done)|skip
   obtain⟨t,h1,h2⟩:=ag.mp h2;obtain⟨mi,h3,h2⟩:=ag.mp h2;obtain⟨mb,h4,rfl⟩:=ae.mp h2;exact Qb hP (C.own hc.1) C.calm (Fd S C h3) (C.Gp h1) (xg S C h4) (zl hc.2.2)
  ·cases h2
 |Return e p =>
  cases e with
  |none=>cases h;exact(RG (X:=X)).imp λN bE H ⟨σ,g,ρ,s,R,h⟩=>LQ.now h R .aQ
  |some e =>
   obtain⟨me,he,rfl⟩:=ae.mp (show(r.e c e).map (λm=>MS.ret (toR c e m))=some m from h);refine Jo hP ?_;unfold toR;split
   ·split
    ·rename_i hc;rw[bg] at hc;obtain⟨elt,gens,sc,p,rfl,r',S',hx⟩:=hS e _ he (by simpa using hc.1);obtain⟨tg,it,ifs,t,mi,mc,me,cl,rfl,em,hit,Sc,q1,q2,q3,_,q5⟩:=Cv S' C hx;cases em;obtain⟨eJ,hf,hh⟩:=C.iq hc.2;exact(a67 eJ hf hh Sc C.calm q1 q2 q3 q5 (zl hit)).imp λσ H Q h=>YQ C.mono σ H Q h
    ·exact S.e X c Ξ C _ _ he
   ·exact S.e X c Ξ C _ _ he
 |Raise e f p =>
  obtain⟨q,hq,h2⟩:=ag.mp h;clear h;obtain⟨rfl,px,p2,rfl⟩:=ZR hq;obtain⟨x,e,es⟩:=q;dsimp only at h2 ⊢;split at h2
  ·rename_i hc;simp only[Bool.and_eq_true] at hc;obtain⟨ma,ha,rfl⟩:=ae.mp h2;have ok:=CC ha;obtain⟨C',hm,hi,B,nI,iI,bm,O,FB⟩:=C.exc x hc.1.1.2;exact a39 hP C.calm O FB (C.y9 hc.1.2) (sx S C ha) (C.ji hc.1.1.1) (by rw[C.wq];simpa using hc.1.1.2) hi (j6 (ok e (by simp))) (S5 λz hz=>ok z (by simp[hz])) (C4 hc.2).1
  ·cases h2
 |Try body hs el fi p =>
  have h2:(if c.iq&&!hs.isEmpty&&el.isEmpty&&fi.isEmpty then(v9 r { c with ji:=false,iq:=false } body).bind λmb=>(wJ c hs).map λms=>MS.S3 mb ms else none)=some m:=h;split at h2
  ·rename_i hc;simp only[Bool.and_eq_true] at hc;obtain⟨⟨⟨ht,hh⟩,he⟩,hf⟩:=hc;cases el<;>first|(cases he;done)|skip
   cases fi<;>first|(cases hf;done)|skip
   cases hs<;>first|(cases hh;done)|skip
   obtain⟨mb,h1,h2⟩:=ag.mp h2;obtain⟨ms,h3,rfl⟩:=ae.mp h2;obtain⟨eJ,hf,AM⟩:=C.iq ht;exact Qe hP eJ hf (λpins D=>xg S (C.S3 eJ hf pins D _) h1) (SK C AM h3)
  ·cases h2
 |Pass p=>cases h;exact(RD (X:=X)).imp λN bE H ⟨σ,g,ρ,s,R,h⟩=>h ρ H bE (.refl _ _) R s
 |_=>cases h
end
theorem ZU{n:Nat}{c:d7}{e:Expr}{m:ME}(h:(comp (n+1)).e c e=some m)(hn:t7 e=false):∃elt gens sc p,e=.ListComp elt gens sc p/\tW (comp n) c elt gens sc=some m:=by
 cases e<;>first|(cases hn;done)|(cases h;done)|exact⟨_,_,_,_,rfl,h⟩
theorem snd{P:fo}:∀n,(∀k,k<=n->qa P (comp k)):=by
 intro n
 induction n with
 |zero =>
  intro k hk;obtain rfl:=Nat.le_zero.mp hk;exact⟨λ_ _ _ _ _ _ h=>(by cases h),λ_ _ _ _ _ _ h=>(by cases h),λ_ _ _ _ _ _ h=>(by cases h)⟩
 |succ n ih =>
  intro k hk;rcases Nat.lt_or_ge k (n+1) with dQ|Nc
  ·exact ih k (by omega)
  obtain rfl:k=n+1:=by omega
  have I:=ih n (aj n);refine⟨λX c Ξ C e m h=>Mm I C e m h,λX c Ξ C e m h=>Mi I C e m h,λX c Ξ C st m h=>?_⟩;rcases orElse_some h with h|h
  rotate_left
  ·cases h;exact λpins s σ H D I q=>by obtain⟨_,_,_,_,_,z⟩:=q;exact(show False from z).elim
  refine Mj I C (λe m he hn=>?_) (λa b k p m he=>?_) st m h
  ·cases n with
   |zero=>cases he
   |succ n =>
    obtain⟨elt,gens,sc,p,rfl,hx⟩:=ZU he hn;exact⟨_,_,_,_,rfl,comp n,ih n (by omega),hx⟩
  ·cases n with
   |zero=>cases he
   |succ n =>
    obtain⟨ms,hm,rfl⟩:=ae.mp (show(E6 (comp n) c [a,b]).map (ME.prim .tup)=some m from he);exact⟨comp n,ms,ih n (by omega),hm,rfl⟩
end M

namespace M
open PySem L2 PySem.Spec PyProof.Rows
structure pj where
 nm:Str
 qn:Str
 N:List Str
 ps:List Str
 st:Stmt
def d7.at(c:d7)(d:pj):d7:={ c with N:=d.N,nm:=(k7 d.st).names,nC:=true,ji:=true,iq:=true }
structure jc(K:PySem.W.Frag)(c:d7)(d:pj)(m:aY)(f:Addr)(fd:FuncData):Prop where
 fn:qb K d.nm d.qn d.st f fd
 bi:Binds K fd d.ps []
 sc:iD d.N d.ps (k7 d.st)
 co:v9 (comp 60) (c.at d) (l0 d.st)=some m.body
 ar:m.ar=d.ps.length
 nn:m.n=d.N.length
structure mY(w:World)(K:PySem.W.Frag)(mg:Str->Option Value)(c:d7)(T:Nat->Option aY):Prop where
 fns:∀x i,c.fns.lookup x=some i->∃d m f fd,T i=some m/\jc K c d m f fd/\mg x=some (.ref f)
 cls:∀x i,c.cls.lookup x=some i->∃C d m f fd,T i=some m/\jc K c d m f fd/\mg x=some (.ref C)/\n8 K x C/\iT K C/\Mk K C f
 mq:∀x y i C,(x,y,i)∈c.mq->n8 K y C->∃d m f fd,T i=some m/\jc K c d m f fd/\Meth K C x f
 mU:∀f y C,(f,y)∈c.mU->n8 K y C->w5 K C f
 con:∀x d,c.con.lookup x=some d->∃v u,mg x=some u/\RelV v u/\∀ρ H,d0 K ρ H d v
 blt:∀x,c.blt.contains x=true->mg x=none
 BH:∀x,c.exc.contains x=true->∃C,mg x=some (.ref C)/\n8 K x C/\∀base:Heap,K.In base->base.Ns mainGlobals mg->∃B newId gC bm,OwnCls x C bm newId mg base/\ExcBaseFacts B newId gC bm
 BG:∀x y C C',c.exc.contains x=true->c.exc.contains y=true->n8 K x C->n8 K y C'->PySem.W.exmOne K (.ref C) (.ref C')=some (decide (x=y\/y="MintError"))
 rm:∀x kvs,c.gd.lookup x=some kvs->∃A vs,mg x=some (.ref A)/\wG K w.params A vs/\pU K kvs vs
section
variable{Pg:Program}{w:World}{K:PySem.W.Frag}{mg:Str->Option Value}{base:Heap}{c:d7}{T:Nat->Option aY}
theorem Xp{K:PySem.W.Frag}{cd:Value}{q:Str}(h:PySem.W.codeIn K cd q=true):PySem.W.kdsCode K cd=true:=by
 unfold PySem.W.codeIn at h;unfold PySem.W.kdsCode;split at h
 ·dsimp only;split at h
  ·rename_i e;rw[e]
  ·cases h
 ·cases h
theorem Rt{N:List Str}{qual:Str}{scope:Scope}{f:Addr}{cd:Value}{A:Around}{outer:List Env}{s:Shared}{H:Hp}{E:XK}:Passes (gO Pg w) (oW (gO Pg w) Pg w K mg base N qual scope f cd A outer s H E) E:=λpins σ H1 s1 e s' I h=>by
 obtain⟨C,H',J,fl,hE⟩:=I.flew h;exact aD5 J fl (λb o q=>I.base.there b o q (by intro z;cases z)) rfl rfl rfl hE
theorem a59{N:List Str}{qual:Str}{scope:Scope}{f:Addr}{cd:Value}{A:Around}{outer:List Env}{s:Shared}{H:Hp}{E:XK}:yQ (oW (gO Pg w) Pg w K mg base N qual scope f cd A outer s H E) E:=λpins σ H1 s1 h' ea C vs I hm hE =>
 Zt I hm rfl rfl rfl hE
theorem QN{N:List Str}{qual:Str}{scope:Scope}{f:Addr}{cd:Value}{A:Around}{outer:List Env}{s:Shared}{H:Hp}{E:XK}:Z4 (oW (gO Pg w) Pg w K mg base N qual scope f cd A outer s H E) E:=λpins σ H1 H2 s1 s2 B ea C a0 I l hh hE =>
 leave_held I l hh rfl rfl rfl hE
theorem Cm{k i:Nat}{m:aY}(hT:T i=some m){ds:List D}{g:G}{Q:KD}{E:KX}(h:a9 T k i ds g Q E):ds.length=m.ar:=by
 cases k with
 |zero=>exact h.elim
 |succ k =>
  obtain⟨m',e,h,_⟩:=h;rw[hT] at e;cases e;exact h
theorem WW(mx:K.In base)(vT:base.Ns mainGlobals mg)(A:mY w K mg c T):∀(k i:Nat) d m f fd,T i=some m->jc K c d m f fd->gN Pg w K mg base (gO Pg w) (2*k) f fd d.ps (pA c.exc K d.ps.length (a9 T k i)):=by
 intro k
 induction k with
 |zero =>
  intro i d m f fd hm O;refine⟨λvs H Q E h=>h.1,λA outer s H args us vs Q E _ _ _ _ h=>?_⟩;obtain⟨_,_,_,_,_,_,q⟩:=h;exact q.elim
 |succ k ih =>
  intro i d m f fd hm O;obtain⟨oc,od,kV,doc,pm,an,fG,ct,lP,rfl,lk,lz⟩:=O.fn.ex;refine Vv (k:=2*k+1) lk lz O.sc (λvs H Q E h=>h.1) (λA0 outer s H vs Q E hr h=>?_);obtain⟨hl,xs,g,ρ,rs,R,q⟩:=h;have C:gy (oW (gO Pg w) Pg w K mg base d.N d.qn (k7 d.st) f fG A0 outer s H E) (c.at d) (a9 T k) (c.exc,E):=by
   refine⟨rfl,O.sc.nd,λx h=>h,λx h=>h,λx h=>.inr h,λx h=>h,λx h=>?_,λ_ _=>rfl,rfl,?_,(λ_=>PassesOwn.leaving),c8 T k,A.con,A.blt,λx j hj=>?_,λx j hj=>?_,λx y j C' hj hC=>?_,A.mU,rfl,Rt,λ_=>a59,λ_=>⟨rfl,rfl,QN⟩,λx hx=>?_,A.BG,A.rm,λ_=>Xp lz⟩
   ·rcases h with h|h
    ·exact CB h
    ·exact absurd rfl (O.sc.mm _ (aJ h))
   ·have:=hr.un;show(A0.deeper _).units+100<cLine;omega
   ·obtain⟨d',m',f',pR,hT,O',hmg⟩:=A.fns x j hj;exact⟨2*k,f',pR,d'.ps,⟨ih j d' m' f' pR hT O',O'.bi,λGb g' Q' E' h'=>(Cm hT h').trans O'.ar⟩,hr.mono (by omega),hmg,O'.fn.kp⟩
   ·obtain⟨C',d',m',f',pR,hT,O',hmg,hC,ja,M⟩:=A.cls x j hj;exact⟨2*k,C',f',pR,d'.ps,⟨ih j d' m' f' pR hT O',O'.bi,λGb g' Q' E' h'=>(Cm hT h').trans O'.ar⟩,hr,hmg,hC,ja,M⟩
   ·obtain⟨d',m',f',pR,hT,O',M⟩:=A.mq x y j C' hj hC;exact⟨2*k,f',pR,d'.ps,M,⟨ih j d' m' f' pR hT O',O'.bi,λGb g' Q' E' h'=>(Cm hT h').trans O'.ar⟩,hr.mono (by omega)⟩
   ·obtain⟨C,h1,h2,h3⟩:=A.BH x hx;exact⟨C,h1,h2,h3 base mx vT⟩
  refine⟨_,xg (snd (P:=a9 T k) 60 60 (aj _)) C O.co,?_⟩;obtain⟨m',e,q1,q⟩:=q;rw[hm] at e;cases e;refine⟨b5 m xs,g,ρ,?_,R,wpS_mono (c8 T k) m.body ⟨λ_ g'=>LQ K ρ H Q .aQ g',LQ K ρ H Q,λ_ _=>False,λ_ _=>False⟩ _ _ _ _ _ ⟨λσ g' h bD H' dA e R' s'=>h bD H' _ e R' .aQ,λd g' h=>h,λ_ _ h=>h.elim,λ_ _ h=>h.elim⟩ (λ_ _ z=>z) q⟩;have:=l8.start (n:=d.N.length) rs;unfold b5 L2.start;rw[O.nn];exact this
theorem Xu{L k0:Nat}{H:Hp}{a:Addr}{ns:List Int}(hO:zq H)(hS:gx K H a (ns.map V.int))(h:a9 T k0 L [.ref 0] [.oR (ns.map .int)] (λd _=>d=.bl true) jz) :
  pA exc K 1 (a9 T k0 L) [.ref a] H (λv _=>v=.bl true) λ_ _ _=>False:=by
 refine⟨rfl,[.ref 0],[.oR (ns.map .int)],[a],.cons (.ref rfl) .nil,⟨rfl,λi o b h1 h2=>?_,λi j l m b h1 h2 m1=>?_⟩,c8 T k0 _ _ _ _ _ _ _ (λd g' e bD H' v _ _ r=>?_) (λ_ _ z=>z.elim) h⟩
 ·cases i with
  |zero =>
   cases h1;cases h2;refine⟨_,?_,b0.ofInts ns⟩;rcases hS with(z|⟨o,z⟩)|z
   ·rcases hO a with q|⟨o,xs,q⟩
    ·rw[z] at q;cases q
    ·rw[z] at q;cases q
   ·exact .inl ⟨o,z⟩
   ·exact .inr z
  |succ i=>simp at h1
 ·cases i with
  |zero=>cases h1;cases m1
  |succ i=>simp at h1
 ·subst e;cases r
  rfl
end
end M

namespace M
open PySem L2
section
variable{P:fo}{σ:S}{g:G}{Q:KD}{E:KX}{N:Ends}{a b c o:ME}{x y:MS}{p:Pr}
theorem D6(h:N.nx σ g):wpS P .pass N σ g E:=h
theorem Ho(h:wpS P x ⟨λiP g1=>wpS P y N iP g1 E,N.rt,N.bk,N.ct⟩ σ g E):wpS P (.seq x y) N σ g E:=h
theorem Jv(h:wpS P x N σ g E):wpS P (.seq x .pass) N σ g E:=h
theorem Qq(h:aX P a σ g (λ_ g1=>N.nx σ g1) E):wpS P (.expr a) N σ g E:=h
theorem Hq{i:Nat}(h:aX P a σ g (λx g1=>N.nx (σ.set i (some x)) g1) E):wpS P (.set i a) N σ g E:=h
theorem WR{t:MT}(h:aX P a σ g (λx g1=>jY t x σ λiP=>N.nx iP g1) E):wpS P (.nR t a) N σ g E:=h
theorem Sw{o i:ME}(h:aX P a σ g (λx g1=>aX P o σ g1 (λy g2=>aX P i σ g2 (λz g3=>Z9 y z x g3 λg4=>N.nx σ g4) E) E) E):wpS P (.eI o i a) N σ g E:=h
theorem Qu{f:Str}{cs:List Str}(h:aX P a σ g (λx g1=>aX P o σ g1 (λy g2=>wQ f cs y x g2 λg3=>N.nx σ g3) E) E):wpS P (.dN f cs o a) N σ g E:=h
theorem Jt{f:Str}{cs:List Str}(h:aX P o σ g (λy g1=>∃a' c fs x,y=.ref a'/\g1[a']?=some (.ins c fs)/\c∈cs/\fs.lookup f=some x/\aX P a σ g1 (λz g3=>cu .iadd [x,z] g3 λw g4=>∃iR,g4[a']?=some (.ins c iR)/\iR.length<100/\N.nx σ (g4.set a' (.ins c (q8 f w iR)))) E) E):wpS P (.jV f cs o a) N σ g E:=h
theorem Hm(h:dD P c σ g (λt g1=>if t=true then wpS P x N σ g1 E else wpS P y N σ g1 E) E):wpS P (.ifs c x y) N σ g E:=h
theorem WN(h:aX P a σ g N.rt E):wpS P (.ret a) N σ g E:=h
theorem Su{x:Str}(h:fe P a σ g (λvs g1=>vs.length<=1000/\E ⟨x⟩ g1) E):wpS P (.raise x a) N σ g E:=h
theorem WQ{hs:List (Str×ME)}(h:wpS P x N σ g (lM P N (σ.map λ_=>none) E hs)):wpS P (.S3 x hs) N σ g E:=h
theorem GQ{x:Xn}{y:Str}{e:ME}{r:List (Str×ME)}(hx:x.cls=y)(h:aX P e σ g N.rt jz):lM P N σ E ((y,e)::r) x g:=by unfold lM;rw[au (.inl hx)];exact h
theorem GP{x:Xn}{e:ME}{r:List (Str×ME)}(h:aX P e σ g N.rt jz):lM P N σ E (("MintError",e)::r) x g:=by unfold lM;rw[au (.inr rfl)];exact h
theorem w_var{i:Nat}{d:D}(e:σ[i]?=some (some d))(h:Q d g):aX P (.var i) σ g Q E:=by exact⟨d,e,h⟩
theorem w_lit{d:D}(h:Q d g):aX P (.lit d) σ g Q E:=h
theorem Qt(h:fe P a σ g (λxs g1=>cu p xs g1 Q) E):aX P (.prim p a) σ g Q E:=h
theorem UR(h:cu p [] g Q):aX P (.prim p .nil) σ g Q E:=by exact h
theorem zx(h:aX P a σ g (λx g1=>cu p [x] g1 Q) E):aX P (.prim p (.cons a .nil)) σ g Q E:=by exact h
theorem rT(h:aX P a σ g (λx g1=>aX P b σ g1 (λy g2=>cu p [x,y] g2 Q) E) E):aX P (.prim p (.cons a (.cons b .nil))) σ g Q E:=by exact h
theorem Sr{o1 o2:CmpOp}(h:aX P a σ g (λx g1=>aX P b σ g1 (λy g2=>cu (.cmp o1) [x,y] g2 λz g3=>∃t,z=.bl t/\if t=true then aX P c σ g3 (λw g4=>cu (.cmp o2) [y,w] g4 Q) E else Q (.bl false) g3) E) E):aX P (.chain o1 o2 a b c) σ g Q E:=h
theorem w_and(h:aX P a σ g (λx g1=>∃t,x=.bl t/\if t=true then aX P b σ g1 Q E else Q (.bl false) g1) E):aX P (.eY a b) σ g Q E:=h
theorem w_not(h:aX P a σ g (λx g1=>∃t,x=.bl t/\Q (.bl (!t)) g1) E):aX P (.cJ a) σ g Q E:=h
theorem w_ite(h:dD P c σ g (λt g1=>if t=true then aX P a σ g1 Q E else aX P b σ g1 Q E) E):aX P (.ite c a b) σ g Q E:=h
theorem Ju{f:Nat}(h:fe P a σ g (λxs g1=>P f xs g1 Q E) E):aX P (.call f a) σ g Q E:=h
theorem Qr{f:Nat}{c:Str}(h:fe P a σ g (λxs g1=>P f (.ref g1.length::xs) (g1++[.ins c []]) (λd g2=>d=.aQ/\Q (.ref g1.length) g2) E) E):aX P (.make c f a) σ g Q E:=h
theorem Ss{m:Str}{cs:List (Str×Nat)}(h:aX P o σ g (λx g1=>∃a' c fs f,x=.ref a'/\g1[a']?=some (.ins c fs)/\fs.lookup m=none/\cs.lookup c=some f/\fe P a σ g1 (λxs g2=>P f (x::xs) g2 Q E) E) E):aX P (.bp m cs o a) σ g Q E:=h
theorem Qs(h:aX P o σ g (λx g1=>lQ p x g1/\fe P a σ g1 (λxs g2=>cu p (x::xs) g2 Q) E) E):aX P (.cQ p o a) σ g Q E:=h
theorem WM(h:fe P a σ (g++[.bV []]) (λxs g1=>∃kvs,tE xs []=some kvs/\xs.length<=30/\g1[g.length]?=some (.bV [])/\Q (.ref g.length) (g1.set g.length (.bV kvs))) E):aX P (.nD a) σ g Q E:=h
theorem Hn{Q:List D->G->Prop}(h:Q [] g):fe P .nil σ g Q E:=h
theorem xa{Q:List D->G->Prop}(h:aX P a σ g (λx g1=>fe P b σ g1 (λxs g2=>Q (x::xs) g2) E) E):fe P (.cons a b) σ g Q E:=h
theorem Qv{Q:Bool->G->Prop}(h:dD P a σ g (λt g1=>if t=true then dD P b σ g1 Q E else Q false g1) E):dD P (.eY a b) σ g Q E:=h
theorem WO{Q:Bool->G->Prop}(h:dD P a σ g (λt g1=>if t=true then Q true g1 else dD P b σ g1 Q E) E):dD P (.iQ a b) σ g Q E:=h
theorem Qw{Q:Bool->G->Prop}(h:dD P a σ g (λt g1=>Q (!t) g1) E):dD P (.cJ a) σ g Q E:=h
theorem Hr{Q:Bool->G->Prop}(h:Q true g):dD P .no σ g Q E:=h
theorem Hs{Q:Bool->G->Prop}(h:aX P a σ g (λx g1=>pY g1 x λb=>Q b g1) E):dD P (.eQ a) σ g Q E:=h
end
section
variable{g:G}{Q:KD}{i j:Int}{kb:Bool->Prop}{t s:Bool}{l m:List D}
theorem UT(h:Q (.int (i+j)) g):cu (.bin .Add) [.int i,.int j] g Q:=⟨_,_,.inl ⟨i,j,_,rfl,rfl,rfl,rfl⟩,h⟩
theorem UU(h:Q (.int (i-j)) g):cu (.bin .Sub) [.int i,.int j] g Q:=⟨_,_,.inl ⟨i,j,_,rfl,rfl,rfl,rfl⟩,h⟩
theorem tN(c:rH i j)(h:Q (.int (i*j)) g):cu (.bin .Mult) [.int i,.int j] g Q:=⟨_,_,.inl ⟨i,j,_,rfl,⟨c,rfl⟩,rfl,rfl⟩,h⟩
theorem V7(c:0<j)(h:Q (.int (i % j)) g):cu (.bin .Mod) [.int i,.int j] g Q:=⟨_,_,.inl ⟨i,j,_,rfl,⟨c,rfl⟩,rfl,rfl⟩,h⟩
theorem Gw(c:BO i j)(h:Q (.int (i / j)) g):cu (.bin .FloorDiv) [.int i,.int j] g Q:=⟨_,_,.inl ⟨i,j,_,rfl,⟨c,rfl⟩,rfl,rfl⟩,h⟩
theorem yi(c:oU i j)(h:Q (.int (i ^ j.toNat)) g):cu (.bin .Pow) [.int i,.int j] g Q:=⟨_,_,.inl ⟨i,j,_,rfl,⟨c,rfl⟩,rfl,rfl⟩,h⟩
theorem Dv(hl:l.length+m.length<=100000)(h:Q (.tup (l++m)) g):cu (.bin .Add) [.tup l,.tup m] g Q:=⟨_,_,.inr (.inl ⟨rfl,.inl ⟨l,m,rfl,hl,rfl,rfl⟩⟩),h⟩
theorem UZ{x y:Str}(hl:x.length+y.length<=100000)(h:Q (.str (x++y)) g):cu (.bin .Add) [.str x,.str y] g Q:=⟨_,_,.inr (.inl ⟨rfl,.inr (.inr ⟨x,y,rfl,hl,rfl,rfl⟩)⟩),h⟩
theorem UY{i j:Nat}(hi:g[i]?=some (.lst l))(hj:g[j]?=some (.lst m))(hl:l.length+m.length<=100000)(h:Q (.ref g.length) (g++[.lst (l++m)])):cu (.bin .Add) [.ref i,.ref j] g Q:=⟨_,_,.inr (.inl ⟨rfl,.inr (.inl ⟨i,j,l,m,rfl,hi,hj,hl,rfl,rfl⟩)⟩),h⟩
theorem GC{i:Nat}{n:Int}(hi:g[i]?=some (.lst l))(h1:-(2 ^ 62)<=n)(h2:n<2 ^ 62)(hl:l.length*n.toNat<=100000)(h:Q (.ref g.length) (g++[.lst (List.replicate n.toNat l).flatten])):cu (.bin .Mult) [.ref i,.int n] g Q:=⟨_,_,.inr (.inr ⟨rfl,.inl ⟨i,l,n,rfl,hi,h1,h2,hl,rfl,rfl⟩⟩),h⟩
theorem WZ{n:Int}(dW:l≠[])(h1:1<=n)(h2:n<2 ^ 62)(hl:l.length*n.toNat<=100000)(h:Q (.tup (List.replicate n.toNat l).flatten) g):cu (.bin .Mult) [.tup l,.int n] g Q:=⟨_,_,.inr (.inr ⟨rfl,.inr ⟨l,n,rfl,dW,h1,h2,hl,rfl,rfl⟩⟩),h⟩
theorem WL(h:Q (.int (-i)) g):cu (.un .USub) [.int i] g Q:=⟨_,_,⟨rfl,i,rfl,rfl,rfl⟩,h⟩
theorem Y2{op:CmpOp}{x y:D}{b:Bool}(hb:Hv g x y b op)(h:Q (.bl b) g):cu (.cmp op) [x,y] g Q:=⟨_,_,⟨x,y,b,rfl,hb,rfl,rfl⟩,h⟩
theorem Ti(h:Q (.bl (decide (i<j))) g):cu (.cmp .Lt) [.int i,.int j] g Q:=Y2 ⟨i,j,rfl,rfl,rfl⟩ h
theorem Th(h:Q (.bl (decide (i<=j))) g):cu (.cmp .LtE) [.int i,.int j] g Q:=Y2 ⟨i,j,rfl,rfl,rfl⟩ h
theorem Tg(h:Q (.bl (decide (j<i))) g):cu (.cmp .Gt) [.int i,.int j] g Q:=Y2 ⟨i,j,rfl,rfl,rfl⟩ h
theorem Tf(h:Q (.bl (decide (j<=i))) g):cu (.cmp .GtE) [.int i,.int j] g Q:=Y2 ⟨i,j,rfl,rfl,rfl⟩ h
theorem BY{x y:D}(h:wx g x y λb=>Q (.bl b) g):cu (.cmp .Eq) [x,y] g Q:=let ⟨_,hb,h⟩:=h;Y2 hb h
theorem BZ{x y:D}(h:wx g x y λb=>Q (.bl (!b)) g):cu (.cmp .NotEq) [x,y] g Q:=let ⟨b,hb,h⟩:=h;Y2 (b:=!b) (show wu g x y (!(!b)) from by rw[ug];exact hb) h
theorem U2{x y:D}(h:sC g x y λb=>Q (.bl b) g):cu (.cmp .In) [x,y] g Q:=let ⟨_,hb,h⟩:=h;Y2 (.inl hb) h
theorem Q9{x y:D}(h:sC g x y λb=>Q (.bl (!b)) g):cu (.cmp .NotIn) [x,y] g Q:=let ⟨b,hb,h⟩:=h;Y2 (b:=!b) (.inl (show inR g x y (!(!b)) from by rw[ug];exact hb)) h
theorem GZ(h:kb (decide (i=j))):wx g (.int i) (.int j) kb:=⟨_,.inl ⟨i,j,rfl,rfl,rfl⟩,h⟩
theorem Gg(h:kb (t==s)):wx g (.bl t) (.bl s) kb:=⟨_,.inr (.inl ⟨t,s,rfl,rfl,rfl⟩),h⟩
theorem G'{x y:Str}(h:kb (decide (x=y))):wx g (.str x) (.str y) kb:=⟨_,.inr (.inr (.inl ⟨x,y,rfl,rfl,rfl⟩)),h⟩
theorem Vb(h:Q (.bl (decide (i=j))) g):cu (.cmp .Eq) [.int i,.int j] g Q:=BY (GZ h)
theorem GD(h:Q (.bl (!decide (i=j))) g):cu (.cmp .NotEq) [.int i,.int j] g Q:=BZ (GZ h)
theorem Va(h:Q (.bl (t==s)) g):cu (.cmp .Eq) [.bl t,.bl s] g Q:=BY (Gg h)
theorem Vl(h:Q (.bl (!(t==s))) g):cu (.cmp .NotEq) [.bl t,.bl s] g Q:=BZ (Gg h)
theorem Vc{p q:Str}(h:Q (.bl (decide (p=q))) g):cu (.cmp .Eq) [.str p,.str q] g Q:=BY (G' h)
theorem Vm{p q:Str}(h:Q (.bl (!decide (p=q))) g):cu (.cmp .NotEq) [.str p,.str q] g Q:=BZ (G' h)
theorem rL{d:D}(h:Q (.bl (V5 d)) g):cu (.cmp .Is) [d,.aQ] g Q:=Y2 ⟨rfl,rfl⟩ h
theorem Dw{d:D}(h:Q (.bl (!V5 d)) g):cu (.cmp .IsNot) [d,.aQ] g Q:=Y2 ⟨rfl,rfl⟩ h
theorem Vf(h:Q (.bl true) g):cu (.cmp .Is) [.aQ,.aQ] g Q:=rL h
theorem Vh(h:Q (.bl false) g):cu (.cmp .Is) [.int i,.aQ] g Q:=rL h
theorem Vg(h:Q (.bl false) g):cu (.cmp .Is) [.bl t,.aQ] g Q:=rL h
theorem Vj{x:Str}(h:Q (.bl false) g):cu (.cmp .Is) [.str x,.aQ] g Q:=rL h
theorem Vk(h:Q (.bl false) g):cu (.cmp .Is) [.tup l,.aQ] g Q:=rL h
theorem Vi{n:Nat}(h:Q (.bl false) g):cu (.cmp .Is) [.ref n,.aQ] g Q:=rL h
theorem Vd(h:Q (.bl false) g):cu (.cmp .IsNot) [.aQ,.aQ] g Q:=Dw h
theorem Ve(h:Q (.bl true) g):cu (.cmp .IsNot) [.int i,.aQ] g Q:=Dw h
theorem UO(h:kb t):pY g (.bl t) kb:=⟨t,.inr (.inl rfl),h⟩
theorem yD{i:Nat}(hl:d5 g i=some l)(h:kb (!l.isEmpty)):pY g (.ref i) kb:=⟨_,.inr (.inr (.inr (.inr ⟨i,l,rfl,hl,rfl⟩))),h⟩
theorem QD{t:Bool}{p:Bool->Prop}(h:p t):∃s,D.bl t=D.bl s/\p s:=⟨t,rfl,h⟩
theorem Xk{p:Int->Prop}(h:p i):∃s,D.int i=D.int s/\p s:=⟨i,rfl,h⟩
theorem if2{c:Prop}[Decidable c]{A B:Prop}(h1:c->A)(h2:¬c->B):if decide c=true then A else B:=by
 by_cases h:c
 ·rw[au (aC h)];exact h1 h
 ·rw[ax (by rw[aG h];decide)];exact h2 h
theorem pE{A B:Prop}(h:A):if true=true then A else B:=by rw[au rfl];exact h
theorem pV{A B:Prop}(h:B):if false=true then A else B:=by rw[ax (by decide)];exact h
theorem Tu{A B:Prop}(h:A):if(!false)=true then A else B:=by rw[au (show(!false)=true from rfl)];exact h
theorem Tv{A B:Prop}(h:B):if(!true)=true then A else B:=by rw[ax (by decide)];exact h
theorem dG{b:Bool}{A B:Prop}(hb:b=false)(h:B):if b=true then A else B:=by rw[hb];exact pV h
theorem fJ{b:Bool}{A B:Prop}(hb:b=true)(h:A):if b=true then A else B:=by rw[hb];exact pE h
theorem j7{a:Nat}{d:D}(hl:d5 g a=some l)(h2:fW l i=some d)(h:Q d g):cu .ix [.ref a,.int i] g Q:=⟨_,_,⟨rfl,.inl ⟨_,l,i,rfl,hl,h2⟩⟩,h⟩
theorem tH{d:D}(h2:fW l i=some d)(h:Q d g):cu .ix [.tup l,.int i] g Q:=⟨_,_,⟨rfl,.inl ⟨_,l,i,rfl,rfl,h2⟩⟩,h⟩
theorem i8{i:Nat}{kvs:List (Key×D)}{y v:D}{k:Key}(hg:g[i]?=some (.bV kvs))(hk:pb y=some k)(hv:K2 kvs k=some v)(h:Q v g):cu .ix [.ref i,y] g Q:=⟨_,_,⟨rfl,.inr (.inl ⟨i,kvs,y,k,rfl,hg,hk,hv⟩)⟩,h⟩
theorem Q5{a n:Nat}{v:D}{kg:G->Prop}(hl:g[a]?=some (.lst l))(hn:kG l.length i=some n)(h:kg (g.set a (.lst (l.set n v)))):Z9 (.ref a) (.int i) v g kg:=⟨_,.inl ⟨a,i,l,n,rfl,rfl,hl,hn,rfl⟩,h⟩
theorem Hd{i:Nat}{kvs:List (Key×D)}{y v:D}{k:Key}{kg:G->Prop}(hg:g[i]?=some (.bV kvs))(hk:pb y=some k)(hl:kvs.length<100000)(h:kg (g.set i (.bV (putD kvs k v)))):Z9 (.ref i) y v g kg:=⟨_,.inr ⟨i,kvs,k,rfl,hg,hk,hl,rfl⟩,h⟩
theorem o8{f c:Str}{cs:List Str}{a:Nat}{fs:List (Str×D)}{v:D}{kg:G->Prop}(hg:g[a]?=some (.ins c fs))(hc:c∈cs)(hl:fs.length<100)(h:kg (g.set a (.ins c (q8 f v fs)))):wQ f cs (.ref a) v g kg:=⟨_,⟨a,c,fs,rfl,hg,hc,hl,rfl⟩,h⟩
theorem j2{f c:Str}{a:Nat}{fs:List (Str×D)}{d:D}(hg:g[a]?=some (.ins c fs))(hf:fs.lookup f=some d)(h:Q d g):cu (.fld f) [.ref a] g Q:=⟨_,_,⟨a,c,fs,rfl,hg,hf,rfl⟩,h⟩
theorem a7{a:Nat}(h:g[a]?=some (.lst l)):d5 g a=some l:=by simp only[d5,h,DZ]
theorem a01{a:Nat}(h:g[a]?=some (.oR l)):d5 g a=some l:=by simp only[d5,h,DZ]
theorem k9{a:Nat}(hl:d5 g a=some l)(h:Q (.int l.length) g):cu .len [.ref a] g Q:=⟨_,_,⟨rfl,.inl ⟨_,l,rfl,hl,rfl⟩⟩,h⟩
theorem VM(h:Q (.int l.length) g):cu .len [.tup l] g Q:=⟨_,_,⟨rfl,.inl ⟨_,l,rfl,rfl,rfl⟩⟩,h⟩
theorem PK(h:Q (.tup (cut l (some i) none)) g):cu (.jF true false) [.tup l,.int i] g Q:=⟨_,_,⟨_,i,rfl,.inl ⟨l,rfl,rfl,rfl⟩⟩,h⟩
theorem PJ(h:Q (.tup (cut l none (some i))) g):cu (.jF false true) [.tup l,.int i] g Q:=⟨_,_,⟨_,i,rfl,.inl ⟨l,rfl,rfl,rfl⟩⟩,h⟩
theorem Jm{a:Nat}(hl:d5 g a=some l)(h:Q (.ref g.length) (g++[.lst (cut l (some i) none)])):cu (.jF true false) [.ref a,.int i] g Q:=⟨_,_,⟨_,i,rfl,.inr ⟨a,l,rfl,hl,rfl,rfl⟩⟩,h⟩
theorem PH{a:Nat}(hl:d5 g a=some l)(h:Q (.ref g.length) (g++[.lst (cut l none (some i))])):cu (.jF false true) [.ref a,.int i] g Q:=⟨_,_,⟨_,i,rfl,.inr ⟨a,l,rfl,hl,rfl,rfl⟩⟩,h⟩
theorem Wo{a:Nat}(hl:d5 g a=some l)(h:Q (.ref g.length) (g++[.lst l.reverse])):cu .rev [.ref a] g Q:=⟨_,_,.inr ⟨a,l,rfl,hl,rfl,rfl⟩,h⟩
theorem DK(hl:l.length<=1000)(h:Q (.tup l) g):cu .tup l g Q:=⟨_,_,⟨hl,rfl,rfl⟩,h⟩
theorem DI(hl:l.length<=1000)(h:Q (.ref g.length) (g++[.lst l])):cu .lst l g Q:=⟨_,_,⟨hl,rfl,rfl⟩,h⟩
theorem V1{a:Nat}(hl:d5 g a=some l)(h:Q (.ref g.length) (g++[.lst l])):cu .list [.ref a] g Q:=⟨_,_,.inl ⟨_,l,rfl,hl,rfl,rfl⟩,h⟩
theorem VP(h:Q (.ref g.length) (g++[.lst l])):cu .list [.tup l] g Q:=⟨_,_,.inl ⟨_,l,rfl,rfl,rfl,rfl⟩,h⟩
theorem Hk{a:Nat}(hl:d5 g a=some l)(h:Q (.tup l) g):cu .tuple [.ref a] g Q:=⟨_,_,⟨_,l,rfl,hl,rfl,rfl⟩,h⟩
theorem Hl(h:Q (.tup l) g):cu .tuple [.tup l] g Q:=⟨_,_,⟨_,l,rfl,rfl,rfl,rfl⟩,h⟩
theorem fV{d:D}{c:String}{b:Bool}(hc:c∈["int","bool","str","tuple","list"])(hb:rO g d c=some b)(h:Q (.bl b) g):cu .isin [d,.ty c] g Q:=⟨_,_,⟨d,c,b,rfl,hc,hb,rfl,rfl⟩,h⟩
theorem E4{i:Nat}{y:D}(hg:g[i]?=some (.lst l))(hl:l.length<100000)(h:Q .aQ (g.set i (.lst (l++[y])))):cu .append [.ref i,y] g Q:=⟨_,_,⟨i,y,l,rfl,hg,hl,rfl,rfl⟩,h⟩
theorem Ec{x:Str}:lQ .join (.str x) g:=⟨x,rfl⟩
theorem D'{sep:Str}{i:Nat}{ys:List Str}(hl:d5 g i=some (ys.map .str))(hz:C6 sep ys<=100000)(h:Q (.str (Builtin.Str.glued sep ys)) g):cu .join [.str sep,.ref i] g Q:=⟨_,_,⟨sep,i,ys,rfl,hl,hz,rfl,rfl⟩,h⟩
theorem Jc{l:List D}:lQ .index (.tup l) g:=.inl ⟨l,rfl⟩
theorem Jb{a:Nat}{l:List D}(hl:d5 g a=some l):lQ .index (.ref a) g:=.inr ⟨a,l,rfl,hl⟩
theorem GV{l:List D}{y:D}{n:Nat}(W:P8 l y n)(hz:l.length<=100000)(h:Q (.int n) g):cu .index [.tup l,y] g Q:=⟨_,_,⟨_,y,l,n,rfl,rfl,W,hz,rfl,rfl⟩,h⟩
theorem GU{a:Nat}{l:List D}{y:D}{n:Nat}(hl:d5 g a=some l)(W:P8 l y n)(hz:l.length<=100000)(h:Q (.int n) g):cu .index [.ref a,y] g Q:=⟨_,_,⟨_,y,l,n,rfl,hl,W,hz,rfl,rfl⟩,h⟩
theorem Le{l m:List D}(hl:l.length+m.length<=100000)(h:Q (.tup (l++m)) g):cu .iadd [.tup l,.tup m] g Q:=⟨_,_,.inr ⟨l,m,rfl,hl,rfl,rfl⟩,h⟩
theorem A4{i:Nat}(hg:g[i]?=some (.lst l)):lQ .append (.ref i) g:=⟨i,l,rfl,a7 hg⟩
theorem Mr{j:Int}(h1:-(2 ^ 62)<=j)(h2:j<=100000)(h:Q (.ref g.length) (g++[.lst (k8 0 j.toNat)])):cu .jK [.int j] g Q:=⟨_,_,⟨j,rfl,h1,h2,rfl,rfl⟩,h⟩
theorem Ff{i j:Int}(h1:-(2 ^ 62)<=i/\i<2 ^ 62/\-(2 ^ 62)<=j/\j<2 ^ 62/\j-i<=100000)(h:Q (.ref g.length) (g++[.lst (k8 i (j-i).toNat)])):cu .jJ [.int i,.int j] g Q:=⟨_,_,⟨i,j,rfl,h1,rfl,rfl⟩,h⟩
theorem Wa{ns ms:List Int}(h1:∀k∈ns,ST.Spot k)(h2:∀k∈ms,ST.Spot k)(hl:ns.length+ms.length<50)(h:Q (.ref g.length) (g++[.lst ((K5 (ns++ms)).map .int)])):cu .uw [.tup (ns.map .int),.tup (ms.map .int)] g Q:=⟨_,_,⟨ns,ms,rfl,h1,h2,hl,rfl,rfl⟩,h⟩
theorem QY{i:Nat}(hg:g[i]?=some (.lst l))(h:Q .aQ (g.set i (.lst []))):cu .clear [.ref i] g Q:=⟨_,_,⟨i,l,rfl,hg,rfl,rfl⟩,h⟩
theorem wX{i:Nat}{y:D}(hg:g[i]?=some (.lst (l++[y])))(h:Q y (g.set i (.lst l))):cu .jk [.ref i] g Q:=⟨_,_,⟨i,l,rfl,hg,rfl⟩,h⟩
theorem a83{i:Nat}(hg:g[i]?=some (.lst l)):lQ .clear (.ref i) g:=⟨i,l,rfl,a7 hg⟩
theorem Y7{i:Nat}(hg:g[i]?=some (.lst l)):lQ .jk (.ref i) g:=⟨i,l,rfl,a7 hg⟩
theorem Rq{i:Nat}{kvs:List (Key×D)}(hg:g[i]?=some (.bV kvs))(h:Q (.ref g.length) (g++[.bV kvs])):cu .jU [.ref i] g Q:=⟨_,_,⟨i,kvs,rfl,hg,rfl,rfl⟩,h⟩
theorem VD{v:Bool}(h:Q (.int (if v then 1 else 0)) g):cu .int [.bl v] g Q:=⟨_,_,⟨rfl,.inr ⟨v,rfl,rfl⟩⟩,h⟩
theorem DJ{i:Int}(hi:i.natAbs.log2<1920)(h:Q (.str (toString i)) g):cu .str [.int i] g Q:=⟨_,_,.inl ⟨i,rfl,hi,rfl,rfl⟩,h⟩
theorem OE{x:Str}(h:Q (.str x) g):cu .str [.str x] g Q:=⟨_,_,.inr ⟨x,rfl,rfl,rfl⟩,h⟩
theorem Vy{kvs:List D}{x:Str}(h:Q (.bl (!(rZ kvs x).isSome)) g):cu .oQ [.tup kvs,.str x] g Q:=⟨_,_,⟨kvs,x,rfl,rfl,rfl⟩,by rw[Bool.true_xor];exact h⟩
theorem yp{kvs:List D}{x:Str}{v:D}(hv:rZ kvs x=some v)(h:Q v g):cu .mT [.tup kvs,.str x] g Q:=⟨_,_,⟨kvs,x,rfl,hv,rfl⟩,h⟩
theorem OD{x:Str}(hx:V4 l=some x)(h:Q (.str x) g):cu .lD l g Q:=⟨_,_,⟨x,hx,rfl,rfl⟩,h⟩
theorem yj{i:Nat}{v:Bool}(hl:d5 g i=some l)(hv:O8 l=some v)(h:Q (.bl v) g):cu .all [.ref i] g Q:=⟨_,_,⟨i,l,v,rfl,hl,.inl hv,rfl,rfl⟩,h⟩
theorem s9{i:Nat}{x:D}{σ:S}{k:S->Prop}(h:k (σ.set i (some x))):jY (.one i) x σ k:=h
theorem ze{is:List Nat}{σ cj:S}{k:S->Prop}(e:B7 is l σ=some cj)(h:k cj):jY (.many is) (.tup l) σ k:=⟨l,cj,rfl,e,h⟩
end
theorem a28:∀(bs:List Bool),O8 (bs.map D.bl)=some (bs.all id):=by
 intro bs
 induction bs with
 |nil=>rfl
 |cons b r ih=>simp[O8,ih]
theorem call_of{T:Nat->Option aY}{k f:Nat}{m:aY}{ds:List D}{g:G}{Q:KD}{E:KX}(hT:T f=some m)(hl:ds.length=m.ar)(h:wpS (a9 T k) m.body ⟨λ_ g'=>Q .aQ g',Q,λ_ _=>False,λ_ _=>False⟩ (b5 m ds) g E):a9 T (k+1) f ds g Q E:=⟨m,hT,hl,h⟩
theorem c9{P:fo}{σ:S}{g:G}{Q:KD}{E:KX}{a:ME}{i f:Nat}{c m:Str}{fs:List (Str×D)}{cs:List (Str×Nat)}(hg:g[i]?=some (.ins c fs))(hf:fs.lookup m=none)(hc:cs.lookup c=some f)(h:fe P a σ g (λxs g2=>P f (.ref i::xs) g2 Q E) E) :
  ∃a' c fs f,D.ref i=.ref a'/\g[a']?=some (.ins c fs)/\fs.lookup m=none/\cs.lookup c=some f/\fe P a σ g (λxs g2=>P f (.ref i::xs) g2 Q E) E:=⟨i,c,fs,f,rfl,hg,hf,hc,h⟩
def IK.Is(k:IK)(l:List D)(g:G):Prop:=∀i,k.at i g=some l[i]?
theorem P6{l:List D}{g:G}:(IK.fix l).Is l g:=λ_=>rfl
theorem K8{a:Nat}{l:List D}{g:G}(h:d5 g a=some l):(IK.lst a).Is l g:=λi=>by simp only[IK.at,h]
theorem H9{lo:Int}{n i:Nat}{x:D}(h:(k8 lo n)[i]?=some x):i<n/\x=.int (lo+i):=by
 unfold k8 at h;have hi:i<n:=by
  have:=(aq.mp h).1;simpa using this
 rw[aE,jg hi] at h;cases h;exact⟨hi,rfl⟩
theorem C3(lo:Int)(n:Nat):(k8 lo n).length=n:=by simp[k8]
section
variable{P:fo}{σ:S}{g:G}{E:KX}{N:Ends}{it a b c o:ME}{s:MS}{t:MT}{Q:KD}
theorem a36{k:IK}{l:List D}{fin:S->G->Prop}{turn:D->(S->G->Prop)->S->G->Prop}(I:Nat->S->G->Prop)(hk:∀i σ g,I i σ g->k.Is l g)(h0:I 0 σ g)(hs:∀i x σ g,l[i]?=some x->I i σ g->turn x (I (i+1)) σ g)(hd:∀σ g,I l.length σ g->fin σ g):turns k σ g fin turn:=by
 refine⟨λi m σ g=>m=l.length-i/\i<=l.length/\I i σ g,⟨l.length,by simp,cI _,h0⟩,?_⟩;rintro i m σ g ⟨rfl,hi,p⟩;rw[hk i σ g p i];by_cases dQ:i<l.length
 ·rw[ao dQ];exact .inr ⟨_,rfl,I (i+1),λcj g' p'=>⟨l.length-(i+1),by omega,rfl,dQ,p'⟩,hs i l[i] σ g (ao dQ) p⟩
 ·have e:i=l.length:=by omega
  subst e;rw[cM (aj _)];exact .inl ⟨rfl,hd σ g p⟩
theorem Q4(hP:i6 P)(h:iZ P it σ g (λk g1=>∃(l:List D) (I:Nat->S->G->Prop),(∀i σ g,I i σ g->k.Is l g)/\I 0 σ g1 /\
      (∀ i x σ g,l[i]?=some x->I i σ g->jY t x σ λde=>wpS P s ⟨I (i + 1),N.rt,N.nx,I (i + 1)⟩ de g E)/\∀ σ g,I l.length σ g->N.nx σ g) E):wpS P (.fS t it s) N σ g E :=
  A6 hP it _ _ _ _ _ _ (λk g1 hq=>by obtain⟨l,I,hk,h0,hs,hd⟩:=hq;exact a36 I hk h0 hs hd) (λ_ _ z=>z) h
theorem S2{d4:List Nat}{n:Nat}{cond elt:ME}(hP:i6 P)(h:iZ P it σ g (λk g1=>∃(l:List D) (I:Nat->List D->S->G->Prop),l.length<=1000/\(∀i ys σ g,I i ys σ g->k.Is l g/\ys.length<=i)/\I 0 [] (O7 σ d4 n) g1 /\
      (∀i x ys σ g,l[i]?=some x->I i ys σ g->jY t x σ λde=>dD P cond de g (λc g3=>if c=true then aX P elt de g3 (λy g4=>I (i+1) (ys++[y]) de g4) jz else I (i+1) ys de g3) jz) /\
      ∀ ys σ g,I l.length ys σ g->Q (.ref g.length) (g ++ [.lst ys])) E):aX P (.comp d4 n t it cond elt) σ g Q E:=by
  refine A6 hP it _ _ _ _ _ _ (λk g1 h=>?_) (λ_ _ z=>z) h;obtain⟨l,I,hl,hk,h0,hs,hd⟩:=h;refine⟨λi m ys σ g=>m=l.length-i/\i<=l.length/\I i ys σ g,⟨l.length,by simp,cI _,h0⟩,?_⟩;rintro i m ys σ g ⟨rfl,hi,p⟩;obtain⟨AK,hy⟩:=hk i ys σ g p;rw[AK i];by_cases dQ:i<l.length
  · rw[ao dQ];refine .inr ⟨_,rfl,by omega,B4 (λde q=>o9 hP cond _ _ _ _ _ _ (λc g3 q=>?_) (λ_ _ z=>z) q) (hs i l[i] ys σ g (ao dQ) p)⟩;cases c
    · exact⟨l.length-(i+1),by omega,rfl,dQ,by simpa using(show I (i+1) ys de g3 from q)⟩
    · exact b8 hP elt _ _ _ _ _ _ (λy g4 q=>⟨l.length-(i+1),by omega,rfl,dQ,by simpa using q⟩) (λ_ _ z=>z) q
  · have e:i=l.length:=by omega
    subst e;rw[cM (aj _)];exact .inl ⟨rfl,hd ys σ g p⟩
theorem Sv{d4:List Nat}{n:Nat}{cond elt:ME}(hP:i6 P)(h:iZ P it σ g (λk g1=>∃(l:List D) (I:Nat->List D->S->G->Prop),l.length<=1000/\(∀i ys σ g,I i ys σ g->k.Is l g/\ys.length<=i)/\I 0 [] (O7 σ d4 n) g1 /\
      (∀i x ys σ g,l[i]?=some x->I i ys σ g->jY t x σ λde=>dD P cond de g (λc g3=>if c=true then aX P elt de g3 (λy g4=>I (i+1) (ys++[y]) de g4) E else I (i+1) ys de g3) jz) /\
      ∀ ys σ g,I l.length ys σ g->Q (.ref g.length) (g ++ [.lst ys])) E):aX P (.gI d4 n t it cond elt) σ g Q E:=by
  refine A6 hP it _ _ _ _ _ _ (λk g1 h=>?_) (λ_ _ z=>z) h;obtain⟨l,I,hl,hk,h0,hs,hd⟩:=h;refine⟨λi m ys σ g=>m=l.length-i/\i<=l.length/\I i ys σ g,⟨l.length,by simp,cI _,h0⟩,?_⟩;rintro i m ys σ g ⟨rfl,hi,p⟩;obtain⟨AK,hy⟩:=hk i ys σ g p;rw[AK i];by_cases dQ:i<l.length
  · rw[ao dQ];refine .inr ⟨_,rfl,by omega,B4 (λde q=>o9 hP cond _ _ _ _ _ _ (λc g3 q=>?_) (λ_ _ z=>z) q) (hs i l[i] ys σ g (ao dQ) p)⟩;cases c
    · exact⟨l.length-(i+1),by omega,rfl,dQ,by simpa using(show I (i+1) ys de g3 from q)⟩
    · exact b8 hP elt _ _ _ _ _ _ (λy g4 q=>⟨l.length-(i+1),by omega,rfl,dQ,by simpa using q⟩) (λ_ _ z=>z) q
  · have e:i=l.length:=by omega
    subst e;rw[cM (aj _)];exact .inl ⟨rfl,hd ys σ g p⟩
theorem Z6{d4:List Nat}{n:Nat}{cond elt:ME}(hP:i6 P)(h:aX P a σ g (λx g1=>∃j:Nat,x=.int j/\j<=1000/\∃I:Nat->List D->S->G->Prop,I 0 [] (O7 σ d4 n) g1/\(∀i ys σ g,I i ys σ g->ys.length<=i) /\
      (∀(i:Nat) ys σ g,i<j->I i ys σ g->jY t (.int i) σ λde=>dD P cond de g (λc g3=>if c=true then aX P elt de g3 (λy g4=>I (i+1) (ys++[y]) de g4) jz else I (i+1) ys de g3) jz) /\
      ∀ ys σ g,I j ys σ g->Q (.ref g.length) (g ++ [.lst ys])) E):aX P (.comp d4 n t (.fP a) cond elt) σ g Q E:=by
  refine S2 hP ?_;refine b8 hP a _ _ _ _ _ _ (λx g1 h=>?_) (λ_ _ z=>z) h;obtain⟨j,rfl,hj,I,h0,hz,hs,hd⟩:=h;refine⟨j,rfl,by omega,by omega,_,I,by rw[C3];simpa using hj,λi ys σ g p=>⟨P6,hz i ys σ g p⟩,h0,λi x ys σ g hx p=>?_,λys σ g p=>hd ys σ g (by rw[C3] at p;simpa using p)⟩;obtain⟨hi,rfl⟩:=H9 hx;rw[show(0:Int)+(i:Int)=i by omega];exact hs i ys σ g (by simpa using hi) p
theorem ZO{d4:List Nat}{n:Nat}{cond elt:ME}(hP:i6 P)(h:aX P a σ g (λx g1=>∃l,x=.tup l/\l.length<=1000/\∃I:Nat->List D->S->G->Prop,I 0 [] (O7 σ d4 n) g1/\(∀i ys σ g,I i ys σ g->ys.length<=i) /\
      (∀(i:Nat) x ys σ g,l[i]?=some x->I i ys σ g->jY t x σ λde=>dD P cond de g (λc g3=>if c=true then aX P elt de g3 (λy g4=>I (i+1) (ys++[y]) de g4) jz else I (i+1) ys de g3) jz) /\
      ∀ ys σ g,I l.length ys σ g->Q (.ref g.length) (g ++ [.lst ys])) E):aX P (.comp d4 n t (.iN a) cond elt) σ g Q E:=by
  refine S2 hP ?_;refine b8 hP a _ _ _ _ _ _ (λx g1 h=>?_) (λ_ _ z=>z) h;obtain⟨l,rfl,hj,I,h0,hz,hs,hd⟩:=h;exact .inl ⟨l,rfl,_,I,hj,λi ys σ g p=>⟨P6,hz i ys σ g p⟩,h0,hs,hd⟩
theorem zt(hP:i6 P){R:IK->G->Prop}(h:aX P a σ g (λx g1=>∃j:Int,x=.int j/\-(2 ^ 62)<=j/\j<2 ^ 62/\R (.fix (k8 0 j.toNat)) g1) E):iZ P (.fP a) σ g R E:=h
theorem HA(hP:i6 P){R:IK->G->Prop}(h:aX P a σ g (λx g1=>aX P b σ g1 (λy g2=>∃i j:Int,x=.int i/\y=.int j/\(-(2 ^ 62)<=i/\i<2 ^ 62/\-(2 ^ 62)<=j/\j<2 ^ 62)/\R (.fix (k8 i (j-i).toNat)) g2) E) E):iZ P (.iM a b) σ g R E:=h
theorem og(hP:i6 P){R:IK->G->Prop}(h:aX P a σ g (λx g1=>∃i l,x=.ref i/\d5 g1 i=some l/\R (.lst i) g1) E):iZ P (.iN a) σ g R E:=by
 exact b8 hP a _ _ _ _ _ _ (λx g1 h=>.inr h) (λ_ _ z=>z) h
end
end M

namespace M
open PySem L2 PySem.Spec PyProof.Rows
structure RF where
 id:Nat
 nm:Str
 N:List Str
 k:Nat
 i:Nat
 m:aY
structure RM where
 id:Nat
 cl:Str
 nm:Str
 qn:Str
 N:List Str
 k:Nat
 i:Nat
 j:Nat
 m:aY
def RF.d(tp:Nat->Stmt)(r:RF):pj:=⟨r.nm,r.nm,r.N,r.N.take r.k,tp r.i⟩
def RM.d(mt:Nat->Nat->Stmt)(r:RM):pj:=⟨r.nm,r.qn,r.N,r.N.take r.k,mt r.i r.j⟩
def tK(F:List RF)(M:List RM)(i:Nat):Option aY:=match F.find? λr=>Nat.beq r.id i with
 |some r=>some r.m
 |none=>(M.find? λr=>Nat.beq r.id i).map (·.m)
section
variable(tp:Nat->Stmt)(mt:Nat->Nat->Stmt)(K:PySem.W.Frag)
def PF:List RF->Prop
 |[]=>True
 |r::l=>(∃f fd,PySem.W.nsIn K mainGlobals r.nm=some (some (.ref f))/\qb K r.nm r.nm (tp r.i) f fd)/\PF l
def PM:List RM->Prop
 |[]=>True
 |r::l=>(∃C f fd,PySem.W.nsIn K mainGlobals r.cl=some (some (.ref C))/\Meth K C r.nm f/\qb K r.nm r.qn (mt r.i r.j) f fd)/\PM l
def PC:List (Str×Nat)->Prop
 |[]=>True
 |r::l=>(∃C,PySem.W.nsIn K mainGlobals r.1=some (some (.ref C))/\iT K C/\PySem.W.makesIn K C=true/\PySem.W.keepIn K (.ref C)=true)/\PC l
def PA:List (Str×Str)->Prop
 |[]=>True
 |r::l=>(∃C,PySem.W.nsIn K mainGlobals r.2=some (some (.ref C))/\PySem.W.findIn K (.ref C) r.1=some none)/\PA l
def PB:List Str->Prop
 |[]=>True
 |r::l=>PySem.W.nsIn K mainGlobals r=some none/\PB l
def PX:List Str->Prop
 |[]=>True
 |r::l=>(∃C,PySem.W.nsIn K mainGlobals r=some (some (.ref C))/\PySem.W.excIn K C [.type "ValueError",.type "Exception",.type "BaseException",.type "object"] "ValueError.__new__"=true)/\PX l
def BF:List RF->Prop
 |[]=>True
 |r::l=>(∀(kV doc pm:Value) (an:Option Addr) (fG ct:Value) (us:List Value),us.length=(r.N.take r.k).length->bindArgs (PySem.W.fnOf r.nm r.nm (A3 (tp r.i)) (l0 (tp r.i)) (k7 (tp r.i)) .none kV doc pm an fG ct) ⟨us,[]⟩=pure ((r.N.take r.k).zip us))/\BF l
def BM:List RM->Prop
 |[]=>True
 |r::l=>(∀(kV doc pm:Value) (an:Option Addr) (fG ct:Value) (us:List Value),us.length=(r.N.take r.k).length->bindArgs (PySem.W.fnOf r.nm r.qn (A3 (mt r.i r.j)) (l0 (mt r.i r.j)) (k7 (mt r.i r.j)) .none kV doc pm an fG ct) ⟨us,[]⟩=pure ((r.N.take r.k).zip us))/\BM l
def YF(c:d7):List RF->Prop
 |[]=>True
 |r::l=>v9 (comp 60) (c.at (r.d tp)) (l0 (tp r.i))=some r.m.body/\YF c l
def YM(c:d7):List RM->Prop
 |[]=>True
 |r::l=>v9 (comp 60) (c.at (r.d mt)) (l0 (mt r.i r.j))=some r.m.body/\YM c l
end
section
variable{tp:Nat->Stmt}{mt:Nat->Nat->Stmt}{K:PySem.W.Frag}{c:d7}{id k i j:Nat}{cl nm qn x:Str}{N:List Str}{m:aY}{f C:Addr}{oc kV doc pm fG ct:Value}{od an:Option Addr}{lP:Array (Option Value)}
theorem PF.nil:PF tp K []:=trivial
theorem PF.cons{l:List RF}(a:PySem.W.nsIn K mainGlobals nm=some (some (.ref f)))(lk:K.lookup f=some ⟨oc,od,.func (PySem.W.fnOf nm nm (A3 (tp i)) (l0 (tp i)) (k7 (tp i)) .none kV doc pm an fG ct),lP⟩)(cd:PySem.W.codeIn K fG nm=true)(kp:PySem.W.keepIn K (.ref f)=true)(h:PF tp K l):PF tp K (⟨id,nm,N,k,i,m⟩::l):=⟨⟨f,_,a,Lc lk cd kp⟩,h⟩
theorem PM.nil:PM mt K []:=trivial
theorem PM.cons{l:List RM}(c0:PySem.W.nsIn K mainGlobals cl=some (some (.ref C)))(a:PySem.W.findIn K (.ref C) nm=some (some (.ref f)))(af:PySem.W.isFn K (.ref f)=true)(lk:K.lookup f=some ⟨oc,od,.func (PySem.W.fnOf nm qn (A3 (mt i j)) (l0 (mt i j)) (k7 (mt i j)) .none kV doc pm an fG ct),lP⟩)(cd:PySem.W.codeIn K fG qn=true)(kp:PySem.W.keepIn K (.ref f)=true)(h:PM mt K l):PM mt K (⟨id,cl,nm,qn,N,k,i,j,m⟩::l):=⟨⟨C,f,_,c0,⟨a,af,kp⟩,Lc lk cd kp⟩,h⟩
theorem PC.nil:PC K []:=trivial
theorem PC.cons{l:List (Str×Nat)}(cn:PySem.W.nsIn K mainGlobals x=some (some (.ref C)))(cp:PySem.W.plainGet K C Str.empty=true)(Oz:PySem.W.hasDictIn K C=true)(Ow:PySem.W.plainOver K C=true)(Ov:PySem.W.findIn K (.ref C) "__setattr__"=some (some (.builtin "object.__setattr__")))(Ox:PySem.W.makesIn K C=true)(Oy:PySem.W.keepIn K (.ref C)=true)(h:PC K l):PC K ((x,i)::l):=⟨⟨C,cn,⟨cp,Oz,Ow,Ov⟩,Ox,Oy⟩,h⟩
theorem PA.nil:PA K []:=trivial
theorem PA.cons{l:List (Str×Str)}(cn:PySem.W.nsIn K mainGlobals x=some (some (.ref C)))(fl:PySem.W.findIn K (.ref C) nm=some none)(h:PA K l):PA K ((nm,x)::l):=⟨⟨C,cn,fl⟩,h⟩
theorem PB.nil:PB K []:=trivial
theorem PB.cons{l:List Str}(cn:PySem.W.nsIn K mainGlobals x=some none)(h:PB K l):PB K (x::l):=⟨cn,h⟩
theorem PX.nil:PX K []:=trivial
theorem PX.cons{l:List Str}(cn:PySem.W.nsIn K mainGlobals x=some (some (.ref C)))(q:PySem.W.excIn K C [.type "ValueError",.type "Exception",.type "BaseException",.type "object"] "ValueError.__new__"=true)(h:PX K l):PX K (x::l):=⟨⟨C,cn,q⟩,h⟩
theorem EG{P:List Value->Prop}{n:Nat}(h:∀a vs,vs.length=n->P (a::vs))(us:List Value)(hl:us.length=n+1):P us:=by
 cases us with
 |nil=>cases hl
 |cons a vs=>exact h a vs (Nat.succ.inj hl)
theorem EF{P:List Value->Prop}(h:P [])(us:List Value)(hl:us.length=0):P us:=by
 cases List.length_eq_zero_iff.mp hl;exact h
theorem BF.nil:BF tp []:=trivial
theorem BF.cons{l:List RF}(h:∀(kV doc pm:Value) (an:Option Addr) (fG ct:Value) (us:List Value),us.length=(N.take k).length->bindArgs (PySem.W.fnOf nm nm (A3 (tp i)) (l0 (tp i)) (k7 (tp i)) .none kV doc pm an fG ct) ⟨us,[]⟩=pure ((N.take k).zip us))(h2:BF tp l):BF tp (⟨id,nm,N,k,i,m⟩::l):=⟨h,h2⟩
theorem BM.nil:BM mt []:=trivial
theorem BM.cons{l:List RM}(h:∀(kV doc pm:Value) (an:Option Addr) (fG ct:Value) (us:List Value),us.length=(N.take k).length->bindArgs (PySem.W.fnOf nm qn (A3 (mt i j)) (l0 (mt i j)) (k7 (mt i j)) .none kV doc pm an fG ct) ⟨us,[]⟩=pure ((N.take k).zip us))(h2:BM mt l):BM mt (⟨id,cl,nm,qn,N,k,i,j,m⟩::l):=⟨h,h2⟩
theorem YF.nil:YF tp c []:=trivial
theorem YF.cons{l:List RF}(h:v9 (comp 60) (c.at ⟨nm,nm,N,N.take k,tp i⟩) (l0 (tp i))=some m.body)(h2:YF tp c l):YF tp c (⟨id,nm,N,k,i,m⟩::l):=⟨h,h2⟩
theorem YM.nil:YM mt c []:=trivial
theorem YM.cons{l:List RM}(h:v9 (comp 60) (c.at ⟨nm,qn,N,N.take k,mt i j⟩) (l0 (mt i j))=some m.body)(h2:YM mt c l):YM mt c (⟨id,cl,nm,qn,N,k,i,j,m⟩::l):=⟨h,h2⟩
theorem YF.get:∀{l:List RF},YF tp c l->∀r∈l,v9 (comp 60) (c.at (r.d tp)) (l0 (tp r.i))=some r.m.body
 |_::_,h,r,hr=>(aI.mp hr).elim (λz=>z▸h.1) (YF.get h.2 r)
theorem YM.get:∀{l:List RM},YM mt c l->∀r∈l,v9 (comp 60) (c.at (r.d mt)) (l0 (mt r.i r.j))=some r.m.body
 |_::_,h,r,hr=>(aI.mp hr).elim (λz=>z▸h.1) (YM.get h.2 r)
theorem PF.get:∀{l:List RF},PF tp K l->∀r∈l,∃f fd,PySem.W.nsIn K mainGlobals r.nm=some (some (.ref f))/\qb K r.nm r.nm (tp r.i) f fd
 |_::_,h,r,hr=>(aI.mp hr).elim (λz=>z▸h.1) (PF.get h.2 r)
theorem PM.get:∀{l:List RM},PM mt K l->∀r∈l,∃C f fd,PySem.W.nsIn K mainGlobals r.cl=some (some (.ref C))/\Meth K C r.nm f/\qb K r.nm r.qn (mt r.i r.j) f fd
 |_::_,h,r,hr=>(aI.mp hr).elim (λz=>z▸h.1) (PM.get h.2 r)
theorem PC.get:∀{l:List (Str×Nat)},PC K l->∀r∈l,∃C,PySem.W.nsIn K mainGlobals r.1=some (some (.ref C))/\iT K C/\PySem.W.makesIn K C=true/\PySem.W.keepIn K (.ref C)=true
 |_::_,h,r,hr=>(aI.mp hr).elim (λz=>z▸h.1) (PC.get h.2 r)
theorem PA.get:∀{l:List (Str×Str)},PA K l->∀r∈l,∃C,PySem.W.nsIn K mainGlobals r.2=some (some (.ref C))/\PySem.W.findIn K (.ref C) r.1=some none
 |_::_,h,r,hr=>(aI.mp hr).elim (λz=>z▸h.1) (PA.get h.2 r)
theorem PB.get:∀{l:List Str},PB K l->∀r∈l,PySem.W.nsIn K mainGlobals r=some none
 |_::_,h,r,hr=>(aI.mp hr).elim (λz=>z▸h.1) (PB.get h.2 r)
theorem PX.get:∀{l:List Str},PX K l->∀r∈l,∃C,PySem.W.nsIn K mainGlobals r=some (some (.ref C))/\PySem.W.excIn K C [.type "ValueError",.type "Exception",.type "BaseException",.type "object"] "ValueError.__new__"=true
 |_::_,h,r,hr=>(aI.mp hr).elim (λz=>z▸h.1) (PX.get h.2 r)
theorem BF.get:∀{l:List RF},BF tp l->∀r∈l,∀(kV doc pm:Value) (an:Option Addr) (fG ct:Value) (us:List Value),us.length=(r.N.take r.k).length->bindArgs (PySem.W.fnOf r.nm r.nm (A3 (tp r.i)) (l0 (tp r.i)) (k7 (tp r.i)) .none kV doc pm an fG ct) ⟨us,[]⟩=pure ((r.N.take r.k).zip us)
 |_::_,h,r,hr=>(aI.mp hr).elim (λz=>z▸h.1) (BF.get h.2 r)
theorem BM.get:∀{l:List RM},BM mt l->∀r∈l,∀(kV doc pm:Value) (an:Option Addr) (fG ct:Value) (us:List Value),us.length=(r.N.take r.k).length->bindArgs (PySem.W.fnOf r.nm r.qn (A3 (mt r.i r.j)) (l0 (mt r.i r.j)) (k7 (mt r.i r.j)) .none kV doc pm an fG ct) ⟨us,[]⟩=pure ((r.N.take r.k).zip us)
 |_::_,h,r,hr=>(aI.mp hr).elim (λz=>z▸h.1) (BM.get h.2 r)
end
def xF(N P:List Str)(sc:Scope):Bool:=decide (sc.kind=.function)&&!sc.isCoroutine&&!sc.isGenerator&&decide N.Nodup&&decide (N.take P.length=P)&&P.all (λx=>decide (sc.names.lookup x=some .local)||decide (sc.names.lookup x=some .cell))&&sc.names.all λy=>decide (y.2≠.free)
theorem Jk{N P:List Str}{sc:Scope}(h:xF N P sc=true):iD N P sc:=by
 unfold xF at h;simp only[Bool.and_eq_true,decide_eq_true_eq,Bool.not_eq_true',List.all_eq_true,Bool.or_eq_true] at h;obtain⟨⟨⟨⟨⟨⟨h1,h2⟩,h3⟩,h4⟩,h5⟩,h6⟩,h7⟩:=h;exact⟨h1,h2,h3,h4,h5,h6,h7⟩
theorem Yz{K:PySem.W.Frag}{h₀:Heap}{mg:Str->Option Value}{x:Str}{C:Addr}{Gs:List Value}{newId:String}(X:K.In h₀)(G:h₀.Ns mainGlobals mg)(e:PySem.W.nsIn K mainGlobals x=some (some (.ref C)))(q:PySem.W.excIn K C Gs newId=true):PyProof.Rows.OwnCls x C Gs newId mg h₀:=by
 refine⟨bX X G e,?_⟩;unfold PySem.W.excIn at q;split at q
 ·rename_i dd cd sl ho;split at q
  ·rename_i C' bm k0 k1 k2 k3 n k5 hm hs;simp only[Bool.and_eq_true,beq_iff_eq,Bool.not_eq_true'] at q;obtain⟨⟨⟨⟨⟨z1,z2⟩,vE⟩,ht⟩,bG⟩,xP⟩:=q;subst z1;subst z2;obtain⟨nm,bs,mro,ns,qn,hd,sn,sub,ab,col,del⟩:=cd;dsimp only at hm vE bG xP;subst hm vE;have MH:sl=#[k0,k1,k2,k3,some (.builtin n),k5]:=by
    obtain⟨l⟩:=sl;simp only at hs;rw[hs]
   subst MH;exact⟨bm,ns,nm,qn,bs,hd,sn,sub,ab,col,dd,k0,k1,k2,k3,k5,_,X _ _ ho,.of_isNs (PySem.W.isNs_of_in X bG),PySem.W.nsMap_none_of_in X bG xP,PySem.W.tail_of_in X ht⟩
  ·cases q
 ·cases q
def R9(K:PySem.W.Frag)(x:Str):Addr:=match PySem.W.nsIn K mainGlobals x with
 |some (some (.ref C))=>C
 |_=>0
def JD(K:PySem.W.Frag)(exc:List Str):Bool:=exc.all λx=>exc.all λy=>decide (PySem.W.exmOne K (.ref (R9 K x)) (.ref (R9 K y))=some (decide (x=y\/y="MintError")))
theorem Xg{K:PySem.W.Frag}{exc:List Str}(h:JD K exc=true){x y:Str}{C C':Addr}(hx:exc.contains x=true)(hy:exc.contains y=true)(hC:n8 K x C)(Bg:n8 K y C'):PySem.W.exmOne K (.ref C) (.ref C')=some (decide (x=y\/y="MintError")):=by
 have h1:=dw.mp h x (by simpa using hx);have h2:=bC (dw.mp h1 y (by simpa using hy));have e1:R9 K x=C:=by unfold R9;rw[show PySem.W.nsIn K mainGlobals x=_ from hC]
 have e2:R9 K y=C':=by unfold R9;rw[show PySem.W.nsIn K mainGlobals y=_ from Bg]
 rw[e1,e2] at h2;exact h2
theorem Cp{α:Type}{f:α->Nat}:∀{l:List α},(l.map f).Nodup->∀r∈l,l.find? (λx=>Nat.beq (f x) (f r))=some r
 |y::l,nd,r,hr=>by
  rw[ba,fK] at nd;rcases aI.mp hr with rfl|hr
  ·rw[List.find?_cons_of_pos];exact Nat.beq_refl _
  ·rw[List.find?_cons_of_neg]
   ·exact Cp nd.2 r hr
   ·intro z;exact nd.1 (aS.mpr ⟨r,hr,(iF z).symm⟩)
theorem QK{α β:Type}{f:α->Nat}{g:β->Nat}{l:List α}{r:β}(h:g r∉l.map f):l.find? (λx=>Nat.beq (f x) (g r))=none:=by
 rw[List.find?_eq_none];intro x hx z;exact h (aS.mpr ⟨x,hx,iF z⟩)
section
variable{w:World}{K:PySem.W.Frag}{h₀:Heap}{mg:Str->Option Value}{c:d7}{F:List RF}{M:List RM}{tp:Nat->Stmt}{mt:Nat->Nat->Stmt}
structure kP(K:PySem.W.Frag)(c:d7)(F:List RF)(M:List RM)(tp:Nat->Stmt)(mt:Nat->Nat->Stmt):Prop where
 qF:PF tp K F
 qM:PM mt K M
 qC:PC K c.cls
 qA:PA K c.mU
 qB:PB K c.blt
 qX:PX K c.exc
 xm:JD K c.exc=true
structure kO(c:d7)(F:List RF)(M:List RM)(tp:Nat->Stmt)(mt:Nat->Nat->Stmt):Prop where
 cf:c.fns=F.map λr=>(r.nm,r.id)
 cm:c.mq=M.map λr=>(r.nm,r.cl,r.id)
 ci:c.cls.all (λy=>M.any λr=>decide (r.cl=y.1)&&decide (r.nm="__init__")&&Nat.beq r.id y.2)=true
 nd:(F.map (·.id)++M.map (·.id)).Nodup
 sF:F.all (λr=>xF r.N (r.N.take r.k) (k7 (tp r.i))&&decide (r.m.ar=(r.N.take r.k).length)&&decide (r.m.n=r.N.length))=true
 sM:M.all (λr=>xF r.N (r.N.take r.k) (k7 (mt r.i r.j))&&decide (r.m.ar=(r.N.take r.k).length)&&decide (r.m.n=r.N.length))=true
 oF:YF tp c F
 oM:YM mt c M
 bF:BF tp F
 bM:BM mt M
theorem JZ(I:kP K c F M tp mt)(X:kO c F M tp mt)(r:RF)(hr:r∈F):∃f fd,jc K c (r.d tp) r.m f fd/\PySem.W.nsIn K mainGlobals r.nm=some (some (.ref f))/\tK F M r.id=some r.m:=by
 obtain⟨f,fd,a,q⟩:=I.qF.get r hr;have s:=dw.mp X.sF r hr;simp only[Bool.and_eq_true,decide_eq_true_eq] at s;have o:=X.oF.get r hr;refine⟨f,fd,⟨q,q.binds (X.bF.get r hr),Jk s.1.1,o,s.1.2,s.2⟩,a,?_⟩;unfold tK;rw[Cp (f:=(·.id)) (cY.mp X.nd).1 r hr]
theorem Ka(I:kP K c F M tp mt)(X:kO c F M tp mt)(r:RM)(hr:r∈M):∃C f fd,jc K c (r.d mt) r.m f fd/\PySem.W.nsIn K mainGlobals r.cl=some (some (.ref C))/\Meth K C r.nm f/\tK F M r.id=some r.m:=by
 obtain⟨C,f,fd,a,q1,q⟩:=I.qM.get r hr;have s:=dw.mp X.sM r hr;simp only[Bool.and_eq_true,decide_eq_true_eq] at s;have o:=X.oM.get r hr;refine⟨C,f,fd,⟨q,q.binds (X.bM.get r hr),Jk s.1.1,o,s.1.2,s.2⟩,a,q1,?_⟩;have nd:=cY.mp X.nd;unfold tK;rw[QK (f:=λr:RF=>r.id) (g:=λr:RM=>r.id) (r:=r) (λz=>nd.2.2 _ z _ (aS.mpr ⟨r,hr,rfl⟩) rfl),Cp (f:=λr:RM=>r.id) nd.2.1 r hr]
 rfl
theorem Qk(I:kP K c F M tp mt)(Y:kO c F M tp mt)(X:K.In h₀)(G:h₀.Ns mainGlobals mg)(con:∀x d,c.con.lookup x=some d->∃v u,mg x=some u/\RelV v u/\∀ρ H,d0 K ρ H d v)(rm:∀x kvs,c.gd.lookup x=some kvs->∃A vs,mg x=some (.ref A)/\wG K w.params A vs/\pU K kvs vs):mY w K mg c (tK F M):=by
 refine⟨λx i hx=>?_,λx i hx=>?_,λx y i C hx hC=>?_,λf y C hx hC=>?_,con,λx hx=>?_,λx hx=>?_,λx y C C' hx hy hC Bg=>Xg I.xm hx hy hC Bg,rm⟩
 ·have hm:=aJ hx;rw[Y.cf] at hm;obtain⟨r,hr,e⟩:=aS.mp hm;cases e;obtain⟨f,fd,O,a,t⟩:=JZ I Y r hr;exact⟨_,_,f,fd,t,O,bX X G a⟩
 ·have hm:=aJ hx;have h1:=dw.mp Y.ci _ hm;obtain⟨r,hr,e⟩:=kT.mp h1;simp only[Bool.and_eq_true,decide_eq_true_eq] at e;obtain⟨⟨e1,e2⟩,e3⟩:=e;have e3:=iF e3;obtain⟨C,f,fd,O,a,q,t⟩:=Ka I Y r hr;obtain⟨C',a',hc,mk,kp⟩:=I.qC.get _ hm;rw[e1] at a;cases a.symm.trans a';rw[e2] at q;rw[e3] at t;exact⟨C,_,_,f,fd,t,O,bX X G a,a,hc,⟨mk,q.at_,q.fn,kp⟩⟩
 ·rw[Y.cm] at hx;obtain⟨r,hr,e⟩:=aS.mp hx;cases e;obtain⟨C',f,fd,O,a,q,t⟩:=Ka I Y r hr;cases a.symm.trans hC;exact⟨_,_,f,fd,t,O,q⟩
 ·obtain⟨C',a,q⟩:=I.qA.get _ hx;cases a.symm.trans hC;exact q
 ·exact PySem.W.mg_none_of X G (I.qB.get x (by simpa using hx))
 ·obtain⟨C,a,q⟩:=I.qX.get x (by simpa using hx);exact⟨_,bX X G a,a,λbase mx vT=>⟨_,_,_,_,Yz mx vT a q,PySem.F.excBase_ValueError⟩⟩
end
end M

namespace M
open PySem L2
set_option hygiene false
local macro_rules|`(tactic|walk_at"w1")=>`(tactic|with_reducible first|refine Jv ?_|refine Ho ?_|refine Hq ?_|refine WN ?_|refine Qq ?_|refine WR ?_|refine Sw ?_|refine Qu ?_|refine Hm ?_|refine D6 ?_|refine zM ?_|(refine w_var (d:=?_) ?_ ?_;rotate_left;·with_unfolding_all rfl)|refine w_lit ?_|refine rT ?_|refine zx ?_|refine UR ?_|refine Qt ?_|refine Sr ?_|refine w_and ?_|refine w_or ?_|refine w_not ?_|refine w_ite ?_|refine Ju ?_|refine Qr ?_|refine Ss ?_|refine Hn ?_|refine xa ?_|refine Qv ?_|refine WO ?_|refine Qw ?_|refine Hr ?_|refine Hs ?_|refine UT ?_|refine UU ?_|refine WL ?_|refine Ti ?_|refine Th ?_|refine Tg ?_|refine Tf ?_|refine Vb ?_|refine GD ?_|refine Va ?_|refine Vl ?_|refine Vc ?_|refine Vf ?_|refine Vh ?_|refine Vg ?_|refine Vj ?_|refine Vk ?_|refine Vi ?_|refine rL ?_|refine Vd ?_|refine Ve ?_|refine Ge ?_|refine Gf ?_|refine Dw ?_|refine UO ?_|refine QD ?_|refine Xk ?_|refine pE ?_|refine pV ?_|refine Tu ?_|refine Tv ?_|refine VM ?_|refine zQ ?_|refine PK ?_|refine PJ ?_|refine ES ?_|refine VP ?_|refine Hl ?_)
local macro_rules|`(tactic|walk_at"w2")=>`(tactic|repeat(with_reducible first|walk_at "w1"|refine DK (by simp) ?_|refine DI (by simp) ?_|refine j7 (a7 (by assumption)) (by with_unfolding_all rfl) ?_|refine k9 (a7 (by assumption)) ?_|refine yi (by unfold oU;decide) ?_))
local macro_rules|`(tactic|walk_at"w3")=>`(tactic|repeat(with_reducible first|walk_at "w1"|refine DK (by simp) ?_|refine DI (by simp) ?_|refine j7 (a7 (by assumption)) (by with_unfolding_all rfl) ?_|refine k9 (a7 (by assumption)) ?_|refine yi (by unfold oU;decide) ?_|refine And.intro (show List.length _ <= 1000 from by simp) ?_|refine ze (by with_unfolding_all rfl) ?_|refine s9 ?_|refine tH (by with_unfolding_all rfl) ?_))
local macro_rules|`(tactic|walk_at"")=>`(tactic|repeat(with_reducible first|walk_at "w1"|refine Su ?_|refine WQ ?_|refine Qs ?_|refine Vm ?_|refine EJ ?_|refine EI ?_|refine max2 ?_|refine min2 ?_|refine VD ?_|refine mV ?_|refine Og ?_|refine Vy ?_|refine DK (by simp) ?_|refine DI (by simp) ?_|refine j7 (a7 (by assumption)) (by with_unfolding_all rfl) ?_|refine k9 (a7 (by assumption)) ?_|refine yi (by unfold oU;decide) ?_|refine And.intro (show List.length _ <= 1000 from by simp) ?_|refine ze (by with_unfolding_all rfl) ?_|refine s9 ?_|refine tH (by with_unfolding_all rfl) ?_|refine And.intro (A4 (by assumption)) ?_|refine And.intro (Ac (by assumption)) ?_|refine And.intro (Mq (by assumption)) ?_|refine V7 (by decide) ?_|refine Dt (by decide) (by decide) ?_|refine i_n ?_))
set_option hygiene true
abbrev df(a:ME):ME:=.cons a .nil
abbrev dB(a b:ME):ME:=.cons a (.cons b .nil)
abbrev mh(a b c:ME):ME:=.cons a (.cons b (.cons c .nil))
abbrev sj(a b c d:ME):ME:=.cons a (.cons b (.cons c (.cons d .nil)))
abbrev zF(a b c d e:ME):ME:=.cons a (.cons b (.cons c (.cons d (.cons e .nil))))
abbrev FU(a b c d e f g:ME):ME:=.cons a (.cons b (.cons c (.cons d (.cons e (.cons f (.cons g .nil))))))
abbrev cR(o:PySem.CmpOp)(a b:ME):ME:=.eQ (.prim (.cmp o) (.cons a (.cons b .nil)))
abbrev bw(a b:ME):ME:=.prim .ix (.cons a (.cons b .nil))
abbrev bc(a:Int):ME:=.lit (.int a)
abbrev bt(a:PySem.Str):ME:=.lit (.str a)
abbrev bJ(p:Pr)(a:ME):ME:=.prim p (.cons a .nil)
abbrev bB(p:Pr)(a b:ME):ME:=.prim p (.cons a (.cons b .nil))
abbrev aD:ME:=.var 0
abbrev aK:ME:=.var 1
abbrev pC:ME:=.var 10
abbrev bu:ME:=.var 2
abbrev cN:ME:=.var 3
abbrev eV:ME:=.var 4
abbrev kZ:ME:=.var 5
abbrev jm:ME:=.var 6
abbrev iW:ME:=.var 7
abbrev mw:ME:=.var 8
abbrev qL:ME:=.var 9
def O2:aY:=⟨2,5,(.seq (.ifs (.eY (cR .Lt (bw aD (bc 2)) aK) (cR .Lt (bw aD (bc 1)) (bJ .len (bw aD (bc 0))))) (.seq (.set 2 (bw (bw aD (bc 0)) (bw aD (bc 1)))) (.seq (.eI aD (bc 1) (bB (.bin .Add) (bw aD (bc 1)) (bc 1))) (.seq (.eI aD (bc 2) (bc 0)) (.seq (.ifs (cR .GtE bu (bB (.bin .Pow) (bc 10) (bc 18))) (.seq (.eI aD (bc 2) bu) .pass) (.seq (.eI aD (bc 3) (bB (.bin .Mod) (bB (.bin .Add) (bB (.bin .Add) (bB (.bin .Mult) (bw aD (bc 3)) (bc 48271)) (bB (.bin .Mult) (bB (.bin .Mod) bu (bc 2147483629)) (bc 69621))) (bc 12345)) (bc 2147483647))) .pass)) .pass)))) .pass) (.seq (.ifs (cR .GtE (bw aD (bc 2)) aK) (.seq (.set 3 (bB (.bin .Mod) (bw aD (bc 2)) aK)) (.seq (.eI aD (bc 2) (bB (.bin .FloorDiv) (bw aD (bc 2)) aK)) (.seq (.ret cN) .pass))) .pass) (.seq (.set 4 (bw aD (bc 3))) (.seq (.eI aD (bc 3) (bB (.bin .Mod) (bB (.bin .Add) (bB (.bin .Add) (bB (.bin .Mult) (bB (.bin .Mod) (bB (.bin .Mult) eV eV) (bc 2147483629)) (bc 5)) (bB (.bin .Mult) eV (bc 16811))) (bc 2531011)) (bc 2147483647))) (.seq (.ret (bB (.bin .Mod) (bB (.bin .Add) (bB (.bin .FloorDiv) (bw aD (bc 3)) (bc 59)) (bB (.bin .Mult) (bB (.bin .Mod) (bw aD (bc 3)) (bc 8191)) (bc 31))) aK)) .pass)))))⟩
def rQ:aY:=⟨1,2,(.seq (.set 1 (.call 4 (dB aD (bB (.bin .Pow) (bc 10) (bc 9))))) (.seq (.ifs (cR .Eq (.call 4 (dB aD (bc 2))) (bc 0)) (.seq (.set 1 (bB (.bin .Add) aK (bB (.bin .Pow) (bc 10) (bc 25)))) .pass) .pass) (.seq (.ifs (cR .Eq (.call 4 (dB aD (bc 2))) (bc 0)) (.seq (.ret (bB (.bin .Sub) (bJ (.un .USub) (bc 1)) aK)) .pass) .pass) (.seq (.ret aK) .pass))))⟩
structure f7(g:G)(d:Nat):Prop where
 ex:∃(s:Nat) (p b r:Int) (xs:List Int),g[d]?=some (.lst [.ref s,.int p,.int b,.int r])/\g[s]?=some (.lst (xs.map .int))/\s<d/\0<=p/\0<=b/\0<=r/\r<2147483647
structure Gr(d:Nat)(g g':G):Prop where
 len:g.length<=g'.length
 old:∀i,i≠d->i<g.length->g'[i]?=g[i]?
theorem Gr.refl(d:Nat)(g:G):Gr d g g:=⟨aj _,λ_ _ _=>rfl⟩
theorem Gr.trans{d:Nat}{g g1 g2:G}(a:Gr d g g1)(b:Gr d g1 g2):Gr d g g2:=⟨aM a.len b.len,λi h1 h2=>(b.old i h1 (av h2 a.len)).trans (a.old i h1 h2)⟩
theorem Gr.set(d:Nat)(g:G)(o:O):Gr d g (g.set d o):=⟨by simp,λi h1 h2=>aw (aL h1)⟩
theorem Gr.snoc(d:Nat)(g:G)(o:O):Gr d g (g++[o]):=⟨by simp,λi h1 h2=>aA h2⟩
theorem Gr.at{d:Nat}{g g':G}(h:Gr d g g'){i:Nat}{o:O}(hi:i≠d)(e:g[i]?=some o):g'[i]?=some o:=(h.old i hi (aq.mp e).1).trans e
theorem c7{g:G}{i:Nat}{o:O}(h:g[i]?=some o):i<g.length:=(aq.mp h).1
theorem f7.lt{g:G}{d:Nat}(h:f7 g d):d<g.length:=by
 obtain⟨_,_,_,_,_,e,_⟩:=h.ex;exact c7 e
theorem f7.snoc{g:G}{d:Nat}(h:f7 g d)(o:O):f7 (g++[o]) d:=by
 obtain⟨s,p,b,r,xs,e1,e2,q⟩:=h.ex;exact⟨s,p,b,r,xs,by rw[aA (c7 e1)];exact e1,by rw[aA (c7 e2)];exact e2,q⟩
def tU:MS->MS
 |.seq _ b=>b
 |x=>x
theorem Xb{i j:Int}(h1:-(2 ^ 64)<i)(h2:i<2 ^ 64):rH i j:=.inl ⟨h1,h2⟩
theorem wV{i j:Int}(h1:-(2 ^ 64)<j)(h2:j<2 ^ 64):rH i j:=.inr ⟨h1,h2⟩
theorem YO{P:fo}{d:Nat}{n:Int}{g:G}{Q:KD}{E:KX}{N:Ends}{c2:Option D}(hN:N.rt=Q)(D0:f7 g d)(hn:0<n)(mF:n<1073741824)(h:∀r g',0<=r->r<n->f7 g' d->Gr d g g'->Q (.int r) g'):wpS P (tU O2.body) N [some (.ref d),some (.int n),c2,none,none] g E:=by
 obtain⟨s,p,b,r,xs,e1,e2,oh,hp,hb,hr,vg⟩:=D0.ex;have dQ:=c7 e1;subst hN;dsimp[O2,tU];walk_at "w2";refine if2 (λc=>?_) (λc=>?_)
 ·walk_at "w2";refine V7 hn ?_;walk_at "w2";refine Gw ⟨hn,mF⟩ ?_;walk_at "w2";refine Q5 e1 (by with_unfolding_all rfl) ?_;walk_at "w2";refine h _ _ (iA _ (by omega)) (gj _ hn) ⟨s,p,b / n,r,xs,?_,?_,oh,hp,Int.ediv_nonneg hb (by omega),hr,vg⟩ (Gr.set d g _)
  ·rw[aP dQ];rfl
  ·rw[aw (cB oh)];exact e2
 ·walk_at "w2";have EU:-(2 ^ 64)<r/\r<2 ^ 64:=⟨by omega,by omega⟩
  refine tN (Xb EU.1 EU.2) ?_;walk_at "w2";refine V7 (by decide) ?_;walk_at "w2";refine tN (wV (by decide) (by decide)) ?_;walk_at "w2";refine tN (wV (by decide) (by decide)) ?_;walk_at "w2";refine V7 (by decide) ?_;walk_at "w2";refine Q5 e1 (by with_unfolding_all rfl) ?_;generalize sH:(r*r % 2147483629*5+r*16811+2531011) % 2147483647=r';have q0:0<=r':=by rw[<- sH];exact iA _ (by decide)
  have q1:r'<2147483647:=by rw[<- sH];exact gj _ (by decide)
  have rB:(g.set d (.lst [.ref s,.int p,.int b,.int r']))[d]?=some (.lst [.ref s,.int p,.int b,.int r']):=aP dQ;show wpS P _ _ _ (g.set d (.lst [.ref s,.int p,.int b,.int r'])) E;walk_at "w2";refine Gw ⟨by decide,by decide⟩ ?_;walk_at "w2";refine V7 (by decide) ?_;walk_at "w2";refine tN (wV (by decide) (by decide)) ?_;walk_at "w2";refine V7 hn ?_;walk_at "w2";refine h _ _ (iA _ (by omega)) (gj _ hn) ⟨s,p,b,r',xs,rB,?_,oh,hp,hb,q0,q1⟩ (Gr.set d g _);rw[aw (cB oh)];exact e2
theorem j5{T:Nat->Option aY}(hT:T 4=some O2){k d:Nat}{n:Int}{g:G}{Q:KD}{E:KX}(D0:f7 g d)(hn:0<n)(mF:n<1073741824)(h:∀r g',0<=r->r<n->f7 g' d->Gr d g g'->Q (.int r) g'):a9 T (k+1) 4 [.ref d,.int n] g Q E:=by
 obtain⟨s,p,b,r,xs,e1,e2,oh,hp,hb,hr,vg⟩:=D0.ex;have dQ:=c7 e1;refine call_of hT rfl ?_;have tail:∀(g':G) (c2:Option D),f7 g' d->Gr d g g'->wpS (a9 T k) (tU O2.body) ⟨λ_ g'=>Q .aQ g',Q,λ_ _=>False,λ_ _=>False⟩ [some (.ref d),some (.int n),c2,none,none] g' E :=
  λg' c2 D1 gr=>YO rfl D1 hn mF λr g2 a b c e=>h r g2 a b c (gr.trans e)
 dsimp[O2,b5,List.replicate];walk_at "w2";refine if2 (λc=>?_) (λc=>?_)
 ·walk_at "w2";refine if2 (λc'=>?_) (λc'=>?_)
  ·walk_at "w2";have lj:p.toNat<xs.length:=by
    rw[ak] at c';omega
   have ea:fW (xs.map D.int) p=some (.int xs[p.toNat]):=by
    have:=o6 (xs:=xs.map D.int) (j:=p.toNat) (v:=.int xs[p.toNat]) (by rw[aE,ao lj];rfl)
    rwa [show((p.toNat:Nat):Int)=p by omega] at this
   refine j7 (a7 e2) ea ?_;generalize xs[p.toNat]=cell;walk_at "w2";refine Q5 e1 (by with_unfolding_all rfl) ?_;have f1:(g.set d (.lst [.ref s,.int (p+1),.int b,.int r]))[d]?=some (.lst [.ref s,.int (p+1),.int b,.int r]):=aP dQ;show wpS (a9 T k) _ _ _ (g.set d (.lst [.ref s,.int (p+1),.int b,.int r])) E;walk_at "w2";refine Q5 f1 (by with_unfolding_all rfl) ?_;rw[bR];have f2:(g.set d (.lst [.ref s,.int (p+1),.int 0,.int r]))[d]?=some (.lst [.ref s,.int (p+1),.int 0,.int r]):=aP dQ;show wpS (a9 T k) _ _ _ (g.set d (.lst [.ref s,.int (p+1),.int 0,.int r])) E;walk_at "w2";refine if2 (λc2=>?_) (λc2=>?_)
   ·walk_at "w2";refine Q5 f2 (by with_unfolding_all rfl) ?_;rw[bR];refine tail _ _ ⟨s,p+1,cell,r,xs,aP dQ,by rw[aw (cB oh)];exact e2,oh,by omega,?_,hr,vg⟩ (Gr.set d g _);have:(10:Int) ^ (18:Int).toNat<=cell:=c2;have h10:(0:Int)<=10 ^ (18:Int).toNat:=by decide
    omega
   ·walk_at "w2";refine tN (wV (by decide) (by decide)) ?_;walk_at "w2";refine V7 (by decide) ?_;walk_at "w2";refine tN (wV (by decide) (by decide)) ?_;walk_at "w2";refine V7 (by decide) ?_;walk_at "w2";refine Q5 f2 (by with_unfolding_all rfl) ?_;rw[bR];exact tail _ _ ⟨s,p+1,0,_,xs,aP dQ,by rw[aw (cB oh)];exact e2,oh,by omega,by decide,iA _ (by decide),gj _ (by decide)⟩ (Gr.set d g _)
  ·walk_at "w1";exact tail _ _ D0 (Gr.refl _ _)
 ·walk_at "w1";walk_at "w1";exact tail _ _ D0 (Gr.refl _ _)
theorem Lb{T:Nat->Option aY}(hT:T 4=some O2)(Nu:T 5=some rQ){k d:Nat}{g:G}{Q:KD}{E:KX}(D0:f7 g d)(h:∀r g',f7 g' d->Gr d g g'->Q (.int r) g'):a9 T (k+2) 5 [.ref d] g Q E:=by
 refine call_of Nu rfl ?_;dsimp[rQ,b5,List.replicate];walk_at "w2";refine j5 hT D0 (by decide) (by decide) λr1 g1 _ _ D1 G1=>?_;walk_at "w2";refine j5 hT D1 (by decide) (by decide) λr2 g2 _ _ D2 G2=>?_;walk_at "w2";have Li:=G1.trans G2;have last:∀(x:Int),wpS (a9 T (k+1)) (tU (tU rQ.body)) ⟨λ_ g'=>Q .aQ g',Q,λ_ _=>False,λ_ _=>False⟩ [some (.ref d),some (.int x)] g2 E:=λx=>by
  dsimp[rQ,tU];walk_at "w2";refine j5 hT D2 (by decide) (by decide) λr3 g3 _ _ D3 G3=>?_;walk_at "w2";refine if2 (λc=>?_) (λc=>?_)
  ·walk_at "w2";exact h _ _ D3 (Li.trans G3)
  ·walk_at "w2";exact h _ _ D3 (Li.trans G3)
 refine if2 (λc=>?_) (λc=>?_)
 ·refine Jv ?_;refine Hq ?_;refine rT ?_;walk_at "w1";refine rT ?_;walk_at "w1";walk_at "w1";refine yi (by unfold oU;decide) ?_;walk_at "w1";exact last _
 ·exact last _
def CQ:aY:=⟨1,1,(.seq (.ret (.eY (bB .isin aD (.lit (.ty "int"))) (.cJ (bB .isin aD (.lit (.ty "bool")))))) .pass)⟩
def V9:aY:=⟨3,3,(.seq (.ret (.eY (.call 38 (df aD)) (.chain .LtE .LtE aK aD bu))) .pass)⟩
structure NF(T:Nat->Option aY):Prop where
 nf:T 1=some V9
 is:T 38=some CQ
def yx:aY:=⟨1,1,(.seq (.ret (.prim .lst (sj (bJ .list (bB (.jF false true) aD (bc 63))) (bc 0) (bc 0) (bc 29)))) .pass)⟩
def rS:aY:=⟨1,1,(.seq (.ret (.eY (bB .isin aD (.lit (.ty "int"))) (.cJ (bB .isin aD (.lit (.ty "bool")))))) .pass)⟩
def A5:aY:=⟨2,2,(.seq (.ifs (cR .Is aK (.lit .aQ)) (.seq (.ret (bB (.cmp .Is) aD (.lit .aQ))) .pass) .pass) (.seq (.ifs (.eQ (bB .isin aK (.lit (.ty "bool")))) (.seq (.ret (.eY (bB .isin aD (.lit (.ty "bool"))) (bB (.cmp .Eq) aD aK))) .pass) .pass) (.seq (.ifs (.eQ (bB .isin aK (.lit (.ty "int")))) (.seq (.ret (.eY (.call 6 (df aD)) (bB (.cmp .Eq) aD aK))) .pass) .pass) (.seq (.ifs (.eQ (bB .isin aK (.lit (.ty "str")))) (.seq (.ret (.eY (bB .isin aD (.lit (.ty "str"))) (bB (.cmp .Eq) aD aK))) .pass) .pass) (.seq (.ifs (.iQ (cR .NotEq (bB .isin aK (.lit (.ty "tuple"))) (bB .isin aD (.lit (.ty "tuple")))) (cR .NotEq (bB .isin aK (.lit (.ty "list"))) (bB .isin aD (.lit (.ty "list"))))) (.seq (.ret (.lit (.bl false))) .pass) .pass) (.seq (.ifs (cR .NotEq (bJ .len aD) (bJ .len aK)) (.seq (.ret (.lit (.bl false))) .pass) .pass) (.seq (.ret (bJ .all (.comp [1,0] 4 (.one 3) (.fP (bJ .len aK)) .no (.call 7 (dB (bw aK cN) (bw aD cN)))))) .pass)))))))⟩
section
variable{T:Nat->Option aY}{k d:Nat}{g:G}{Q:KD}{E:KX}
theorem aD8(h1:NF T){i:Int}(h:Q (.bl true) g):a9 T (k+1) 38 [.int i] g Q E:=by
 refine call_of h1.is rfl ?_;dsimp[CQ,b5,List.replicate];walk_at "w2";refine fV (c:="int") (b:=true) (by decide) rfl ?_;walk_at "w2";refine fV (c:="bool") (b:=false) (by decide) rfl ?_;walk_at "w2";exact h
theorem A9(h1:NF T){i l m:Int}(h:Q (.bl (decide (l<=i)&&decide (i<=m))) g):a9 T (k+2) 1 [.int i,.int l,.int m] g Q E:=by
 refine call_of h1.nf rfl ?_;dsimp[V9,b5,List.replicate];walk_at "w2";refine aD8 h1 ?_;walk_at "w2";refine if2 (λc=>?_) (λc=>?_)
 ·rw[aC c] at h;walk_at "w2";exact h
 ·rw[aG c] at h;exact h
theorem Rp(h3:T 3=some yx){a:Nat}{ns:List Int}(hg:g[a]?=some (.oR (ns.map .int)))(h:∀d g',f7 g' d->g.length<=d->(∀i,i<g.length->g'[i]?=g[i]?)->Q (.ref d) g'):a9 T (k+1) 3 [.ref a] g Q E:=by
 refine call_of h3 rfl ?_;dsimp[yx,b5,List.replicate];walk_at "w2";refine PH (a01 hg) ?_;walk_at "w2";refine V1 (l:=cut (ns.map D.int) none (some 63)) (a7 (by simp)) ?_;walk_at "w2";have ec:cut (ns.map D.int) none (some 63)=(cut ns none (some 63)).map D.int:=by
  unfold cut;simp[List.map_take,List.map_drop]
 refine h _ _ ⟨g.length+1,0,0,29,cut ns none (some 63),?_,?_,?_,by decide,by decide,by decide,by decide⟩ (by simp) (λi hi=>?_)
 ·simp
 ·rw[<- ec];simp
 ·simp
 ·simp[List.getElem?_append,hi,Nat.lt_of_lt_of_le hi (by omega:g.length<=g.length+1),Nat.lt_of_lt_of_le hi (by omega:g.length<=g.length+1+1)]
end
theorem zf{α:Type}{l:List α}{r:Int}(h0:0<=r)(h1:r<l.length):∃v,fW l r=some v/\v∈l:=by
 have hi:r.toNat<l.length:=by omega
 refine⟨l[r.toNat],?_,dY hi⟩;have:=o6 (xs:=l) (j:=r.toNat) (v:=l[r.toNat]) (ao hi)
 rwa [show((r.toNat:Nat):Int)=r by omega] at this
section
variable{T:Nat->Option aY}{k d:Nat}{g:G}{Q:KD}{E:KX}
theorem JN(h7:T 7=some A5){a b:Bool}(h:Q (.bl (a==b)) g):a9 T (k+1) 7 [.bl a,.bl b] g Q E:=by
 refine call_of h7 rfl ?_;dsimp[A5,b5,List.replicate];walk_at "w2";walk_at "w2";refine fV (c:="bool") (b:=true) (by decide) rfl ?_;walk_at "w2";refine fV (c:="bool") (b:=true) (by decide) rfl ?_;walk_at "w2";exact h
end
section
variable{T:Nat->Option aY}{k d:Nat}{g:G}{Q:KD}{E:KX}
end
theorem f7.pX{g:G}{d x:Nat}{o:O}(h:f7 g d)(hx:d<x):f7 (g.set x o) d:=by
 obtain⟨s,p,b,r,xs,e1,e2,hs,q⟩:=h.ex;exact⟨s,p,b,r,xs,by rw[aw (by omega)];exact e1,by rw[aw (by omega)];exact e2,hs,q⟩
theorem b9{g:G}{o:O}:(g++[o])[g.length]?=some o:=by simp
theorem C7{g:G}{i:Nat}{o o':O}(h:g[i]?=some o):(g++[o'])[i]?=some o:=by rw[aA (c7 h)];exact h
theorem get_set{g:G}{i:Nat}{o o':O}(h:g[i]?=some o):(g.set i o')[i]?=some o':=aP (c7 h)
theorem a8{g:G}{i j:Nat}{o o':O}(h:g[i]?=some o)(hn:j≠i):(g.set j o')[i]?=some o:=by rw[aw hn];exact h
section
variable{T:Nat->Option aY}{k d:Nat}{g:G}{Q:KD}{E:KX}
end
section
variable{T:Nat->Option aY}{k d:Nat}{g:G}{Q:KD}{E:KX}
end
section
variable{T:Nat->Option aY}{k d:Nat}{g:G}{Q:KD}{E:KX}
end
section
variable{T:Nat->Option aY}{k d:Nat}{g:G}{Q:KD}{E:KX}
end
section
variable{T:Nat->Option aY}{k d:Nat}{g:G}{Q:KD}{E:KX}
end
section
variable{T:Nat->Option aY}{k d:Nat}{g:G}{Q:KD}{E:KX}
end
def T7:aY:=⟨1,1,(.seq (.ifs (.cJ (.eQ (.call 1 (mh aD (bc 1) (bc 9))))) (.seq (.raise "BadAnvils" (df (bt "there are from one to nine anvils"))) .pass) .pass) .pass)⟩
def yw:aY:=⟨2,2,(.seq (.ifs (cR .Eq (.call 4 (dB aD (bc 12))) (bc 7)) (.seq (.ret (.call 5 (df aD))) .pass) .pass) (.seq (.ret (bB (.bin .Sub) (.call 4 (dB aD (bB (.bin .Add) aK (bc 4)))) (bc 2))) .pass))⟩
def Q8:aY:=⟨1,1,(.seq (.ifs (cR .NotIn aD (.lit (.tup [(.str "lower"),(.str "upper")]))) (.seq (.raise "BadSide" (df (bt "a side is lower or upper"))) .pass) .pass) .pass)⟩
structure Ex(g g':G):Prop where
 len:g.length<=g'.length
 old:∀i,i<g.length->g'[i]?=g[i]?
theorem Ex.refl(g:G):Ex g g:=⟨aj _,λ_ _=>rfl⟩
theorem Ex.trans{g g1 g2:G}(a:Ex g g1)(b:Ex g1 g2):Ex g g2:=⟨aM a.len b.len,λi h=>(b.old i (av h a.len)).trans (a.old i h)⟩
theorem Ex.snoc(g:G)(o:O):Ex g (g++[o]):=⟨by simp,λi h=>aA h⟩
theorem Ex.at{g g':G}(h:Ex g g'){i:Nat}{o:O}(e:g[i]?=some o):g'[i]?=some o:=(h.old i (c7 e)).trans e
theorem Ex.gr{g g':G}(h:Ex g g')(d:Nat):Gr d g g':=⟨h.len,λi _ h2=>h.old i h2⟩
theorem Ex.draw{g g':G}{d:Nat}(h:Ex g g')(D0:f7 g d):f7 g' d:=by
 obtain⟨s,p,b,r,xs,e1,e2,q⟩:=D0.ex;exact⟨s,p,b,r,xs,h.at e1,h.at e2,q⟩
inductive u9(g:G):Nat->D->D->Prop
 |aQ {n:Nat}:u9 g n .aQ .aQ
 |bl {n:Nat} (b:Bool):u9 g n (.bl b) (.bl b)
 |int {n:Nat} (i:Int):u9 g n (.int i) (.int i)
 |str {n:Nat} (x:Str):u9 g n (.str x) (.str x)
 |tup {n:Nat} {l m:List D} (hl:l.length=m.length) (h:∀(i:Nat) x y,l[i]?=some x->m[i]?=some y->u9 g n x y) (hz:m.length<=1000):u9 g (n+1) (.tup l) (.tup m)
 |lst {n a b:Nat} {l m:List D} (ha:g[a]?=some (.lst l)) (hb:g[b]?=some (.lst m)) (hl:l.length=m.length) (h:∀(i:Nat) x y,l[i]?=some x->m[i]?=some y->u9 g n x y) (hz:m.length<=1000):u9 g (n+1) (.ref a) (.ref b)
theorem u9.ex{g g':G}(e:Ex g g'){n:Nat}{x y:D}(h:u9 g n x y):u9 g' n x y:=by
 induction h with
 |aQ=>exact .aQ
 |bl b=>exact .bl b
 |int i=>exact .int i
 |str x=>exact .str x
 |tup hl h hz ih=>exact .tup hl ih hz
 |lst ha hb hl h hz ih=>exact .lst (e.at ha) (e.at hb) hl ih hz
section
variable{T:Nat->Option aY}{k d:Nat}{g:G}{Q:KD}{E:KX}
theorem Jd(h6:T 6=some rS){i:Int}(h:Q (.bl true) g):a9 T (k+1) 6 [.int i] g Q E:=by
 refine call_of h6 rfl ?_;dsimp[rS,b5,List.replicate];walk_at"";refine fV (c:="int") (b:=true) (by decide) rfl ?_;walk_at"";refine fV (c:="bool") (b:=false) (by decide) rfl ?_;walk_at"";exact h
def JL:MS:=match A5.body with
 |.seq _ (.seq _ (.seq _ (.seq _ (.seq _ b))))=>b
 |x=>x
theorem j9(h6:T 6=some rS)(h7:T 7=some A5):∀(n:Nat) {k:Nat} {g:G} {x y:D} {Q:KD} {E:KX},u9 g n x y->(∀g',Ex g g'->Q (.bl true) g')->a9 T (k+n+2) 7 [x,y] g Q E:=by
 have uC:∀(n:Nat),(∀{k:Nat} {g:G} {x y:D} {Q:KD} {E:KX},u9 g n x y->(∀g',Ex g g'->Q (.bl true) g')->a9 T (k+n+2) 7 [x,y] g Q E) ->
   ∀{k:Nat} {g:G} {x y:D} {l m:List D} {Q:KD} {E:KX},(∀g',Ex g g'->B1 g' x=some l)->(∀g',Ex g g'->B1 g' y=some m)->l.length=m.length->m.length<=1000->(∀(i:Nat) x y,l[i]?=some x->m[i]?=some y->u9 g n x y)->(∀g',Ex g g'->Q (.bl true) g') ->
   wpS (a9 T (k+n+2)) JL ⟨λ_ g'=>Q .aQ g',Q,λ_ _=>False,λ_ _=>False⟩ [some x,some y] g E:=by
  intro n ih k g x y l m Q E hx hy hl hz hs hQ;have len:∀(z:D) (l:List D) (g':G) (Q':KD),B1 g' z=some l->Q' (.int l.length) g'->cu .len [z] g' Q':=λz l g' Q' e q=>⟨_,_,⟨rfl,.inl ⟨z,l,rfl,e,rfl⟩⟩,q⟩
  dsimp[JL,A5];refine Ho (Hm (Hs (rT (zx (w_var rfl (len _ _ _ _ (hx g (Ex.refl g)) ?_))))));refine zx (w_var rfl (len _ _ _ _ (hy g (Ex.refl g)) ?_));refine GD ?_;rw[hl,aC rfl];walk_at"";refine S2 (c8 T _) (zt (c8 T _) ?_);refine zx (w_var rfl (len _ _ _ _ (hy g (Ex.refl g)) ?_));refine⟨_,rfl,by omega,by omega,k8 0 m.length,λi ys σ g'=>∃z w,ys=List.replicate i (.bl true)/\σ=[some y,some x,z,w]/\Ex g g',by rw[C3];exact hz,λi ys σ g' p=>⟨P6,?_⟩,⟨none,none,rfl,rfl,Ex.refl g⟩,λi z ys σ g' hz p=>?_,λys σ g' p=>?_⟩
  ·obtain⟨z,w,rfl,_⟩:=p;simp
  ·obtain⟨z,w,rfl,rfl,e⟩:=p;obtain⟨hi,rfl⟩:=H9 hz;have h1:l[i]?=some l[i]:=ao (by omega);have h2:m[i]?=some m[i]:=ao hi;have a1:fW l (0+(i:Int))=some l[i]:=by rw[uf];exact o6 h1
   have a2:fW m (0+(i:Int))=some m[i]:=by rw[uf];exact o6 h2
   show dD _ _ _ _ _ _;refine Hr (pE (Ju (xa (rT (w_var rfl (w_var rfl ⟨_,_,⟨rfl,.inl ⟨_,l,_,rfl,hx g' e,a1⟩⟩,?_⟩))))));refine xa (rT (w_var rfl (w_var rfl ⟨_,_,⟨rfl,.inl ⟨_,m,_,rfl,hy g' e,a2⟩⟩,?_⟩)));refine Hn (ih ((hs i _ _ h1 h2).ex e) λg2 e2=>?_);exact⟨_,_,by rw[fz],rfl,e.trans e2⟩
  ·obtain⟨z,w,rfl,rfl,e⟩:=p;refine yj (a7 b9) (v:=true) ?_ (hQ _ (e.trans (Ex.snoc _ _)));have:List.replicate (k8 0 m.length).length (D.bl true)=(List.replicate (k8 0 m.length).length true).map D.bl:=by simp
   rw[this,a28];simp
 intro n
 induction n with
 |zero =>
  intro k g x y Q E h hQ;have h0:=hQ g (Ex.refl g);cases h with
  |aQ =>
   refine call_of h7 rfl ?_;dsimp[A5,b5,List.replicate];walk_at"";exact h0
  |bl b=>exact JN h7 (by simpa using h0)
  |int i =>
   refine call_of h7 rfl ?_;dsimp[A5,b5,List.replicate];walk_at""
   try show wpS _ _ _ _ _ _
   walk_at"";refine fV (c:="bool") (b:=false) (by decide) rfl ?_;walk_at"";refine fV (c:="int") (b:=true) (by decide) rfl ?_;walk_at"";refine Jd h6 ?_;walk_at"";simpa using h0
  |str x =>
   refine call_of h7 rfl ?_;dsimp[A5,b5,List.replicate];walk_at""
   try show wpS _ _ _ _ _ _
   walk_at"";refine fV (c:="bool") (b:=false) (by decide) rfl ?_;walk_at"";refine fV (c:="int") (b:=false) (by decide) rfl ?_;walk_at"";refine fV (c:="str") (b:=true) (by decide) rfl ?_;walk_at"";refine fV (c:="str") (b:=true) (by decide) rfl ?_;walk_at"";simpa using h0
 |succ n ih =>
  intro k g x y Q E h hQ;have h0:=hQ g (Ex.refl g);cases h with
  |aQ =>
   refine call_of h7 rfl ?_;dsimp[A5,b5,List.replicate];walk_at"";exact h0
  |bl b=>exact JN h7 (by simpa using h0)
  |int i =>
   refine call_of h7 rfl ?_;dsimp[A5,b5,List.replicate];walk_at""
   try show wpS _ _ _ _ _ _
   walk_at"";refine fV (c:="bool") (b:=false) (by decide) rfl ?_;walk_at"";refine fV (c:="int") (b:=true) (by decide) rfl ?_;walk_at"";refine Jd h6 ?_;walk_at"";simpa using h0
  |str x =>
   refine call_of h7 rfl ?_;dsimp[A5,b5,List.replicate];walk_at""
   try show wpS _ _ _ _ _ _
   walk_at"";refine fV (c:="bool") (b:=false) (by decide) rfl ?_;walk_at"";refine fV (c:="int") (b:=false) (by decide) rfl ?_;walk_at"";refine fV (c:="str") (b:=true) (by decide) rfl ?_;walk_at"";refine fV (c:="str") (b:=true) (by decide) rfl ?_;walk_at"";simpa using h0
  |@tup _ l m hl hs hz =>
   refine call_of h7 rfl ?_;have body:=uC n ih (k:=k) (x:=.tup l) (y:=.tup m) (E:=E) (λ_ _=>rfl) (λ_ _=>rfl) hl hz hs hQ;dsimp[A5,b5,List.replicate];walk_at""
   try show wpS _ _ _ _ _ _
   walk_at"";refine fV (c:="bool") (b:=false) (by decide) rfl ?_;walk_at"";refine fV (c:="int") (b:=false) (by decide) rfl ?_;walk_at"";refine fV (c:="str") (b:=false) (by decide) rfl ?_;walk_at"";refine fV (c:="tuple") (b:=true) (by decide) rfl ?_;walk_at"";refine fV (c:="tuple") (b:=true) (by decide) rfl ?_;walk_at"";refine dG rfl ?_;walk_at"";refine fV (c:="list") (b:=false) (by decide) rfl ?_;walk_at"";refine fV (c:="list") (b:=false) (by decide) rfl ?_;walk_at"";refine dG rfl (D6 ?_);exact body
  |@lst _ a b l m ha hb hl hs hz =>
   refine call_of h7 rfl ?_;have body:=uC n ih (k:=k) (x:=.ref a) (y:=.ref b) (E:=E) (λg' e=>a7 (e.at ha)) (λg' e=>a7 (e.at hb)) hl hz hs hQ;have ta:∀c,rO g (.ref a) c=some (c=="list"):=λc=>by simp only[rO,ha]
   have tb:∀c,rO g (.ref b) c=some (c=="list"):=λc=>by simp only[rO,hb]
   dsimp[A5,b5,List.replicate];walk_at""
   try show wpS _ _ _ _ _ _
   walk_at"";refine fV (c:="bool") (b:=false) (by decide) (tb _) ?_;walk_at"";refine fV (c:="int") (b:=false) (by decide) (tb _) ?_;walk_at"";refine fV (c:="str") (b:=false) (by decide) (tb _) ?_;walk_at"";refine fV (c:="tuple") (b:=false) (by decide) (tb _) ?_;walk_at"";refine fV (c:="tuple") (b:=false) (by decide) (ta _) ?_;walk_at"";refine dG rfl ?_;walk_at"";refine fV (c:="list") (b:=true) (by decide) (tb _) ?_;walk_at"";refine fV (c:="list") (b:=true) (by decide) (ta _) ?_;walk_at"";refine dG rfl (D6 ?_);exact body
end
section
variable{T:Nat->Option aY}{k d:Nat}{g:G}{Q:KD}{E:KX}
theorem a98{g:G}{x:Str}{kb:Bool->Prop}(hx:PyData.strOk x=true)(h:kb (decide (x="lower")||decide (x="upper"))):sC g (.str x) (.tup [.str "lower",.str "upper"]) kb:=by
 refine⟨_,.inr ⟨_,[.str "lower",.str "upper"],.str x,rfl,rfl,rfl,by simp only[PyData.canLayAll0,PyData.canLay0,Bool.and_true];decide +kernel,by simp only[PyData.canLay0];exact hx,rfl⟩,?_⟩;have e:∀y:Str,PyData.eqv (.str y) (.str x)=decide (x=y):=λy=>by
  simp only[PyData.eqv];rw[cq,fZ,bo];exact eq_comm
 simp only[List.any_cons,List.any_nil,Bool.or_false,e];exact h
theorem XS(Bk:T 40=some Q8){x:Str}(ho:PyData.strOk x=true)(h1:x="lower"\/x="upper"->Q .aQ g)(h3:x≠"lower"->x≠"upper"->E ⟨"BadSide"⟩ g):a9 T (k+1) 40 [.str x] g Q E:=by
 refine call_of Bk rfl ?_;dsimp[Q8,b5,List.replicate];walk_at"";refine Q9 (a98 ho ?_);walk_at"";by_cases e:x="lower"\/x="upper"
 ·refine dG (by rw[jD,cT,bo,bo];exact e) ?_;walk_at"";exact h1 e
 ·refine fJ (by rw[ko,iV,aN,aN];exact not_or.mp e) ?_;walk_at"";exact h3 (λz=>e (.inl z)) (λz=>e (.inr z))
end
def yy:aY:=⟨1,1,(.seq (.ifs (cR .Eq (.call 4 (dB aD (bc 14))) (bc 9)) (.seq (.ret (bw (.prim .lst (sj (bt "") (bt "Lower") (bt "both") (bt "upper "))) (.call 4 (dB aD (bc 4))))) .pass) .pass) (.seq (.ret (bw (bB .lst (bt "lower") (bt "upper")) (.call 4 (dB aD (bc 2))))) .pass))⟩
section
variable{T:Nat->Option aY}{k d:Nat}{g:G}{Q:KD}{E:KX}
theorem Kg(h4:T 4=some O2)(yb:T 29=some yy)(D0:f7 g d)(h:∀x g',PyData.strOk x=true->f7 g' d->Gr d g g'->Q (.str x) g'):a9 T (k+2) 29 [.ref d] g Q E:=by
 refine call_of yb rfl ?_;dsimp[yy,b5,List.replicate];walk_at"";refine j5 h4 D0 (by decide) (by decide) λr g1 _ _ D1 G1=>?_;walk_at"";refine if2 (λc=>?_) (λc=>?_)
 ·walk_at"";refine j5 h4 (D1.snoc _) (by decide) (by decide) λr g2 r0 r1 D2 G2=>?_;have e2:=G2.at (i:=g1.length) (by have:=D1.lt;omega) (o:=.lst (([("":Str),("Lower":Str),("both":Str),("upper ":Str)]:List Str).map D.str)) (by simp);obtain⟨v,hv,hm⟩:=zf (l:=([("":Str),("Lower":Str),("both":Str),("upper ":Str)]:List Str).map D.str) r0 (by simpa using r1);obtain⟨x,hx,rfl⟩:=aS.mp hm;refine j7 (a7 e2) hv ?_;walk_at"";refine h x g2 ?_ D2 (G1.trans ((Gr.snoc _ _ _).trans G2));simp only[List.mem_cons,List.mem_nil_iff,or_false] at hx;rcases hx with rfl|rfl|rfl|rfl<;>decide +kernel
 ·walk_at"";refine j5 h4 (D1.snoc _) (by decide) (by decide) λr g2 r0 r1 D2 G2=>?_;have e2:=G2.at (i:=g1.length) (by have:=D1.lt;omega) (o:=.lst (([("lower":Str),("upper":Str)]:List Str).map D.str)) (by simp);obtain⟨v,hv,hm⟩:=zf (l:=([("lower":Str),("upper":Str)]:List Str).map D.str) r0 (by simpa using r1);obtain⟨x,hx,rfl⟩:=aS.mp hm;refine j7 (a7 e2) hv ?_;walk_at"";refine h x g2 ?_ D2 (G1.trans ((Gr.snoc _ _ _).trans G2));simp only[List.mem_cons,List.mem_nil_iff,or_false] at hx;rcases hx with rfl|rfl<;>decide +kernel
end
theorem HW{g:G}{a:Nat}{x:Str}{kb:Bool->Prop}(ha:g[a]?=some (.lst [.str "lower",.str "upper"]))(hx:PyData.strOk x=true)(h:kb (decide (x="lower")||decide (x="upper"))):sC g (.str x) (.ref a) kb:=by
 refine⟨_,.inr ⟨_,[.str "lower",.str "upper"],.str x,a7 ha,rfl,rfl,by simp only[PyData.canLayAll0,PyData.canLay0,Bool.and_true];decide +kernel,by simp only[PyData.canLay0];exact hx,rfl⟩,?_⟩;have e:∀y:Str,PyData.eqv (.str y) (.str x)=decide (x=y):=λy=>by
  simp only[PyData.eqv];rw[cq,fZ,bo];exact eq_comm
 simp only[List.any_cons,List.any_nil,Bool.or_false,e];exact h
def CP:aY:=⟨2,2,(.seq (.ifs (.cJ (.eQ (.call 1 (mh aK (bc 1) (bJ .len aD))))) (.seq (.raise "NoDie" (df (bt "no such die was cut"))) .pass) .pass) .pass)⟩
def yJ:aY:=⟨1,1,(.seq (.ret (.nD (.cons (bt "seats") (.cons (bB (.bin .Mult) (bJ .lst (.lit .aQ)) aD) (.cons (bt "lower") (.cons (.prim .lst .nil) (.cons (bt "upper") (FU (.prim .lst .nil) (bt "gone") (.prim .lst .nil) (bt "year") (bc 0) (bt "coins") (.prim .lst .nil))))))))) .pass)⟩
def yt:aY:=⟨2,2,(.seq (.ifs (cR .NotIn aK (bB .lst (bt "lower") (bt "upper"))) (.seq (.ret (bB .tup (bt "BadSide") (.lit .aQ))) .pass) .pass) (.seq (.ifs (cR .Gt (bJ .len (bw aD aK)) (bc 98)) (.seq (.ret (bB .tup (bt "Full") (.lit .aQ))) .pass) .pass) (.seq (.expr (.cQ .append (bw aD aK) (df (.prim .tup .nil)))) (.seq (.ret (bB .tup (bt "") (bJ .len (bw aD aK)))) .pass))))⟩
def O3:aY:=⟨2,5,(.seq (.ifs (.iQ (.cJ (.eQ (.call 7 (dB (.bp "anvils" [("Mint",60)] aD .nil) (bw aK (bt "seats")))))) (.cJ (.eQ (.call 7 (dB (.bp "year" [("Mint",64)] aD .nil) (bw aK (bt "year"))))))) (.seq (.ret (.lit (.bl false))) .pass) .pass) (.seq (.fS (.one 2) (.iN (bB .lst (bt "lower") (bt "upper"))) (.seq (.ifs (.cJ (.eQ (.call 7 (dB (.bp "dies" [("Mint",61)] aD (df bu)) (bJ .len (bw aK bu)))))) (.seq (.ret (.lit (.bl false))) .pass) .pass) (.seq (.ifs (.cJ (.eQ (bJ .all (.comp [1,0,2] 5 (.one 4) (.fP (bJ .len (bw aK bu))) .no (.call 7 (dB (.bp "marks" [("Mint",62)] aK (dB bu (bB (.bin .Add) eV (bc 1)))) (bw (bw aD bu) eV))))))) (.seq (.ret (.lit (.bl false))) .pass) .pass) .pass))) (.seq (.fS (.one 3) (.iM (bc 1) (bB (.bin .Add) (bJ .len (bw aK (bt "lower"))) (bc 1))) (.seq (.set 4 (.ite (cR .In cN (bw aK (bt "gone"))) (bt "gone") (.ite (cR .In cN (bw aK (bt "seats"))) (bt "fixed") (bt "new")))) (.seq (.ifs (.cJ (.eQ (.call 7 (dB (.bp "state" [("Mint",63)] aD (df cN)) eV)))) (.seq (.ret (.lit (.bl false))) .pass) .pass) .pass))) (.seq (.ifs (.cJ (.eQ (.call 7 (dB (.bp "struck" [("Mint",65)] aD .nil) (bJ .len (bw aK (bt "coins"))))))) (.seq (.ret (.lit (.bl false))) .pass) .pass) (.seq (.ret (.call 7 (dB (.bp "hoard" [("Mint",67)] aD (df (bJ .jK (bJ .len (bw aK (bt "coins")))))) (bw aK (bt "coins"))))) .pass)))))⟩
def CV:aY:=⟨2,2,(.seq (.expr (.call 42 (df aK))) (.seq (.dN "bench" ["Mint"] aD (bB (.bin .Mult) (bJ .tup (.lit .aQ)) aK)) (.seq (.dN "laid_off" ["Mint"] aD (.prim .tup .nil)) (.seq (.dN "lower_wear" ["Mint"] aD (.prim .tup .nil)) (.seq (.dN "upper_wear" ["Mint"] aD (.prim .tup .nil)) (.seq (.dN "present" ["Mint"] aD (bc 0)) (.seq (.dN "output" ["Mint"] aD (.prim .tup .nil)) .pass)))))))⟩
def W0:aY:=⟨2,2,(.seq (.expr (.call 40 (df aK))) (.seq (.ifs (cR .Eq aK (bt "lower")) (.seq (.ret (bJ (.fld "lower_wear") aD)) .pass) .pass) (.seq (.ret (bJ (.fld "upper_wear") aD)) .pass)))⟩
def T4:aY:=⟨3,3,(.seq (.ifs (cR .Eq aK (bt "lower")) (.seq (.dN "lower_wear" ["Mint"] aD bu) .pass) (.seq (.dN "upper_wear" ["Mint"] aD bu) .pass)) .pass)⟩
def CG:aY:=⟨2,3,(.seq (.set 2 (.bp "wear_of" [("Mint",52)] aD (df aK))) (.seq (.ifs (cR .Eq (bJ .len bu) (bc 99)) (.seq (.raise "Full" (df (bt "no more dies of that side are cut"))) .pass) .pass) (.seq (.expr (.bp "put_wear" [("Mint",53)] aD (dB aK (bB (.bin .Add) bu (bJ .tup (.prim .tup .nil)))))) (.seq (.ret (bB (.bin .Add) (bJ .len bu) (bc 1))) .pass))))⟩
def X4:aY:=⟨1,1,(.seq (.ret (bJ .list (bJ (.fld "bench") aD))) .pass)⟩
def CU:aY:=⟨2,2,(.seq (.ret (bJ .len (.bp "wear_of" [("Mint",52)] aD (df aK)))) .pass)⟩
def Dn:aY:=⟨3,4,(.seq (.set 3 (.bp "wear_of" [("Mint",52)] aD (df aK))) (.seq (.expr (.call 43 (dB cN bu))) (.seq (.ret (bw cN (bB (.bin .Sub) bu (bc 1)))) .pass)))⟩
def Dp:aY:=⟨2,2,(.seq (.expr (.call 43 (dB (bJ (.fld "lower_wear") aD) aK))) (.seq (.ifs (cR .In aK (bJ (.fld "bench") aD)) (.seq (.ret (bt "fixed")) .pass) .pass) (.seq (.ifs (cR .In aK (bJ (.fld "laid_off") aD)) (.seq (.ret (bt "gone")) .pass) .pass) (.seq (.ret (bt "new")) .pass))))⟩
def CW:aY:=⟨1,1,(.seq (.ret (bJ (.fld "present") aD)) .pass)⟩
def W7:aY:=⟨1,1,(.seq (.ret (bJ .len (bJ (.fld "output") aD))) .pass)⟩
def CT:aY:=⟨2,2,(.seq (.ifs (.cJ (.eQ (.call 1 (mh aK (bc 0) (bB (.bin .Sub) (bJ .len (bJ (.fld "output") aD)) (bc 1)))))) (.seq (.raise "NoCoin" (df (bt "no coin has that number"))) .pass) .pass) (.seq (.ret (bw (bJ (.fld "output") aD) aK)) .pass))⟩
def K7:aY:=⟨2,2,(.seq (.ret (.gI [0] 3 (.one 2) (.iN aK) .no (.bp "coin" [("Mint",66)] aD (df bu)))) .pass)⟩
noncomputable abbrev EH(a:Nat):D:=.tup (List.replicate a (.tup []))
def DF(be la:D)(a b:Nat):O:=.ins "Mint" [("bench",be),("laid_off",la),("lower_wear",EH a),("upper_wear",EH b),("present",.int 0),("output",.tup [])]
noncomputable abbrev DE(n a b:Nat):O:=DF (.tup (List.replicate n .aQ)) (.tup []) a b
theorem D7{f:Str}{v:D}{fs:List (Str×D)}{n:Nat}(h:fs.length<n):(q8 f v fs).length<n+1:=by
 induction fs generalizing n with
 |nil=>simp[q8];omega
 |cons p r ih =>
  obtain⟨y,z⟩:=p;simp only[q8];split
  ·simp at h ⊢;omega
  ·have:=ih (n:=n-1) (by simp at h;omega);simp at h ⊢;omega
structure TM(T:Nat->Option aY):Prop where
 nf:NF T
 Bk:T 40=some Q8
 NV:T 42=some T7
 NU:T 43=some CP
 NT:T 51=some CV
 NS:T 52=some W0
 NR:T 53=some T4
 NQ:T 54=some CG
 NK:T 60=some X4
 NJ:T 61=some CU
 NI:T 62=some Dn
 NH:T 63=some Dp
 FR:T 64=some CW
 NG:T 65=some W7
 ND:T 66=some CT
section
variable{T:Nat->Option aY}{k d:Nat}{g:G}{Q:KD}{E:KX}{m n a b:Nat}{x:Str}{be la:D}
theorem Yc(hT:TM T){v:Int}(h1:1<=v/\v<=9->Q .aQ g)(h2:¬(1<=v/\v<=9)->E ⟨"BadAnvils"⟩ g):a9 T (k+3) 42 [.int v] g Q E:=by
 refine call_of hT.NV rfl ?_;dsimp[T7,b5,List.replicate];walk_at"";refine A9 hT.nf ?_;walk_at"";by_cases hv:1<=v/\v<=9
 ·rw[aC hv.1,aC hv.2];walk_at"";exact h1 hv
 ·have:(decide (1<=v)&&decide (v<=9))=false:=by
   rw[dJ,aN,aN];exact bZ.mp hv
  rw[this];walk_at"";exact h2 hv
theorem JH(hT:TM T){v:Int}(hm:g[m]?=some (.ins "Mint" []))(h1:∀n:Nat,v=n->1<=n->n<=9->Q .aQ (g.set m (DE n 0 0)))(h2:¬(1<=v/\v<=9)->E ⟨"BadAnvils"⟩ g):a9 T (k+4) 51 [.ref m,.int v] g Q E:=by
 refine call_of hT.NT rfl ?_;dsimp[CV,b5,List.replicate];walk_at"";refine Yc hT (λhv=>?_) h2;walk_at"";refine WZ (by simp) hv.1 (by omega) (by simp;omega) ?_;walk_at"";refine o8 hm (by simp) (by simp) ?_;walk_at"";refine o8 (get_set hm) (by simp) (by repeat (first|(simp;done)|refine D7 ?_)) ?_;rw[bR];walk_at"";refine o8 (get_set hm) (by simp) (by repeat (first|(simp;done)|refine D7 ?_)) ?_;rw[bR];walk_at"";refine o8 (get_set hm) (by simp) (by repeat (first|(simp;done)|refine D7 ?_)) ?_;rw[bR];walk_at"";refine o8 (get_set hm) (by simp) (by repeat (first|(simp;done)|refine D7 ?_)) ?_;rw[bR];walk_at"";refine o8 (get_set hm) (by simp) (by repeat (first|(simp;done)|refine D7 ?_)) ?_;rw[bR];walk_at"";obtain⟨n,rfl⟩:∃n:Nat,v=n:=⟨v.toNat,by omega⟩
 have:=h1 n rfl (by omega) (by omega);have e:(List.replicate (Int.toNat (n:Int)) [D.aQ]).flatten=List.replicate n .aQ:=by
  rw[bO,km]
 rw[e];exact this
theorem IQ(hT:TM T){l:List D}{v:Int}(h1:1<=v/\v<=l.length->Q .aQ g)(h2:¬(1<=v/\v<=l.length)->E ⟨"NoDie"⟩ g):a9 T (k+3) 43 [.tup l,.int v] g Q E:=by
 refine call_of hT.NU rfl ?_;dsimp[CP,b5,List.replicate];walk_at"";refine A9 hT.nf ?_;walk_at"";by_cases hv:1<=v/\v<=l.length
 ·rw[aC hv.1,aC hv.2];walk_at"";exact h1 hv
 ·have:(decide (1<=v)&&decide (v<=(l.length:Int)))=false:=by
   rw[dJ,aN,aN];exact bZ.mp hv
  rw[this];walk_at"";exact h2 hv
end
def Q6:aY:=⟨3,3,(.seq (.ret (bB (.bin .Add) (bB (.bin .Add) (bB (.jF false true) aD aK) (bJ .tup bu)) (bB (.jF true false) aD (bB (.bin .Add) aK (bc 1))))) .pass)⟩
def CH:aY:=⟨2,4,(.seq (.set 2 (.bp "state" [("Mint",63)] aD (df aK))) (.seq (.ifs (cR .Eq bu (bt "fixed")) (.seq (.raise "Fixed" (df (bt "the die is on an anvil"))) .pass) .pass) (.seq (.ifs (cR .Eq bu (bt "gone")) (.seq (.raise "Gone" (df (bt "the die was laid off"))) .pass) .pass) (.seq (.ifs (cR .NotIn (.lit .aQ) (bJ (.fld "bench") aD)) (.seq (.raise "NoAnvil" (df (bt "no anvil is free"))) .pass) .pass) (.seq (.set 3 (.cQ .index (bJ (.fld "bench") aD) (df (.lit .aQ)))) (.seq (.dN "bench" ["Mint"] aD (.call 177 (mh (bJ (.fld "bench") aD) cN aK))) (.seq (.ret cN) .pass)))))))⟩
def X3:aY:=⟨2,3,(.seq (.ifs (cR .NotEq (.bp "state" [("Mint",63)] aD (df aK)) (bt "fixed")) (.seq (.raise "NotFixed" (df (bt "the die is on no anvil"))) .pass) .pass) (.seq (.set 2 (.cQ .index (bJ (.fld "bench") aD) (df aK))) (.seq (.dN "bench" ["Mint"] aD (.call 177 (mh (bJ (.fld "bench") aD) bu (.lit .aQ)))) (.seq (.jV "laid_off" ["Mint"] aD (bJ .tup aK)) (.seq (.ret bu) .pass)))))⟩
def j8(x:D):Prop:=x=.aQ\/∃i,x=.int i
def gP(y z:D):Bool:=kM (toV z) (toV y)
def kE:D->PyData
 |.int i=>.int i
 |_=>.none
theorem Ke{g:G}{x:D}(h:j8 x){n:Nat}:rd g n x=some (kE x):=by
 rcases h with rfl|⟨i,rfl⟩<;>cases n<;>rfl
theorem KN{x:D}(h:j8 x):(kE x).canLay0=true:=by
 rcases h with rfl|⟨i,rfl⟩<;>simp[kE,PyData.canLay0]
theorem a45{x y:D}(hx:j8 x)(hy:j8 y):PyData.eqv (kE x) (kE y)=gP y x:=by
 rcases hx with rfl|⟨i,rfl⟩<;>rcases hy with rfl|⟨j,rfl⟩<;>simp[kE,PyData.eqv,gP,kM,toV]
theorem a44{g:G}{l:List D}(h:∀x∈l,j8 x):zT g l=some (l.map kE):=by
 unfold zT
 induction l with
 |nil=>rfl
 |cons x r ih =>
  rw[List.mapM_cons,Ke (h x (by simp)),ih λz hz=>h z (by simp[hz])]
  rfl
theorem YW{l:List D}(h:∀x∈l,j8 x):PyData.canLayAll0 (l.map kE)=true:=by
 induction l with
 |nil=>rfl
 |cons x r ih =>
  rw[ba];simp only[PyData.canLayAll0,KN (h x (by simp)),ih λz hz=>h z (by simp[hz])]
  rfl
theorem p7{g:G}{x y:D}{l:List D}{kb:Bool->Prop}(hi:B1 g x=some l)(hl:∀z∈l,j8 z)(hy:j8 y)(h:kb (l.any (gP y))):sC g y x kb:=by
 refine⟨_,.inr ⟨l,l.map kE,kE y,hi,a44 hl,Ke hy,YW hl,KN hy,rfl⟩,?_⟩;have e:((l.map kE).any λq=>PyData.eqv q (kE y))=l.any (gP y):=by
  rw[List.any_map];clear h hi
  induction l with
  |nil=>rfl
  |cons z r ih =>
   rw[dI,dI,ih λw hw=>hl w (by simp[hw])];show(PyData.eqv (kE z) (kE y)||_)=_;rw[a45 (hl z (by simp)) hy]
 rw[e];exact h
theorem R8{y z:D}(hy:j8 y)(hz:j8 z):gP y z=true↔z=y:=by
 rcases hy with rfl|⟨i,rfl⟩<;>rcases hz with rfl|⟨j,rfl⟩<;>simp[gP,kM,toV]
theorem Ie{x:D}(h:j8 x):tP x=true:=by rcases h with rfl|⟨i,rfl⟩<;>rfl
theorem SW{l:List D}{y:D}(hl:∀z∈l,j8 z)(hy:j8 y)(h:l.any (gP y)=true):∃n,P8 l y n/\n<l.length/\l[n]?=some y:=by
 have lA:l.all tP=true:=dw.mpr λx hx=>Ie (hl x hx)
 suffices ∃n,n<l.length/\l[n]?=some y/\∀(m:Nat) z,m<n->l[m]?=some z->kM (toV z) (toV y)=false by
  obtain⟨n,h1,h2,h3⟩:=this;exact⟨n,⟨lA,Ie hy,⟨y,h2,(R8 hy hy).mpr rfl⟩,h3⟩,h1,h2⟩
 clear lA
 induction l with
 |nil=>simp at h
 |cons x r ih =>
  cases e:gP y x with
  |true =>
   have:=(R8 hy (hl x (by simp))).mp e;subst this;exact⟨0,by simp,rfl,λm z hm=>absurd hm (by omega)⟩
  |false =>
   rw[dI,e,qh] at h;obtain⟨n,h1,h2,h3⟩:=ih (λz hz=>hl z (by simp[hz])) h;refine⟨n+1,by simpa using h1,by simpa using h2,λm z hm hz=>?_⟩;cases m with
   |zero=>cases hz;exact e
   |succ m=>exact h3 m z (by omega) (by simpa using hz)
theorem Dy{α:Type}{l:List α}{n:Nat}:cut l (some (n:Int)) none=l.drop n:=by
 have:¬((n:Int)<0):=by omega
 unfold cut HT.dE;simp[this];by_cases h:n<=l.length
 ·rw[Nat.min_eq_left h,List.take_of_length_le (by simp)]
 ·rw[Nat.min_eq_right (by omega),ue (aj _),ue (by omega)];simp
theorem Vn{α:Type}{l:List α}{n:Nat}:cut l none (some (n:Int))=l.take n:=by
 have:¬((n:Int)<0):=by omega
 unfold cut HT.dE;simp[this]
section
variable{T:Nat->Option aY}{k d:Nat}{g:G}{Q:KD}{E:KX}{m a:Nat}{bl:List D}{go:List Int}
theorem P9(mK:T 177=some Q6){l:List D}{n:Nat}{x:D}(hn:n<l.length)(hz:l.length<=1000)(h:Q (.tup (l.set n x)) g):a9 T (k+1) 177 [.tup l,.int n,x] g Q E:=by
 refine call_of mK rfl ?_;dsimp[Q6,b5,List.replicate];walk_at"";rw[Vn];refine Dv (by simp;omega) ?_;walk_at"";rw[show((n:Int)+1)=((n+1:Nat):Int) by omega,Dy];refine Dv (by simp;omega) ?_;have e:l.take n++[x]++l.drop (n+1)=l.set n x:=by
  rw[List.set_eq_take_append_cons_drop,au hn];simp
 rw[e];exact h
theorem E1{go:List Int}:∀z∈go.map D.int,j8 z:=λz hz=>by
 obtain⟨i,_,rfl⟩:=aS.mp hz;exact .inr ⟨i,rfl⟩
end
def yu:aY:=⟨2,3,(.seq (.ifs (.cJ (.eQ (.chain .LtE .LtE (bc 1) aK (bJ .len (bw aD (bt "lower")))))) (.seq (.ret (bB .tup (bt "NoDie") (.lit .aQ))) .pass) .pass) (.seq (.ifs (cR .In aK (bw aD (bt "seats"))) (.seq (.ret (bB .tup (bt "Fixed") (.lit .aQ))) .pass) .pass) (.seq (.ifs (cR .In aK (bw aD (bt "gone"))) (.seq (.ret (bB .tup (bt "Gone") (.lit .aQ))) .pass) .pass) (.seq (.ifs (cR .NotIn (.lit .aQ) (bw aD (bt "seats"))) (.seq (.ret (bB .tup (bt "NoAnvil") (.lit .aQ))) .pass) .pass) (.seq (.set 2 (.cQ .index (bw aD (bt "seats")) (df (.lit .aQ)))) (.seq (.eI (bw aD (bt "seats")) bu aK) (.seq (.ret (bB .tup (bt "") bu)) .pass)))))))⟩
def yv:aY:=⟨2,3,(.seq (.ifs (.cJ (.eQ (.chain .LtE .LtE (bc 1) aK (bJ .len (bw aD (bt "lower")))))) (.seq (.ret (bB .tup (bt "NoDie") (.lit .aQ))) .pass) .pass) (.seq (.ifs (cR .NotIn aK (bw aD (bt "seats"))) (.seq (.ret (bB .tup (bt "NotFixed") (.lit .aQ))) .pass) .pass) (.seq (.set 2 (.cQ .index (bw aD (bt "seats")) (df aK))) (.seq (.eI (bw aD (bt "seats")) bu (.lit .aQ)) (.seq (.expr (.cQ .append (bw aD (bt "gone")) (df aK))) (.seq (.ret (bB .tup (bt "") bu)) .pass))))))⟩
theorem aE3{l:List D}{y:D}{n n':Nat}(h:P8 l y n)(h':P8 l y n'):n=n':=by
 obtain⟨_,_,⟨z,hz,ez⟩,hn⟩:=h;obtain⟨_,_,⟨z',Ah,FX⟩,vj⟩:=h';rcases gD n n' with c|c|c
 ·rw[vj n z c hz] at ez;cases ez
 ·exact c
 ·rw[hn n' z' c Ah] at FX;cases FX
theorem S7{l:List D}{n:Nat}{x:D}(h:∀z∈l,j8 z)(hx:j8 x):∀z∈l.set n x,j8 z:=λz hz=>by
 rcases eE hz with hz|rfl
 ·exact h z hz
 ·exact hx
def tL(l:List D):Prop:=∀(i j:Nat) (v:Int),l[i]?=some (.int v)->l[j]?=some (.int v)->i=j
theorem O0{l:List D}{v:Int}(h:∀z∈l,j8 z):l.any (gP (.int v))=true↔∃i:Nat,l[i]?=some (.int v):=by
 rw[kT];constructor
 ·rintro⟨z,hz,e⟩;rw[(R8 (.inr ⟨v,rfl⟩) (h z hz))] at e;subst e;exact zD hz
 ·rintro⟨i,hi⟩;exact⟨_,aH hi,(R8 (.inr ⟨v,rfl⟩) (.inr ⟨v,rfl⟩)).mpr rfl⟩
theorem SU{l:List D}{n:Nat}{v:Int}(h:∀z∈l,j8 z)(hd:tL l)(hn:l.any (gP (.int v))=false):tL (l.set n (.int v)):=by
 have no:∀i:Nat,l[i]?≠some (.int v):=λi hi=>by
  rw[(O0 h).mpr ⟨i,hi⟩] at hn;cases hn
 intro i j w hi hj;by_cases ei:n=i<;>by_cases ej:n=j
 ·omega
 ·subst ei;rw[aw ej] at hj;rw[kl] at hi;split at hi
  ·split at hi
   ·cases hi;exact absurd hj (no j)
   ·cases hi
  ·contradiction
 ·subst ej;rw[aw ei] at hi;rw[kl] at hj;split at hj
  ·split at hj
   ·cases hj;exact absurd hi (no i)
   ·cases hj
  ·contradiction
 ·rw[aw ei] at hi;rw[aw ej] at hj;exact hd i j w hi hj
theorem K9{l:List D}{n i:Nat}{x y:D}(h:(l.set n x)[i]?=some y):(i=n/\y=x)\/l[i]?=some y:=by
 by_cases e:n=i
 ·subst e;rw[kl] at h;split at h
  ·split at h
   ·cases h;exact .inl ⟨rfl,rfl⟩
   ·cases h
  ·contradiction
 ·rw[aw e] at h;exact .inr h
theorem SS{l:List D}{n:Nat}(hd:tL l):tL (l.set n .aQ):=λi j v hi hj=>by
 rcases K9 hi with⟨_,z⟩|hi
 ·cases z
 ·rcases K9 hj with⟨_,z⟩|hj
  ·cases z
  ·exact hd i j v hi hj
theorem ZQ{l:List D}{n:Nat}{w:Int}(h:∀z∈l,j8 z)(e:(l.set n .aQ).any (gP (.int w))=true):l.any (gP (.int w))=true:=by
 obtain⟨i,hi⟩:=(O0 (S7 h (.inl rfl))).mp e;rcases K9 hi with⟨_,z⟩|hi
 ·cases z
 ·exact(O0 h).mpr ⟨i,hi⟩
theorem ZP{l:List D}{n:Nat}{v w:Int}(h:∀z∈l,j8 z)(e:(l.set n (.int v)).any (gP (.int w))=true):w=v\/l.any (gP (.int w))=true:=by
 obtain⟨i,hi⟩:=(O0 (S7 h (.inr ⟨v,rfl⟩))).mp e;rcases K9 hi with⟨_,z⟩|hi
 ·cases z;exact .inl rfl
 ·exact .inr ((O0 h).mpr ⟨i,hi⟩)
theorem a77{l:List D}{n:Nat}{v:Int}(h:∀z∈l,j8 z)(hd:tL l)(hn:l[n]?=some (.int v)):(l.set n .aQ).any (gP (.int v))=false:=by
 cases e:(l.set n .aQ).any (gP (.int v)) with
 |false=>rfl
 |true =>
  obtain⟨i,hi⟩:=(O0 (S7 h (.inl rfl))).mp e;rcases K9 hi with⟨_,z⟩|kd
  ·cases z
  ·have:i=n:=hd i n v kd hn;subst this;rw[aP (aq.mp hn).1] at hi;cases hi
theorem Cr{n k:Nat}(h:k<n):kG n (k:Int)=some k:=by
 unfold kG;rw[au (by omega),au (by omega),bO]
section
variable{T:Nat->Option aY}{k d:Nat}{g:G}{Q:KD}{E:KX}{m q a:Nat}{bl cl:List D}{go co:List Int}
end
structure cg where
 bl:List D
 go:List Int
 lo:List (List Int)
 up:List (List Int)
 yr:Int
 co:List D
noncomputable abbrev mk(l:List Int):D:=.tup (l.map .int)
noncomputable abbrev ff(l:List (List Int)):List D:=l.map mk
def c5(s:cg):O:=.ins "Mint" [("bench",.tup s.bl),("laid_off",.tup (s.go.map .int)),("lower_wear",.tup (ff s.lo)),("upper_wear",.tup (ff s.up)),("present",.int s.yr),("output",.tup s.co)]
def cg.side(s:cg)(x:Str):List (List Int):=if x="lower" then s.lo else s.up
def cg.put(s:cg)(x:Str)(w:List (List Int)):cg:=if x="lower" then{ s with lo:=w } else{ s with up:=w }
theorem G8{s:cg}:s.side "lower"=s.lo:=by unfold cg.side;rw[au rfl]
theorem G7{s:cg}:s.side "upper"=s.up:=by unfold cg.side;rw[ax (by decide)]
noncomputable abbrev A1(x:Str):Prop:=x="lower"\/x="upper"
def pe:List Int:=[0,1,2,3,4,5,6,7]
def markL(l:List Int)(k:Int):List Int:=pe.filter λi=>decide (i=k\/i∈l)
noncomputable abbrev Rs:=Str×D×cg
def v8(s:cg)(x:Str):Rs:=if A1 x then(if(s.side x).length<99 then("",.int ((s.side x).length+1),s.put x (s.side x++[[]])) else("Full",.aQ,s)) else("BadSide",.aQ,s)
noncomputable abbrev A2(s:cg)(v:Int):Bool:=s.bl.any (gP (.int v))
noncomputable abbrev F9(s:cg)(v:Int):Bool:=(s.go.map D.int).any (gP (.int v))
noncomputable abbrev ic(l:List D)(y:D):Nat:=l.findIdx (gP y)
def n0(s:cg)(v:Int):Rs:=if 1<=v/\v<=s.lo.length then(if A2 s v=true then("Fixed",.aQ,s) else if F9 s v=true then("Gone",.aQ,s) else if s.bl.any (gP .aQ)=true then("",.int (ic s.bl .aQ),{ s with bl:=s.bl.set (ic s.bl .aQ) (.int v) }) else("NoAnvil",.aQ,s)) else("NoDie",.aQ,s)
def v7(s:cg)(v:Int):Rs:=if 1<=v/\v<=s.lo.length then(if A2 s v=true then("",.int (ic s.bl (.int v)),{ s with bl:=s.bl.set (ic s.bl (.int v)) .aQ,go:=s.go++[v] }) else("NotFixed",.aQ,s)) else("NoDie",.aQ,s)
noncomputable abbrev fH(l:List (List Int))(v:Int):List Int:=l.getD (v-1).toNat []
def i3(s:cg)(x:Str)(v k:Int):Rs:=if A1 x then(if 1<=v/\v<=(s.side x).length then(if x="lower"/\F9 s v=true then("Gone",.aQ,s) else if 0<=k/\k<=7 then(if k∈fH (s.side x) v then("Marked",.aQ,s) else("",.aQ,s.put x ((s.side x).set (v-1).toNat (markL (fH (s.side x) v) k)))) else("BadSpot",.aQ,s)) else("NoDie",.aQ,s)) else("BadSide",.aQ,s)
def O6(s:cg)(a b:Int):D:=.tup [.int a,mk (fH s.lo a),.int b,mk (fH s.up b),.int s.yr]
def f9(s:cg)(a b:Int):Rs:=if(1<=a/\a<=s.lo.length)/\(1<=b/\b<=s.up.length) then(if A2 s a=true then(if s.co.length<200 then("",.int s.co.length,{ s with co:=s.co++[O6 s a b] }) else("Full",.aQ,s)) else("NotFixed",.aQ,s)) else("NoDie",.aQ,s)
def u6(s:cg)(n:Int):Rs:=if s.yr+1<=n/\n<=9999 then("",.aQ,{ s with yr:=n }) else("BadYear",.aQ,s)
def Mk(l:List Int):Prop:=(∀k∈l,ST.Spot k)/\l.length<=8
def Gu(c:D):Prop:=∃a l b m y,c=.tup [.int a,mk l,.int b,mk m,.int y]/\l.length<=8/\m.length<=8
structure WS(s:cg):Prop where
 se:∀z∈s.bl,j8 z
 di:tL s.bl
 dj:∀v,A2 s v=true->F9 s v=false
 bn:s.bl.length<=9
 gn:s.go.Nodup
 gb:∀v∈s.go,1<=v/\v<=s.lo.length
 ln:s.lo.length<=99
 un:s.up.length<=99
 lm:∀l∈s.lo,Mk l
 um:∀l∈s.up,Mk l
 y0:0<=s.yr
 cn:s.co.length<=200
 cs:∀c∈s.co,Gu c
theorem YS:pe.Pairwise (· < ·):=by unfold pe;decide
theorem Ky{k:Int}:k∈pe↔ST.Spot k:=by
 unfold pe ST.Spot;simp only[List.mem_cons,List.mem_nil_iff,or_false];omega
theorem Yo{l:List Int}{k i:Int}(hl:∀j∈l,ST.Spot j)(hk:ST.Spot k):i∈markL l k↔i=k\/i∈l:=by
 unfold markL;rw[bS,bo,Ky];constructor
 ·exact λh=>h.2
 ·rintro(rfl|h)
  ·exact⟨hk,.inl rfl⟩
  ·exact⟨hl i h,.inr h⟩
theorem Kx{l:List Int}{k:Int}:Mk (markL l k):=by
 unfold markL;refine⟨λi hi=>Ky.mp (bS.mp hi).1,?_⟩;exact aM (fh _ _) (by decide)
theorem a40{l:List Int}{k:Int}(hl:∀j∈l,ST.Spot j)(hk:ST.Spot k):K5 (l++[k])=markL l k:=by
 have h1:(markL l k).Pairwise (· < ·):=YS.sublist jh;refine CZ ?_ (IA _) (h1.imp λh=>Int.le_of_lt h);refine(Z7 _).trans ?_;refine(cK (ST.U8 _ _ List.nodup_nil) (h1.imp λh=>Int.ne_of_lt h)).mpr λi=>?_;rw[ST.E3,Yo hl hk];simp[or_comm]
theorem Ld{s:cg}(W:WS s):s.go.length<=99:=by
 have hp:s.go.Perm (((List.range 99).map λn:Nat=>(n:Int)+1).filter (·∈s.go)):=by
  refine(cK W.gn ?_).mpr λv=>?_
  ·exact Lw jh (by decide)
  ·rw[bS];constructor
   ·intro hv;refine⟨?_,by simpa using hv⟩;have:=W.gb v hv;have:=W.ln;rw[aS];exact⟨(v-1).toNat,gf.mpr (by omega),by omega⟩
   ·rintro⟨_,hv⟩;simpa using hv
 rw[hp.length_eq];exact aM (fh _ _) (by simp)
theorem P2{l:List D}{y:D}(hl:∀z∈l,j8 z)(hy:j8 y)(h:l.any (gP y)=true):P8 l y (ic l y)/\ic l y<l.length/\l[ic l y]?=some y:=by
 obtain⟨n,W,hn,e⟩:=SW hl hy h;have:ic l y=n:=by
  have dQ:ic l y<l.length:=List.findIdx_lt_length_of_exists (by simpa[List.any_eq_true] using h);have h1:gP y l[ic l y]=true:=List.findIdx_getElem (w:=dQ);refine aE3 ⟨W.1,W.2.1,⟨_,ao dQ,h1⟩,λm z hm hz=>?_⟩ W;have:=List.not_of_lt_findIdx hm;obtain⟨sN,rfl⟩:=aq.mp hz;simpa[gP] using this
 rw[this];exact⟨W,hn,e⟩
theorem WT{s:cg}{x:Str}(W:WS s):WS (v8 s x).2.2:=by
 unfold v8;split
 ·rename_i hx;split
  ·rename_i hl;rcases hx with rfl|rfl
   ·rw[G8] at hl ⊢;unfold cg.put;rw[au rfl];refine⟨W.se,W.di,W.dj,W.bn,W.gn,λv hv=>?_,?_,W.un,λl h=>?_,W.um,W.y0,W.cn,W.cs⟩
    ·have:=W.gb v hv;rw[aU];simp;omega
    ·rw[aU];simp;omega
    ·rcases bN.mp h with h|h
     ·exact W.lm l h
     ·simp at h;subst h;exact⟨λk hk=>by simp at hk,by simp⟩
   ·rw[G7] at hl ⊢;unfold cg.put;rw[ax (by decide)];refine⟨W.se,W.di,W.dj,W.bn,W.gn,W.gb,W.ln,?_,W.lm,λl h=>?_,W.y0,W.cn,W.cs⟩
    ·rw[aU];simp;omega
    ·rcases bN.mp h with h|h
     ·exact W.um l h
     ·simp at h;subst h;exact⟨λk hk=>by simp at hk,by simp⟩
  ·exact W
 ·exact W
theorem WU{s:cg}{v:Int}(W:WS s):WS (n0 s v).2.2:=by
 unfold n0
 repeat' split
 all_goals first|exact W|skip
 rename_i hv e1 e2 e3;have rB:A2 s v=false:=by simpa using e1
 have Oo:F9 s v=false:=by simpa using e2
 refine⟨S7 W.se (.inr ⟨v,rfl⟩),SU W.se W.di rB,λw hw=>?_,by rw[cS];exact W.bn,W.gn,W.gb,W.ln,W.un,W.lm,W.um,W.y0,W.cn,W.cs⟩;rcases ZP W.se hw with rfl|hw
 ·exact Oo
 ·exact W.dj w hw
theorem WV{s:cg}{v:Int}(W:WS s):WS (v7 s v).2.2:=by
 unfold v7
 repeat' split
 all_goals first|exact W|skip
 rename_i hv e1;obtain⟨F,hn,e⟩:=P2 W.se (.inr ⟨v,rfl⟩) e1;have hg:=W.dj v e1;have Nb:v∉s.go:=λhv=>by
  have:F9 s v=true:=kT.mpr ⟨.int v,aS.mpr ⟨v,hv,rfl⟩,(R8 (.inr ⟨v,rfl⟩) (.inr ⟨v,rfl⟩)).mpr rfl⟩;rw[hg] at this;cases this
 refine⟨S7 W.se (.inl rfl),SS W.di,λw hw=>?_,by rw[cS];exact W.bn,?_,?_,W.ln,W.un,W.lm,W.um,W.y0,W.cn,W.cs⟩
 ·have hb:=W.dj w (ZQ W.se hw);show((s.go++[v]).map D.int).any (gP (.int w))=false;rw[az,List.any_append];show(F9 s w||_)=false;rw[hb,qh];cases e5:(List.map D.int [v]).any (gP (.int w)) with
  |false=>rfl
  |true =>
   rw[ba,ki,dI,List.any_nil,Bool.or_false] at e5;have:=(R8 (.inr ⟨w,rfl⟩) (.inr ⟨v,rfl⟩)).mp e5;cases this;have h1:A2 { s with bl:=s.bl.set (ic s.bl (.int v)) .aQ,go:=s.go++[v] } v=false:=a77 W.se W.di e;rw[h1] at hw;cases hw
 ·show(s.go++[v]).Nodup;rw[cY];exact⟨W.gn,by simp,λa ha b hb=>by simp at hb;subst hb;exact λz=>Nb (z▸ha)⟩
 ·intro w hw;rcases bN.mp hw with hw|hw
  ·exact W.gb w hw
  ·simp at hw;subst hw;exact hv
theorem Qz{s:cg}{x:Str}{v k:Int}(W:WS s):WS (i3 s x v k).2.2:=by
 unfold i3
 repeat' split
 all_goals first|exact W|skip
 rename_i hx hv e1 hk e2;rcases hx with rfl|rfl
 ·unfold cg.put;rw[au rfl,G8];refine⟨W.se,W.di,W.dj,W.bn,W.gn,by simpa using W.gb,by simpa using W.ln,W.un,λl h=>?_,W.um,W.y0,W.cn,W.cs⟩;rcases eE h with h|rfl
  ·exact W.lm l h
  ·exact Kx
 ·unfold cg.put;rw[ax (by decide),G7];refine⟨W.se,W.di,W.dj,W.bn,W.gn,W.gb,W.ln,by simpa using W.un,W.lm,λl h=>?_,W.y0,W.cn,W.cs⟩;rcases eE h with h|rfl
  ·exact W.um l h
  ·exact Kx
theorem yR{l:List (List Int)}{v:Int}(hv:1<=v/\v<=l.length):l[(v-1).toNat]?=some (fH l v)/\fH l v∈l:=by
 have h:(v-1).toNat<l.length:=by omega
 have e:l[(v-1).toNat]?=some (fH l v):=by
  rw[ao h,fH,nN,ao h]
  rfl
 exact⟨e,aH e⟩
theorem a29{s:cg}{a b:Int}(W:WS s):WS (f9 s a b).2.2:=by
 unfold f9
 repeat' split
 all_goals first|exact W|skip
 rename_i hv e1 hl;refine⟨W.se,W.di,W.dj,W.bn,W.gn,W.gb,W.ln,W.un,W.lm,W.um,W.y0,by simp;omega,λc hc=>?_⟩;rcases bN.mp hc with hc|hc
 ·exact W.cs c hc
 ·simp at hc;subst hc;exact⟨_,_,_,_,_,rfl,(W.lm _ (yR hv.1).2).2,(W.um _ (yR hv.2).2).2⟩
theorem QA{s:cg}{n:Int}(W:WS s):WS (u6 s n).2.2:=by
 unfold u6;split
 ·rename_i h;exact⟨W.se,W.di,W.dj,W.bn,W.gn,W.gb,W.ln,W.un,W.lm,W.um,by have:=W.y0;show 0<=n;omega,W.cn,W.cs⟩
 ·exact W
def DB:aY:=⟨2,2,(.seq (.ret (bJ .tuple (bB .uw aD aK))) .pass)⟩
def P5:aY:=⟨4,5,(.seq (.set 4 (.bp "marks" [("Mint",62)] aD (dB aK bu))) (.seq (.ifs (.eY (cR .Eq aK (bt "lower")) (cR .In bu (bJ (.fld "laid_off") aD))) (.seq (.raise "Gone" (df (bt "the die was laid off"))) .pass) .pass) (.seq (.ifs (.cJ (.eQ (.call 1 (mh cN (bc 0) (bc 7))))) (.seq (.raise "BadSpot" (df (bt "a die has no such spot"))) .pass) .pass) (.seq (.ifs (cR .In cN eV) (.seq (.raise "Marked" (df (bt "the die has that mark"))) .pass) .pass) (.seq (.expr (.bp "put_wear" [("Mint",53)] aD (dB aK (.call 177 (mh (.bp "wear_of" [("Mint",52)] aD (df aK)) (bB (.bin .Sub) bu (bc 1)) (.call 16 (dB eV (bJ .tup cN)))))))) .pass)))))⟩
def W9:aY:=⟨3,4,(.seq (.set 3 (.prim .tup (zF aK (.bp "marks" [("Mint",62)] aD (dB (bt "lower") aK)) bu (.bp "marks" [("Mint",62)] aD (dB (bt "upper") bu)) (bJ (.fld "present") aD)))) (.seq (.ifs (cR .NotIn aK (bJ (.fld "bench") aD)) (.seq (.raise "NotFixed" (df (bt "the lower die is on no anvil"))) .pass) .pass) (.seq (.ifs (cR .Eq (bJ .len (bJ (.fld "output") aD)) (bc 200)) (.seq (.raise "Full" (df (bt "no more coins are struck"))) .pass) .pass) (.seq (.jV "output" ["Mint"] aD (bJ .tup cN)) (.seq (.ret (bB (.bin .Sub) (bJ .len (bJ (.fld "output") aD)) (bc 1))) .pass)))))⟩
def N7:aY:=⟨2,2,(.seq (.ifs (.cJ (.eQ (.call 1 (mh aK (bB (.bin .Add) (bJ (.fld "present") aD) (bc 1)) (bc 9999))))) (.seq (.raise "BadYear" (df (bt "no such year can begin"))) .pass) .pass) (.seq (.dN "present" ["Mint"] aD aK) .pass))⟩
structure TQ(T:Nat->Option aY):Prop where
 tm:TM T
 NX:T 16=some DB
 NP:T 55=some CH
 NO:T 56=some X3
 NN:T 57=some P5
 NM:T 58=some W9
 NL:T 59=some N7
 mK:T 177=some Q6
section
variable{T:Nat->Option aY}{k d:Nat}{g:G}{Q:KD}{E:KX}{m:Nat}{s:cg}{x:Str}
theorem QE(hT:TQ T){l:List Int}{i:Int}(hl:Mk l)(hi:ST.Spot i)(h:∀g',Ex g g'->Q (mk (markL l i)) g'):a9 T (k+1) 16 [mk l,.tup [.int i]] g Q E:=by
 refine call_of hT.NX rfl ?_;dsimp[DB,b5,List.replicate];walk_at"";refine Wa (ns:=l) (ms:=[i]) hl.1 (λk hk=>by simp at hk;subst hk;exact hi) (by have:=hl.2;simp;omega) ?_;rw[a40 hl.1 hi];refine Hk (a7 b9) ?_;walk_at"";exact h _ (Ex.snoc _ _)
theorem Z5(hT:TQ T)(hm:g[m]?=some (c5 s))(ho:PyData.strOk x=true)(h1:A1 x->Q (.tup (ff (s.side x))) g)(h3:¬A1 x->E ⟨"BadSide"⟩ g):a9 T (k+2) 52 [.ref m,.str x] g Q E:=by
 refine call_of hT.tm.NS rfl ?_;dsimp[W0,b5,List.replicate];walk_at"";refine XS hT.tm.Bk ho (λhx=>?_) (λz1 z2=>h3 (λz=>z.elim z1 z2));walk_at"";refine if2 (λc=>?_) (λc=>?_)
 ·walk_at"";have:=h1 hx;rw[c,G8] at this;exact j2 hm rfl this
 ·walk_at"";have:=h1 hx;rw[hx.resolve_left c,G7] at this;exact j2 hm rfl this
theorem JW(hT:TQ T)(hm:g[m]?=some (c5 s)){w:List (List Int)}(h:Q .aQ (g.set m (c5 (s.put x w)))):a9 T (k+1) 53 [.ref m,.str x,.tup (ff w)] g Q E:=by
 refine call_of hT.tm.NR rfl ?_;dsimp[T4,b5,List.replicate];walk_at"";refine if2 (λc=>?_) (λc=>?_)
 ·walk_at"";refine o8 hm (by simp) (by simp) ?_;walk_at"";unfold cg.put at h;rw[au c] at h;exact h
 ·walk_at"";refine o8 hm (by simp) (by simp) ?_;walk_at"";unfold cg.put at h;rw[ax c] at h;exact h
theorem QH(hT:TQ T)(hm:g[m]?=some (c5 s))(W:WS s)(ho:PyData.strOk x=true)(h1:(v8 s x).1=""->Q (v8 s x).2.1 (g.set m (c5 (v8 s x).2.2)))(h2:(v8 s x).1≠""->E ⟨(v8 s x).1⟩ g):a9 T (k+3) 54 [.ref m,.str x] g Q E:=by
 refine call_of hT.tm.NQ rfl ?_;dsimp[CG,b5,List.replicate];walk_at"";refine c9 hm rfl rfl ?_;walk_at"";refine Z5 (k:=k) hT hm ho (λhx=>?_) (λhx=>?_)
 ·have hl:(s.side x).length<=99:=by
   rcases hx with rfl|rfl
   ·rw[G8];exact W.ln
   ·rw[G7];exact W.un
  walk_at"";rw[ak];refine if2 (λc=>?_) (λc=>?_)
  ·have e:v8 s x=(("Full",.aQ,s):Rs):=by unfold v8;rw[au hx,ax (by omega)]
   rw[e] at h2;walk_at"";exact h2 (by dsimp only;decide)
  ·have e:v8 s x=(("",.int ((s.side x).length+1),s.put x (s.side x++[[]])):Rs):=by unfold v8;rw[au hx,au (by omega)]
   rw[e] at h1;walk_at"";refine c9 hm rfl rfl ?_;walk_at"";refine Dv (by simp;omega) ?_;have e2:ff (s.side x)++[D.tup []]=ff (s.side x++[[]]):=by rw[ff,ff,az];rfl
   rw[e2];walk_at"";refine JW hT hm ?_;walk_at"";rw[ak];exact h1 rfl
 ·have e:v8 s x=(("BadSide",.aQ,s):Rs):=by unfold v8;rw[ax hx]
  rw[e] at h2;exact h2 (by dsimp only;decide)
theorem SR(hT:TQ T)(hm:g[m]?=some (c5 s))(ho:PyData.strOk x=true)(h1:A1 x->Q (.int (s.side x).length) g)(h3:¬A1 x->E ⟨"BadSide"⟩ g):a9 T (k+3) 61 [.ref m,.str x] g Q E:=by
 refine call_of hT.tm.NJ rfl ?_;dsimp[CU,b5,List.replicate];walk_at"";refine c9 hm rfl rfl ?_;walk_at"";refine Z5 (k:=k) hT hm ho (λhx=>?_) h3;walk_at"";rw[ak];exact h1 hx
theorem wU{l:List (List Int)}{v:Int}(hv:1<=v/\v<=l.length):fW (ff l) (v-1)=some (mk (fH l v)):=by
 have h:=(yR hv).1;have:=o6 (xs:=ff l) (j:=(v-1).toNat) (v:=mk (fH l v)) (by rw[aE,h];rfl)
 rwa [show(((v-1).toNat:Nat):Int)=v-1 by omega] at this
theorem U9(hT:TQ T)(hm:g[m]?=some (c5 s))(ho:PyData.strOk x=true){v:Int}(h1:A1 x->1<=v/\v<=(s.side x).length->Q (mk (fH (s.side x) v)) g)(h2:A1 x->¬(1<=v/\v<=(s.side x).length)->E ⟨"NoDie"⟩ g)(h3:¬A1 x->E ⟨"BadSide"⟩ g):a9 T (k+4) 62 [.ref m,.str x,.int v] g Q E:=by
 refine call_of hT.tm.NI rfl ?_;dsimp[Dn,b5,List.replicate];walk_at"";refine c9 hm rfl rfl ?_;walk_at"";refine Z5 (k:=k+1) hT hm ho (λhx=>?_) h3;walk_at"";refine IQ hT.tm (λhv=>?_) (λhv=>?_)
 ·rw[ak] at hv;walk_at"";refine tH (wU hv) ?_;walk_at"";exact h1 hx hv
 ·rw[ak] at hv;exact h2 hx hv
theorem P0(hT:TQ T)(hm:g[m]?=some (c5 s))(W:WS s){v:Int}(h0:¬(1<=v/\v<=s.lo.length)->E ⟨"NoDie"⟩ g)(h1:1<=v/\v<=s.lo.length->A2 s v=true->Q (.str "fixed") g)(h2:1<=v/\v<=s.lo.length->A2 s v=false->F9 s v=true->Q (.str "gone") g)(h3:1<=v/\v<=s.lo.length->A2 s v=false->F9 s v=false->Q (.str "new") g) :
  a9 T (k+4) 63 [.ref m,.int v] g Q E:=by
 refine call_of hT.tm.NH rfl ?_;dsimp[Dp,b5,List.replicate];walk_at"";refine j2 hm rfl ?_;walk_at"";refine IQ hT.tm (λhv=>?_) (λz=>h0 (λy=>z ⟨y.1,by rw[ak];exact y.2⟩));rw[ak] at hv;walk_at"";refine j2 hm rfl ?_;walk_at"";refine U2 (p7 (l:=s.bl) rfl W.se (.inr ⟨v,rfl⟩) ?_);walk_at"";cases e1:A2 s v with
 |true =>
  refine fJ e1 ?_;walk_at"";exact h1 hv e1
 |false =>
  refine dG e1 ?_;walk_at"";refine j2 hm rfl ?_;walk_at"";refine U2 (p7 (l:=s.go.map D.int) rfl E1 (.inr ⟨v,rfl⟩) ?_);walk_at"";cases e2:F9 s v with
  |true =>
   refine fJ e2 ?_;walk_at"";exact h2 hv e1 e2
  |false =>
   refine dG e2 ?_;walk_at"";exact h3 hv e1 e2
theorem jy{b:Bool}(h:b=false):¬b=true:=by rw[h];decide
theorem QL(hT:TQ T)(hm:g[m]?=some (c5 s))(W:WS s){v:Int}(h1:(n0 s v).1=""->Q (n0 s v).2.1 (g.set m (c5 (n0 s v).2.2)))(h2:(n0 s v).1≠""->E ⟨(n0 s v).1⟩ g):a9 T (k+5) 55 [.ref m,.int v] g Q E:=by
 refine call_of hT.NP rfl ?_;dsimp[CH,b5,List.replicate];walk_at"";refine c9 hm rfl rfl ?_;walk_at"";refine P0 (k:=k) hT hm W (λhv=>?_) (λhv e1=>?_) (λhv e1 e2=>?_) (λhv e1 e2=>?_)
 ·have e:n0 s v=(("NoDie",.aQ,s):Rs):=by unfold n0;rw[ax hv]
  rw[e] at h2;exact h2 (by dsimp only;decide)
 ·have e:n0 s v=(("Fixed",.aQ,s):Rs):=by unfold n0;rw[au hv,au e1]
  rw[e] at h2;walk_at"";refine fJ (by decide +kernel) ?_;walk_at"";exact h2 (by dsimp only;decide)
 ·have e:n0 s v=(("Gone",.aQ,s):Rs):=by unfold n0;rw[au hv,ax (jy e1),au e2]
  rw[e] at h2;walk_at"";refine dG (by decide +kernel) ?_;walk_at"";refine fJ (by decide +kernel) ?_;walk_at"";exact h2 (by dsimp only;decide)
 ·walk_at"";refine dG (by decide +kernel) ?_;walk_at"";refine dG (by decide +kernel) ?_;walk_at"";refine j2 hm rfl ?_;walk_at"";refine Q9 (p7 (l:=s.bl) rfl W.se (.inl rfl) ?_);walk_at"";cases e3:s.bl.any (gP .aQ) with
  |false =>
   have e:n0 s v=(("NoAnvil",.aQ,s):Rs):=by unfold n0;rw[au hv,ax (jy e1),ax (jy e2),ax (jy e3)]
   rw[e] at h2;refine fJ rfl ?_;walk_at"";exact h2 (by dsimp only;decide)
  |true =>
   have e:n0 s v=(("",.int (ic s.bl .aQ),{ s with bl:=s.bl.set (ic s.bl .aQ) (.int v) }):Rs):=by unfold n0;rw[au hv,ax (jy e1),ax (jy e2),au e3]
   rw[e] at h1;refine dG rfl ?_;obtain⟨F,hn,_⟩:=P2 W.se (.inl rfl) e3;have bn:=W.bn;walk_at"";refine j2 hm rfl ?_;refine⟨Jc,?_⟩;walk_at"";refine GV F (by omega) ?_;walk_at"";refine j2 hm rfl ?_;walk_at"";refine P9 (k:=k+3) hT.mK hn (by omega) ?_;walk_at"";refine o8 hm (by simp) (by simp) ?_;walk_at"";exact h1 rfl
theorem Ri(hT:TQ T)(hm:g[m]?=some (c5 s))(W:WS s){v:Int}(h1:(v7 s v).1=""->Q (v7 s v).2.1 (g.set m (c5 (v7 s v).2.2)))(h2:(v7 s v).1≠""->E ⟨(v7 s v).1⟩ g):a9 T (k+5) 56 [.ref m,.int v] g Q E:=by
 refine call_of hT.NO rfl ?_;dsimp[X3,b5,List.replicate];walk_at"";refine c9 hm rfl rfl ?_;walk_at"";have no:1<=v/\v<=s.lo.length->A2 s v=false->E ⟨"NotFixed"⟩ g:=λhv e1=>by
  have e:v7 s v=(("NotFixed",.aQ,s):Rs):=by unfold v7;rw[au hv,ax (jy e1)]
  rw[e] at h2;exact h2 (by dsimp only;decide)
 refine P0 (k:=k) hT hm W (λhv=>?_) (λhv e1=>?_) (λhv e1 e2=>?_) (λhv e1 e2=>?_)
 ·have e:v7 s v=(("NoDie",.aQ,s):Rs):=by unfold v7;rw[ax hv]
  rw[e] at h2;exact h2 (by dsimp only;decide)
 ·have e:v7 s v=(("",.int (ic s.bl (.int v)),{ s with bl:=s.bl.set (ic s.bl (.int v)) .aQ,go:=s.go++[v] }):Rs):=by unfold v7;rw[au hv,au e1]
  rw[e] at h1;obtain⟨F,hn,_⟩:=P2 W.se (.inr ⟨v,rfl⟩) e1;have bn:=W.bn;have gl:=Ld W;walk_at"";refine dG (by decide +kernel) ?_;walk_at"";refine j2 hm rfl ?_;refine⟨Jc,?_⟩;walk_at"";refine GV F (by omega) ?_;walk_at"";refine j2 hm rfl ?_;walk_at"";refine P9 (k:=k+3) hT.mK hn (by omega) ?_;walk_at"";refine o8 hm (by simp) (by simp) ?_;have e2:(O.ins "Mint" (q8 "bench" (.tup (s.bl.set (ic s.bl (.int v)) .aQ)) [("bench",.tup s.bl),("laid_off",.tup (s.go.map .int)),("lower_wear",.tup (ff s.lo)),("upper_wear",.tup (ff s.up)),("present",.int s.yr),("output",.tup s.co)]))=c5 { s with bl:=s.bl.set (ic s.bl (.int v)) .aQ }:=rfl;rw[e2];have ot:(g.set m (c5 { s with bl:=s.bl.set (ic s.bl (.int v)) .aQ }))[m]?=some (c5 { s with bl:=s.bl.set (ic s.bl (.int v)) .aQ }):=get_set hm;walk_at"";refine Jt ?_;walk_at"";refine⟨m,_,_,_,rfl,ot,by simp,rfl,?_⟩;walk_at"";refine Le (by simp;omega) ?_;refine⟨_,ot,by simp,?_⟩;rw[bR];have e3:(O.ins "Mint" (q8 "laid_off" (.tup (s.go.map .int++[.int v])) [("bench",.tup (s.bl.set (ic s.bl (.int v)) .aQ)),("laid_off",.tup (s.go.map .int)),("lower_wear",.tup (ff s.lo)),("upper_wear",.tup (ff s.up)),("present",.int s.yr),("output",.tup s.co)]))=c5 { s with bl:=s.bl.set (ic s.bl (.int v)) .aQ,go:=s.go++[v] }:=by
   unfold c5;rw[az]
   rfl
  rw[e3];walk_at"";exact h1 rfl
 ·walk_at"";refine fJ (by decide +kernel) ?_;walk_at"";exact no hv e1
 ·walk_at"";refine fJ (by decide +kernel) ?_;walk_at"";exact no hv e1
theorem Cz{s:cg}(W:WS s)(hx:A1 x){v:Int}(hv:1<=v/\v<=(s.side x).length):Mk (fH (s.side x) v):=by
 have h:=(yR hv).2;rcases hx with rfl|rfl
 ·rw[G8] at h ⊢;exact W.lm _ h
 ·rw[G7] at h ⊢;exact W.um _ h
theorem Z8{s:cg}(W:WS s):(s.side x).length<=99:=by
 unfold cg.side;split
 ·exact W.ln
 ·exact W.un
theorem yV{g:G}{y:D}{l:List Int}{v:Int}{kb:Bool->Prop}(hi:B1 g y=some (l.map .int))(h:kb (decide (v∈l))):sC g (.int v) y kb:=by
 refine p7 hi E1 (.inr ⟨v,rfl⟩) ?_;have e:(l.map D.int).any (gP (.int v))=decide (v∈l):=by
  rw[cq,O0 E1,bo];constructor
  ·rintro⟨i,hi⟩;rw[aE,ae] at hi;obtain⟨a,h1,h2⟩:=hi;cases h2;exact aH h1
  ·intro hm;obtain⟨i,hi⟩:=zD hm;exact⟨i,by rw[aE,hi];rfl⟩
 rw[e];exact h
theorem a86(hT:TQ T)(hm:g[m]?=some (c5 s))(W:WS s)(ho:PyData.strOk x=true){v j:Int}(h1:(i3 s x v j).1=""->∀g',Ex g g'->Q .aQ (g'.set m (c5 (i3 s x v j).2.2)))(h2:(i3 s x v j).1≠""->E ⟨(i3 s x v j).1⟩ g):a9 T (k+5) 57 [.ref m,.str x,.int v,.int j] g Q E:=by
 refine call_of hT.NN rfl ?_;dsimp[P5,b5,List.replicate];walk_at"";refine c9 hm rfl rfl ?_;walk_at"";refine U9 (k:=k) hT hm ho (λhx hv=>?_) (λhx hv=>?_) (λhx=>?_)
 ·have xI:=Cz W hx hv;have sl:=Z8 (x:=x) W;have fin:∀(N:Ends),¬(x="lower"/\F9 s v=true)->(∀(g':G) σ,(∀g1:G,Ex g g1->g'=g1.set m (c5 (i3 s x v j).2.2)->(i3 s x v j).1=""->N.nx σ g'))->wpS (a9 T (k+4)) (match P5.body with|.seq _ (.seq _ b)=>b|x=>x) N [some (.ref m),some (.str x),some (.int v),some (.int j),some (mk (fH (s.side x) v))] g E:=by
   intro N qU hN;dsimp[P5];walk_at"";refine A9 hT.tm.nf ?_;walk_at"";by_cases hj:0<=j/\j<=7
   ·rw[aC hj.1,aC hj.2];refine dG rfl ?_;walk_at"";refine U2 (yV (l:=fH (s.side x) v) rfl ?_);walk_at"";by_cases hq:j∈fH (s.side x) v
    ·have e:i3 s x v j=(("Marked",.aQ,s):Rs):=by unfold i3;rw[au hx,au hv,ax qU,au hj,au hq]
     rw[e] at h2;rw[aC hq];refine pE ?_;walk_at"";exact h2 (by dsimp only;decide)
    ·have e:i3 s x v j=(("",.aQ,s.put x ((s.side x).set (v-1).toNat (markL (fH (s.side x) v) j))):Rs):=by unfold i3;rw[au hx,au hv,ax qU,au hj,ax hq]
     rw[e] at hN;rw[aG hq];refine pV ?_;walk_at"";refine c9 hm rfl rfl ?_;walk_at"";refine c9 hm rfl rfl ?_;walk_at"";refine Z5 (k:=k+2) hT hm ho (λ_=>?_) (λz=>absurd hx z);walk_at"";refine QE (k:=k+3) hT xI ⟨hj.1,by omega⟩ λg1 e1=>?_;walk_at"";have MG:v-1=(((v-1).toNat:Nat):Int):=by omega
     rw[MG];refine P9 (k:=k+3) hT.mK (by rw[ak];omega) (by rw[ak];omega) ?_;have es:(ff (s.side x)).set (v-1).toNat (mk (markL (fH (s.side x) v) j))=ff ((s.side x).set (v-1).toNat (markL (fH (s.side x) v) j)):=by rw[ff,ff,List.map_set]
     rw[es];walk_at"";refine JW (k:=k+3) hT (e1.at hm) ?_;walk_at"";exact hN _ _ g1 e1 rfl rfl
   ·have e:i3 s x v j=(("BadSpot",.aQ,s):Rs):=by unfold i3;rw[au hx,au hv,ax qU,ax hj]
    rw[e] at h2;have:(decide (0<=j)&&decide (j<=7))=false:=by
     rw[dJ,aN,aN];exact bZ.mp hj
    rw[this];refine fJ rfl ?_;walk_at"";exact h2 (by dsimp only;decide)
  walk_at"";refine if2 (λpF=>?_) (λpF=>?_)
  ·walk_at"";refine j2 hm rfl ?_;walk_at"";refine U2 (p7 (l:=s.go.map D.int) rfl E1 (.inr ⟨v,rfl⟩) ?_);walk_at"";cases e2:F9 s v with
   |true =>
    have e:i3 s x v j=(("Gone",.aQ,s):Rs):=by unfold i3;rw[au hx,au hv,au ⟨pF,e2⟩]
    rw[e] at h2;refine fJ e2 ?_;walk_at"";exact h2 (by dsimp only;decide)
   |false =>
    refine dG e2 ?_;refine D6 ?_;exact fin _ (λz=>jy e2 z.2) (λg' σ g1 e1 eg er=>by subst eg;exact h1 er g1 e1)
  ·try refine pV ?_
   try with_reducible refine D6 ?_
   exact fin _ (λz=>pF z.1) (λg' σ g1 e1 eg er=>by subst eg;exact h1 er g1 e1)
 ·have e:i3 s x v j=(("NoDie",.aQ,s):Rs):=by unfold i3;rw[au hx,ax hv]
  rw[e] at h2;exact h2 (by dsimp only;decide)
 ·have e:i3 s x v j=(("BadSide",.aQ,s):Rs):=by unfold i3;rw[ax hx]
  rw[e] at h2;exact h2 (by dsimp only;decide)
theorem ZI(hT:TQ T)(hm:g[m]?=some (c5 s))(W:WS s){a b:Int}(h1:(f9 s a b).1=""->Q (f9 s a b).2.1 (g.set m (c5 (f9 s a b).2.2)))(h2:(f9 s a b).1≠""->E ⟨(f9 s a b).1⟩ g):a9 T (k+5) 58 [.ref m,.int a,.int b] g Q E:=by
 refine call_of hT.NM rfl ?_;dsimp[W9,b5,List.replicate];have no:¬((1<=a/\a<=s.lo.length)/\(1<=b/\b<=s.up.length))->E ⟨"NoDie"⟩ g:=λhv=>by
  have e:f9 s a b=(("NoDie",.aQ,s):Rs):=by unfold f9;rw[ax hv]
  rw[e] at h2;exact h2 (by dsimp only;decide)
 walk_at"";refine c9 hm rfl rfl ?_;walk_at"";refine U9 (k:=k) hT hm (by decide +kernel) (λ_ ha=>?_) (λ_ ha=>no (λz=>ha (by rw[G8];exact z.1))) (λz=>absurd (.inl rfl) z);rw[G8] at ha ⊢;walk_at"";refine c9 hm rfl rfl ?_;walk_at"";refine U9 (k:=k) hT hm (by decide +kernel) (λ_ hb=>?_) (λ_ hb=>no (λz=>hb (by rw[G7];exact z.2))) (λz=>absurd (.inr rfl) z);rw[G7] at hb ⊢;walk_at"";refine j2 hm rfl ?_;walk_at"";refine j2 hm rfl ?_;walk_at"";refine Q9 (p7 (l:=s.bl) rfl W.se (.inr ⟨a,rfl⟩) ?_);walk_at"";cases e1:A2 s a with
 |false =>
  have e:f9 s a b=(("NotFixed",.aQ,s):Rs):=by unfold f9;rw[au ⟨ha,hb⟩,ax (jy e1)]
  rw[e] at h2;refine fJ (show(!A2 s a)=true by rw[e1];rfl) ?_;walk_at"";exact h2 (by dsimp only;decide)
 |true =>
  refine dG (show(!A2 s a)=false by rw[e1];rfl) ?_;have cn:=W.cn;walk_at"";refine j2 hm rfl ?_;walk_at"";refine if2 (λhl=>?_) (λhl=>?_)
  ·have e:f9 s a b=(("Full",.aQ,s):Rs):=by unfold f9;rw[au ⟨ha,hb⟩,au e1,ax (by omega)]
   rw[e] at h2;walk_at"";exact h2 (by dsimp only;decide)
  ·have e:f9 s a b=(("",.int s.co.length,{ s with co:=s.co++[O6 s a b] }):Rs):=by unfold f9;rw[au ⟨ha,hb⟩,au e1,au (by omega)]
   rw[e] at h1;walk_at"";refine Jt ?_;walk_at"";refine⟨m,_,_,_,rfl,hm,by simp,rfl,?_⟩;walk_at"";refine Le (by simp;omega) ?_;refine⟨_,hm,by simp,?_⟩;have e3:(O.ins "Mint" (q8 "output" (.tup (s.co++[.tup [.int a,mk (fH s.lo a),.int b,mk (fH s.up b),.int s.yr]])) [("bench",.tup s.bl),("laid_off",.tup (s.go.map .int)),("lower_wear",.tup (ff s.lo)),("upper_wear",.tup (ff s.up)),("present",.int s.yr),("output",.tup s.co)]))=c5 { s with co:=s.co++[O6 s a b] }:=rfl;rw[e3];have ot:(g.set m (c5 { s with co:=s.co++[O6 s a b] }))[m]?=some (c5 { s with co:=s.co++[O6 s a b] }):=get_set hm;walk_at"";refine j2 ot rfl ?_;walk_at"";have:=h1 rfl;rw[show((s.co++[O6 s a b]).length:Int)-1=s.co.length by rw[aU];simp];exact this
theorem a30(hT:TQ T)(hm:g[m]?=some (c5 s)){n:Int}(h1:(u6 s n).1=""->Q .aQ (g.set m (c5 (u6 s n).2.2)))(h2:(u6 s n).1≠""->E ⟨(u6 s n).1⟩ g):a9 T (k+3) 59 [.ref m,.int n] g Q E:=by
 refine call_of hT.NL rfl ?_;dsimp[N7,b5,List.replicate];walk_at"";refine j2 hm rfl ?_;walk_at"";refine A9 hT.tm.nf ?_;walk_at"";by_cases hv:s.yr+1<=n/\n<=9999
 ·have e:u6 s n=(("",.aQ,{ s with yr:=n }):Rs):=by unfold u6;rw[au hv]
  rw[e] at h1;rw[aC hv.1,aC hv.2];refine dG rfl ?_;walk_at"";refine o8 hm (by simp) (by simp) ?_;walk_at"";exact h1 rfl
 ·have e:u6 s n=(("BadYear",.aQ,s):Rs):=by unfold u6;rw[ax hv]
  rw[e] at h2;have:(decide (s.yr+1<=n)&&decide (n<=9999))=false:=by
   rw[dJ,aN,aN];exact bZ.mp hv
  rw[this];refine fJ rfl ?_;walk_at"";exact h2 (by dsimp only;decide)
theorem Df(hT:TQ T)(hm:g[m]?=some (c5 s))(h:Q (.ref g.length) (g++[.lst s.bl])):a9 T (k+1) 60 [.ref m] g Q E:=by
 refine call_of hT.tm.NK rfl ?_;dsimp[X4,b5,List.replicate];walk_at"";refine j2 hm rfl ?_;walk_at"";exact h
theorem Qy(hT:TQ T)(hm:g[m]?=some (c5 s))(h:Q (.int s.yr) g):a9 T (k+1) 64 [.ref m] g Q E:=by
 refine call_of hT.tm.FR rfl ?_;dsimp[CW,b5,List.replicate];walk_at"";exact j2 hm rfl h
theorem ZJ(hT:TQ T)(hm:g[m]?=some (c5 s))(h:Q (.int s.co.length) g):a9 T (k+1) 65 [.ref m] g Q E:=by
 refine call_of hT.tm.NG rfl ?_;dsimp[W7,b5,List.replicate];walk_at"";refine j2 hm rfl ?_;walk_at"";exact h
theorem SJ(hT:TQ T)(hm:g[m]?=some (c5 s)){i:Int}(h1:∀c,0<=i->i<s.co.length->s.co[i.toNat]?=some c->Q c g)(h2:¬(0<=i/\i<s.co.length)->E ⟨"NoCoin"⟩ g):a9 T (k+3) 66 [.ref m,.int i] g Q E:=by
 refine call_of hT.tm.ND rfl ?_;dsimp[CT,b5,List.replicate];walk_at"";refine j2 hm rfl ?_;walk_at"";refine A9 hT.tm.nf ?_;walk_at"";by_cases hv:0<=i/\i<s.co.length
 ·rw[aC hv.1,aC (show i<=(s.co.length:Int)-1 by omega)];refine dG rfl ?_;walk_at"";refine j2 hm rfl ?_;walk_at"";have hi:i.toNat<s.co.length:=by omega
  have e:=ao hi;have e2:=o6 (xs:=s.co) (j:=i.toNat) e;rw[show((i.toNat:Nat):Int)=i by omega] at e2;refine tH e2 ?_;walk_at"";exact h1 _ hv.1 hv.2 e
 ·have:(decide (0<=i)&&decide (i<=(s.co.length:Int)-1))=false:=by
   rw[dJ,aN,aN];rcases bZ.mp hv with z|z
   ·exact .inl z
   ·exact .inr (by omega)
  rw[this];refine fJ rfl ?_;walk_at"";exact h2 hv
theorem a05(hT:TQ T)(sW:T 67=some K7)(hm:g[m]?=some (c5 s)){c:Nat}(hc:g[c]?=some (.lst (k8 0 s.co.length)))(hz:s.co.length<=1000)(h:Q (.ref g.length) (g++[.lst s.co])):a9 T (k+4) 67 [.ref m,.ref c] g Q E:=by
 refine call_of sW rfl ?_;dsimp[K7,b5,List.replicate];walk_at"";refine Sv (c8 T _) (og (c8 T _) ?_);walk_at"";refine⟨c,_,rfl,a7 hc,k8 0 s.co.length,λi ys σ g'=>ys=s.co.take i/\g'=g/\∃z1 z2,σ=[some (.ref m),z1,z2],by rw[C3];exact hz,λi ys σ g' p=>?_,⟨by simp,rfl,_,_,rfl⟩,λi y ys σ g' hy p=>?_,λys σ g' p=>?_⟩
 ·obtain⟨rfl,rfl,_⟩:=p;exact⟨K8 (a7 hc),by rw[dt];omega⟩
 ·obtain⟨rfl,rfl,z1,z2,rfl⟩:=p;obtain⟨hi,rfl⟩:=H9 hy;refine s9 ?_
  try show dD _ _ _ _ _ _
  walk_at"";refine c9 hm rfl rfl ?_;walk_at"";refine SJ (k:=k) hT hm (λc' _ _ e=>?_) (λz=>absurd ⟨by omega,by omega⟩ z);refine⟨?_,rfl,_,_,rfl⟩;rw[show((0:Int)+(i:Int)).toNat=i by omega] at e;rw[List.take_add_one,e]
  rfl
 ·obtain⟨rfl,rfl,_⟩:=p;rw[C3,dk];exact h
end
def Y9:aY:=⟨4,5,(.seq (.ifs (cR .NotIn aK (bB .lst (bt "lower") (bt "upper"))) (.seq (.ret (bB .tup (bt "BadSide") (.lit .aQ))) .pass) .pass) (.seq (.ifs (.cJ (.eQ (.chain .LtE .LtE (bc 1) bu (bJ .len (bw aD aK))))) (.seq (.ret (bB .tup (bt "NoDie") (.lit .aQ))) .pass) .pass) (.seq (.ifs (.eY (cR .Eq aK (bt "lower")) (cR .In bu (bw aD (bt "gone")))) (.seq (.ret (bB .tup (bt "Gone") (.lit .aQ))) .pass) .pass) (.seq (.ifs (.cJ (.eQ (.chain .LtE .LtE (bc 0) cN (bc 7)))) (.seq (.ret (bB .tup (bt "BadSpot") (.lit .aQ))) .pass) .pass) (.seq (.set 4 (bw (bw aD aK) (bB (.bin .Sub) bu (bc 1)))) (.seq (.ifs (cR .In cN eV) (.seq (.ret (bB .tup (bt "Marked") (.lit .aQ))) .pass) .pass) (.seq (.eI (bw aD aK) (bB (.bin .Sub) bu (bc 1)) (bJ .tuple (.comp [4,3] 4 (.one 3) (.fP (bc 8)) (.iQ (cR .Eq cN aK) (cR .In cN aD)) cN))) (.seq (.ret (bB .tup (bt "") (.lit .aQ))) .pass))))))))⟩
def zi:aY:=⟨3,3,(.seq (.ifs (.iQ (.cJ (.eQ (.chain .LtE .LtE (bc 1) aK (bJ .len (bw aD (bt "lower")))))) (.cJ (.eQ (.chain .LtE .LtE (bc 1) bu (bJ .len (bw aD (bt "upper"))))))) (.seq (.ret (bB .tup (bt "NoDie") (.lit .aQ))) .pass) .pass) (.seq (.ifs (cR .NotIn aK (bw aD (bt "seats"))) (.seq (.ret (bB .tup (bt "NotFixed") (.lit .aQ))) .pass) .pass) (.seq (.ifs (cR .Gt (bJ .len (bw aD (bt "coins"))) (bc 199)) (.seq (.ret (bB .tup (bt "Full") (.lit .aQ))) .pass) .pass) (.seq (.expr (.cQ .append (bw aD (bt "coins")) (df (.prim .tup (zF aK (bw (bw aD (bt "lower")) (bB (.bin .Sub) aK (bc 1))) bu (bw (bw aD (bt "upper")) (bB (.bin .Sub) bu (bc 1))) (bw aD (bt "year"))))))) (.seq (.ret (bB .tup (bt "") (bB (.bin .Sub) (bJ .len (bw aD (bt "coins"))) (bc 1)))) .pass)))))⟩
def iL(q:Nat)(y:Int):List (Key×D):=[(.inr "seats",.ref (q+2)),(.inr "lower",.ref (q+3)),(.inr "upper",.ref (q+4)),(.inr "gone",.ref (q+5)),(.inr "year",.int y),(.inr "coins",.ref (q+6))]
structure MD(g:G)(q:Nat)(t:cg):Prop where
 bV:g[q]?=some (.bV (iL q t.yr))
 cP:g[q+2]?=some (.lst t.bl)
 lower:g[q+3]?=some (.lst (ff t.lo))
 upper:g[q+4]?=some (.lst (ff t.up))
 gone:g[q+5]?=some (.lst (t.go.map .int))
 cD:g[q+6]?=some (.lst t.co)
structure Kq(q:Nat)(g g':G):Prop where
 len:g.length<=g'.length
 old:∀i,(i<q\/q+7<=i)->i<g.length->g'[i]?=g[i]?
theorem Kq.at{q:Nat}{g g':G}(h:Kq q g g'){i:Nat}{o:O}(hi:i<q\/q+7<=i)(e:g[i]?=some o):g'[i]?=some o:=(h.old i hi (c7 e)).trans e
theorem Kq.refl{q:Nat}{g:G}:Kq q g g:=⟨aj _,λ_ _ _=>rfl⟩
theorem Kq.trans{q:Nat}{g g1 g2:G}(a:Kq q g g1)(b:Kq q g1 g2):Kq q g g2:=⟨aM a.len b.len,λi h hi=>(b.old i h (av hi a.len)).trans (a.old i h hi)⟩
theorem Kq.ex{q:Nat}{g g':G}(h:Ex g g'):Kq q g g':=⟨h.len,λi _ hi=>h.old i hi⟩
theorem Kq.set{q i:Nat}{g:G}{o:O}(h:q<=i/\i<q+7):Kq q g (g.set i o):=⟨by simp,λj hj _=>by rw[aw (by omega)]⟩
theorem Kq.draw{q d:Nat}{g g':G}(h:Kq q g g')(hd:d<q)(D0:f7 g d):f7 g' d:=by
 obtain⟨s,p,b,r,xs,h1,h2,h3,h4⟩:=D0.ex;exact⟨s,p,b,r,xs,h.at (by omega) h1,h.at (by omega) h2,h3,h4⟩
theorem MD.ex{g g':G}{q:Nat}{t:cg}(h:MD g q t)(x:Ex g g'):MD g' q t:=⟨x.at h.bV,x.at h.cP,x.at h.lower,x.at h.upper,x.at h.gone,x.at h.cD⟩
theorem MD.gr{g g':G}{q d:Nat}{t:cg}(h:MD g q t)(x:Gr d g g')(hd:d<q):MD g' q t:=⟨x.at (by omega) h.bV,x.at (by omega) h.cP,x.at (by omega) h.lower,x.at (by omega) h.upper,x.at (by omega) h.gone,x.at (by omega) h.cD⟩
theorem MD.Gk{g:G}{q:Nat}{t:cg}(h:MD g q t)(w:List D):MD (g.set (q+2) (.lst w)) q { t with bl:=w }:=⟨a8 h.bV (by omega),get_set h.cP,a8 h.lower (by omega),a8 h.upper (by omega),a8 h.gone (by omega),a8 h.cD (by omega)⟩
theorem MD.Uq{g:G}{q:Nat}{t:cg}(h:MD g q t)(w:List (List Int)):MD (g.set (q+3) (.lst (ff w))) q { t with lo:=w }:=⟨a8 h.bV (by omega),a8 h.cP (by omega),get_set h.lower,a8 h.upper (by omega),a8 h.gone (by omega),a8 h.cD (by omega)⟩
theorem MD.Us{g:G}{q:Nat}{t:cg}(h:MD g q t)(w:List (List Int)):MD (g.set (q+4) (.lst (ff w))) q { t with up:=w }:=⟨a8 h.bV (by omega),a8 h.cP (by omega),a8 h.lower (by omega),get_set h.upper,a8 h.gone (by omega),a8 h.cD (by omega)⟩
theorem MD.setG{g:G}{q:Nat}{t:cg}(h:MD g q t)(w:List Int):MD (g.set (q+5) (.lst (w.map .int))) q { t with go:=w }:=⟨a8 h.bV (by omega),a8 h.cP (by omega),a8 h.lower (by omega),a8 h.upper (by omega),get_set h.gone,a8 h.cD (by omega)⟩
theorem MD.setC{g:G}{q:Nat}{t:cg}(h:MD g q t)(w:List D):MD (g.set (q+6) (.lst w)) q { t with co:=w }:=⟨a8 h.bV (by omega),a8 h.cP (by omega),a8 h.lower (by omega),a8 h.upper (by omega),a8 h.gone (by omega),get_set h.cD⟩
theorem MD.Ut{g:G}{q:Nat}{t:cg}(h:MD g q t)(n:Int):MD (g.set q (.bV (iL q n))) q { t with yr:=n }:=⟨get_set h.bV,a8 h.cP (by omega),a8 h.lower (by omega),a8 h.upper (by omega),a8 h.gone (by omega),a8 h.cD (by omega)⟩
theorem lh{q:Nat}{y:Int}:K2 (iL q y) (.inr "seats")=some (.ref (q+2)):=rfl
theorem pD{q:Nat}{y:Int}:K2 (iL q y) (.inr "lower")=some (.ref (q+3)):=rfl
theorem uS{q:Nat}{y:Int}:K2 (iL q y) (.inr "upper")=some (.ref (q+4)):=rfl
theorem uT{q:Nat}{y:Int}:K2 (iL q y) (.inr "gone")=some (.ref (q+5)):=rfl
theorem xJ{q:Nat}{y:Int}:K2 (iL q y) (.inr "year")=some (.int y):=rfl
theorem qN{q:Nat}{y:Int}:K2 (iL q y) (.inr "coins")=some (.ref (q+6)):=rfl
theorem MD.side{g:G}{q:Nat}{t:cg}{x:Str}(h:MD g q t)(hx:A1 x):∃r,(r=q+3\/r=q+4)/\K2 (iL q t.yr) (.inr x)=some (.ref r)/\g[r]?=some (.lst (ff (t.side x)))/\∀w,MD (g.set r (.lst (ff w))) q (t.put x w):=by
 rcases hx with rfl|rfl
 ·refine⟨q+3,.inl rfl,pD,by rw[G8];exact h.lower,λw=>?_⟩;unfold cg.put;rw[au rfl];exact h.Uq w
 ·refine⟨q+4,.inr rfl,uS,by rw[G7];exact h.upper,λw=>?_⟩;unfold cg.put;rw[ax (by decide)];exact h.Us w
section
variable{T:Nat->Option aY}{k d:Nat}{g:G}{Q:KD}{E:KX}{q:Nat}{s:cg}{x:Str}
noncomputable abbrev tB(q:Nat)(g:G)(r:Rs)(Q:KD):Prop:=∀g',Kq q g g'->MD g' q r.2.2->Q (.tup [.str r.1,r.2.1]) g'
theorem a85(Bi:T 46=some yt)(M0:MD g q s)(W:WS s)(ho:PyData.strOk x=true)(h:tB q g (v8 s x) Q):a9 T (k+1) 46 [.ref q,.str x] g Q E:=by
 refine call_of Bi rfl ?_;dsimp[yt,b5,List.replicate];walk_at"";have e1:Ex g (g++[O.lst [.str "lower",.str "upper"]]):=Ex.snoc _ _;refine Q9 (HW b9 ho ?_);have M1:=M0.ex e1;have k1:=Kq.ex (q:=q) e1;have sl:=Z8 (x:=x) W;generalize g++[O.lst [.str "lower",.str "upper"]]=g1 at *;walk_at"";by_cases hx:A1 x
 ·refine dG (by rw[jD,cT,bo,bo];exact hx) ?_;obtain⟨r,hr,lR,qR,ve⟩:=M1.side hx;walk_at"";refine i8 M1.bV rfl lR ?_;refine k9 (a7 qR) ?_;walk_at"";rw[ak];refine if2 (λc=>?_) (λc=>?_)
  ·have e:v8 s x=(("Full",.aQ,s):Rs):=by unfold v8;rw[au hx,ax (by omega)]
   rw[e] at h;walk_at"";exact h _ k1 M1
  ·have e:v8 s x=(("",.int ((s.side x).length+1),s.put x (s.side x++[[]])):Rs):=by unfold v8;rw[au hx,au (by omega)]
   rw[e] at h;walk_at"";refine i8 M1.bV rfl lR ?_;refine⟨A4 qR,?_⟩;walk_at"";refine E4 qR (by simp;omega) ?_;have e2:ff (s.side x)++[D.tup []]=ff (s.side x++[[]]):=by rw[ff,ff,az];rfl
   rw[e2];have M2:=ve (s.side x++[[]]);have vg:(g1.set r (.lst (ff (s.side x++[[]]))))[r]?=some (.lst (ff (s.side x++[[]]))):=get_set qR;have hd2:(g1.set r (.lst (ff (s.side x++[[]]))))[q]?=some (.bV (iL q s.yr)):=a8 M1.bV (by omega);walk_at"";refine i8 hd2 rfl lR ?_;refine k9 (a7 vg) ?_;walk_at"";rw[ak,aU];have:=h _ (k1.trans (Kq.set (i:=r) (by omega))) M2;exact this
 ·refine fJ (by rw[ko,iV,aN,aN];exact not_or.mp hx) ?_;have e:v8 s x=(("BadSide",.aQ,s):Rs):=by unfold v8;rw[ax hx]
  rw[e] at h;walk_at"";exact h _ k1 M1
theorem a84(hi:T 178=some yu)(M0:MD g q s)(W:WS s){v:Int}(h:tB q g (n0 s v) Q):a9 T (k+1) 178 [.ref q,.int v] g Q E:=by
 refine call_of hi rfl ?_;dsimp[yu,b5,List.replicate];walk_at"";have no:¬(1<=v/\v<=s.lo.length)->Q (.tup [.str "NoDie",.aQ]) g:=λhv=>by
  have e:n0 s v=(("NoDie",.aQ,s):Rs):=by unfold n0;rw[ax hv]
  rw[e] at h;exact h _ Kq.refl M0
 by_cases jx:1<=v
 ·rw[aC jx];walk_at"";refine i8 M0.bV rfl pD ?_;refine k9 (a7 M0.lower) ?_;walk_at"";rw[ak];by_cases jw:v<=(s.lo.length:Int)
  ·rw[aC jw];walk_at"";refine i8 M0.bV rfl lh ?_;refine U2 (p7 (l:=s.bl) (a7 M0.cP) W.se (.inr ⟨v,rfl⟩) ?_);walk_at"";cases e1:A2 s v with
   |true =>
    have e:n0 s v=(("Fixed",.aQ,s):Rs):=by unfold n0;rw[au ⟨jx,jw⟩,au e1]
    rw[e] at h;refine fJ e1 ?_;walk_at"";exact h _ Kq.refl M0
   |false =>
    refine dG e1 ?_;walk_at"";refine i8 M0.bV rfl uT ?_;refine U2 (p7 (l:=s.go.map D.int) (a7 M0.gone) E1 (.inr ⟨v,rfl⟩) ?_);walk_at"";cases e2:F9 s v with
    |true =>
     have e:n0 s v=(("Gone",.aQ,s):Rs):=by unfold n0;rw[au ⟨jx,jw⟩,ax (jy e1),au e2]
     rw[e] at h;refine fJ e2 ?_;walk_at"";exact h _ Kq.refl M0
    |false =>
     refine dG e2 ?_;walk_at"";refine i8 M0.bV rfl lh ?_;refine Q9 (p7 (l:=s.bl) (a7 M0.cP) W.se (.inl rfl) ?_);walk_at"";cases e3:s.bl.any (gP .aQ) with
     |false =>
      have e:n0 s v=(("NoAnvil",.aQ,s):Rs):=by unfold n0;rw[au ⟨jx,jw⟩,ax (jy e1),ax (jy e2),ax (jy e3)]
      rw[e] at h;refine fJ rfl ?_;walk_at"";exact h _ Kq.refl M0
     |true =>
      have e:n0 s v=(("",.int (ic s.bl .aQ),{ s with bl:=s.bl.set (ic s.bl .aQ) (.int v) }):Rs):=by unfold n0;rw[au ⟨jx,jw⟩,ax (jy e1),ax (jy e2),au e3]
      rw[e] at h;refine dG rfl ?_;obtain⟨F,hn,_⟩:=P2 W.se (.inl rfl) e3;have bn:=W.bn;walk_at"";refine i8 M0.bV rfl lh ?_;refine⟨Jb (a7 M0.cP),?_⟩;walk_at"";refine GU (a7 M0.cP) F (by omega) ?_;walk_at"";refine i8 M0.bV rfl lh ?_;walk_at"";refine Q5 M0.cP (Cr hn) ?_;walk_at"";exact h _ (Kq.set (i:=q+2) (by omega)) (M0.Gk _)
  ·rw[aG jw];walk_at"";exact no λz=>jw z.2
 ·rw[aG jx];walk_at"";exact no λz=>jx z.1
theorem a82(hi:T 179=some yv)(M0:MD g q s)(W:WS s){v:Int}(h:tB q g (v7 s v) Q):a9 T (k+1) 179 [.ref q,.int v] g Q E:=by
 refine call_of hi rfl ?_;dsimp[yv,b5,List.replicate];walk_at"";have no:¬(1<=v/\v<=s.lo.length)->Q (.tup [.str "NoDie",.aQ]) g:=λhv=>by
  have e:v7 s v=(("NoDie",.aQ,s):Rs):=by unfold v7;rw[ax hv]
  rw[e] at h;exact h _ Kq.refl M0
 by_cases jx:1<=v
 ·rw[aC jx];walk_at"";refine i8 M0.bV rfl pD ?_;refine k9 (a7 M0.lower) ?_;walk_at"";rw[ak];by_cases jw:v<=(s.lo.length:Int)
  ·rw[aC jw];walk_at"";refine i8 M0.bV rfl lh ?_;refine Q9 (p7 (l:=s.bl) (a7 M0.cP) W.se (.inr ⟨v,rfl⟩) ?_);walk_at"";cases e1:A2 s v with
   |false =>
    have e:v7 s v=(("NotFixed",.aQ,s):Rs):=by unfold v7;rw[au ⟨jx,jw⟩,ax (jy e1)]
    rw[e] at h;refine fJ (show(!A2 s v)=true by rw[e1];rfl) ?_;walk_at"";exact h _ Kq.refl M0
   |true =>
    have e:v7 s v=(("",.int (ic s.bl (.int v)),{ s with bl:=s.bl.set (ic s.bl (.int v)) .aQ,go:=s.go++[v] }):Rs):=by unfold v7;rw[au ⟨jx,jw⟩,au e1]
    rw[e] at h;refine dG (show(!A2 s v)=false by rw[e1];rfl) ?_;obtain⟨F,hn,_⟩:=P2 W.se (.inr ⟨v,rfl⟩) e1;have bn:=W.bn;have gl:=Ld W;walk_at"";refine i8 M0.bV rfl lh ?_;refine⟨Jb (a7 M0.cP),?_⟩;walk_at"";refine GU (a7 M0.cP) F (by omega) ?_;walk_at"";refine i8 M0.bV rfl lh ?_;walk_at"";refine Q5 M0.cP (Cr hn) ?_;have M1:=M0.Gk (s.bl.set (ic s.bl (.int v)) .aQ);walk_at"";refine i8 M1.bV rfl uT ?_;refine⟨A4 M1.gone,?_⟩;walk_at"";refine E4 M1.gone (by simp;omega) ?_;have M2:=M1.setG (s.go++[v]);rw[az] at M2;walk_at"";exact h _ ((Kq.set (i:=q+2) (by omega)).trans (Kq.set (i:=q+5) (by omega))) M2
  ·rw[aG jw];walk_at"";exact no λz=>jw z.2
 ·rw[aG jx];walk_at"";exact no λz=>jx z.1
theorem Sb{l:List (List Int)}{v:Int}{w:List Int}:(ff l).set (v-1).toNat (mk w)=ff (l.set (v-1).toNat w):=by rw[ff,ff,List.map_set]
theorem VG{n:Nat}{v:Int}(hv:1<=v/\v<=n):kG n (v-1)=some (v-1).toNat:=by
 have:=Cr (n:=n) (k:=(v-1).toNat) (by omega)
 rwa [show(((v-1).toNat:Nat):Int)=v-1 by omega] at this
theorem Yq(hi:T 181=some Y9)(M0:MD g q s)(W:WS s)(ho:PyData.strOk x=true){v j:Int}(h:tB q g (i3 s x v j) Q):a9 T (k+1) 181 [.ref q,.str x,.int v,.int j] g Q E:=by
 refine call_of hi rfl ?_;dsimp[Y9,b5,List.replicate];walk_at"";have e1:Ex g (g++[O.lst [.str "lower",.str "upper"]]):=Ex.snoc _ _;refine Q9 (HW b9 ho ?_);have M1:=M0.ex e1;have k1:=Kq.ex (q:=q) e1;have sl:=Z8 (x:=x) W;generalize g++[O.lst [.str "lower",.str "upper"]]=g1 at *;walk_at"";by_cases hx:A1 x
 ·refine dG (by rw[jD,cT,bo,bo];exact hx) ?_;obtain⟨r,hr,lR,qR,ve⟩:=M1.side hx;have no:¬(1<=v/\v<=(s.side x).length)->Q (.tup [.str "NoDie",.aQ]) g1:=λhv=>by
   have e:i3 s x v j=(("NoDie",.aQ,s):Rs):=by unfold i3;rw[au hx,ax hv]
   rw[e] at h;exact h _ k1 M1
  walk_at"";by_cases jx:1<=v
  ·rw[aC jx];walk_at"";refine i8 M1.bV rfl lR ?_;refine k9 (a7 qR) ?_;walk_at"";rw[ak];by_cases jw:v<=((s.side x).length:Int)
   ·rw[aC jw];have hv:1<=v/\v<=(s.side x).length:=⟨jx,jw⟩
    have xI:=Cz W hx hv;have fin:∀(N:Ends),N.rt=Q->¬(x="lower"/\F9 s v=true)->wpS (a9 T k) (match Y9.body with|.seq _ (.seq _ (.seq _ b))=>b|x=>x) N [some (.ref q),some (.str x),some (.int v),some (.int j),none] g1 E:=by
     intro N hN qU;dsimp[Y9];have bad:¬(0<=j/\j<=7)->N.rt (.tup [.str "BadSpot",.aQ]) g1:=λhj=>by
      have e:i3 s x v j=(("BadSpot",.aQ,s):Rs):=by unfold i3;rw[au hx,au hv,ax qU,ax hj]
      rw[e] at h;rw[hN];exact h _ k1 M1
     walk_at"";by_cases vt:0<=j
     ·rw[aC vt];walk_at"";by_cases vo:j<=7
      ·rw[aC vo];walk_at"";refine i8 M1.bV rfl lR ?_;walk_at"";refine j7 (a7 qR) (wU hv) ?_;walk_at"";refine U2 (yV (l:=fH (s.side x) v) rfl ?_);walk_at"";by_cases hq:j∈fH (s.side x) v
       ·have e:i3 s x v j=(("Marked",.aQ,s):Rs):=by unfold i3;rw[au hx,au hv,ax qU,au ⟨vt,vo⟩,au hq]
        rw[e] at h;rw[aC hq];refine pE ?_;walk_at"";rw[hN];exact h _ k1 M1
       ·have e:i3 s x v j=(("",.aQ,s.put x ((s.side x).set (v-1).toNat (markL (fH (s.side x) v) j))):Rs):=by unfold i3;rw[au hx,au hv,ax qU,au ⟨vt,vo⟩,ax hq]
        rw[e] at h;rw[aG hq];refine pV ?_;walk_at"";refine Z6 (c8 T _) ?_;walk_at"";refine⟨8,rfl,by omega,λi ys σ g2=>∃z2 z3,ys=((pe.take i).filter λi=>decide (i=j\/i∈fH (s.side x) v)).map .int/\σ=[some (mk (fH (s.side x) v)),some (.int j),z2,z3]/\g2=g1,⟨none,none,rfl,rfl,rfl⟩,λi ys σ g2 p=>?_,λi ys σ g2 hi p=>?_,λys σ g2 p=>?_⟩
        ·obtain⟨_,_,rfl,_⟩:=p;rw[ak];exact aM (fh _ _) (by rw[dt];omega)
        ·obtain⟨z2,z3,rfl,rfl,rfl⟩:=p;refine s9 ?_
         try show dD _ _ _ _ _ _
         have tk:pe.take (i+1)=pe.take i++[(i:Int)]:=by
          have:i=0\/i=1\/i=2\/i=3\/i=4\/i=5\/i=6\/i=7:=by omega
          rcases this with rfl|rfl|rfl|rfl|rfl|rfl|rfl|rfl<;>rfl
         walk_at"";by_cases gX:(i:Int)=j
         ·rw[aC gX];walk_at"";refine⟨_,_,?_,rfl,rfl⟩;rw[tk,jC,az,show List.filter (λi=>decide (i=j\/i∈fH (s.side x) v)) [(i:Int)]=[(i:Int)] by rw[kS,au (aC (Or.inl gX))];rfl]
          rfl
         ·rw[aG gX];walk_at"";refine U2 (yV (l:=fH (s.side x) v) rfl ?_);walk_at"";by_cases xQ:(i:Int)∈fH (s.side x) v
          ·rw[aC xQ];walk_at"";refine⟨_,_,?_,rfl,rfl⟩;rw[tk,jC,az,show List.filter (λi=>decide (i=j\/i∈fH (s.side x) v)) [(i:Int)]=[(i:Int)] by rw[kS,au (aC (Or.inr xQ))];rfl]
           rfl
          ·rw[aG xQ];walk_at"";refine⟨_,_,?_,rfl,rfl⟩;rw[tk,jC,az,show List.filter (λi=>decide (i=j\/i∈fH (s.side x) v)) [(i:Int)]=[] by rw[kS,ax (by rw[bo];exact not_or.mpr ⟨gX,xQ⟩)];rfl];simp
        ·obtain⟨z2,z3,rfl,rfl,rfl⟩:=p;have e2:(pe.take 8).filter (λi=>decide (i=j\/i∈fH (s.side x) v))=markL (fH (s.side x) v) j:=rfl;rw[e2];have e3:Ex g2 (g2++[O.lst ((markL (fH (s.side x) v) j).map .int)]):=Ex.snoc _ _;refine Hk (a7 b9) ?_;have M3:=M1.ex e3;obtain⟨r',sH,AG,Ap,vd⟩:=M3.side hx;generalize g2++[O.lst ((markL (fH (s.side x) v) j).map .int)]=g3 at *;walk_at"";refine i8 M3.bV rfl AG ?_;walk_at"";refine Q5 Ap (by rw[ak];exact VG hv) ?_;have es:=Sb (l:=s.side x) (v:=v) (w:=markL (fH (s.side x) v) j);rw[show D.tup ((markL (fH (s.side x) v) j).map .int)=mk (markL (fH (s.side x) v) j) from rfl,es];walk_at"";rw[hN];exact h _ (k1.trans ((Kq.ex e3).trans (Kq.set (i:=r') (by omega)))) (vd _)
      ·rw[aG vo];walk_at"";exact bad λz=>vo z.2
     ·rw[aG vt];walk_at"";exact bad λz=>vt z.1
    walk_at"";refine if2 (λpF=>?_) (λpF=>?_)
    ·walk_at"";refine i8 M1.bV rfl uT ?_;refine U2 (p7 (l:=s.go.map D.int) (a7 M1.gone) E1 (.inr ⟨v,rfl⟩) ?_);walk_at"";cases e2:F9 s v with
     |true =>
      have e:i3 s x v j=(("Gone",.aQ,s):Rs):=by unfold i3;rw[au hx,au hv,au ⟨pF,e2⟩]
      rw[e] at h;refine fJ e2 ?_;walk_at"";exact h _ k1 M1
     |false =>
      refine dG e2 ?_;refine D6 ?_;exact fin _ rfl (λz=>jy e2 z.2)
    ·try refine pV ?_
     try with_reducible refine D6 ?_
     exact fin _ rfl (λz=>pF z.1)
   ·rw[aG jw];walk_at"";exact no λz=>jw z.2
  ·rw[aG jx];walk_at"";exact no λz=>jx z.1
 ·refine fJ (by rw[ko,iV,aN,aN];exact not_or.mp hx) ?_;have e:i3 s x v j=(("BadSide",.aQ,s):Rs):=by unfold i3;rw[ax hx]
  rw[e] at h;walk_at"";exact h _ k1 M1
theorem aH1(hi:T 182=some zi)(M0:MD g q s)(W:WS s){a b:Int}(h:tB q g (f9 s a b) Q):a9 T (k+1) 182 [.ref q,.int a,.int b] g Q E:=by
 refine call_of hi rfl ?_;dsimp[zi,b5,List.replicate];have no:¬((1<=a/\a<=s.lo.length)/\(1<=b/\b<=s.up.length))->Q (.tup [.str "NoDie",.aQ]) g:=λhv=>by
  have e:f9 s a b=(("NoDie",.aQ,s):Rs):=by unfold f9;rw[ax hv]
  rw[e] at h;exact h _ Kq.refl M0
 walk_at"";by_cases xU:1<=a
 ·rw[aC xU];walk_at"";refine i8 M0.bV rfl pD ?_;refine k9 (a7 M0.lower) ?_;walk_at"";rw[ak];by_cases xT:a<=(s.lo.length:Int)
  ·rw[aC xT];walk_at"";by_cases xS:1<=b
   ·rw[aC xS];walk_at"";refine i8 M0.bV rfl uS ?_;refine k9 (a7 M0.upper) ?_;walk_at"";rw[ak];by_cases sU:b<=(s.up.length:Int)
    ·rw[aC sU];have ha:1<=a/\a<=s.lo.length:=⟨xU,xT⟩
     have hb:1<=b/\b<=s.up.length:=⟨xS,sU⟩
     walk_at"";refine i8 M0.bV rfl lh ?_;refine Q9 (p7 (l:=s.bl) (a7 M0.cP) W.se (.inr ⟨a,rfl⟩) ?_);walk_at"";cases e1:A2 s a with
     |false =>
      have e:f9 s a b=(("NotFixed",.aQ,s):Rs):=by unfold f9;rw[au ⟨ha,hb⟩,ax (jy e1)]
      rw[e] at h;refine fJ (show(!A2 s a)=true by rw[e1];rfl) ?_;walk_at"";exact h _ Kq.refl M0
     |true =>
      refine dG (show(!A2 s a)=false by rw[e1];rfl) ?_;have cn:=W.cn;walk_at"";refine i8 M0.bV rfl qN ?_;refine k9 (a7 M0.cD) ?_;walk_at"";refine if2 (λhl=>?_) (λhl=>?_)
      ·have e:f9 s a b=(("Full",.aQ,s):Rs):=by unfold f9;rw[au ⟨ha,hb⟩,au e1,ax (by omega)]
       rw[e] at h;walk_at"";exact h _ Kq.refl M0
      ·have e:f9 s a b=(("",.int s.co.length,{ s with co:=s.co++[O6 s a b] }):Rs):=by unfold f9;rw[au ⟨ha,hb⟩,au e1,au (by omega)]
       rw[e] at h;walk_at"";refine i8 M0.bV rfl qN ?_;refine⟨A4 M0.cD,?_⟩;walk_at"";refine i8 M0.bV rfl pD ?_;walk_at"";refine j7 (a7 M0.lower) (wU ha) ?_;walk_at"";refine i8 M0.bV rfl uS ?_;walk_at"";refine j7 (a7 M0.upper) (wU hb) ?_;walk_at"";refine i8 M0.bV rfl xJ ?_;walk_at"";refine E4 M0.cD (by omega) ?_;have M1:=M0.setC (s.co++[O6 s a b]);have e3:s.co++[D.tup [.int a,mk (fH s.lo a),.int b,mk (fH s.up b),.int s.yr]]=s.co++[O6 s a b]:=rfl;rw[e3];walk_at"";refine i8 M1.bV rfl qN ?_;refine k9 (a7 M1.cD) ?_;walk_at"";have:=h _ (Kq.set (i:=q+6) (by omega)) M1;dsimp only;rw[show((s.co++[O6 s a b]).length:Int)-1=s.co.length by rw[aU];simp];exact this
    ·rw[aG sU];walk_at"";exact no λz=>sU z.2.2
   ·rw[aG xS];walk_at"";exact no λz=>xS z.2.1
  ·rw[aG xT];walk_at"";exact no λz=>xT z.1.2
 ·rw[aG xU];walk_at"";exact no λz=>xU z.1.1
end
def Ek:aY:=⟨2,3,(.seq (.set 2 (bw aK (bc 0))) (.seq (.ifs (cR .Eq bu (bt "cut")) (.seq (.ret (.call 46 (dB aD (bw aK (bc 1))))) .pass) .pass) (.seq (.ifs (cR .Eq bu (bt "fix")) (.seq (.ret (.call 178 (dB aD (bw aK (bc 1))))) .pass) .pass) (.seq (.ifs (cR .Eq bu (bt "off")) (.seq (.ret (.call 179 (dB aD (bw aK (bc 1))))) .pass) .pass) (.seq (.ifs (cR .Eq bu (bt "mark")) (.seq (.ret (.call 181 (sj aD (bw aK (bc 1)) (bw aK (bc 2)) (bw aK (bc 3))))) .pass) .pass) (.seq (.ifs (cR .Eq bu (bt "strike")) (.seq (.ret (.call 182 (mh aD (bw aK (bc 1)) (bw aK (bc 2))))) .pass) .pass) (.seq (.ifs (.iQ (.cJ (.eQ (.chain .LtE .LtE (bc 1) (bw aK (bc 1)) (bc 9999)))) (cR .LtE (bw aK (bc 1)) (bw aD (bt "year")))) (.seq (.ret (bB .tup (bt "BadYear") (.lit .aQ))) .pass) .pass) (.seq (.eI aD (bt "year") (bw aK (bc 1))) (.seq (.ret (bB .tup (bt "") (.lit .aQ))) .pass)))))))))⟩
def N6:aY:=⟨2,3,(.seq (.set 2 (bw aK (bc 0))) (.seq (.ifs (cR .Eq bu (bt "cut")) (.seq (.ret (.bp "cut" [("Mint",54)] aD (df (bw aK (bc 1))))) .pass) .pass) (.seq (.ifs (cR .Eq bu (bt "fix")) (.seq (.ret (.bp "fix" [("Mint",55)] aD (df (bw aK (bc 1))))) .pass) .pass) (.seq (.ifs (cR .Eq bu (bt "off")) (.seq (.ret (.bp "lay_off" [("Mint",56)] aD (df (bw aK (bc 1))))) .pass) .pass) (.seq (.ifs (cR .Eq bu (bt "mark")) (.seq (.ret (.bp "mark" [("Mint",57)] aD (mh (bw aK (bc 1)) (bw aK (bc 2)) (bw aK (bc 3))))) .pass) .pass) (.seq (.ifs (cR .Eq bu (bt "strike")) (.seq (.ret (.bp "strike" [("Mint",58)] aD (dB (bw aK (bc 1)) (bw aK (bc 2))))) .pass) .pass) (.seq (.ret (.bp "begin_year" [("Mint",59)] aD (df (bw aK (bc 1))))) .pass)))))))⟩
inductive Dd where
 |cut (x:Str)|fix (v:Int)|off (v:Int)|mark (x:Str) (v j:Int)|iH (a b:Int)|year (n:Int)
def Dd.d:Dd->D
 |.cut x=>.tup [.str "cut",.str x]
 |.fix v=>.tup [.str "fix",.int v]
 |.off v=>.tup [.str "off",.int v]
 |.mark x v j=>.tup [.str "mark",.str x,.int v,.int j]
 |.iH a b=>.tup [.str "strike",.int a,.int b]
 |.year n=>.tup [.str "year",.int n]
def Dd.ok:Dd->Prop
 |.cut x=>PyData.strOk x=true
 |.mark x _ _=>PyData.strOk x=true
 |_=>True
def dR(s:cg):Dd->Rs
 |.cut x=>v8 s x
 |.fix v=>n0 s v
 |.off v=>v7 s v
 |.mark x v j=>i3 s x v j
 |.iH a b=>f9 s a b
 |.year n=>u6 s n
theorem Gv{s:cg}{dd:Dd}(W:WS s):WS (dR s dd).2.2:=by
 cases dd
 ·exact WT W
 ·exact WU W
 ·exact WV W
 ·exact Qz W
 ·exact a29 W
 ·exact QA W
theorem a87{s:cg}{x:Str}{v j:Int}:(i3 s x v j).2.1=.aQ:=by unfold i3;(repeat' split)<;>rfl
theorem a31{s:cg}{n:Int}:(u6 s n).2.1=.aQ:=by unfold u6;(repeat' split)<;>rfl
def K':List Str:=["NotFixed","BadSpot","Marked","BadYear","Full","BadSide","NoDie","Fixed","Gone","NoAnvil"]
theorem JC{s:cg}{dd:Dd}:(dR s dd).1=""\/((dR s dd).1∈K'/\(dR s dd).2=(D.aQ,s)):=by
 cases dd<;>(simp only[dR];first|unfold v8|unfold n0|unfold v7|unfold i3|unfold f9|unfold u6)<;>(repeat' split)<;>first|exact .inl rfl|exact .inr ⟨by simp[K'],rfl⟩
theorem JB{s:cg}{dd:Dd}:j8 (dR s dd).2.1:=by
 cases dd<;>(simp only[dR];first|unfold v8|unfold n0|unfold v7|unfold i3|unfold f9|unfold u6)<;>(repeat' split)<;>first|exact .inl rfl|exact .inr ⟨_,rfl⟩
structure TR(T:Nat->Option aY):Prop where
 tq:TQ T
 Bi:T 46=some yt
 BA:T 178=some yu
 Bz:T 179=some yv
 By:T 181=some Y9
 Bx:T 182=some zi
 Bw:T 183=some Ek
section
variable{T:Nat->Option aY}{k d:Nat}{g:G}{Q:KD}{E:KX}{m q:Nat}{s:cg}{x:Str}{dd:Dd}
theorem Iu{f:Nat}(hT:TQ T)(mJ:T f=some N6)(hm:g[m]?=some (c5 s))(W:WS s)(ho:dd.ok)(h1:(dR s dd).1=""->∀g',Ex g g'->Q (dR s dd).2.1 (g'.set m (c5 (dR s dd).2.2)))(h2:(dR s dd).1≠""->E ⟨(dR s dd).1⟩ g):a9 T (k+6) f [.ref m,dd.d] g Q E:=by
 refine call_of mJ rfl ?_;cases dd<;>dsimp[N6,b5,List.replicate,Dd.d,dR] at h1 h2 ⊢
 ·walk_at"";refine fJ (by decide +kernel) ?_;walk_at"";refine c9 hm rfl rfl ?_;walk_at"";exact QH (k:=k+2) hT hm W ho (λe=>h1 e g (Ex.refl _)) h2
 ·walk_at"";refine dG (by decide +kernel) ?_;walk_at"";refine fJ (by decide +kernel) ?_;walk_at"";refine c9 hm rfl rfl ?_;walk_at"";exact QL (k:=k) hT hm W (λe=>h1 e g (Ex.refl _)) h2
 ·walk_at"";refine dG (by decide +kernel) ?_;walk_at"";refine dG (by decide +kernel) ?_;walk_at"";refine fJ (by decide +kernel) ?_;walk_at"";refine c9 hm rfl rfl ?_;walk_at"";exact Ri (k:=k) hT hm W (λe=>h1 e g (Ex.refl _)) h2
 ·walk_at"";refine dG (by decide +kernel) ?_;walk_at"";refine dG (by decide +kernel) ?_;walk_at"";refine dG (by decide +kernel) ?_;walk_at"";refine fJ (by decide +kernel) ?_;walk_at"";refine c9 hm rfl rfl ?_;walk_at"";rw[a87] at h1;exact a86 (k:=k) hT hm W ho h1 h2
 ·walk_at"";refine dG (by decide +kernel) ?_;walk_at"";refine dG (by decide +kernel) ?_;walk_at"";refine dG (by decide +kernel) ?_;walk_at"";refine dG (by decide +kernel) ?_;walk_at"";refine fJ (by decide +kernel) ?_;walk_at"";refine c9 hm rfl rfl ?_;walk_at"";exact ZI (k:=k) hT hm W (λe=>h1 e g (Ex.refl _)) h2
 ·walk_at"";refine dG (by decide +kernel) ?_;walk_at"";refine dG (by decide +kernel) ?_;walk_at"";refine dG (by decide +kernel) ?_;walk_at"";refine dG (by decide +kernel) ?_;walk_at"";refine dG (by decide +kernel) ?_;walk_at"";refine c9 hm rfl rfl ?_;walk_at"";rw[a31] at h1;exact a30 (k:=k+2) hT hm (λe=>h1 e g (Ex.refl _)) h2
theorem QZ(hT:TR T)(M0:MD g q s)(W:WS s)(ho:dd.ok)(h:tB q g (dR s dd) Q):a9 T (k+2) 183 [.ref q,dd.d] g Q E:=by
 refine call_of hT.Bw rfl ?_;cases dd<;>dsimp[Ek,b5,List.replicate,Dd.d,dR] at h ⊢
 ·walk_at"";refine fJ (by decide +kernel) ?_;walk_at"";exact a85 (k:=k) hT.Bi M0 W ho h
 ·walk_at"";refine dG (by decide +kernel) ?_;walk_at"";refine fJ (by decide +kernel) ?_;walk_at"";exact a84 (k:=k) hT.BA M0 W h
 ·walk_at"";refine dG (by decide +kernel) ?_;walk_at"";refine dG (by decide +kernel) ?_;walk_at"";refine fJ (by decide +kernel) ?_;walk_at"";exact a82 (k:=k) hT.Bz M0 W h
 ·walk_at"";refine dG (by decide +kernel) ?_;walk_at"";refine dG (by decide +kernel) ?_;walk_at"";refine dG (by decide +kernel) ?_;walk_at"";refine fJ (by decide +kernel) ?_;walk_at"";exact Yq (k:=k) hT.By M0 W ho h
 ·walk_at"";refine dG (by decide +kernel) ?_;walk_at"";refine dG (by decide +kernel) ?_;walk_at"";refine dG (by decide +kernel) ?_;walk_at"";refine dG (by decide +kernel) ?_;walk_at"";refine fJ (by decide +kernel) ?_;walk_at"";exact aH1 (k:=k) hT.Bx M0 W h
 ·rename_i n;have no:¬(s.yr+1<=n/\n<=9999)->Q (.tup [.str "BadYear",.aQ]) g:=λhv=>by
   have e:u6 s n=(("BadYear",.aQ,s):Rs):=by unfold u6;rw[ax hv]
   rw[e] at h;exact h _ Kq.refl M0
  have y0:=W.y0;walk_at"";refine dG (by decide +kernel) ?_;walk_at"";refine dG (by decide +kernel) ?_;walk_at"";refine dG (by decide +kernel) ?_;walk_at"";refine dG (by decide +kernel) ?_;walk_at"";refine dG (by decide +kernel) ?_;walk_at"";by_cases h1:1<=n
  ·rw[aC h1];walk_at"";by_cases h2:n<=9999
   ·rw[aC h2];walk_at"";refine i8 M0.bV rfl xJ ?_;walk_at"";refine if2 (λc=>?_) (λc=>?_)
    ·walk_at"";exact no (by omega)
    ·have e:u6 s n=(("",.aQ,{ s with yr:=n }):Rs):=by unfold u6;rw[au (by omega)]
     rw[e] at h;walk_at"";refine Hd M0.bV rfl (by simp[iL]) ?_;have e2:(O.bV (putD (iL q s.yr) (.inr "year") (.int n)))=.bV (iL q n):=rfl;rw[e2];walk_at"";exact h _ (Kq.set (i:=q) (by omega)) (M0.Ut n)
   ·rw[aG h2];walk_at"";exact no (by omega)
  ·rw[aG h1];walk_at"";exact no (by omega)
theorem Cs{n:Nat}{a b:Nat}{l:List D}(ha:g[a]?=some (.lst l))(hb:g[b]?=some (.lst l))(h:∀x∈l,u9 g n x x)(hz:l.length<=1000):u9 g (n+1) (.ref a) (.ref b):=by
 refine .lst ha hb rfl (λi x y hx hy=>?_) hz;rw[hx] at hy;cases hy;exact h x (aH hx)
theorem Iw{n:Nat}{y:D}(h:j8 y):u9 g n y y:=by
 rcases h with rfl|⟨i,rfl⟩
 ·exact .aQ
 ·exact .int _
theorem Ct{n:Nat}{l:List Int}(h:l.length<=1000):u9 g (n+1) (mk l) (mk l):=by
 refine .tup rfl (λi x y hx hy=>?_) (by rw[ak];exact h);rw[hx] at hy;cases hy;obtain⟨j,_,rfl⟩:=aS.mp (aH hx);exact .int _
theorem Ym{c:D}(h:Gu c):u9 g 2 c c:=by
 obtain⟨a,l,b,m,y,rfl,h1,h2⟩:=h;refine .tup rfl (λi x y hx hy=>?_) (by simp);rw[hx] at hy;cases hy;have:=aH hx;simp only[List.mem_cons,List.mem_nil_iff,or_false] at this;rcases this with rfl|rfl|rfl|rfl|rfl
 ·exact .int _
 ·exact Ct (by omega)
 ·exact .int _
 ·exact Ct (by omega)
 ·exact .int _
theorem BV{c:Nat}:O8 (List.replicate c (D.bl true))=some true:=by
 induction c with
 |zero=>rfl
 |succ c ih=>rw[bz,O8,ih];rfl
theorem IB(hT:TQ T)(h6:T 6=some rS)(h7:T 7=some A5)(xY:T 47=some O3)(sW:T 67=some K7)(hm:g[m]?=some (c5 s))(M0:MD g q s)(W:WS s)(h:∀g',Ex g g'->Q (.bl true) g'):a9 T (k+6) 47 [.ref m,.ref q] g Q E:=by
 have ln:=W.ln;have un:=W.un;have bn:=W.bn;have cn:=W.cn;refine call_of xY rfl ?_;dsimp[O3,b5,List.replicate];walk_at"";refine c9 hm rfl rfl ?_;walk_at"";refine Df (k:=k+4) hT hm ?_;have e1:Ex g (g++[O.lst s.bl]):=Ex.snoc _ _;have hl:(g++[O.lst s.bl])[g.length]?=some (.lst s.bl):=b9;have M1:=M0.ex e1;have m1:=e1.at hm;generalize g++[O.lst s.bl]=g1 at *;walk_at"";refine i8 M1.bV rfl lh ?_;walk_at"";refine j9 h6 h7 1 (k:=k+2) (Cs hl M1.cP (λy hy=>Iw (W.se y hy)) (by omega)) λg2 e2=>?_;have M2:=M1.ex e2;have m2:=e2.at m1;walk_at"";refine c9 m2 rfl rfl ?_;walk_at"";refine Qy (k:=k+4) hT m2 ?_;walk_at"";refine i8 M2.bV rfl xJ ?_;walk_at"";refine j9 h6 h7 0 (k:=k+3) (.int _) λg3 e3=>?_;have M3:=M2.ex e3;have m3:=e3.at m2;have x3:=e1.trans (e2.trans e3);walk_at"";have e4:Ex g3 (g3++[O.lst [.str "lower",.str "upper"]]):=Ex.snoc _ _;have Fp:(g3++[O.lst [.str "lower",.str "upper"]])[g3.length]?=some (.lst [.str "lower",.str "upper"]):=b9;refine Q4 (c8 T _) (og (c8 T _) ?_);walk_at"";have M4:=M3.ex e4;have m4:=e4.at m3;generalize g3++[O.lst [.str "lower",.str "upper"]]=g4 at *;have x4:=x3.trans e4;refine⟨g3.length,_,rfl,a7 Fp,[.str "lower",.str "upper"],λi σ g'=>Ex g4 g'/\∃z2 z3 z4,σ=[some (.ref m),some (.ref q),z2,z3,z4],λi σ g' p=>K8 (a7 (p.1.at Fp)),⟨Ex.refl _,none,none,none,rfl⟩,λi y σ g' hy p=>?_,λσ g' p=>?_⟩
 ·obtain⟨e5,z2,z3,z4,rfl⟩:=p;have M5:=M4.ex e5;have m5:=e5.at m4;obtain⟨x,rfl,ho,hx⟩:∃x:Str,y=.str x/\PyData.strOk x=true/\A1 x:=by
   match i,hy with
   |0,hy=>cases hy;exact⟨"lower",rfl,by decide +kernel,.inl rfl⟩
   |1,hy=>cases hy;exact⟨"upper",rfl,by decide +kernel,.inr rfl⟩
   |i+2,hy=>simp at hy
  obtain⟨r,_,lR,hr,_⟩:=M5.side hx;have sl:=Z8 (x:=x) W;refine s9 ?_
  try show wpS _ _ _ _ _ _
  walk_at"";refine c9 m5 rfl rfl ?_;walk_at"";refine SR (k:=k+2) hT m5 ho (λ_=>?_) (λz=>absurd hx z);walk_at"";refine i8 M5.bV rfl lR ?_;refine k9 (a7 hr) ?_;walk_at"";rw[ak];refine j9 h6 h7 0 (k:=k+3) (.int _) λg6 e6=>?_;have M6:=M5.ex e6;have m6:=e6.at m5;have r6:=e6.at hr;walk_at"";refine Z6 (c8 T _) ?_;walk_at"";refine i8 M6.bV rfl lR ?_;refine k9 (a7 r6) ?_;refine⟨(s.side x).length,by rw[ak],by omega,λi ys σ g7=>∃z3 z4,ys=List.replicate i (.bl true)/\σ=[some (.ref q),some (.ref m),some (.str x),z3,z4]/\Ex g6 g7,⟨none,none,rfl,rfl,Ex.refl _⟩,λi ys σ g7 p=>?_,λi ys σ g7 hi p=>?_,λys σ g7 p=>?_⟩
  ·obtain⟨_,_,rfl,_⟩:=p;simp
  ·obtain⟨z3,z4,rfl,rfl,e7⟩:=p;have M7:=M6.ex e7;have m7:=e7.at m6;have hv:1<=(i:Int)+1/\(i:Int)+1<=(s.side x).length:=⟨by omega,by omega⟩
   have xI:=Cz W hx hv;refine s9 ?_
   try show dD _ _ _ _ _ _
   walk_at"";refine c9 m7 rfl rfl ?_;walk_at"";refine U9 (k:=k+1) hT m7 ho (λ_ _=>?_) (λ_ z=>absurd hv z) (λz=>absurd hx z);walk_at"";refine i8 M7.bV rfl lR ?_;walk_at"";have ea:=wU hv;rw[show(i:Int)+1-1=i by omega] at ea;refine j7 (a7 (e7.at r6)) ea ?_;walk_at"";refine j9 h6 h7 1 (k:=k+2) (Ct (by have:=xI.2;omega)) λg8 e8=>?_;exact⟨_,_,by rw[fz],rfl,e7.trans e8⟩
  ·obtain⟨z3,z4,rfl,rfl,e7⟩:=p;refine yj (a7 b9) BV ?_;walk_at"";exact⟨e5.trans (e6.trans (e7.trans (Ex.snoc _ _))),_,_,_,rfl⟩
 ·obtain⟨e5,z2,z3,z4,rfl⟩:=p;have M5:=M4.ex e5;have m5:=e5.at m4;have x5:=x4.trans e5
  try show wpS _ _ _ _ _ _
  walk_at"";refine Q4 (c8 T _) (HA (c8 T _) ?_);walk_at"";refine i8 M5.bV rfl pD ?_;refine k9 (a7 M5.lower) ?_;walk_at"";rw[ak];refine⟨1,(s.lo.length:Int)+1,rfl,rfl,by omega,k8 1 s.lo.length,λi σ g6=>Ex g' g6/\∃z2 z3 z4,σ=[some (.ref m),some (.ref q),z2,z3,z4],λi σ g6 p=>?_,⟨Ex.refl _,_,_,_,rfl⟩,λi y σ g6 hy p=>?_,λσ g6 p=>?_⟩
  ·rw[show((s.lo.length:Int)+1-1).toNat=s.lo.length by omega];exact P6
  ·obtain⟨e6,z2,z3,z4,rfl⟩:=p;have M6:=M5.ex e6;have m6:=e6.at m5;obtain⟨hi,rfl⟩:=H9 hy;have hv:1<=1+(i:Int)/\1+(i:Int)<=s.lo.length:=⟨by omega,by omega⟩
   refine s9 ?_
   try show wpS _ _ _ _ _ _
   walk_at"";refine i8 M6.bV rfl uT ?_;refine U2 (p7 (l:=s.go.map D.int) (a7 M6.gone) E1 (.inr ⟨_,rfl⟩) ?_);walk_at"";cases e2:F9 s (1+(i:Int)) with
   |true =>
    refine fJ e2 ?_;walk_at"";refine c9 m6 rfl rfl ?_;walk_at"";refine P0 (k:=k+1) hT m6 W (λz=>absurd hv z) (λ_ e1=>by rw[W.dj _ e1] at e2;cases e2) (λ_ _ _=>?_) (λ_ _ e=>by rw[e2] at e;cases e);walk_at"";refine j9 h6 h7 0 (k:=k+3) (.str _) λg7 e7=>?_;walk_at"";exact⟨e6.trans e7,_,_,_,rfl⟩
   |false =>
    refine dG e2 ?_;walk_at"";refine i8 M6.bV rfl lh ?_;refine U2 (p7 (l:=s.bl) (a7 M6.cP) W.se (.inr ⟨_,rfl⟩) ?_);walk_at"";cases e1:A2 s (1+(i:Int)) with
    |true =>
     refine fJ e1 ?_;walk_at"";refine c9 m6 rfl rfl ?_;walk_at"";refine P0 (k:=k+1) hT m6 W (λz=>absurd hv z) (λ_ _=>?_) (λ_ e _=>by rw[e1] at e;cases e) (λ_ e _=>by rw[e1] at e;cases e);walk_at"";refine j9 h6 h7 0 (k:=k+3) (.str _) λg7 e7=>?_;walk_at"";exact⟨e6.trans e7,_,_,_,rfl⟩
    |false =>
     refine dG e1 ?_;walk_at"";refine c9 m6 rfl rfl ?_;walk_at"";refine P0 (k:=k+1) hT m6 W (λz=>absurd hv z) (λ_ e=>by rw[e1] at e;cases e) (λ_ _ e=>by rw[e2] at e;cases e) (λ_ _ _=>?_);walk_at"";refine j9 h6 h7 0 (k:=k+3) (.str _) λg7 e7=>?_;walk_at"";exact⟨e6.trans e7,_,_,_,rfl⟩
  ·obtain⟨e6,z2,z3,z4,rfl⟩:=p;have M6:=M5.ex e6;have m6:=e6.at m5
   try show wpS _ _ _ _ _ _
   walk_at"";refine c9 m6 rfl rfl ?_;walk_at"";refine ZJ (k:=k+4) hT m6 ?_;walk_at"";refine i8 M6.bV rfl qN ?_;refine k9 (a7 M6.cD) ?_;walk_at"";refine j9 h6 h7 0 (k:=k+3) (.int _) λg7 e7=>?_;have M7:=M6.ex e7;have m7:=e7.at m6;walk_at"";refine c9 m7 rfl rfl ?_;walk_at"";refine i8 M7.bV rfl qN ?_;refine k9 (a7 M7.cD) ?_;refine Mr (by omega) (by omega) ?_;walk_at"";rw[show Int.toNat ((s.co.length:Nat):Int)=s.co.length by omega];have e8:Ex g7 (g7++[O.lst (k8 0 s.co.length)]):=Ex.snoc _ _;have hz:(g7++[O.lst (k8 0 s.co.length)])[g7.length]?=some (.lst (k8 0 s.co.length)):=b9;have M8:=M7.ex e8;have m8:=e8.at m7;refine a05 (k:=k+1) hT sW m8 hz (by omega) ?_;generalize g7++[O.lst (k8 0 s.co.length)]=g8 at *;have e9:Ex g8 (g8++[O.lst s.co]):=Ex.snoc _ _;walk_at"";refine i8 (M8.ex e9).bV rfl qN ?_;walk_at"";refine j9 h6 h7 3 (k:=k) (Cs b9 (M8.ex e9).cD (λy hy=>Ym (W.cs y hy)) (by omega)) λOh Oq=>?_;exact h _ (x5.trans (e6.trans (e7.trans (e8.trans (e9.trans Oq)))))
end
def CY:aY:=⟨2,2,(.seq (.ifs (.iQ (cR .Eq (bJ .len aK) (bc 0)) (cR .Eq (.call 4 (dB aD (bc 10))) (bc 4))) (.seq (.ret (.call 36 (dB aD (bB (.bin .Add) (bc 3) (bJ .len aK))))) .pass) .pass) (.seq (.ret (bw aK (.call 4 (dB aD (bJ .len aK))))) .pass))⟩
def O5:aY:=⟨2,9,(.seq (.set 2 (.call 4 (dB aD (bc 20)))) (.seq (.set 3 (.comp [] 2 (.one 1) (.iN (bw aK (bt "seats"))) (cR .IsNot aK (.lit .aQ)) aK)) (.seq (.set 4 (.comp [3] 3 (.one 2) (.iM (bc 1) (bB (.bin .Add) (bJ .len (bw aK (bt "lower"))) (bc 1))) (cR .NotIn bu aD) bu)) (.seq (.set 5 (bB .jJ (bc 1) (bB (.bin .Add) (bJ .len (bw aK (bt "upper"))) (bc 1)))) (.seq (.ifs (.iQ (cR .Lt bu (bc 2)) (.eY (cR .Eq (bJ .len kZ) (bc 0)) (cR .Lt bu (bc 6)))) (.seq (.ret (bB .tup (bt "cut") (.ite (cR .Eq (bJ .len kZ) (bc 0)) (bt "upper") (.call 29 (df aD))))) .pass) .pass) (.seq (.ifs (.iQ (cR .Lt bu (bc 5)) (cR .Eq (bJ .len cN) (bc 0))) (.seq (.ifs (.iQ (cR .Eq (bJ .len eV) (bc 0)) (cR .Eq (.call 4 (dB aD (bc 4))) (bc 0))) (.seq (.ret (bB .tup (bt "cut") (bt "lower"))) .pass) .pass) (.seq (.ret (bB .tup (bt "fix") (.call 37 (dB aD (bB (.bin .Add) eV (bB (.bin .Mult) cN (bJ .int (bB (.cmp .Eq) (.call 4 (dB aD (bc 5))) (bc 0))))))))) .pass)) .pass) (.seq (.ifs (cR .Lt bu (bc 6)) (.seq (.ret (bB .tup (bt "off") (.call 37 (dB aD cN)))) .pass) .pass) (.seq (.ifs (cR .Lt bu (bc 10)) (.seq (.set 6 (.call 29 (df aD))) (.seq (.ret (.prim .tup (sj (bt "mark") jm (.call 37 (dB aD (.ite (cR .Eq jm (bt "lower")) cN kZ))) (bB (.bin .Sub) (.call 4 (dB aD (bc 10))) (bc 1))))) .pass)) .pass) (.seq (.ifs (cR .Lt bu (bc 18)) (.seq (.ret (.prim .tup (mh (bt "strike") (.call 37 (dB aD cN)) (.call 37 (dB aD kZ))))) .pass) .pass) (.seq (.set 7 (bw aK (bt "year"))) (.seq (.set 8 (.prim .lst (.cons (bB (.bin .Add) iW (bc 1)) (.cons (bB (.bin .Add) iW (bc 7)) (.cons (bB (.bin .Add) iW (bc 1)) (FU iW (bB (.bin .Sub) iW (bc 3)) (bc 1350) (bc 1412) (bc 9999) (bc 10000) (.call 5 (df aD)))))))) (.seq (.ret (bB .tup (bt "year") (bw mw (.call 4 (dB aD (bc 10)))))) .pass))))))))))))⟩
theorem a57{a:Int}{n:Nat}:∃ns:List Int,k8 a n=ns.map .int/\ns.length=n:=⟨(List.range n).map λk:Nat=>a+k,by unfold k8;rw[uc];rfl,by simp⟩
structure TV(T:Nat->Option aY):Prop where
 h4:T 4=some O2
 h5:T 5=some rQ
 yb:T 29=some yy
 xZ:T 36=some yw
 NW:T 37=some CY
 Bv:T 188=some O5
section
variable{T:Nat->Option aY}{k d:Nat}{g:G}{Q:KD}{E:KX}{m q:Nat}{s:cg}{x:Str}
theorem KA(h4:T 4=some O2)(h5:T 5=some rQ)(xZ:T 36=some yw){j:Int}(hj:0<=j/\j<=1000)(D0:f7 g d)(h:∀(v:Int) g',f7 g' d->Gr d g g'->Q (.int v) g'):a9 T (k+3) 36 [.ref d,.int j] g Q E:=by
 refine call_of xZ rfl ?_;dsimp[yw,b5,List.replicate];walk_at"";refine j5 h4 D0 (by decide) (by decide) λr g1 _ _ D1 G1=>?_;walk_at"";refine if2 (λ_=>?_) (λ_=>?_)
 ·walk_at"";exact Lb h4 h5 D1 λf g2 D2 G2=>h _ _ D2 (G1.trans G2)
 ·walk_at"";refine j5 h4 D1 (by omega) (by omega) λr g2 _ _ D2 G2=>?_;walk_at"";exact h _ _ D2 (G1.trans G2)
theorem K6(hT:TV T){i:Nat}{ns:List Int}(hi:g[i]?=some (.lst (ns.map .int)))(hd:d<i)(hz:ns.length<=900)(D0:f7 g d)(h:∀(v:Int) g',f7 g' d->Gr d g g'->Q (.int v) g'):a9 T (k+4) 37 [.ref d,.ref i] g Q E:=by
 refine call_of hT.NW rfl ?_;dsimp[CY,b5,List.replicate];walk_at"";rw[ak];refine if2 (λc=>?_) (λc=>?_)
 ·walk_at"";refine KA (k:=k) hT.h4 hT.h5 hT.xZ (by rw[ak];omega) D0 λv g2 D2 G2=>?_;exact h v g2 D2 G2
 ·walk_at"";refine j5 hT.h4 D0 (by decide) (by decide) λr g1 _ _ D1 G1=>?_;have MZ:=G1.at (by omega) hi;walk_at"";refine if2 (λ_=>?_) (λ_=>?_)
  ·walk_at"";refine KA (k:=k) hT.h4 hT.h5 hT.xZ (by rw[ak];omega) D1 λv g2 D2 G2=>?_;exact h v g2 D2 (G1.trans G2)
  ·walk_at"";rw[ak];refine j5 hT.h4 D1 (by omega) (by omega) λr2 g2 r0 r1 D2 G2=>?_;obtain⟨y,hy,hm⟩:=zf (l:=ns.map D.int) r0 (by rw[ak];exact r1);obtain⟨v,_,rfl⟩:=aS.mp hm;refine j7 (a7 (G2.at (by omega) MZ)) hy ?_;walk_at"";exact h v g2 D2 (G1.trans G2)
noncomputable abbrev IY:MS:=match O5.body with|.seq _ (.seq _ (.seq _ (.seq _ (.seq (.ifs _ a _) _))))=>a|x=>x
noncomputable abbrev T6:MS:=match O5.body with|.seq _ (.seq _ (.seq _ (.seq _ (.seq _ b))))=>b|x=>x
noncomputable abbrev IZ:MS:=match T6 with|.seq _ c=>c|x=>x
noncomputable abbrev yI:MS:=match T6 with|.seq (.ifs _ i _) _=>i|x=>x
noncomputable abbrev Ja:MS:=match yI with|.seq _ j=>j|x=>x
structure DC(g:G)(d q o p u:Nat)(s:cg)(on gG ups:List Int):Prop where
 dr:f7 g d
 md:MD g q s
 ho:g[o]?=some (.lst (on.map .int))
 hp:g[p]?=some (.lst (gG.map .int))
 hu:g[u]?=some (.lst (ups.map .int))
 dq:d<q
 lo:d<o
 lp:d<p
 lu:d<u
 n1:on.length<=9
 n2:gG.length<=99
 n3:ups.length<=99
theorem DC.gr{g':G}{o p u:Nat}{on gG ups:List Int}(h:DC g d q o p u s on gG ups)(x:Gr d g g')(D:f7 g' d):DC g' d q o p u s on gG ups:=by
 have h1:=h.lo;have h2:=h.lp;have h3:=h.lu;exact⟨D,h.md.gr x h.dq,x.at (by omega) h.ho,x.at (by omega) h.hp,x.at (by omega) h.hu,h.dq,h1,h2,h3,h.n1,h.n2,h.n3⟩
theorem GH(hT:TV T){o p u:Nat}{on gG ups:List Int}{r:Int}(C:DC g d q o p u s on gG ups){N:Ends}(hN:N.rt=Q)(h:∀(dd:Dd) g',dd.ok->f7 g' d->Gr d g g'->Q dd.d g') :
  wpS (a9 T (k+4)) IY N [some (.ref d),some (.ref q),some (.int r),some (.ref o),some (.ref p),some (.ref u),none,none,none] g E:=by
 dsimp[IY,O5];walk_at"";refine k9 (a7 C.hu) ?_;walk_at"";refine if2 (λc=>?_) (λc=>?_)
 ·walk_at"";rw[hN];exact h (.cut "upper") _ (by show PyData.strOk _=true;decide +kernel) C.dr (Gr.refl _ _)
 ·walk_at"";refine Kg (k:=k+2) hT.h4 hT.yb C.dr λx g1 ho D1 G1=>?_;walk_at"";rw[hN];exact h (.cut x) _ ho D1 G1
theorem Vq(hT:TV T){o p u:Nat}{on gG ups:List Int}{r:Int}(C:DC g d q o p u s on gG ups){N:Ends}(hN:N.rt=Q)(h:∀(dd:Dd) g',dd.ok->f7 g' d->Gr d g g'->Q dd.d g') :
  wpS (a9 T (k+4)) Ja N [some (.ref d),some (.ref q),some (.int r),some (.ref o),some (.ref p),some (.ref u),none,none,none] g E:=by
 have n1:=C.n1;have n2:=C.n2;dsimp[Ja,yI,T6,O5];walk_at"";refine j5 hT.h4 C.dr (by decide) (by decide) λr1 g1 _ _ D1 G1=>?_;have C1:=C.gr G1 D1;walk_at"";obtain⟨w,hw,Fo⟩:∃w:Int,(if decide (r1=0)=true then(1:Int) else 0)=w/\(w=0\/w=1):=by
  refine⟨_,rfl,?_⟩;split
  ·exact .inr rfl
  ·exact .inl rfl
 rw[hw];obtain⟨ns,en,hnl⟩:∃ns:List Int,(List.replicate w.toNat (on.map D.int)).flatten=ns.map .int/\ns.length<=9:=by
  rcases Fo with rfl|rfl
  ·exact⟨[],rfl,by simp⟩
  ·exact⟨on,by show(List.replicate 1 _).flatten=_;simp,n1⟩
 refine GC C1.ho (by omega) (by omega) (by rw[ak];rcases Fo with rfl|rfl<;>(simp;try omega)) ?_;rw[en];have e2:Ex g1 (g1++[O.lst (ns.map .int)]):=Ex.snoc _ _;have D2:=D1.snoc (O.lst (ns.map .int));have C2:=C1.gr (e2.gr d) D2;refine UY C2.hp b9 (by simp;omega) ?_;have l2:d<(g1++[O.lst (ns.map .int)]).length:=D2.lt;have x2:=G1.trans (e2.gr d);generalize g1++[O.lst (ns.map .int)]=g2 at *;have D3:=D2.snoc (O.lst (gG.map .int++ns.map .int));have e3:Ex g2 (g2++[O.lst (gG.map .int++ns.map .int)]):=Ex.snoc _ _;have h3:(g2++[O.lst (gG.map .int++ns.map .int)])[g2.length]?=some (.lst ((gG++ns).map .int)):=by rw[az];exact b9
 generalize g2++[O.lst (gG.map .int++ns.map .int)]=g3 at *;walk_at"";refine K6 (k:=k) hT h3 l2 (by simp;omega) D3 λv g4 D4 G4=>?_;walk_at"";rw[hN];exact h (.fix v) _ trivial D4 (x2.trans ((e3.gr d).trans G4))
theorem GJ(hT:TV T){o p u:Nat}{on gG ups:List Int}{r:Int}(C:DC g d q o p u s on gG ups){N:Ends}(hN:N.rt=Q)(h:∀(dd:Dd) g',dd.ok->f7 g' d->Gr d g g'->Q dd.d g') :
  wpS (a9 T (k+4)) yI N [some (.ref d),some (.ref q),some (.int r),some (.ref o),some (.ref p),some (.ref u),none,none,none] g E:=by
 have lw:∀g',f7 g' d->Gr d g g'->Q (.tup [.str "cut",.str "lower"]) g':=λg' D G=>h (.cut "lower") g' (by show PyData.strOk _=true;decide +kernel) D G;dsimp[yI,T6,O5];walk_at"";refine k9 (a7 C.hp) ?_;walk_at"";refine if2 (λc=>?_) (λc=>?_)
 ·walk_at"";rw[hN];exact lw _ C.dr (Gr.refl _ _)
 ·walk_at"";refine j5 hT.h4 C.dr (by decide) (by decide) λr1 g1 _ _ D1 G1=>?_;walk_at"";refine if2 (λc=>?_) (λc=>?_)
  ·walk_at"";rw[hN];exact lw _ D1 G1
  ·try with_reducible refine D6 ?_
   exact Vq hT (C.gr G1 D1) hN λdd g' ok D G=>h dd g' ok D (G1.trans G)
theorem Vp(hT:TV T){o p u:Nat}{on gG ups:List Int}{r:Int}(C:DC g d q o p u s on gG ups){N:Ends}(hN:N.rt=Q)(h:∀(dd:Dd) g',dd.ok->f7 g' d->Gr d g g'->Q dd.d g') :
  wpS (a9 T (k+4)) IZ N [some (.ref d),some (.ref q),some (.int r),some (.ref o),some (.ref p),some (.ref u),none,none,none] g E:=by
 have n1:=C.n1;have n3:=C.n3;dsimp[IZ,T6,O5];walk_at"";refine if2 (λc=>?_) (λc=>?_)
 ·walk_at"";refine K6 (k:=k) hT C.ho C.lo (by omega) C.dr λv g1 D1 G1=>?_;walk_at"";rw[hN];exact h (.off v) _ trivial D1 G1
 ·walk_at"";refine if2 (λc=>?_) (λc=>?_)
  ·walk_at"";refine Kg (k:=k+2) hT.h4 hT.yb C.dr λx g1 ho D1 G1=>?_;have C1:=C.gr G1 D1;have fin:∀(i:Nat) (ns:List Int) (Q':KD) (E':KX),g1[i]?=some (.lst (ns.map .int))->d<i->ns.length<=99->(∀v g2,f7 g2 d->Gr d g g2->Q' (.int v) g2)->a9 T (k+4) 37 [.ref d,.ref i] g1 Q' E':=λi ns Q' E' hi hd hz q=>K6 (k:=k) hT hi hd (by omega) D1 λv g2 D2 G2=>q v g2 D2 (G1.trans G2);walk_at"";refine if2 (λc=>?_) (λc=>?_)
   ·walk_at"";refine fin _ _ _ _ C1.ho C1.lo (by omega) λv g2 D2 G2=>?_;walk_at"";refine j5 hT.h4 D2 (by decide) (by decide) λr3 g3 _ _ D3 G3=>?_;walk_at"";rw[hN];exact h (.mark x v (r3-1)) _ ho D3 (G2.trans G3)
   ·walk_at"";refine fin _ _ _ _ C1.hu C1.lu (by omega) λv g2 D2 G2=>?_;walk_at"";refine j5 hT.h4 D2 (by decide) (by decide) λr3 g3 _ _ D3 G3=>?_;walk_at"";rw[hN];exact h (.mark x v (r3-1)) _ ho D3 (G2.trans G3)
  ·walk_at"";refine if2 (λc=>?_) (λc=>?_)
   ·walk_at"";refine K6 (k:=k) hT C.ho C.lo (by omega) C.dr λv g1 D1 G1=>?_;have C1:=C.gr G1 D1;walk_at"";refine K6 (k:=k) hT C1.hu C1.lu (by omega) D1 λw g2 D2 G2=>?_;walk_at"";rw[hN];exact h (.iH v w) _ trivial D2 (G1.trans G2)
   ·walk_at"";refine i8 C.md.bV rfl xJ ?_;walk_at"";refine Lb hT.h4 hT.h5 C.dr λf g1 D1 G1=>?_;walk_at"";have e2:∀l:List Int,Ex g1 (g1++[O.lst (l.map .int)]):=λl=>Ex.snoc _ _;obtain⟨l,el,hl⟩:∃l:List Int,[D.int (s.yr+1),.int (s.yr+7),.int (s.yr+1),.int s.yr,.int (s.yr-3),.int 1350,.int 1412,.int 9999,.int 10000,.int f]=l.map .int/\l.length=10:=⟨[s.yr+1,s.yr+7,s.yr+1,s.yr,s.yr-3,1350,1412,9999,10000,f],rfl,rfl⟩
    rw[el];refine j5 hT.h4 (D1.snoc _) (by decide) (by decide) λr3 g3 Ma LZ D3 G3=>?_;have h3:=G3.at (i:=g1.length) (by have:=D1.lt;omega) (o:=.lst (l.map .int)) b9;obtain⟨y,hy,hm⟩:=zf (l:=l.map D.int) Ma (by rw[ak,hl];exact LZ);obtain⟨n,_,rfl⟩:=aS.mp hm;refine j7 (a7 h3) hy ?_;walk_at"";rw[hN];exact h (.year n) _ trivial D3 ((G1.trans (Gr.snoc _ _ _)).trans G3)
theorem GI(hT:TV T){o p u:Nat}{on gG ups:List Int}{r:Int}(C:DC g d q o p u s on gG ups){N:Ends}(hN:N.rt=Q)(h:∀(dd:Dd) g',dd.ok->f7 g' d->Gr d g g'->Q dd.d g') :
  wpS (a9 T (k+4)) T6 N [some (.ref d),some (.ref q),some (.int r),some (.ref o),some (.ref p),some (.ref u),none,none,none] g E:=by
 dsimp[T6,O5];walk_at"";refine if2 (λc=>?_) (λc=>?_)
 ·try refine pE ?_
  exact GJ hT C hN h
 ·walk_at"";refine k9 (a7 C.ho) ?_;walk_at"";refine if2 (λc=>?_) (λc=>?_)
  ·exact GJ hT C hN h
  ·try with_reducible refine D6 ?_
   exact Vp hT C hN h
theorem JA(hT:TV T)(M0:MD g q s)(W:WS s)(D0:f7 g d)(FE:d<q)(h:∀(dd:Dd) g',dd.ok->f7 g' d->Gr d g g'->Q dd.d g'):a9 T (k+5) 188 [.ref d,.ref q] g Q E:=by
 have ln:=W.ln;have un:=W.un;have bn:=W.bn;refine call_of hT.Bv rfl ?_;dsimp[O5,b5,List.replicate];walk_at"";refine j5 hT.h4 D0 (by decide) (by decide) λr g1 r0 r1 D1 G1=>?_;have M1:=M0.gr G1 FE;walk_at"";refine S2 (c8 T _) (og (c8 T _) ?_);walk_at"";refine i8 M1.bV rfl lh ?_;refine⟨q+2,_,rfl,a7 M1.cP,s.bl,λi ys σ g'=>∃ns:List Int,ys=ns.map .int/\ns.length<=i/\g'=g1/\∃z0 z1,σ=[z0,z1],by omega,λi ys σ g' p=>?_,⟨[],rfl,by simp,rfl,none,none,rfl⟩,λi y ys σ g' hy p=>?_,λys σ g' p=>?_⟩
 ·obtain⟨ns,rfl,h1,rfl,_⟩:=p;exact⟨K8 (a7 M1.cP),by rw[ak];exact h1⟩
 ·obtain⟨ns,rfl,h1,rfl,z0,z1,rfl⟩:=p;refine s9 ?_
  try show dD _ _ _ _ _ _
  rcases W.se y (aH hy) with rfl|⟨v,rfl⟩
  ·walk_at"";exact⟨ns,rfl,by omega,rfl,_,_,rfl⟩
  ·walk_at"";exact⟨ns++[v],by rw[az];rfl,by rw[aU];simp;omega,rfl,_,_,rfl⟩
 obtain⟨on,rfl,sJ,rfl,_⟩:=p;have G2:=G1.trans (Gr.snoc d g' (O.lst (on.map .int)));have D2:=D1.snoc (O.lst (on.map .int));have M2:=M1.ex (Ex.snoc _ (O.lst (on.map .int)));have a2:(g'++[O.lst (on.map .int)])[g'.length]?=some (.lst (on.map .int)):=b9;have l2:d<g'.length:=D1.lt;generalize g'.length=o at *;generalize g'++[O.lst (on.map .int)]=g2 at *;clear M1 D1 G1;walk_at"";refine S2 (c8 T _) (HA (c8 T _) ?_);walk_at"";refine i8 M2.bV rfl pD ?_;refine k9 (a7 M2.lower) ?_;walk_at"";rw[ak];refine⟨1,(s.lo.length:Int)+1,rfl,rfl,by omega,k8 1 s.lo.length,λi ys σ g3=>∃ns:List Int,ys=ns.map .int/\ns.length<=i/\g3=g2/\∃z1 z2,σ=[some (.ref o),z1,z2],by rw[C3];omega,λi ys σ g3 p=>?_,⟨[],rfl,by simp,rfl,none,none,rfl⟩,λi y ys σ g3 hy p=>?_,λys σ g3 p=>?_⟩
 ·obtain⟨ns,rfl,h1,rfl,_⟩:=p;rw[show((s.lo.length:Int)+1-1).toNat=s.lo.length by omega];exact⟨P6,by rw[ak];exact h1⟩
 ·obtain⟨ns,rfl,h1,rfl,z1,z2,rfl⟩:=p;obtain⟨hi,rfl⟩:=H9 hy;refine s9 ?_
  try show dD _ _ _ _ _ _
  walk_at"";refine Q9 (yV (l:=on) (a7 a2) ?_);walk_at"";by_cases hm:(1+(i:Int))∈on
  ·rw[aC hm];refine pV ?_;exact⟨ns,rfl,by omega,rfl,_,_,rfl⟩
  ·rw[aG hm];refine pE ?_;walk_at"";exact⟨ns++[1+(i:Int)],by rw[az];rfl,by rw[aU];simp;omega,rfl,_,_,rfl⟩
 obtain⟨gG,rfl,AL,rfl,_⟩:=p;rw[C3] at AL;have G3:=G2.trans (Gr.snoc d g3 (O.lst (gG.map .int)));have D3:=D2.snoc (O.lst (gG.map .int));have M3:=M2.ex (Ex.snoc _ (O.lst (gG.map .int)));have a3:(g3++[O.lst (gG.map .int)])[o]?=some (.lst (on.map .int)):=(Ex.snoc _ _).at a2;have b3:(g3++[O.lst (gG.map .int)])[g3.length]?=some (.lst (gG.map .int)):=b9;have l3:d<g3.length:=D2.lt;generalize g3.length=p at *;generalize g3++[O.lst (gG.map .int)]=g4 at *;clear M2 D2 G2 a2;walk_at"";refine i8 M3.bV rfl uS ?_;refine k9 (a7 M3.upper) ?_;walk_at"";rw[ak];refine Ff (by omega) ?_;rw[show((s.up.length:Int)+1-1).toNat=s.up.length by omega];obtain⟨ups,eu,va⟩:=a57 (a:=1) (n:=s.up.length);rw[eu];have G4:=G3.trans (Gr.snoc d g4 (O.lst (ups.map .int)));have D4:=D3.snoc (O.lst (ups.map .int));have M4:=M3.ex (Ex.snoc _ (O.lst (ups.map .int)));have a4:(g4++[O.lst (ups.map .int)])[o]?=some (.lst (on.map .int)):=(Ex.snoc _ _).at a3;have b4:(g4++[O.lst (ups.map .int)])[p]?=some (.lst (gG.map .int)):=(Ex.snoc _ _).at b3;have c4:(g4++[O.lst (ups.map .int)])[g4.length]?=some (.lst (ups.map .int)):=b9;have l4:d<g4.length:=D3.lt;generalize g4.length=u at *;generalize g4++[O.lst (ups.map .int)]=g5 at *;clear M3 D3 G3 a3 b3;have C:DC g5 d q o p u s on gG ups:=⟨D4,M4,a4,b4,c4,FE,l2,l3,l4,by omega,by omega,by omega⟩
 have h':∀(dd:Dd) g',dd.ok->f7 g' d->Gr d g5 g'->Q dd.d g':=λdd g' ok D G=>h dd g' ok D (G4.trans G);walk_at"";refine if2 (λc=>?_) (λc=>?_)
 ·try refine pE ?_
  exact GH hT C rfl h'
 ·walk_at"";refine if2 (λc=>?_) (λc=>?_)
  ·walk_at"";refine if2 (λc=>?_) (λc=>?_)
   ·exact GH hT C rfl h'
   ·try with_reducible refine D6 ?_
    exact GI hT C rfl h'
  ·try refine pV ?_
   try with_reducible refine D6 ?_
   exact GI hT C rfl h'
end
def s0(n:Nat):cg:=⟨List.replicate n .aQ,[],[],[],0,[]⟩
theorem BU{n:Nat}(h:n<=9):WS (s0 n):=by
 refine⟨λz hz=>.inl (qe hz),λi j v hi=>?_,λv _=>rfl,by unfold s0;simpa using h,by unfold s0;simp,λv hv=>?_,by unfold s0;simp,by unfold s0;simp,λl hl=>?_,λl hl=>?_,Int.le_refl 0,by unfold s0;simp,λc hc=>?_⟩
 ·have:=qe (aH hi);cases this
 ·unfold s0 at hv;simp at hv
 ·unfold s0 at hl;simp at hl
 ·unfold s0 at hl;simp at hl
 ·unfold s0 at hc;simp at hc
section
variable{T:Nat->Option aY}{k d:Nat}{g:G}{Q:KD}{E:KX}{m n q:Nat}{s:cg}{x:Str}{dd:Dd}
theorem oX{g l:List O}{i:Nat}:(g++l)[g.length+i]?=l[i]?:=by rw[cL (by omega)];congr 1;omega
theorem Yr(Bj:T 45=some yJ)(hn:n<=9)(h:∀g',Ex g g'->MD g' g.length (s0 n)->Q (.ref g.length) g'):a9 T (k+1) 45 [.int n] g Q E:=by
 refine call_of Bj rfl ?_;dsimp[yJ,b5,List.replicate];walk_at"";refine WM ?_;walk_at"";refine GC b9 (by omega) (by omega) (by simp;omega) ?_;walk_at"";rw[show(List.replicate (Int.toNat (n:Int)) [D.aQ]).flatten=List.replicate n .aQ by rw[bO,km]];simp only[List.append_assoc,List.cons_append,List.nil_append,List.length_append,List.length_cons,List.length_nil,Nat.zero_add,Nat.add_assoc,Nat.reduceAdd];have eg:∀(o:O) (r:List O),List.set (g++(O.bV []::r)) g.length o=g++(o::r):=λo r=>by
  rw[List.set_append_right _ _ (aj _),Nat.sub_self]
  rfl
 refine⟨iL g.length 0,rfl,by simp,by simp,?_⟩;rw[eg];exact h _ ⟨by simp,λi hi=>aA hi⟩ ⟨by simp[s0],oX,oX,oX,oX,oX⟩
theorem Ra(hT:TM T)(hn:1<=n/\n<=9)(h:Q .aQ (g++[c5 (s0 n)])):a9 T (k+4) 51 [.ref g.length,.int n] (g++[.ins "Mint" []]) Q E:=by
 refine JH (k:=k) hT b9 (λn' e1 n1 n9=>?_) (λhv=>absurd ⟨by omega,by omega⟩ hv);obtain rfl:n=n':=by omega
 have es:(g++[O.ins "Mint" []]).set g.length (DE n 0 0)=g++[c5 (s0 n)]:=by simp[s0,c5,DF]
 rw[es];exact h
end
section
variable{T:Nat->Option aY}{k d:Nat}{g g':G}{Q:KD}{E:KX}{m n q:Nat}{s:cg}{x:Str}{dd:Dd}
end
def Z1:aY:=⟨1,3,(.seq (.set 1 (bJ .jU aD)) (.seq (.fS (.one 2) (.iN (.prim .lst (zF (bt "seats") (bt "lower") (bt "upper") (bt "gone") (bt "coins")))) (.seq (.eI aK bu (bJ .list (bw aD bu))) .pass)) (.seq (.ret aK) .pass)))⟩
def zj:aY:=⟨2,2,(.seq (.S3 (.seq (.ret (bB .lst (bt "") (.call 184 (dB aD aK)))) .pass) [("MintError",(.prim .lst (.cons (.lit (.str "refused")) (.cons (.lit .aQ) .nil))))]) .pass)⟩
def zk:aY:=⟨2,2,(.seq (.ret (.eY (bB (.cmp .Eq) (bB (.cmp .Eq) (bw aD (bc 0)) (bt "")) (bB (.cmp .Eq) (bw aK (bc 0)) (bt ""))) (.call 7 (dB (bw aD (bc 1)) (bw aK (bc 1)))))) .pass)⟩
def V0:aY:=⟨1,2,(.seq (.set 1 (.make "Mint" 51 (df (bJ .len (bJ (.fld "bench") aD))))) (.seq (.dN "bench" ["Mint"] aK (bJ (.fld "bench") aD)) (.seq (.dN "laid_off" ["Mint"] aK (bJ (.fld "laid_off") aD)) (.seq (.dN "lower_wear" ["Mint"] aK (bJ (.fld "lower_wear") aD)) (.seq (.dN "upper_wear" ["Mint"] aK (bJ (.fld "upper_wear") aD)) (.seq (.dN "present" ["Mint"] aK (bJ (.fld "present") aD)) (.seq (.dN "output" ["Mint"] aK (bJ (.fld "output") aD)) (.seq (.ret aK) .pass))))))))⟩
section
variable{T:Nat->Option aY}{k d:Nat}{g g':G}{Q:KD}{E:KX}{m n q c:Nat}{s:cg}{dd:Dd}
theorem GL:(dR s dd).2.2.bl.length=s.bl.length:=by
 cases dd<;>(simp only[dR];first|unfold v8|unfold n0|unfold v7|unfold i3|unfold f9|unfold u6)<;>(repeat' split)<;>first|rfl|(simp;done)|(unfold cg.put;split<;>rfl)
theorem Sq(hT:TQ T)(Bh:T 68=some V0)(hm:g[m]?=some (c5 s))(hb:1<=s.bl.length/\s.bl.length<=9)(h:Q (.ref g.length) (g++[c5 s])):a9 T (k+5) 68 [.ref m] g Q E:=by
 refine call_of Bh rfl ?_;dsimp[V0,b5,List.replicate];walk_at"";refine j2 hm rfl ?_;walk_at"";refine Ra (k:=k) hT.tm hb ?_;refine⟨rfl,?_⟩;have e1:Ex g (g++[c5 (s0 s.bl.length)]):=Ex.snoc _ _;have m1:=e1.at hm;have n1:(g++[c5 (s0 s.bl.length)])[g.length]?=some (c5 (s0 s.bl.length)):=b9;have ne:m≠g.length:=aR (c7 hm);have fin:(g++[c5 (s0 s.bl.length)]).set g.length (c5 s)=g++[c5 s]:=by simp
 generalize g++[c5 (s0 s.bl.length)]=g1 at *;have m2:∀o:O,(g1.set g.length o)[m]?=some (c5 s):=λo=>a8 m1 (aL ne);walk_at"";refine j2 m1 rfl ?_;walk_at"";refine o8 n1 (by simp) (by simp) ?_;walk_at"";refine j2 (m2 _) rfl ?_;walk_at"";refine o8 (get_set n1) (by simp) (by repeat (first|(simp;done)|refine D7 ?_)) ?_;rw[bR];walk_at"";refine j2 (m2 _) rfl ?_;walk_at"";refine o8 (get_set n1) (by simp) (by repeat (first|(simp;done)|refine D7 ?_)) ?_;rw[bR];walk_at"";refine j2 (m2 _) rfl ?_;walk_at"";refine o8 (get_set n1) (by simp) (by repeat (first|(simp;done)|refine D7 ?_)) ?_;rw[bR];walk_at"";refine j2 (m2 _) rfl ?_;walk_at"";refine o8 (get_set n1) (by simp) (by repeat (first|(simp;done)|refine D7 ?_)) ?_;rw[bR];walk_at"";refine j2 (m2 _) rfl ?_;walk_at"";refine o8 (get_set n1) (by simp) (by repeat (first|(simp;done)|refine D7 ?_)) ?_;rw[bR];walk_at"";have e2:(O.ins "Mint" [("bench",.tup s.bl),("laid_off",.tup (s.go.map .int)),("lower_wear",.tup (ff s.lo)),("upper_wear",.tup (ff s.up)),("present",.int s.yr),("output",.tup s.co)])=c5 s:=rfl;have:=h;rw[<- fin] at this;exact this
theorem Jy(oA:T 192=some Z1)(M0:MD g q s)(h:∀g',Ex g g'->MD g' g.length s->Q (.ref g.length) g'):a9 T (k+1) 192 [.ref q] g Q E:=by
 refine call_of oA rfl ?_;dsimp[Z1,b5,List.replicate];walk_at"";refine Rq M0.bV ?_;walk_at"";refine Q4 (c8 T _) (og (c8 T _) ?_);walk_at"";have e0:Ex g (g++[O.bV (iL q s.yr)]++[O.lst [.str "seats",.str "lower",.str "upper",.str "gone",.str "coins"]]):=(Ex.snoc _ _).trans (Ex.snoc _ _);have hw:(g++[O.bV (iL q s.yr)]++[O.lst [.str "seats",.str "lower",.str "upper",.str "gone",.str "coins"]])[g.length+1]?=some (.lst [.str "seats",.str "lower",.str "upper",.str "gone",.str "coins"]):=by simp
 have hd:(g++[O.bV (iL q s.yr)]++[O.lst [.str "seats",.str "lower",.str "upper",.str "gone",.str "coins"]])[g.length]?=some (.bV (iL q s.yr)):=by simp
 have hl:(g++[O.bV (iL q s.yr)]).length=g.length+1:=by simp
 have AD:(g++[O.bV (iL q s.yr)]++[O.lst [.str "seats",.str "lower",.str "upper",.str "gone",.str "coins"]]).length=g.length+2:=by simp
 rw[hl];generalize g++[O.bV (iL q s.yr)]++[O.lst [.str "seats",.str "lower",.str "upper",.str "gone",.str "coins"]]=g1 at *;have ql:q+6<g.length:=c7 M0.cD;refine ⟨g.length + 1,_,rfl,a7 hw,[.str "seats",.str "lower",.str "upper",.str "gone",.str "coins"],λi σ g'=>∃ z2,σ=[some (.ref q),some (.ref g.length),z2]/\g'.length=g.length + 2 + i/\(∀ j,j < g.length->g'[j]?=g[j]?)/\g'[g.length + 1]?=some (.lst [.str "seats",.str "lower",.str "upper",.str "gone",.str "coins"]) /\
   g'[g.length]?=some (.bV [(.inr "seats",.ref (if 0<i then g.length+2 else q+2)),(.inr "lower",.ref (if 1<i then g.length+3 else q+3)),(.inr "upper",.ref (if 2<i then g.length+4 else q+4)),(.inr "gone",.ref (if 3<i then g.length+5 else q+5)),(.inr "year",.int s.yr),(.inr "coins",.ref (if 4<i then g.length+6 else q+6))]) /\
   (0<i->g'[g.length+2]?=some (.lst s.bl))/\(1<i->g'[g.length+3]?=some (.lst (ff s.lo)))/\(2<i->g'[g.length+4]?=some (.lst (ff s.up)))/\(3<i->g'[g.length+5]?=some (.lst (s.go.map .int)))/\(4<i->g'[g.length+6]?=some (.lst s.co)),
  λi σ g' p=>K8 (a7 p.choose_spec.2.2.2.1),⟨none,rfl,by omega,λj hj=>e0.old j hj,hw,hd,λz=>absurd z (by decide),λz=>absurd z (by decide),λz=>absurd z (by decide),λz=>absurd z (by decide),λz=>absurd z (by decide)⟩,λi y σ g' hy p=>?_,λσ g' p=>?_⟩
 ·obtain⟨z2,rfl,gl,old,gw,gd,c0,c1,c2,c3,c4⟩:=p;have hq:g'[q]?=some (.bV (iL q s.yr)):=by rw[old q (by omega)];exact M0.bV
  have step:∀ (w:Str) (r:Nat) (l:List D),y=.str w->K2 (iL q s.yr) (.inr w)=some (.ref r)->r < g.length->g[r]?=some (.lst l)->(∀ N:Ends,(∀ g2,g2=(g' ++ [O.lst l]).set g.length (.bV (putD [(.inr "seats",.ref (if 0 < i then g.length + 2 else q + 2)),(.inr "lower",.ref (if 1 < i then g.length + 3 else q + 3)),(.inr "upper",.ref (if 2 < i then g.length + 4 else q + 4)),(.inr "gone",.ref (if 3 < i then g.length + 5 else q + 5)),(.inr "year",.int s.yr),(.inr "coins",.ref (if 4 < i then g.length + 6 else q + 6))] (.inr w) (.ref (g.length + 2 + i))))->N.nx [some (.ref q),some (.ref g.length),some (.str w)] g2) ->
    wpS (a9 T k) (match Z1.body with | .seq _ (.seq (.fS _ _ b) _)=>b | x=>x) N [some (.ref q),some (.ref g.length),some (.str w)] g' E):=by
   intro w r l ey lR hr hl N hN;dsimp[Z1];walk_at"";refine i8 hq rfl lR ?_;walk_at"";refine V1 (a7 (by rw[old r hr];exact hl)) ?_;walk_at"";refine Hd (aA (by omega) |>.trans gd) rfl (by simp) ?_;rw[gl];walk_at"";exact hN _ rfl
  have gp:∀(o:O) (l:List D) (j:Nat),j≠g.length->j<g'.length->((g'++[O.lst l]).set g.length o)[j]?=g'[j]?:=λo l j h1 h2=>by
   rw[aw (aL h1),aA h2]
  have gn:∀(o:O) (l:List D),((g'++[O.lst l]).set g.length o)[g.length+2+i]?=some (.lst l):=λo l=>by
   rw[aw (by omega),<- gl];exact b9
  have gs:∀(o:O) (l:List D),((g'++[O.lst l]).set g.length o)[g.length]?=some o:=λo l=>by
   rw[aP (by simp;omega)]
  have go:∀(o:O) (l:List D) (j:Nat),j<g.length->((g'++[O.lst l]).set g.length o)[j]?=g[j]?:=λo l j hj=>(gp o l j (aR hj) (by omega)).trans (old j hj);have gq:∀(o:O) (l:List D),((g'++[O.lst l]).set g.length o)[g.length+1]?=_:=λo l=>(gp o l _ (by omega) (by omega)).trans gw;have gc:∀(o:O) (l:List D) (j:Nat),j<i->((g'++[O.lst l]).set g.length o)[g.length+2+j]?=g'[g.length+2+j]?:=λo l j hj=>gp o l _ (by omega) (by omega);have gz:∀(o:O) (l:List D),((g'++[O.lst l]).set g.length o).length=g.length+2+(i+1):=λo l=>by simp;omega
  have qj:∀j,j<=6->q+j<g.length:=λj hj=>by omega
  refine s9 ?_;have hi:i<5:=(aq.mp hy).1;have:i=0\/i=1\/i=2\/i=3\/i=4:=by clear hy;omega
  clear hi gp;rcases this with rfl|rfl|rfl|rfl|rfl
  ·cases hy;refine step "seats" (q+2) s.bl rfl lh (qj 2 (by decide)) M0.cP _ λg2 e=>?_;subst e;exact⟨_,rfl,gz _ _,go _ _,gq _ _,gs _ _,λ_=>gn _ _,λz=>absurd z (by decide),λz=>absurd z (by decide),λz=>absurd z (by decide),λz=>absurd z (by decide)⟩
  ·cases hy;refine step "lower" (q+3) (ff s.lo) rfl pD (qj 3 (by decide)) M0.lower _ λg2 e=>?_;subst e;exact⟨_,rfl,gz _ _,go _ _,gq _ _,gs _ _,λ_=>(gc _ _ 0 (by decide)).trans (c0 (by decide)),λ_=>gn _ _,λz=>absurd z (by decide),λz=>absurd z (by decide),λz=>absurd z (by decide)⟩
  ·cases hy;refine step "upper" (q+4) (ff s.up) rfl uS (qj 4 (by decide)) M0.upper _ λg2 e=>?_;subst e;exact⟨_,rfl,gz _ _,go _ _,gq _ _,gs _ _,λ_=>(gc _ _ 0 (by decide)).trans (c0 (by decide)),λ_=>(gc _ _ 1 (by decide)).trans (c1 (by decide)),λ_=>gn _ _,λz=>absurd z (by decide),λz=>absurd z (by decide)⟩
  ·cases hy;refine step "gone" (q+5) (s.go.map .int) rfl uT (qj 5 (by decide)) M0.gone _ λg2 e=>?_;subst e;exact⟨_,rfl,gz _ _,go _ _,gq _ _,gs _ _,λ_=>(gc _ _ 0 (by decide)).trans (c0 (by decide)),λ_=>(gc _ _ 1 (by decide)).trans (c1 (by decide)),λ_=>(gc _ _ 2 (by decide)).trans (c2 (by decide)),λ_=>gn _ _,λz=>absurd z (by decide)⟩
  ·cases hy;refine step "coins" (q+6) s.co rfl qN (qj 6 (by decide)) M0.cD _ λg2 e=>?_;subst e;exact⟨_,rfl,gz _ _,go _ _,gq _ _,gs _ _,λ_=>(gc _ _ 0 (by decide)).trans (c0 (by decide)),λ_=>(gc _ _ 1 (by decide)).trans (c1 (by decide)),λ_=>(gc _ _ 2 (by decide)).trans (c2 (by decide)),λ_=>(gc _ _ 3 (by decide)).trans (c3 (by decide)),λ_=>gn _ _⟩
 ·obtain⟨z2,rfl,gl,old,gw,gd,c0,c1,c2,c3,c4⟩:=p
  try show wpS _ _ _ _ _ _
  walk_at"";refine h g' ⟨by omega,old⟩ ⟨gd,c0 (by decide),c1 (by decide),c2 (by decide),c3 (by decide),c4 (by decide)⟩
def ni(r:Rs):Str:=if r.1="" then "" else "refused"
theorem Qn(hT:TQ T)(mJ:T 184=some N6)(rj:T 186=some zj)(hm:g[m]?=some (c5 s))(W:WS s)(ho:dd.ok)(h:∀g' j,Gr m g g'->g.length<=j->g'[m]?=some (c5 (dR s dd).2.2)->g'[j]?=some (.lst [.str (ni (dR s dd)),(dR s dd).2.1])->Q (.ref j) g'):a9 T (k+7) 186 [.ref m,dd.d] g Q E:=by
 refine call_of rj rfl ?_;dsimp[zj,b5,List.replicate];walk_at"";refine Iu (k:=k) hT mJ hm W ho (λe g1 e1=>?_) (λe=>?_)
 ·walk_at"";have hlen:g.length<=g1.length:=e1.len;refine h _ _ ⟨by simp;omega,λi hi hl=>?_⟩ (by simp;omega) ?_ (by unfold ni;rw[au e];simp)
  ·rw[aA (by simp;omega),aw (aL hi)];exact e1.old i hl
  ·rw[aA (by simp;exact c7 (e1.at hm))];exact get_set (e1.at hm)
 ·obtain⟨_,h2⟩:=(JC (s:=s) (dd:=dd)).resolve_left e;refine GP ?_;walk_at"";exact h _ _ (Gr.snoc _ _ _) (aj _) (by rw[h2];exact(Ex.snoc _ _).at hm) (by unfold ni;rw[ax e,h2];exact b9)
theorem Kc(h6:T 6=some rS)(h7:T 7=some A5)(oB:T 191=some zk){r:Rs}{j:Nat}(hj:g[j]?=some (.lst [.str (ni r),r.2.1]))(hs:j8 r.2.1)(h:∀g',Ex g g'->Q (.bl true) g'):a9 T (k+3) 191 [.ref j,.tup [.str r.1,r.2.1]] g Q E:=by
 refine call_of oB rfl ?_;dsimp[zk,b5,List.replicate];walk_at"";have ew:decide (ni r="")=decide (r.1=""):=by
  unfold ni;split
  ·rename_i e;rw[aC rfl,aC e]
  ·rename_i e;rw[aG e];decide +kernel
 refine fJ (by rw[ew];simp) ?_;walk_at"";exact j9 h6 h7 0 (k:=k) (Iw hs) h
end
def Dm:aY:=⟨1,1,(.seq (.ifs (.iQ (cR .Eq (bJ .len aD) (bc 0)) (.iQ (.eQ (bB .oQ (.lit (.tup [(.tup [(.str "cut"),(.tup [(.str "side")])]),(.tup [(.str "fix"),(.tup [(.str "number")])]),(.tup [(.str "off"),(.tup [(.str "number")])]),(.tup [(.str "mark"),(.tup [(.str "side"),(.str "number"),(.str "number")])]),(.tup [(.str "strike"),(.tup [(.str "number"),(.str "number")])]),(.tup [(.str "year"),(.tup [(.str "number")])])])) (bw aD (bc 0)))) (cR .NotEq (bB (.bin .Sub) (bJ .len aD) (bc 1)) (bJ .len (bB .mT (.lit (.tup [(.tup [(.str "cut"),(.tup [(.str "side")])]),(.tup [(.str "fix"),(.tup [(.str "number")])]),(.tup [(.str "off"),(.tup [(.str "number")])]),(.tup [(.str "mark"),(.tup [(.str "side"),(.str "number"),(.str "number")])]),(.tup [(.str "strike"),(.tup [(.str "number"),(.str "number")])]),(.tup [(.str "year"),(.tup [(.str "number")])])])) (bw aD (bc 0))))))) (.seq (.raise "BadDeed" (df (bt "it is no deed"))) .pass) .pass) .pass)⟩
def X9:aY:=⟨2,2,(.seq (.dN "mints" ["Ledger"] aD (bJ .lst (.make "Mint" 51 (df aK)))) (.seq (.dN "done" ["Ledger"] aD (.prim .lst .nil)) (.seq (.dN "undone" ["Ledger"] aD (.prim .lst .nil)) .pass)))⟩
def Y0:aY:=⟨2,4,(.seq (.set 2 (.bp "mint" [("Ledger",249)] aD .nil)) (.seq (.set 3 (.call 239 (dB bu aK))) (.seq (.expr (.cQ .append (bJ (.fld "mints") aD) (df bu))) (.seq (.expr (.cQ .append (bJ (.fld "done") aD) (df aK))) (.seq (.ret cN) .pass)))))⟩
def CS:aY:=⟨2,3,(.seq (.expr (.call 238 (df aK))) (.seq (.set 2 (.bp "go_on" [("Ledger",244)] aD (df (bJ .tuple aK)))) (.seq (.dN "undone" ["Ledger"] aD (.prim .lst .nil)) (.seq (.ret bu) .pass))))⟩
def C5:aY:=⟨1,2,(.seq (.ifs (.cJ (.eQ (bJ (.fld "done") aD))) (.seq (.raise "Nothing" (df (bt "no deed is left to take back"))) .pass) .pass) (.seq (.set 1 (.cQ .jk (bJ (.fld "done") aD) .nil)) (.seq (.expr (.cQ .jk (bJ (.fld "mints") aD) .nil)) (.seq (.expr (.cQ .append (bJ (.fld "undone") aD) (df aK))) (.seq (.ret aK) .pass)))))⟩
def B0:aY:=⟨1,2,(.seq (.ifs (.cJ (.eQ (bJ (.fld "undone") aD))) (.seq (.raise "Nothing" (df (bt "no deed is left to do again"))) .pass) .pass) (.seq (.set 1 (.cQ .jk (bJ (.fld "undone") aD) .nil)) (.seq (.expr (.bp "go_on" [("Ledger",244)] aD (df aK))) (.seq (.ret aK) .pass))))⟩
def T5:aY:=⟨1,1,(.seq (.ret (bJ .list (bJ (.fld "done") aD))) .pass)⟩
def X8:aY:=⟨1,1,(.seq (.ret (.bp "twin" [("Mint",68),("Ledger",251)] (bw (bJ (.fld "mints") aD) (bJ (.un .USub) (bc 1))) .nil)) .pass)⟩
def O4:aY:=⟨1,3,(.seq (.set 1 (bJ .lst (bB .lD (bt "mint ") (bJ .fv (bJ .len (.bp "anvils" [("Mint",60)] (.bp "mint" [("Ledger",249)] aD .nil) .nil)))))) (.seq (.fS (.one 2) (.iN (bJ (.fld "done") aD)) (.seq (.expr (.cQ .append aK (df (.cQ .join (bt " ") (df (.comp [] 2 (.one 1) (.iN bu) .no (bJ .str aK))))))) .pass)) (.seq (.ret (.cQ .join (bt "\n") (df aK))) .pass)))⟩
def X7:aY:=⟨1,2,(.seq (.set 1 (.make "Ledger" 243 (df (bJ .len (.bp "anvils" [("Mint",60)] (.bp "mint" [("Ledger",249)] aD .nil) .nil))))) (.seq (.dN "mints" ["Ledger"] aK (bJ .list (bJ (.fld "mints") aD))) (.seq (.dN "done" ["Ledger"] aK (bJ .list (bJ (.fld "done") aD))) (.seq (.dN "undone" ["Ledger"] aK (bJ .list (bJ (.fld "undone") aD))) (.seq (.ret aK) .pass)))))⟩
def Q7:aY:=⟨2,2,(.seq (.S3 (.seq (.ret (bB .lst (bt "") (.bp "do" [("Ledger",245)] aD (df aK)))) .pass) [("MintError",(.prim .lst (.cons (.lit (.str "refused")) (.cons (.lit .aQ) .nil))))]) .pass)⟩
noncomputable abbrev QX:aY:=N6
noncomputable abbrev A7(p q u:Nat):O:=.ins "Ledger" [("mints",.ref p),("done",.ref q),("undone",.ref u)]
structure Led(g:G)(r p q u:Nat)(ms:List (Nat×cg))(ds us:List Dd):Prop where
 ob:g[r]?=some (A7 p q u)
 mi:g[p]?=some (.lst (ms.map λt=>.ref t.1))
 dn:g[q]?=some (.lst (ds.map Dd.d))
 ud:g[u]?=some (.lst (us.map Dd.d))
 st:∀t∈ms,g[t.1]?=some (c5 t.2)/\WS t.2/\1<=t.2.bl.length
 pq:p≠q
 pu:p≠u
 qu:q≠u
def wH(r p q u:Nat)(ms:List (Nat×cg))(x:Nat):Prop:=x=r\/x=p\/x=q\/x=u\/∃t∈ms,x=t.1
structure TL(T:Nat->Option aY):Prop where
 Bt:T 238=some Dm
 Bs:T 239=some N6
 Br:T 243=some X9
 Bq:T 244=some Y0
 Bp:T 245=some CS
 Bo:T 248=some T5
 Bn:T 249=some X8
 Bh:T 68=some V0
structure Fr(S:Nat->Prop)(g g':G):Prop where
 len:g.length<=g'.length
 old:∀i,¬S i->i<g.length->g'[i]?=g[i]?
section
variable{T:Nat->Option aY}{k d:Nat}{g g' g1:G}{Q:KD}{E:KX}{m n r p q u:Nat}{s:cg}{dd:Dd}{ms:List (Nat×cg)}{ds us:List Dd}{S:Nat->Prop}
theorem Fr.at(h:Fr S g g'){i:Nat}{o:O}(hi:¬S i)(e:g[i]?=some o):g'[i]?=some o:=(h.old i hi (c7 e)).trans e
theorem Fr.ex(h:Ex g g'):Fr S g g':=⟨h.len,λi _ hl=>h.old i hl⟩
theorem Fr.trans(a:Fr S g g1)(b:Fr S g1 g'):Fr S g g':=⟨aM a.len b.len,λi h hl=>(b.old i h (av hl a.len)).trans (a.old i h hl)⟩
theorem fM{i:Nat}{o:O}(hi:S i):Fr S g (g.set i o):=⟨by simp,λj hj _=>aw λz=>hj (by rw[<- z];exact hi)⟩
theorem Fr.yn{i:Nat}{o:O}(e:Ex g g1)(hi:g.length<=i):Ex g (g1.set i o):=⟨by simp[e.len],λj hj=>by rw[aw (by omega)];exact e.old j hj⟩
theorem Led.keep(h:Led g r p q u ms ds us)(k:∀x o,wH r p q u ms x->g[x]?=some o->g'[x]?=some o):Led g' r p q u ms ds us :=
 ⟨k _ _ (.inl rfl) h.ob,k _ _ (.inr (.inl rfl)) h.mi,k _ _ (.inr (.inr (.inl rfl))) h.dn,k _ _ (.inr (.inr (.inr (.inl rfl)))) h.ud,λt ht=>⟨k _ _ (.inr (.inr (.inr (.inr ⟨t,ht,rfl⟩)))) (h.st t ht).1,(h.st t ht).2⟩,h.pq,h.pu,h.qu⟩
theorem Led.ex(h:Led g r p q u ms ds us)(e:Ex g g'):Led g' r p q u ms ds us:=h.keep λx o _ e1=>e.at e1
theorem Led.lt(h:Led g r p q u ms ds us){x:Nat}(hx:wH r p q u ms x):x<g.length:=by
 rcases hx with rfl|rfl|rfl|rfl|⟨t,ht,rfl⟩
 ·exact c7 h.ob
 ·exact c7 h.mi
 ·exact c7 h.dn
 ·exact c7 h.ud
 ·exact c7 (h.st t ht).1
theorem Kw(hL:TL T)(hT:TM T){v:Int}(h1:∀n:Nat,v=n->1<=n->n<=9->Q .aQ (g++[A7 (g.length+2) (g.length+3) (g.length+4),c5 (s0 n),.lst [.ref (g.length+1)],.lst [],.lst []]))(h2:¬(1<=v/\v<=9)->∀g',Ex g g'->E ⟨"BadAnvils"⟩ g'):a9 T (k+5) 243 [.ref g.length,.int v] (g++[.ins "Ledger" []]) Q E:=by
 refine call_of hL.Br rfl ?_;dsimp[X9,b5,List.replicate];walk_at"";refine JH (k:=k) hT b9 (λn e1 n1 n9=>?_) (λhv=>h2 hv _ ((Ex.snoc _ _).trans (Ex.snoc _ _)));refine⟨rfl,?_⟩;have es:(g++[O.ins "Ledger" []]++[O.ins "Mint" []]).set (g++[O.ins "Ledger" []]).length (DE n 0 0)=g++[O.ins "Ledger" [],c5 (s0 n)]:=by simp[s0,c5,DF]
 rw[es];walk_at"";have e0:∀(o:O) (l:List O),(g++(o::l))[g.length]?=some o:=λo l=>by simp
 have rB:∀(o o':O) (l:List O),(g++(o::l)).set g.length o'=g++(o'::l):=λo o' l=>by simp
 simp only[List.append_assoc,List.cons_append,List.nil_append,List.length_append,List.length_cons,List.length_nil,Nat.zero_add,Nat.add_assoc,Nat.reduceAdd];refine o8 (e0 _ _) (by simp) (by simp) ?_;rw[rB];walk_at"";simp only[List.append_assoc,List.cons_append,List.nil_append,List.length_append,List.length_cons,List.length_nil,Nat.zero_add,Nat.add_assoc,Nat.reduceAdd];refine o8 (e0 _ _) (by simp) (by simp[q8]) ?_;rw[rB];walk_at"";simp only[List.append_assoc,List.cons_append,List.nil_append,List.length_append,List.length_cons,List.length_nil,Nat.zero_add,Nat.add_assoc,Nat.reduceAdd];refine o8 (e0 _ _) (by simp) (by repeat (first|(simp;done)|refine D7 ?_)) ?_;rw[rB];walk_at"";exact h1 n e1 n1 n9
theorem QV(hn:1<=n/\n<=9):Led (g++[A7 (g.length+2) (g.length+3) (g.length+4),c5 (s0 n),.lst [.ref (g.length+1)],.lst [],.lst []]) g.length (g.length+2) (g.length+3) (g.length+4) [(g.length+1,s0 n)] [] []:=by
 refine⟨by simp,oX,oX,oX,λt ht=>?_,by omega,by omega,by omega⟩;cases cz.mp ht;exact⟨oX,BU hn.2,by unfold s0;simpa using hn.1⟩
theorem S0{α:Type}{l:List α}{x:α}:fW (l++[x]) (-1)=some x:=by
 simp[fW,kG,seqIndex?];rw[au (by omega)];show(l++[x])[(-1+((l.length:Int)+1)).toNat]?=some x;rw[show(-1+((l.length:Int)+1)).toNat=l.length by omega];simp
theorem N8(hL:TL T)(hT:TQ T)(h0:Led g r p q u (ms++[(m,s)]) ds us)(h:Q (.ref g.length) (g++[c5 s])):a9 T (k+6) 249 [.ref r] g Q E:=by
 obtain⟨h1,h2,h3⟩:=h0.st (m,s) (by simp);refine call_of hL.Bn rfl ?_;dsimp[X8,b5,List.replicate];walk_at"";refine j2 h0.ob rfl ?_;walk_at"";refine j7 (a7 h0.mi) (d:=.ref m) (by rw[az];exact S0) ?_;walk_at"";refine c9 h1 rfl rfl ?_;walk_at"";exact Sq (k:=k) hT hL.Bh h1 ⟨h3,h2.bn⟩ h
theorem HZ(hL:TL T)(h0:Led g r p q u ms ds us)(h:Q (.ref g.length) (g++[.lst (ds.map Dd.d)])):a9 T (k+1) 248 [.ref r] g Q E:=by
 refine call_of hL.Bo rfl ?_;dsimp[T5,b5,List.replicate];walk_at"";refine j2 h0.ob rfl ?_;walk_at"";refine V1 (a7 h0.dn) ?_;walk_at"";exact h
theorem IX(hL:TL T)(hT:TQ T)(h0:Led g r p q u (ms++[(m,s)]) ds us)(hz:ms.length<5000/\ds.length<5000)(ok:dd.ok)(h1:(dR s dd).1=""->∀g',Fr (λx=>x=p\/x=q) g g'->Led g' r p q u (ms++[(m,s)]++[(g.length,(dR s dd).2.2)]) (ds++[dd]) us->Q (dR s dd).2.1 g')(h2:(dR s dd).1≠""->∀g',Ex g g'->E ⟨(dR s dd).1⟩ g'):a9 T (k+7) 244 [.ref r,dd.d] g Q E:=by
 obtain⟨l1,l2,l3⟩:=h0.st (m,s) (by simp);refine call_of hL.Bq rfl ?_;dsimp[Y0,b5,List.replicate];walk_at"";refine c9 h0.ob rfl rfl ?_;walk_at"";refine N8 (k:=k) hL hT h0 ?_;walk_at"";refine Iu (k:=k) hT hL.Bs b9 l2 ok (λe g2 e2=>?_) (λe=>h2 e _ (Ex.snoc _ _));have x2:Ex g (g2.set g.length (c5 (dR s dd).2.2)):=Fr.yn ((Ex.snoc _ _).trans e2) (aj _);have n2:(g2.set g.length (c5 (dR s dd).2.2))[g.length]?=some (c5 (dR s dd).2.2):=get_set (e2.at b9);generalize g2.set g.length (c5 (dR s dd).2.2)=g3 at *;have L3:=h0.ex x2;have ne:p≠r:=λz=>by have:=L3.ob;rw[<- z,L3.mi] at this;cases this
 have ne2:q≠r:=λz=>by have:=L3.ob;rw[<- z,L3.dn] at this;cases this
 have pl:=c7 h0.mi;have ql:=c7 h0.dn;walk_at"";refine j2 L3.ob rfl ?_;walk_at"";refine⟨A4 L3.mi,?_⟩;walk_at"";refine E4 L3.mi (by simp;omega) ?_;walk_at"";refine j2 (a8 L3.ob ne) rfl ?_;walk_at"";refine⟨A4 (a8 L3.dn L3.pq),?_⟩;walk_at"";refine E4 (a8 L3.dn L3.pq) (by simp;omega) ?_;walk_at"";refine h1 e _ ((Fr.ex x2).trans ((fM (.inl rfl)).trans (fM (.inr rfl)))) ⟨a8 (a8 L3.ob ne) ne2,a8 (by rw[az (l₁:=ms++[(m,s)])];exact get_set L3.mi) (aL L3.pq),by rw[az (l₁:=ds)];exact get_set (a8 L3.dn L3.pq),a8 (a8 L3.ud L3.pu) L3.qu,λt ht=>?_,L3.pq,L3.pu,L3.qu⟩;have np:∀{x:Nat} {s:cg},g3[x]?=some (c5 s)->p≠x/\q≠x:=λe=>⟨λz=>(by rw[<- z,L3.mi] at e;cases e),λz=>(by rw[<- z,L3.dn] at e;cases e)⟩
 rcases bN.mp ht with ht|ht
 ·have:=L3.st t ht;exact⟨a8 (a8 this.1 (np this.1).1) (np this.1).2,this.2⟩
 ·cases cz.mp ht;exact⟨a8 (a8 n2 (np n2).1) (np n2).2,Gv l2,by rw[GL];exact l3⟩
theorem SG(hL:TL T)(h:Q .aQ g):a9 T (k+1) 238 [dd.d] g Q E:=by
 refine call_of hL.Bt rfl ?_;cases dd <;> dsimp [Dm,b5,List.replicate,Dd.d] <;> walk_at"" <;> (refine dG rfl ?_;walk_at"";refine dG (by decide +kernel) ?_;walk_at"";first
  |refine yp (v:=.tup [.str "side"]) rfl ?_
  |refine yp (v:=.tup [.str "number"]) rfl ?_
  |refine yp (v:=.tup [.str "number",.str "number"]) rfl ?_
  | refine yp (v:=.tup [.str "side",.str "number",.str "number"]) rfl ?_) <;> (walk_at"";refine dG rfl ?_;walk_at"";exact h)
theorem Xv(hL:TL T)(hT:TQ T)(h0:Led g r p q u (ms++[(m,s)]) ds us)(hz:ms.length<5000/\ds.length<5000)(ok:dd.ok)(h1:(dR s dd).1=""->∀g' u',Fr (λx=>x=p\/x=q\/x=r) g g'->g.length<u'->Led g' r p q u' (ms++[(m,s)]++[(g.length,(dR s dd).2.2)]) (ds++[dd]) []->Q (dR s dd).2.1 g')(h2:(dR s dd).1≠""->∀g',Ex g g'->E ⟨(dR s dd).1⟩ g'):a9 T (k+8) 245 [.ref r,dd.d] g Q E:=by
 refine call_of hL.Bp rfl ?_;dsimp[CS,b5,List.replicate];walk_at"";refine SG (k:=k+6) hL ?_;walk_at"";refine c9 h0.ob rfl rfl ?_;walk_at"";have et:∀{Q:KD},Q dd.d g->cu .tuple [dd.d] g Q:=λh=>by cases dd<;>exact Hl h
 refine et ?_;walk_at"";refine IX (k:=k) hL hT h0 hz ok (λe g2 F2 L2=>?_) h2;have gl:g.length<g2.length:=c7 (L2.st (g.length,(dR s dd).2.2) (by simp)).1;walk_at"";have x3:Ex g2 (g2++[O.lst []]):=Ex.snoc _ _;have n3:(g2++[O.lst []])[g2.length]?=some (.lst []):=b9;have L3:=L2.ex x3;have c3:∀x,wH r p q u (ms++[(m,s)]++[(g.length,(dR s dd).2.2)]) x->x<g2.length:=λx hx=>L2.lt hx;generalize g2++[O.lst []]=g3 at *;refine o8 L3.ob (by simp) (by simp) ?_;walk_at"";have nr:∀{x:Nat} {o:O},g3[x]?=some o->(∀p q u,o≠A7 p q u)->r≠x:=λe h z=>by rw[<- z,L3.ob] at e;exact h _ _ _ (aO e).symm
 have hp:=c3 p (.inr (.inl rfl));have hq:=c3 q (.inr (.inr (.inl rfl)));refine h1 e _ g2.length (⟨by have:=F2.len;have:=x3.len;simp;omega,λi hi hl=>?_⟩) gl ⟨get_set L3.ob,a8 L3.mi (nr L3.mi (by intro _ _ _ z;cases z)),a8 L3.dn (nr L3.dn (by intro _ _ _ z;cases z)),a8 n3 (nr n3 (by intro _ _ _ z;cases z)),λt ht=>?_,L3.pq,by omega,by omega⟩
 ·rw[aw (λz=>hi (.inr (.inr z.symm))),x3.old i (by have:=F2.len;omega)];exact F2.old i (λz=>hi (by rcases z with z|z;exact .inl z;exact .inr (.inl z))) hl
 ·have:=L3.st t ht;exact⟨a8 this.1 (nr this.1 (by intro _ _ _ z;cases z)),this.2⟩
theorem IW(hL:TL T)(hT:TQ T)(oz:T 240=some Q7)(h0:Led g r p q u (ms++[(m,s)]) ds us)(hz:ms.length<5000/\ds.length<5000)(ok:dd.ok)(h1:(dR s dd).1=""->∀g' u' j,Fr (λx=>x=p\/x=q\/x=r) g g'->g.length<u'->Led g' r p q u' (ms++[(m,s)]++[(g.length,(dR s dd).2.2)]) (ds++[dd]) []->g'[j]?=some (.lst [.str (ni (dR s dd)),(dR s dd).2.1])->g.length<=j->Q (.ref j) g')(h2:(dR s dd).1≠""->∀g' j,Ex g g'->g'[j]?=some (.lst [.str (ni (dR s dd)),(dR s dd).2.1])->g.length<=j->Q (.ref j) g'):a9 T (k+9) 240 [.ref r,dd.d] g Q E:=by
 refine call_of oz rfl ?_;dsimp[Q7,b5,List.replicate];walk_at"";refine c9 h0.ob rfl rfl ?_;walk_at"";refine Xv (k:=k) hL hT h0 hz ok (λe g2 u2 F2 hu L2=>?_) (λe g2 e2=>?_)
 ·walk_at"";exact h1 e _ u2 _ (F2.trans (Fr.ex (Ex.snoc _ _))) hu (L2.ex (Ex.snoc _ _)) (by unfold ni;rw[au e];exact b9) (aM F2.len (aj _))
 ·obtain⟨_,h3⟩:=(JC (s:=s) (dd:=dd)).resolve_left e;refine GP ?_;walk_at"";exact h2 e _ _ (e2.trans (Ex.snoc _ _)) (by unfold ni;rw[ax e,h3];exact b9) e2.len
theorem Yn{l:List D}(h:∀x∈l,(∃i,x=.int i)\/∃y,x=.str y)(hz:l.length<=1000):u9 g 1 (.tup l) (.tup l):=by
 refine .tup rfl (λi x y hx hy=>?_) hz;rw[hx] at hy;cases hy;rcases h x (aH hx) with⟨_,rfl⟩|⟨_,rfl⟩
 ·exact .int _
 ·exact .str _
theorem yY:u9 g 1 dd.d dd.d:=by
 cases dd<;>exact Yn (by simp) (by simp)
end
noncomputable abbrev nT(i:Int):Str:=Str.ofString (toString i)
theorem wN{i:Int}(h:0<=i/\i<=9999):i.natAbs.log2<14:=by
 by_cases z:i.natAbs=0
 ·rw[z];decide
 ·exact(Nat.log2_lt z).mpr (show i.natAbs<2 ^ 14 by omega)
theorem Ed{i:Int}(h:0<=i/\i<=9999):(nT i).length<=15:=by rw[xr];exact PySem.int_text_length_le (k:=14) (by decide) (wN h)
def Dd.l:Dd->List D
 |.cut x=>[.str "cut",.str x]
 |.fix v=>[.str "fix",.int v]
 |.off v=>[.str "off",.int v]
 |.mark x v j=>[.str "mark",.str x,.int v,.int j]
 |.iH a b=>[.str "strike",.int a,.int b]
 |.year n=>[.str "year",.int n]
theorem Dd.Ou(dd:Dd):dd.d=.tup dd.l:=by cases dd<;>rfl
theorem Dd.GS(dd:Dd):dd.l.length<=4:=by cases dd<;>simp[Dd.l]
def txt:D->Str
 |.str x=>x
 |.int i=>nT i
 |_=>""
def tj(x:D):Prop:=(∃y,x=.str y/\y.length<=10)\/∃i,x=.int i/\0<=i/\i<=9999
def Dd.fit(dd:Dd):Prop:=∀x∈dd.l,tj x
theorem tj.len{x:D}(h:tj x):(txt x).length<=15:=by
 rcases h with⟨y,rfl,h⟩|⟨i,rfl,h⟩
 ·exact aM h (by decide)
 ·exact Ed h
theorem KO{x:Str}(h:A1 x):tj (.str x):=by
 rcases h with rfl|rfl
 ·exact .inl ⟨_,rfl,by decide +kernel⟩
 ·exact .inl ⟨_,rfl,by decide +kernel⟩
theorem Xh{s:cg}{dd:Dd}(W:WS s)(e:(dR s dd).1=""):dd.fit:=by
 have hl:=W.ln;have hu:=W.un;have hy:=W.y0;intro x hx;cases dd with
 |cut y =>
  simp only[dR] at e;unfold v8 at e;split at e
  ·rename_i hs;simp only[Dd.l,List.mem_cons,List.mem_nil_iff,or_false] at hx;rcases hx with rfl|rfl
   ·exact .inl ⟨_,rfl,by decide +kernel⟩
   ·exact KO hs
  ·exact absurd e (by dsimp only;decide +kernel)
 |fix v =>
  simp only[dR] at e;unfold n0 at e;split at e
  ·rename_i hv;simp only[Dd.l,List.mem_cons,List.mem_nil_iff,or_false] at hx;rcases hx with rfl|rfl
   ·exact .inl ⟨_,rfl,by decide +kernel⟩
   ·exact .inr ⟨_,rfl,by omega,by omega⟩
  ·exact absurd e (by dsimp only;decide +kernel)
 |off v =>
  simp only[dR] at e;unfold v7 at e;split at e
  ·rename_i hv;simp only[Dd.l,List.mem_cons,List.mem_nil_iff,or_false] at hx;rcases hx with rfl|rfl
   ·exact .inl ⟨_,rfl,by decide +kernel⟩
   ·exact .inr ⟨_,rfl,by omega,by omega⟩
  ·exact absurd e (by dsimp only;decide +kernel)
 |mark y v j =>
  simp only[dR] at e;unfold i3 at e;split at e
  ·rename_i hs;have hz:(s.side y).length<=99:=by unfold cg.side;split<;>assumption
   split at e
   ·rename_i hv;split at e
    ·exact absurd e (by dsimp only;decide +kernel)
    ·split at e
     ·rename_i hj;simp only[Dd.l,List.mem_cons,List.mem_nil_iff,or_false] at hx;rcases hx with rfl|rfl|rfl|rfl
      ·exact .inl ⟨_,rfl,by decide +kernel⟩
      ·exact KO hs
      ·exact .inr ⟨_,rfl,by omega,by omega⟩
      ·exact .inr ⟨_,rfl,by omega,by omega⟩
     ·exact absurd e (by dsimp only;decide +kernel)
   ·exact absurd e (by dsimp only;decide +kernel)
  ·exact absurd e (by dsimp only;decide +kernel)
 |iH a b =>
  simp only[dR] at e;unfold f9 at e;split at e
  ·rename_i hv;simp only[Dd.l,List.mem_cons,List.mem_nil_iff,or_false] at hx;rcases hx with rfl|rfl|rfl
   ·exact .inl ⟨_,rfl,by decide +kernel⟩
   ·exact .inr ⟨_,rfl,by omega,by omega⟩
   ·exact .inr ⟨_,rfl,by omega,by omega⟩
  ·exact absurd e (by dsimp only;decide +kernel)
 |year n =>
  simp only[dR] at e;unfold u6 at e;split at e
  ·rename_i hv;simp only[Dd.l,List.mem_cons,List.mem_nil_iff,or_false] at hx;rcases hx with rfl|rfl
   ·exact .inl ⟨_,rfl,by decide +kernel⟩
   ·exact .inr ⟨_,rfl,by omega,by omega⟩
  ·exact absurd e (by dsimp only;decide +kernel)
theorem Ir{sep:Str}{B:Nat}{ys:List Str}(h:∀y∈ys,y.length<=B):C6 sep ys<=(B+sep.length)*ys.length:=by
 have:∀(ys:List Str) (n:Nat),(∀y∈ys,y.length<=B)->ys.foldl (λn y=>n+y.length+sep.length) n<=n+(B+sep.length)*ys.length:=by
  intro ys
  induction ys with
  |nil=>intro n _;simp
  |cons y r ih =>
   intro n h;rw[eO];have h1:=ih (n+y.length+sep.length) λz hz=>h z (by simp[hz]);have h2:=h y (by simp);rw[bU,Nat.mul_add,Nat.mul_one];omega
 have:=this ys 0 h;unfold C6;omega
def S9(dd:Dd):Str:=Builtin.Str.glued " " (dd.l.map txt)
def Hj(n:Nat)(ds:List Dd):Str:=Builtin.Str.glued "\n" ((("mint ":Str)++nT n)::ds.map S9)
theorem Kb{dd:Dd}(h:dd.fit):C6 " " (dd.l.map txt)<=64/\(S9 dd).length<=64:=by
 have h1:C6 " " (dd.l.map txt)<=(15+(" ":Str).length)*(dd.l.map txt).length:=Ir λy hy=>by
  obtain⟨x,hx,rfl⟩:=aS.mp hy;exact(h x hx).len
 have h2:(" ":Str).length=1:=by decide +kernel
 have h3:=dd.GS;rw[h2,ak] at h1;have h4:=HU " " (dd.l.map txt);unfold S9;omega
theorem text_len{n:Nat}{ds:List Dd}(hn:n<=9)(h:∀dd∈ds,dd.fit)(hz:ds.length<=1000):C6 "\n" ((("mint ":Str)++nT n)::ds.map S9)<=100000:=by
 have h1:C6 "\n" ((("mint ":Str)++nT n)::ds.map S9)<=(64+("\n":Str).length)*((("mint ":Str)++nT n)::ds.map S9).length:=Ir λy hy=>by
  rcases aI.mp hy with rfl|hy
  ·have:=Ed (i:=(n:Int)) (by omega);have h5:("mint ":Str).length=5:=by decide +kernel
   rw[Lo,h5];omega
  ·obtain⟨dd,hd,rfl⟩:=aS.mp hy;exact(Kb (h dd hd)).2
 have h2:("\n":Str).length=1:=by decide +kernel
 rw[h2,bU,ak] at h1;omega
section
variable{T:Nat->Option aY}{k d:Nat}{g g' g1:G}{Q:KD}{E:KX}{m n r p q u:Nat}{s:cg}{dd:Dd}{ms:List (Nat×cg)}{ds us:List Dd}
theorem Wv{x:D}(h:tj x){Q:KD}(hq:Q (.str (txt x)) g):cu .str [x] g Q:=by
 rcases h with⟨y,rfl,h⟩|⟨i,rfl,h⟩
 ·exact OE hq
 ·exact DJ (av (wN h) (by decide)) hq
theorem Vx{i:Int}(hi:0<=i/\i<=9999)(h:Q (.str (nT i)) g):cu .fv [.int i] g Q:=⟨_,_,⟨rfl,.inl ⟨i,rfl,av (wN hi) (by decide),rfl⟩⟩,h⟩
theorem Jj{f:ME}(hf:dd.fit){σ:S}{z:ME}(hz:∀{Q:KD},Q dd.d g->aX (a9 T k) z σ g Q E)(he:∀{x:D} {w:Option D} {Q:KD},tj x->Q (.str (txt x)) g->aX (a9 T k) f [w,some x] g Q jz)(h:Q (.str (S9 dd)) (g++[.lst ((dd.l.map txt).map .str)])):aX (a9 T k) (.cQ .join (.lit (.str " ")) (.cons (.comp [] 2 (.one 1) (.iN z) .no f) .nil)) σ g Q E:=by
 walk_at"";refine⟨Ec,?_⟩;walk_at"";refine ZO (c8 T _) (hz ?_);have:=dd.GS;refine⟨dd.l,dd.Ou,by omega,λi ys σ g'=>∃z w,ys=(((dd.l.take i).map txt).map D.str)/\σ=[z,w]/\g'=g,⟨none,none,rfl,rfl,rfl⟩,λi ys σ g' p=>?_,λi y ys σ g' hy p=>?_,λys σ g' p=>?_⟩
 ·obtain⟨z,w,rfl,rfl,rfl⟩:=p;simp;omega
 ·obtain⟨z,w,rfl,rfl,rfl⟩:=p;refine s9 ?_
  try show dD _ _ _ _ _ _
  walk_at"";refine he (hf y (aH hy)) ?_;refine⟨_,_,?_,rfl,rfl⟩;rw[fb,hy];simp
 ·obtain⟨z,w,rfl,rfl,rfl⟩:=p;rw[dk];walk_at"";refine D' (ys:=dd.l.map txt) (a7 b9) (aM (Kb hf).1 (by decide)) ?_;exact h
theorem a93(hL:TL T)(hT:TQ T)(rh:T 250=some O4)(h0:Led g r p q u (ms++[(m,s)]) ds us)(hf:∀dd∈ds,dd.fit)(hz:ds.length<=1000)(h:∀g',Ex g g'->Q (.str (Hj s.bl.length ds)) g'):a9 T (k+7) 250 [.ref r] g Q E:=by
 obtain⟨_,h2,h3⟩:=h0.st (m,s) (by simp);have bn:s.bl.length<=9:=h2.bn;refine call_of rh rfl ?_;dsimp[O4,b5,List.replicate];walk_at"";refine c9 h0.ob rfl rfl ?_;walk_at"";refine N8 (k:=k) hL hT h0 ?_;walk_at"";refine c9 b9 rfl rfl ?_;walk_at"";refine Df (k:=k+5) hT b9 ?_;have x1:Ex g (g++[c5 s]++[.lst s.bl]):=(Ex.snoc _ _).trans (Ex.snoc _ _);have b1:(g++[c5 s]++[.lst s.bl])[(g++[c5 s]).length]?=some (.lst s.bl):=b9;generalize g++[c5 s]++[.lst s.bl]=g1 at *;walk_at"";refine Vx (by omega) ?_;walk_at"";refine OD (x:="mint "++nT s.bl.length) (by show some ("mint "++(nT s.bl.length++Str.empty))=some _;rw[Ki]) ?_;walk_at"";have x2:Ex g (g1++[.lst [.str ("mint "++nT s.bl.length)]]):=x1.trans (Ex.snoc _ _);have b2:(g1++[.lst [.str ("mint "++nT s.bl.length)]])[g1.length]?=some (.lst [.str ("mint "++nT s.bl.length)]):=b9;have gl:=x1.len;generalize g1++[.lst [.str ("mint "++nT s.bl.length)]]=g2 at *;generalize g1.length=b at *;refine Q4 (c8 T _) (og (c8 T _) ?_);walk_at"";refine j2 (h0.ex x2).ob rfl ?_;refine⟨q,_,rfl,a7 (h0.ex x2).dn,ds.map Dd.d,λi σ g'=>∃z,σ=[some (.ref r),some (.ref b),z]/\Ex g g'/\g'[b]?=some (.lst (.str ("mint "++nT s.bl.length)::((ds.take i).map S9).map .str)),λi σ g' p=>K8 (a7 (h0.ex p.choose_spec.2.1).dn),⟨none,rfl,x2,b2⟩,λi y σ g' hy p=>?_,λσ g' p=>?_⟩
 ·obtain⟨z,rfl,x3,b3⟩:=p;rw[aE,ae] at hy;obtain⟨dd,hd,rfl⟩:=hy;refine s9 ?_
  try show wpS _ _ _ _ _ _
  walk_at""
  try refine⟨A4 b3,?_⟩
  try refine xa ?_
  refine Jj (k:=k+6) (hf dd (aH hd)) (λh=>w_var rfl h) (λhx hq=>?_) ?_
  ·walk_at"";exact Wv hx hq
  ·walk_at"";refine E4 (C7 b3) (by simp;omega) ?_;walk_at"";refine⟨_,rfl,Fr.yn (x3.trans (Ex.snoc _ _)) gl,?_⟩;rw[get_set (C7 b3),fb,hd];simp
 ·obtain⟨z,rfl,x3,b3⟩:=p;rw[ak,dk] at b3
  try show wpS _ _ _ _ _ _
  walk_at"";refine⟨Ec,?_⟩;walk_at"";refine D' (ys:=("mint "++nT s.bl.length)::ds.map S9) (a7 b3) (text_len bn hf hz) ?_;walk_at"";exact h _ x3
theorem a94(lC:T 246=some C5){t:Nat×cg}(h0:Led g r p q u (ms++[t]) (ds++[dd]) us)(hz:us.length<=5000)(h:∀g',Fr (λx=>x=p\/x=q\/x=u) g g'->Led g' r p q u ms ds (us++[dd])->Q dd.d g'):a9 T (k+1) 246 [.ref r] g Q E:=by
 have nr:∀{x:Nat} {l:List D},g[x]?=some (.lst l)->x≠r:=λe z=>by rw[z,h0.ob] at e;cases e
 have nm:∀{x y:Nat} {l:List D} {s:cg},g[x]?=some (.lst l)->g[y]?=some (c5 s)->x≠y:=λe1 e2 z=>by rw[z,e2] at e1;cases e1
 have dn:=h0.dn;have mi:=h0.mi;rw[az] at dn mi;refine call_of lC rfl ?_;dsimp[C5,b5,List.replicate];walk_at"";refine j2 h0.ob rfl ?_;walk_at"";refine yD (a7 dn) ?_;refine dG (by simp) ?_;walk_at"";refine j2 h0.ob rfl ?_;walk_at"";refine⟨Y7 dn,?_⟩;walk_at"";refine wX dn ?_;walk_at"";refine j2 (a8 h0.ob (nr dn)) rfl ?_;walk_at"";refine⟨Y7 (a8 mi (aL h0.pq)),?_⟩;walk_at"";refine wX (a8 mi (aL h0.pq)) ?_;walk_at"";refine j2 (a8 (a8 h0.ob (nr dn)) (nr mi)) rfl ?_;walk_at"";have ud:=a8 (a8 h0.ud h0.qu (o':=.lst (ds.map Dd.d))) h0.pu (o':=.lst (ms.map λt=>.ref t.1));refine⟨A4 ud,?_⟩;walk_at"";refine E4 ud (by simp;omega) ?_;walk_at"";refine h _ (((fM (.inr (.inl rfl))).trans (fM (.inl rfl))).trans (fM (.inr (.inr rfl)))) ⟨a8 (a8 (a8 h0.ob (nr dn)) (nr mi)) (nr h0.ud),a8 (get_set (a8 mi (aL h0.pq))) (aL h0.pu),a8 (a8 (get_set dn) h0.pq) (aL h0.qu),by rw[az (l₁:=us)];exact get_set ud,λt ht=>?_,h0.pq,h0.pu,h0.qu⟩;have:=h0.st t (by simp[ht]);exact⟨a8 (a8 (a8 this.1 (nm dn this.1)) (nm mi this.1)) (nm h0.ud this.1),this.2⟩
theorem Yl(lC:T 246=some C5)(h0:Led g r p q u ms [] us)(h:E ⟨"Nothing"⟩ g):a9 T (k+1) 246 [.ref r] g Q E:=by
 refine call_of lC rfl ?_;dsimp[C5,b5,List.replicate];walk_at"";refine j2 h0.ob rfl ?_;walk_at"";refine yD (a7 h0.dn) ?_;refine fJ (by simp) ?_;walk_at"";exact h
theorem Yk(hL:TL T)(hT:TQ T)(lB:T 247=some B0)(h0:Led g r p q u (ms++[(m,s)]) ds (us++[dd]))(hz:ms.length<5000/\ds.length<5000)(ok:dd.ok)(e:(dR s dd).1="")(h:∀g',Fr (λx=>x=p\/x=q\/x=u) g g'->Led g' r p q u (ms++[(m,s)]++[(g.length,(dR s dd).2.2)]) (ds++[dd]) us->Q dd.d g'):a9 T (k+8) 247 [.ref r] g Q E:=by
 have nr:∀{x:Nat} {l:List D},g[x]?=some (.lst l)->x≠r:=λe z=>by rw[z,h0.ob] at e;cases e
 have nm:∀{x y:Nat} {l:List D} {s:cg},g[x]?=some (.lst l)->g[y]?=some (c5 s)->x≠y:=λe1 e2 z=>by rw[z,e2] at e1;cases e1
 have ud:=h0.ud;rw[az] at ud;refine call_of lB rfl ?_;dsimp[B0,b5,List.replicate];walk_at"";refine j2 h0.ob rfl ?_;walk_at"";refine yD (a7 ud) ?_;refine dG (by simp) ?_;walk_at"";refine j2 h0.ob rfl ?_;walk_at"";refine⟨Y7 ud,?_⟩;walk_at"";refine wX ud ?_;have L1:Led (g.set u (.lst (us.map Dd.d))) r p q u (ms++[(m,s)]) ds us:=⟨a8 h0.ob (nr ud),a8 h0.mi (aL h0.pu),a8 h0.dn (aL h0.qu),get_set ud,λt ht=>⟨a8 (h0.st t ht).1 (nm ud (h0.st t ht).1),(h0.st t ht).2⟩,h0.pq,h0.pu,h0.qu⟩
 have F1:Fr (λx=>x=p\/x=q\/x=u) g (g.set u (.lst (us.map Dd.d))):=fM (.inr (.inr rfl));have l1:(g.set u (.lst (us.map Dd.d))).length=g.length:=by simp
 generalize g.set u (.lst (us.map Dd.d))=g1 at *;walk_at"";refine c9 L1.ob rfl rfl ?_;walk_at"";refine IX (k:=k) hL hT L1 hz ok (λ_ g2 F2 L2=>?_) (λz=>absurd e z);walk_at"";rw[l1] at L2;exact h _ (F1.trans ⟨F2.len,λi hi hl=>F2.old i (λz=>hi (by rcases z with z|z;exact .inl z;exact .inr (.inl z))) hl⟩) L2
theorem Zu(lB:T 247=some B0)(h0:Led g r p q u ms ds [])(h:E ⟨"Nothing"⟩ g):a9 T (k+1) 247 [.ref r] g Q E:=by
 refine call_of lB rfl ?_;dsimp[B0,b5,List.replicate];walk_at"";refine j2 h0.ob rfl ?_;walk_at"";refine yD (a7 h0.ud) ?_;refine fJ (by simp) ?_;walk_at"";exact h
end
structure Ent where
 dd:Dd
 mi:Nat
 mo:Nat
 st:cg
def d6(t:Ent):D:=.tup [t.dd.d,.ref t.mo]
def Ent.key(t:Ent):Dd×cg:=(t.dd,t.st)
def q9:cg->List (Dd×cg)->cg
 |s,[]=>s
 |_,t::r=>q9 t.2 r
def jd:cg->List (Dd×cg)->Prop
 |_,[]=>True
 |s,t::r=>((dR s t.1).1=""/\(dR s t.1).2.2=t.2/\t.1.ok)/\jd t.2 r
theorem Dk:∀{s:cg} {l:List (Dd×cg)} {t:Dd×cg},q9 s (l++[t])=t.2
 |_,[],_=>rfl
 |_,x::r,t=>Dk (s:=x.2) (l:=r) (t:=t)
theorem jd.app:∀{s:cg} {l m:List (Dd×cg)},jd s (l++m)↔jd s l/\jd (q9 s l) m
 |_,[],_=>⟨λh=>⟨trivial,h⟩,λh=>h.2⟩
 |_,t::r,m=>⟨λh=>⟨⟨h.1,(jd.app.mp h.2).1⟩,(jd.app.mp h.2).2⟩,λh=>⟨h.1.1,jd.app.mpr ⟨h.1.2,h.2⟩⟩⟩
theorem jd.fit:∀{s:cg} {l:List (Dd×cg)},WS s->jd s l->∀t∈l,t.1.fit
 |_,[],_,_=>λt h=>by simp at h
 |s,x::r,W,h=>λt ht=>by
  rcases aI.mp ht with rfl|ht
  ·exact Xh W h.1.1
  ·exact jd.fit (by rw[<- h.1.2.1];exact Gv W) h.2 t ht
theorem jd.bl:∀{s:cg} {l:List (Dd×cg)},jd s l->(q9 s l).bl.length=s.bl.length
 |_,[],_=>rfl
 |s,x::r,h=>by
  have h1:=jd.bl h.2;rw[<- h.1.2.1,GL] at h1;rw[<- h1];show(q9 x.2 r).bl.length=_;rw[h.1.2.1]
def Vs(r p q u a b x:Nat):Prop:=x=r\/x=p\/x=q\/x=u\/x=a\/x=b
structure Hw(g:G)(d n r p q u a b m0 c0:Nat)(H U:List Ent):Prop where
 L:Led g r p q u ((m0,s0 n)::H.map λt=>(t.mi,t.st)) (H.map Ent.dd) (U.map Ent.dd)
 la:g[a]?=some (.lst (.tup [.aQ,.ref c0]::H.map d6))
 lb:g[b]?=some (.lst (U.map d6))
 mo:∀t∈H++U,MD g t.mo t.st
 mz:MD g c0 (s0 n)
 ch:jd (s0 n) ((H++U.reverse).map Ent.key)
 ab:a≠b
 al:a≠p/\a≠q/\a≠u
 bl:b≠p/\b≠q/\b≠u
 sm:∀t∈H++U,∀x,t.mo<=x->x<t.mo+7->¬Vs r p q u a b x
 sz:∀x,c0<=x->x<c0+7->¬Vs r p q u a b x
 lo:∀x,Vs r p q u a b x\/x=m0\/(∃t∈H,x=t.mi)\/(c0<=x/\x<c0+7)\/(∃t∈H++U,t.mo<=x/\x<t.mo+7)->d<x
section
variable{T:Nat->Option aY}{k d:Nat}{g g' g1:G}{Q:KD}{E:KX}{n r p q u a b m0 c0:Nat}{s:cg}{dd:Dd}{H U:List Ent}{S:Nat->Prop}
theorem MD.jS{q:Nat}(M:MD g q s)(F:Fr S g g')(h:∀x,q<=x->x<q+7->¬S x):MD g' q s :=
 ⟨F.at (h _ (by omega) (by omega)) M.bV,F.at (h _ (by omega) (by omega)) M.cP,F.at (h _ (by omega) (by omega)) M.lower,F.at (h _ (by omega) (by omega)) M.upper,F.at (h _ (by omega) (by omega)) M.gone,F.at (h _ (by omega) (by omega)) M.cD⟩
theorem f7.jS(D:f7 g d)(F:Fr S g g')(h:∀x,x<=d->¬S x):f7 g' d:=by
 obtain⟨u,v,w,x,xs,e1,e2,e3,e4⟩:=D.ex;exact⟨u,v,w,x,xs,F.at (h _ (aj _)) e1,F.at (h _ (by omega)) e2,e3,e4⟩
theorem Hw.fr(h:Hw g d n r p q u a b m0 c0 H U)(F:Fr S g g')(hS:∀x,S x->x<=d\/g.length<=x):Hw g' d n r p q u a b m0 c0 H U:=by
 have no:∀x,x<g.length->(Vs r p q u a b x\/x=m0\/(∃t∈H,x=t.mi)\/(c0<=x/\x<c0+7)\/(∃t∈H++U,t.mo<=x/\x<t.mo+7))->¬S x:=λx hx hc hs=>by
  have h1:=h.lo x hc;have h2:=hS x hs;omega
 refine⟨h.L.keep λx o hx e=>F.at (no x (c7 e) ?_) e,F.at (no a (c7 h.la) (.inl (.inr (.inr (.inr (.inr (.inl rfl))))))) h.la,F.at (no b (c7 h.lb) (.inl (.inr (.inr (.inr (.inr (.inr rfl))))))) h.lb,λt ht=>(h.mo t ht).jS F λx h1 h2=>?_,h.mz.jS F λx h1 h2=>?_,h.ch,h.ab,h.al,h.bl,h.sm,h.sz,h.lo⟩
 ·rcases hx with z|z|z|z|⟨t,ht,rfl⟩
  ·exact .inl (.inl z)
  ·exact .inl (.inr (.inl z))
  ·exact .inl (.inr (.inr (.inl z)))
  ·exact .inl (.inr (.inr (.inr (.inl z))))
  ·rcases aI.mp ht with rfl|ht
   ·exact .inr (.inl rfl)
   ·obtain⟨y,hy,rfl⟩:=aS.mp ht;exact .inr (.inr (.inl ⟨y,hy,rfl⟩))
 ·have:=c7 (h.mo t ht).cD;exact no x (by omega) (.inr (.inr (.inr (.inr ⟨t,ht,h1,h2⟩))))
 ·have:=c7 h.mz.cD;exact no x (by omega) (.inr (.inr (.inr (.inl ⟨h1,h2⟩))))
theorem yo(G1:Gr d g g'):Fr (λx=>x=d) g g':=⟨G1.len,λi hi hl=>G1.old i hi hl⟩
theorem Hw.ex(h:Hw g d n r p q u a b m0 c0 H U)(e:Ex g g'):Hw g' d n r p q u a b m0 c0 H U:=h.fr (S:=λ_=>False) (.ex e) λx z=>z.elim
theorem Hw.gr(h:Hw g d n r p q u a b m0 c0 H U)(e:Gr d g g'):Hw g' d n r p q u a b m0 c0 H U:=h.fr (yo e) λx z=>.inl (by omega)
theorem Hw.top(h:Hw g d n r p q u a b m0 c0 H U):∃ms m,(m0,s0 n)::(H.map λt=>(t.mi,t.st))=ms++[(m,q9 (s0 n) (H.map Ent.key))]/\ms.length=H.length:=by
 rcases fj H with rfl|⟨H',t,rfl⟩
 ·exact⟨[],m0,rfl,rfl⟩
 ·refine⟨(m0,s0 n)::H'.map λt=>(t.mi,t.st),t.mi,?_,by simp⟩;rw[fk,az,az,eU,eU,Dk]
  rfl
theorem Hw.pW(h:Hw g d n r p q u a b m0 c0 H U):∃ms m,Led g r p q u (ms++[(m,q9 (s0 n) (H.map Ent.key))]) (H.map Ent.dd) (U.map Ent.dd)/\ms.length=H.length/\(m0,s0 n)::(H.map λt=>(t.mi,t.st))=ms++[(m,q9 (s0 n) (H.map Ent.key))]:=by
 obtain⟨ms,m,e,hl⟩:=h.top;exact⟨ms,m,e▸h.L,hl,e⟩
theorem Hw.cH(h:Hw g d n r p q u a b m0 c0 H U):jd (s0 n) (H.map Ent.key):=by
 have:=h.ch;rw[az] at this;exact(jd.app.mp this).1
theorem Hw.ws(h:Hw g d n r p q u a b m0 c0 H U):WS (q9 (s0 n) (H.map Ent.key))/\1<=n/\n<=9:=by
 obtain⟨ms,m,L,_⟩:=h.pW;have h1:=L.st (m,q9 (s0 n) (H.map Ent.key)) (by simp);have h2:=h.L.st (m0,s0 n) (by simp);have e:(s0 n).bl.length=n:=by unfold s0;simp
 have h3:=h2.2.1.bn;have h4:=h2.2.2;rw[e] at h3;dsimp only at h4;rw[e] at h4;exact⟨h1.2.1,h4,h3⟩
theorem Hw.fits(h:Hw g d n r p q u a b m0 c0 H U):∀dd∈H.map Ent.dd,dd.fit:=λdd hd=>by
 obtain⟨t,ht,rfl⟩:=aS.mp hd;exact jd.fit (BU h.ws.2.2) h.cH t.key (aS.mpr ⟨t,ht,rfl⟩)
theorem Hw.last(h:Hw g d n r p q u a b m0 c0 H U):∃l x c,.tup [.aQ,.ref c0]::H.map d6=l++[.tup [x,.ref c]]/\MD g c (q9 (s0 n) (H.map Ent.key))/\d<c:=by
 rcases fj H with rfl|⟨H',t,rfl⟩
 ·exact⟨[],.aQ,c0,rfl,h.mz,h.lo c0 (.inr (.inr (.inr (.inl ⟨aj _,by omega⟩))))⟩
 ·refine⟨.tup [.aQ,.ref c0]::H'.map d6,t.dd.d,t.mo,by simp[d6],?_,h.lo _ (.inr (.inr (.inr (.inr ⟨t,by simp,aj _,by omega⟩))))⟩;rw[fk,az,eU,Dk];exact h.mo t (by simp)
theorem Hw.back{t:Ent}(h:Hw g d n r p q u a b m0 c0 (H++[t]) U)(F:Fr (λx=>x=p\/x=q\/x=u) g g')(L:Led g' r p q u ((m0,s0 n)::H.map λt=>(t.mi,t.st)) (H.map Ent.dd) ((U++[t]).map Ent.dd)) :
  Hw ((g'.set a (.lst (.tup [.aQ,.ref c0]::H.map d6))).set b (.lst (U.map d6++[d6 t]))) d n r p q u a b m0 c0 H (U++[t]):=by
 have qK:=F.at (by have:=h.al;omega) h.la;have qJ:=F.at (by have:=h.bl;omega) h.lb;have F2:Fr (Vs r p q u a b) g ((g'.set a (.lst (.tup [.aQ,.ref c0]::H.map d6))).set b (.lst (U.map d6++[d6 t]))):=by
  refine Fr.trans ?_ ((fM (.inr (.inr (.inr (.inr (.inl rfl)))))).trans (fM (.inr (.inr (.inr (.inr (.inr rfl)))))));exact⟨F.len,λi hi hl=>F.old i (λz=>hi (by rcases z with z|z|z;exact .inr (.inl z);exact .inr (.inr (.inl z));exact .inr (.inr (.inr (.inl z))))) hl⟩
 have na:∀{x:Nat} {ms:List (Nat×cg)} {ds us:List Dd} {o:O},Led g' r p q u ms ds us->wH r p q u ms x->g'[x]?=some o->x≠a/\x≠b:=λ{x ms ds us o} L hx e=>by
  rcases hx with rfl|rfl|rfl|rfl|⟨t,ht,rfl⟩
  ·exact⟨λz=>(by have:=L.ob;rw[z,qK] at this;cases this),λz=>(by have:=L.ob;rw[z,qJ] at this;cases this)⟩
  ·exact⟨aL h.al.1,aL h.bl.1⟩
  ·exact⟨aL h.al.2.1,aL h.bl.2.1⟩
  ·exact⟨aL h.al.2.2,aL h.bl.2.2⟩
  ·have e1:=(L.st t ht).1;exact⟨λz=>(by rw[z,qK] at e1;cases e1),λz=>(by rw[z,qJ] at e1;cases e1)⟩
 refine⟨L.keep λx o hx e=>a8 (a8 e (aL (na L hx e).1)) (aL (na L hx e).2),a8 (get_set qK) (aL h.ab),?_,λy hy=>(h.mo y (by simp at hy ⊢;rcases hy with z|z|z<;>simp[z])).jS F2 (h.sm y (by simp at hy ⊢;rcases hy with z|z|z<;>simp[z])),h.mz.jS F2 h.sz,?_,h.ab,h.al,h.bl,λy hy=>h.sm y (by simp at hy ⊢;rcases hy with z|z|z<;>simp[z]),h.sz,λx hx=>h.lo x ?_⟩
 ·rw[az];exact get_set (a8 qJ h.ab)
 ·have:=h.ch;simpa using this
 ·rcases hx with z|z|⟨y,hy,z⟩|z|⟨y,hy,z⟩
  ·exact .inl z
  ·exact .inr (.inl z)
  ·exact .inr (.inr (.inl ⟨y,by simp[hy],z⟩))
  ·exact .inr (.inr (.inr (.inl z)))
  ·exact .inr (.inr (.inr (.inr ⟨y,by simp at hy ⊢;rcases hy with w|w|w<;>simp[w],z⟩)))
theorem Hw.again{t:Ent}(h:Hw g d n r p q u a b m0 c0 H (U++[t]))(F:Fr (λx=>x=p\/x=q\/x=u) g g')(L:Led g' r p q u ((m0,s0 n)::(H++[{ t with mi:=g.length }]).map λ(t:Ent)=>(t.mi,t.st)) ((H++[t]).map Ent.dd) (U.map Ent.dd)) :
  Hw ((g'.set b (.lst (U.map d6))).set a (.lst (.tup [.aQ,.ref c0]::H.map d6++[d6 t]))) d n r p q u a b m0 c0 (H++[{ t with mi:=g.length }]) U:=by
 have qK:=F.at (by have:=h.al;omega) h.la;have qJ:=F.at (by have:=h.bl;omega) h.lb;have F2:Fr (Vs r p q u a b) g ((g'.set b (.lst (U.map d6))).set a (.lst (.tup [.aQ,.ref c0]::H.map d6++[d6 t]))):=by
  refine Fr.trans ?_ ((fM (.inr (.inr (.inr (.inr (.inr rfl)))))).trans (fM (.inr (.inr (.inr (.inr (.inl rfl)))))));exact⟨F.len,λi hi hl=>F.old i (λz=>hi (by rcases z with z|z|z;exact .inr (.inl z);exact .inr (.inr (.inl z));exact .inr (.inr (.inr (.inl z))))) hl⟩
 have na:∀{x:Nat} {ms:List (Nat×cg)} {ds us:List Dd} {o:O},Led g' r p q u ms ds us->wH r p q u ms x->g'[x]?=some o->x≠a/\x≠b:=λ{x ms ds us o} L hx e=>by
  rcases hx with rfl|rfl|rfl|rfl|⟨t,ht,rfl⟩
  ·exact⟨λz=>(by have:=L.ob;rw[z,qK] at this;cases this),λz=>(by have:=L.ob;rw[z,qJ] at this;cases this)⟩
  ·exact⟨aL h.al.1,aL h.bl.1⟩
  ·exact⟨aL h.al.2.1,aL h.bl.2.1⟩
  ·exact⟨aL h.al.2.2,aL h.bl.2.2⟩
  ·have e1:=(L.st t ht).1;exact⟨λz=>(by rw[z,qK] at e1;cases e1),λz=>(by rw[z,qJ] at e1;cases e1)⟩
 have L':Led g' r p q u ((m0,s0 n)::(H++[{ t with mi:=g.length }]).map λ(t:Ent)=>(t.mi,t.st)) ((H++[{ t with mi:=g.length }]).map Ent.dd) (U.map Ent.dd):=by
  rw[az (f:=Ent.dd)] at L ⊢;exact L
 have cs:∀y∈H++[{ t with mi:=g.length }]++U,∃z∈H++(U++[t]),z.mo=y.mo/\z.st=y.st/\(y∈H->z=y):=λy hy=>by
  simp at hy;rcases hy with w|rfl|w
  ·exact⟨y,by simp[w],rfl,rfl,λ_=>rfl⟩
  ·by_cases c:({ t with mi:=g.length }:Ent)∈H
   ·exact⟨_,by simp[c],rfl,rfl,λ_=>rfl⟩
   ·exact⟨t,by simp,rfl,rfl,λz=>absurd z c⟩
  ·exact⟨y,by simp[w],rfl,rfl,λ_=>rfl⟩
 refine⟨L'.keep λx o hx e=>a8 (a8 e (aL (na L' hx e).2)) (aL (na L' hx e).1),?_,a8 (get_set qJ) h.ab,λy hy=>?_,h.mz.jS F2 h.sz,?_,h.ab,h.al,h.bl,λy hy=>?_,h.sz,λx hx=>?_⟩
 ·have:=get_set (o':=O.lst (.tup [.aQ,.ref c0]::H.map d6++[d6 t])) (a8 (o':=O.lst (U.map d6)) qK (aL h.ab));rw[this];simp[d6]
 ·obtain⟨z,hz,e1,e2,_⟩:=cs y hy;rw[<- e1,<- e2];exact(h.mo z hz).jS F2 (h.sm z hz)
 ·have:=h.ch;simpa[Ent.key] using this
 ·obtain⟨z,hz,e1,e2,_⟩:=cs y hy;rw[<- e1];exact h.sm z hz
 ·have dl:d<g.length:=by
   have:=h.lo a (.inl (.inr (.inr (.inr (.inr (.inl rfl))))));have:=c7 h.la;omega
  rcases hx with z|z|⟨y,hy,z⟩|z|⟨y,hy,z⟩
  ·exact h.lo x (.inl z)
  ·exact h.lo x (.inr (.inl z))
  ·rcases bN.mp hy with hy|hy
   ·exact h.lo x (.inr (.inr (.inl ⟨y,hy,z⟩)))
   ·cases cz.mp hy;dsimp only at z;omega
  ·exact h.lo x (.inr (.inr (.inr (.inl z))))
  ·obtain⟨y',uY,e1,e2,_⟩:=cs y hy;rw[<- e1] at z;exact h.lo x (.inr (.inr (.inr (.inr ⟨y',uY,z⟩))))
end
def J5:aY:=⟨2,2,(.seq (.S3 (.seq (.ret (.ite (.eQ aK) (.bp "again" [("Ledger",247)] aD .nil) (.bp "back" [("Ledger",246)] aD .nil))) .pass) [("Nothing",(.lit .aQ))]) .pass)⟩
def yz:aY:=⟨2,4,(.seq (.set 2 (bJ .lst (bB (.bin .Add) (bt "mint ") (bJ .str aD)))) (.seq (.fS (.one 3) (.iN aK) (.seq (.expr (.cQ .append bu (df (.cQ .join (bt " ") (df (.comp [] 2 (.one 1) (.iN cN) .no (.ite (.eQ (bB .isin aK (.lit (.ty "str")))) aK (bJ .str aK)))))))) .pass)) (.seq (.ret (.cQ .join (bt "\n") (df bu))) .pass)))⟩
def DD:aY:=⟨4,11,(.seq (.set 4 (.call 4 (dB aD (bc 7)))) (.seq (.ifs (cR .Lt eV (bc 2)) (.seq (.nR (.many [5,6]) (.ite (cR .Eq eV (bc 0)) (bB .tup bu cN) (bB .tup cN bu))) (.seq (.set 7 (.call 256 (dB aK (bB (.cmp .Eq) eV (bc 1))))) (.seq (.ifs (cR .Lt (bJ .len kZ) (bB (.bin .Add) (bc 1) (bJ .int (bB (.cmp .Eq) eV (bc 0))))) (.seq (.ret (bB (.cmp .Is) iW (.lit .aQ))) .pass) .pass) (.seq (.expr (.cQ .append jm (df (.cQ .jk kZ .nil)))) (.seq (.ret (.call 7 (dB iW (bw (bw jm (bJ (.un .USub) (bc 1))) (bc 0))))) .pass))))) .pass) (.seq (.set 8 (.call 192 (df (bw (bw bu (bJ (.un .USub) (bc 1))) (bc 1))))) (.seq (.set 9 (.call 188 (dB aD mw))) (.seq (.set 10 (.call 183 (dB mw qL))) (.seq (.ifs (cR .Eq (bw pC (bc 0)) (bt "")) (.seq (.expr (.cQ .append bu (df (bB .tup qL mw)))) (.seq (.expr (.cQ .clear cN .nil)) .pass)) .pass) (.seq (.ret (.call 191 (dB (.call 240 (dB aK qL)) pC))) .pass)))))))⟩
def Cu:aY:=⟨2,2,(.seq (.ifs (.cJ (.eQ (.call 7 (dB (.bp "deeds" [("Ledger",248)] aD .nil) (.comp [] 3 (.many [1,2]) (.iN (bB (.jF true false) aK (bc 1))) .no aK))))) (.seq (.ret (.lit (.bl false))) .pass) .pass) (.seq (.ifs (.cJ (.eQ (.call 7 (dB (.bp "text" [("Ledger",250)] aD .nil) (.call 257 (dB (bJ .len (bw (bw (bw aK (bc 0)) (bc 1)) (bt "seats"))) (.bp "deeds" [("Ledger",248)] aD .nil))))))) (.seq (.ret (.lit (.bl false))) .pass) .pass) (.seq (.ret (.call 47 (dB (.bp "mint" [("Ledger",249)] aD .nil) (bw (bw aK (bJ (.un .USub) (bc 1))) (bc 1))))) .pass)))⟩
def rR:aY:=⟨1,10,(.seq (.set 1 (.call 3 (df aD))) (.seq (.set 2 (bB (.bin .Add) (bc 1) (.call 4 (dB aK (bc 3))))) (.seq (.set 3 (bJ .lst (.make "Ledger" 243 (df bu)))) (.seq (.set 4 (bJ .lst (bB .tup (bJ .lst (bB .tup (.lit .aQ) (.call 45 (df bu)))) (.prim .lst .nil)))) (.seq (.fS (.one 5) (.fP (bB (.bin .Add) (bc 4) (.call 4 (dB aK (bc 11))))) (.seq (.ifs (.cJ (.eQ (.call 233 (sj aK (bw cN (bc 0)) (bw (bw eV (bc 0)) (bc 0)) (bw (bw eV (bc 0)) (bc 1)))))) (.seq (.ret (.lit (.bl false))) .pass) .pass) .pass)) (.seq (.expr (.cQ .append cN (df (.bp "twin" [("Mint",68),("Ledger",251)] (bw cN (bc 0)) .nil)))) (.seq (.expr (.cQ .append eV (df (bB .tup (bJ .list (bw (bw eV (bc 0)) (bc 0))) (bJ .list (bw (bw eV (bc 0)) (bc 1))))))) (.seq (.fS (.one 5) (.fP (bB (.bin .Add) (bc 5) (.call 4 (dB aK (bc 16))))) (.seq (.set 6 (.call 4 (dB aK (bc 2)))) (.seq (.ifs (.cJ (.eQ (.call 233 (sj aK (bw cN jm) (bw (bw eV jm) (bc 0)) (bw (bw eV jm) (bc 1)))))) (.seq (.ret (.lit (.bl false))) .pass) .pass) (.seq (.expr (.call 186 (dB (.bp "mint" [("Ledger",249)] (bw cN jm) .nil) (.call 188 (dB aK (.call 192 (df (bw (bw (bw (bw eV jm) (bc 0)) (bJ (.un .USub) (bc 1))) (bc 1))))))))) (.seq (.ifs (.cJ (.eQ (bJ .all (.comp [3,4] 4 (.one 3) (.fP (bc 2)) .no (.call 258 (dB (bw aD cN) (bw (bw aK cN) (bc 0)))))))) (.seq (.ret (.lit (.bl false))) .pass) .pass) .pass))))) (.seq (.fS (.one 7) (.fP (bc 2)) (.seq (.fS (.many [8,9]) (.iN (bJ .rev (bB (.jF true false) (bw (bw eV iW) (bc 0)) (bc 1)))) (.seq (.ifs (.cJ (.eQ (.call 7 (dB (.call 256 (dB (bw cN iW) (.lit (.bl false)))) mw)))) (.seq (.ret (.lit (.bl false))) .pass) .pass) .pass)) (.seq (.ifs (cR .IsNot (.call 256 (dB (bw cN iW) (.lit (.bl false)))) (.lit .aQ)) (.seq (.ret (.lit (.bl false))) .pass) .pass) .pass))) (.seq (.ret (bJ .all (.comp [4] 3 (.one 2) (.iN cN) .no (.call 47 (dB (.bp "mint" [("Ledger",249)] bu .nil) (bw (bw (bw (bw aD (bc 0)) (bc 0)) (bc 0)) (bc 1))))))) .pass))))))))))⟩
structure nF(T:Nat->Option aY):Prop where
 tr:TR T
 tv:TV T
 tl:TL T
 h3:T 3=some yx
 h6:T 6=some rS
 h7:T 7=some A5
 NY:T 11=some rR
 Bj:T 45=some yJ
 xY:T 47=some O3
 sW:T 67=some K7
 mJ:T 184=some N6
 rj:T 186=some zj
 oB:T 191=some zk
 oA:T 192=some Z1
 Bu:T 233=some DD
 oz:T 240=some Q7
 lC:T 246=some C5
 lB:T 247=some B0
 rh:T 250=some O4
 Bm:T 251=some X7
 oy:T 256=some J5
 rg:T 257=some yz
 Bl:T 258=some Cu
def HC(r p q u a b m0 c0:Nat)(H U:List Ent)(x:Nat):Prop:=Vs r p q u a b x\/x=m0\/(∃t∈H,x=t.mi)\/(c0<=x/\x<c0+7)\/(∃t∈H++U,t.mo<=x/\x<t.mo+7)
section
variable{T:Nat->Option aY}{k d:Nat}{g g' g1 g2 g3 g4 g5:G}{Q:KD}{E:KX}{n r p q u a b m0 c0:Nat}{s s':cg}{dd:Dd}{H U:List Ent}
theorem Hw.lt(h:Hw g d n r p q u a b m0 c0 H U){x:Nat}(hx:HC r p q u a b m0 c0 H U x):x<g.length:=by
 rcases hx with(z|z|z|z|z|z)|z|⟨t,ht,z⟩|z|⟨t,ht,z⟩
 ·subst z;exact c7 h.L.ob
 ·subst z;exact c7 h.L.mi
 ·subst z;exact c7 h.L.dn
 ·subst z;exact c7 h.L.ud
 ·subst z;exact c7 h.la
 ·subst z;exact c7 h.lb
 ·rw[z];exact c7 (h.L.st (m0,s0 n) (by simp)).1
 ·subst z;exact c7 (h.L.st (t.mi,t.st) (br _ (aS.mpr ⟨t,ht,rfl⟩))).1
 ·have:=c7 h.mz.cD;omega
 ·have:=c7 (h.mo t ht).cD;omega
theorem Hw.wm{S:Nat->Prop}(h:Hw g d n r p q u a b m0 c0 H U)(F:Fr S g g')(hS:∀x,HC r p q u a b m0 c0 H U x->¬S x):Hw g' d n r p q u a b m0 c0 H U:=by
 refine⟨h.L.keep λx o hx e=>F.at (hS x ?_) e,F.at (hS a (.inl (.inr (.inr (.inr (.inr (.inl rfl))))))) h.la,F.at (hS b (.inl (.inr (.inr (.inr (.inr (.inr rfl))))))) h.lb,λt ht=>(h.mo t ht).jS F λx h1 h2=>hS x (.inr (.inr (.inr (.inr ⟨t,ht,h1,h2⟩)))),h.mz.jS F λx h1 h2=>hS x (.inr (.inr (.inr (.inl ⟨h1,h2⟩)))),h.ch,h.ab,h.al,h.bl,h.sm,h.sz,h.lo⟩;rcases hx with z|z|z|z|⟨t,ht,rfl⟩
 ·exact .inl (.inl z)
 ·exact .inl (.inr (.inl z))
 ·exact .inl (.inr (.inr (.inl z)))
 ·exact .inl (.inr (.inr (.inr (.inl z))))
 ·rcases aI.mp ht with rfl|ht
  ·exact .inr (.inl rfl)
  ·obtain⟨y,hy,rfl⟩:=aS.mp ht;exact .inr (.inr (.inl ⟨y,hy,rfl⟩))
structure iS(g g':G)(d n r p q u a b m0 c0:Nat)(H U:List Ent)(u':Nat)(H' U':List Ent):Prop where
 dr:f7 g' d
 hw:Hw g' d n r p q u' a b m0 c0 H' U'
 fr:Fr (λx=>x=d\/Vs r p q u a b x) g g'
 hc:∀x,HC r p q u' a b m0 c0 H' U' x->HC r p q u a b m0 c0 H U x\/g.length<=x
 vs:∀x,Vs r p q u' a b x->Vs r p q u a b x\/g.length<=x
 l1:H'.length<=H.length+1
 l2:U'.length<=U.length+1
theorem iS.gr{u':Nat}{H' U':List Ent}(G1:Gr d g g1)(h:iS g1 g' d n r p q u a b m0 c0 H U u' H' U'):iS g g' d n r p q u a b m0 c0 H U u' H' U':=by
 have:=G1.len;exact⟨h.dr,h.hw,Fr.trans ⟨G1.len,λi hi hl=>G1.old i (λz=>hi (.inl z)) hl⟩ h.fr,λx hx=>(h.hc x hx).imp id (by omega),λx hx=>(h.vs x hx).imp id (by omega),h.l1,h.l2⟩
theorem iS.ex{u':Nat}{H' U':List Ent}(h:iS g g1 d n r p q u a b m0 c0 H U u' H' U')(e:Ex g1 g'):iS g g' d n r p q u a b m0 c0 H U u' H' U':=⟨e.draw h.dr,h.hw.ex e,h.fr.trans (.ex e),h.hc,h.vs,h.l1,h.l2⟩
theorem iS.Q2(h:Hw g d n r p q u a b m0 c0 H U)(D:f7 g d):iS g g d n r p q u a b m0 c0 H U u H U:=⟨D,h,⟨aj _,λ_ _ _=>rfl⟩,λx hx=>.inl hx,λx hx=>.inl hx,by omega,by omega⟩
theorem iS.back{t:Ent}(h:Hw g d n r p q u a b m0 c0 (H++[t]) U)(D:f7 g d)(F:Fr (λx=>x=p\/x=q\/x=u) g g')(L:Led g' r p q u ((m0,s0 n)::H.map λt=>(t.mi,t.st)) (H.map Ent.dd) ((U++[t]).map Ent.dd)) :
  iS g ((g'.set a (.lst (.tup [.aQ,.ref c0]::H.map d6))).set b (.lst (U.map d6++[d6 t]))) d n r p q u a b m0 c0 (H++[t]) U u H (U++[t]):=by
 have da:=h.lo a (.inl (.inr (.inr (.inr (.inr (.inl rfl))))));have db:=h.lo b (.inl (.inr (.inr (.inr (.inr (.inr rfl))))));have h1:=h.lo p (.inl (.inr (.inl rfl)));have h2:=h.lo q (.inl (.inr (.inr (.inl rfl))));have h3:=h.lo u (.inl (.inr (.inr (.inr (.inl rfl)))));refine⟨((D.jS F (by omega)).pX (by omega)).pX (by omega),h.back F L,?_,λx hx=>.inl ?_,λx hx=>.inl hx,by simp;omega,by simp⟩
 ·refine Fr.trans ⟨F.len,λi hi hl=>F.old i (λz=>hi (.inr ?_)) hl⟩ ((fM (.inr (.inr (.inr (.inr (.inr (.inl rfl))))))).trans (fM (.inr (.inr (.inr (.inr (.inr (.inr rfl))))))));rcases z with z|z|z
  ·exact .inr (.inl z)
  ·exact .inr (.inr (.inl z))
  ·exact .inr (.inr (.inr (.inl z)))
 ·rcases hx with z|z|⟨y,hy,z⟩|z|⟨y,hy,z⟩
  ·exact .inl z
  ·exact .inr (.inl z)
  ·exact .inr (.inr (.inl ⟨y,by simp[hy],z⟩))
  ·exact .inr (.inr (.inr (.inl z)))
  ·exact .inr (.inr (.inr (.inr ⟨y,by simp at hy ⊢;rcases hy with w|w|w<;>simp[w],z⟩)))
theorem iS.again{t:Ent}(h:Hw g d n r p q u a b m0 c0 H (U++[t]))(D:f7 g d)(F:Fr (λx=>x=p\/x=q\/x=u) g g')(L:Led g' r p q u ((m0,s0 n)::(H++[{ t with mi:=g.length }]).map λ(t:Ent)=>(t.mi,t.st)) ((H++[t]).map Ent.dd) (U.map Ent.dd)) :
  iS g ((g'.set b (.lst (U.map d6))).set a (.lst (.tup [.aQ,.ref c0]::H.map d6++[d6 t]))) d n r p q u a b m0 c0 H (U++[t]) u (H++[{ t with mi:=g.length }]) U:=by
 have da:=h.lo a (.inl (.inr (.inr (.inr (.inr (.inl rfl))))));have db:=h.lo b (.inl (.inr (.inr (.inr (.inr (.inr rfl))))));have h1:=h.lo p (.inl (.inr (.inl rfl)));have h2:=h.lo q (.inl (.inr (.inr (.inl rfl))));have h3:=h.lo u (.inl (.inr (.inr (.inr (.inl rfl)))));refine⟨((D.jS F (by omega)).pX (by omega)).pX (by omega),h.again F L,?_,λx hx=>?_,λx hx=>.inl hx,by simp,by simp;omega⟩
 ·refine Fr.trans ⟨F.len,λi hi hl=>F.old i (λz=>hi (.inr ?_)) hl⟩ ((fM (.inr (.inr (.inr (.inr (.inr (.inr rfl))))))).trans (fM (.inr (.inr (.inr (.inr (.inr (.inl rfl))))))));rcases z with z|z|z
  ·exact .inr (.inl z)
  ·exact .inr (.inr (.inl z))
  ·exact .inr (.inr (.inr (.inl z)))
 ·rcases hx with z|z|⟨y,hy,z⟩|z|⟨y,hy,z⟩
  ·exact .inl (.inl z)
  ·exact .inl (.inr (.inl z))
  ·rcases bN.mp hy with hy|hy
   ·exact .inl (.inr (.inr (.inl ⟨y,hy,z⟩)))
   ·cases cz.mp hy;exact .inr (by dsimp only at z;omega)
  ·exact .inl (.inr (.inr (.inr (.inl z))))
  ·simp at hy;rcases hy with hy|rfl|hy
   ·exact .inl (.inr (.inr (.inr (.inr ⟨y,by simp[hy],z⟩))))
   ·exact .inl (.inr (.inr (.inr (.inr ⟨t,by simp,z⟩))))
   ·exact .inl (.inr (.inr (.inr (.inr ⟨y,by simp[hy],z⟩))))
theorem iS.Ot(h:Hw g d n r p q u a b m0 c0 H U)(D3:f7 g3 d){c u':Nat}(F3:Fr (λx=>x=d) g g3)(hc:g.length<=c)(M3:MD g3 c s')(F6:Fr (λx=>x=p\/x=q\/x=r) ((g3.set a (.lst (.tup [.aQ,.ref c0]::H.map d6++[.tup [dd.d,.ref c]]))).set b (.lst [])) g4)(hu:g3.length<u')(L4:Led g4 r p q u' ((m0,s0 n)::(H.map λt=>(t.mi,t.st))++[(g3.length,s')]) (H.map Ent.dd++[dd]) [])(ok:dd.ok)(e1:(dR (q9 (s0 n) (H.map Ent.key)) dd).1="")(e2:(dR (q9 (s0 n) (H.map Ent.key)) dd).2.2=s') :
  iS g g4 d n r p q u a b m0 c0 H U u' (H++[⟨dd,g3.length,c,s'⟩]) []:=by
 have cl:=c7 M3.cD;have al:=c7 h.la;have bl:=c7 h.lb;have f3:=F3.len;have f6:=F6.len;rw[cS,cS] at f6;have ud:=c7 L4.ud;have vr:=c7 h.L.ob;have vp:=c7 h.L.mi;have vq:=c7 h.L.dn;have da:d<a:=h.lo a (.inl (.inr (.inr (.inr (.inr (.inl rfl))))));have db:d<b:=h.lo b (.inl (.inr (.inr (.inr (.inr (.inr rfl))))));have hr:=h.lo r (.inl (.inl rfl));have hp:=h.lo p (.inl (.inr (.inl rfl)));have hq:=h.lo q (.inl (.inr (.inr (.inl rfl))));have nra:a≠r:=λz=>by have:=h.L.ob;rw[<- z,h.la] at this;cases this
 have nrb:b≠r:=λz=>by have:=h.L.ob;rw[<- z,h.lb] at this;cases this
 have FI:=h.al;have FG:=h.bl;have qY:=h.ab;have a3:=F3.at (i:=a) (by omega) h.la;have b3:=F3.at (i:=b) (by omega) h.lb;have a4:g4[a]?=some (.lst (.tup [.aQ,.ref c0]::H.map d6++[.tup [dd.d,.ref c]])):=F6.at (by omega) (a8 (get_set a3) (by omega));have b4:g4[b]?=some (.lst []):=F6.at (by omega) (get_set (a8 b3 qY));have F7:Fr (λx=>x=d \/ Vs r p q u a b x) g g4:=⟨by omega,λi hi hl=>by
  unfold Vs at hi;rw[F6.old i (by omega) (by simp;omega),aw (by omega),aw (by omega)];exact F3.old i (by omega) hl⟩
 have nv:∀x,x<g.length->¬Vs r p q u a b x->¬Vs r p q u' a b x:=λx hx hv z=>by
  unfold Vs at hv z;omega
 have M4:MD g4 c s':=by
  have F8:Fr (λx=>x=p \/ x=q \/ x=r \/ x=a \/ x=b) g3 g4:=⟨by omega,λi hi hl=>by
   rw [F6.old i (by omega) (by simp;omega),aw (by omega),aw (by omega)]⟩
  exact M3.jS F8 (by intro x h1 h2;omega)
 have uI:∀{y:Nat} {st:cg},MD g y st->(∀x,y<=x->x<y+7->¬Vs r p q u a b x)->d<y->MD g4 y st:=λ{y st} M hv hd=>M.jS F7 λx h1 h2 z=>by
  rcases z with z|z
  ·omega
  ·exact hv x h1 h2 z
 refine⟨(((D3.pX da).pX db).jS F6 (by omega)),⟨?_,?_,b4,λt ht=>?_,uI h.mz h.sz (h.lo c0 (.inr (.inr (.inr (.inl ⟨aj _,by omega⟩))))),?_,qY,⟨FI.1,FI.2.1,by omega⟩,⟨FG.1,FG.2.1,by omega⟩,λt ht x h1 h2=>?_,λx h1 h2=>nv x (by have:=c7 h.mz.cD;omega) (h.sz x h1 h2),λx hx=>?_⟩,F7,λx hx=>?_,λx hx=>?_,by simp,by simp⟩
 ·rw[az,az];exact L4
 ·rw[az];exact a4
 ·simp at ht;rcases ht with ht|rfl
  ·exact uI (h.mo t (by simp[ht])) (h.sm t (by simp[ht])) (h.lo _ (.inr (.inr (.inr (.inr ⟨t,by simp[ht],aj _,by omega⟩)))))
  ·exact M4
 ·rw[List.reverse_nil,eP,az,jd.app];exact⟨h.cH,⟨e1,e2,ok⟩,trivial⟩
 ·simp at ht;rcases ht with ht|rfl
  ·have:=c7 (h.mo t (by simp[ht])).cD;exact nv x (by omega) (h.sm t (by simp[ht]) x h1 h2)
  ·unfold Vs;dsimp only at h1 h2;omega
 ·rcases hx with z|z|⟨y,hy,z⟩|z|⟨y,hy,z⟩
  ·unfold Vs at z;omega
  ·exact h.lo x (.inr (.inl z))
  ·rcases bN.mp hy with hy|hy
   ·exact h.lo x (.inr (.inr (.inl ⟨y,hy,z⟩)))
   ·cases cz.mp hy;dsimp only at z;omega
  ·exact h.lo x (.inr (.inr (.inr (.inl z))))
  ·simp at hy;rcases hy with hy|rfl
   ·exact h.lo x (.inr (.inr (.inr (.inr ⟨y,by simp[hy],z⟩))))
   ·dsimp only at z;omega
 ·rcases hx with z|z|⟨y,hy,z⟩|z|⟨y,hy,z⟩
  ·unfold Vs at z;rcases z with z|z|z|z|z|z
   ·exact .inl (.inl (.inl z))
   ·exact .inl (.inl (.inr (.inl z)))
   ·exact .inl (.inl (.inr (.inr (.inl z))))
   ·exact .inr (by omega)
   ·exact .inl (.inl (.inr (.inr (.inr (.inr (.inl z))))))
   ·exact .inl (.inl (.inr (.inr (.inr (.inr (.inr z))))))
  ·exact .inl (.inr (.inl z))
  ·rcases bN.mp hy with hy|hy
   ·exact .inl (.inr (.inr (.inl ⟨y,hy,z⟩)))
   ·cases cz.mp hy;exact .inr (by dsimp only at z;omega)
  ·exact .inl (.inr (.inr (.inr (.inl z))))
  ·simp at hy;rcases hy with hy|rfl
   ·exact .inl (.inr (.inr (.inr (.inr ⟨y,by simp[hy],z⟩))))
   ·exact .inr (by dsimp only at z;omega)
 ·unfold Vs at hx ⊢;omega
theorem a90(rg:T 257=some yz){e:Nat}{ds:List Dd}(he:g[e]?=some (.lst (ds.map Dd.d)))(hn:n<=9)(hf:∀dd∈ds,dd.fit)(hz:ds.length<=1000)(h:∀g',Ex g g'->Q (.str (Hj n ds)) g'):a9 T (k+1) 257 [.int n,.ref e] g Q E:=by
 refine call_of rg rfl ?_;dsimp[yz,b5,List.replicate];walk_at"";refine DJ (av (wN (by omega)) (by decide)) ?_;have h6:(Str.ofString (toString (n:Int))).length<=15:=Ed (by omega);have h5:("mint ":Str).length=5:=by decide +kernel
 refine UZ (by rw[h5];omega) ?_;walk_at"";have x2:Ex g (g++[.lst [.str ("mint "++nT n)]]):=Ex.snoc _ _;have b2:(g++[.lst [.str ("mint "++nT n)]])[g.length]?=some (.lst [.str ("mint "++nT n)]):=b9;generalize g++[.lst [.str ("mint "++nT n)]]=g2 at *;refine Q4 (c8 T _) (og (c8 T _) ?_);walk_at"";refine⟨e,_,rfl,a7 (x2.at he),ds.map Dd.d,λi σ g'=>∃z,σ=[some (.int n),some (.ref e),some (.ref g.length),z]/\Ex g g'/\g'[g.length]?=some (.lst (.str ("mint "++nT n)::((ds.take i).map S9).map .str)),λi σ g' p=>K8 (a7 (p.choose_spec.2.1.at he)),⟨none,rfl,x2,b2⟩,λi y σ g' hy p=>?_,λσ g' p=>?_⟩
 ·obtain⟨z,rfl,x3,b3⟩:=p;rw[aE,ae] at hy;obtain⟨dd,hd,rfl⟩:=hy;refine s9 ?_
  try show wpS _ _ _ _ _ _
  walk_at""
  try refine⟨A4 b3,?_⟩
  try refine xa ?_
  refine Jj (k:=k) (hf dd (aH hd)) (λh=>w_var rfl h) (λ{x w Q} hx hq=>?_) ?_
  ·walk_at"";rcases hx with⟨y,rfl,_⟩|⟨j,rfl,hj⟩
   ·refine fV (b:=true) (by simp) rfl ?_;walk_at"";exact hq
   ·refine fV (b:=false) (by simp) rfl ?_;walk_at"";exact DJ (av (wN hj) (by decide)) hq
  ·walk_at"";refine E4 (C7 b3) (by simp;omega) ?_;walk_at"";refine⟨_,rfl,Fr.yn (x3.trans (Ex.snoc _ _)) (aj _),?_⟩;rw[get_set (C7 b3),fb,hd];simp
 ·obtain⟨z,rfl,x3,b3⟩:=p;rw[ak,dk] at b3
  try show wpS _ _ _ _ _ _
  walk_at"";refine⟨Ec,?_⟩;walk_at"";refine D' (ys:=("mint "++nT n)::ds.map S9) (a7 b3) (text_len hn hf hz) ?_;walk_at"";exact h _ x3
theorem Kd(hT:nF T){t:Nat×cg}{ms:List (Nat×cg)}{ds us:List Dd}(h0:Led g r p q u (ms++[t]) (ds++[dd]) us)(hz:us.length<=5000)(h:∀g',Fr (λx=>x=p\/x=q\/x=u) g g'->Led g' r p q u ms ds (us++[dd])->Q dd.d g'):a9 T (k+2) 256 [.ref r,.bl false] g Q E:=by
 refine call_of hT.oy rfl ?_;dsimp[J5,b5,List.replicate];walk_at"";refine c9 h0.ob rfl rfl ?_;walk_at"";exact a94 (k:=k) hT.lC h0 hz h
theorem KL(hT:nF T){ms:List (Nat×cg)}{us:List Dd}(h0:Led g r p q u ms [] us)(h:Q .aQ g):a9 T (k+2) 256 [.ref r,.bl false] g Q E:=by
 refine call_of hT.oy rfl ?_;dsimp[J5,b5,List.replicate];walk_at"";refine c9 h0.ob rfl rfl ?_;walk_at"";refine Yl (k:=k) hT.lC h0 ?_;refine GQ rfl ?_;walk_at"";exact h
theorem a56(hT:nF T){m:Nat}{ms:List (Nat×cg)}{ds us:List Dd}(h0:Led g r p q u (ms++[(m,s)]) ds (us++[dd]))(hz:ms.length<5000/\ds.length<5000)(ok:dd.ok)(e:(dR s dd).1="")(h:∀g',Fr (λx=>x=p\/x=q\/x=u) g g'->Led g' r p q u (ms++[(m,s)]++[(g.length,(dR s dd).2.2)]) (ds++[dd]) us->Q dd.d g'):a9 T (k+9) 256 [.ref r,.bl true] g Q E:=by
 refine call_of hT.oy rfl ?_;dsimp[J5,b5,List.replicate];walk_at"";refine c9 h0.ob rfl rfl ?_;walk_at"";exact Yk (k:=k) hT.tl hT.tr.tq hT.lB h0 hz ok e h
theorem YT(hT:nF T){ms:List (Nat×cg)}{ds:List Dd}(h0:Led g r p q u ms ds [])(h:Q .aQ g):a9 T (k+2) 256 [.ref r,.bl true] g Q E:=by
 refine call_of hT.oy rfl ?_;dsimp[J5,b5,List.replicate];walk_at"";refine c9 h0.ob rfl rfl ?_;walk_at"";refine Zu (k:=k) hT.lB h0 ?_;refine GQ rfl ?_;walk_at"";exact h
theorem Jr(hT:nF T)(W:Hw g d n r p q u a b m0 c0 H U)(D0:f7 g d)(AE:H.length<=700)(AD:U.length<=700)(h:∀g' u' H' U',iS g g' d n r p q u a b m0 c0 H U u' H' U'->Q (.bl true) g'):a9 T (k+12) 233 [.ref d,.ref r,.ref a,.ref b] g Q E:=by
 refine call_of hT.Bu rfl ?_;dsimp[DD,b5,List.replicate];walk_at"";refine j5 hT.tv.h4 D0 (by decide) (by decide) λr1 g1 zV _ D1 G1=>?_;have W1:=W.gr G1;walk_at"";refine if2 (λcc=>?_) (λcc=>?_)
 ·walk_at"";refine if2 (λc1=>?_) (λc1=>?_)
  ·subst c1;walk_at"";rcases fj H with rfl|⟨H',t,rfl⟩
   ·refine KL (k:=k+9) hT W1.L ?_;walk_at""
    try refine k9 (a7 W1.la) ?_
    walk_at"";refine fJ (by simp) ?_;walk_at"";exact h _ _ _ _ ((iS.Q2 W1 D1).gr G1)
   ·rw[fk] at W1 AE h;have e1:(m0,s0 n)::((H'++[t]).map λt=>(t.mi,t.st))=((m0,s0 n)::H'.map λt=>(t.mi,t.st))++[(t.mi,t.st)]:=by simp
    have L1:=W1.L;rw[e1,az (f:=Ent.dd)] at L1;refine Kd (k:=k+9) hT (t:=(t.mi,t.st)) L1 (by simp;omega) λg2 F2 L2=>?_;have nj:=F2.at (by have:=W1.al;omega) W1.la;have qI:=F2.at (by have:=W1.bl;omega) W1.lb;rw[az (f:=d6),<- gU] at nj;have Mu:=a8 qI W1.ab (o':=O.lst (.tup [.aQ,.ref c0]::H'.map d6));have X2:=iS.back W1 D1 F2 (by rw[az (f:=Ent.dd)];exact L2);have Fh:=X2.hw.lb;rw[az] at Fh;walk_at""
    try refine k9 (a7 nj) ?_
    walk_at"";refine dG (by simp;omega) ?_;walk_at""
    try refine⟨A4 qI,?_⟩
    walk_at""
    try refine⟨Y7 nj,?_⟩
    walk_at"";refine wX nj ?_;walk_at"";refine E4 Mu (by simp;omega) ?_;walk_at"";refine j7 (a7 Fh) S0 ?_;refine tH (l:=[t.dd.d,.ref t.mo]) rfl ?_;walk_at"";exact j9 hT.h6 hT.h7 1 (k:=k+8) yY λg' e'=>h _ _ _ _ ((X2.ex e').gr G1)
  ·obtain rfl:r1=1:=by omega
   walk_at"";rcases fj U with rfl|⟨U',t,rfl⟩
   ·refine YT (k:=k+9) hT W1.L ?_;walk_at""
    try refine k9 (a7 W1.lb) ?_
    walk_at"";refine fJ (by simp) ?_;walk_at"";exact h _ _ _ _ ((iS.Q2 W1 D1).gr G1)
   ·rw[fk] at W1 AD h;obtain⟨ms,m,L1,hl,es⟩:=W1.pW;rw[az (f:=Ent.dd)] at L1;have ly:=W1.ch;rw[List.reverse_append,List.reverse_singleton,List.singleton_append,az,jd.app] at ly;obtain⟨⟨k1,k2,k3⟩,_⟩:=ly.2;refine a56 (k:=k+2) hT L1 (by simp;omega) k3 k1 λg2 F2 L2=>?_;rw[<- es] at L2;have nj:=F2.at (by have:=W1.al;omega) W1.la;have qI:=F2.at (by have:=W1.bl;omega) W1.lb;rw[az (f:=d6)] at qI;have Mv:=a8 nj (aL W1.ab) (o':=O.lst (U'.map d6));have X2:=iS.again W1 D1 F2 (by
     rw[az,az,eU,eU,<- gU];rw[show(dR (q9 (s0 n) (H.map Ent.key)) t.dd).2.2=t.st from k2] at L2;exact L2)
    have Fj:=X2.hw.la;rw[az,<- gU] at Fj;walk_at""
    try refine k9 (a7 qI) ?_
    walk_at"";refine dG (by simp;omega) ?_;walk_at""
    try refine⟨A4 nj,?_⟩
    walk_at""
    try refine⟨Y7 qI,?_⟩
    walk_at"";refine wX qI ?_;walk_at"";refine E4 Mv (by simp;omega) ?_;walk_at"";refine j7 (a7 Fj) S0 ?_;refine tH (l:=[t.dd.d,.ref t.mo]) rfl ?_;walk_at"";exact j9 hT.h6 hT.h7 1 (k:=k+8) yY λg' e'=>h _ _ _ _ ((X2.ex e').gr G1)
 ·obtain⟨l,x,c,el,M0,dc⟩:=W1.last;have la:=W1.la;rw[el] at la;have dl:=D1.lt;walk_at"";refine j7 (a7 la) S0 ?_;walk_at"";refine Jy (k:=k+10) hT.oA M0 λg2 e2 M2=>?_;have l2:=e2.len;have q2:=c7 M2.cD;walk_at"";refine JA (k:=k+6) hT.tv M2 W1.ws.1 (e2.draw D1) (by omega) λdd g3 ok D3 G3=>?_;have l3:=G3.len;walk_at"";refine QZ (k:=k+9) hT.tr (M2.gr G3 (by omega)) W1.ws.1 ok λg4 K4 M4=>?_;have l4:=K4.len;have F4:Fr (λx=>x=d) g1 g4:=⟨by omega,λi hi hl=>(K4.old i (.inl (by omega)) (by omega)).trans ((G3.old i hi (by omega)).trans (e2.old i hl))⟩
  have D4:f7 g4 d:=K4.draw (by omega) D3;have W4:=W1.fr F4 (λx z=>.inl (by omega));walk_at"";refine if2 (λe=>?_) (λe=>?_)
  ·have Fg:=a8 W4.lb W4.ab (o':=O.lst (.tup [.aQ,.ref c0]::H.map d6++[.tup [dd.d,.ref g1.length]]));obtain⟨ms,m,L4,hl,es⟩:=W4.pW;have L6:Led ((g4.set a (.lst (.tup [.aQ,.ref c0]::H.map d6++[.tup [dd.d,.ref g1.length]]))).set b (.lst [])) r p q u (ms++[(m,q9 (s0 n) (H.map Ent.key))]) (H.map Ent.dd) (U.map Ent.dd):=by
    refine L4.keep λx o hx e=>?_;have na:x≠a/\x≠b:=by
     rcases hx with rfl|rfl|rfl|rfl|⟨t,ht,rfl⟩
     ·exact⟨λz=>(by have:=L4.ob;rw[z,W4.la] at this;cases this),λz=>(by have:=L4.ob;rw[z,W4.lb] at this;cases this)⟩
     ·exact⟨aL W4.al.1,aL W4.bl.1⟩
     ·exact⟨aL W4.al.2.1,aL W4.bl.2.1⟩
     ·exact⟨aL W4.al.2.2,aL W4.bl.2.2⟩
     ·have e1:=(L4.st t ht).1;exact⟨λz=>(by rw[z,W4.la] at e1;cases e1),λz=>(by rw[z,W4.lb] at e1;cases e1)⟩
    exact a8 (a8 e (aL na.1)) (aL na.2)
   walk_at""
   try refine⟨A4 W4.la,?_⟩
   walk_at"";refine E4 W4.la (by simp;omega) ?_;walk_at""
   try refine⟨a83 Fg,?_⟩
   walk_at"";refine QY Fg ?_;walk_at"";refine IW (k:=k+2) hT.tl hT.tr.tq hT.oz L6 (by simp;omega) ok (λ_ g5 u' j F5 hu L5 f5 hj=>?_) (λz=>absurd e z);rw[cS,cS] at hu L5;rw[<- es] at L5;have X5:=iS.Ot W1 D4 F4 (aj _) M4 F5 hu L5 ok e rfl;walk_at"";exact Kc (k:=k+8) hT.h6 hT.h7 hT.oB f5 JB λg6 e6=>h _ _ _ _ ((X5.ex e6).gr G1)
  ·obtain⟨ms,m,L4,hl,es⟩:=W4.pW;walk_at"";refine IW (k:=k+2) hT.tl hT.tr.tq hT.oz L4 (by simp;omega) ok (λz=>absurd z e) (λ_ g5 j e5 f5 hj=>?_);walk_at"";refine Kc (k:=k+8) hT.h6 hT.h7 hT.oB f5 JB λg6 e6=>?_;have x6:=e5.trans e6;have X6:iS g1 g6 d n r p q u a b m0 c0 H U u H U:=⟨x6.draw D4,W4.ex x6,(Fr.trans ⟨F4.len,λi hi hl=>F4.old i (λz=>hi (.inl z)) hl⟩ (.ex x6)),λx hx=>.inl hx,λx hx=>.inl hx,by omega,by omega⟩
   exact h _ _ _ _ (X6.gr G1)
theorem SV{σ:S}{z:ME}(W:Hw g d n r p q u a b m0 c0 H U)(hl:H.length<=900)(hz:∀{g:G} {Q:KD},Q (.ref a) g->aX (a9 T k) z σ g Q E)(h:∀g' i,Ex g g'->g'[i]?=some (.lst ((H.map Ent.dd).map Dd.d))->Q (.ref i) g'):aX (a9 T k) (.comp [] 3 (.many [1,2]) (.iN (.prim (.jF true false) (.cons z (.cons (.lit (.int 1)) .nil)))) .no (.var 1)) σ g Q E:=by
 refine S2 (c8 T _) (og (c8 T _) ?_);refine rT ?_;refine hz ?_;walk_at"";refine Jm (a7 W.la) ?_;have ec:cut (D.tup [.aQ,.ref c0]::H.map d6) (some 1) none=H.map d6:=Dy (n:=1);rw[ec];refine⟨g.length,_,rfl,a7 b9,H.map d6,λi ys σ g'=>ys=(H.take i).map (λt=>t.dd.d)/\g'=g++[.lst (H.map d6)]/\∃z0 z1 z2,σ=[z0,z1,z2],by simp;omega,λi ys σ g' p=>?_,⟨rfl,rfl,none,none,none,rfl⟩,λi y ys σ g' hy p=>?_,λys σ g' p=>?_⟩
 ·obtain⟨rfl,rfl,_⟩:=p;exact⟨K8 (a7 b9),by simp;omega⟩
 ·obtain⟨rfl,rfl,z0,z1,z2,rfl⟩:=p;rw[aE,ae] at hy;obtain⟨t,ht,rfl⟩:=hy;refine ze rfl ?_
  try show dD _ _ _ _ _ _
  walk_at"";refine⟨?_,rfl,_,_,_,rfl⟩;rw[fb,ht];simp
 ·obtain⟨rfl,rfl,z0,z1,z2,rfl⟩:=p;refine h _ _ ((Ex.snoc _ _).trans (Ex.snoc _ _)) ?_;rw[ak,dk,uc];exact b9
theorem a41(hT:nF T)(W:Hw g d n r p q u a b m0 c0 H U)(hl:H.length<=900)(h:∀g',Ex g g'->Q (.bl true) g'):a9 T (k+8) 258 [.ref r,.ref a] g Q E:=by
 have ws:=W.ws;have bl:(q9 (s0 n) (H.map Ent.key)).bl.length=n:=by
  rw[W.cH.bl];unfold s0;simp
 refine call_of hT.Bl rfl ?_;dsimp[Cu,b5,List.replicate];walk_at"";refine c9 W.L.ob rfl rfl ?_;walk_at"";refine HZ (k:=k+6) hT.tl W.L ?_;have W1:=W.ex (Ex.snoc g (.lst ((H.map Ent.dd).map Dd.d)));walk_at"";refine SV (k:=k+7) W1 hl (λh=>w_var rfl h) λg2 i e2 h2=>?_;have W2:=W1.ex e2;walk_at"";refine j9 hT.h6 hT.h7 2 (k:=k+3) (Cs (e2.at b9) h2 (λx hx=>?_) (by simp;omega)) λg3 e3=>?_
 ·obtain⟨dd,_,rfl⟩:=aS.mp hx;exact yY
 have W3:=W2.ex e3;obtain⟨ms,m,L3,_,_⟩:=W3.pW;walk_at"";refine c9 L3.ob rfl rfl ?_;walk_at"";refine a93 (k:=k) hT.tl hT.tr.tq hT.rh L3 W.fits (by simp;omega) λg4 e4=>?_;rw[bl];have W4:=W3.ex e4;walk_at"";refine j7 (a7 W4.la) (d:=.tup [.aQ,.ref c0]) (show fW _ ((0:Nat):Int)=_ from o6 rfl) ?_;walk_at"";refine i8 W4.mz.bV rfl lh ?_;walk_at"";refine k9 (a7 W4.mz.cP) ?_;rw[show(s0 n).bl.length=n by unfold s0;simp];walk_at"";refine c9 W4.L.ob rfl rfl ?_;walk_at"";refine HZ (k:=k+6) hT.tl W4.L ?_;walk_at"";refine a90 (k:=k+6) hT.rg b9 ws.2.2 W.fits (by simp;omega) λg5 e5=>?_;have W5:=W4.ex ((Ex.snoc _ _).trans e5);walk_at"";refine j9 hT.h6 hT.h7 0 (k:=k+5) (.str _) λg6 e6=>?_;have W6:=W5.ex e6;obtain⟨ms6,m6,L6,_,_⟩:=W6.pW;obtain⟨l6,x6,c6,el,M6,_⟩:=W6.last;have Fi:=W6.la;rw[el] at Fi;walk_at"";refine c9 L6.ob rfl rfl ?_;walk_at"";refine N8 (k:=k+1) hT.tl hT.tr.tq L6 ?_;walk_at"";refine j7 (a7 (C7 Fi)) S0 ?_;walk_at"";refine IB (k:=k+1) hT.tr.tq hT.h6 hT.h7 hT.xY hT.sW b9 (M6.ex (Ex.snoc _ _)) ws.1 λg7 e7=>?_;exact h _ ((Ex.snoc _ _).trans (e2.trans (e3.trans (e4.trans ((Ex.snoc _ _).trans (e5.trans (e6.trans ((Ex.snoc _ _).trans e7))))))))
theorem a92(hT:nF T){m:Nat}{ms:List (Nat×cg)}{ds us:List Dd}(h0:Led g r p q u (ms++[(m,s)]) ds us)(h:∀g' r' p' q' u',Ex g g'->g.length<=r'->g.length<=p'->g.length<=q'->g.length<=u'->Led g' r' p' q' u' (ms++[(m,s)]) ds us->Q (.ref r') g'):a9 T (k+7) 251 [.ref r] g Q E:=by
 obtain⟨_,h2,h3⟩:=h0.st (m,s) (by simp);have bn:s.bl.length<=9:=h2.bn;have b1:1<=s.bl.length:=h3;refine call_of hT.Bm rfl ?_;dsimp[X7,b5,List.replicate];walk_at"";refine c9 h0.ob rfl rfl ?_;walk_at"";refine N8 (k:=k) hT.tl hT.tr.tq h0 ?_;walk_at"";refine c9 b9 rfl rfl ?_;walk_at"";refine Df (k:=k+5) hT.tr.tq b9 ?_;have x1:Ex g (g++[c5 s]++[.lst s.bl]):=(Ex.snoc _ _).trans (Ex.snoc _ _);have c1:(g++[c5 s]++[.lst s.bl])[(g++[c5 s]).length]?=some (.lst s.bl):=b9;generalize g++[c5 s]++[.lst s.bl]=g1 at *;walk_at"";refine Kw (k:=k+1) hT.tl hT.tr.tq.tm (λn e1 n1 n9=>?_) (λhv=>absurd ⟨by omega,by omega⟩ hv);refine⟨rfl,?_⟩;have x2:Ex g1 (g1++[A7 (g1.length+2) (g1.length+3) (g1.length+4),c5 (s0 n),.lst [.ref (g1.length+1)],.lst [],.lst []]):=⟨by simp,λi hi=>aA hi⟩
 have o2:(g1++[A7 (g1.length+2) (g1.length+3) (g1.length+4),c5 (s0 n),.lst [.ref (g1.length+1)],.lst [],.lst []])[g1.length]?=some (A7 (g1.length+2) (g1.length+3) (g1.length+4)):=by simp
 have FA:=x1.len;generalize g1++[A7 (g1.length+2) (g1.length+3) (g1.length+4),c5 (s0 n),.lst [.ref (g1.length+1)],.lst [],.lst []]=g2 at *;have L2:=h0.ex (x1.trans x2);have y2:=x1.trans x2;generalize g1.length+2=p2 at *;generalize g1.length+3=q2 at *;generalize g1.length+4=u2 at *;generalize g1.length=r2 at *;have rl:=c7 o2;have step:∀(g2:G) (pp qq uu:Nat) (l:List D),Ex g g2->g2[r2]?=some (A7 pp qq uu)->∀o:O,Ex g ((g2++[O.lst l]).set r2 o)/\((g2++[O.lst l]).set r2 o)[r2]?=some o/\((g2++[O.lst l]).set r2 o)[g2.length]?=some (.lst l)/\(∀x y,x<g2.length->x≠r2->g2[x]?=some y->((g2++[O.lst l]).set r2 o)[x]?=some y)/\((g2++[O.lst l]).set r2 o).length=g2.length+1:=λg2 pp qq uu l x o2 o=>by
  have rl:=c7 o2;exact⟨Fr.yn (x.trans (Ex.snoc _ _)) FA,get_set (C7 o2),a8 b9 (by omega),λx y hx hn e=>a8 (C7 e) (aL hn),by simp⟩
 walk_at"";refine j2 L2.ob rfl ?_;walk_at"";refine V1 (a7 L2.mi) ?_;walk_at"";refine o8 (C7 o2) (by simp) (by simp) ?_;rw[show(O.ins "Ledger" (q8 "mints" (.ref (List.length g2)) [("mints",.ref p2),("done",.ref q2),("undone",.ref u2)]))=A7 g2.length q2 u2 from rfl];obtain⟨x3,o3,p3,k3,l3⟩:=step g2 _ _ _ ((ms++[(m,s)]).map λt=>D.ref t.1) y2 o2 (A7 g2.length q2 u2);generalize (g2++[O.lst ((ms++[(m,s)]).map λt=>D.ref t.1)]).set r2 (A7 g2.length q2 u2)=g3 at *;have L3:=h0.ex x3;walk_at"";refine j2 L3.ob rfl ?_;walk_at"";refine V1 (a7 L3.dn) ?_;walk_at"";refine o8 (C7 o3) (by simp) (by simp) ?_;rw[show(O.ins "Ledger" (q8 "done" (.ref (List.length g3)) [("mints",.ref g2.length),("done",.ref q2),("undone",.ref u2)]))=A7 g2.length g3.length u2 from rfl];obtain⟨x4,o4,q4,k4,l4⟩:=step g3 _ _ _ (ds.map Dd.d) x3 o3 (A7 g2.length g3.length u2);generalize (g3++[O.lst (ds.map Dd.d)]).set r2 (A7 g2.length g3.length u2)=g4 at *;have L4:=h0.ex x4;walk_at"";refine j2 L4.ob rfl ?_;walk_at"";refine V1 (a7 L4.ud) ?_;walk_at"";refine o8 (C7 o4) (by simp) (by simp) ?_;rw[show(O.ins "Ledger" (q8 "undone" (.ref (List.length g4)) [("mints",.ref g2.length),("done",.ref g3.length),("undone",.ref u2)]))=A7 g2.length g3.length g4.length from rfl];obtain⟨x5,o5,u5,k5,l5⟩:=step g4 _ _ _ (us.map Dd.d) x4 o4 (A7 g2.length g3.length g4.length);generalize (g4++[O.lst (us.map Dd.d)]).set r2 (A7 g2.length g3.length g4.length)=g5 at *;walk_at"";have z2:=y2.len;refine h _ _ _ _ _ x5 FA (by omega) (by omega) (by omega) ⟨o5,k5 _ _ (by omega) (by omega) (k4 _ _ (by omega) (by omega) p3),k5 _ _ (by omega) (by omega) q4,u5,λt ht=>⟨x5.at (h0.st t ht).1,(h0.st t ht).2⟩,by omega,by omega,by omega⟩
end
structure Pm where
 r:Nat
 p:Nat
 q:Nat
 u:Nat
 a:Nat
 b:Nat
 m0:Nat
 c0:Nat
 H:List Ent
 U:List Ent
noncomputable abbrev Pm.hw(X:Pm)(g:G)(d n:Nat):Prop:=Hw g d n X.r X.p X.q X.u X.a X.b X.m0 X.c0 X.H X.U
noncomputable abbrev Pm.hc(X:Pm):Nat->Prop:=HC X.r X.p X.q X.u X.a X.b X.m0 X.c0 X.H X.U
noncomputable abbrev Pm.vs(X:Pm):Nat->Prop:=Vs X.r X.p X.q X.u X.a X.b
structure gZ(g:G)(d n gl rl:Nat)(ws:List Pm):Prop where
 dr:f7 g d
 lg:g[gl]?=some (.lst (ws.map λX=>.ref X.r))
 lr:g[rl]?=some (.lst (ws.map λX=>.tup [.ref X.a,.ref X.b]))
 one:∀(i:Nat) X,ws[i]?=some X->X.hw g d n
 sep:∀(i j:Nat) X Y,ws[i]?=some X->ws[j]?=some Y->i≠j->∀x,X.vs x->¬Y.hc x
 out:∀(i:Nat) X,ws[i]?=some X->∀x,X.hc x->x≠gl/\x≠rl
 dl:d<gl/\d<rl/\gl≠rl
section
variable{T:Nat->Option aY}{k d:Nat}{g g' g1:G}{Q:KD}{E:KX}{n gl rl:Nat}{ws:List Pm}{X Y:Pm}
theorem gZ.fr(h:gZ g d n gl rl ws){S:Nat->Prop}(F:Fr S g g')(hS:∀x,S x->x=d\/g.length<=x)(D:f7 g' d):gZ g' d n gl rl ws:=by
 have:=h.dl;have h1:=c7 h.lg;have h2:=c7 h.lr;refine⟨D,F.at (λz=>by have:=hS _ z;omega) h.lg,F.at (λz=>by have:=hS _ z;omega) h.lr,λi X hX=>(h.one i X hX).wm F λx hx z=>?_,h.sep,h.out,h.dl⟩;have h3:=(h.one i X hX).lo x hx;have h4:=(h.one i X hX).lt hx;have:=hS _ z;omega
theorem gZ.ex(h:gZ g d n gl rl ws)(e:Ex g g'):gZ g' d n gl rl ws:=h.fr (S:=λ_=>False) (.ex e) (λ_ z=>z.elim) (e.draw h.dr)
theorem gZ.gr(h:gZ g d n gl rl ws)(e:Gr d g g')(D:f7 g' d):gZ g' d n gl rl ws:=h.fr (yo e) (λ_ z=>.inl z) D
theorem gZ.upd(h:gZ g d n gl rl ws){i:Nat}(hX:ws[i]?=some X){u':Nat}{H' U':List Ent}(N:iS g g' d n X.r X.p X.q X.u X.a X.b X.m0 X.c0 X.H X.U u' H' U'):gZ g' d n gl rl (ws.set i { X with u:=u',H:=H',U:=U' }):=by
 have hi:=(aq.mp hX).1;have dl:=h.dl;have l1:=c7 h.lg;have l2:=c7 h.lr;have ms:∀(f:Pm->D),f { X with u:=u',H:=H',U:=U' }=f X->(ws.set i { X with u:=u',H:=H',U:=U' }).map f=ws.map f:=λf hf=>by
  apply List.ext_getElem?;intro j;rw[aE,aE];by_cases e:i=j
  ·subst e;rw[aP hi,hX];exact fY some hf
  ·rw[aw e]
 have get:∀(j:Nat) Z,(ws.set i { X with u:=u',H:=H',U:=U' })[j]?=some Z->(j=i/\Z={ X with u:=u',H:=H',U:=U' })\/(j≠i/\ws[j]?=some Z):=λj Z hZ=>by
  by_cases e:i=j
  ·subst e;rw[aP hi] at hZ;exact .inl ⟨rfl,(aO hZ).symm⟩
  ·rw[aw e] at hZ;exact .inr ⟨aL e,hZ⟩
 refine⟨N.dr,?_,?_,λj Z hZ=>?_,λj l Z Y hZ hY dW x hx=>?_,λj Z hZ x hx=>?_,dl⟩
 ·rw[ms _ rfl];exact N.fr.at (λz=>by rcases z with z|z;omega;exact(h.out i X hX _ (.inl z)).1 rfl) h.lg
 ·rw[ms _ rfl];exact N.fr.at (λz=>by rcases z with z|z;omega;exact(h.out i X hX _ (.inl z)).2 rfl) h.lr
 ·rcases get j Z hZ with⟨rfl,rfl⟩|⟨hj,hZ⟩
  ·exact N.hw
  ·refine(h.one j Z hZ).wm N.fr λx hx z=>?_;rcases z with z|z
   ·have:=(h.one j Z hZ).lo x hx;omega
   ·exact h.sep i j X Z hX hZ (aL hj) x z hx
 ·rcases get j Z hZ with⟨rfl,rfl⟩|⟨hj,AW⟩<;>rcases get l Y hY with⟨rfl,rfl⟩|⟨hl,AX⟩
  ·exact absurd rfl dW
  ·rcases N.vs x hx with z|z
   ·exact h.sep _ l X Y hX AX dW x z
   ·exact λw=>by have:=(h.one l Y AX).lt w;omega
  ·intro w;rcases N.hc x w with z|z
   ·exact h.sep j _ Z X AW hX dW x hx z
   ·have:=(h.one j Z AW).lt (.inl hx);omega
  ·exact h.sep j l Z Y AW AX dW x hx
 ·rcases get j Z hZ with⟨rfl,rfl⟩|⟨hj,hZ⟩
  ·rcases N.hc x hx with z|z
   ·exact h.out _ X hX x z
   ·omega
  ·exact h.out j Z hZ x hx
theorem Hw.EE{r p q u a b m0 c0:Nat}{H U:List Ent}(h:Hw g d n r p q u a b m0 c0 H U){x:Nat}(hx:Vs r p q u a b x):x≠m0/\(∀t∈H,x≠t.mi):=by
 have no:∀{y:Nat} {s:cg},g[y]?=some (c5 s)->x≠y:=λ{y s} e z=>by
  subst z;rcases hx with z|z|z|z|z|z
  ·rw[z,h.L.ob] at e;cases e
  ·rw[z,h.L.mi] at e;cases e
  ·rw[z,h.L.dn] at e;cases e
  ·rw[z,h.L.ud] at e;cases e
  ·rw[z,h.la] at e;cases e
  ·rw[z,h.lb] at e;cases e
 exact⟨no (h.L.st (m0,s0 n) (by simp)).1,λt ht=>no (h.L.st (t.mi,t.st) (br _ (aS.mpr ⟨t,ht,rfl⟩))).1⟩
theorem gZ.add(h:gZ g d n gl rl [X]){r p q u a b:Nat}(F:Fr (λx=>x=gl\/x=rl) g g')(D:f7 g' d)(L:Led g' r p q u ((X.m0,s0 n)::X.H.map λt=>(t.mi,t.st)) (X.H.map Ent.dd) (X.U.map Ent.dd))(ha:g'[a]?=some (.lst (.tup [.aQ,.ref X.c0]::X.H.map d6)))(hb:g'[b]?=some (.lst (X.U.map d6)))(big:∀x,Vs r p q u a b x->g.length<=x)(ab:a≠b)(al:a≠p/\a≠q/\a≠u)(bl:b≠p/\b≠q/\b≠u)(lg:g'[gl]?=some (.lst [.ref X.r,.ref r]))(lr:g'[rl]?=some (.lst [.tup [.ref X.a,.ref X.b],.tup [.ref a,.ref b]])):gZ g' d n gl rl [X,⟨r,p,q,u,a,b,X.m0,X.c0,X.H,X.U⟩]:=by
 have W:=h.one 0 X rfl;have dl:=h.dl;have dg:=h.dr.lt;have l1:=c7 h.lg;have l2:=c7 h.lr;have nc:∀x,X.hc x->¬(x=gl\/x=rl):=λx hx z=>by
  have:=h.out 0 X rfl x hx;omega
 have W':=W.wm F nc;have old:∀x,HC r p q u a b X.m0 X.c0 X.H X.U x->Vs r p q u a b x\/(X.hc x/\¬X.vs x):=λx hx=>by
  rcases hx with z|z|⟨y,hy,z⟩|z|⟨y,hy,z⟩
  ·exact .inl z
  ·exact .inr ⟨.inr (.inl z),λv=>(W.EE v).1 z⟩
  ·exact .inr ⟨.inr (.inr (.inl ⟨y,hy,z⟩)),λv=>(W.EE v).2 y hy z⟩
  ·exact .inr ⟨.inr (.inr (.inr (.inl z))),W.sz x z.1 z.2⟩
  ·exact .inr ⟨.inr (.inr (.inr (.inr ⟨y,hy,z⟩))),W.sm y hy x z.1 z.2⟩
 have WY:Hw g' d n r p q u a b X.m0 X.c0 X.H X.U:=by
  refine⟨L,ha,hb,W'.mo,W'.mz,W.ch,ab,al,bl,λt ht x h1 h2 v=>?_,λx h1 h2 v=>?_,λx hx=>?_⟩
  ·have:=big x v;have:=c7 (W.mo t ht).cD;omega
  ·have:=big x v;have:=c7 W.mz.cD;omega
  ·rcases old x hx with z|z
   ·have:=big x z;omega
   ·exact W.lo x z.1
 refine⟨D,lg,lr,λi Z hZ=>?_,λi j Z Y hZ hY dW x hx hy=>?_,λi Z hZ x hx=>?_,dl⟩
 ·match i,hZ with
  |0,hZ=>cases hZ;exact W'
  |1,hZ=>cases hZ;exact WY
  |i+2,hZ=>simp at hZ
 ·match i,j,hZ,hY with
  |0,0,_,_=>exact dW rfl
  |0,1,hZ,hY =>
   cases hZ;cases hY;rcases old x hy with z|z
   ·have:=big x z;have:=W.lt (.inl hx);omega
   ·exact z.2 hx
  |1,0,hZ,hY =>
   cases hZ;cases hY;have:=big x hx;have:=W.lt hy;omega
  |1,1,_,_=>exact dW rfl
  |i+2,_,hZ,_=>simp at hZ
  |0,j+2,_,hY=>simp at hY
  |1,j+2,_,hY=>simp at hY
 ·match i,hZ with
  |0,hZ=>cases hZ;exact h.out 0 X rfl x hx
  |1,hZ =>
   cases hZ;rcases old x hx with z|z
   ·have:=big x z;omega
   ·exact h.out 0 X rfl x z.1
  |i+2,hZ=>simp at hZ
end
section
variable{T:Nat->Option aY}{k d:Nat}{g g' g1:G}{Q:KD}{E:KX}{n gl rl:Nat}{ws:List Pm}{X Y:Pm}
theorem gZ.tw(h:gZ g d n gl rl ws){i:Nat}(hX:ws[i]?=some X):fW (ws.map λX=>D.ref X.r) (i:Int)=some (.ref X.r):=o6 (by rw[aE,hX];rfl)
theorem gZ.rG(h:gZ g d n gl rl ws){i:Nat}(hX:ws[i]?=some X):fW (ws.map λX=>D.tup [.ref X.a,.ref X.b]) (i:Int)=some (.tup [.ref X.a,.ref X.b]):=o6 (by rw[aE,hX];rfl)
noncomputable abbrev HF:MS:=match rR.body with|.seq _ (.seq _ (.seq _ (.seq _ (.seq _ (.seq _ (.seq _ (.seq (.fS _ _ b) _)))))))=>b|x=>x
noncomputable abbrev F':MS:=match rR.body with|.seq _ (.seq _ (.seq _ (.seq _ (.seq _ (.seq _ (.seq _ (.seq _ e)))))))=>e|x=>x
theorem Xx(hT:nF T)(J:gZ g d n gl rl ws)(hw:ws.length=2)(hz:∀X∈ws,X.H.length<=200/\X.U.length<=200){N:Ends}{z2 z5 z6 z7 z8 z9:Option D}(hN:∀g' uk z6,gZ g' d n gl rl uk->uk.length=2->(∀X'∈uk,∃X∈ws,X'.H.length<=X.H.length+1/\X'.U.length<=X.U.length+1)->N.nx [some (.ref 0),some (.ref d),z2,some (.ref gl),some (.ref rl),z5,z6,z7,z8,z9] g') :
  wpS (a9 T (k+13)) HF N [some (.ref 0),some (.ref d),z2,some (.ref gl),some (.ref rl),z5,z6,z7,z8,z9] g E:=by
 dsimp[HF,rR];walk_at"";refine j5 hT.tv.h4 J.dr (by decide) (by decide) λr1 g1 zV r11 D1 G1=>?_;have J1:=J.gr G1 D1;obtain⟨i,rfl⟩:∃i:Nat,r1=i:=⟨r1.toNat,by omega⟩
 have hX:=ao (show i<ws.length by omega);have hm:=aH hX;generalize ws[i]=X at hX hm;obtain⟨zH,zU⟩:=hz X hm;walk_at"";refine j7 (a7 J1.lg) (J1.tw hX) ?_;walk_at"";refine j7 (a7 J1.lr) (J1.rG hX) ?_;walk_at"";refine j7 (a7 J1.lr) (J1.rG hX) ?_;walk_at"";refine Jr (k:=k+1) hT (J1.one i X hX) D1 (by omega) (by omega) λg2 u' H' U' N2=>?_;have J2:=J1.upd hX N2;have AY:(ws.set i { X with u:=u',H:=H',U:=U' })[i]?=some { X with u:=u',H:=H',U:=U' }:=aP (by omega);have hb:∀X'∈ws.set i { X with u:=u',H:=H',U:=U' },∃X∈ws,X'.H.length<=X.H.length+1/\X'.U.length<=X.U.length+1:=λX' h=>by
  rcases eE h with z|rfl
  ·exact⟨X',z,by omega,by omega⟩
  ·exact⟨X,hm,N2.l1,N2.l2⟩
 have hl:(ws.set i { X with u:=u',H:=H',U:=U' }).length=2:=by rw[cS];exact hw
 have zH2:=N2.l1;generalize ws.set i { X with u:=u',H:=H',U:=U' }=zK at *;have W2:=J2.one i _ AY;obtain⟨ms,m,L2,_,_⟩:=W2.pW;obtain⟨l2,x2,c2,el,M2,dc2⟩:=W2.last;have nj:=W2.la;rw[el] at nj;walk_at"";refine j7 (a7 J2.lg) (J2.tw AY) ?_;walk_at"";refine c9 L2.ob rfl rfl ?_;walk_at"";refine N8 (k:=k+7) hT.tl hT.tr.tq L2 ?_;have J3:=J2.ex (Ex.snoc g2 (c5 (q9 (s0 n) (H'.map Ent.key))));have t3:(g2++[c5 (q9 (s0 n) (H'.map Ent.key))])[g2.length]?=some (c5 (q9 (s0 n) (H'.map Ent.key))):=b9;have x3:Ex g2 (g2++[c5 (q9 (s0 n) (H'.map Ent.key))]):=Ex.snoc _ _;generalize g2++[c5 (q9 (s0 n) (H'.map Ent.key))]=g3 at *;have dg:=J2.dr.lt;walk_at"";refine j7 (a7 J3.lr) (J3.rG AY) ?_;walk_at"";refine j7 (a7 (x3.at nj)) S0 ?_;walk_at"";refine Jy (k:=k+12) hT.oA (M2.ex x3) λg4 e4 M4=>?_;have l3:=x3.len;walk_at"";refine JA (k:=k+8) hT.tv M4 W2.ws.1 ((x3.trans e4).draw J2.dr) (by omega) λdd g5 ok D5 G5=>?_;have t5:=G5.at (by omega) (e4.at t3);walk_at"";refine Qn (k:=k+6) hT.tr.tq hT.mJ hT.rj t5 W2.ws.1 ok λg6 j G6 hj t6 f6=>?_;have J6:gZ g6 d n gl rl zK:=by
  have F5:Fr (λx=>x=d) g2 g5:=(Fr.ex (x3.trans e4)).trans (yo G5);have F6:Fr (λx=>x=d) g2 g6:=⟨aM F5.len G6.len,λi hi hl=>(G6.old i (by omega) (by have:=F5.len;omega)).trans (F5.old i hi hl)⟩
  exact J2.fr F6 (λx z=>.inl z) (D5.jS (yo G6) (by omega))
 walk_at"";refine Z6 (c8 T _) ?_;walk_at"";refine⟨2,rfl,by decide,λi ys σ g1=>∃z2 z3,ys=List.replicate i (.bl true)/\σ=[some (.ref gl),some (.ref rl),z2,z3]/\Ex g6 g1,⟨none,none,rfl,rfl,Ex.refl _⟩,λi ys σ g1 p=>?_,λi ys σ g1 hi p=>?_,λys σ g1 p=>?_⟩
 ·obtain⟨_,_,rfl,_⟩:=p;simp
 ·obtain⟨z2,z3,rfl,rfl,e1⟩:=p;have J7:=J6.ex e1;have hY:=ao (show i<zK.length by omega);have FJ:=aH hY;generalize zK[i]=Y at hY FJ;obtain⟨X0,Nt,y1,y2⟩:=hb Y FJ;have:=hz X0 Nt;refine s9 ?_
  try show dD _ _ _ _ _ _
  walk_at"";refine j7 (a7 J7.lg) (J7.tw hY) ?_;walk_at"";refine j7 (a7 J7.lr) (J7.rG hY) ?_;walk_at"";refine a41 (k:=k+5) hT (J7.one i Y hY) (by omega) λg8 e8=>?_;exact⟨_,_,by rw[fz],rfl,e1.trans e8⟩
 ·obtain⟨z2,z3,rfl,rfl,e1⟩:=p;walk_at"";refine yj (a7 b9) BV ?_;walk_at"";exact hN _ _ _ (J6.ex (e1.trans (Ex.snoc _ _))) hl hb
end
structure kQ(g:G)(d n gl rl:Nat)(ws:List Pm)(k:Nat):Prop where
 lg:g[gl]?=some (.lst (ws.map λX=>.ref X.r))
 lr:g[rl]?=some (.lst (ws.map λX=>.tup [.ref X.a,.ref X.b]))
 emp:∀(i:Nat) X,ws[i]?=some X->i<k->∃us,Led g X.r X.p X.q X.u [(X.m0,s0 n)] [] us
 hw:∀(i:Nat) X,ws[i]?=some X->k<=i->X.hw g d n
 la:∀(i:Nat) X,ws[i]?=some X->g[X.a]?=some (.lst (.tup [.aQ,.ref X.c0]::X.H.map d6))/\MD g X.c0 (s0 n)
 sep:∀(i j:Nat) X Y,ws[i]?=some X->ws[j]?=some Y->i≠j->∀x,X.vs x->¬Y.hc x
 out:∀(i:Nat) X,ws[i]?=some X->∀x,X.hc x->x≠gl/\x≠rl
 al:∀(i:Nat) X,ws[i]?=some X->(X.a≠X.p/\X.a≠X.q/\X.a≠X.u)/\∀x,X.c0<=x->x<X.c0+7->¬X.vs x
section
variable{T:Nat->Option aY}{k d:Nat}{g g' g1:G}{Q:KD}{E:KX}{n gl rl j:Nat}{ws:List Pm}{X Y:Pm}
theorem kQ.of(J:gZ g d n gl rl ws):kQ g d n gl rl ws 0:=⟨J.lg,J.lr,λi X _ z=>absurd z (by omega),λi X hX _=>J.one i X hX,λi X hX=>⟨(J.one i X hX).la,(J.one i X hX).mz⟩,J.sep,J.out,λi X hX=>⟨(J.one i X hX).al,(J.one i X hX).sz⟩⟩
theorem kQ.ex(h:kQ g d n gl rl ws j)(e:Ex g g'):kQ g' d n gl rl ws j:=⟨e.at h.lg,e.at h.lr,λi X hX z=>let ⟨us,L⟩:=h.emp i X hX z;⟨us,L.ex e⟩,λi X hX z=>(h.hw i X hX z).ex e,λi X hX=>⟨e.at (h.la i X hX).1,(h.la i X hX).2.ex e⟩,h.sep,h.out,h.al⟩
theorem kQ.step(h:kQ g d n gl rl ws j)(hX:ws[j]?=some X)(F:Fr (λx=>x=X.p\/x=X.q\/x=X.u) g g'){us:List Dd}(L:Led g' X.r X.p X.q X.u [(X.m0,s0 n)] [] us):kQ g' d n gl rl ws (j+1):=by
 have vs:∀x,(x=X.p\/x=X.q\/x=X.u)->X.vs x:=λx z=>by
  rcases z with z|z|z
  ·exact .inr (.inl z)
  ·exact .inr (.inr (.inl z))
  ·exact .inr (.inr (.inr (.inl z)))
 refine⟨F.at (λz=>(h.out j X hX _ (.inl (vs _ z))).1 rfl) h.lg,F.at (λz=>(h.out j X hX _ (.inl (vs _ z))).2 rfl) h.lr,λi Y hY hi=>?_,λi Y hY hi=>?_,λi Y hY=>?_,h.sep,h.out,h.al⟩
 ·by_cases e:i=j
  ·subst e;rw[hX] at hY;cases hY;exact⟨us,L⟩
  ·obtain⟨LD,L'⟩:=h.emp i Y hY (by omega);refine⟨LD,L'.keep λx o hx e1=>F.at (λz=>h.sep j i X Y hX hY (aL e) x (vs x z) ?_) e1⟩;rcases hx with z|z|z|z|⟨t,ht,z⟩
   ·exact .inl (.inl z)
   ·exact .inl (.inr (.inl z))
   ·exact .inl (.inr (.inr (.inl z)))
   ·exact .inl (.inr (.inr (.inr (.inl z))))
   ·cases cz.mp ht;exact .inr (.inl z)
 ·exact(h.hw i Y hY (by omega)).wm F λx hx z=>h.sep j i X Y hX hY (by omega) x (vs x z) hx
 ·by_cases e:i=j
  ·subst e;rw[hX] at hY;cases hY;have:=h.al i X hX;exact⟨F.at (by have:=this.1;omega) (h.la i X hX).1,(h.la i X hX).2.jS F λx h1 h2 z=>this.2 x h1 h2 (vs x z)⟩
  ·have hs:=h.sep j i X Y hX hY (aL e);exact⟨F.at (λz=>hs _ (vs _ z) (.inl (.inr (.inr (.inr (.inr (.inl rfl))))))) (h.la i Y hY).1,(h.la i Y hY).2.jS F λx h1 h2 z=>hs x (vs x z) (.inr (.inr (.inr (.inl ⟨h1,h2⟩))))⟩
theorem kQ.tw(h:kQ g d n gl rl ws j){i:Nat}(hX:ws[i]?=some X):fW (ws.map λX=>D.ref X.r) (i:Int)=some (.ref X.r):=o6 (by rw[aE,hX];rfl)
theorem kQ.rG(h:kQ g d n gl rl ws j){i:Nat}(hX:ws[i]?=some X):fW (ws.map λX=>D.tup [.ref X.a,.ref X.b]) (i:Int)=some (.tup [.ref X.a,.ref X.b]):=o6 (by rw[aE,hX];rfl)
theorem Vu(hT:nF T)(J:gZ g d n gl rl ws)(hw:ws.length=2)(hz:∀X∈ws,X.H.length<=200/\X.U.length<=200)(Mp:1<=n/\n<=9){N:Ends}{z2 z5 z6 z7 z8 z9:Option D}(hN:∀g',N.rt (.bl true) g') :
  wpS (a9 T (k+13)) F' N [some (.ref 0),some (.ref d),z2,some (.ref gl),some (.ref rl),z5,z6,z7,z8,z9] g E:=by
 dsimp[F',rR];walk_at"";refine Q4 (c8 T _) (zt (c8 T _) ?_);walk_at"";refine⟨by decide,by decide,k8 0 2,λi σ g=>i<=2/\kQ g d n gl rl ws i/\∃z7 z8 z9,σ=[some (.ref 0),some (.ref d),z2,some (.ref gl),some (.ref rl),z5,z6,z7,z8,z9],λi σ g p=>P6,⟨by decide,kQ.of J,_,_,_,rfl⟩,λi y σ g hy p=>?_,λσ g p=>?_⟩
 ·obtain⟨_,V,z7,z8,z9,rfl⟩:=p;obtain⟨hi,rfl⟩:=H9 hy;rw[uf];have hX:=ao (show i<ws.length by omega);have hm:=aH hX;generalize ws[i]=X at hX hm;obtain⟨zH,zU⟩:=hz X hm;have W:=V.hw i X hX (aj _);refine s9 ?_
  try show wpS _ _ _ _ _ _
  walk_at"";refine Q4 (c8 T _) (og (c8 T _) ?_);walk_at"";refine j7 (a7 V.lr) (V.rG hX) ?_;walk_at"";refine Jm (a7 W.la) ?_;have ec:cut (D.tup [.aQ,.ref X.c0]::X.H.map d6) (some 1) none=X.H.map d6:=Dy (n:=1);rw[ec];refine Wo (a7 b9) ?_;have x2:Ex g (g++[.lst (X.H.map d6)]++[.lst (X.H.map d6).reverse]):=(Ex.snoc _ _).trans (Ex.snoc _ _);have r2:(g++[.lst (X.H.map d6)]++[.lst (X.H.map d6).reverse])[(g++[O.lst (X.H.map d6)]).length]?=some (.lst (X.H.map d6).reverse):=b9;have Ff:g.length<=(g++[O.lst (X.H.map d6)]).length:=by simp
  generalize (g++[O.lst (X.H.map d6)]).length=rr at *;generalize g++[.lst (X.H.map d6)]++[.lst (X.H.map d6).reverse]=g2 at *;have V2:=V.ex x2;have W2:=V2.hw i X hX (aj _);have vl:∀x,X.vs x->x<g.length:=λx hx=>W.lt (.inl hx);refine⟨rr,_,rfl,a7 r2,(X.H.map d6).reverse,λm σ g'=>m<=X.H.length/\(∃us:List Dd,us.length<=X.U.length+m/\Led g' X.r X.p X.q X.u ((X.m0,s0 n)::(X.H.take (X.H.length-m)).map λt=>(t.mi,t.st)) ((X.H.take (X.H.length-m)).map Ent.dd) us)/\Fr (λx=>x=X.p\/x=X.q\/x=X.u) g2 g'/\∃z8 z9,σ=[some (.ref 0),some (.ref d),z2,some (.ref gl),some (.ref rl),z5,z6,some (.int (i:Int)),z8,z9],λm σ g' p=>K8 (a7 (p.2.2.1.at (λz=>?_) r2)),⟨cI _,⟨X.U.map Ent.dd,by simp,by rw[Nat.sub_zero,dk];exact W2.L⟩,⟨aj _,λ_ _ _=>rfl⟩,_,_,rfl⟩,λm y σ g' hy p=>?_,λσ g' p=>?_⟩
  ·have h1:=vl X.p (.inr (.inl rfl));have h2:=vl X.q (.inr (.inr (.inl rfl)));have h3:=vl X.u (.inr (.inr (.inr (.inl rfl))));omega
  ·obtain⟨_,⟨us,hu,L⟩,F,z8,z9,rfl⟩:=p;have lx:=(aq.mp hy).1;rw[eG,ak] at lx;rw[List.getElem?_reverse (by simpa using lx),ak,aE,ae] at hy;obtain⟨t,ht,rfl⟩:=hy;have et:X.H.take (X.H.length-m)=X.H.take (X.H.length-(m+1))++[t]:=by
    rw[show X.H.length-m=(X.H.length-(m+1))+1 by omega,fb,show X.H.length-(m+1)=X.H.length-1-m by omega,ht]
    rfl
   rw[et,az,az] at L;have MQ:=F.at (λz=>(V2.out i X hX _ (.inl (by rcases z with z|z|z;exact .inr (.inl z);exact .inr (.inr (.inl z));exact .inr (.inr (.inr (.inl z)))))).1 rfl) V2.lg;refine ze (l:=[t.dd.d,.ref t.mo]) rfl ?_
   try show wpS _ _ _ _ _ _
   walk_at"";refine j7 (a7 MQ) (V2.tw hX) ?_;walk_at"";refine Kd (k:=k+11) hT (ms:=(X.m0,s0 n)::(X.H.take (X.H.length-(m+1))).map λt=>(t.mi,t.st)) L (by omega) λg3 F3 L3=>?_;walk_at"";refine j9 hT.h6 hT.h7 1 (k:=k+10) yY λg4 e4=>?_;walk_at"";exact⟨by omega,⟨_,by simp;omega,L3.ex e4⟩,F.trans (F3.trans (.ex e4)),_,_,rfl⟩
  ·obtain⟨_,⟨us,hu,L⟩,F,z8,z9,rfl⟩:=p;rw[eG,ak,Nat.sub_self,List.take_zero] at L;have V3:=V2.step hX F L
   try show wpS _ _ _ _ _ _
   walk_at"";refine j7 (a7 V3.lg) (V3.tw hX) ?_;walk_at"";refine KL (k:=k+11) hT L ?_;walk_at"";exact⟨by omega,V3,_,_,_,rfl⟩
 ·obtain⟨_,V,z7,z8,z9,rfl⟩:=p;rw[C3] at V;have hX:=ao (show 0<ws.length by omega);generalize ws[0]=X at hX
  try show wpS _ _ _ _ _ _
  walk_at"";refine S2 (c8 T _) (og (c8 T _) ?_);walk_at"";refine⟨gl,_,rfl,a7 V.lg,ws.map λX=>.ref X.r,λm ys σ g'=>ys=List.replicate m (.bl true)/\Ex g g'/\∃z1 z2,σ=[some (.ref rl),z1,z2],by simp;omega,λm ys σ g' p=>?_,⟨rfl,Ex.refl _,none,none,rfl⟩,λm y ys σ g' hy p=>?_,λys σ g' p=>?_⟩
  ·obtain⟨rfl,e,_⟩:=p;exact⟨K8 (a7 (e.at V.lg)),by simp⟩
  ·obtain⟨rfl,e,z1,z2,rfl⟩:=p;rw[aE,ae] at hy;obtain⟨Y,hY,rfl⟩:=hy;have V2:=V.ex e;have hl:=(aq.mp hY).1;obtain⟨us,L⟩:=V2.emp m Y hY (by omega);refine s9 ?_
   try show dD _ _ _ _ _ _
   walk_at"";refine c9 L.ob rfl rfl ?_;walk_at"";refine N8 (k:=k+7) (ms:=[]) hT.tl hT.tr.tq L ?_;have V3:=V2.ex (Ex.snoc g' (c5 (s0 n)));walk_at"";refine j7 (a7 V3.lr) (show fW _ ((0:Nat):Int)=_ from V3.rG hX) ?_;walk_at"";refine j7 (a7 (V3.la 0 X hX).1) (d:=.tup [.aQ,.ref X.c0]) (show fW _ ((0:Nat):Int)=_ from o6 rfl) ?_;walk_at"";refine IB (k:=k+7) hT.tr.tq hT.h6 hT.h7 hT.xY hT.sW b9 (V3.la 0 X hX).2 (BU Mp.2) λg4 e4=>?_;exact⟨by rw[fz],e.trans ((Ex.snoc _ _).trans e4),_,_,rfl⟩
  ·obtain⟨rfl,e,z1,z2,rfl⟩:=p;refine yj (a7 b9) BV ?_;walk_at"";exact hN _
end
section
variable{T:Nat->Option aY}{k:Nat}
theorem a96(hT:nF T){ns:List Int}:a9 T (k+14) 11 [.ref 0] [.oR (ns.map .int)] (λd _=>d=.bl true) jz:=by
 refine call_of hT.NY rfl ?_;dsimp[rR,b5,List.replicate];walk_at"";refine Rp hT.h3 (a:=0) (ns:=ns) rfl λd g D0 _ _=>?_;walk_at"";refine j5 hT.tv.h4 D0 (by decide) (by decide) λr0 g2 r00 r01 D2 G2=>?_;walk_at"";obtain⟨n,hn⟩:∃n:Nat,1+r0=n:=⟨(1+r0).toNat,by omega⟩
 rw[hn];have Ax:1<=n/\n<=9:=by omega
 refine Kw (k:=k+8) hT.tl hT.tr.tq.tm (λn' e1 _ _=>?_) (λhv=>absurd ⟨by omega,by omega⟩ hv);obtain rfl:n=n':=by omega
 refine⟨rfl,?_⟩;have dl:=D2.lt;have L3:=QV (g:=g2) Ax;have x3:Ex g2 (g2++[A7 (g2.length+2) (g2.length+3) (g2.length+4),c5 (s0 n),.lst [.ref (g2.length+1)],.lst [],.lst []]):=⟨by simp,λi hi=>aA hi⟩
 have D3:=x3.draw D2;have l3:(g2++[A7 (g2.length+2) (g2.length+3) (g2.length+4),c5 (s0 n),.lst [.ref (g2.length+1)],.lst [],.lst []]).length=g2.length+5:=by simp
 generalize g2++[A7 (g2.length+2) (g2.length+3) (g2.length+4),c5 (s0 n),.lst [.ref (g2.length+1)],.lst [],.lst []]=g3 at *;walk_at"";have x4:Ex g3 (g3++[O.lst [.ref g2.length]]):=Ex.snoc _ _;have q4:(g3++[O.lst [.ref g2.length]])[g3.length]?=some (.lst [.ref g2.length]):=b9;have l4:(g3++[O.lst [.ref g2.length]]).length=g3.length+1:=by simp
 generalize g3++[O.lst [.ref g2.length]]=g4 at *;refine Yr (k:=k+12) hT.Bj Ax.2 λg5 x5 M5=>?_;have l5:=c7 M5.cD;walk_at"";have x6:Ex g5 (g5++[O.lst [.tup [.aQ,.ref g4.length]]]):=Ex.snoc _ _;have a6:(g5++[O.lst [.tup [.aQ,.ref g4.length]]])[g5.length]?=some (.lst (.tup [.aQ,.ref g4.length]::([]:List Ent).map d6)):=b9;have l6:(g5++[O.lst [.tup [.aQ,.ref g4.length]]]).length=g5.length+1:=by simp
 generalize g5++[O.lst [.tup [.aQ,.ref g4.length]]]=g6 at *;have x7:Ex g6 (g6++[O.lst []]):=Ex.snoc _ _;have b7:(g6++[O.lst []])[g6.length]?=some (.lst (([]:List Ent).map d6)):=b9;have l7:(g6++[O.lst []]).length=g6.length+1:=by simp
 generalize g6++[O.lst []]=g7 at *;have x8:Ex g7 (g7++[O.lst [.tup [.ref g5.length,.ref g6.length]]]):=Ex.snoc _ _;have r8:(g7++[O.lst [.tup [.ref g5.length,.ref g6.length]]])[g7.length]?=some (.lst [.tup [.ref g5.length,.ref g6.length]]):=b9;generalize g7++[O.lst [.tup [.ref g5.length,.ref g6.length]]]=g8 at *;have y5:=x6.trans (x7.trans x8);have y4:=x4.trans (x5.trans y5);have W8:Hw g8 d n g2.length (g2.length+2) (g2.length+3) (g2.length+4) g5.length g6.length (g2.length+1) g4.length [] []:=by
  refine⟨L3.ex y4,(x7.trans x8).at a6,x8.at b7,λt ht=>by simp at ht,M5.ex y5,trivial,by omega,by omega,by omega,λt ht=>by simp at ht,λx h1 h2=>by unfold Vs;omega,λx hx=>?_⟩;rcases hx with z|z|⟨y,hy,z⟩|z|⟨y,hy,z⟩
  ·unfold Vs at z;omega
  ·omega
  ·simp at hy
  ·omega
  ·simp at hy
 have J8:gZ g8 d n g3.length g7.length [⟨g2.length,g2.length+2,g2.length+3,g2.length+4,g5.length,g6.length,g2.length+1,g4.length,[],[]⟩]:=by
  refine⟨y4.draw D3,(x5.trans y5).at q4,r8,λi X hX=>?_,λi j X Y hX hY dW=>?_,λi X hX x hx=>?_,by omega,by omega,by omega⟩
  ·match i,hX with
   |0,hX=>cases hX;exact W8
   |i+1,hX=>simp at hX
  ·match i,j,hX,hY with
   |0,0,_,_=>exact absurd rfl dW
   |i+1,_,hX,_=>simp at hX
   |0,j+1,_,hY=>simp at hY
  ·match i,hX with
   |0,hX =>
    cases hX;rcases hx with z|z|⟨y,hy,z⟩|z|⟨y,hy,z⟩
    ·unfold Vs at z;dsimp only at z;omega
    ·dsimp only at z;omega
    ·simp at hy
    ·dsimp only at z;omega
    ·simp at hy
   |i+1,hX=>simp at hX
 generalize g3.length=gl at *;generalize g7.length=rl at *;have h0:(⟨g2.length,g2.length+2,g2.length+3,g2.length+4,g5.length,g6.length,g2.length+1,g4.length,[],[]⟩:Pm).H.length=0/\(⟨g2.length,g2.length+2,g2.length+3,g2.length+4,g5.length,g6.length,g2.length+1,g4.length,[],[]⟩:Pm).U.length=0:=⟨rfl,rfl⟩
 generalize (⟨g2.length,g2.length+2,g2.length+3,g2.length+4,g5.length,g6.length,g2.length+1,g4.length,[],[]⟩:Pm)=X0 at J8 h0;clear L3 x3 D3 x4 q4 x5 M5 x6 a6 x7 b7 x8 r8 y5 y4 W8;refine Q4 (c8 T _) (zt (c8 T _) ?_);walk_at"";refine j5 hT.tv.h4 J8.dr (by decide) (by decide) λr9 g9 r90 r91 D9 G9=>?_;have J9:=J8.gr G9 D9;walk_at"";refine⟨by omega,by omega,k8 0 (4+r9).toNat,λi σ g=>∃X,gZ g d n gl rl [X]/\X.H.length<=i/\X.U.length<=i/\∃z5,σ=[some (.ref 0),some (.ref d),some (.int n),some (.ref gl),some (.ref rl),z5,none,none,none,none],λi σ g p=>P6,⟨X0,J9,by omega,by omega,none,rfl⟩,λi y σ g hy p=>?_,λσ g p=>?_⟩
 ·obtain⟨X,J,h1,h2,z5,rfl⟩:=p;obtain⟨hi,rfl⟩:=H9 hy;refine s9 ?_
  try show wpS _ _ _ _ _ _
  walk_at"";refine j7 (a7 J.lg) (d:=.ref X.r) (show fW _ ((0:Nat):Int)=_ from o6 rfl) ?_;walk_at"";refine j7 (a7 J.lr) (d:=.tup [.ref X.a,.ref X.b]) (show fW _ ((0:Nat):Int)=_ from o6 rfl) ?_;walk_at"";refine j7 (a7 J.lr) (d:=.tup [.ref X.a,.ref X.b]) (show fW _ ((0:Nat):Int)=_ from o6 rfl) ?_;walk_at"";refine Jr (k:=k+1) hT (J.one 0 X rfl) J.dr (by omega) (by omega) λg2 u' H' U' N2=>?_;have J2:=J.upd (i:=0) rfl N2;walk_at"";exact⟨_,J2,aM N2.l1 (by omega),aM N2.l2 (by omega),_,rfl⟩
 ·obtain⟨X,J,h1,h2,z5,rfl⟩:=p;have hz:X.H.length<=20/\X.U.length<=20:=by
   rw[C3] at h1 h2;omega
  have W:=J.one 0 X rfl;obtain⟨ms,m,L,lx,es⟩:=W.pW;have Gd:=J.dl;have lgl:=c7 J.lg;have lrl:=c7 J.lr;have dg:=J.dr.lt
  try show wpS _ _ _ _ _ _
  walk_at""
  try refine⟨A4 J.lg,?_⟩
  walk_at"";refine j7 (a7 J.lg) (d:=.ref X.r) (show fW _ ((0:Nat):Int)=_ from o6 rfl) ?_;walk_at"";refine c9 L.ob rfl rfl ?_;walk_at"";refine a92 (k:=k+6) hT L λg3 r p q u x3 hr hp hq hu L3=>?_;walk_at"";refine E4 (x3.at J.lg) (by simp) ?_;have uQ:=a8 (x3.at J.lr) Gd.2.2 (o':=O.lst ([X].map (λX=>D.ref X.r)++[.ref r]));have F4:Fr (λx=>x=gl\/x=rl) g (g3.set gl (.lst ([X].map (λX=>D.ref X.r)++[.ref r]))):=(Fr.ex x3).trans (fM (.inl rfl));have nc:∀x,X.hc x->¬(x=gl\/x=rl):=λx hx z=>by
   have:=J.out 0 X rfl x hx;omega
  have W4:=W.wm F4 nc;have L4:Led (g3.set gl (.lst ([X].map (λX=>D.ref X.r)++[.ref r]))) r p q u (ms++[(m,q9 (s0 n) (X.H.map Ent.key))]) (X.H.map Ent.dd) (X.U.map Ent.dd):=L3.keep λx o hx e=>a8 e λz=>by
   subst z;rcases hx with z|z|z|z|⟨t,ht,z⟩
   ·omega
   ·omega
   ·omega
   ·omega
   ·have:=(L.st t ht).1;rw[<- z,J.lg] at this;cases this
  have g4:(g3.set gl (.lst ([X].map (λX=>D.ref X.r)++[.ref r])))[gl]?=some (.lst [.ref X.r,.ref r]):=get_set (x3.at J.lg);have rl3:r<g3.length/\p<g3.length/\q<g3.length/\u<g3.length:=⟨c7 L3.ob,c7 L3.mi,c7 L3.dn,c7 L3.ud⟩
  have Mt:(g3.set gl (.lst ([X].map (λX=>D.ref X.r)++[.ref r]))).length=g3.length:=by simp
  have D4:f7 (g3.set gl (.lst ([X].map (λX=>D.ref X.r)++[.ref r]))) d:=(x3.draw J.dr).pX (by omega);have l3:=x3.len;generalize g3.set gl (.lst ([X].map (λX=>D.ref X.r)++[.ref r]))=kL at *;walk_at""
  try refine⟨A4 uQ,?_⟩
  walk_at""
  try refine j7 (a7 uQ) (d:=.tup [.ref X.a,.ref X.b]) (show fW _ ((0:Nat):Int)=_ from o6 rfl) ?_
  walk_at"";refine V1 (a7 W4.la) ?_;have x5:Ex kL (kL++[O.lst (.tup [.aQ,.ref X.c0]::X.H.map d6)]):=Ex.snoc _ _;have a5:(kL++[O.lst (.tup [.aQ,.ref X.c0]::X.H.map d6)])[kL.length]?=some (.lst (.tup [.aQ,.ref X.c0]::X.H.map d6)):=b9;have l5:(kL++[O.lst (.tup [.aQ,.ref X.c0]::X.H.map d6)]).length=kL.length+1:=by simp
  generalize kL++[O.lst (.tup [.aQ,.ref X.c0]::X.H.map d6)]=g5 at *;walk_at"";refine j7 (a7 (x5.at uQ)) (d:=.tup [.ref X.a,.ref X.b]) (show fW _ ((0:Nat):Int)=_ from o6 rfl) ?_;walk_at"";refine V1 (a7 (x5.at W4.lb)) ?_;have x6:Ex g5 (g5++[O.lst (X.U.map d6)]):=Ex.snoc _ _;have b6:(g5++[O.lst (X.U.map d6)])[g5.length]?=some (.lst (X.U.map d6)):=b9;have l6:(g5++[O.lst (X.U.map d6)]).length=g5.length+1:=by simp
  generalize g5++[O.lst (X.U.map d6)]=g6 at *;walk_at"";refine E4 ((x5.trans x6).at uQ) (by simp) ?_;have F7:Fr (λx=>x=gl\/x=rl) g (g6.set rl (.lst ([X].map (λX=>D.tup [.ref X.a,.ref X.b])++[.tup [.ref kL.length,.ref g5.length]]))):=F4.trans ((Fr.ex (x5.trans x6)).trans (fM (.inr rfl)));have L7:Led (g6.set rl (.lst ([X].map (λX=>D.tup [.ref X.a,.ref X.b])++[.tup [.ref kL.length,.ref g5.length]]))) r p q u ((X.m0,s0 n)::X.H.map λt=>(t.mi,t.st)) (X.H.map Ent.dd) (X.U.map Ent.dd):=by
   rw[es];refine L4.keep λx o hx e=>a8 ((x5.trans x6).at e) λz=>?_;subst z;rcases hx with z|z|z|z|⟨t,ht,z⟩
   ·omega
   ·omega
   ·omega
   ·omega
   ·have:=(L.st t ht).1;rw[<- z,J.lr] at this;cases this
  have J7:=J.add (a:=kL.length) (b:=g5.length) F7 (((x5.trans x6).draw D4).pX (by omega)) L7 (a8 (x6.at a5) (by omega)) (a8 b6 (by omega)) (λx hx=>by unfold Vs at hx;omega) (by omega) ⟨by omega,by omega,by omega⟩ ⟨by omega,by omega,by omega⟩ (a8 ((x5.trans x6).at g4) (aL Gd.2.2)) (get_set ((x5.trans x6).at uQ));generalize g6.set rl (.lst ([X].map (λX=>D.tup [.ref X.a,.ref X.b])++[.tup [.ref kL.length,.ref g5.length]]))=g7 at *;have Np:∀Z∈[X,(⟨r,p,q,u,kL.length,g5.length,X.m0,X.c0,X.H,X.U⟩:Pm)],Z.H.length<=20/\Z.U.length<=20:=λZ hZ=>by
   simp only[List.mem_cons,List.mem_nil_iff,or_false] at hZ;rcases hZ with rfl|rfl<;>exact hz
  have MU:[X,(⟨r,p,q,u,kL.length,g5.length,X.m0,X.c0,X.H,X.U⟩:Pm)].length=2:=rfl;generalize [X,(⟨r,p,q,u,kL.length,g5.length,X.m0,X.c0,X.H,X.U⟩:Pm)]=LB at *;clear L7 F7 L4 W4 F4 L3 x5 a5 x6 b6;walk_at"";refine Q4 (c8 T _) (zt (c8 T _) ?_);walk_at"";refine j5 hT.tv.h4 J7.dr (by decide) (by decide) λzV Oh Mc Mb D10 G10=>?_;have J10:=J7.gr G10 D10;walk_at"";refine⟨by omega,by omega,k8 0 (5+zV).toNat,λi σ g=>∃ws,gZ g d n gl rl ws/\ws.length=2/\(∀Z∈ws,Z.H.length<=20+i/\Z.U.length<=20+i)/\∃z5 z6 z7 z8 z9,σ=[some (.ref 0),some (.ref d),some (.int n),some (.ref gl),some (.ref rl),z5,z6,z7,z8,z9],λi σ g p=>P6,⟨LB,J10,MU,Np,z5,none,none,none,none,rfl⟩,λi y σ g hy p=>?_,λσ g p=>?_⟩
  ·obtain⟨ws,J,hl,hb,z5,z6,z7,z8,z9,rfl⟩:=p;obtain⟨hi,rfl⟩:=H9 hy;refine s9 ?_;exact Xx (k:=k) hT J hl (λZ hZ=>by have:=hb Z hZ;omega) λg' uk z6 J' AF kK=>⟨uk,J',AF,λZ hZ=>by obtain⟨Z0,Nr,q1,q2⟩:=kK Z hZ;have:=hb Z0 Nr;omega,_,_,_,_,_,rfl⟩
  ·obtain⟨ws,J,hl,hb,z5,z6,z7,z8,z9,rfl⟩:=p;rw[C3] at hb;exact Vu (k:=k) hT J hl (λZ hZ=>by have:=hb Z hZ;omega) Ax λg'=>rfl
end
end M

namespace Lk
open PySem L2 M
def top(i:Nat):Stmt:=PySem.Challenge.pw_trussel_k53_twins_of_ledgers.main.body.getD i (.Pass ⟨0,0,0,0⟩)
def QG:Stmt->List Stmt
 |.ClassDef (body:=b) ..=>b
 |_=>[]
def HE(i j:Nat):Stmt:=(QG (top i)).getD j (.Pass ⟨0,0,0,0⟩)
def F:List RF:=[⟨38,"is_number",["thing"],1,18,CQ⟩,⟨1,"number_from",["number","least","most"],3,19,V9⟩,⟨16,"both",["one","other"],2,20,DB⟩,⟨40,"check_side",["side"],1,25,Q8⟩,⟨177,"with_thing",["things","at","thing"],3,26,Q6⟩,⟨42,"check_anvils",["anvils"],1,29,T7⟩,⟨43,"check_cut",["wear","die"],2,32,CP⟩,⟨238,"check_deed",["deed"],1,36,Dm⟩,⟨239,"done_at",["mint","deed","word"],2,37,QX⟩,⟨3,"_law_open",["_law_script"],1,40,yx⟩,⟨4,"_law_pull",["_law_draw","_law_total_of","_law_cell","_law_got","_law_seed"],2,41,O2⟩,⟨5,"_law_far",["_law_draw","_law_number"],1,42,rQ⟩,⟨36,"_law_near",["_law_draw","_law_total_of"],2,43,yw⟩,⟨6,"_law_num",["_law_found"],1,44,rS⟩,⟨7,"_law_like",["_law_found","_law_due"],2,45,A5⟩,⟨45,"_law_model",["_law_anvils"],1,46,yJ⟩,⟨192,"_law_m_copy",["_law_m","_law_other","_law_word"],1,47,Z1⟩,⟨46,"_law_m_cut",["_law_m","_law_side_here"],2,48,yt⟩,⟨178,"_law_m_fix",["_law_m","_law_die","_law_seat"],2,49,yu⟩,⟨179,"_law_m_off",["_law_m","_law_die","_law_seat"],2,50,yv⟩,⟨181,"_law_m_mark",["_law_m","_law_side_here","_law_die","_law_spot","_law_marks"],4,51,Y9⟩,⟨182,"_law_m_strike",["_law_m","_law_lower","_law_upper"],3,52,zi⟩,⟨183,"_law_m_do",["_law_m","_law_deed_here","_law_word"],2,53,Ek⟩,⟨37,"_law_number_of",["_law_draw","_law_numbers"],2,54,CY⟩,⟨29,"_law_side",["_law_draw"],1,55,yy⟩,⟨188,"_law_deed",["_law_draw","_law_m","_law_turn_here","_law_on","_law_idle","_law_uppers","_law_side_here","_law_year","_law_years"],2,56,O5⟩,⟨184,"_law_mint_do",["_law_mint","_law_deed_here","_law_word"],2,57,N6⟩,⟨186,"_law_mint_try",["_law_mint","_law_deed_here"],2,58,zj⟩,⟨191,"_law_same_end",["_law_found","_law_due"],2,59,zk⟩,⟨47,"_law_mint_stands",["_law_mint","_law_m","_law_side_here","_law_die","_law_word"],2,60,O3⟩,⟨240,"_law_ledger_do",["_law_ledger","_law_deed_here"],2,61,Q7⟩,⟨256,"_law_step_back",["_law_ledger","_law_again"],2,62,J5⟩,⟨257,"_law_text",["_law_anvils","_law_deeds","_law_rows","_law_deed_here"],2,63,yz⟩,⟨233,"_law_turn",["_law_draw","_law_ledger","_law_done","_law_undone","_law_way","_law_ahead","_law_behind","_law_found","_law_m","_law_deed_here","_law_due"],4,64,DD⟩,⟨258,"_law_stands",["_law_ledger","_law_done"],2,65,Cu⟩,⟨11,"law",["_law_script","_law_draw","_law_anvils","_law_ledgers","_law_rows","_law_turn_here","_law_at","_law_k","_law_deed_here","_law_there"],1,66,rR⟩]
def Ms:List RM:=[⟨51,"Mint","__init__","Mint.__init__",["self","anvils"],2,33,0,CV⟩,⟨52,"Mint","wear_of","Mint.wear_of",["self","side"],2,33,1,W0⟩,⟨53,"Mint","put_wear","Mint.put_wear",["self","side","wear"],3,33,2,T4⟩,⟨54,"Mint","cut","Mint.cut",["self","side","wear"],2,33,3,CG⟩,⟨55,"Mint","fix","Mint.fix",["self","die","state","anvil"],2,33,4,CH⟩,⟨56,"Mint","lay_off","Mint.lay_off",["self","die","anvil"],2,33,5,X3⟩,⟨57,"Mint","mark","Mint.mark",["self","side","die","spot","marks"],4,33,6,P5⟩,⟨58,"Mint","strike","Mint.strike",["self","lower","upper","coin"],3,33,7,W9⟩,⟨59,"Mint","begin_year","Mint.begin_year",["self","number"],2,33,8,N7⟩,⟨60,"Mint","anvils","Mint.anvils",["self"],1,33,9,X4⟩,⟨61,"Mint","dies","Mint.dies",["self","side"],2,33,10,CU⟩,⟨62,"Mint","marks","Mint.marks",["self","side","die","wear"],3,33,11,Dn⟩,⟨63,"Mint","state","Mint.state",["self","die"],2,33,12,Dp⟩,⟨64,"Mint","year","Mint.year",["self"],1,33,13,CW⟩,⟨65,"Mint","struck","Mint.struck",["self"],1,33,14,W7⟩,⟨66,"Mint","coin","Mint.coin",["self","number"],2,33,15,CT⟩,⟨67,"Mint","hoard","Mint.hoard",["self","numbers"],2,33,16,K7⟩,⟨68,"Mint","twin","Mint.twin",["self","other"],1,33,17,V0⟩,⟨243,"Ledger","__init__","Ledger.__init__",["self","anvils"],2,38,0,X9⟩,⟨244,"Ledger","go_on","Ledger.go_on",["self","deed","mint","given"],2,38,1,Y0⟩,⟨245,"Ledger","do","Ledger.do",["self","deed","given"],2,38,2,CS⟩,⟨246,"Ledger","back","Ledger.back",["self","deed"],1,38,3,C5⟩,⟨247,"Ledger","again","Ledger.again",["self","deed"],1,38,4,B0⟩,⟨248,"Ledger","deeds","Ledger.deeds",["self"],1,38,5,T5⟩,⟨249,"Ledger","mint","Ledger.mint",["self"],1,38,6,X8⟩,⟨250,"Ledger","text","Ledger.text",["self","rows","deed"],1,38,7,O4⟩,⟨251,"Ledger","twin","Ledger.twin",["self","other"],1,38,8,X7⟩]
def con:List (Str×D):=[("LAST_SPOT",.int 7),("LAST_DIE",.int 99),("LAST_YEAR",.int 9999),("SIDES",.tup [(.str "lower"),(.str "upper")]),("MOST_ANVILS",.int 9),("MOST_STRUCK",.int 200)]
def gd:List (Str×List D):=[("FORMS",[.tup [.str "cut",.tup [(.str "side")]],.tup [.str "fix",.tup [(.str "number")]],.tup [.str "off",.tup [(.str "number")]],.tup [.str "mark",.tup [(.str "side"),(.str "number"),(.str "number")]],.tup [.str "strike",.tup [(.str "number"),(.str "number")]],.tup [.str "year",.tup [(.str "number")]]])]
def exc:List Str:=["BadAnvils","BadDeed","BadSide","BadSpot","BadYear","Fixed","Full","Gone","Marked","MintError","NoAnvil","NoCoin","NoDie","NotFixed","Nothing"]
def c0:d7:=⟨[],[],true,F.map λr=>(r.nm,r.id),con,["len","list","tuple","isinstance","all","range","int","bool","str","sorted","set","dict"],exc,gd,[("Mint",51),("Ledger",243)],Ms.map λr=>(r.nm,r.cl,r.id),[("bench","Mint"),("laid_off","Mint"),("lower_wear","Mint"),("upper_wear","Mint"),("present","Mint"),("output","Mint"),("mints","Ledger"),("done","Ledger"),("undone","Ledger")],true,true⟩
noncomputable abbrev T:Nat->Option aY:=tK F Ms
theorem tx:kO c0 F Ms top HE:=by
 refine⟨rfl,rfl,by decide +kernel,by decide +kernel,by decide +kernel,by decide +kernel,?_,?_,?_,?_⟩
 all_goals
  repeat first
   |exact BF.nil
   |exact BM.nil
   |exact YF.nil
   |exact YM.nil
   |refine YF.cons (by kernel_rfl) ?_
   |refine YM.cons (by kernel_rfl) ?_
   |refine BF.cons (λ_ _ _ _ _ _=>(by(repeat refine EG λ_=>?_);exact EF rfl)) ?_
   |refine BM.cons (λ_ _ _ _ _ _=>(by(repeat refine EG λ_=>?_);exact EF rfl)) ?_
inductive tf:List DictEntry->List (Str×V)->Prop
 |nil:tf [] []
 |cons {h:Int} {x:Str} {t:Tok} {u:Value} {v:V} {es:List DictEntry} {vs:List (Str×V)} (r:RelV v u) (q:tf es vs):tf (⟨h,.str x t,u⟩::es) ((x,v)::vs)
theorem tf.find{es vs}(x:Str)(h:tf es vs):B3 (vs.lookup x) (findBy Value.isStrOf es.toArray x):=by
 induction h with
 |nil=>trivial
 |cons r q ih =>
  rename_i h y t u v es vs;unfold findBy at ih ⊢;rw[List.find?_toArray] at ih ⊢;rw[iz,cA];by_cases e:x=y
  ·rw[show(x==y)=true from by simp[e],show Value.isStrOf x (.str y t)=true from by simp[Value.isStrOf,e]];exact r
  ·rw[show(x==y)=false from by simpa using e,show Value.isStrOf x (.str y t)=false from by simp[Value.isStrOf];exact λz=>e (z.symm)];exact ih
theorem all_mk{l:PySem.W.OpenLaw}{w:World}{K:PySem.W.Frag}{h:Heap}{mg:Str->Option Value}{fa:Addr}{BN yc jR jQ jP jO jN jM:Addr}{t0 t1 t2 wz wy t4 t5 pQ pP pO pN pM mL oP oO oN oK oJ oI oH oG oE:Tok}{BJ:Array (Option Value)}{BK:Nat}{Od:Nat}{mS mR mQ mP mO mM:Int}{vS:Array (Option Value)}{vZ:Nat}{vR:Array (Option Value)}{vY:Nat}{vQ:Array (Option Value)}{vX:Nat}{vP:Array (Option Value)}{vW:Nat}{vO:Array (Option Value)}{vV:Nat}{vN:Array (Option Value)}{vU:Nat}(X:K.In h)(G:h.Ns mainGlobals mg)(Nd:mg "law"=some (.ref fa))(I:kP K c0 F Ms top HE)(e0:PySem.W.nsIn K mainGlobals "LAST_SPOT"=some (some (Value.int 7 t0)))(e1:PySem.W.nsIn K mainGlobals "LAST_DIE"=some (some (Value.int 99 t1)))(e2:PySem.W.nsIn K mainGlobals "LAST_YEAR"=some (some (Value.int 9999 t2)))(e3:PySem.W.nsIn K mainGlobals "SIDES"=some (some (.ref BN)))(OA:K.lookup BN=some ⟨.type "tuple",none,.seq #[Value.str "lower" wz,Value.str "upper" wy] BK,BJ⟩)(e4:PySem.W.nsIn K mainGlobals "MOST_ANVILS"=some (some (Value.int 9 t4)))(e5:PySem.W.nsIn K mainGlobals "MOST_STRUCK"=some (some (Value.int 200 t5)))(g0:PySem.W.nsIn K mainGlobals "FORMS"=some (some (.ref yc)))(Oe:K.lookup yc=some ⟨.type "dict",none,.dict #[⟨mS,Value.str "cut" pQ,Value.ref jR⟩,⟨mR,Value.str "fix" pP,Value.ref jQ⟩,⟨mQ,Value.str "off" pO,Value.ref jP⟩,⟨mP,Value.str "mark" pN,Value.ref jO⟩,⟨mO,Value.str "strike" pM,Value.ref jN⟩,⟨mM,Value.str "year" mL,Value.ref jM⟩] Od,#[]⟩)(wj:K.lookup jR=some ⟨.type "tuple",none,.seq #[Value.str "side" oP] vZ,vS⟩)(wg:K.lookup jQ=some ⟨.type "tuple",none,.seq #[Value.str "number" oO] vY,vR⟩)(we:K.lookup jP=some ⟨.type "tuple",none,.seq #[Value.str "number" oN] vX,vQ⟩)(wc:K.lookup jO=some ⟨.type "tuple",none,.seq #[Value.str "side" oK,Value.str "number" oJ,Value.str "number" oI] vW,vP⟩)(wb:K.lookup jN=some ⟨.type "tuple",none,.seq #[Value.str "number" oH,Value.str "number" oG] vV,vO⟩)(wa:K.lookup jM=some ⟨.type "tuple",none,.seq #[Value.str "number" oE] vU,vN⟩)(qE:mS=PyData.keyHash w.params "cut")(qD:mR=PyData.keyHash w.params "fix")(qz:mQ=PyData.keyHash w.params "off")(qy:mP=PyData.keyHash w.params "mark")(qx:mO=PyData.keyHash w.params "strike")(qw:mM=PyData.keyHash w.params "year")(Oc:(yc==sysModules)=false)
  : ∃fd:FuncData,(∀(s:Shared) (v:Value),BindsTo s fd ⟨[v],[]⟩ [("_law_script",v)])/\∀base:Heap,K.In base->base.Ns mainGlobals mg->gN l.prog w K mg base (gO l.prog w) 80 fa fd ["_law_script"] (pA exc K 1 (a9 T 40 11)):=by
 have A:mY w K mg c0 T:=by
  refine Qk I tx X G (λx d hx=>?_) (λx kvs hx=>?_)
  ·have hm:=aJ hx;simp only[c0,con,List.mem_cons,List.mem_nil_iff,or_false] at hm;rcases hm with z|z|z|z|z|z
   ·cases z;exact⟨(.int 7),_,bX X G e0,⟨_,rfl⟩,λ_ _=>.int _⟩
   ·cases z;exact⟨(.int 99),_,bX X G e1,⟨_,rfl⟩,λ_ _=>.int _⟩
   ·cases z;exact⟨(.int 9999),_,bX X G e2,⟨_,rfl⟩,λ_ _=>.int _⟩
   ·cases z;exact⟨.ref BN,_,bX X G e3,rfl,λ_ _=>.tup (vs:=[.str "lower",.str "upper"]) (.inr ⟨_,_,_,OA,rfl,rfl,rfl,(by show 2<=sizeLine;decide),.cons ⟨_,rfl⟩ (.cons ⟨_,rfl⟩ (.nil))⟩) (.cons (.str _) (.cons (.str _) (.nil)))⟩
   ·cases z;exact⟨(.int 9),_,bX X G e4,⟨_,rfl⟩,λ_ _=>.int _⟩
   ·cases z;exact⟨(.int 200),_,bX X G e5,⟨_,rfl⟩,λ_ _=>.int _⟩
  ·have hm:=aJ hx;simp only[c0,gd,List.mem_cons,List.mem_nil_iff,or_false] at hm;have z:=hm
   ·cases z;have er:tf [⟨mS,Value.str "cut" pQ,Value.ref jR⟩,⟨mR,Value.str "fix" pP,Value.ref jQ⟩,⟨mQ,Value.str "off" pO,Value.ref jP⟩,⟨mP,Value.str "mark" pN,Value.ref jO⟩,⟨mO,Value.str "strike" pM,Value.ref jN⟩,⟨mM,Value.str "year" mL,Value.ref jM⟩] [("cut",.ref jR),("fix",.ref jQ),("off",.ref jP),("mark",.ref jO),("strike",.ref jN),("year",.ref jM)]:=.cons (v:=.ref jR) rfl (.cons (v:=.ref jQ) rfl (.cons (v:=.ref jP) rfl (.cons (v:=.ref jO) rfl (.cons (v:=.ref jN) rfl (.cons (v:=.ref jM) rfl (.nil))))));exact⟨yc,_,bX X G g0,⟨_,_,Oe,⟨⟨_,_,rfl,qE⟩,⟨⟨_,_,rfl,qD⟩,⟨⟨_,_,rfl,qz⟩,⟨⟨_,_,rfl,qy⟩,⟨⟨_,_,rfl,qx⟩,⟨⟨_,_,rfl,qw⟩,True.intro⟩⟩⟩⟩⟩⟩,Oc,λx=>er.find x⟩,.cons (λ_ _=>.tup (vs:=[.str "side"]) (.inr ⟨_,_,_,wj,rfl,rfl,rfl,(by show 1<=sizeLine;decide),.cons ⟨_,rfl⟩ (.nil)⟩) (.cons (.str _) (.nil))) (.cons (λ_ _=>.tup (vs:=[.str "number"]) (.inr ⟨_,_,_,wg,rfl,rfl,rfl,(by show 1<=sizeLine;decide),.cons ⟨_,rfl⟩ (.nil)⟩) (.cons (.str _) (.nil))) (.cons (λ_ _=>.tup (vs:=[.str "number"]) (.inr ⟨_,_,_,we,rfl,rfl,rfl,(by show 1<=sizeLine;decide),.cons ⟨_,rfl⟩ (.nil)⟩) (.cons (.str _) (.nil))) (.cons (λ_ _=>.tup (vs:=[.str "side",.str "number",.str "number"]) (.inr ⟨_,_,_,wc,rfl,rfl,rfl,(by show 3<=sizeLine;decide),.cons ⟨_,rfl⟩ (.cons ⟨_,rfl⟩ (.cons ⟨_,rfl⟩ (.nil)))⟩) (.cons (.str _) (.cons (.str _) (.cons (.str _) (.nil))))) (.cons (λ_ _=>.tup (vs:=[.str "number",.str "number"]) (.inr ⟨_,_,_,wb,rfl,rfl,rfl,(by show 2<=sizeLine;decide),.cons ⟨_,rfl⟩ (.cons ⟨_,rfl⟩ (.nil))⟩) (.cons (.str _) (.cons (.str _) (.nil)))) (.cons (λ_ _=>.tup (vs:=[.str "number"]) (.inr ⟨_,_,_,wa,rfl,rfl,rfl,(by show 1<=sizeLine;decide),.cons ⟨_,rfl⟩ (.nil)⟩) (.cons (.str _) (.nil))) (.nil))))))⟩
 obtain⟨f,fd,O,a,t⟩:=JZ I tx _ (aH (i:=35) rfl);cases Nd.symm.trans (bX X G a);obtain⟨oc,od,kV,doc,pm,an,fG,ct,lP,rfl,lk,lz⟩:=O.fn.ex;exact⟨_,λs v=>.of_eq rfl,λbase mx vT=>WW mx vT A 40 11 _ _ fa _ rfl O⟩
theorem walk{l:PySem.W.OpenLaw}{q:Program}{loose:List Str}{XP:(Str->Option Value)->Heap->Prop}{YP:World->Heap->Prop}{d:DefRec}{K:Params->PySem.W.Frag}(hn:l.most=some 63)(vD:d.params.defaults=[])(hY:∀(w:World) (h:Heap),YP w h->(K w.params).In h)(F:∀ (w:World) (mg:Str->Option Value) (fa:Addr) (h:Heap),(K w.params).In h->h.Ns mainGlobals mg->mg d.name=some (.ref fa) ->
   ∃ fd:FuncData,(∀ (s:Shared) (u:Value),BindsTo s fd ⟨[u],[]⟩ [("_law_script",u)])/\∀ base:Heap,(K w.params).In base->base.Ns mainGlobals mg->gN l.prog w (K w.params) mg base (gO l.prog w) 80 fa fd ["_law_script"] (pA exc (K w.params) 1 (a9 T 40 11))) :
  PySem.W.WalkO q loose XP YP l.row.toRowW d [] (λf vs=>PySem.call f vs) :=
 L2.Sy (n:=63) (k:=80) (x:="_law_script") (CX:=λw=>gO l.prog w) (sp:=λw=>pA exc (K w.params) 1 (a9 T 40 11)) hn (by decide) vD ⟨rfl,by decide,by decide⟩ hY F (λw H a ns hl hO hS=>Xu hO hS (a96 (k:=26) ⟨⟨⟨⟨⟨rfl,rfl⟩,rfl,rfl,rfl,rfl,rfl,rfl,rfl,rfl,rfl,rfl,rfl,rfl,rfl,rfl⟩,rfl,rfl,rfl,rfl,rfl,rfl,rfl⟩,rfl,rfl,rfl,rfl,rfl,rfl⟩,⟨rfl,rfl,rfl,rfl,rfl,rfl⟩,⟨rfl,rfl,rfl,rfl,rfl,rfl,rfl,rfl⟩,rfl,rfl,rfl,rfl,rfl,rfl,rfl,rfl,rfl,rfl,rfl,rfl,rfl,rfl,rfl,rfl,rfl,rfl,rfl,rfl⟩)) λ_ _ _ _ _ ⟨_,_,_,_,_,_,_,z⟩=>z
end Lk
end _X
open _X
open PySem PySem.W PyProof.Rows
set_option maxRecDepth 100000 in
set_option maxHeartbeats 0 in
theorem PySem.Challenge.cw_trussel_k53_twins_of_ledgers_holds : PySem.Challenge.rw_trussel_k53_twins_of_ledgers.Holds := by
 w_on;o_law;k_head;(case hw=>w_witness2)
 k_fill
 refine Lk.walk (l:=PySem.Challenge.rw_trussel_k53_twins_of_ledgers) rfl rfl (fun w h Y=>PySem.W.kIn_of Y) ?F
 case F =>
  intro w mg fa h KX G hmg
  refine' Lk.all_mk KX G hmg ⟨?zz1,?zz2,?zz3,?zz4,?zz5,?zz6,?zz7⟩ ?_ ?_ ?_ ?_ ?_ ?_ ?_ ?_ ?_ ?_ ?_ ?_ ?_ ?_ ?_ ?_ ?_ ?_ ?_ ?_ ?_ ?_
  (case zz1=>repeat' first | (with_reducible show _=_;k_is) | exact M.PF.nil | apply M.PF.cons)
  (case zz2=>repeat' first | (with_reducible show _=_;k_is) | exact M.PM.nil | apply M.PM.cons)
  (case zz3=>repeat' first | (with_reducible show _=_;k_is) | exact M.PC.nil | apply M.PC.cons)
  (case zz4=>repeat' first | (with_reducible show _=_;k_is) | exact M.PA.nil | apply M.PA.cons)
  (case zz5=>repeat' first | (with_reducible show _=_;k_is) | exact M.PB.nil | apply M.PB.cons)
  (case zz6=>repeat' first | (with_reducible show _=_;first | (with_reducible show PySem.W.excIn _ _ _ _=true;k_exc) | k_is) | exact M.PX.nil | apply M.PX.cons)
  (case zz7=>kernel_rfl)
  all_goals try (with_reducible show _=_;k_is)
  all_goals try ((with_reducible show _=_);rfl)
#print axioms PySem.Challenge.cw_trussel_k53_twins_of_ledgers_holds
