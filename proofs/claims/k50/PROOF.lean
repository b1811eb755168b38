import PyProof.Rows.All
import Wide.All
import OpenK.AllK
import Wide.FinOn
import Lean
import PyProof.EqAt
import PyProof.EqKinds
import PyProof.TupleCall
import PySem.Challenge.RW_trussel_k50_ledgers_written
set_option Elab.async false
set_option linter.all false
set_option maxRecDepth 100000
set_option maxHeartbeats 4000000
namespace PySem.W.Fast
def tw14974211420786565292:=()
def tw6881189342304458588:=()
def tw7179900327231571772:=()
def tw8606656273381317689:=()
def tw6887749028703127423:=()
def tw4147220829220920151:=()
def tw3016616701488883967:=()
def tw16918867047697075464:=()
def tw12642592570932715995:=()
def tw3747690055690383767:=()
def tw9925772137393368260:=()
def tw4215462525552736171:=()
def tw5569636537082999445:=()
def tw16861049991346424020:=()
def tw17934330611396703870:=()
def tw1329750274144831353:=()
def tw2522562029481391446:=()
def tw14766539565349080058:=()
def tw10189310267826846354:=()
def tw3757105957455006528:=()
def tw18381791485332181040:=()
def tw3894731461204989542:=()
def tw7938662530302139725:=()
def tw989139521893232546:=()
def tw15872099737069664914:=()
def tw12186280960652469564:=()
def tw3769297611676452152:=()
def tw13860687392276138870:=()
def tw10350687804303128330:=()
def tw4980762634059590351:=()
def tw12150260881650918989:=()
def tw16495115474499249840:=()
def tw4696654876801200870:=()
def tw1916699283757983668:=()
def tw1885728434683981313:=()
def tw18224811532534834324:=()
def tw10457196958767874143:=()
def tw2283694708984814060:=()
def tw6793831399473836208:=()
def tw12185065553055291368:=()
def tw14102006581492429369:=()
def tw11201547026905592926:=()
def tw12464959293934082760:=()
def tw6252964730408224406:=()
def tw4194677319607851600:=()
def tw3567622405528974737:=()
def tw9894353829568343154:=()
def tw12765737011902796902:=()
def tw12037563684693777845:=()
def tw1689926779362782133:=()
def tw10926564724916015243:=()
def tw4410986714975076607:=()
def tw12166960107365507876:=()
def tw5690184048752722827:=()
def tw14087556155498440942:=()
def tw18356059729093439154:=()
def tw11450661139476884758:=()
def tw14781430089303402432:=()
def tw217244140803857352:=()
def tw6035945594636541991:=()
def tw2439052448073961357:=()
def tw16830842062602515884:=()
def tw5587253682566820141:=()
def tw2882710276893772332:=()
def tw12432311195236148262:=()
def tw8104136597645167803:=()
def tw14954738134200257095:=()
def tw448729500746655072:=()
def tw17540419120568776627:=()
def tw2194679690561747915:=()
def tw10406361129004636404:=()
def tw13369292076640621989:=()
def tw3098653050378750812:=()
def tw10614515657280335005:=()
def tw3184901818473670569:=()
def tw2160665101231701185:=()
def tw10799381706156659924:=()
def tw14626268196178234:=()
def tw17813727988059982955:=()
def tw6026830291700325282:=()
def tw18276602628473583707:=()
def tw4819031619269969481:=()
def tw16996345260649041911:=()
def tw2955249207813956224:=()
def tw15403696712035127384:=()
def tw9692516378407520665:=()
def tw3212919466596663532:=()
def tw1987179444302878076:=()
def tw16178357557382335237:=()
def tw14131608196503592968:=()
def tw14542787990991734135:=()
def tw10711504236028130312:=()
def tw15499560086230238739:=()
def tw18088751302474416360:=()
def tw12114176994098112738:=()
def tw10400113230889247283:=()
def tw12034251549269642018:=()
def tw12622590720619506565:=()
def tw8635930018990246392:=()
def tw18324030706145544507:=()
def tw4064867997081093133:=()
def tw7114070684832947079:=()
def tw12361355686272537982:=()
def tw7027755239210349175:=()
def tw321818036317683496:=()
def tw431326795593259759:=()
def tw3338018292339429598:=()
def tw5529816346439602417:=()
def tw2907480282601687956:=()
def tw2849143281203536:=()
def tw9681065576364256640:=()
def tw15404975191523425834:=()
def tw8285021424768052504:=()
def tw720664971724973226:=()
def tw12360717895265180055:=()
def tw17785892322627105917:=()
def tw1370089600078478953:=()
def tw11958420111588943020:=()
def tw18437994691628023343:=()
def tw4304304233599875644:=()
def tw14788203030134809654:=()
def tw13816238083130605652:=()
def tw18076874325461985994:=()
def tw16590912946184183900:=()
def tw13089417914812693762:=()
def tw10334050526623005283:=()
def tw9642335537535293311:=()
def tw9536835028534695828:=()
def tw5259455711369332516:=()
def tw1336916815738103263:=()
def tw6464086743988120798:=()
def tw10621525019006787281:=()
def tw13506407909897117585:=()
def tw16700248026737375125:=()
def tw16017198159749614943:=()
def tw841687031605268350:=()
def tw8007559468718746643:=()
def tw9149877097340737873:=()
def tw14885082015400449623:=()
def tw16654506803939486094:=()
def tw5466334624992033270:=()
def tw17325697310515697255:=()
def tw4095683981451489126:=()
def tw14788968847738503125:=()
def tw1634422795518844360:=()
def tw17188336527683471167:=()
def tw17050895567890229217:=()
def tw9538589100839571964:=()
def tw7556535506094334679:=()
def tw12767924722223706360:=()
def tw15625374471196306729:=()
def tw12613618432741303145:=()
def tw11801199130231756950:=()
def tw6539640298421630468:=()
def tw10970694418055253045:=()
def tw937998119383834376:=()
def tw5875310983336476210:=()
def tw18349445897778527550:=()
def tw9893799422821737649:=()
def tw8146023423918239283:=()
def tw15345248518055480330:=()
def tw16410197036088535925:=()
def tw410867236413940849:=()
def tw13501993428829981894:=()
def tw12267906130709031279:=()
def tw17515409721607265855:=()
def tw4744070210992459474:=()
def tw13562886871453809341:=()
def tw4494434400258088718:=()
def tw6497932187164226230:=()
def tw10807507902364135254:=()
def tw1650493947052564226:=()
def tw13538367536511473801:=()
def tw13413284751010567289:=()
def tw1376254038542884212:=()
def tw13703369216822528897:=()
def tw11995460633520717528:=()
def tw4314101869138930822:=()
def tw4691588707295829249:=()
def tw9766582202377825938:=()
def tw3329893368314873953:=()
def tw9348118405100744482:=()
def tw9891516780931654574:=()
def tw10323415252480105810:=()
def tw11501180348661351598:=()
def tw6615028358192092652:=()
def tw1948925297136580138:=()
def tw14620695235850860383:=()
def tw3300975596005167424:=()
def tw4293412545410054346:=()
def tw15458212168977282942:=()
def tw6882503877400527064:=()
def tw10234515336707229871:=()
def tw17637833750673233990:=()
def tw5290635751557866161:=()
def tw4586116622157730580:=()
def tw15037992529410915047:=()
def tw12985472643874332937:=()
def tw9689116950354989066:=()
def tw15148735355900431042:=()
def tw10945842762397113263:=()
def tw14076437855639479679:=()
def tw366896935217443240:=()
def tw7691742733180379414:=()
def tw12311611497222994734:=()
def tw1044883005299763787:=()
def tw13091154523168936182:=()
def tw4516188057621060057:=()
def tw3575363380839758189:=()
def tw14886595172481496240:=()
def tw1598856991350430059:=()
def tw10464177693686158050:=()
def tw18238594695091559794:=()
def tw5030571888112957063:=()
def tw4999112753255404319:=()
def tw3224769340699312227:=()
def tw13636060580937421578:=()
def tw18200852675268865751:=()
def tw1986494056330579661:=()
def tw11058801733974492178:=()
def tw4580562825782146215:=()
def tw9643253667984182010:=()
def tw9108527137707570475:=()
def tw2644814854888415916:=()
def tw15278771694578867590:=()
def tw5574387783972902060:=()
def tw4525681695419150647:=()
def tw2172270026899119236:=()
def tw4941592997878886812:=()
def tw2177163733469728115:=()
def tw10433700237624217497:=()
def tw8240753679076882906:=()
def tw248422255162846626:=()
def tw11415453742043755127:=()
def tw1866485050856745139:=()
def tw4675152791312504149:=()
def tw5287161373001231244:=()
def tw16745669957695294193:=()
def tw9127115412121201106:=()
def tw17510817521100379448:=()
def tw3421343777749534469:=()
def tw2528452070054088267:=()
def tw8474483664955548938:=()
def tw10616580484767448561:=()
def tw5820907981230441137:=()
def tw10086357722909899335:=()
def tw3154159716916258162:=()
def tw3666486766273723349:=()
def tw16268416592662234313:=()
def tw5951690380690873077:=()
def tw5353327632424976068:=()
def tw13282177521947346055:=()
def tw1660115736173814049:=()
def tw8742997854073715482:=()
def tw590590808799173099:=()
def tw9121181539289635095:=()
def tw7931272594740003417:=()
def tw4389106864590419298:=()
def tw1822255049858152614:=()
def tw13559860249639266007:=()
def tw6780484025098526974:=()
def tw10985027553825483740:=()
def tw1076807444761311686:=()
def tw2671095140744753536:=()
def tw10804208336496241078:=()
def tw963010561634192704:=()
def tw5400186114853061912:=()
def tw10136401003114176107:=()
def tw3308469331968461289:=()
def tw4921479003907558373:=()
def tw4516166987425801125:=()
def tw14754493929754479182:=()
def tw18376848978355500080:=()
def tw11281505926009382909:=()
def tw14691652031080026437:=()
def tw17997480411855801237:=()
def tw7054558410721588598:=()
def tw13617375471334428486:=()
def tw12818594074977961344:=()
def tw9057181820609950593:=()
def tw9612685265657492111:=()
def tw15662044717259140886:=()
def tw486503463783273554:=()
def tw15655580027297069408:=()
def tw1410856805833203426:=()
def tw14810688186668090885:=()
def tw420494964995735028:=()
def tw6810170606759383641:=()
def tw5139247595269009401:=()
def tw8748920178954666433:=()
def tw6846716528726986579:=()
def tw17935301023155025582:=()
def tw8697971023489499219:=()
def tw2811582676861442426:=()
def tw14124233335074442591:=()
def tw14322484678946036496:=()
def tw16201300072359776563:=()
def tw4253678663174533297:=()
def tw8554098829894350963:=()
def tw12676214948018898775:=()
def tw10059827875306272790:=()
def tw10060459402003541350:=()
def tw10918198879993580215:=()
def tw10666996187037851043:=()
def tw6341734030793976299:=()
def tw12177729424539035574:=()
def tw4728997709214943811:=()
def tw976862552571593241:=()
def tw10649305586827834734:=()
def tw5086755983069776397:=()
def tw6685726420457059522:=()
def tw3276623302515800154:=()
def tw2337643240022026883:=()
def tw17667816434495178034:=()
def tw2193030173442890464:=()
def tw6025706796752326434:=()
def tw946558265660891410:=()
def tw16518776998818827842:=()
def tw14134061941177234821:=()
def tw14928060476903634903:=()
def tw10916571877038867163:=()
def tw11117433325993014760:=()
def tw10639436249011292152:=()
def tw3239784428076539020:=()
def tw15708038194357578459:=()
def tw9297455586603260135:=()
def tw11068304623136104512:=()
def tw15413772704949125039:=()
def tw3423340774968061322:=()
def tw9376378046648432159:=()
def tw5225977233768284342:=()
def tw398285493760674420:=()
def tw3637688649938045569:=()
def tw4500425689829097249:=()
def tw13063080751123340711:=()
def tw2770115391330212402:=()
def tw7284846867305118013:=()
def tw7926552243008680289:=()
def tw5202887724013280516:=()
def tw14049613190213241823:=()
def tw16551257203845088471:=()
def tw15877234852006346355:=()
def tw12185577109117146885:=()
def tw494096718022313935:=()
def tw11084915400493481281:=()
def tw11400554485547441380:=()
def tw2855358824052399243:=()
def tw2050485452305551362:=()
def tw4960152224968564732:=()
def tw3776663892876022071:=()
def tw7186978687299168712:=()
def tw6254815219655073873:=()
def tw4796581018610588903:=()
def tw15167734347846127505:=()
def tw14229143238535433623:=()
def tw15136202312719278530:=()
def tw8658229410198363605:=()
def tw13712844463492232113:=()
def tw3463740337411726358:=()
def tw15032175244648508489:=()
def tw9228312168300907137:=()
def tw14788840065195890558:=()
def tw13823100677136114554:=()
def tw16086144923799646816:=()
def tw1219251613594161969:=()
def tw9654982845773399425:=()
def tw4894934245728514364:=()
def tw3613132116043072429:=()
def tw8432947761597537626:=()
def tw3393459622002340776:=()
def tw2262594600283519441:=()
def tw1587576519763772911:=()
def tw7698184099034841176:=()
def tw10913989424776160088:=()
def tw13880322327918224917:=()
def tw8792356895441697073:=()
def tw5848506863301182804:=()
def tw10042372916739369726:=()
def tw6405103242876421064:=()
def tw386924198563257300:=()
def tw12695363132287827364:=()
def tw768061147172316316:=()
def tw9025832161049348427:=()
def tw16662204456790227632:=()
def tw14607554759225265022:=()
def tw16126682365678560499:=()
def tw6112866364806916481:=()
def tw13257510327439275958:=()
def tw2113840837743971377:=()
def tw6268916908057337665:=()
def tw10519199775377818117:=()
def tw15271018406564399197:=()
def tw8359764134880941037:=()
def tw76787398405189466:=()
def tw880407839224024689:=()
def tw10715761393658865740:=()
def tw11196319781923385055:=()
def tw13298705424797408855:=()
def tw8304501310845546472:=()
def tw3779196270830842714:=()
def tw16839955809123369422:=()
def tw11664171543190810607:=()
def tw8936998554876052546:=()
def tw983603946030493639:=()
def tw2634009046980097447:=()
def tw10442676667929979642:=()
def tw4440016683490930528:=()
def tw3161160310435770366:=()
def tw3812329084422709972:=()
def tw4632238708676025744:=()
def tw425888060185708712:=()
def tw9476997585456226239:=()
def tw11186704932653930435:=()
def tw586535687233281692:=()
def tw10073155972436180098:=()
def tw15529040468912196306:=()
def tw3553264246110727862:=()
def tw8246639009406272365:=()
def tw7584709359805846678:=()
def tw15735933311882018598:=()
def tw4643474093366804901:=()
def tw6619294791995253706:=()
def tw9660783496217305444:=()
def tw16188516273448620482:=()
def tw9414973780675396761:=()
def tw2325220482457412827:=()
def tw13493878318713544235:=()
def tw7805946369748620654:=()
def tw15102611709475910941:=()
def tw14875155711138752737:=()
def tw7602514659220439850:=()
def tw13927000458803499936:=()
def tw866967621378374302:=()
def tw1894639969991371843:=()
def tw14977241339393463683:=()
def tw9384766424408840773:=()
def tw6892672458892158417:=()
def tw10604030753990238156:=()
def tw17552231373163415131:=()
def tw46254124050924612:=()
def tw17477294933125499413:=()
def tw10888563100045639781:=()
def tw7759712329561856839:=()
def tw8197477669399820277:=()
def tw4678371147115918448:=()
def tw6229275732913648874:=()
def tw9240271564043167147:=()
def tw13432003590168409823:=()
def tw3446480721445809950:=()
def tw16500109949056745788:=()
def tw8881459121277775314:=()
def tw465985992685259255:=()
def tw12454527824842084230:=()
def tw15256953789380088772:=()
def tw10464867701075429926:=()
def tw3663176250568752102:=()
def tw17359177570431314768:=()
def tw13112368956006274383:=()
def tw8344867864962148607:=()
def tw7525266345552391672:=()
def tw17180956100944026943:=()
def tw4104278297489354263:=()
def tw8213129851255788803:=()
def tw2810978214171634605:=()
def tw877439674579735381:=()
def tw18182403833933675881:=()
def tw4902247101647870603:=()
def tw17931535675569497108:=()
def tw17867436982996640564:=()
def tw7553797835157502202:=()
def tw9392728731886077195:=()
def tw6650093201450025067:=()
def tw10782933544841880544:=()
def tw1155925564511614863:=()
def tw13593423057080008478:=()
def tw8370114536155415596:=()
def tw7885169574295664348:=()
def tw9690964250972059831:=()
def tw15947782050303296624:=()
def tw1945789254952123294:=()
def tw9063303365840135403:=()
def tw6352707882091025923:=()
def tw16080105112185029038:=()
def tw13356582679532282522:=()
def tw4886855985808215046:=()
def tw8219080809095074477:=()
def tw448486586406197621:=()
def tw11808239911452598078:=()
def tw13410958456575359560:=()
def tw17152566563577005044:=()
def tw6944814352843991879:=()
def tw981705423311561890:=()
def tw11232976363645934893:=()
def tw15765050957247196420:=()
def tw14949984988981557114:=()
def tw10755282346692040022:=()
def tw14337947068755032516:=()
def tw15310979289992834170:=()
def tw11019857944558131307:=()
def tw11211125927801764041:=()
def tw17588078899742455256:=()
def tw15673018061852175994:=()
def tw5342190298825110019:=()
def tw5657975141870700560:=()
def tw7944970509866016375:=()
def tw4339599497440921001:=()
def tw4785257199750656381:=()
def tw641834554356141743:=()
def tw6397326581477268209:=()
def tw12157939561266884496:=()
def tw3694894020147330255:=()
def tw13378343447247102716:=()
def tw7039067231919395241:=()
def tw15736967654165230317:=()
def tw8596844186710682246:=()
def tw18442110757243254035:=()
def tw10753322080770715916:=()
def tw16908883131157204865:=()
def tw2282146913985832684:=()
def tw7787357806215400055:=()
def tw15831946239041437435:=()
def tw13448228876122547285:=()
def tw13856080786075518619:=()
def tw2425739770977333618:=()
def tw15819578367037297538:=()
def tw14249983470673315177:=()
def tw8565810640966191573:=()
def tw2724171292486171760:=()
def tw748584325281160821:=()
def tw17939025548644870970:=()
def tw8381278289855209395:=()
def tw7142422334509843021:=()
def tw7839514901272927269:=()
def tw15394456198652720704:=()
def tw9579757180202443102:=()
def tw12155908763019671625:=()
def tw1123438513819110967:=()
def tw3108144217251202632:=()
def tw2572971925865610762:=()
def tw5395196369800001478:=()
def tw5037111776142759696:=()
def tw17294424911004997087:=()
def tw16783715826752704774:=()
def tw12821163087517245527:=()
def tw10400645325058975726:=()
def tw17188771007710659869:=()
def tw1085449244682850035:=()
def tw10863517224105559886:=()
def tw7665561609562611455:=()
def tw11222012619734713163:=()
def tw8515090149349860956:=()
def tw5807206556495938597:=()
def tw6680293174558272572:=()
def tw17102074477633156877:=()
def tw13461759155868890351:=()
def tw4142683252323648941:=()
def tw5852935728251864655:=()
def tw7274158790049298421:=()
def tw4009293192505501089:=()
def tw11825621416323606098:=()
def tw6418991708852316414:=()
def tw12362709634162090263:=()
def tw1268522248047554417:=()
def tw15073681807920297908:=()
def tw2784349359065052524:=()
def tw6046895102466015379:=()
def tw2887655484469071091:=()
def tw9241833514160116406:=()
def tw8295248292927622977:=()
def tw904015945536204674:=()
def tw10808395326809558867:=()
def tw12780225455013374231:=()
def tw9792513564197642818:=()
def tw8371450526421632912:=()
def tw2746524365344866228:=()
def tw10723554315360226517:=()
def tw2785566343093688241:=()
def tw12689133187449846681:=()
def tw6490845426551509004:=()
def tw1692054194380126879:=()
def tw9786158847025275767:=()
def tw6006153938917446427:=()
def tw2496915993407181200:=()
def tw5134916952844394492:=()
def tw4050547298642864854:=()
def tw1299416162882434615:=()
def tw7268959292451293836:=()
def tw3784575693576293511:=()
def tw4687265162776151411:=()
def tw1315098447496898537:=()
def tw14307142734475504238:=()
def tw17817762772894308850:=()
def tw3951288847914532188:=()
def tw16990614732168068465:=()
def tw1715948255801392908:=()
def tw587179620147370005:=()
def tw13977582092777059655:=()
def tw1950072411471757010:=()
def tw9998905781306216241:=()
def tw16576781070633720663:=()
def tw5528862513815411983:=()
def tw16435546451280748681:=()
def tw9939945257322902119:=()
def tw3078220190533891358:=()
def tw14994331123853685891:=()
def tw12262767305199359625:=()
def tw15956734105013101384:=()
def tw4221821432075005911:=()
def tw16295087343568263951:=()
def tw8186461227427868931:=()
def tw1855902304591106259:=()
def tw11534369745415079891:=()
def tw12753333061205265469:=()
def tw9874331066945113470:=()
def tw12173318149081236177:=()
def tw3332845344817189833:=()
def tw483709804278882026:=()
def tw16039008183767971856:=()
def tw4186792952667200765:=()
def tw10008062655287314922:=()
def tw14035605613010251648:=()
def tw5969036576308771042:=()
def tw3741134734212869191:=()
def tw7973421875890002378:=()
def tw5335509215000394527:=()
def tw1374630214935409549:=()
def tw17308444656406238747:=()
def tw13319359863830946952:=()
def tw15580589371707298808:=()
def tw11625266724225661982:=()
def tw6666489857875639437:=()
def tw17828375519442655040:=()
def tw13483022908880414384:=()
def tw5847773835167838635:=()
def tw239671713471223097:=()
def tw6137918333197005708:=()
def tw3845705204310536550:=()
def tw16427747503389466915:=()
def tw3675999976157713777:=()
def tw5359144274988148918:=()
def tw11736769352540860553:=()
def tw2955737162362204596:=()
def tw9333785266302832180:=()
def tw11445022697285014617:=()
def tw14739955630557228483:=()
def tw2529605092603645982:=()
def tw6043768814749636977:=()
def tw16062221440824109259:=()
def tw16096578476916659676:=()
def tw675499801061277551:=()
def tw18408880470085051858:=()
def tw4345790437174040695:=()
def tw10964750662389879478:=()
def tw10153067450912883597:=()
def tw7696529600017376506:=()
def tw12300036980273543876:=()
def tw12950999691109523208:=()
def tw17113148271932580814:=()
def tw17316743643994872626:=()
def tw1603787216796677888:=()
def tw10546891484845484139:=()
def tw16762337314287136521:=()
def tw16153300972493603186:=()
def tw18265139694376959275:=()
def tw7317543650670136295:=()
def tw12379228279648957682:=()
def tw1142680057302359229:=()
def tw17745279727118234958:=()
def tw8144343472573810511:=()
def tw13504510168996606402:=()
def tw10317970693259557330:=()
def tw14783328331221066594:=()
def tw7241744038056868718:=()
def tw5371607816511689819:=()
def tw7223227550673060214:=()
def tw1411098307975948494:=()
def tw2428988734625079074:=()
def tw12611346909459028761:=()
def tw16627000750983757528:=()
def tw5294535117465841812:=()
def tw13941825424484815191:=()
def tw6113890036406383716:=()
def tw11423407543233516993:=()
def tw4738738124162437011:=()
def tw7782397413491277919:=()
def tw16645020156459723771:=()
def tw14355934359696848415:=()
def tw10047280150668066589:=()
def tw7856251679546434758:=()
def tw6073598406839481431:=()
def tw17825296696844220620:=()
def tw9095079718467838982:=()
def tw1496594397110624:=()
def tw12618152776266583673:=()
def tw1214699522345815552:=()
def tw626134878946056154:=()
end PySem.W.Fast
namespace L2
open PySem PySem.Spec PyProof.Rows
noncomputable abbrev Key:=Sum Int Str
noncomputable def Z8:Key->Value->Bool
 |.inl k,v=>Value.isInt k v
 |.inr x,v=>Value.isStrOf x v
noncomputable def bI4(w:World):Key->Int
 |.inl k=>hashInt k
 |.inr x=>hashStr w x
theorem l8:∀{k:Key} {v:Value},Z8 k v=true->(∃i t,k=Sum.inl i/\v=Value.int i t)\/(∃x t,k=Sum.inr x/\v=Value.str x t)
 |.inl i,v,h=>by
  obtain⟨t,e⟩:=Value.isInt_shape (k:=i) (v:=v) h;exact .inl ⟨i,t,rfl,e⟩
 |.inr x,v,h=>by
  obtain⟨t,e⟩:=Value.isStrOf_shape (x:=x) (v:=v) h;exact .inr ⟨x,t,rfl,e⟩
theorem aQ3(i:Int)(t:Tok):Z8 (.inl i) (.int i t)=true:=by simp[Z8,Value.isInt]
theorem aQ2(x:Str)(t:Tok):Z8 (.inr x) (.str x t)=true:=by simp[Z8,Value.isStrOf]
theorem br0(a b:Int):decide ((Sum.inl a:Key)=Sum.inl b)=(a==b):=by
 by_cases e:a=b
 ·subst e;simp
 ·have h:¬(Sum.inl a:Key)=Sum.inl b:=fun q=>e (Sum.inl.inj q);rw[decide_eq_false h];exact(beq_eq_false_iff_ne.mpr e).symm
theorem bq7(a b:Str):decide ((Sum.inr a:Key)=Sum.inr b)=decide (a=b):=by
 by_cases e:a=b
 ·subst e;simp
 ·have h:¬(Sum.inr a:Key)=Sum.inr b:=fun q=>e (Sum.inr.inj q);rw[decide_eq_false h,decide_eq_false e]
theorem bq9(a:Int)(b:Str):decide ((Sum.inl a:Key)=Sum.inr b)=false:=decide_eq_false (fun q=>nomatch q)
theorem bq8(a:Str)(b:Int):decide ((Sum.inr a:Key)=Sum.inl b)=false:=decide_eq_false (fun q=>nomatch q)
noncomputable def j8(prog:Program)(w:World):PySem.KeyKind prog w Key where
 is:=Z8
 hash:=bI4 w
 inj:=fun v a b ha hb=>by
  rcases l8 ha with⟨i,t,rfl,rfl⟩|⟨x,t,rfl,rfl⟩
  ·rcases l8 hb with⟨j,u,rfl,e⟩|⟨y,u,rfl,e⟩
   ·injection e with e1 _;rw[e1]
   ·exact nomatch e
  ·rcases l8 hb with⟨j,u,rfl,e⟩|⟨y,u,rfl,e⟩
   ·exact nomatch e
   ·injection e with e1 _;rw[e1]
 byValue:=fun k v h=>by
  rcases l8 h with⟨i,t,rfl,rfl⟩|⟨x,t,rfl,rfl⟩<;>rfl
 pyHash:=fun hv h=>by
  rcases l8 hv with⟨i,t,rfl,rfl⟩|⟨x,t,rfl,rfl⟩
  ·exact wpAny_pyHash_int h
  ·exact wpAny_pyHash_str h
 eqBool:=fun hu hv h=>by
  rcases l8 hu with⟨i,t,rfl,rfl⟩|⟨x,t,rfl,rfl⟩
  ·rcases l8 hv with⟨j,u,rfl,rfl⟩|⟨y,u,rfl,rfl⟩
   ·rw[br0] at h;exact wpAny_eqBool_int h
   ·rw[bq9] at h;exact SeqAt.EqAt.int_str i t y u _ _ _ _ h
  ·rcases l8 hv with⟨j,u,rfl,rfl⟩|⟨y,u,rfl,rfl⟩
   ·rw[bq8] at h;exact SeqAt.EqAt.str_int x t j u _ _ _ _ h
   ·rw[bq7] at h;exact wpAny_eqBool_str h
 «strs»:=fun k x t v h=>by
  rcases l8 h with⟨i,u,rfl,e⟩|⟨y,u,rfl,e⟩
  ·exact nomatch e
  ·injection e with e1 _;subst e1;cases v<;>rfl
theorem ay4(prog:Program)(w:World)(i:Int)(t:Tok):(j8 prog w).is (.inl i) (.int i t)=true:=aQ3 i t
theorem ay3(prog:Program)(w:World)(x:Str)(t:Tok):(j8 prog w).is (.inr x) (.str x t)=true:=aQ2 x t
end L2
namespace L2
open PySem PySem.Spec PyProof.Rows
inductive V where
 |non|bl (b:Bool)|int (i:Int)|str (x:Str)|byt (b:Array UInt8)|flt (b:UInt64)|ref (a:Addr)|ty (n:String)
 deriving DecidableEq
noncomputable def RelV:V->Value->Prop
 |.non,u=>u=Value.none
 |.bl b,u=>u=Value.bool b
 |.int i,u=>∃t,u=Value.int i t
 |.str x,u=>∃t,u=Value.str x t
 |.byt b,u=>∃t,u=Value.bytes b t
 |.flt b,u=>∃t,u=Value.float b t
 |.ref a,u=>u=Value.ref a
 |.ty n,u=>u=Value.type n
noncomputable abbrev Vals:List V->List Value->Prop:=Paired RelV
theorem Vals.length{xs:List V}{us:List Value}(r:Vals xs us):xs.length=us.length:=Paired.length r
theorem Vals.get:∀{xs:List V} {us:List Value} {i:Nat} {x:V},Vals xs us->xs[i]?=some x->∃u,us[i]?=some u/\RelV x u
 |_,_,_,_,.nil,e=>by simp at e
 |_,_,0,_,.cons r _,e=>by simp at e;subst e;exact⟨_,rfl,r⟩
 |_,_,i+1,x,.cons _ t,e=>by
  obtain⟨u,h1,h2⟩:=Vals.get (i:=i) (x:=x) t (by simpa using e);exact⟨u,by simpa using h1,h2⟩
theorem Vals.set{x:V}{u:Value}(r:RelV x u):∀{xs:List V} {us:List Value} (i:Nat),Vals xs us->Vals (xs.set i x) (us.set i u)
 |_,_,_,.nil=>.nil
 |_,_,0,.cons _ t=>.cons r t
 |_,_,i+1,.cons q t=>.cons q (Vals.set r i t)
theorem Vals.append:∀{xs ys:List V} {us ws:List Value},Vals xs us->Vals ys ws->Vals (xs++ys) (us++ws)
 |_,_,_,_,.nil,s=>s
 |_,_,_,_,.cons r t,s=>.cons r (Vals.append t s)
theorem Vals.take:∀{xs:List V} {us:List Value} (n:Nat),Vals xs us->Vals (xs.take n) (us.take n)
 |_,_,0,_=>.nil
 |_,_,_+1,.nil=>.nil
 |_,_,n+1,.cons r t=>.cons r (Vals.take n t)
theorem Vals.drop:∀{xs:List V} {us:List Value} (n:Nat),Vals xs us->Vals (xs.drop n) (us.drop n)
 |_,_,0,r=>r
 |_,_,_+1,.nil=>.nil
 |_,_,n+1,.cons _ t=>Vals.drop n t
noncomputable def q8:Option V->Option Value->Prop
 |some v,some u=>RelV v u
 |none,none=>True
 |_,_=>False
noncomputable def KV{κ:Type}:List (κ×V)->List (κ×Value)->Prop:=Paired fun(p:κ×V) (q:κ×Value)=>p.1=q.1/\RelV p.2 q.2
noncomputable def kV:Key->V
 |.inl i=>.int i
 |.inr x=>.str x
inductive HO where
 |lst (xs:List V)
 |tup (xs:List V)
 |dK (kvs:List (Key×V))|dT (kvs:List (List Key×V))
 |set (S:Int->Bool) (n:Nat)
 |ins (C dx:Addr) (fs:List (Str×V))
 |own (x:Addr)
 |xd (fs:List (Str×V))
 |met (f x:Addr)
 |rng (lo hi:Int)
 |frz (o:Obj) (u:HO)
 |tbl (ps:Array Value)
 |ext (φ:Heap->Prop)
noncomputable abbrev Hp:=Addr->Option HO
noncomputable def upd(H:Hp)(a:Addr)(o:HO):Hp:=fun b=>if b=a then some o else H b
theorem j5{H:Hp}{a:Addr}{o:HO}:upd H a o a=some o:=by unfold upd;rw[if_pos rfl]
theorem e8{H:Hp}{a b:Addr}{o:HO}(h:b≠a):upd H a o b=H b:=by unfold upd;rw[if_neg h]
theorem by3{H:Hp}{a b:Addr}{o u:HO}(h:H a=some o)(h':H b=some u)(d:o≠u):a≠b:=by
 intro e;subst e;rw[h] at h';exact d (Option.some.inj h')
theorem j6{H:Hp}{a b:Addr}{o:HO}(h:H a=some o)(h':H b=none):a≠b:=by
 intro e;subst e;rw[h] at h';cases h'
noncomputable def A3(h:Heap)(a:Addr)(items:Array Value):Prop:=∃o,h.get? a=some o/\o.cls=.type "tuple"/\(∃n,o.data=.seq items n)/\o.dict=none
theorem A3.tup{h:Heap}{a:Addr}{items:Array Value}(x:A3 h a items):IsTup h a items:=let ⟨o,e,c,d,_⟩:=x;⟨o,e,c,d⟩
theorem A3.new(h:Heap)(items:Array Value):A3 (h.push { cls:=.type "tuple",data:=.seq items }) h.objs.size items:=⟨_,Heap.get?_push_size _ rfl,rfl,⟨_,rfl⟩,rfl⟩
section
variable(P:Program)(w:World)
noncomputable def g8(H:Hp)(h:Heap)(a:Addr):HO->Prop
 |.lst xs=>xs.length<=sizeLine/\∃(its:List Value) (n:Nat),Vals xs its/\h.get? a=some { cls:=.type "list",data:=.seq its.toArray n }
 |.tup xs=>xs.length<=sizeLine/\∃its:List Value,Vals xs its/\A3 h a its.toArray
 |.dK kvs=>kvs.length<=sizeLine/\(a==sysModules)=false/\∃vs,KV kvs vs/\h.DictOf (j8 P w) a vs
 |.dT kvs=>kvs.length<=sizeLine/\(a==sysModules)=false/\∃xs:List (List Key×Addr×Value),
   Paired (fun(p:List Key×V) (q:List Key×Addr×Value)=>p.1=q.1/\H q.2.1=some (.tup (p.1.map kV))/\RelV p.2 q.2.2) kvs xs /\
   ∃o es ep,h.get? a=some o/\o.ExactDict/\o.data=.dict es ep/\es.toList=xs.map (entryOfKey (tupleKind (j8 P w)))/\(xs.map (·.1)).Nodup
 |.set S n=>h.SetOf (intKind P w) a S n
 |.ins C dx fs=>H dx=some (.own a)/\fs.length<=1000/\dx≠a/\h.get? a=some (PySem.W.instObj C dx) /\
   ∃mA,h.Ns1 dx mA/\(∀f,q8 (fs.lookup f) (mA f))/\PySem.Within mA (fs.map (·.1))
 |.own _=>∃o,h.get? a=some o
 |.xd fs=>∃mA,h.Ns1 a mA/\∀f,q8 (fs.lookup f) (mA f)
 |.rng lo hi=>∃t u v,h.get? a=some { cls:=.type "range",data:=.fields #[.int lo t,.int hi u,.int 1 v] }
 |.frz o u=>h.get? a=some o/\g8 H h a u
 |.tbl ps=>h.get? a=some { cls:=.none,data:=.fields ps }
 |.met f x=>h.get? a=some (PySem.W.methodObj (.ref f) (.ref x))
 |.ext φ=>φ h/\(∃o,h.get? a=some o)/\∀h1 h2:Heap,φ h1->(∀o,h1.get? a=some o->h2.get? a=some o)->φ h2
noncomputable def HOk(H:Hp)(h:Heap):Prop:=∀a o,H a=some o->g8 P w H h a o
end
section
variable{P:Program}{w:World}{H H':Hp}{h h':Heap}{a:Addr}{o:HO}
theorem g8.lt(x:g8 P w H h a o):a<h.objs.size:=by
 cases o with
 |lst xs=>obtain⟨_,_,_,_,e⟩:=x;exact Heap.lt_size e
 |tup xs=>obtain⟨_,_,_,p⟩:=x;exact p.tup.lt
 |dK kvs=>obtain⟨_,_,_,_,o,_,_,e,_⟩:=x;exact Heap.lt_size e
 |dT kvs=>obtain⟨_,_,_,_,o,_,_,e,_⟩:=x;exact Heap.lt_size e
 |set S n=>obtain⟨o,_,_,_,e,_⟩:=x;exact Heap.lt_size e
 |ins C dx fs=>obtain⟨_,_,_,e,_⟩:=x;exact Heap.lt_size e
 |own y=>obtain⟨_,e⟩:=x;exact Heap.lt_size e
 |xd fs=>obtain⟨_,⟨_,_,_,e,_⟩,_⟩:=x;exact Heap.lt_size e
 |rng lo hi=>obtain⟨_,_,_,e⟩:=x;exact Heap.lt_size e
 |frz ob u=>obtain⟨e,_⟩:=x;exact Heap.lt_size e
 |tbl ps=>exact Heap.lt_size (show h.get? a=some _ from x)
 |met f y=>exact Heap.lt_size (show h.get? a=some _ from x)
 |ext φ=>obtain⟨_,⟨_,e⟩,_⟩:=x;exact Heap.lt_size e
theorem Paired.aY7{α β:Type}{F G:α->β->Prop}:∀{l₁:List α} {l₂:List β},Paired F l₁ l₂->(∀a b,F a b->G a b)->Paired G l₁ l₂
 |_,_,.nil,_=>.nil
 |_,_,.cons r t,f=>.cons (f _ _ r) (Paired.aY7 t f)
theorem g8.R7(x:g8 P w H h a o)(k:∀b u,(b=a\/H b=some (.own a))->h.get? b=some u->h'.get? b=some u)(ho:∀b,H b=some (.own a)->H' b=some (.own a))(ht:∀b xs,H b=some (.tup xs)->H' b=some (.tup xs)):g8 P w H' h' a o:=by
 induction o with
 |lst xs=>obtain⟨z,its,n,r,e⟩:=x;exact⟨z,its,n,r,k _ _ (.inl rfl) e⟩
 |tup xs=>obtain⟨z,its,r,ob,e,c⟩:=x;exact⟨z,its,r,ob,k _ _ (.inl rfl) e,c⟩
 |dK kvs=>obtain⟨z,y,vs,r,ob,es,ep,e,c⟩:=x;exact⟨z,y,vs,r,ob,es,ep,k _ _ (.inl rfl) e,c⟩
 |dT kvs =>
  obtain⟨z,y,xs,r,ob,es,ep,e,c⟩:=x;exact⟨z,y,xs,Paired.aY7 r fun p q z=>⟨z.1,ht _ _ z.2.1,z.2.2⟩,ob,es,ep,k _ _ (.inl rfl) e,c⟩
 |set S n=>obtain⟨ob,es,ep,t,e,c⟩:=x;exact⟨ob,es,ep,t,k _ _ (.inl rfl) e,c⟩
 |ins C dx fs =>
  obtain⟨d,z,ne,e,mA,⟨od,es,ep,e2,c⟩,r⟩:=x;exact⟨ho _ d,z,ne,k _ _ (.inl rfl) e,mA,⟨od,es,ep,k _ _ (.inr d) e2,c⟩,r⟩
 |own y=>obtain⟨ob,e⟩:=x;exact⟨ob,k _ _ (.inl rfl) e⟩
 |xd fs=>obtain⟨mA,⟨od,es,ep,e,c⟩,r⟩:=x;exact⟨mA,⟨od,es,ep,k _ _ (.inl rfl) e,c⟩,r⟩
 |rng lo hi=>obtain⟨t,u,v,e⟩:=x;exact⟨t,u,v,k _ _ (.inl rfl) e⟩
 |frz ob u ih=>obtain⟨e,q⟩:=x;exact⟨k _ _ (.inl rfl) e,ih q⟩
 |tbl ps =>
  have e:h.get? a=some { cls:=.none,data:=.fields ps }:=x;show h'.get? a=some { cls:=.none,data:=.fields ps };exact k a _ (.inl rfl) e
 |met f y =>
  have e:h.get? a=some (PySem.W.methodObj (.ref f) (.ref y)):=x;show h'.get? a=some (PySem.W.methodObj (.ref f) (.ref y));exact k a _ (.inl rfl) e
 |ext φ=>obtain⟨p,⟨o,e⟩,st⟩:=x;exact⟨st _ _ p fun o q=>k _ _ (.inl rfl) q,⟨o,k _ _ (.inl rfl) e⟩,st⟩
theorem HOk.lt(x:HOk P w H h)(e:H a=some o):a<h.objs.size:=(x a o e).lt
theorem HOk.fresh(x:HOk P w H h)(e:h.objs.size<=a):H a=none:=by
 cases q:H a with
 |none=>rfl
 |some u=>exact absurd (Nat.lt_of_lt_of_le (x.lt q) e) (Nat.lt_irrefl _)
theorem HOk.kept(x:HOk P w H h)(k:∀b u,h.get? b=some u->h'.get? b=some u):HOk P w H h':=fun a o e =>
 (x a o e).R7 (fun b u _ q=>k b u q) (fun _ q=>q) fun _ _ q=>q
theorem HOk.laid(x:HOk P w H h)(k:∀b u,h.get? b=some u->h'.get? b=some u)(hp:h.objs.size<=a)(new:g8 P w (upd H a o) h' a o):HOk P w (upd H a o) h':=fun b u e=>by
 have hn:=x.fresh hp;by_cases hb:b=a
 ·subst hb;rw[j5] at e;cases e;exact new
 ·rw[e8 hb] at e;exact(x b u e).R7 (fun c v _ q=>k c v q) (fun c q=>by rw[e8 (j6 q hn)];exact q) fun c xs q=>by rw[e8 (j6 q hn)];exact q
end
noncomputable def Rd(H:Hp)(a:Addr)(u:HO):Prop:=H a=some u\/∃o,H a=some (.frz o u)
theorem Rd.ok{P:Program}{w:World}{H:Hp}{h:Heap}{a:Addr}{u:HO}(r:Rd H a u)(x:HOk P w H h):g8 P w H h a u:=by
 rcases r with r|⟨o,r⟩
 ·exact x a u r
 ·obtain⟨_,q⟩:=x a _ r;exact q
noncomputable def Mut:Option HO->Prop
 |some (.lst _)=>True
 |some (.dK _)=>True
 |some (.dT _)=>True
 |some (.set _ _)=>True
 |some (.ins _ _ _)=>True
 |some (.ext _)=>True
 |_=>False
section
variable{P:Program}{w:World}{H:Hp}{h h':Heap}{x e:Addr}{o':HO}
theorem HOk.write(ok:HOk P w H h)(mu:Mut (H x))(he:e=x\/H e=some (.own x))(k:∀b u,b≠e->h.get? b=some u->h'.get? b=some u)(heo:∃u,h'.get? e=some u)(new:g8 P w (upd H x o') h' x o'):HOk P w (upd H x o') h':=fun b u q=>by
 have nown:∀c y,H c=some (.own y)->c≠x:=fun c y r z=>by subst z;rw[r] at mu;exact mu
 have ntup:∀c xs,H c=some (.tup xs)->c≠x:=fun c xs r z=>by subst z;rw[r] at mu;exact mu
 by_cases hb:b=x
 ·subst hb;rw[j5] at q;cases q;exact new
 ·rw[e8 hb] at q;by_cases hbe:b=e
  ·have q':H b=some (.own x):=by
    rcases he with z|z
    ·exact absurd (hbe.trans z) hb
    ·rw[hbe];exact z
   rw[q] at q';cases q';obtain⟨v,hv⟩:=heo;exact⟨v,by rw[hbe];exact hv⟩
  ·refine(ok b u q).R7 (fun c v hc r=>k c v ?_ r) (fun c r=>by rw[e8 (nown c b r)];exact r) fun c xs r=>by rw[e8 (ntup c xs r)];exact r
   rcases hc with rfl|hc
   ·exact hbe
   ·rintro rfl;rcases he with z|z
    ·exact nown c b hc z
    ·rw[hc] at z;cases z;exact hb rfl
end
structure Un(fs ex:List Addr)(H H':Hp)(h h':Heap):Prop where
 keep:∀b o,h.get? b=some o->H b=none->b∉fs->b∉ex->h'.get? b=some o
 slot:∀b o,h.get? b=some o->H b=none->b∈fs->b∉ex->∃sl,h'.get? b=some { o with slots:=sl }
 free:∀b o,h.get? b=some o->H b=none->b∉ex->H' b=none
 there:∀b o,h.get? b=some o->b∉ex->∃o',h'.get? b=some o'
 tups:∀b xs,H b=some (.tup xs)->H' b=some (.tup xs)
 frzs:∀b o u,H b=some (.frz o u)->H' b=some (.frz o u)
 tbls:∀b ps,H b=some (.tbl ps)->∃more,H' b=some (.tbl (ps++more))
section
variable{fs fs' ex ex':List Addr}{H H1 H2:Hp}{h h1 h2 h':Heap}{a x e:Addr}{o:HO}
theorem Un.any(u:Un fs ex H H1 h h1){b:Addr}{ob:Obj}(q:h.get? b=some ob)(n:H b=none)(hx:b∉ex):∃sl,h1.get? b=some { ob with slots:=sl }:=by
 by_cases hb:b∈fs
 ·exact u.slot b ob q n hb hx
 ·exact⟨ob.slots,u.keep b ob q n hb hx⟩
theorem Un.kept(k:∀b u,h.get? b=some u->h'.get? b=some u):Un fs ex H H h h' :=
 ⟨fun b ob q _ _ _=>k b ob q,fun b ob q _ _ _=>⟨ob.slots,k b ob q⟩,fun _ _ _ n _=>n,fun b ob q _=>⟨ob,k b ob q⟩,fun _ _ q=>q,fun _ _ _ q=>q,fun _ ps q=>⟨#[],by rw[q];simp⟩⟩
theorem Un.refl:Un fs ex H H h h:=Un.kept fun _ _ q=>q
theorem Un.laid(k:∀b u,h.get? b=some u->h'.get? b=some u)(hp:h.objs.size<=a)(hn:H a=none):Un fs ex H (upd H a o) h h' where
 keep:=fun b u q _ _ _=>k b u q
 slot:=fun b u q _ _ _=>⟨u.slots,k b u q⟩
 free:=fun b u q n _=>by rw[e8 (Nat.ne_of_lt (Nat.lt_of_lt_of_le (Heap.lt_size q) hp))];exact n
 there:=fun b u q _=>⟨u,k b u q⟩
 tups:=fun b xs q=>by rw[e8 (j6 q hn)];exact q
 frzs:=fun b u xs q=>by rw[e8 (j6 q hn)];exact q
 tbls:=fun b ps q=>⟨#[],by rw[e8 (j6 q hn),q];simp⟩
theorem Un.write(mu:Mut (H x))(he:e=x\/H e=some (.own x))(k:∀b u,b≠e->h.get? b=some u->h'.get? b=some u)(heo:∃u,h'.get? e=some u):Un fs ex H (upd H x o) h h':=by
 have hx:∀b,H b=none->b≠x:=fun b n z=>by subst z;rw[n] at mu;exact mu
 have hb:∀b,H b=none->b≠e:=fun b n z=>by
  subst z;rcases he with r|r
  ·exact hx b n r
  ·rw[n] at r;cases r
 have hm:∀b u,H b=some u->¬Mut (some u)->b≠x:=fun b u q nm z=>by subst z;rw[q] at mu;exact nm mu
 refine ⟨fun b u q n _ _=>k b u (hb b n) q,fun b u q n _ _=>⟨u.slots,k b u (hb b n) q⟩,fun b u q n _=>by rw [e8 (hx b n)];exact n,fun b u q _=>?_,
  fun b xs q=>by rw [e8 (hm b _ q fun z=>z)];exact q,fun b u xs q=>by rw [e8 (hm b _ q fun z=>z)];exact q,fun b ps q=>⟨#[],by rw [e8 (hm b _ q fun z=>z),q];simp⟩⟩
 by_cases hbe:b=e
 ·subst hbe;exact heo
 ·exact⟨u,k b u hbe q⟩
end
noncomputable def trk(h:Heap)(H:Hp):List Addr:=(List.range h.objs.size).filter fun a=>(H a).isSome
noncomputable def T5(h:Heap)(H:Hp):Heap:=PySem.W.hideAll h (trk h H)
theorem aQ8(h:Heap)(H:Hp):(T5 h H).objs.size=h.objs.size:=PySem.W.hideAll_size _ _
theorem a01{h:Heap}{H:Hp}{b:Addr}{o:Obj}(e:h.get? b=some o)(n:H b=none):(T5 h H).get? b=some o :=
 PySem.W.hideAll_get _ e fun hm=>by
  have q:(H b).isSome=true:=(List.mem_filter.mp hm).2;rw[n] at q;simp at q
theorem bd0{h:Heap}{H:Hp}{b:Addr}{o:Obj}(e:(T5 h H).get? b=some o):h.get? b=some o/\H b=none:=by
 have e':h.get? b=some o:=PySem.W.of_hideAll (trk h H) e;refine⟨e',?_⟩;cases q:H b with
 |none=>rfl
 |some x =>
  have hm:b∈trk h H:=List.mem_filter.mpr ⟨List.mem_range.mpr (Heap.lt_size e'),by simp[q]⟩;have z:(T5 h H).get? b=none:=PySem.W.hideAll_none (trk h H) hm;rw[z] at e;cases e
end L2
namespace L2
open PySem PySem.Spec PyProof.Rows
structure Mod(K:PySem.W.Frag)(mg:Str->Option Value)(base:Heap):Prop where
 kin:K.In base
 glob:base.Ns mainGlobals mg
 blt:∃mb,base.Ns builtinsNs mb/\∀x:Str,x≠"__name__"->mb x=bootBuiltins x
 nolimit:base.NoLimit
structure Cx where
 prog:Program
 w:World
 K:PySem.W.Frag
 mg:Str->Option Value
 base:Heap
 A:Around
 N:List Str
 s₀:Shared
 H₀:Hp
 env:Env
 outer:List Env
 stack:List Env
 ex:List Addr
 fn:Str->Bool
 calm:Bool
 pn:List (Addr×Obj)
 xe:Value->Shared->Prop
noncomputable def frs(l:List Env):List Addr:=l.filterMap (·.frame)
noncomputable abbrev Cx.fs(X:Cx):List Addr:=frs X.outer
noncomputable def Vis(sc:Scope)(x:Str):Prop:=sc.names.lookup x=some .local\/sc.names.lookup x=some .cell\/sc.names.lookup x=some .free
noncomputable def Loc(sc:Scope)(x:Str):Prop:=sc.names.lookup x=some .local\/sc.names.lookup x=some .cell
noncomputable def Look(env:Env)(h:Heap)(m:Str->Option Value)(x:Str)(u:Value):Prop :=
 (env.kindOf x=some .local/\m x=some u)\/((env.kindOf x=some .cell\/env.kindOf x=some .free)/\∃c,env.cells.lookup x=some c/\h.IsCell c (some u))
structure Cx.Ok(X:Cx):Prop where
 mod:Mod X.K X.mg X.base
 kind:X.env.scope.kind=.function
 glob:X.env.globals=mainGlobals
 blt:X.env.builtins=builtinsNs
 above:X.s₀.heap.objs.size<=X.env.locals
 inj:∀x y c,X.env.cells.lookup x=some c->X.env.cells.lookup y=some c->x=y
 has:∀x,(X.env.kindOf x=some .cell\/X.env.kindOf x=some .free)->∃c,X.env.cells.lookup x=some c
 cab:∀x c,X.fn x=true->X.env.cells.lookup x=some c->X.s₀.heap.objs.size<=c
 hd:X.calm=true->X.A.handled=none
 frames:X.A.frames=some X.stack
 stk:X.stack=X.outer\/(X.stack=X.env::X.outer/\X.env.frame=some X.env.locals)
 exf:∀b∈X.ex,b≠X.env.locals/\∀x c,X.env.cells.lookup x=some c->c≠b
 bs:∀b o,X.base.get? b=some o->X.s₀.heap.get? b=some o/\X.H₀ b=none
 bsz:X.base.objs.size<=X.s₀.heap.objs.size
 noex:∀b o,X.base.get? b=some o->b∉X.ex
 exfs:∀b∈X.ex,b∉X.fs
 A4:X.s₀.heap.FunFrames X.base X.outer
 frf:∀b∈X.fs,X.H₀ b=none
structure Inv(X:Cx)(pins:List (Addr×Obj))(σ:List (Option V))(H:Hp)(s:Shared):Prop where
 ok:X.Ok
 os:s.os=X.s₀.os
 bare:AllBare s.gens
 base:Un X.fs X.ex X.H₀ H X.s₀.heap s.heap
 loc:∃m,s.heap.Ns X.env.locals m/\∀(i:Nat) (x:Str) (v:V),X.N[i]?=some x->σ[i]?=some (some v)->Vis X.env.scope x->∃u,RelV v u/\Look X.env s.heap m x u
 cell:∀x c,X.env.cells.lookup x=some c->∃v,s.heap.IsCell c v
 free:H X.env.locals=none
 freeC:∀x c,X.env.cells.lookup x=some c->H c=none
 pin:∀p∈X.pn++pins,s.heap.get? p.1=some p.2/\H p.1=none/\p.1≠X.env.locals/\p.1∉X.fs/\∀v,p.2.data≠.cell v
 hok:HOk X.prog X.w H s.heap
 len:σ.length=X.N.length
section
variable{X:Cx}{pins:List (Addr×Obj)}{σ:List (Option V)}{H H':Hp}{s:Shared}{h':Heap}
theorem Cx.Ok.bH4(ok:X.Ok){b:Addr}{o:Obj}(e:X.base.get? b=some o):b∉X.fs:=fun hb=>by
 have:=(ok.A4.mem hb).1;rw[e] at this;cases this
theorem Inv.bs(I:Inv X pins σ H s):∀b o,X.base.get? b=some o->s.heap.get? b=some o/\H b=none:=fun b o e =>
 ⟨I.base.keep b o (I.ok.bs b o e).1 (I.ok.bs b o e).2 (I.ok.bH4 e) (I.ok.noex b o e),I.base.free b o (I.ok.bs b o e).1 (I.ok.bs b o e).2 (I.ok.noex b o e)⟩
theorem Inv.bk(I:Inv X pins σ H s):∀b o,X.base.get? b=some o->s.heap.get? b=some o:=fun b o e=>(I.bs b o e).1
theorem Inv.mod(I:Inv X pins σ H s):Mod X.K X.mg X.base:=I.ok.mod
theorem Inv.kIn(I:Inv X pins σ H s):X.K.In s.heap:=I.ok.mod.kin.keeps I.bk
theorem Inv.lt(I:Inv X pins σ H s):X.env.locals<s.heap.objs.size:=let ⟨_,hn,_⟩:=I.loc;hn.lt
theorem Inv.sz(I:Inv X pins σ H s):X.s₀.heap.objs.size<=s.heap.objs.size:=Nat.le_trans I.ok.above (Nat.le_of_lt I.lt)
theorem Inv.aG2(I:Inv X pins σ H s){a:Addr}(h:s.heap.objs.size<=a):a∉X.fs:=fun hb=>by
 obtain⟨_,o,ho,_⟩:=I.ok.A4.mem hb;exact absurd (Nat.lt_of_lt_of_le (Heap.lt_size ho) (Nat.le_trans I.sz h)) (Nat.lt_irrefl _)
theorem Inv.cne(I:Inv X pins σ H s):∀x c,X.env.cells.lookup x=some c->c≠X.env.locals:=fun x c e z=>by
 obtain⟨v,o,ho,hd⟩:=I.cell x c e;obtain⟨m,⟨o',es,ep,ho',hd',_⟩,_⟩:=I.loc;rw[z,ho'] at ho;cases ho;rw[hd'] at hd;cases hd
theorem Inv.A4(I:Inv X pins σ H s):s.heap.FunFrames X.base X.outer:=by
 have all:∀(l:List Env),(∀b∈frs l,b∈X.fs)->X.s₀.heap.FunFrames X.base l->s.heap.FunFrames X.base l:=by
  intro l
  induction l with
  |nil=>intro _ _;trivial
  |cons env r ih =>
   intro hs hl;obtain⟨hk,⟨L,o,hf,hn,ho,hd⟩,hr⟩:=hl;have hL:L∈X.fs:=hs L (by unfold frs;rw[List.filterMap_cons,hf];exact List.mem_cons_self);obtain⟨sl,e⟩:=I.base.slot L o ho (I.ok.frf L hL) hL fun z=>I.ok.exfs L z hL;exact⟨hk,⟨L,_,hf,hn,e,hd⟩,ih (fun b hb=>hs b (by unfold frs;rw[List.filterMap_cons,hf];exact List.mem_cons_of_mem _ hb)) hr⟩
 exact all X.outer (fun _ hb=>hb) I.ok.A4
theorem Inv.stack(I:Inv X pins σ H s):s.heap.FunFrames X.base X.stack:=by
 rcases I.ok.stk with e|⟨e,hf⟩
 ·rw[e];exact I.A4
 ·rw[e];obtain⟨m,hn,_⟩:=I.loc;refine .cons (by rw[I.ok.kind];decide) hf hn ?_ I.A4;exact Heap.get?_none_of_le (Nat.le_trans I.ok.bsz I.ok.above)
theorem Inv.E9(I:Inv X pins σ H s):∀b∈frs X.stack,b∈X.env.locals::X.fs:=fun b hb=>by
 rcases I.ok.stk with e|⟨e,hf⟩
 ·rw[e] at hb;exact List.mem_cons_of_mem _ hb
 ·rw[e] at hb;unfold frs at hb;rw[List.filterMap_cons,hf] at hb;exact hb
theorem Inv.Y9(I:Inv X pins σ H s):∀b∈frs X.stack,H b=none:=fun b hb=>by
 rcases List.mem_cons.mp (I.E9 b hb) with e|hb
 ·rw[e];exact I.free
 ·obtain⟨_,o,ho,_⟩:=I.ok.A4.mem hb;exact I.base.free b o ho (I.ok.frf b hb) fun z=>I.ok.exfs b z hb
theorem Inv.step{g':Array GenState}{t':Nat}{d':Drawn}{ch:List Addr}(I:Inv X pins σ H s)(hch:∀b∈ch,(b∈X.ex\/X.s₀.heap.objs.size<=b)/\b≠X.env.locals/\(∀x c,X.env.cells.lookup x=some c->c≠b)/\∀p∈X.pn++pins,p.1≠b)(keep:∀b o,b≠X.env.locals->b∉X.fs->b∉ch->s.heap.get? b=some o->H b=none->h'.get? b=some o)(slot:∀b o,b≠X.env.locals->b∈X.fs->b∉ch->s.heap.get? b=some o->H b=none->∃sl,h'.get? b=some { o with slots:=sl })(free:∀b o,b∉ch->s.heap.get? b=some o->H b=none->H' b=none)(there:∀b o,b∉ch->s.heap.get? b=some o->∃o',h'.get? b=some o')(tups:∀b xs,H b=some (.tup xs)->H' b=some (.tup xs))(frzs:∀b o u,H b=some (.frz o u)->H' b=some (.frz o u))(tbls:∀b ps,H b=some (.tbl ps)->∃more,H' b=some (.tbl (ps++more)))(ns:∀m,s.heap.Ns X.env.locals m->h'.Ns X.env.locals m)(hok:HOk X.prog X.w H' h')(hg:AllBare g') :
  Inv X pins σ H' { s with heap:=h',gens:=g',drawn:=d',toks:=t' }:=by
 have neL:∀b o,X.s₀.heap.get? b=some o->b≠X.env.locals:=fun b o e=>Nat.ne_of_lt (Nat.lt_of_lt_of_le (Heap.lt_size e) I.ok.above);have neC:∀b o,X.s₀.heap.get? b=some o->b∉X.ex->b∉ch:=fun b o e hx hb=>by
  rcases(hch b hb).1 with z|z
  ·exact hx z
  ·exact absurd (Nat.lt_of_lt_of_le (Heap.lt_size e) z) (Nat.lt_irrefl _)
 have cellK:∀x c,X.env.cells.lookup x=some c->∀v,s.heap.IsCell c v->h'.IsCell c v:=fun x c e v ⟨o,ho,hd⟩=>by
  have nch:c∉ch:=fun z=>(hch c z).2.2.1 x c e rfl;by_cases hc:c∈X.fs
  ·obtain⟨sl,q⟩:=slot c o (I.cne x c e) hc nch ho (I.freeC x c e);exact⟨_,q,hd⟩
  ·exact⟨o,keep c o (I.cne x c e) hc nch ho (I.freeC x c e),hd⟩
 refine⟨I.ok,I.os,hg,⟨fun b o e n hb hx=>?_,fun b o e n hb hx=>?_,fun b o e n hx=>?_,fun b o e hx=>?_,fun b xs e=>tups b xs (I.base.tups b xs e),fun b o xs e=>frzs b o xs (I.base.frzs b o xs e),fun b ps e=>?_⟩,?_,fun x c e=>?_,?_,fun x c e=>?_,fun p hp=>?_,hok,I.len⟩
 ·exact keep b o (neL b o e) hb (neC b o e hx) (I.base.keep b o e n hb hx) (I.base.free b o e n hx)
 ·obtain⟨sl,e1⟩:=I.base.slot b o e n hb hx;obtain⟨sl',e2⟩:=slot b _ (neL b o e) hb (neC b o e hx) e1 (I.base.free b o e n hx);exact⟨sl',e2⟩
 ·obtain⟨o',e1⟩:=I.base.there b o e hx;exact free b o' (neC b o e hx) e1 (I.base.free b o e n hx)
 ·obtain⟨o',e1⟩:=I.base.there b o e hx;exact there b o' (neC b o e hx) e1
 ·obtain⟨m1,e1⟩:=I.base.tbls b ps e;obtain⟨m2,e2⟩:=tbls b _ e1;exact⟨m1++m2,by rw[e2,Array.append_assoc]⟩
 ·obtain⟨m,hn,hl⟩:=I.loc;refine⟨m,ns m hn,fun i x v e1 e2 e3=>?_⟩;obtain⟨u,r,l⟩:=hl i x v e1 e2 e3;refine⟨u,r,?_⟩;rcases l with l|⟨k,c,e,z⟩
  ·exact .inl l
  ·exact .inr ⟨k,c,e,cellK x c e _ z⟩
 ·obtain⟨v,z⟩:=I.cell x c e;exact⟨v,cellK x c e v z⟩
 ·obtain⟨m,⟨o,_,_,ho,_⟩,_⟩:=I.loc;exact free _ o (fun z=>(hch _ z).2.1 rfl) ho I.free
 ·obtain⟨v,o,ho,hd⟩:=I.cell x c e;exact free c o (fun z=>(hch c z).2.2.1 x c e rfl) ho (I.freeC x c e)
 ·obtain⟨e,n,ne,nf,d⟩:=I.pin p hp;have nch:p.1∉ch:=fun z=>(hch p.1 z).2.2.2 p hp rfl;exact⟨keep p.1 p.2 ne nf nch e n,free p.1 p.2 nch e n,ne,nf,d⟩
theorem Inv.un{t':Nat}(I:Inv X pins σ H s)(u:Un X.fs [] H H' s.heap h')(hok:HOk X.prog X.w H' h'):Inv X pins σ H' { s with heap:=h',toks:=t' }:=by
 obtain⟨m,⟨o,es,ep,ho,r⟩,_⟩:=id I.loc;obtain⟨sl,hL⟩:=u.any ho I.free (by simp);exact I.step (g':=s.gens) (d':=s.drawn) (ch:=[]) (fun _ z=>nomatch z) (fun b o _ hb _ e n=>u.keep b o e n hb (by simp)) (fun b o _ hb _ e n=>u.slot b o e n hb (by simp)) (fun b o _ e n=>u.free b o e n (by simp)) (fun b o _ e=>u.there b o e (by simp)) u.tups u.frzs u.tbls (fun m' hm=>by
  obtain⟨o',es',ep',ho',r'⟩:=hm;rw[ho] at ho';cases ho';exact ⟨_,es',ep',hL,r'⟩) hok I.bare
theorem Inv.call{g':Array GenState}{t':Nat}{d':Drawn}{ch:List Addr}(I:Inv X pins σ H s)(u:Un (frs X.stack) ch H H' s.heap h')(hok:HOk X.prog X.w H' h')(hg:AllBare g')(hch:∀b∈ch,(b∈X.ex\/X.s₀.heap.objs.size<=b)/\b≠X.env.locals/\(∀x c,X.env.cells.lookup x=some c->c≠b)/\∀p∈X.pn++pins,p.1≠b) :
  Inv X pins σ H' { s with heap:=h',gens:=g',drawn:=d',toks:=t' }:=by
 obtain⟨m,⟨o,es,ep,ho,r⟩,_⟩:=id I.loc;obtain⟨sl,hL⟩:=u.any ho I.free fun z=>(hch _ z).2.1 rfl;exact I.step (ch:=ch) hch (fun b o hL hb hc e n=>u.keep b o e n (fun z=>(List.mem_cons.mp (I.E9 b z)).elim hL hb) hc) (fun b o _ _ hc e n=>u.any e n hc) (fun b o hc e n=>u.free b o e n hc) (fun b o hc e=>u.there b o e hc) u.tups u.frzs u.tbls (fun m' hm=>by
  obtain⟨o',es',ep',ho',r'⟩:=hm;rw[ho] at ho';cases ho';exact ⟨_,es',ep',hL,r'⟩) hok hg
theorem Inv.turned{t':Nat}{it:Addr}(I:Inv X pins σ H s)(k:∀b o,b≠it->s.heap.get? b=some o->h'.get? b=some o)(hn:H it=none)(hL:it≠X.env.locals)(h1:it∈X.ex\/X.s₀.heap.objs.size<=it)(h2:∀x c,X.env.cells.lookup x=some c->c≠it)(h3:∀p∈X.pn++pins,p.1≠it):Inv X pins σ H { s with heap:=h',toks:=t' }:=by
 have nit:∀b u,H b=some u->b≠it:=fun b u e z=>by rw[z,hn] at e;cases e
 refine I.step (g':=s.gens) (d':=s.drawn) (ch:=[it]) (fun b hb=>?_) (fun b o _ _ hc e _=>k b o (fun z=>hc (by simp[z])) e) (fun b o _ _ hc e _=>⟨o.slots,k b o (fun z=>hc (by simp[z])) e⟩) (fun _ _ _ _ n=>n)
  (fun b o hc e=>⟨o,k b o (fun z=>hc (by simp[z])) e⟩) (fun _ _ e=>e) (fun _ _ _ e=>e) (fun b ps e=>⟨#[],by rw[e];simp⟩) (fun m hm=>?_) (fun b u e=>?_) I.bare
 ·have e:b=it:=by simpa using hb
  subst e;exact⟨h1,hL,h2,h3⟩
 ·obtain⟨o,es,ep,ho,r⟩:=hm;exact⟨o,es,ep,k _ o (Ne.symm hL) ho,r⟩
 ·refine(I.hok b u e).R7 (fun c v hc q=>k c v ?_ q) (fun _ q=>q) fun _ _ q=>q;rcases hc with z|z
  ·rw[z];exact nit b u e
  ·exact nit c _ z
theorem Inv.tok(I:Inv X pins σ H s)(t:Nat):Inv X pins σ H { s with toks:=t }:=I.un (h':=s.heap) (t':=t) Un.refl I.hok
theorem Inv.kept{t':Nat}(I:Inv X pins σ H s)(k:∀b u,s.heap.get? b=some u->h'.get? b=some u):Inv X pins σ H { s with heap:=h',toks:=t' }:=I.un (Un.kept k) (I.hok.kept k)
theorem Inv.laid{a:Addr}{o:HO}{t':Nat}(I:Inv X pins σ H s)(k:∀b u,s.heap.get? b=some u->h'.get? b=some u)(hp:s.heap.objs.size<=a)(new:g8 X.prog X.w (upd H a o) h' a o) :
  Inv X pins σ (upd H a o) { s with heap:=h',toks:=t' }:=I.un (Un.laid k hp (I.hok.fresh hp)) (I.hok.laid k hp new)
theorem Inv.write{x e:Addr}{o:HO}{t':Nat}(I:Inv X pins σ H s)(mu:Mut (H x))(he:e=x\/H e=some (.own x))(k:∀b u,b≠e->s.heap.get? b=some u->h'.get? b=some u)(heo:∃u,h'.get? e=some u)(new:g8 X.prog X.w (upd H x o) h' x o):Inv X pins σ (upd H x o) { s with heap:=h',toks:=t' }:=I.un (Un.write mu he k heo) (I.hok.write mu he k heo new)
theorem Inv.weak{σ':List (Option V)}(I:Inv X pins σ H s)(hl:σ'.length=σ.length)(w:∀(i:Nat) v,σ'[i]?=some (some v)->σ[i]?=some (some v)):Inv X pins σ' H s :=
 ⟨I.ok,I.os,I.bare,I.base,let ⟨m,hn,hl'⟩:=I.loc;⟨m,hn,fun i x v e1 e2 e3=>hl' i x v e1 (w i v e2) e3⟩,I.cell,I.free,I.freeC,I.pin,I.hok,hl.trans I.len⟩
theorem Inv.P6{pins':List (Addr×Obj)}(I:Inv X pins σ H s)(h:∀p∈pins',s.heap.get? p.1=some p.2/\H p.1=none/\p.1≠X.env.locals/\p.1∉X.fs/\∀v,p.2.data≠.cell v):Inv X pins' σ H s :=
 ⟨I.ok,I.os,I.bare,I.base,I.loc,I.cell,I.free,I.freeC,fun p hp=>(List.mem_append.mp hp).elim (fun z=>I.pin p (List.mem_append_left _ z)) (h p),I.hok,I.len⟩
theorem at7{N:List Str}(hN:N.Nodup){i j:Nat}{x:Str}(a:N[i]?=some x)(b:N[j]?=some x):i=j:=by
 obtain⟨h1,e1⟩:=List.getElem?_eq_some_iff.mp a;obtain⟨h2,e2⟩:=List.getElem?_eq_some_iff.mp b;exact(List.getElem_inj hN).mp (e1.trans e2.symm)
theorem am1{M:Model}{A:Around}{E:Value->Shared->Prop}{i:Nat}{x:Str}{v:V}{u:Value}{Q:Unit->Shared->Prop}(I:Inv X pins σ H s)(hN:X.N.Nodup)(hi:X.N[i]?=some x)(hx:Loc X.env.scope x)(r:RelV v u)(h:∀s',Inv X pins (σ.set i (some v)) H s'->(∃a,Heap.SameBut a s.heap s'.heap/\(a=X.env.locals\/X.env.cells.lookup x=some a))->Q () s')(hf:X.fn x=true\/X.env.scope.names.lookup x=some .local:=by first|exact .inl rfl|exact .inr rfl|assumption):wpAny M A (storeName X.env x u) Q E s:=by
 obtain⟨m,hn,hl⟩:=id I.loc;have hcls:(X.env.scope.kind==.class||(X.env.scope.kind==.module&&X.env.locals != X.env.globals))=false:=by rw[I.ok.kind];rfl
 have hiσ:i<σ.length:=by rw[I.len];exact(List.getElem?_eq_some_iff.mp hi).1
 have cne:=I.cne;have tracked:∀{a:Addr} {h':Heap},(∃o,s.heap.get? a=some o/\H a=none)->Heap.SameBut a s.heap h'->HOk X.prog X.w H h':=fun{a h'} ha hs b ob e=>by
  obtain⟨_,_,hfree⟩:=ha;refine(I.hok b ob e).R7 (fun c w' hc q=>(hs.2 c ?_).trans q) (fun _ q=>q) fun _ _ q=>q;rintro rfl;rcases hc with rfl|hc
  ·rw[hfree] at e;cases e
  ·rw[hfree] at hc;cases hc
 rcases hx with hk|hk
 ·refine wpAny_storeName_local hk hn (fun h' hn' hs=>?_) hcls;obtain⟨oL,_,_,hoL,_⟩:=id hn;refine h _ ⟨I.ok,I.os,I.bare,⟨fun b o e n hb hx=>?_,fun b o e n hb hx=>?_,I.base.free,fun b o e hx=>?_,I.base.tups,I.base.frzs,I.base.tbls⟩,⟨_,hn',fun j y v' e1 e2 e3=>?_⟩,fun y c e=>?_,I.free,I.freeC,fun p hp=>?_,tracked ⟨oL,hoL,I.free⟩ hs,by simpa using I.len⟩ ⟨_,hs,.inl rfl⟩
  ·exact(hs.2 b (Nat.ne_of_lt (Nat.lt_of_lt_of_le (Heap.lt_size e) I.ok.above))).trans (I.base.keep b o e n hb hx)
  ·obtain⟨sl,e1⟩:=I.base.slot b o e n hb hx;exact⟨sl,(hs.2 b (Nat.ne_of_lt (Nat.lt_of_lt_of_le (Heap.lt_size e) I.ok.above))).trans e1⟩
  ·obtain⟨o',e1⟩:=I.base.there b o e hx;exact⟨o',(hs.2 b (Nat.ne_of_lt (Nat.lt_of_lt_of_le (Heap.lt_size e) I.ok.above))).trans e1⟩
  ·by_cases hj:j=i
   ·subst hj;rw[hi] at e1;cases e1;rw[List.getElem?_set_self hiσ] at e2;cases e2;exact⟨u,r,.inl ⟨hk,by simp⟩⟩
   ·rw[List.getElem?_set_ne (Ne.symm hj)] at e2;obtain⟨u',r',q⟩:=hl j y v' e1 e2 e3;refine⟨u',r',?_⟩;rcases q with⟨k,e⟩|⟨k,c,e,z⟩
    ·refine .inl ⟨k,?_⟩;have:y≠x:=fun e=>hj (at7 hN e1 (e▸hi));simp[this,e]
    ·exact .inr ⟨k,c,e,z.sameBut hs (cne y c e)⟩
  ·obtain⟨w',z⟩:=I.cell y c e;exact⟨w',z.sameBut hs (cne y c e)⟩
  ·obtain⟨e,n,ne,nf,d⟩:=I.pin p hp;exact⟨(hs.2 p.1 ne).trans e,n,ne,nf,d⟩
 ·have hfn:X.fn x=true:=by
   rcases hf with z|z
   ·exact z
   ·rw[z] at hk;cases hk
  obtain⟨c,hc⟩:=I.ok.has x (.inl hk);obtain⟨w',z⟩:=I.cell x c hc;refine wpAny_storeName_cell I.ok.kind hk hc z (fun h' hc' hs=>?_);obtain⟨oc,hoc,hocd⟩:=id z;refine h { s with heap:=h' } ⟨I.ok,I.os,I.bare,⟨fun b o e n hb hx=>?_,fun b o e n hb hx=>?_,I.base.free,fun b o e hx=>?_,I.base.tups,I.base.frzs,I.base.tbls⟩,⟨m,hn.sameBut hs (Ne.symm (cne x c hc)),fun j y v' e1 e2 e3=>?_⟩,fun y c' e=>?_,I.free,I.freeC,fun p hp=>?_,tracked ⟨oc,hoc,I.freeC x c hc⟩ hs,by simpa using I.len⟩ ⟨c,hs,.inr hc⟩
  ·exact(hs.2 b (Nat.ne_of_lt (Nat.lt_of_lt_of_le (Heap.lt_size e) (I.ok.cab x c hfn hc)))).trans (I.base.keep b o e n hb hx)
  ·obtain⟨sl,e1⟩:=I.base.slot b o e n hb hx;exact⟨sl,(hs.2 b (Nat.ne_of_lt (Nat.lt_of_lt_of_le (Heap.lt_size e) (I.ok.cab x c hfn hc)))).trans e1⟩
  ·obtain⟨o',e1⟩:=I.base.there b o e hx;exact⟨o',(hs.2 b (Nat.ne_of_lt (Nat.lt_of_lt_of_le (Heap.lt_size e) (I.ok.cab x c hfn hc)))).trans e1⟩
  ·by_cases hj:j=i
   ·subst hj;rw[hi] at e1;cases e1;rw[List.getElem?_set_self hiσ] at e2;cases e2;exact⟨u,r,.inr ⟨.inl hk,c,hc,hc'⟩⟩
   ·rw[List.getElem?_set_ne (Ne.symm hj)] at e2;obtain⟨u',r',q⟩:=hl j y v' e1 e2 e3;refine⟨u',r',?_⟩;rcases q with q|⟨k,c',e,z'⟩
    ·exact .inl q
    ·refine .inr ⟨k,c',e,z'.sameBut hs ?_⟩;rintro rfl;exact hj (at7 hN e1 (I.ok.inj _ _ _ e hc▸hi))
  ·by_cases hcc:c'=c
   ·subst hcc;exact⟨_,hc'⟩
   ·obtain⟨w2,z2⟩:=I.cell y c' e;exact⟨w2,z2.sameBut hs hcc⟩
  ·obtain⟨e,n,ne,nf,d⟩:=I.pin p hp;refine⟨(hs.2 p.1 ?_).trans e,n,ne,nf,d⟩;intro q;rw[q,hoc] at e;have q':oc=p.2:=Option.some.inj e;exact d w' (by rw[<- q'];exact hocd)
theorem R6{M:Model}{A:Around}{E:Value->Shared->Prop}{i:Nat}{x:Str}{v:V}{u:Value}{Q:Unit->Shared->Prop}(I:Inv X pins σ H s)(hN:X.N.Nodup)(hi:X.N[i]?=some x)(hx:Loc X.env.scope x)(r:RelV v u)(h:∀s',Inv X pins (σ.set i (some v)) H s'->Q () s')(hf:X.fn x=true\/X.env.scope.names.lookup x=some .local:=by first|exact .inl rfl|exact .inr rfl|assumption):wpAny M A (storeName X.env x u) Q E s :=
 am1 I hN hi hx r (fun s' I' _=>h s' I') hf
theorem Inv.aI7{s':Shared}{ch:List Addr}(I:Inv X pins σ H s)(ho:s'.os=s.os)(u:Un (frs X.stack) ch H H' s.heap s'.heap)(hok:HOk X.prog X.w H' s'.heap)(hg:AllBare s'.gens)(hch:∀b∈ch,(b∈X.ex\/X.s₀.heap.objs.size<=b)/\b≠X.env.locals/\(∀x c,X.env.cells.lookup x=some c->c≠b)/\∀p∈X.pn++pins,p.1≠b):Inv X pins σ H' s':=by
 obtain⟨h',g',d',t',o'⟩:=s';have e:o'=s.os:=ho;subst e;exact I.call (g':=g') (t':=t') (d':=d') u hok hg hch
end
noncomputable abbrev XK:=Value->Option Addr->Hp->Prop
noncomputable abbrev St:=List (Option V)
noncomputable abbrev VK:=V->Hp->Prop
noncomputable abbrev TE:=St->Hp->VK->Prop
noncomputable abbrev TT:=St->Hp->(Bool->Hp->Prop)->Prop
noncomputable abbrev TA:=St->Hp->(List V->Hp->Prop)->Prop
structure Ends where
 nx:St->Hp->Prop
 rt:VK
 bk:St->Hp->Prop:=fun _ _=>False
 ct:St->Hp->Prop:=fun _ _=>False
noncomputable abbrev TS:=Ends->St->Hp->Prop
noncomputable def EP(X:Cx)(pins:List (Addr×Obj))(σ:St)(Q:VK)(u:Value)(s':Shared):Prop:=∃v H',Inv X pins σ H' s'/\RelV v u/\Q v H'
noncomputable def TP(X:Cx)(pins:List (Addr×Obj))(σ:St)(Q:Bool->Hp->Prop)(b:Bool)(s':Shared):Prop:=∃H',Inv X pins σ H' s'/\Q b H'
noncomputable def AP(X:Cx)(pins:List (Addr×Obj))(σ:St)(Q:List V->Hp->Prop)(us:List Value)(s':Shared):Prop:=∃vs H',Inv X pins σ H' s'/\Vals vs us/\Q vs H'
noncomputable def SP(X:Cx)(pins:List (Addr×Obj))(D:Ends)(f:Flow)(s':Shared):Prop :=
 match f with
 |.next=>∃σ' H',Inv X pins σ' H' s'/\D.nx σ' H'
 |.brk=>∃σ' H',Inv X pins σ' H' s'/\D.bk σ' H'
 |.cont=>∃σ' H',Inv X pins σ' H' s'/\D.ct σ' H'
 |.ret u=>∃v σ' H',Inv X pins σ' H' s'/\RelV v u/\D.rt v H'
noncomputable def PE(X:Cx)(e:Expr)(t:TE):Prop :=
 ∀(pins:List (Addr×Obj)) (s:Shared) (σ:St) (H:Hp) (Q:VK),Inv X pins σ H s->t σ H Q->wpAny (model X.prog X.w) X.A (eval e X.env) (EP X pins σ Q) X.xe s
noncomputable def PT(X:Cx)(e:Expr)(t:TT):Prop :=
 ∀(pins:List (Addr×Obj)) (s:Shared) (σ:St) (H:Hp) (Q:Bool->Hp->Prop),Inv X pins σ H s->t σ H Q->wpAny (model X.prog X.w) X.A (isTrue e X.env (eval e X.env)) (TP X pins σ Q) X.xe s
noncomputable def PW(X:Cx)(e:Expr)(t:TT):Prop :=
 ∀(whole:Sem Value) (pins:List (Addr×Obj)) (s:Shared) (σ:St) (H:Hp) (Q:Bool->Hp->Prop),Inv X pins σ H s->t σ H Q->wpAny (model X.prog X.w) X.A (isTrue e X.env whole) (TP X pins σ Q) X.xe s
theorem PW.pt{X:Cx}{e:Expr}{t:TT}(h:PW X e t):PT X e t:=h _
noncomputable def PA(X:Cx)(es:List Expr)(t:TA):Prop :=
 ∀(pos:Pos) (pins:List (Addr×Obj)) (s:Shared) (σ:St) (H:Hp) (Q:List V->Hp->Prop),Inv X pins σ H s->t σ H Q->wpAny (model X.prog X.w) X.A (spliced (backTo pos (starEach es X.env))) (AP X pins σ Q) X.xe s
noncomputable def PS(X:Cx)(st:Stmt)(t:TS):Prop :=
 ∀(pins:List (Addr×Obj)) (s:Shared) (σ:St) (H:Hp) (D:Ends),Inv X pins σ H s->t D σ H->wpAny (model X.prog X.w) X.A (exec st X.env) (SP X pins D) X.xe s
noncomputable def PSs(X:Cx)(st:List Stmt)(t:TS):Prop :=
 ∀(pins:List (Addr×Obj)) (s:Shared) (σ:St) (H:Hp) (D:Ends),Inv X pins σ H s->t D σ H->wpAny (model X.prog X.w) X.A (execs st X.env) (SP X pins D) X.xe s
theorem thn{α:Type}{t:Sem α}{Q Q':α->Shared->Prop}{M:Model}{A:Around}{E:Value->Shared->Prop}{s:Shared}(h:wpAny M A t Q E s)(hQ:∀a s,Q a s->Q' a s):wpAny M A t Q' E s:=wpAny_mono h hQ fun _ _ x=>x
end L2
namespace L2
open PySem PySem.Spec PyProof.Rows
section
variable{X:Cx}
noncomputable def bD9(i:Nat):TE:=fun σ H Q=>∃v,σ[i]?=some (some v)/\Q v H
noncomputable def tC(v:V):TE:=fun _ H Q=>Q v H
theorem at4{i:Nat}{x:Str}{pos:Pos}(hN:X.N[i]?=some x)(hv:Vis X.env.scope x)(hd:(x==("__debug__":Str))=false:=by decide)(hcd:(x==("__classdict__":Str))=false:=by decide):PE X (.Name x pos) (bD9 i):=by
 intro pins s σ H Q I h;obtain⟨v,e,h⟩:=h;obtain⟨m,hn,hl⟩:=I.loc;obtain⟨u,r,l⟩:=hl i x v hN e hv;have fin:EP X pins σ Q u s:=⟨v,H,I,r,h⟩
 rcases l with⟨hk,hm⟩|⟨hk,c,hc,hcell⟩
 ·exact wpAny_Name (wpAny_loadName_local I.ok.kind hk hn hm fin) hd
 ·rcases hk with hk|hk
  ·exact wpAny_Name (wpAny_loadName_cell I.ok.kind hk hc hcell fin) hd
  ·exact wpAny_Name (wpAny_loadName_free I.ok.kind hk hc hcell fin hcd) hd
theorem bo0{i j pos}:PE X (.Constant (.int i) j pos) (tC (.int i)):=fun _ _ _ H _ I h=>wpAny_Constant_int ⟨.int i,H,I.tok _,⟨_,rfl⟩,h⟩
theorem bx5{b j pos}:PE X (.Constant (.bool b) j pos) (tC (.bl b)):=fun _ _ _ H _ I h=>Constant_bool ⟨.bl b,H,I,rfl,h⟩
theorem bn8{j pos}:PE X (.Constant .none j pos) (tC .non):=fun _ _ _ H _ I h=>Constant_none ⟨.non,H,I,rfl,h⟩
theorem aN6{x j pos}:PE X (.Constant (.str x) j pos) (tC (.str x)):=fun _ _ _ H _ I h=>Calls.Constant_str ⟨.str x,H,I.tok _,⟨_,rfl⟩,h⟩
noncomputable def Gl(X:Cx)(x:Str):Prop:=X.env.kindOf x=some .globalImplicit
theorem K0{E:Value->Shared->Prop}{pins:List (Addr×Obj)}{s:Shared}{σ:St}{H:Hp}{x:Str}{u:Value}{pos:Pos}{Q:Value->Shared->Prop}(I:Inv X pins σ H s)(hg:Gl X x)(hm:X.mg x=some u)(h:Q u s)(hd:(x==("__debug__":Str))=false:=by decide):wpAny (model X.prog X.w) X.A (eval (.Name x pos) X.env) Q E s :=
 Calls.Name_function_global I.ok.kind hg (Calls.loadGlobal_global (by rw[I.ok.glob];exact I.mod.glob.keeps I.bk) hm h) hd
theorem M6{E:Value->Shared->Prop}{pins:List (Addr×Obj)}{s:Shared}{σ:St}{H:Hp}{x:Str}{u:Value}{pos:Pos}{Q:Value->Shared->Prop}(I:Inv X pins σ H s)(hg:Gl X x)(hm:X.mg x=none)(hv:bootBuiltins x=some u)(h:Q u s)(hn:x≠"__name__":=by decide)(hd:(x==("__debug__":Str))=false:=by decide):wpAny (model X.prog X.w) X.A (eval (.Name x pos) X.env) Q E s:=by
 obtain⟨mb,h1,h2⟩:=I.mod.blt;exact Calls.Name_function_global I.ok.kind hg (Calls.loadGlobal_builtin (by rw[I.ok.glob];exact I.mod.glob.keeps I.bk) hm (by rw[I.ok.blt];exact h1.keeps I.bk) ((h2 x hn).trans hv) h) hd
theorem Z4{x:Str}{v:V}{u:Value}{pos:Pos}(hg:Gl X x)(hm:X.mg x=some u)(r:RelV v u)(hd:(x==("__debug__":Str))=false:=by decide):PE X (.Name x pos) (tC v) :=
 fun _ _ _ H _ I h=>K0 I hg hm ⟨v,H,I,r,h⟩ hd
theorem bc0{x:Str}{v:V}{u:Value}{pos:Pos}(hg:Gl X x)(hm:X.mg x=none)(hv:bootBuiltins x=some u)(r:RelV v u)(hn:x≠"__name__":=by decide)(hd:(x==("__debug__":Str))=false:=by decide):PE X (.Name x pos) (tC v) :=
 fun _ _ _ H _ I h=>M6 I hg hm hv ⟨v,H,I,r,h⟩ hn hd
variable{a b:Expr}{ta tb:TE}{pos:Pos}
variable{tA tB':TT}{rest:List Expr}
noncomputable def bF1(t u:TT):TT:=fun σ H Q=>t σ H fun c H1=>if c=true then u σ H1 Q else Q false H1
noncomputable def tOr(t u:TT):TT:=fun σ H Q=>t σ H fun c H1=>if c=true then Q true H1 else u σ H1 Q
noncomputable def bE5(t:TT):TT:=fun σ H Q=>t σ H fun c H1=>Q (!c) H1
theorem ba6(ha:PT X a tA):PW X (.BoolOp .And [a] pos) tA:=by
 intro wh pins s σ H Q I h;refine isTrue_and (thn (ha pins s σ H Q I h) fun c s1 e=>?_);cases c with
 |true=>exact isTrue_and_nil e
 |false=>exact e
theorem bm4(ha:PT X a tA):PW X (.BoolOp .Or [a] pos) tA:=by
 intro wh pins s σ H Q I h;refine isTrue_or (thn (ha pins s σ H Q I h) fun c s1 e=>?_);cases c with
 |false=>exact isTrue_or_nil e
 |true=>exact e
theorem bm5(ha:PT X a tA)(hb:PW X (.BoolOp .And (b::rest) pos) tB'):PW X (.BoolOp .And (a::b::rest) pos) (bF1 tA tB'):=by
 intro wh pins s σ H Q I h;refine isTrue_and (thn (ha pins s σ H _ I h) fun c s1 ⟨H1,I1,q1⟩=>?_);cases c with
 |true=>exact hb wh pins s1 σ H1 Q I1 q1
 |false=>exact⟨H1,I1,q1⟩
theorem bw8(ha:PT X a tA)(hb:PW X (.BoolOp .Or (b::rest) pos) tB'):PW X (.BoolOp .Or (a::b::rest) pos) (tOr tA tB'):=by
 intro wh pins s σ H Q I h;refine isTrue_or (thn (ha pins s σ H _ I h) fun c s1 ⟨H1,I1,q1⟩=>?_);cases c with
 |true=>exact⟨H1,I1,q1⟩
 |false=>exact hb wh pins s1 σ H1 Q I1 q1
theorem bm6(ha:PT X a tA):PT X (.UnaryOp .Not a pos) (bE5 tA):=by
 intro pins s σ H Q I h;exact isTrue_not (ha pins s σ H (fun c H1=>Q (!c) H1) I h)
noncomputable def bv5(ta tb:TE):TE:=fun σ H Q=>ta σ H fun x H1=>∃c,x=.bl c/\if c=true then tb σ H1 Q else Q (.bl false) H1
noncomputable def bE4(ta tb:TE):TE:=fun σ H Q=>ta σ H fun x H1=>∃c,x=.bl c/\if c=true then Q (.bl true) H1 else tb σ H1 Q
noncomputable def bv0(ta:TE):TE:=fun σ H Q=>ta σ H fun x H1=>∃c,x=.bl c/\Q (.bl (!c)) H1
theorem bn6{op}{t:TE}(h:PE X a t):PE X (.BoolOp op [a] pos) t:=fun pins s σ H Q I hw=>BoolOp_one (h pins s σ H Q I hw)
theorem bo3(ha:PE X a ta)(hb:PE X (.BoolOp .And (b::rest) pos) tb):PE X (.BoolOp .And (a::b::rest) pos) (bv5 ta tb):=by
 intro pins s σ H Q I h;refine BoolOp_and (thn (ha pins s σ H _ I h) fun v s1 ⟨x,H1,I1,r1,q1⟩=>?_);obtain⟨c,rfl,q1⟩:=q1;cases r1;refine wpAny_truthy_bool ?_;cases c with
 |true=>exact hb pins s1 σ H1 Q I1 q1
 |false=>exact⟨.bl false,H1,I1,rfl,q1⟩
theorem bx2(ha:PE X a ta)(hb:PE X (.BoolOp .Or (b::rest) pos) tb):PE X (.BoolOp .Or (a::b::rest) pos) (bE4 ta tb):=by
 intro pins s σ H Q I h;refine BoolOp_or (thn (ha pins s σ H _ I h) fun v s1 ⟨x,H1,I1,r1,q1⟩=>?_);obtain⟨c,rfl,q1⟩:=q1;cases r1;refine wpAny_truthy_bool ?_;cases c with
 |false=>exact hb pins s1 σ H1 Q I1 q1
 |true=>exact⟨.bl true,H1,I1,rfl,q1⟩
theorem bn7(ha:PE X a ta):PE X (.UnaryOp .Not a pos) (bv0 ta):=by
 intro pins s σ H Q I h;refine UnaryOp_ (thn (ha pins s σ H _ I h) fun v s1 ⟨x,H1,I1,r1,q1⟩=>?_);obtain⟨c,rfl,q1⟩:=q1;cases r1;exact not_of (wpAny_truthy_bool ⟨.bl (!c),H1,I1,rfl,q1⟩)
noncomputable def tIf(t:TT)(ta tb:TE):TE:=fun σ H Q=>t σ H fun c H1=>if c=true then ta σ H1 Q else tb σ H1 Q
theorem aX2{c:Expr}(hc:PT X c tA)(ha:PE X a ta)(hb:PE X b tb):PE X (.IfExp c a b pos) (tIf tA ta tb):=by
 intro pins s σ H Q I h;refine wpAny_IfExp (thn (hc pins s σ H _ I h) fun d s1 ⟨H1,I1,q1⟩=>?_);cases d with
 |true=>exact ha pins s1 σ H1 Q I1 q1
 |false=>exact hb pins s1 σ H1 Q I1 q1
end
end L2
namespace L2
open PySem PySem.Spec PyProof.Rows
noncomputable def SqL(K:PySem.W.Frag)(H:Hp)(a:Addr)(xs:List V):Prop :=
 Rd H a (.lst xs) \/
  ∃(o:Obj) (its:Array Value) (n:Nat),K.lookup a=some o/\o.cls=.type "list"/\o.dict=none/\o.data=.seq its n/\its.size<=sizeLine/\Vals xs its.toList
noncomputable def SqT(K:PySem.W.Frag)(H:Hp)(a:Addr)(xs:List V):Prop :=
 Rd H a (.tup xs) \/
  ∃(o:Obj) (its:Array Value) (n:Nat),K.lookup a=some o/\o.cls=.type "tuple"/\o.data=.seq its n/\its.size<=sizeLine/\Vals xs its.toList
noncomputable def bK5:Value->Option V
 |.none=>some .non
 |.bool b=>some (.bl b)
 |.int i _=>some (.int i)
 |.str x _=>some (.str x)
 |.bytes b _=>some (.byt b)
 |.float b _=>some (.flt b)
 |.ref a=>some (.ref a)
 |.type n=>some (.ty n)
 |_=>none
theorem RelV.abs{x:V}{u:Value}(r:RelV x u):bK5 u=some x:=by
 cases x with
 |non=>cases r;rfl
 |bl _=>cases r;rfl
 |int _=>obtain⟨t,rfl⟩:=r;rfl
 |str _=>obtain⟨t,rfl⟩:=r;rfl
 |byt _=>obtain⟨t,rfl⟩:=r;rfl
 |flt _=>obtain⟨t,rfl⟩:=r;rfl
 |ref _=>cases r;rfl
 |ty _=>cases r;rfl
theorem RelV.inj{x y:V}{u:Value}(r:RelV x u)(q:RelV y u):x=y:=Option.some.inj (r.abs.symm.trans q.abs)
theorem Vals.inj:∀{xs ys:List V} {us:List Value},Vals xs us->Vals ys us->xs=ys
 |_,_,_,.nil,.nil=>rfl
 |_,_,_,.cons r t,.cons r' t'=>by rw[r.inj r',Vals.inj t t']
section
variable{X:Cx}{pins:List (Addr×Obj)}{σ:St}{H:Hp}{s:Shared}{a:Addr}{xs ys:List V}
theorem SqL.of{K:PySem.W.Frag}(h:H a=some (.lst xs)):SqL K H a xs:=.inl (.inl h)
theorem Inv.list(I:Inv X pins σ H s)(h:SqL X.K H a xs):∃its:List Value,Vals xs its/\PlainL s.heap a its.toArray/\xs.length<=sizeLine:=by
 rcases h with h|⟨o,its,n,hk,hc,hd,hs,hz,r⟩
 ·obtain⟨z,its,n,r,e⟩:=h.ok I.hok;exact⟨its,r,⟨_,n,e,rfl,rfl,rfl⟩,z⟩
 ·refine⟨its.toList,r,⟨o,n,I.kIn a o hk,hc,hd,by simpa using hs⟩,?_⟩;have e:=r.length;simp only[Array.length_toList] at e;omega
theorem Inv.tuple(I:Inv X pins σ H s)(h:SqT X.K H a xs):∃its:List Value,Vals xs its/\IsTup s.heap a its.toArray/\xs.length<=sizeLine:=by
 rcases h with h|⟨o,its,n,hk,hc,hs,hz,r⟩
 ·obtain⟨z,its,r,p⟩:=h.ok I.hok;exact⟨its,r,p.tup,z⟩
 ·refine⟨its.toList,r,⟨o,I.kIn a o hk,hc,n,by simpa using hs⟩,?_⟩;have e:=r.length;simp only[Array.length_toList] at e;omega
theorem Inv.aZ2(I:Inv X pins σ H s)(h:SqL X.K H a xs)(h':SqL X.K H a ys):xs=ys:=by
 obtain⟨its,r,⟨o,n,e,_,_,d⟩,_⟩:=I.list h;obtain⟨its',r',⟨o',n',e',_,_,d'⟩,_⟩:=I.list h';rw[e] at e';cases e';rw[d] at d';injection d' with d1 _;have:its=its':=by simpa using congrArg Array.toList d1
 subst this;exact r.inj r'
theorem Inv.aK8(I:Inv X pins σ H s)(h:SqT X.K H a xs)(h':SqT X.K H a ys):xs=ys:=by
 obtain⟨its,r,⟨o,e,_,n,d⟩,_⟩:=I.tuple h;obtain⟨its',r',⟨o',e',_,n',d'⟩,_⟩:=I.tuple h';rw[e] at e';cases e';rw[d] at d';injection d' with d1 _;have:its=its':=by simpa using congrArg Array.toList d1
 subst this;exact r.inj r'
end
noncomputable abbrev Cx.G5(X:Cx)(E:Value->Shared->Prop):Cx:={ X with xe:=E }
theorem Cx.Ok.G5{X:Cx}(ok:X.Ok)(E:Value->Shared->Prop):(X.G5 E).Ok :=
 ⟨ok.mod,ok.kind,ok.glob,ok.blt,ok.above,ok.inj,ok.has,ok.cab,ok.hd,ok.frames,ok.stk,ok.exf,ok.bs,ok.bsz,ok.noex,ok.exfs,ok.A4,ok.frf⟩
theorem Cx.Ok.ae7{X:Cx}{E:Value->Shared->Prop}(ok:(X.G5 E).Ok):X.Ok :=
 ⟨ok.mod,ok.kind,ok.glob,ok.blt,ok.above,ok.inj,ok.has,ok.cab,ok.hd,ok.frames,ok.stk,ok.exf,ok.bs,ok.bsz,ok.noex,ok.exfs,ok.A4,ok.frf⟩
section
variable{X:Cx}{pins:List (Addr×Obj)}{σ:St}{H:Hp}{s:Shared}{E:Value->Shared->Prop}
theorem Inv.G5(I:Inv X pins σ H s)(E:Value->Shared->Prop):Inv (X.G5 E) pins σ H s:=⟨I.ok.G5 E,I.os,I.bare,I.base,I.loc,I.cell,I.free,I.freeC,I.pin,I.hok,I.len⟩
theorem Inv.ae7(I:Inv (X.G5 E) pins σ H s):Inv X pins σ H s:=⟨I.ok.ae7,I.os,I.bare,I.base,I.loc,I.cell,I.free,I.freeC,I.pin,I.hok,I.len⟩
end
section
variable{X:Cx}{st:Stmt}{rest:List Stmt}{t u:TS}{e:Expr}{te:TE}{pos:Pos}
noncomputable def a41:TS:=fun D σ H=>D.nx σ H
noncomputable def bE1(t u:TS):TS:=fun D σ H=>t { D with nx:=u D } σ H
theorem ba9:PSs X [] a41:=fun _ _ σ H _ I h=>wpAny_execs_nil ⟨σ,H,I,h⟩
theorem aW2(h1:PS X st t)(h2:PSs X rest u):PSs X (st::rest) (bE1 t u):=by
 intro pins s σ H D I h;refine wpAny_execs_cons (thn (h1 pins s σ H { D with nx:=u D } I h) fun f s1 q=>?_);cases f with
 |next =>
  obtain⟨σ',H',I',q⟩:=q;exact h2 pins s1 σ' H' D I' q
 |ret v=>exact q
 |brk=>exact q
 |cont=>exact q
theorem bb1:PS X (.Pass pos) a41:=fun _ _ σ H _ I h=>wpAny_Pass ⟨σ,H,I,h⟩
theorem Inv.quiet{pins:List (Addr×Obj)}{σ:St}{H:Hp}{s:Shared}(I:Inv X pins σ H s):interactive X.env=false:=by simp[interactive,I.ok.kind]
noncomputable def bv1(te:TE):TS:=fun D σ H=>te σ H fun _ H1=>D.nx σ H1
theorem bb2(he:PE X e te)(hs:swapsWith e none pos.line X.env=pure false:=by rfl):PS X (.Expr e pos) (bv1 te):=by
 intro pins s σ H D I h;exact wpAny_Expr_any (thn (he pins s σ H _ I h) fun v s1 ⟨x,H1,I1,r1,q1⟩=>⟨σ,H1,I1,q1⟩) I.quiet hs
noncomputable def bE2(te:TE):TS:=fun D σ H=>te σ H D.rt
theorem bm8(he:PE X e te):PS X (.Return (some e) pos) (bE2 te):=by
 intro pins s σ H D I h;exact wpAny_Return_some (thn (he pins s σ H _ I h) fun v s1 ⟨x,H1,I1,r1,q1⟩=>⟨x,σ,H1,I1,r1,q1⟩)
noncomputable def bu8:TS:=fun D _ H=>D.rt .non H
theorem bb0:PS X (.Return none pos) bu8:=fun _ _ σ H _ I h=>wpAny_Return_none ⟨.non,σ,H,I,rfl,h⟩
noncomputable def bE7(c:TT)(t u:TS):TS:=fun D σ H=>c σ H fun b H1=>if b=true then t D σ H1 else u D σ H1
theorem bw9{c:Expr}{a b:List Stmt}{tc:TT}(hc:PT X c tc)(ha:PSs X a t)(hb:PSs X b u):PS X (.If c a b pos) (bE7 tc t u):=by
 intro pins s σ H D I h;refine wpAny_If (thn (hc pins s σ H _ I h) fun d s1 ⟨H1,I1,q1⟩=>?_);cases d with
 |true=>exact ha pins s1 σ H1 D I1 q1
 |false=>exact hb pins s1 σ H1 D I1 q1
end
noncomputable abbrev TG:=V->St->Hp->(St->Hp->Prop)->Prop
noncomputable abbrev TGs:=List V->St->Hp->(St->Hp->Prop)->Prop
noncomputable def PG(X:Cx)(target:Expr)(t:TG):Prop :=
 ∀(pins:List (Addr×Obj)) (s:Shared) (σ:St) (H:Hp) (v:V) (u:Value) (Q:St->Hp->Prop),Inv X pins σ H s->RelV v u->t v σ H Q ->
  wpAny (model X.prog X.w) X.A (assign target X.env u) (fun _ s'=>∃σ' H',Inv X pins σ' H' s'/\Q σ' H') X.xe s
noncomputable def PGs(X:Cx)(ts:List Expr)(t:TGs):Prop :=
 ∀(pins:List (Addr×Obj)) (s:Shared) (σ:St) (H:Hp) (vs:List V) (us:List Value) (Q:St->Hp->Prop),Inv X pins σ H s->Vals vs us->t vs σ H Q ->
  wpAny (model X.prog X.w) X.A (assignInOrder ((assignEach ts X.env).map (·.2)) us) (fun _ s'=>∃σ' H',Inv X pins σ' H' s'/\Q σ' H') X.xe s
noncomputable abbrev a27:=V->V->V->Hp->(Hp->Prop)->Prop
noncomputable def a28(X:Cx)(t:a27):Prop :=
 ∀(pins:List (Addr×Obj)) (s:Shared) (σ:St) (H:Hp) (o i v:V) (ov iv u:Value) (Q:Hp->Prop),Inv X pins σ H s->RelV o ov->RelV i iv->RelV v u->t o i v H Q ->
  wpAny (model X.prog X.w) X.A (setItem ov iv u) (fun _ s'=>∃H',Inv X pins σ H' s'/\Q H') X.xe s
section
variable{X:Cx}{pos:Pos}
noncomputable def aa2(i:Nat):TG:=fun v σ H Q=>Q (σ.set i (some v)) H
theorem aB4{i:Nat}{x:Str}(hN:X.N.Nodup)(hi:X.N[i]?=some x)(hx:Loc X.env.scope x)(hf:X.fn x=true\/X.env.scope.names.lookup x=some .local:=by first|exact .inl rfl|exact .inr rfl|assumption):PG X (.Name x pos) (aa2 i):=by
 intro pins s σ H v u Q I r h;exact wpAny_assign_Name (R6 I hN hi hx r (fun s' I'=>⟨_,H,I',h⟩) hf)
noncomputable def br8:TGs:=fun vs σ H Q=>vs=[]/\Q σ H
noncomputable def a59(t:TG)(u:TGs):TGs:=fun vs σ H Q=>∃v r,vs=v::r/\t v σ H fun σ' H'=>u r σ' H' Q
theorem bb5:PGs X [] br8:=by
 intro pins s σ H vs us Q I r h;obtain⟨e,h⟩:=h;subst e;cases r;exact assignInOrder_nil ⟨σ,H,I,h⟩
theorem aW7{e:Expr}{es:List Expr}{t:TG}{u:TGs}(h1:PG X e t)(h2:PGs X es u)(hs:(assignEach (e::es) X.env).map (·.2)=assign e X.env::(assignEach es X.env).map (·.2):=by rfl):PGs X (e::es) (a59 t u):=by
 intro pins s σ H vs us Q I r h;obtain⟨v,vr,e1,h⟩:=h;subst e1;cases r with
 |cons r rr =>
  rw[hs];refine assignInOrder_cons (thn (h1 pins s σ H _ _ _ I r h) fun _ s1 ⟨σ1,H1,I1,q1⟩=>?_);exact h2 pins s1 σ1 H1 _ _ Q I1 rr q1
noncomputable def bJ1(K:PySem.W.Frag)(n:Nat)(t:TGs):TG:=fun v σ H Q=>∃a xs,v=.ref a/\SqT K H a xs/\xs.length=n/\t xs σ H Q
theorem bn3{es:List Expr}{k:Nat}{t:TGs}{n:Nat}(hc:X.calm=true)(h:PGs X es t)(hn:(assignEach es X.env).length=n:=by rfl)(hst:(assignEach es X.env).findIdx? (·.1)=none:=by rfl):PG X (.Tuple es k pos) (bJ1 X.K n t):=by
 intro pins s σ H v u Q I r hw;obtain⟨a,xs,e1,hq,hl,hw⟩:=hw;subst e1;cases r;obtain⟨its,rv,ht,hz⟩:=I.tuple hq;refine assign_Tuple_tuple (I.ok.hd hc) ht (by simp[hn,<- hl,rv.length]) hst fun h' hx=>?_;have I1:Inv X pins σ H { s with heap:=h' }:=I.kept (t':=s.toks) fun b o e=>hx b o (Nat.ne_of_lt (Heap.lt_size e)) e;exact h pins _ σ H xs _ Q I1 (by simpa using rv) hw
noncomputable def bJ2(to ti:TE)(t:a27):TG:=fun v σ H Q=>to σ H fun o H1=>ti σ H1 fun i H2=>t o i v H2 fun H3=>Q σ H3
theorem bn4{o i:Expr}{to ti:TE}{t:a27}(ho:PE X o to)(hi:PE X i ti)(hs:a28 X t)(ha:∀ v,assign (.Subscript o i pos) X.env v=(do
   let ov <- holding [v] (eval o X.env)
   let iv <- holding [v,ov] (eval i X.env)
   standAt pos
   holding [v,ov,iv] (setItem ov iv v)
   release [v,ov,iv] []):=by intro _;rfl):PG X (.Subscript o i pos) (bJ2 to ti t):=by
 intro pins s σ H v u Q I r h;rw[ha];refine wpAny_bind (wpAny_holding (thn (ho pins s σ H _ I h) fun ov s1 ⟨x,H1,I1,r1,q1⟩=>?_));refine wpAny_bind (wpAny_holding (thn (hi pins s1 σ H1 _ I1 q1) fun iv s2 ⟨y,H2,I2,r2,q2⟩=>?_));refine wpAny_bind (wpAny_standAt (wpAny_bind (wpAny_holding (thn (hs pins s2 σ H2 x y v ov iv u _ I2 r1 r2 r q2) fun _ s3 ⟨H3,I3,q3⟩=>?_))));exact wpAny_release ⟨σ,H3,I3,q3⟩
noncomputable def ar7(te:TE)(g:TG):TS:=fun D σ H=>te σ H fun x H1=>g x σ H1 D.nx
theorem aN0{tg e:Expr}{te:TE}{g:TG}(he:PE X e te)(hg:PG X tg g)(hs:swapsWithSole [tg] e pos.line X.env=pure false:=by rfl)(hw:swappedStores [tg] e X.env=pure none:=by rfl)(h1:(assignEach [tg] X.env).map (·.2)=[assign tg X.env]:=by rfl):PS X (.Assign [tg] e pos) (ar7 te g):=by
 intro pins s σ H D I h;refine wpAny_Assign_stores (thn (he pins s σ H _ I h) fun v s1 ⟨x,H1,I1,r1,q1⟩=>?_) hs hw;rw[h1];exact thn (hg pins s1 σ H1 x v _ I1 r1 q1) fun _ s2 q=>q
theorem aM8{i:Nat}{x:Str}{e:Expr}{te:TE}{pos':Pos}(hN:X.N.Nodup)(hi:X.N[i]?=some x)(hx:Loc X.env.scope x)(he:PE X e te)(hs:swapsWith e (some (.Name x pos')) pos.line X.env=pure false:=by rfl)(hf:X.fn x=true\/X.env.scope.names.lookup x=some .local:=by first|exact .inl rfl|exact .inr rfl|assumption) :
  PS X (.Assign [.Name x pos'] e pos) (ar7 te (aa2 i)):=by
 intro pins s σ H D I h;refine wpAny_Assign_Name (thn (he pins s σ H _ I h) fun v s1 ⟨y,H1,I1,r1,q1⟩=>?_) hs;exact R6 I1 hN hi hx r1 (fun s2 I2=>⟨_,H1,I2,q1⟩) hf
noncomputable def bE3(i j:Nat)(ta:TA):TS:=fun D σ H=>ta σ H fun vs H1=>∃v w,vs=[v,w]/\D.nx ((σ.set i (some v)).set j (some w)) H1
theorem bm9{i j:Nat}{x y:Str}{a b:Expr}{ta:TA}{px py pt:Pos}{kt k2 pt2}(hc:X.calm=true)(hN:X.N.Nodup)(hi:X.N[i]?=some x)(hj:X.N[j]?=some y)(hij:i≠j)(hx:X.env.scope.names.lookup x=some .local)(hy:X.env.scope.names.lookup y=some .local)(ha:PA X [a,b] ta)(hw:swappedStores [.Tuple [.Name x px,.Name y py] kt pt] (.Tuple [a,b] k2 pt2) X.env=pure (some [x,y]))(hs:swapsWithSole [.Tuple [.Name x px,.Name y py] kt pt] (.Tuple [a,b] k2 pt2) pos.line X.env=pure false:=by rfl) :
  PS X (.Assign [.Tuple [.Name x px,.Name y py] kt pt] (.Tuple [a,b] k2 pt2) pos) (bE3 i j ta):=by
 intro pins s σ H D I h;rw[exec_Assign_arm];refine wpAny_bind (wpAny_standAt ?_);rw[hs];refine wpAny_bind (wpAny_pure ?_);rw[if_neg (by decide)];refine wpAny_bind (Tuple_ (thn (ha _ pins s σ H _ I h) fun us s1 ⟨vs,H1,I1,r1,q1⟩=>?_));obtain⟨v,w,e1,q1⟩:=q1;subst e1;obtain⟨u1,u2,rfl,rv,rw'⟩:∃u1 u2,us=[u1,u2]/\RelV v u1/\RelV w u2:=by
  cases r1 with
  |cons p q =>
   cases q with
   |cons p' q' =>
    cases q';exact⟨_,_,rfl,p,p'⟩
 refine wpAny_newObj_type ?_ (by show 2<=sizeLine;decide);have I2:Inv X pins σ H1 { s1 with heap:=s1.heap.push { cls:=.type "tuple",data:=.seq [u1,u2].toArray } }:=I1.kept (t':=s1.toks) fun b o e=>Heap.get?_push_of_some _ e;rw[hw];refine wpAny_bind (wpAny_pure ?_);show wpAny (model X.prog X.w) X.A (do rule "assign.swapped-stores";let items <- unpackItems (.ref s1.heap.objs.size) 2 none;assignInOrder [fun v=>bindName X.env y v,fun v=>bindName X.env x v] items.reverse;pure Flow.next) _ _ _;refine wpAny_bind (wpAny_rule (wpAny_bind (unpackItems_tuple (items:=#[u1,u2]) (I.ok.hd hc) (IsTup.new s1.heap _) fun h' hx'=>?_)));have I3:=I2.kept (h':=h') (t':=s1.toks) fun b o e=>hx' b o (Nat.ne_of_lt (Heap.lt_size e)) e;show wpAny _ _ (assignInOrder [fun v=>bindName X.env y v,fun v=>bindName X.env x v] [u2,u1] >>= fun _=>pure Flow.next) _ _ _;refine wpAny_bind (assignInOrder_cons (wpAny_bindName (R6 I3 hN hj (.inl hy) rw' (fun s2 I4=>?_) (.inr hy))));refine assignInOrder_cons (wpAny_bindName (R6 I4 hN hi (.inl hx) rv (fun s3 I5=>assignInOrder_nil (wpAny_pure ?_)) (.inr hx)));rw[List.set_comm _ _ (Ne.symm hij)] at I5;exact⟨_,H1,I5,q1⟩
end
section
variable{X:Cx}{pos:Pos}
noncomputable def bi1(c:TT)(tb:TS):TS:=fun D σ H=>∃W:Nat->St->Hp->Prop,(∃m,W m σ H)/\∀m σ H,W m σ H ->
 c σ H fun b H1=>if b=true then ∃N:St->Hp->Prop,(∀σ' H',N σ' H'->∃m',m'<m/\W m' σ' H')/\tb { D with nx:=N,ct:=N,bk:=D.nx } σ H1 else D.nx σ H1
theorem aW3{c:Expr}{body:List Stmt}{tc:TT}{tb:TS}(hp:PassesOwn (model X.prog X.w) X.A X.env X.xe)(hc:PT X c tc)(hb:PSs X body tb):PS X (.While c body [] pos) (bi1 tc tb):=by
 intro pins s σ H D I h;obtain⟨W,⟨m0,w0⟩,turn⟩:=h;refine wpAny_While (codeAny_whileLoop (fun n s'=>∃σ' H',Inv X pins σ' H' s'/\W n σ' H') ?_ m0 ⟨σ,H,I,w0⟩);rintro n s1 ⟨σ1,H1,I1,w1⟩;refine wpAny_passesOwn hp (thn (hc pins s1 σ1 H1 _ I1 (turn n σ1 H1 w1)) fun b s2 ⟨H2,I2,q2⟩=>?_);cases b with
 |true =>
  obtain⟨N,hN,q2⟩:=q2;rw[if_pos rfl];refine wpAny_passesOwn hp (thn (hb pins s2 σ1 H2 _ I2 q2) fun f s3 q3=>?_);cases f with
  |next =>
   obtain⟨σ3,H3,I3,n3⟩:=q3;obtain⟨m',hm,w3⟩:=hN σ3 H3 n3;exact⟨m',hm,σ3,H3,I3,w3⟩
  |cont =>
   obtain⟨σ3,H3,I3,n3⟩:=q3;obtain⟨m',hm,w3⟩:=hN σ3 H3 n3;exact⟨m',hm,σ3,H3,I3,w3⟩
  |brk=>exact q3
  |ret v=>exact q3
 |false =>
  rw[if_neg Bool.false_ne_true];exact wpAny_execs_nil ⟨σ1,H2,I2,q2⟩
end
structure It where
 go:Nat->Hp->Prop
 yld:Nat->Hp->V->Hp->Prop
 stop:Nat->Hp->Prop
noncomputable def C4(X:Cx)(pins:List (Addr×Obj))(H:Hp)(b:Addr):Prop :=
 H b=none/\b≠X.env.locals/\b∉X.fs/\(b∈X.ex\/X.s₀.heap.objs.size<=b)/\(∀x c,X.env.cells.lookup x=some c->c≠b)/\∀p∈X.pn++pins,p.1≠b
theorem Inv.ak3{X:Cx}{pins:List (Addr×Obj)}{σ:St}{H H':Hp}{s:Shared}{b:Addr}(I:Inv X pins σ H s)(hb:s.heap.objs.size<=b)(hn:H' b=none):C4 X pins H' b:=by
 refine⟨hn,Nat.ne_of_gt (Nat.lt_of_lt_of_le I.lt hb),I.aG2 hb,.inr (Nat.le_trans I.sz hb),fun x c e z=>?_,fun p hp z=>?_⟩
 ·obtain⟨v,q⟩:=I.cell x c e;exact absurd (Nat.lt_of_lt_of_le q.lt (by rw[z];exact hb)) (Nat.lt_irrefl _)
 ·exact absurd (Nat.lt_of_lt_of_le (Heap.lt_size (I.pin p hp).1) (by rw[z];exact hb)) (Nat.lt_irrefl _)
structure Turn(P:Program)(w:World)(K:PySem.W.Frag)(tg:Expr)(J:It)(fp:List Addr)(it:Addr)(tn:Nat->Heap->Prop):Prop where
 mem:it∈fp
 obj:∀i h,tn i h->∀b∈fp,∃o,h.get? b=some o/\∀v,o.data≠.cell v
 keep:∀i h h',tn i h->(∀b∈fp,∀o,h.get? b=some o->h'.get? b=some o)->tn i h'
 item:∀(X:Cx),X.prog=P->X.w=w->X.K=K->X.calm=true->∀(i:Nat) (pins:List (Addr×Obj)) (s:Shared) (σ:St) (H:Hp) (E:Value->Shared->Prop),Inv X pins σ H s->(∀b∈fp,C4 X pins H b)->tn i s.heap->J.go i H ->
  wpAny (model P w) X.A (pyNext (.ref it)) (fun r s1=>∃ u,r=some u /\
   wpAny (model P w) X.A (letOwnedTupleGo tg (.ref it) u) (fun _ s2=>∃ x H',Inv X pins σ H' s2/\RelV x u/\J.yld i H x H'/\tn (i + 1) s2.heap/\∀ b ∈ fp,H' b=none) E s1) E s
 done:∀(X:Cx),X.prog=P->X.w=w->X.K=K->X.calm=true->∀(i:Nat) (pins:List (Addr×Obj)) (s:Shared) (σ:St) (H:Hp) (E:Value->Shared->Prop),Inv X pins σ H s->(∀b∈fp,C4 X pins H b)->tn i s.heap->J.stop i H ->
  wpAny (model P w) X.A (pyNext (.ref it)) (fun r s1=>r=none/\Inv X pins σ H s1) E s
 self:∀(A:Around) (i:Nat) (s:Shared) (Q:Value->Shared->Prop) (E:Value->Shared->Prop),tn i s.heap->Q (.ref it) s->wpAny (model P w) A (pyIter (.ref it)) Q E s
noncomputable abbrev TI:=St->Hp->(It->Hp->Prop)->Prop
noncomputable def PIE(X:Cx)(pins:List (Addr×Obj))(σ:St)(tg:Expr)(R:It->Hp->Prop)(itv:Value)(s2:Shared):Prop :=
 ∃(it:Addr) (fp:List Addr) (tn:Nat->Heap->Prop) (J:It) (H':Hp),itv=.ref it/\Inv X pins σ H' s2/\Turn X.prog X.w X.K tg J fp it tn/\tn 0 s2.heap/\(∀b∈fp,C4 X pins H' b)/\R J H'
noncomputable def PI(X:Cx)(tg iter:Expr)(wi:TI):Prop :=
 ∀(pins:List (Addr×Obj)) (s:Shared) (σ:St) (H:Hp) (R:It->Hp->Prop),Inv X pins σ H s->wi σ H R ->
  wpAny (model X.prog X.w) X.A (eval iter X.env) (fun v s1=>wpAny (model X.prog X.w) X.A (pyIter v) (PIE X pins σ tg R) X.xe s1) X.xe s
theorem aH8{M:Model}{A:Around}{E:Value->Shared->Prop}{s:Shared}{tg:Expr}{it:Addr}{u:Value}{o:Obj}{n:String}{vs:Array Value}{Q:Unit->Shared->Prop}(ho:s.heap.get? it=some o)(hc:o.cls=.type n)(hd:o.data=.fields vs)(hn:["enumerate","zip","dict_itemiterator","dict_reverseitemiterator","odict_iterator","itertools.zip_longest","itertools.pairwise"].contains n=false)(hQ:Q () s):wpAny M A (letOwnedTupleGo tg (.ref it) u) Q E s:=by
  unfold letOwnedTupleGo;cases tg<;>first
    |exact wpAny_pure hQ
    | (cases u <;> first
        |exact wpAny_pure hQ
        | (refine wpAny_bind (wpAny_load ho ?_)
           rw[hc,hd];show wpAny M A (if(["enumerate","zip","dict_itemiterator","dict_reverseitemiterator","odict_iterator","itertools.zip_longest","itertools.pairwise"].contains n&&vs[0]?==some (rawInt _))=true then _ else _) Q E s;rw[if_neg (by intro h;rw[hn,Bool.false_and] at h;cases h)];exact wpAny_pure hQ))
noncomputable def Itl(K:PySem.W.Frag)(a:Addr):It :=
 ⟨fun i H=>∃xs x,SqL K H a xs/\xs[i]?=some x,fun i H x H'=>H'=H/\∀xs,SqL K H a xs->xs[i]?=some x,fun i H=>∃xs,SqL K H a xs/\xs.length<=i⟩
noncomputable def Itt(K:PySem.W.Frag)(a:Addr):It :=
 ⟨fun i H=>∃xs x,SqT K H a xs/\xs[i]?=some x,fun i H x H'=>H'=H/\∀xs,SqT K H a xs->xs[i]?=some x,fun i H=>∃xs,SqT K H a xs/\xs.length<=i⟩
noncomputable def Itr(lo:Int)(n:Nat):It:=⟨fun i _=>i<n,fun i H x H'=>H'=H/\x=.int (lo+i),fun i _=>n<=i⟩
theorem aK6{P:Program}{w:World}{K:PySem.W.Frag}{tg:Expr}(a it:Addr):Turn P w K tg (Itl K a) [it] it (fun i h=>h.IsListIter it a i) where
 mem:=by simp
 obj:=fun i h st b hb=>by
  have e:b=it:=by simpa using hb
  subst e;obtain⟨o,e,c,d⟩:=st;exact⟨o,e,fun v z=>by rw[d] at z;cases z⟩
 keep:=fun i h h' st k=>st.at fun o e=>k it (by simp) o e
 item:=by
  intro X hP hw hK hc i pins s σ H E I hf st hg;subst hP hw hK;obtain⟨xs,x,hq,hx⟩:=hg;obtain⟨its,rv,p,hz⟩:=I.list hq;obtain⟨u,hu,ru⟩:=rv.get hx;obtain⟨f0,f1,f2,f3,f4,f5⟩:=hf it (by simp);refine wpAny_pyNext_list_item st p.isList (x:=u) (by simpa using hu) fun h' st' sb=>?_;have I1:Inv X pins σ H { s with heap:=h' }:=I.turned (t':=s.toks) (fun b o hb e=>(sb.2 b hb).trans e) f0 f1 f3 f4 f5;obtain⟨o,e,c,d⟩:=id st';exact⟨u,rfl,aH8 (s:={ s with heap:=h' }) e c d (by decide) ⟨x,H,I1,ru,⟨rfl,fun ys hy=>by rw[I.aZ2 hy hq];exact hx⟩,st',fun b hb=>(hf b hb).1⟩⟩
 done:=by
  intro X hP hw hK hc i pins s σ H E I hf st hg;subst hP hw hK;obtain⟨xs,hq,hx⟩:=hg;obtain⟨its,rv,p,hz⟩:=I.list hq;obtain⟨f0,f1,f2,f3,f4,f5⟩:=hf it (by simp);have hl:=rv.length;exact wpAny_pyNext_list_end (I.ok.hd hc) st p.isList (by simp;omega) fun h' eb=>⟨rfl,I.turned (t':=s.toks) (fun b o hb e=>eb b o hb e) f0 f1 f3 f4 f5⟩
 self:=fun _ _ _ _ _ st h=>wpAny_pyIter_listiter st h
theorem aE2{P:Program}{w:World}{K:PySem.W.Frag}{tg:Expr}(a it:Addr):Turn P w K tg (Itt K a) [it] it (fun i h=>h.IsTupleIter it a i) where
 mem:=by simp
 obj:=fun i h st b hb=>by
  have e:b=it:=by simpa using hb
  subst e;obtain⟨o,e,c,d⟩:=st;exact⟨o,e,fun v z=>by rw[d] at z;cases z⟩
 keep:=fun i h h' st k=>st.at fun o e=>k it (by simp) o e
 item:=by
  intro X hP hw hK hc i pins s σ H E I hf st hg;subst hP hw hK;obtain⟨xs,x,hq,hx⟩:=hg;obtain⟨its,rv,p,hz⟩:=I.tuple hq;obtain⟨u,hu,ru⟩:=rv.get hx;obtain⟨f0,f1,f2,f3,f4,f5⟩:=hf it (by simp);refine wpAny_pyNext_tuple_item st (show s.heap.IsTuple a its.toArray from p) (x:=u) (by simpa using hu) fun h' st' sb=>?_;have I1:Inv X pins σ H { s with heap:=h' }:=I.turned (t':=s.toks) (fun b o hb e=>(sb.2 b hb).trans e) f0 f1 f3 f4 f5;obtain⟨o,e,c,d⟩:=id st';exact⟨u,rfl,aH8 (s:={ s with heap:=h' }) e c d (by decide) ⟨x,H,I1,ru,⟨rfl,fun ys hy=>by rw[I.aK8 hy hq];exact hx⟩,st',fun b hb=>(hf b hb).1⟩⟩
 done:=by
  intro X hP hw hK hc i pins s σ H E I hf st hg;subst hP hw hK;obtain⟨xs,hq,hx⟩:=hg;obtain⟨its,rv,p,hz⟩:=I.tuple hq;obtain⟨f0,f1,f2,f3,f4,f5⟩:=hf it (by simp);have hl:=rv.length;exact wpAny_pyNext_tuple_end (I.ok.hd hc) st (show s.heap.IsTuple a its.toArray from p) (by simp;omega) fun h' eb=>⟨rfl,I.turned (t':=s.toks) (fun b o hb e=>eb b o hb e) f0 f1 f3 f4 f5⟩
 self:=fun _ _ _ _ _ st h=>wpAny_pyIter_tupleiter st h
theorem aE3{P:Program}{w:World}{K:PySem.W.Frag}{tg:Expr}(it:Addr)(lo:Int)(n:Nat):Turn P w K tg (Itr lo n) [it] it (fun i h=>IsRangeIter h it (lo+(i:Nat)*1) ((n:Int)-(i:Nat)) 1) where
 mem:=by simp
 obj:=fun i h st b hb=>by
  have e:b=it:=by simpa using hb
  subst e;exact ⟨_,st,fun v z=>by
   have z':Data.fields _=Data.cell v:=z;cases z'⟩
 keep:=fun i h h' st k=>k it (by simp) _ st
 item:=by
  intro X hP hw hK hc i pins s σ H E I hf st hg;subst hP hw hK;obtain⟨f0,f1,f2,f3,f4,f5⟩:=hf it (by simp);have W:=Walks.range (prog:=X.prog) (w:=X.w) (I.ok.hd hc) it lo 1 n;refine W.item i s _ _ hg st fun v h' tk hv st' kk=>?_;obtain⟨t,rfl⟩:=hv;have I1:Inv X pins σ H { s with heap:=h',toks:=tk }:=I.turned (fun b o hb e=>kk b o (by simpa using hb) e) f0 f1 f3 f4 f5;refine⟨_,rfl,aH8 (s:={ s with heap:=h',toks:=tk }) (n:="range_iterator") st' rfl rfl (by decide) ⟨.int (lo+i),H,I1,⟨t,?_⟩,⟨rfl,rfl⟩,st',fun b hb=>(hf b hb).1⟩⟩;rw[Int.mul_one]
 done:=by
  intro X hP hw hK hc i pins s σ H E I hf st hg;subst hP hw hK;obtain⟨f0,f1,f2,f3,f4,f5⟩:=hf it (by simp);exact wpAny_pyNext_range_end (I.ok.hd hc) st (by have:n<=i:=hg;omega) fun h' eb=>⟨rfl,I.turned (t':=s.toks) (fun b o hb e=>eb b o hb e) f0 f1 f3 f4 f5⟩
 self:=fun _ _ _ _ _ st h=>wpAny_pyIter_rangeiter st h
end L2
namespace L2
open PySem PySem.Spec PyProof.Rows
section
variable{X:Cx}{tg:Expr}
theorem at3{pins:List (Addr×Obj)}{σ:St}{H:Hp}{s:Shared}{R:It->Hp->Prop}{E:Value->Shared->Prop}{lo hi:Int}{t u v:Tok}{tk:Nat}(I:Inv X pins σ H s)(h1:-(2 ^ 62)<=lo)(h2:lo<2 ^ 62)(h3:-(2 ^ 62)<=hi)(h4:hi<2 ^ 62)(q:R (Itr lo (hi-lo).toNat) H):wpAny (model X.prog X.w) X.A (pyIter (.ref s.heap.objs.size)) (PIE X pins σ tg R) E { s with heap:=s.heap.push { cls:=.type "range",data:=.fields #[.int lo t,.int hi u,.int 1 v] },toks:=tk }:=by
 refine wpAny_pyIter_range (IsRange.new ..) (small_one h1 h2 h3 h4) ?_;have I1:Inv X pins σ H { s with heap:=s.heap.push { cls:=.type "range",data:=.fields #[.int lo t,.int hi u,.int 1 v] },toks:=tk }:=I.kept fun b o e=>Heap.get?_push_of_some _ e;refine ⟨(s.heap.push { cls:=.type "range",data:=.fields #[.int lo t,.int hi u,.int 1 v] }).objs.size,[(s.heap.push { cls:=.type "range",data:=.fields #[.int lo t,.int hi u,.int 1 v] }).objs.size],_,_,H,rfl,
  I1.kept (t':=tk) fun b o e=>Heap.get?_push_of_some _ e,aE3 _ lo (hi - lo).toNat,?_,fun b hb=>?_,q⟩
 ·have e1:lo+((0:Nat):Int)*1=lo:=by simp
  have e2:(((hi-lo).toNat:Nat):Int)-((0:Nat):Int)=Builtin.Range.rangeSize lo hi 1:=by rw[rangeSize_one];split<;>omega
  show IsRangeIter _ _ (lo+((0:Nat):Int)*1) ((((hi-lo).toNat:Nat):Int)-((0:Nat):Int)) 1;rw[e1,e2];exact Heap.get?_push_size _ rfl
 ·have e:b=(s.heap.push { cls:=.type "range",data:=.fields #[.int lo t,.int hi u,.int 1 v] }).objs.size:=by simpa using hb
  subst e;exact I1.ak3 (Nat.le_refl _) (I1.hok.fresh (Nat.le_refl _))
noncomputable def bA0(ta:TA):TI:=fun σ H R=>ta σ H fun vs H1=>∃j:Int,vs=[.int j]/\-(2 ^ 62)<=j/\j<2 ^ 62/\R (Itr 0 j.toNat) H1
noncomputable def bz9(ta:TA):TI:=fun σ H R=>ta σ H fun vs H1=>∃i j:Int,vs=[.int i,.int j]/\(-(2 ^ 62)<=i/\i<2 ^ 62/\-(2 ^ 62)<=j/\j<2 ^ 62)/\R (Itr i (j-i).toNat) H1
theorem aN4{a:Expr}{ta:TA}{p pos:Pos}(hg:Gl X "range")(hm:X.mg "range"=none)(ha:PA X [a] ta)(hs:starEach [a] X.env=[(false,eval a X.env)]:=by rfl):PI X tg (.Call (.Name "range" p) [a] [] pos) (bA0 ta):=by
 intro pins s σ H R I h;refine Call_ (M6 I hg hm boot_range (PyProof.Rows.callWith_type1 (thn (ha pos pins s σ H _ I h) fun us s1 ⟨vs,H1,I1,r1,q1⟩=>?_) hs rfl));obtain⟨j,e,q1,q2,q⟩:=q1;subst e;cases r1 with
 |cons r rr =>
  cases rr;obtain⟨t,rfl⟩:=r;exact call_range_1 (at3 I1 (by omega) (by omega) q1 q2 (by simpa using q))
theorem aN3{a b:Expr}{ta:TA}{p pos:Pos}(hg:Gl X "range")(hm:X.mg "range"=none)(ha:PA X [a,b] ta)(hs:starEach [a,b] X.env=[(false,eval a X.env),(false,eval b X.env)]:=by rfl)(hs2:starEach [b] X.env=[(false,eval b X.env)]:=by rfl) :
  PI X tg (.Call (.Name "range" p) [a,b] [] pos) (bz9 ta):=by
 intro pins s σ H R I h;refine Call_ (M6 I hg hm boot_range (PyProof.Rows.callWith_type1 (thn (ha pos pins s σ H _ I h) fun us s1 ⟨vs,H1,I1,r1,q1⟩=>?_) (by rw[hs,hs2]) (by rw[hs2];rfl)));obtain⟨i,j,e,⟨q1,q2,q3,q4⟩,q⟩:=q1;subst e;cases r1 with
 |cons r rr =>
  cases rr with
  |cons r' rr =>
   cases rr;obtain⟨t,rfl⟩:=r;obtain⟨t',rfl⟩:=r';exact call_range_2 (at3 I1 q1 q2 q3 q4 q)
noncomputable def bE8(wi:TI)(g:TG)(tb:TS):TS:=fun D σ H=>wi σ H fun J H1=>∃W:Nat->Nat->St->Hp->Prop,(∃m,W 0 m σ H1)/\∀i m σ H,W i m σ H ->
 (J.stop i H/\D.nx σ H)\/(J.go i H/\∃N:St->Hp->Prop,(∀σ' H',N σ' H'->∃m',m'<m/\W (i+1) m' σ' H')/\∀x H',J.yld i H x H'->g x σ H' fun σ2 H2=>tb { D with nx:=N,ct:=N,bk:=D.nx } σ2 H2)
noncomputable def V8(fp:List Addr)(h:Heap):List (Addr×Obj):=fp.filterMap fun b=>(h.get? b).map fun o=>(b,o)
theorem S5{fp:List Addr}{h:Heap}{b:Addr}{o:Obj}(hb:b∈fp)(e:h.get? b=some o):(b,o)∈V8 fp h:=List.mem_filterMap.mpr ⟨b,hb,by rw[e];rfl⟩
theorem aO5{fp:List Addr}{h:Heap}{p:Addr×Obj}(hp:p∈V8 fp h):p.1∈fp/\h.get? p.1=some p.2:=by
 obtain⟨b,hb,e⟩:=List.mem_filterMap.mp hp;cases q:h.get? b with
 |none=>rw[q] at e;cases e
 |some o =>
  rw[q] at e;have e':(b,o)=p:=Option.some.inj e;subst e';exact⟨hb,q⟩
theorem Inv.pinned{pins:List (Addr×Obj)}{σ:St}{H:Hp}{s:Shared}{fp:List Addr}(I:Inv X pins σ H s)(hf:∀b∈fp,C4 X pins H b)(ho:∀b∈fp,∃o,s.heap.get? b=some o/\∀v,o.data≠.cell v):Inv X (pins++V8 fp s.heap) σ H s :=
 I.P6 fun p hp=>(List.mem_append.mp hp).elim (fun z=>I.pin p (List.mem_append_right _ z)) fun z=>by
  obtain⟨hb,e⟩:=aO5 z;obtain⟨f0,f1,f2,_⟩:=hf p.1 hb;obtain⟨o,e',d⟩:=ho p.1 hb;rw[e] at e';cases e';exact⟨e,f0,f1,f2,d⟩
theorem Inv.ac6{pins pl:List (Addr×Obj)}{σ:St}{H:Hp}{s:Shared}(I:Inv X (pins++pl) σ H s):Inv X pins σ H s:=I.P6 fun p hp=>I.pin p (List.mem_append_right _ (List.mem_append_left _ hp))
theorem bn0{iter:Expr}{body:List Stmt}{wi:TI}{g:TG}{tb:TS}{pos:Pos}(hp:PassesOwn (model X.prog X.w) X.A X.env X.xe)(hc:X.calm=true)(hi:PI X tg iter wi)(hg:PG X tg g)(hb:PSs X body tb)(hs:∀x,foldedSetIterable iter X.env x=pure x:=by intro _;rfl):PS X (.For tg iter body [] pos) (bE8 wi g tb):=by
 intro pins s σ H D I h;refine wpAny_For (thn (hi pins s σ H _ I h) fun v s1 h1=>thn h1 fun itv s2 h2=>?_) hs;obtain⟨it,fp,tn,J,H2,e,I2,T,st2,f2,W,⟨m0,w0⟩,turn⟩:=h2;subst e;have stat:∀{H':Hp},(∀b∈fp,H' b=none)->∀b∈fp,C4 X pins H' b:=fun hn b hb=>⟨hn b hb,(f2 b hb).2⟩
 refine codeAny_forLoop_any (fun n s'=>∃i σ' H',Inv X pins σ' H' s'/\tn i s'.heap/\(∀b∈fp,H' b=none)/\W i n σ' H') ?_ m0 ⟨0,σ,H2,I2,st2,fun b hb=>(f2 b hb).1,w0⟩;rintro n s3 ⟨i,σ3,H3,I3,st3,fr3,w3⟩;rcases turn i n σ3 H3 w3 with⟨stop,qn⟩|⟨go,N,hN,step⟩
 ·refine wpAny_passesOwn hp (thn (T.done X rfl rfl rfl hc i pins s3 σ3 H3 X.xe I3 (stat fr3) st3 stop) fun r s4 ⟨hr,I4⟩=>?_);subst hr;exact wpAny_execs_nil ⟨σ3,H3,I4,qn⟩
 ·refine wpAny_passesOwn hp (thn (T.item X rfl rfl rfl hc i pins s3 σ3 H3 X.xe I3 (stat fr3) st3 go) fun r s4 ⟨u,hr,h4⟩=>?_);subst hr;refine wpAny_passesOwn hp (thn h4 fun _ s5 ⟨x,H5,I5,r5,y5,st5,fr5⟩=>?_);have I5':=I5.pinned (stat fr5) (T.obj _ _ st5);refine wpAny_passesOwn hp (thn (hg _ s5 σ3 H5 x u _ I5' r5 (step x H5 y5)) fun _ s6 ⟨σ6,H6,I6,q6⟩=>?_);refine wpAny_passesOwn hp (thn (hb _ s6 σ6 H6 _ I6 q6) fun f s7 q7=>?_);have again:∀{σ7:St} {H7:Hp},Inv X (pins++V8 fp s5.heap) σ7 H7 s7->N σ7 H7->∃m,m<n/\∃i σ' H',Inv X pins σ' H' s7/\tn i s7.heap/\(∀b∈fp,H' b=none)/\W i m σ' H':=fun{σ7 H7} I7 n7=>by
   obtain⟨m',hm,w7⟩:=hN σ7 H7 n7;refine⟨m',hm,i+1,σ7,H7,I7.ac6,T.keep _ _ _ st5 fun b hb o e=>(I7.pin (b,o) (List.mem_append_right _ (List.mem_append_right _ (S5 hb e)))).1,fun b hb=>?_,w7⟩;obtain⟨o,e,d⟩:=T.obj _ _ st5 b hb;exact(I7.pin (b,o) (List.mem_append_right _ (List.mem_append_right _ (S5 hb e)))).2.1
  cases f with
  |next=>obtain⟨σ7,H7,I7,n7⟩:=q7;exact again I7 n7
  |cont=>obtain⟨σ7,H7,I7,n7⟩:=q7;exact again I7 n7
  |brk=>obtain⟨σ7,H7,I7,q7⟩:=q7;exact⟨σ7,H7,I7.ac6,q7⟩
  |ret v=>obtain⟨x7,σ7,H7,I7,r7,q7⟩:=q7;exact⟨x7,σ7,H7,I7.ac6,r7,q7⟩
end
end L2
namespace L2
open PySem PySem.Spec PyProof.Rows
noncomputable abbrev R2:=V->V->Hp->VK->Prop
noncomputable def OpR(X:Cx)(f:Value->Value->Sem Value)(r:R2):Prop :=
 ∀(pins:List (Addr×Obj)) (s:Shared) (σ:St) (H:Hp) (x y:V) (v u:Value) (Q:VK),Inv X pins σ H s->RelV x v->RelV y u->r x y H Q ->
  wpAny (model X.prog X.w) X.A (f v u) (EP X pins σ Q) X.xe s
noncomputable def UnR(X:Cx)(f:Value->Sem Value)(r:V->Hp->VK->Prop):Prop :=
 ∀(pins:List (Addr×Obj)) (s:Shared) (σ:St) (H:Hp) (x:V) (v:Value) (Q:VK),Inv X pins σ H s->RelV x v->r x H Q ->
  wpAny (model X.prog X.w) X.A (f v) (EP X pins σ Q) X.xe s
noncomputable def j4(X:Cx)(f:Value)(r:List V->Hp->VK->Prop):Prop :=
 ∀(pins:List (Addr×Obj)) (s:Shared) (σ:St) (H:Hp) (xs:List V) (us:List Value) (Q:VK),Inv X pins σ H s->Vals xs us->r xs H Q ->
  wpAny (model X.prog X.w) X.A (call f us) (EP X pins σ Q) X.xe s
noncomputable def bK6(X:Cx)(r:V->Hp->(Bool->Hp->Prop)->Prop):Prop :=
 ∀(pins:List (Addr×Obj)) (s:Shared) (σ:St) (H:Hp) (x:V) (v:Value) (Q:Bool->Hp->Prop),Inv X pins σ H s->RelV x v->r x H Q ->
  wpAny (model X.prog X.w) X.A (truthy v) (TP X pins σ Q) X.xe s
noncomputable def tOp(r:R2)(ta tb:TE):TE:=fun σ H Q=>ta σ H fun x H1=>tb σ H1 fun y H2=>r x y H2 Q
noncomputable def tUn(r:V->Hp->VK->Prop)(ta:TE):TE:=fun σ H Q=>ta σ H fun x H1=>r x H1 Q
noncomputable def rI(C:Int->Int->Prop)(g:Int->Int->V):R2:=fun x y H Q=>∃i j,x=.int i/\y=.int j/\C i j/\Q (g i j) H
noncomputable def rI0(g:Int->Int->V):R2:=fun x y H Q=>∃i j,x=.int i/\y=.int j/\Q (g i j) H
noncomputable def rU(g:Int->V):V->Hp->VK->Prop:=fun x H Q=>∃i,x=.int i/\Q (g i) H
section
variable{X:Cx}{a b c:Expr}{ta tb tc:TE}{pos:Pos}
theorem a20(ha:PE X a ta)(hb:PE X b tb){pins:List (Addr×Obj)}{s:Shared}{σ:St}{H:Hp}{R:V->V->Hp->Prop}(I:Inv X pins σ H s)(h:ta σ H fun x H1=>tb σ H1 fun y H2=>R x y H2){Q:Value->Shared->Prop}{f:Value->Value->Sem Value}(hf:∀v u s2 x y H2,Inv X pins σ H2 s2->RelV x v->RelV y u->R x y H2->wpAny (model X.prog X.w) X.A (f v u) Q X.xe s2) :
  wpAny (model X.prog X.w) X.A (eval a X.env) (fun v s₁=>wpAny (model X.prog X.w) X.A (eval b X.env) (fun u s₂=>wpAny (model X.prog X.w) X.A (f v u) Q X.xe s₂) X.xe s₁) X.xe s:=by
 refine thn (ha pins s σ H _ I h) fun v s1 ⟨x,H1,I1,r1,q1⟩=>?_;refine thn (hb pins s1 σ H1 _ I1 q1) fun u s2 ⟨y,H2,I2,r2,q2⟩=>?_;exact hf v u s2 x y H2 I2 r1 r2 q2
theorem a51{op:Operator}{r:R2}(ho:OpR X (binaryOp op) r)(ha:PE X a ta)(hb:PE X b tb):PE X (.BinOp a op b pos) (tOp r ta tb):=by
 intro pins s σ H Q I h;exact wpAny_BinOp (a20 ha hb I h fun v u s2 x y H2 I2 rx ry q=>ho pins s2 σ H2 x y v u Q I2 rx ry q)
theorem bx1{op:UnaryOp}{r:V->Hp->VK->Prop}(ho:UnR X (unaryOp op) r)(ha:PE X a ta):PE X (.UnaryOp op a pos) (tUn r ta):=by
 intro pins s σ H Q I h;exact UnaryOp_ (thn (ha pins s σ H _ I h) fun v s1 ⟨x,H1,I1,r1,q1⟩=>ho pins s1 σ H1 x v Q I1 r1 q1)
theorem opI{f:Value->Value->Sem Value}{C:Int->Int->Prop}{g:Int->Int->Int}(rule:∀(i j:Int) (t u:Tok) (s:Shared) (Q:Value->Shared->Prop) (E:Value->Shared->Prop),C i j->Q (.int (g i j) s.toks) { s with toks:=s.toks+1 }->wpAny (model X.prog X.w) X.A (f (.int i t) (.int j u)) Q E s) :
  OpR X f (rI C fun i j=>.int (g i j)):=by
 intro pins s σ H x y v u Q I rx ry h;obtain⟨i,j,rfl,rfl,hc,q⟩:=h;obtain⟨t,rfl⟩:=rx;obtain⟨t',rfl⟩:=ry;exact rule i j t t' s _ _ hc ⟨.int (g i j),H,I.tok _,⟨_,rfl⟩,q⟩
theorem bp5{f:Value->Value->Sem Value}{g:Int->Int->Int}(rule:∀(i j:Int) (t u:Tok) (s:Shared) (Q:Value->Shared->Prop) (E:Value->Shared->Prop),Q (.int (g i j) s.toks) { s with toks:=s.toks+1 }->wpAny (model X.prog X.w) X.A (f (.int i t) (.int j u)) Q E s) :
  OpR X f (rI0 fun i j=>.int (g i j)):=by
 intro pins s σ H x y v u Q I rx ry h;obtain⟨i,j,rfl,rfl,q⟩:=h;obtain⟨t,rfl⟩:=rx;obtain⟨t',rfl⟩:=ry;exact rule i j t t' s _ _ ⟨.int (g i j),H,I.tok _,⟨_,rfl⟩,q⟩
theorem aG1{f:Value->Value->Sem Value}{g:Int->Int->Bool}(rule:∀(i j:Int) (t u:Tok) (s:Shared) (Q:Value->Shared->Prop) (E:Value->Shared->Prop),Q (.bool (g i j)) s->wpAny (model X.prog X.w) X.A (f (.int i t) (.int j u)) Q E s) :
  OpR X f (rI0 fun i j=>.bl (g i j)):=by
 intro pins s σ H x y v u Q I rx ry h;obtain⟨i,j,rfl,rfl,q⟩:=h;obtain⟨t,rfl⟩:=rx;obtain⟨t',rfl⟩:=ry;exact rule i j t t' s _ _ ⟨.bl (g i j),H,I,rfl,q⟩
noncomputable def a30(i j:Int):Prop:=0<j/\j<1073741824
noncomputable def ae4(i j:Int):Prop:=0<=j/\j<=1000000/\i.natAbs<2 ^ 64
noncomputable def ae5(i j:Int):Prop:=(-(2 ^ 64)<i/\i<2 ^ 64)\/(-(2 ^ 64)<j/\j<2 ^ 64)
theorem ae5.ok{i j:Int}(h:ae5 i j):IntMulOk i j:=by
 rcases h with⟨h1,h2⟩|⟨h1,h2⟩
 ·exact .of_left (intBits_le_64 h1 h2)
 ·exact .of_right (intBits_le_64 h1 h2)
theorem bp4:OpR X (binaryOp .Add) (rI0 fun i j=>.int (i+j)):=bp5 fun _ _ _ _ _ _ _ q=>add_int q
theorem bo6:OpR X (binaryOp .Sub) (rI0 fun i j=>.int (i-j)):=bp5 fun _ _ _ _ _ _ _ q=>sub_int q
theorem bo9:OpR X (binaryOp .Mult) (rI ae5 fun i j=>.int (i*j)):=opI fun _ _ _ _ _ _ _ hc q=>mul_int q hc.ok
theorem bc6:OpR X (binaryOp .FloorDiv) (rI a30 fun i j=>.int (i / j)):=opI fun i j _ _ _ _ _ hc q=>by
 have h1:(0:Int)<j:=hc.1;have h2:j<1073741824:=hc.2;exact floordiv_int (by omega) (by rw[Int.fdiv_eq_ediv_of_nonneg i (by omega)];exact q) (.inl (PyProof.noPylong_small (by omega)))
theorem bp0:OpR X (binaryOp .Mod) (rI (fun _ j=>0<j) fun i j=>.int (i % j)):=opI fun i j _ _ _ _ _ hc q=>by
 have h1:(0:Int)<j:=hc;exact mod_int' (by omega) (by rw[Int.fmod_eq_emod_of_nonneg i (by omega)];exact q)
theorem bo8:OpR X (binaryOp .Pow) (rI ae4 fun i j=>.int (i ^ j.toNat)):=opI fun _ _ _ _ _ _ _ hc q=>pow_int_small hc.1 hc.2.1 hc.2.2 q
theorem unI{f:Value->Sem Value}{g:Int->Int}(rule:∀(i:Int) (t:Tok) (s:Shared) (Q:Value->Shared->Prop) (E:Value->Shared->Prop),Q (.int (g i) s.toks) { s with toks:=s.toks+1 }->wpAny (model X.prog X.w) X.A (f (.int i t)) Q E s) :
  UnR X f (rU fun i=>.int (g i)):=by
 intro pins s σ H x v Q I rx h;obtain⟨i,rfl,q⟩:=h;obtain⟨t,rfl⟩:=rx;exact rule i t s _ _ ⟨.int (g i),H,I.tok _,⟨_,rfl⟩,q⟩
theorem bh2:UnR X (unaryOp .USub) (rU fun i=>.int (-i)):=unI fun _ _ _ _ _ q=>neg_int q
end
noncomputable def bl7:V->V->Bool
 |.non,.non=>true|.non,.int _=>true|.int _,.non=>true|.non,.bl _=>true|.bl _,.non=>true|.non,.str _=>true|.str _,.non=>true
 |.int _,.int _=>true|.bl _,.bl _=>true|.str _,.str _=>true|.byt _,.byt _=>true
 |.int _,.str _=>true|.str _,.int _=>true|.bl _,.str _=>true|.str _,.bl _=>true
 |_,_=>false
noncomputable def rEq:R2:=fun x y H Q=>bl7 x y=true/\Q (.bl (decide (x=y))) H
noncomputable def rNe:R2:=fun x y H Q=>bl7 x y=true/\Q (.bl (!decide (x=y))) H
theorem aa5{i j:Int}:decide (V.int i=V.int j)=(i==j):=by
 rw[Bool.eq_iff_iff];simp
theorem ah3{i j:Bool}:decide (V.bl i=V.bl j)=(i==j):=by
 rw[Bool.eq_iff_iff];simp
theorem aa4{i j:Str}:decide (V.str i=V.str j)=(i==j):=by
 rw[Bool.eq_iff_iff];simp
theorem aD0{i j:Array UInt8}:decide (V.byt i=V.byt j)=(i.toList==j.toList):=by
 rw[Bool.eq_iff_iff];cases i;cases j;simp
section
variable{X:Cx}{a b c:Expr}{ta tb tc:TE}{pos:Pos}
theorem d8{pins:List (Addr×Obj)}{σ:St}{H:Hp}{s:Shared}{Q:VK}{k k':Bool}(I:Inv X pins σ H s)(q:Q (.bl k) H)(e:k=k'):EP X pins σ Q (.bool k') s:=by
 subst e;exact⟨.bl k,H,I,rfl,q⟩
theorem aF9:OpR X (compareOp .Eq) rEq:=by
 intro pins s σ H x y v u Q I rx ry h;obtain⟨hs,q⟩:=h;cases x with
 |non =>
  cases rx;cases y with
  |non=>cases ry;exact PySem.EqNone.eq_none_none (d8 I q (by simp))
  |bl j=>cases ry;exact PySem.EqNone.eq_none_bool (d8 I q (by simp))
  |int j=>obtain⟨t',rfl⟩:=ry;exact PySem.EqNone.eq_none_int (d8 I q (by simp))
  |str j=>obtain⟨t',rfl⟩:=ry;exact PySem.EqNone.eq_none_str (d8 I q (by simp))
  |_=>exact absurd (show false=true from hs) Bool.false_ne_true
 |bl i =>
  cases rx;cases y with
  |non=>cases ry;exact PySem.EqNone.eq_bool_none (d8 I q (by simp))
  |bl j=>cases ry;exact eq_bool (d8 I q ah3)
  |str j=>obtain⟨t',rfl⟩:=ry;exact PySem.EqMixed.eq_bool_str (d8 I q (by simp))
  |_=>exact absurd (show false=true from hs) Bool.false_ne_true
 |int i =>
  obtain⟨t,rfl⟩:=rx;cases y with
  |non=>cases ry;exact PySem.EqNone.eq_int_none (d8 I q (by simp))
  |int j=>obtain⟨t',rfl⟩:=ry;exact eq_int (d8 I q aa5)
  |str j=>obtain⟨t',rfl⟩:=ry;exact PySem.EqMixed.eq_int_str (d8 I q (by simp))
  |_=>exact absurd (show false=true from hs) Bool.false_ne_true
 |str i =>
  obtain⟨t,rfl⟩:=rx;cases y with
  |non=>cases ry;exact PySem.EqNone.eq_str_none (d8 I q (by simp))
  |bl j=>cases ry;exact PySem.EqMixed.eq_str_bool (d8 I q (by simp))
  |int j=>obtain⟨t',rfl⟩:=ry;exact PySem.EqMixed.eq_str_int (d8 I q (by simp))
  |str j=>obtain⟨t',rfl⟩:=ry;exact eq_str (d8 I q aa4)
  |_=>exact absurd (show false=true from hs) Bool.false_ne_true
 |byt i =>
  obtain⟨t,rfl⟩:=rx;cases y with
  |byt j=>obtain⟨t',rfl⟩:=ry;exact PySem.W.eq_bytes (d8 I q aD0)
  |_=>exact absurd (show false=true from hs) Bool.false_ne_true
 |_=>cases y<;>exact absurd (show false=true from hs) Bool.false_ne_true
theorem aF8:OpR X (compareOp .NotEq) rNe:=by
 intro pins s σ H x y v u Q I rx ry h;obtain⟨hs,q⟩:=h;cases x with
 |non =>
  cases rx;cases y with
  |non=>cases ry;exact PySem.EqNone.ne_none_none (d8 I q (by simp))
  |bl j=>cases ry;exact PySem.EqNone.ne_none_bool (d8 I q (by simp))
  |int j=>obtain⟨t',rfl⟩:=ry;exact PySem.EqNone.ne_none_int (d8 I q (by simp))
  |str j=>obtain⟨t',rfl⟩:=ry;exact PySem.EqNone.ne_none_str (d8 I q (by simp))
  |_=>exact absurd (show false=true from hs) Bool.false_ne_true
 |bl i =>
  cases rx;cases y with
  |non=>cases ry;exact PySem.EqNone.ne_bool_none (d8 I q (by simp))
  |bl j=>cases ry;exact ne_bool (d8 I q (congrArg not ah3))
  |str j=>obtain⟨t',rfl⟩:=ry;exact PySem.EqMixed.ne_bool_str (d8 I q (by simp))
  |_=>exact absurd (show false=true from hs) Bool.false_ne_true
 |int i =>
  obtain⟨t,rfl⟩:=rx;cases y with
  |non=>cases ry;exact PySem.EqNone.ne_int_none (d8 I q (by simp))
  |int j=>obtain⟨t',rfl⟩:=ry;exact ne_int (d8 I q (congrArg not aa5))
  |str j=>obtain⟨t',rfl⟩:=ry;exact PySem.EqMixed.ne_int_str (d8 I q (by simp))
  |_=>exact absurd (show false=true from hs) Bool.false_ne_true
 |str i =>
  obtain⟨t,rfl⟩:=rx;cases y with
  |non=>cases ry;exact PySem.EqNone.ne_str_none (d8 I q (by simp))
  |bl j=>cases ry;exact PySem.EqMixed.ne_str_bool (d8 I q (by simp))
  |int j=>obtain⟨t',rfl⟩:=ry;exact PySem.EqMixed.ne_str_int (d8 I q (by simp))
  |str j=>obtain⟨t',rfl⟩:=ry;exact ne_str (d8 I q (congrArg not aa4))
  |_=>exact absurd (show false=true from hs) Bool.false_ne_true
 |byt i =>
  obtain⟨t,rfl⟩:=rx;cases y with
  |byt j=>obtain⟨t',rfl⟩:=ry;exact PySem.W.ne_bytes (d8 I q (congrArg not aD0))
  |_=>exact absurd (show false=true from hs) Bool.false_ne_true
 |_=>cases y<;>exact absurd (show false=true from hs) Bool.false_ne_true
theorem bx8:OpR X (compareOp .Lt) (rI0 fun i j=>.bl (decide (i<j))):=aG1 fun _ _ _ _ _ _ _ q=>lt_int q
theorem bx9:OpR X (compareOp .LtE) (rI0 fun i j=>.bl (decide (i<=j))):=aG1 fun _ _ _ _ _ _ _ q=>le_int q
theorem by0:OpR X (compareOp .Gt) (rI0 fun i j=>.bl (decide (j<i))):=aG1 fun _ _ _ _ _ _ _ q=>gt_int q
theorem by1:OpR X (compareOp .GtE) (rI0 fun i j=>.bl (decide (j<=i))):=aG1 fun _ _ _ _ _ _ _ q=>ge_int q
theorem bp1:OpR X (compareOp .Is) (fun x y H Q=>y=.non/\Q (.bl (decide (x=.non))) H):=by
 intro pins s σ H x y v u Q I rx ry h;obtain⟨rfl,q⟩:=h;cases ry;refine is_none_gen (d8 I q ?_);cases x<;>first
  |(cases rx;rfl)
  |(obtain⟨t,rfl⟩:=rx;rfl)
theorem bc5:OpR X (compareOp .IsNot) (fun x y H Q=>y=.non/\Q (.bl (!decide (x=.non))) H):=by
 intro pins s σ H x y v u Q I rx ry h;obtain⟨rfl,q⟩:=h;cases ry;refine isnot_none_gen (d8 I q ?_);cases x<;>first
  |(cases rx;rfl)
  |(obtain⟨t,rfl⟩:=rx;rfl)
theorem aB6{op:CmpOp}{r:R2}(ho:OpR X (compareOp op) r)(ha:PE X a ta)(hb:PE X b tb)(hm:behindInMarks op b=false):PE X (.Compare a [op] [b] pos) (tOp r ta tb):=by
 intro pins s σ H Q I h;exact wpAny_Compare1 (a20 ha hb I h fun v u s2 x y H2 I2 rx ry q=>ho pins s2 σ H2 x y v u Q I2 rx ry q) hm
noncomputable def aE4(t:TE):TT:=fun σ H Q=>t σ H fun x H'=>∃k,x=.bl k/\Q k H'
theorem aB2{op:CmpOp}{r:R2}(ho:OpR X (compareOp op) r)(ha:PE X a ta)(hb:PE X b tb)(hm:behindInMarks op b=false):PT X (.Compare a [op] [b] pos) (aE4 (tOp r ta tb)):=by
 intro pins s σ H Q I h;refine wpAny_isTrue_Compare1 (thn (ha pins s σ H _ I h) fun v s1 ⟨x,H1,I1,r1,q1⟩=>thn (hb pins s1 σ H1 _ I1 q1) fun u s2 ⟨y,H2,I2,r2,q2⟩ =>
  thn (ho pins s2 σ H2 x y v u _ I2 r1 r2 q2) fun c s3 ⟨z,H3,I3,r3,k,e,q3⟩=>?_) hm
 subst e;cases r3;exact wpAny_truthy_bool ⟨H3,I3,q3⟩
noncomputable def ar6(r r':R2)(ta tb tc:TE):TE:=fun σ H Q=>ta σ H fun x H1=>tb σ H1 fun y H2=>r x y H2 fun z H3=>∃k,z=.bl k /\
 (if k=true then tc σ H3 fun w' H4=>r' y w' H4 Q else Q (.bl false) H3)
theorem aX4{op op':CmpOp}{r r':R2}(ho:OpR X (compareOp op) r)(ho':OpR X (compareOp op') r')(ha:PE X a ta)(hb:PE X b tb)(hc:PE X c tc)(hm:lastMarks [op,op'] [b,c]=false:=by with_unfolding_all rfl):PE X (.Compare a [op,op'] [b,c] pos) (ar6 r r' ta tb tc):=by
 intro pins s σ H Q I h;refine Compare_chain (thn (ha pins s σ H _ I h) fun v s1 ⟨x,H1,I1,r1,q1⟩=>chain_link (thn (hb pins s1 σ H1 _ I1 q1) fun u s2 ⟨y,H2,I2,r2,q2⟩ =>
  thn (ho pins s2 σ H2 x y v u _ I2 r1 r2 q2) fun d s3 ⟨z,H3,I3,r3,k,e,q3⟩=>?_)) hm
 subst e;cases r3;refine wpAny_truthy_bool ?_;cases k with
 |false=>exact ite_ff ⟨.bl false,H3,I3,rfl,q3⟩
 |true=>exact ite_tt (chain_last (thn (hc pins s3 σ H3 _ I3 q3) fun w' s4 ⟨z',H4,I4,r4,q4⟩=>ho' pins s4 σ H4 y z' u w' Q I4 r2 r4 q4))
theorem aW1{op op':CmpOp}{r r':R2}(ho:OpR X (compareOp op) r)(ho':OpR X (compareOp op') r')(ha:PE X a ta)(hb:PE X b tb)(hc:PE X c tc)(hm:lastMarks [op,op'] [b,c]=false:=by with_unfolding_all rfl):PT X (.Compare a [op,op'] [b,c] pos) (aE4 (ar6 r r' ta tb tc)):=by
 intro pins s σ H Q I h;refine isTrue_chain (thn (ha pins s σ H _ I h) fun v s1 ⟨x,H1,I1,r1,q1⟩=>test_link (thn (hb pins s1 σ H1 _ I1 q1) fun u s2 ⟨y,H2,I2,r2,q2⟩ =>
  thn (ho pins s2 σ H2 x y v u _ I2 r1 r2 q2) fun d s3 ⟨z,H3,I3,r3,k,e,q3⟩=>?_)) hm
 subst e;cases r3;refine wpAny_truthy_bool ?_;cases k with
 |false =>
  obtain⟨k',e',q'⟩:=q3;cases e';exact ite_ff ⟨H3,I3,q'⟩
 |true =>
  refine ite_tt (test_last (thn (hc pins s3 σ H3 _ I3 q3) fun w' s4 ⟨z',H4,I4,r4,q4⟩=>thn (ho' pins s4 σ H4 y z' u w' _ I4 r2 r4 q4) fun d' s5 ⟨z2,H5,I5,r5,k2,e2,q5⟩=>?_));subst e2;cases r5;exact wpAny_truthy_bool ⟨H5,I5,q5⟩
noncomputable def a26(K:PySem.W.Frag)(x:V)(H:Hp)(k:Bool):Prop :=
 match x with
 |.non=>k=false
 |.bl b=>k=b
 |.int i=>k=(i != 0)
 |.str y=>y.length<=sizeLine/\k=((y.length:Int) != 0)
 |.byt y=>y.size<=sizeLine/\k=((y.size:Int) != 0)
 |.ref p=>(∃xs,SqL K H p xs/\k=!xs.isEmpty)\/(∃xs,SqT K H p xs/\k=!xs.isEmpty)\/∃kvs,H p=some (.dK kvs)/\k=!kvs.isEmpty
 |_=>False
theorem aH7{κ:Type}{kvs:List (κ×V)}{vs:List (κ×Value)}(r:KV kvs vs):(!vs.isEmpty)=!kvs.isEmpty:=by
 cases r<;>rfl
theorem ag5{xs:List V}{its:List Value}(r:Vals xs its):(!its.toArray.isEmpty)=!xs.isEmpty:=by
 cases r<;>simp
theorem M5:(sizeLine:Nat)<2 ^ 63:=by rw[sizeLine_eq];decide
theorem bh5:bK6 X (fun x H Q=>∃k,a26 X.K x H k/\Q k H):=by
 intro pins s σ H x v Q I rx h;obtain⟨k,e,q⟩:=h;have hl:=M5;have hs:sizeLine=16777216:=sizeLine_eq;cases x with
 |non =>
  cases rx;have e':k=false:=e;subst e';exact truthy_none ⟨H,I,q⟩
 |bl b =>
  cases rx;have e':k=b:=e;subst e';exact wpAny_truthy_bool ⟨H,I,q⟩
 |int i =>
  obtain⟨t,rfl⟩:=rx;have e':k=(i != 0):=e;subst e';exact PySem.P.truthy_int ⟨H,I,q⟩
 |str y =>
  obtain⟨t,rfl⟩:=rx;obtain⟨hy,e'⟩:y.length<=sizeLine/\k=((y.length:Int) != 0):=e;subst e';exact PySem.P.truthy_str (by omega) ⟨H,I.tok _,q⟩
 |byt y =>
  obtain⟨t,rfl⟩:=rx;obtain⟨hy,e'⟩:y.size<=sizeLine/\k=((y.size:Int) != 0):=e;subst e';exact PySem.W.truthy_bytes (by omega) ⟨H,I.tok _,q⟩
 |ref p =>
  cases rx;have e':(∃xs,SqL X.K H p xs/\k=!xs.isEmpty)\/(∃xs,SqT X.K H p xs/\k=!xs.isEmpty)\/∃kvs,H p=some (.dK kvs)/\k=!kvs.isEmpty:=e;rcases e' with⟨xs,hx,e'⟩|⟨xs,hx,e'⟩|⟨kvs,hx,e'⟩
  ·subst e';obtain⟨its,r,pl,hz⟩:=I.list hx;have hlen:=r.length;exact wpAny_truthy_list pl.isList (by simp only[List.size_toArray];omega) ⟨H,I.tok _,by rw[ag5 r];exact q⟩
  ·subst e';obtain⟨its,r,pl,hz⟩:=I.tuple hx;have hlen:=r.length;exact truthy_tuple pl (by simp only[List.size_toArray];omega) ⟨H,I.tok _,by rw[ag5 r];exact q⟩
  ·subst e';obtain⟨hz,hS,vs,r,m⟩:kvs.length<=sizeLine/\(p==sysModules)=false/\∃vs,KV kvs vs/\s.heap.DictOf (j8 X.prog X.w) p vs:=I.hok p _ hx;have hlen:kvs.length=vs.length:=Paired.length r;exact wpAny_truthy_dict hS m (by omega) ⟨H,I.tok _,by rw[aH7 r];exact q⟩
 |_=>exact(show False from e).elim
theorem aW0(ha:PE X a ta)(he:∀whole,isTrue a X.env whole=(do let v <- whole;standAt a.pos;holding [v] (truthy v))) :
  PT X a (fun σ H Q=>ta σ H fun x H'=>∃k,a26 X.K x H' k/\Q k H'):=by
 intro pins s σ H Q I h;exact isTrue_plain (thn (ha pins s σ H _ I h) fun v s1 ⟨x,H1,I1,r1,q1⟩=>bh5 pins s1 σ H1 x v Q I1 r1 q1) (he _)
theorem aG0:OpR X (binaryOp .Add) (fun x y H Q=>∃i j,x=.str i/\y=.str j/\i.length+j.length<=sizeLine/\Q (.str (i++j)) H):=by
 intro pins s σ H x y v u Q I rx ry h;obtain⟨i,j,rfl,rfl,hz,q⟩:=h;obtain⟨t,rfl⟩:=rx;obtain⟨t',rfl⟩:=ry;exact add_str (fun t' tk=>⟨.str (i++j),H,I.tok _,⟨_,rfl⟩,q⟩) hz
theorem vals1{x:V}{us:List Value}(r:Vals [x] us):∃u,us=[u]/\RelV x u:=by
 cases r with
 |cons r1 r2=>cases r2;exact⟨_,rfl,r1⟩
theorem vals2{x y:V}{us:List Value}(r:Vals [x,y] us):∃u w',us=[u,w']/\RelV x u/\RelV y w':=by
 cases r with
 |cons r1 r2 =>
  cases r2 with
  |cons r3 r4=>cases r4;exact⟨_,_,rfl,r1,r3⟩
theorem ao2:j4 X (.type "int") (fun xs H Q=>(∃i,xs=[.int i]/\Q (.int i) H)\/∃k,xs=[.bl k]/\Q (.int (if k then 1 else 0)) H):=by
 intro pins s σ H xs us Q I r h;rcases h with⟨i,rfl,q⟩|⟨k,rfl,q⟩
 ·obtain⟨u,rfl,t,rfl⟩:=vals1 r;exact call_int_int ⟨.int i,H,I,⟨_,rfl⟩,q⟩
 ·obtain⟨u,rfl,r1⟩:=vals1 r;cases r1;exact call_int_bool ⟨.int (if k then 1 else 0),H,I.tok _,⟨_,rfl⟩,q⟩
theorem aw8:j4 X (.type "str") (fun xs H Q=>∃i,xs=[.int i]/\i.natAbs.log2<1920/\Q (.str (toString i)) H):=by
 intro pins s σ H xs us Q I r h;obtain⟨i,rfl,hz,q⟩:=h;obtain⟨u,rfl,t,rfl⟩:=vals1 r;exact PySem.P.str_of_int hz ⟨.str _,H,I.tok _,⟨_,rfl⟩,q⟩
end
end L2
namespace L2
open PySem PySem.Spec PyProof.Rows
structure ae2(h:Heap)(x dx C:Addr)(mA:Str->Option Value):Prop where
 obj:h.get? x=some (PySem.W.instObj C dx)
 ns:h.Ns1 dx mA
 ne:dx≠x
theorem an1{h:Heap}{dx:Addr}{mA:Str->Option Value}(n:h.Ns1 dx mA):∃od,h.get? dx=some od/\∀name,PySem.W.lookIn name od=some (mA name):=by
 obtain⟨o,es,ep,ho,hd,hk,_,hm⟩:=n;refine⟨o,ho,fun name=>?_⟩;have e:=hm name;unfold nsFind findBy at e;rw[<- Array.find?_toList] at e;unfold PySem.W.lookIn;rw[hd];dsimp only;split
 ·rename_i y q;rw[q] at e;exact congrArg some e
 ·rename_i q;rw[q] at e;have a:es.toList.any (·.refKey)=false:=by
   rw[List.any_eq_false];intro y hy;obtain⟨z,t,hkey⟩:=hk y (Array.mem_toList_iff.mp hy);simp[DictEntry.refKey,hkey]
  have a':¬es.toList.any (·.refKey)=true:=by rw[a];exact Bool.false_ne_true
  rw[if_neg a'];exact congrArg some e
theorem ae2.look{h:Heap}{x dx C:Addr}{mA:Str->Option Value}(I:ae2 h x dx C mA):∃od,PySem.W.InstAt h x (PySem.W.instObj C dx) C (some od)/\∀name,PySem.W.lookIn name od=some (mA name) :=
 let ⟨od,ho,hl⟩:=an1 I.ns
 ⟨od,⟨I.obj,rfl,rfl,ho⟩,hl⟩
section
variable{prog:Program}{w:World}{A:Around}{E:Value->Shared->Prop}{s:Shared}{K:PySem.W.Frag}{x dx C f:Addr}{mA:Str->Option Value}{name:Str}{v:Value}
theorem get_map{expr:Bool}{Q:Value->Shared->Prop}(X:K.In s.heap)(I:ae2 s.heap x dx C mA)(hg:PySem.W.plainGet K C name=true)(hh:PySem.W.hasDictIn K C=true)(ha:PySem.W.findIn K (.ref C) name=some none)(hv:mA name=some v)(hv':PySem.W.handedIn v=true)(h:Q v { s with toks:=s.toks+1 }) :
  wpAny (model prog w) A (getAttr (.ref x) name expr) Q E s:=by
 obtain⟨od,J,hl⟩:=I.look;exact PySem.W.get_value X J (PySem.W.plainGet_of hg).1 (PySem.W.findObj_own hh ha rfl (by rw[hl,hv])) hv' h
theorem a03{pl:Sem Bool}{Q:Value×List Value->Shared->Prop}(X:K.In s.heap)(I:ae2 s.heap x dx C mA)(hg:PySem.W.plainGet K C name=true)(hf:PySem.W.findIn K (.ref C) name=some (some (.ref f)))(ht:PySem.W.isFn K (.ref f)=true)(hv:mA name=none)(h:Q (.ref f,[.ref x]) s) :
  wpAny (model prog w) A (getMethod (.ref x) name pl) Q E s:=by
 obtain⟨od,J,hl⟩:=I.look;exact PySem.W.method_fn X J (PySem.W.plainGet_of hg).1 (PySem.W.plainGet_of hg).2 hf (beq_iff_eq.mp ht) (by show(PySem.W.lookIn name od).map (·.isSome)=some false;rw[hl,hv];rfl) h
theorem a95{ns:List Str}{Q:Unit->Shared->Prop}(X:K.In s.heap)(I:ae2 s.heap x dx C mA)(hs:PySem.W.findIn K (.ref C) "__setattr__"=some (some (.builtin "object.__setattr__")))(hp:PySem.W.plainOver K C=true)(ht:PySem.W.takerIn K C name=some none)(hh:PySem.W.hasDictIn K C=true)(hw:PySem.Within mA ns)(hsz:ns.length<=sizeLine)(h:∀h',ae2 h' x dx C (fun y=>if y=name then some v else mA y)->Heap.SameBut dx s.heap h'->Q () { s with heap:=h',toks:=s.toks+2 }) :
  wpAny (model prog w) A (setAttr (.ref x) name v) Q E s:=by
 obtain⟨od,J,hl⟩:=I.look;refine PySem.W.set_plain X J hs (PySem.W.osa_open (s:={ s with toks:=s.toks+1 }) (r:=none) X J hp ht fun b=>?_);obtain⟨cd,hc,hd'⟩:=PySem.W.any_some hh;have hx:s.heap.get? x=some ⟨.ref C,some dx,.plain,#[]⟩:=I.obj;refine wpAny_bind (wpAny_pure (wpAny_bind (wpAny_bind (wpAny_loadPart hx (wpAny_bind (PySem.W.Looks.here (s:={ s with toks:=s.toks+1 }) (PySem.W.looks_clsIn X hc) ?_))))));rw[hd'];refine wpAny_pure (a:=some dx) (wpAny_bind (wpAny_pure (wpAny_bind ?_)));refine wpAny_nsSet1 (s:={ s with toks:=s.toks+1 }) I.ns fun h' hn2 hs2=>?_;obtain⟨oD,esD,epD,hoD,hdD,hcD⟩:=hn2.count (PySem.Within.cons name v hw);refine wpAny_bind (wpAny_lookBehind hoD (by rw[hdD];exact pastItsLine_dict (Nat.le_trans hcD (by rw[List.length_cons];omega))) ?_);exact wpAny_pure (h _ ⟨(hs2.2 _ (Ne.symm I.ne)).trans I.obj,hn2,I.ne⟩ hs2)
theorem aY8{R:Result->Shared->Prop}{vs:List Value}{kw:List (Str×Value)}(X:K.In s.heap)(hm:PySem.W.makesIn K C=true)(hi:PySem.W.findIn K (.ref C) "__init__"=some (some (.ref f)))(hf:PySem.W.typeIn K (.ref f)=some (.type "function"))(h:codeAny (model prog w) (A.under (.builtin "type.__call__" ⟨.ref C :: vs,kw⟩)) (.call (.ref f) ⟨.ref (s.heap.objs.size + 1) :: vs,kw⟩) (PySem.W.InitBack (s.heap.objs.size + 1) R)
   { s with heap:=(s.heap.push PySem.W.emptyDict).push (PySem.W.instObj C s.heap.objs.size) }) :
  codeAny (model prog w) A (.call (.ref C) ⟨vs,kw⟩) R s:=by
 obtain⟨hh,g,d,t,os⟩:=s;exact PySem.W.make_core (PySem.W.makes_of X hm) (PySem.W.looks_findIn X hi) (fun self=>PySem.W.bind_fn X self hf) (.inl rfl) h
end
noncomputable def k8(f:Str)(v:V):List (Str×V)->List (Str×V)
 |[]=>[(f,v)]
 |(g,x)::r=>if g=f then(g,v)::r else(g,x)::k8 f v r
theorem ab9(f g:Str)(v:V):∀fs:List (Str×V),(k8 f v fs).lookup g=if g=f then some v else fs.lookup g
 |[]=>by
  show List.lookup g [(f,v)]=_;by_cases h:g=f
  ·have hb:(g==f)=true:=beq_iff_eq.mpr h;simp only[List.lookup,hb,if_pos h]
  ·have hb:(g==f)=false:=beq_eq_false_iff_ne.mpr h;simp only[List.lookup,hb,if_neg h]
 |(k,x)::r=>by
  have ih:=ab9 f g v r;rw[show k8 f v ((k,x)::r)=(if k=f then(k,v)::r else(k,x)::k8 f v r) from rfl];by_cases hk:k=f
  ·rw[if_pos hk];by_cases h:g=k
   ·have hb:(g==k)=true:=beq_iff_eq.mpr h;simp only[List.lookup,hb,if_pos (h.trans hk)]
   ·have hb:(g==k)=false:=beq_eq_false_iff_ne.mpr h;simp only[List.lookup,hb,if_neg (fun e:g=f=>h (e.trans hk.symm))]
  ·rw[if_neg hk];by_cases h:g=k
   ·have hb:(g==k)=true:=beq_iff_eq.mpr h;simp only[List.lookup,hb,if_neg (fun e:g=f=>hk (h.symm.trans e))]
   ·have hb:(g==k)=false:=beq_eq_false_iff_ne.mpr h;simp only[List.lookup,hb];exact ih
theorem X6(f:Str)(v:V):∀fs:List (Str×V),f∈(k8 f v fs).map (·.1)/\∀g,g∈fs.map (·.1)->g∈(k8 f v fs).map (·.1)
 |[]=>⟨by simp[k8],fun g h=>by simp at h⟩
 |(k,x)::r=>by
  obtain⟨i1,i2⟩:=X6 f v r;rw[show k8 f v ((k,x)::r)=(if k=f then(k,v)::r else(k,x)::k8 f v r) from rfl];by_cases hk:k=f
  ·rw[if_pos hk];subst hk;exact⟨by simp,fun g h=>by simpa using h⟩
  ·rw[if_neg hk];refine⟨?_,fun g h=>?_⟩
   ·rw[List.map_cons];exact List.mem_cons_of_mem _ i1
   ·rw[List.map_cons] at h ⊢;rcases List.mem_cons.mp h with e|e
    ·exact List.mem_cons.mpr (.inl e)
    ·exact List.mem_cons_of_mem _ (i2 g e)
theorem ac0(f:Str)(v:V):∀fs:List (Str×V),(k8 f v fs).length<=fs.length+1
 |[]=>by simp[k8]
 |(k,x)::r=>by
  have ih:=ac0 f v r;rw[show k8 f v ((k,x)::r)=(if k=f then(k,v)::r else(k,x)::k8 f v r) from rfl];by_cases hk:k=f
  ·rw[if_pos hk,List.length_cons,List.length_cons];omega
  ·rw[if_neg hk,List.length_cons,List.length_cons];omega
theorem q8.some_of{v:V}{o:Option Value}(r:q8 (some v) o):∃u,o=some u/\RelV v u:=by
 cases o with
 |none=>exact(show False from r).elim
 |some u=>exact⟨u,rfl,r⟩
theorem q8.none_of{o:Option Value}(r:q8 none o):o=none:=by
 cases o with
 |none=>rfl
 |some u=>exact(show False from r).elim
theorem aR0{v:V}{u:Value}(r:RelV v u):PySem.W.handedIn u=true:=by
 cases v with
 |non=>cases (show u=Value.none from r);rfl
 |bl b=>cases (show u=Value.bool b from r);rfl
 |int i=>obtain⟨t,e⟩:=(show ∃t,u=Value.int i t from r);cases e;rfl
 |str x=>obtain⟨t,e⟩:=(show ∃t,u=Value.str x t from r);cases e;rfl
 |byt b=>obtain⟨t,e⟩:=(show ∃t,u=Value.bytes b t from r);cases e;rfl
 |flt b=>obtain⟨t,e⟩:=(show ∃t,u=Value.float b t from r);cases e;rfl
 |ref a=>cases (show u=Value.ref a from r);rfl
 |ty n=>cases (show u=Value.type n from r);rfl
section
variable{P:Program}{w:World}{H H':Hp}{h h':Heap}{a C dx:Addr}{fs fs':List (Str×V)}
theorem aa0(hok:HOk P w H h)(e:H a=some (.ins C dx fs)):∃mA,ae2 h a dx C mA/\(∀f,q8 (fs.lookup f) (mA f))/\PySem.Within mA (fs.map (·.1))/\fs.length<=1000/\H dx=some (.own a):=by
 obtain⟨d,z,ne,ob,mA,n,r,q⟩:=(show g8 P w H h a (.ins C dx fs) from hok a _ e)
 exact⟨mA,⟨ob,n,ne⟩,r,q,z,d⟩
end
structure Cls(K:PySem.W.Frag)(C:Addr):Prop where
 pg:PySem.W.plainGet K C Str.empty=true
 hd:PySem.W.hasDictIn K C=true
 po:PySem.W.plainOver K C=true
 sa:PySem.W.findIn K (.ref C) "__setattr__"=some (some (.builtin "object.__setattr__"))
theorem Cls.get{K:PySem.W.Frag}{C:Addr}(c:Cls K C)(f:Str):PySem.W.plainGet K C f=true:=c.pg
noncomputable def m9(K:PySem.W.Frag)(C:Addr)(f:Str):Prop:=PySem.W.findIn K (.ref C) f=some none
theorem m9.bu7{K:PySem.W.Frag}{C:Addr}{f:Str}(n:m9 K C f):PySem.W.takerIn K C f=some none:=by
 unfold PySem.W.takerIn;rw[show PySem.W.findIn K (.ref C) f=some none from n]
 rfl
structure Meth(K:PySem.W.Frag)(C:Addr)(m:Str)(f:Addr):Prop where
 at_:PySem.W.findIn K (.ref C) m=some (some (.ref f))
 fn:PySem.W.isFn K (.ref f)=true
 kp:PySem.W.keepIn K (.ref f)=true
section
variable{X:Cx}{pins:List (Addr×Obj)}{σ:St}{H:Hp}{s:Shared}{a C dx:Addr}{fs:List (Str×V)}{f:Str}{v:V}{A:Around}{E:Value->Shared->Prop}
theorem ag9{b:Bool}{Q:Value->Shared->Prop}(I:Inv X pins σ H s)(e:H a=some (.ins C dx fs))(c:Cls X.K C)(n:m9 X.K C f)(l:fs.lookup f=some v)(h:∀u s',Inv X pins σ H s'->RelV v u->Q u s'):wpAny (model X.prog X.w) A (getAttr (.ref a) f b) Q E s:=by
 obtain⟨mA,O,r,_,_,_⟩:=aa0 I.hok e;obtain⟨u,hu,ru⟩:=q8.some_of (v:=v) (o:=mA f) (by rw[<- l];exact r f);exact get_map I.kIn O (c.get f) c.hd n hu (aR0 ru) (h u _ (I.tok _) ru)
theorem ag8{m:Str}{g:Addr}{pl:Sem Bool}{Q:Value×List Value->Shared->Prop}(I:Inv X pins σ H s)(e:H a=some (.ins C dx fs))(c:Cls X.K C)(k:Meth X.K C m g)(l:fs.lookup m=none)(h:Q (.ref g,[.ref a]) s):wpAny (model X.prog X.w) A (getMethod (.ref a) m pl) Q E s:=by
 obtain⟨mA,O,r,_,_,_⟩:=aa0 I.hok e;have hn:mA m=none:=q8.none_of (by rw[<- l];exact r m);exact a03 I.kIn O (c.get m) k.at_ k.fn hn h
theorem af4{y:V}{u:Value}{Q:Unit->Shared->Prop}(I:Inv X pins σ H s)(e:H a=some (.ins C dx fs))(c:Cls X.K C)(n:m9 X.K C f)(hl:fs.length<1000)(ry:RelV y u)(h:∀s',Inv X pins σ (upd H a (.ins C dx (k8 f y fs))) s'->Q () s'):wpAny (model X.prog X.w) A (setAttr (.ref a) f u) Q E s:=by
 obtain⟨mA,O,r,wi,_,ho⟩:=aa0 I.hok e;have hz:(fs.map (·.1)).length<=sizeLine:=by rw[List.length_map,sizeLine_eq];omega
 refine a95 I.kIn O c.sa c.po n.bu7 c.hd wi hz fun h' O' sb=>h _ ?_;have hd:∃o,h'.get? dx=some o:=let ⟨o,_,_,e',_⟩:=O'.ns;⟨o,e'⟩
 refine I.write (x:=a) (e:=dx) (by rw[e];exact True.intro) (.inr ho) (fun b q hb z=>(sb.2 b hb).trans z) hd ?_;refine⟨by rw[e8 O.ne];exact ho,?_,O.ne,O'.obj,_,O'.ns,fun g=>?_,fun g hg=>?_⟩
 ·have:=ac0 f y fs;omega
 ·show q8 ((k8 f y fs).lookup g) (if g=f then some u else mA g);rw[ab9];by_cases q:g=f
  ·rw[if_pos q,if_pos q];exact ry
  ·rw[if_neg q,if_neg q];exact r g
 ·by_cases q:g=f
  ·rw[q];exact(X6 f y fs).1
  ·refine(X6 f y fs).2 g (wi g fun z=>hg ?_);show(if g=f then some u else mA g)=none;rw[if_neg q];exact z
theorem Inv.made(I:Inv X pins σ H s):Inv X pins σ (upd (upd H s.heap.objs.size (.own (s.heap.objs.size+1))) (s.heap.objs.size+1) (.ins C s.heap.objs.size []))
  { s with heap:=(s.heap.push PySem.W.emptyDict).push (PySem.W.instObj C s.heap.objs.size) }:=by
 have e1:(s.heap.push PySem.W.emptyDict).get? s.heap.objs.size=some PySem.W.emptyDict:=Heap.get?_push_size s.heap rfl;have e2:((s.heap.push PySem.W.emptyDict).push (PySem.W.instObj C s.heap.objs.size)).get? (s.heap.objs.size+1)=some (PySem.W.instObj C s.heap.objs.size):=by
  have:=Heap.get?_push_size (s.heap.push PySem.W.emptyDict) (o:=PySem.W.instObj C s.heap.objs.size) rfl
  rwa [Heap.size_push] at this
 have e3:(s.heap.push PySem.W.emptyDict).Ns s.heap.objs.size (fun _=>none):=⟨PySem.W.emptyDict,#[],_,e1,rfl,(fun e he=>absurd he (by simp)),fun _=>rfl⟩
 have I1:=I.laid (a:=s.heap.objs.size) (o:=.own (s.heap.objs.size+1)) (h':=s.heap.push PySem.W.emptyDict) (t':=s.toks) (fun b u q=>Heap.get?_push_of_some _ q) (Nat.le_refl _) ⟨_,e1⟩;refine I1.laid (a:=s.heap.objs.size+1) (o:=.ins C s.heap.objs.size []) (t':=s.toks) (fun b u q=>Heap.get?_push_of_some _ q) (Nat.le_of_eq (Heap.size_push _ _)) ?_;have ne:s.heap.objs.size≠s.heap.objs.size+1:=Nat.ne_of_lt (Nat.lt_succ_self _);refine⟨by rw[e8 ne,j5],Nat.zero_le _,ne,e2,fun _=>none,(Heap.Ns1.of_empty e3).at fun o q=>Heap.get?_push_of_some _ q,fun _=>True.intro,fun y hy=>absurd rfl hy⟩
theorem bg0{prog:Program}{w:World}{env:Env}{e:Expr}{f:Str}{pos:Pos}{s:Shared}{Q:Value->Shared->Prop}(hb:attributeBase e f env (eval e env)=eval e env)(h:wpAny (model prog w) A (eval e env) (fun o s₁=>wpAny (model prog w) A (getAttr o f true) Q E s₁) E s):wpAny (model prog w) A (eval (.Attribute e f pos) env) Q E s :=
 Attribute_any_ h (by rw[arm_eval_Attribute,hb])
end
noncomputable def bE9(K:PySem.W.Frag)(ta:TE)(f:Str):TE:=fun σ H Q=>ta σ H fun x H1=>∃a C dx fs v,x=.ref a/\H1 a=some (.ins C dx fs)/\Cls K C/\m9 K C f/\fs.lookup f=some v/\Q v H1
noncomputable def bG0(K:PySem.W.Frag)(ta tv:TE)(f:Str):TS:=fun D σ H=>tv σ H fun y H1=>ta σ H1 fun x H2=>∃a C dx fs,x=.ref a/\H2 a=some (.ins C dx fs)/\Cls K C/\m9 K C f/\fs.length<1000 /\
 D.nx σ (upd H2 a (.ins C dx (k8 f y fs)))
noncomputable def a29(X:Cx)(op:Operator)(rd:V->V->Hp->VK->Prop):Prop :=
 ∀(pins:List (Addr×Obj)) (s:Shared) (σ:St) (H:Hp) (x y:V) (u v:Value) (Q:VK),Inv X pins σ H s->RelV x u->RelV y v->rd x y H Q->wpAny (model X.prog X.w) X.A (inplaceOp op u v) (EP X pins σ Q) X.xe s
noncomputable def ba2(K:PySem.W.Frag)(ta tv:TE)(rd:V->V->Hp->VK->Prop)(f:Str):TS:=fun D σ H=>ta σ H fun x H1=>∃a C dx fs v,x=.ref a/\H1 a=some (.ins C dx fs)/\Cls K C/\m9 K C f/\fs.lookup f=some v /\
 tv σ H1 fun y H2=>rd v y H2 fun z H3=>∃dx' fs',H3 a=some (.ins C dx' fs')/\fs'.length<1000/\D.nx σ (upd H3 a (.ins C dx' (k8 f z fs')))
section
variable{X:Cx}{o e value:Expr}{f:Str}{pos pos' tpos:Pos}{ta tv:TE}
theorem bo1(he:PE X e ta)(hb:attributeBase e f X.env (eval e X.env)=eval e X.env):PE X (.Attribute e f pos) (bE9 X.K ta f):=by
 intro pins s σ H Q I h;refine bg0 hb (thn (he pins s σ H _ I h) fun u s1 ⟨x,H1,I1,rx,a,C,dx,fs,v,ex,ea,c,n,l,q⟩=>?_);subst ex;obtain rfl:u=Value.ref a:=rx;exact ag9 I1 ea c n l fun u' s2 I2 ru=>⟨v,H1,I2,ru,q⟩
theorem bn1(ha:PE X o ta)(hv:PE X value tv)(hs:swapsWith value (some (.Attribute o f pos')) pos.line X.env=pure false):PS X (.Assign [.Attribute o f pos'] value pos) (bG0 X.K ta tv f):=by
 intro pins s σ H D I h;refine plainObj_wpAny_Assign_Attribute (thn (hv pins s σ H _ I h) fun u s1 ⟨y,H1,I1,ry,q⟩=>thn (ha pins s1 σ H1 _ I1 q) fun ov s2 ⟨x,H2,I2,rx,a,C,dx,fs,ex,ea,c,n,l,q2⟩=>?_) hs;subst ex;obtain rfl:ov=Value.ref a:=rx;exact af4 I2 ea c n l ry fun s3 I3=>⟨σ,_,I3,q2⟩
theorem aM9{op:Operator}{rd:V->V->Hp->VK->Prop}(ha:PE X o ta)(hv:PE X value tv)(hop:a29 X op rd):PS X (.AugAssign (.Attribute o f tpos) op value pos) (ba2 X.K ta tv rd f):=by
 intro pins s σ H D I h;refine wpAny_AugAssign_AttributeAny (thn (ha pins s σ H _ I h) fun ov s1 ⟨x,H1,I1,rx,a,C,dx,fs,v,ex,ea,c,n,l,q⟩=>?_);subst ex;obtain rfl:ov=Value.ref a:=rx;refine ag9 I1 ea c n l fun u s2 I2 ru=>thn (hv pins s2 σ H1 _ I2 q) fun w3 s3 ⟨y,H2,I3,ry,q3⟩=>thn (hop pins s3 σ H2 v y u w3 _ I3 ru ry q3) fun w4 s4 ⟨z,H3,I4,rz,dx',fs',ea',l',q4⟩=>?_;exact af4 I4 ea' c n l' rz fun s5 I5=>⟨σ,_,I5,q4⟩
noncomputable def bH1:V->V->Hp->VK->Prop:=fun x y H Q=>∃i j,x=.int i/\y=.int j/\Q (.int (i+j)) H
theorem br6:a29 X .Add bH1:=by
 rintro pins s σ H x y u v Q I rx ry ⟨i,j,rfl,rfl,q⟩;obtain⟨t,rfl⟩:=(show ∃t,u=Value.int i t from rx)
 obtain⟨t',rfl⟩:=(show ∃t',v=Value.int j t' from ry)
 exact PyProof.Rows.iadd_int ⟨.int (i+j),H,I.tok _,⟨_,rfl⟩,q⟩
end
section
variable{X:Cx}{pins:List (Addr×Obj)}{σ:St}{H:Hp}{s:Shared}{A:Around}{E:Value->Shared->Prop}{Q:Value->Shared->Prop}{c:Value}{b:Bool}
inductive TyOf(K:PySem.W.Frag)(H:Hp):V->Value->Prop where
 |non:TyOf K H .non (.type "NoneType")
 |bl (x:Bool):TyOf K H (.bl x) (.type "bool")
 |int (i:Int):TyOf K H (.int i) (.type "int")
 |str (x:Str):TyOf K H (.str x) (.type "str")
 |flt (x:UInt64):TyOf K H (.flt x) (.type "float")
 |lst {a:Addr} {xs:List V} (e:H a=some (.lst xs)):TyOf K H (.ref a) (.type "list")
 |frz {a:Addr} {o:Obj} {xs:List V} (e:H a=some (.frz o (.lst xs))):TyOf K H (.ref a) (.type "list")
 |tup {a:Addr} {xs:List V} (e:H a=some (.tup xs)):TyOf K H (.ref a) (.type "tuple")
 |dK {a:Addr} {kvs:List (Key×V)} (e:H a=some (.dK kvs)):TyOf K H (.ref a) (.type "dict")
 |dT {a:Addr} {kvs:List (List Key×V)} (e:H a=some (.dT kvs)):TyOf K H (.ref a) (.type "dict")
 |ins {a C dx:Addr} {fs:List (Str×V)} (e:H a=some (.ins C dx fs)) (cl:Cls K C) (ha:PySem.W.findIn K (.ref C) "__class__"=some (some (.builtin "object.__class__")))
   (hn:PySem.W.specialIn K (.builtin "object.__class__") "__get__"=some (some (.builtin "getset_descriptor.__get__"))) (htk:PySem.W.takesIn K (.builtin "object.__class__")=some true)
   (hm:PySem.W.mroIn K C (.type "object")=some true):TyOf K H (.ref a) (.ref C)
theorem aQ5{x:V}{u t:Value}(I:Inv X pins σ H s)(rx:RelV x u)(ty:TyOf X.K H x t)(e:PySem.W.kitOne X.K t c=some b)(h:∀tk,Q (.bool b) { s with toks:=tk }) :
  wpAny (model X.prog X.w) A (call (.builtin "isinstance") [u,c]) Q E s:=by
 cases ty with
 |non=>cases (show u=Value.none from rx);exact PySem.W.kia_one PySem.W.kitx_none I.kIn True.intro e (fun z=>nomatch z) h
 |bl y=>cases (show u=Value.bool y from rx);exact PySem.W.kia_one PySem.W.kitx_bool I.kIn True.intro e (fun z=>nomatch z) h
 |int i=>obtain⟨t,q⟩:=(show ∃t,u=Value.int i t from rx);cases q;exact PySem.W.kia_one PySem.W.kitx_int I.kIn True.intro e (fun z=>nomatch z) h
 |str y=>obtain⟨t,q⟩:=(show ∃t,u=Value.str y t from rx);cases q;exact PySem.W.kia_one PySem.W.kitx_str I.kIn True.intro e (fun z=>nomatch z) h
 |flt y=>obtain⟨t,q⟩:=(show ∃t,u=Value.float y t from rx);cases q;exact PySem.W.kia_one PySem.W.kitx_float I.kIn True.intro e (fun z=>nomatch z) h
 |@lst a xs ea =>
  cases (show u=Value.ref a from rx);obtain⟨_,_,n,_,h1⟩:=(show g8 X.prog X.w H s.heap a (.lst xs) from I.hok a _ ea)
  exact PySem.W.kia_one PySem.W.kitx_list I.kIn ⟨_,h1,rfl⟩ e (fun z=>nomatch z) h
 |@frz a ob xs ea =>
  cases (show u=Value.ref a from rx);obtain⟨_,_,_,n,_,h1⟩:=(show g8 X.prog X.w H s.heap a (.frz ob (.lst xs)) from I.hok a _ ea)
  exact PySem.W.kia_one PySem.W.kitx_list I.kIn ⟨_,h1,rfl⟩ e (fun z=>nomatch z) h
 |@tup a xs ea =>
  cases (show u=Value.ref a from rx);obtain⟨_,_,_,p⟩:=(show g8 X.prog X.w H s.heap a (.tup xs) from I.hok a _ ea)
  obtain⟨o,h1,h2,_⟩:=p;exact PySem.W.kia_one PySem.W.kitx_tuple I.kIn ⟨o,h1,h2⟩ e (fun z=>nomatch z) h
 |@dK a kvs ea =>
  cases (show u=Value.ref a from rx);obtain⟨_,_,vs,_,p⟩:=(show g8 X.prog X.w H s.heap a (.dK kvs) from I.hok a _ ea)
  obtain⟨o,es,ep,h1,h2,_⟩:=p;exact PySem.W.kia_one PySem.W.kitx_dict I.kIn ⟨o,h1,h2.1⟩ e (fun z=>nomatch z) h
 |@dT a kvs ea =>
  cases (show u=Value.ref a from rx);obtain⟨_,_,xs,_,o,es,ep,h1,h2,_⟩:=(show g8 X.prog X.w H s.heap a (.dT kvs) from I.hok a _ ea)
  exact PySem.W.kia_one PySem.W.kitx_dict I.kIn ⟨o,h1,h2.1⟩ e (fun z=>nomatch z) h
 |@ins a C dx fs ea cl ha hn htk hm =>
  cases (show u=Value.ref a from rx);obtain⟨mA,O,_⟩:=aa0 I.hok ea;obtain⟨od,J,_⟩:=O.look;exact PySem.W.kia_one (PySem.W.kitx_own (cl.get _) cl.hd ha hn htk hm) I.kIn J e (fun z=>nomatch z) h
end
end L2
namespace L2
open PySem PySem.Spec PyProof.Rows
structure j7(k:Nat)(A:Around):Prop where
 hd:A.handled=none
 dp:A.depth+3*k+5<recursionLimit
 un:A.units+16*k+200<cLine
theorem j7.mono{j k:Nat}{A:Around}(r:j7 k A)(h:j<=k):j7 j A:=⟨r.hd,by have:=r.dp;omega,by have:=r.un;omega⟩
theorem j7.deeper{k:Nat}{A:Around}(r:j7 (k+1) A)(env:Env):j7 k (A.deeper env) :=
 ⟨r.hd,by have:=r.dp;show A.depth+1+3*k+5<_;omega,by have:=r.un;show A.units+3+16*k+200<_;omega⟩
theorem aH0{A:Around}{C:Addr}{us:List Value}{kw:List (Str×Value)}:(A.under (.builtin "type.__call__" ⟨.ref C::us,kw⟩)).depth=A.depth+1:=by
 first|rfl|simp[Around.under,Code.weight,Code.isCreation,Code.isGuard,Code.isCaller,Code.frames,Code.isFrame,guardIds]
theorem aG9{A:Around}{C:Addr}{us:List Value}{kw:List (Str×Value)}:(A.under (.builtin "type.__call__" ⟨.ref C::us,kw⟩)).units=A.units+1:=by
 first|rfl|simp[Around.under,Code.cUnits,Code.frames,Code.isFrame]
theorem j7.make{k:Nat}{A:Around}(r:j7 (k+1) A)(C:Addr)(us:List Value)(kw:List (Str×Value)):j7 k (A.under (.builtin "type.__call__" ⟨.ref C::us,kw⟩)) :=
 ⟨r.hd,by have:=r.dp;rw[aH0];omega,by have:=r.un;rw[aG9];omega⟩
theorem j7.depth{k:Nat}{A:Around}(r:j7 k A):A.depth<recursionLimit:=by have:=r.dp;omega
noncomputable def bi3:TA:=fun _ H Q=>Q [] H
noncomputable def bv3(ta:TE)(tr:TA):TA:=fun σ H Q=>ta σ H fun x H1=>tr σ H1 fun xs H2=>Q (x::xs) H2
section
variable{X:Cx}{e:Expr}{es:List Expr}{te:TE}{t:TA}{pos:Pos}
theorem P7:PA X [] bi3:=fun _ _ _ _ H Q I h=>Calls.spliced_nil ⟨[],H,I,.nil,h⟩
theorem J8(ha:PE X e te)(hr:PA X es t)(hs:starEach (e::es) X.env=(false,eval e X.env)::starEach es X.env:=by rfl):PA X (e::es) (bv3 te t):=by
 intro pos pins s σ H Q I h;rw[hs];show wpAny _ _ (spliced ((false,eval e X.env)::backTo pos (starEach es X.env))) _ _ s;refine Calls.spliced_cons (thn (ha pins s σ H _ I h) fun u s1 ⟨x,H1,I1,r1,q1⟩=>?_);exact thn (hr pos pins s1 σ H1 _ I1 q1) fun us s2 ⟨xs,H2,I2,r2,q2⟩=>⟨x::xs,H2,I2,.cons r1 r2,q2⟩
noncomputable def bE0(t:TA):TE:=fun σ H Q=>t σ H fun xs H1=>xs.length<=sizeLine/\∀p,H1 p=none->Q (.ref p) (upd H1 p (.tup xs))
noncomputable def bE6(t:TA):TE:=fun σ H Q=>t σ H fun xs H1=>xs.length<=sizeLine/\∀p,H1 p=none->Q (.ref p) (upd H1 p (.lst xs))
theorem bn5{x1}(h:PA X es t):PE X (.Tuple es x1 pos) (bE0 t):=by
 intro pins s σ H Q I hq;refine wpAny_Tuple_spliced (thn (h pos pins s σ H _ I hq) fun us s1 ⟨xs,H1,I1,r,z,q⟩=>⟨by rw[<- r.length];exact z,?_⟩);have hf:H1 s1.heap.objs.size=none:=I1.hok.fresh (Nat.le_refl _);refine⟨.ref s1.heap.objs.size,upd H1 s1.heap.objs.size (.tup xs),I1.laid (t':=s1.toks) (fun b u e=>Heap.get?_push_of_some _ e) (Nat.le_refl _) ?_,rfl,q _ hf⟩;exact⟨z,us,r,⟨_,Heap.get?_push_size _ rfl,rfl,⟨_,rfl⟩,rfl⟩⟩
theorem bn9(h:PA X es t):PE X (.List es pos) (bE6 t):=by
 intro pins s σ H Q I hq;refine wpAny_List_spliced (thn (h pos pins s σ H _ I hq) fun us s1 ⟨xs,H1,I1,r,z,q⟩=>⟨by rw[<- r.length];exact z,?_⟩);have hf:H1 s1.heap.objs.size=none:=I1.hok.fresh (Nat.le_refl _);refine⟨.ref s1.heap.objs.size,upd H1 s1.heap.objs.size (.lst xs),I1.laid (t':=s1.toks) (fun b u e=>Heap.get?_push_of_some _ e) (Nat.le_refl _) ?_,rfl,q _ hf⟩;exact⟨z,us,0,r,Heap.get?_push_size _ rfl⟩
end
noncomputable abbrev Sp:=List V->Hp->VK->XK->Prop
noncomputable abbrev CXT:=List Env->Hp->Shared->XK->Value->Shared->Prop
structure ae3(P:Program)(w:World)(K:PySem.W.Frag)(mg:Str->Option Value)(base:Heap)(A:Around)(outer:List Env)(s:Shared)(H:Hp):Prop where
 frames:A.frames=some outer
 mod:Mod K mg base
 bs:∀b o,base.get? b=some o->s.heap.get? b=some o/\H b=none
 bsz:base.objs.size<=s.heap.objs.size
 A4:s.heap.FunFrames base outer
 frf:∀b∈frs outer,H b=none
 hok:HOk P w H s.heap
 bare:AllBare s.gens
noncomputable def CE(outer:List Env)(P:Program)(w:World)(H:Hp)(s:Shared)(Q:VK)(u:Value)(s':Shared):Prop :=
 ∃v H',s'.os=s.os/\AllBare s'.gens/\Un (frs outer) [] H H' s.heap s'.heap/\HOk P w H' s'.heap/\RelV v u/\Q v H'
noncomputable def CR(CX:CXT)(outer:List Env)(P:Program)(w:World)(H:Hp)(s:Shared)(Q:VK)(E:XK)(r:Result)(s':Shared):Prop :=
 match r with
 |.ok (.ret u)=>CE outer P w H s Q u s'
 |.ok _=>False
 |.error e=>CX outer H s E e s'
structure FnOk(P:Program)(w:World)(K:PySem.W.Frag)(mg:Str->Option Value)(base:Heap)(CX:CXT)(k:Nat)(f:Addr)(fd:FuncData)(ps:List Str)(sp:Sp):Prop where
 len:∀vs H Q E,sp vs H Q E->vs.length=ps.length
 run:∀(A:Around) (outer:List Env) (s:Shared) (H:Hp) (args:Args) (us:List Value) (vs:List V) (Q:VK) (E:XK),j7 k A->ae3 P w K mg base A outer s H->BindsTo s fd args (ps.zip us)->Vals vs us->sp vs H Q E ->
  codeAny (model P w) A (.call (.ref f) args) (CR CX outer P w H s Q E) s
theorem ae3.make{P:Program}{w:World}{K:PySem.W.Frag}{mg:Str->Option Value}{base:Heap}{A:Around}{outer:List Env}{s:Shared}{H:Hp}(e:ae3 P w K mg base A outer s H)(C:Addr)(us:List Value)(kw:List (Str×Value)) :
  ae3 P w K mg base (A.under (.builtin "type.__call__" ⟨.ref C::us,kw⟩)) outer s H:=⟨by first|exact e.frames|(simpa[Around.under,Code.envs,Code.isFrame,pushEnvs] using e.frames),e.mod,e.bs,e.bsz,e.A4,e.frf,e.hok,e.bare⟩
section
variable{X:Cx}{pins:List (Addr×Obj)}{σ:St}{H:Hp}{s s':Shared}
theorem Inv.bs2(I:Inv X pins σ H s):ae3 X.prog X.w X.K X.mg X.base X.A X.stack s H :=
 ⟨I.ok.frames,I.ok.mod,I.bs,Nat.le_trans I.ok.bsz I.sz,I.stack,I.Y9,I.hok,I.bare⟩
theorem Inv.after{Q:VK}{u:Value}(I:Inv X pins σ H s)(h:CE X.stack X.prog X.w H s Q u s'):EP X pins σ Q u s':=by
 obtain⟨v,H',os,bare,un,hok,r,q⟩:=h;obtain⟨hh,g,d,t,os'⟩:=s';obtain rfl:os'=s.os:=os;exact⟨v,H',I.call (h':=hh) (g':=g) (d':=d) (t':=t) (ch:=[]) un hok bare (fun b z=>absurd z (by simp)),r,q⟩
end
noncomputable def bv4(sp:Sp)(dvs:List V)(E:XK)(t:TA):TE:=fun σ H Q=>t σ H fun vs H1=>sp (vs++dvs) H1 Q E
noncomputable def a42(C:Addr)(sp:Sp)(dvs:List V)(E:XK)(t:TA):TE:=fun σ H Q=>t σ H fun vs H1=>∀x dx,H1 x=none->H1 dx=none->dx≠x ->
 sp (.ref x::(vs++dvs)) (upd (upd H1 dx (.own x)) x (.ins C dx [])) (fun v H2=>v=.non/\Q (.ref x) H2) E
noncomputable def Binds(K:PySem.W.Frag)(fd:FuncData)(ps:List Str)(ds:List Value):Prop :=
 ∀(s:Shared) (us:List Value),K.In s.heap->(us++ds).length=ps.length->BindsTo s fd ⟨us,[]⟩ (ps.zip (us++ds))
theorem Binds.all{K:PySem.W.Frag}{fd:FuncData}{ps:List Str}(h:∀us:List Value,us.length=ps.length->bindArgs fd ⟨us,[]⟩=pure (ps.zip us)):Binds K fd ps []:=fun s us _ hl=>by
 rw[List.append_nil] at hl ⊢;exact .of_eq (h us hl)
noncomputable def Passes(CX:CXT)(X:Cx)(E:XK):Prop:=∀(pins:List (Addr×Obj)) (σ:St) (H:Hp) (s:Shared) (e:Value) (s':Shared),Inv X pins σ H s->CX X.stack H s E e s'->X.xe e s'
section
variable{X:Cx}{CX:CXT}{k:Nat}{f C:Addr}{fd:FuncData}{ps:List Str}{sp:Sp}{dvs:List V}{ds:List Value}{E:XK}{x m:Str}{p pos apos:Pos}{e o:Expr}{es:List Expr}{ta:TE}{t:TA}
theorem as9{pins:List (Addr×Obj)}{σ:St}{H:Hp}{s:Shared}{Q:VK}{us:List Value}{vs:List V}(F:FnOk X.prog X.w X.K X.mg X.base CX k f fd ps sp)(hr:j7 k X.A)(hb:Binds X.K fd ps ds)(hd:Vals dvs ds)(hx:Passes CX X E)(I:Inv X pins σ H s)(r:Vals vs us)(h:sp (vs++dvs) H Q E):wpAny (model X.prog X.w) X.A (call (.ref f) us) (EP X pins σ Q) X.xe s:=by
 have r2:Vals (vs++dvs) (us++ds):=r.append hd;have hl:(us++ds).length=ps.length:=by rw[<- r2.length];exact F.len _ _ _ _ h
 refine wpAny_call (codeAny_mono (F.run X.A X.stack s H ⟨us,[]⟩ (us++ds) (vs++dvs) Q E hr I.bs2 (hb s us I.kIn hl) r2 h) fun r s' hq=>?_);cases r with
 |error e=>exact hx pins σ H s e s' I hq
 |ok fl =>
  cases fl with
  |ret u=>exact I.after hq
  |next=>exact False.elim hq
  |brk=>exact False.elim hq
  |cont=>exact False.elim hq
theorem bb9(F:FnOk X.prog X.w X.K X.mg X.base CX k f fd ps sp)(hr:j7 k X.A)(hg:Gl X x)(hm:X.mg x=some (.ref f))(hk:PySem.W.keepIn X.K (.ref f)=true)(hb:Binds X.K fd ps ds)(hd:Vals dvs ds)(hx:Passes CX X E)(ha:PA X (e::es) t)(hdb:(x==("__debug__":Str))=false:=by decide)(he:starEach (e::es) X.env=(false,eval e X.env)::starEach es X.env:=by rfl)(hpl:(backTo pos (starEach es X.env)).any (·.1)=false:=by rfl) :
  PE X (.Call (.Name x p) (e::es) [] pos) (bv4 sp dvs E t):=by
 intro pins s σ H Q I h;refine wpAny_Call_Name_kw (K0 I hg hm ?_ hdb);refine PySem.W.callWith_K (h₀:=X.base) I.ok.mod.kin hk (thn (ha pos pins s σ H _ I h) fun us s1 ⟨vs,H1,I1,r,q⟩=>⟨I1.kIn,?_⟩) he hpl;exact as9 F hr hb hd hx I1 r q
structure Mk(K:PySem.W.Frag)(C f:Addr):Prop where
 makes:PySem.W.makesIn K C=true
 init:PySem.W.findIn K (.ref C) "__init__"=some (some (.ref f))
 fn:PySem.W.isFn K (.ref f)=true
 kp:PySem.W.keepIn K (.ref C)=true
theorem as8{pins:List (Addr×Obj)}{σ:St}{H:Hp}{s:Shared}{Q:VK}{us:List Value}{vs:List V}(M:Mk X.K C f)(F:FnOk X.prog X.w X.K X.mg X.base CX k f fd ps sp)(hr:j7 (k+1) X.A)(hb:Binds X.K fd ps ds)(hd:Vals dvs ds)(hx:Passes CX X E)(I:Inv X pins σ H s)(r:Vals vs us)(h:∀x dx,H x=none->H dx=none->dx≠x->sp (.ref x::(vs++dvs)) (upd (upd H dx (.own x)) x (.ins C dx [])) (fun v H2=>v=.non/\Q (.ref x) H2) E) :
  wpAny (model X.prog X.w) X.A (call (.ref C) us) (EP X pins σ Q) X.xe s:=by
 have hq:=h (s.heap.objs.size+1) s.heap.objs.size (I.hok.fresh (Nat.le_succ _)) (I.hok.fresh (Nat.le_refl _)) (Nat.ne_of_lt (Nat.lt_succ_self _));have I2:=Inv.made (C:=C) I;have r2:Vals (V.ref (s.heap.objs.size+1)::(vs++dvs)) (Value.ref (s.heap.objs.size+1)::(us++ds)):=.cons rfl (r.append hd);have hl:(Value.ref (s.heap.objs.size+1)::us++ds).length=ps.length:=by
  have e:=r2.length;rw[F.len _ _ _ _ hq] at e;exact e.symm
 refine wpAny_call (aY8 (f:=f) I.kIn M.makes M.init (beq_iff_eq.mp M.fn) (codeAny_mono (F.run _ X.stack _ _ ⟨Value.ref (s.heap.objs.size + 1) :: us,[]⟩ (Value.ref (s.heap.objs.size + 1) :: (us ++ ds)) _ _ E (hr.make C us [])
  (I2.bs2.make C us []) (hb _ (Value.ref (s.heap.objs.size + 1) :: us) I2.kIn hl) r2 hq) fun r s' hq'=>?_))
 cases r with
 |error e=>exact hx pins σ _ _ e s' I2 hq'
 |ok fl =>
  cases fl with
  |ret u =>
   obtain⟨v,H',I3,rv,ev,q3⟩:=I2.after hq';subst ev;exact⟨rv,⟨V.ref (s.heap.objs.size+1),H',I3,rfl,q3⟩⟩
  |next=>exact False.elim hq'
  |brk=>exact False.elim hq'
  |cont=>exact False.elim hq'
theorem bb6(M:Mk X.K C f)(F:FnOk X.prog X.w X.K X.mg X.base CX k f fd ps sp)(hr:j7 (k+1) X.A)(hg:Gl X x)(hm:X.mg x=some (.ref C))(hb:Binds X.K fd ps ds)(hd:Vals dvs ds)(hx:Passes CX X E)(ha:PA X (e::es) t)(hdb:(x==("__debug__":Str))=false:=by decide)(he:starEach (e::es) X.env=(false,eval e X.env)::starEach es X.env:=by rfl)(hpl:(backTo pos (starEach es X.env)).any (·.1)=false:=by rfl) :
  PE X (.Call (.Name x p) (e::es) [] pos) (a42 C sp dvs E t):=by
 intro pins s σ H Q I h;refine wpAny_Call_Name_kw (K0 I hg hm ?_ hdb);refine PySem.W.callWith_K (h₀:=X.base) I.ok.mod.kin M.kp (thn (ha pos pins s σ H _ I h) fun us s1 ⟨vs,H1,I1,r,q⟩=>⟨I1.kIn,?_⟩) he hpl;exact as8 M F hr hb hd hx I1 r q
theorem aX0(M:Mk X.K C f)(F:FnOk X.prog X.w X.K X.mg X.base CX k f fd ps sp)(hr:j7 (k+1) X.A)(hg:Gl X x)(hm:X.mg x=some (.ref C))(hb:Binds X.K fd ps ds)(hd:Vals dvs ds)(hx:Passes CX X E)(hdb:(x==("__debug__":Str))=false:=by decide):PE X (.Call (.Name x p) [] [] pos) (a42 C sp dvs E bi3):=by
 intro pins s σ H Q I h;refine wpAny_Call_Name_kw (K0 I hg hm ?_ hdb);exact PySem.W.callWith_K0 I.kIn M.kp (as8 (us:=[]) M F hr hb hd hx I .nil h)
end
section
variable{X:Cx}{CX:CXT}{k:Nat}{f C:Addr}{fd:FuncData}{ps ks:List Str}{sp:Sp}{E:XK}{x m:Str}{p pos apos kpos:Pos}{e o:Expr}{es:List Expr}{kws:List Keyword}{te ta:TE}{t tk:TA}{nm:Option Str}
variable{g:List Value->List Value->List Value}{gV:List V->List V->List V}
end
structure FnScope(N P:List Str)(sc:Scope):Prop where
 kind:sc.kind=.function
 co:sc.isCoroutine=false
 gen:sc.isGenerator=false
 nd:N.Nodup
 pre:N.take P.length=P
 par:∀x∈P,sc.names.lookup x=some .local\/sc.names.lookup x=some .cell
 nofree:∀y∈sc.names,y.2≠.free
theorem ao3{kindOf:Str->Option NameKind}{x:Str}:∀{binds:List (Str×Value)} {m:Str->Option Value},(∀v,(x,v)∉binds)->bindL kindOf binds m x=m x
 |[],_,_=>rfl
 |(n,v)::r,m,h=>by
  unfold bindL;rw[ao3 fun w hw=>h w (List.mem_cons_of_mem _ hw)];split
  ·have:x≠n:=by rintro rfl;exact h v List.mem_cons_self
   simp[this]
  ·rfl
theorem ao5{kindOf:Str->Option NameKind}{x:Str}:∀{binds:List (Str×Value)} {m:Str->Option Value},(∀v,(x,v)∉binds)->bindC kindOf binds m x=m x
 |[],_,_=>rfl
 |(n,v)::r,m,h=>by
  unfold bindC;rw[ao5 fun w hw=>h w (List.mem_cons_of_mem _ hw)];split
  ·rfl
  ·have:x≠n:=by rintro rfl;exact h v List.mem_cons_self
   simp[this]
theorem ao4{kindOf:Str->Option NameKind}{x:Str}{v:Value}:∀{P:List Str} {vs:List Value} {i:Nat} {m:Str->Option Value},P.Nodup->P[i]?=some x->vs[i]?=some v->kindOf x=some .local ->
  bindL kindOf (P.zip vs) m x=some v
 |[],_,_,_,_,h,_,_=>by simp at h
 |_::_,[],_,_,_,_,h,_=>by simp at h
 |p::P,w::vs,0,m,nd,h1,h2,hk=>by
  simp at h1 h2;subst h1;subst h2;show bindL kindOf ((p,w)::P.zip vs) m p=_;unfold bindL;rw[ao3 fun v hv=>(List.nodup_cons.mp nd).1 (List.of_mem_zip hv).1,if_pos hk];simp
 |p::P,w::vs,i+1,m,nd,h1,h2,hk=>by
  show bindL kindOf ((p,w)::P.zip vs) m x=_;unfold bindL;exact ao4 (i:=i) (List.nodup_cons.mp nd).2 (by simpa using h1) (by simpa using h2) hk
theorem ao6{kindOf:Str->Option NameKind}{x:Str}{v:Value}:∀{P:List Str} {vs:List Value} {i:Nat} {m:Str->Option Value},P.Nodup->P[i]?=some x->vs[i]?=some v->kindOf x≠some .local ->
  bindC kindOf (P.zip vs) m x=some v
 |[],_,_,_,_,h,_,_=>by simp at h
 |_::_,[],_,_,_,_,h,_=>by simp at h
 |p::P,w::vs,0,m,nd,h1,h2,hk=>by
  simp at h1 h2;subst h1;subst h2;show bindC kindOf ((p,w)::P.zip vs) m p=_;unfold bindC;rw[ao5 fun v hv=>(List.nodup_cons.mp nd).1 (List.of_mem_zip hv).1,if_neg hk];simp
 |p::P,w::vs,i+1,m,nd,h1,h2,hk=>by
  show bindC kindOf ((p,w)::P.zip vs) m x=_;unfold bindC;exact ao6 (i:=i) (List.nodup_cons.mp nd).2 (by simpa using h1) (by simpa using h2) hk
noncomputable def start(N:List Str)(vs:List V):St:=vs.map some++List.replicate (N.length-vs.length) none
noncomputable def U0(CX:CXT)(P:Program)(w:World)(K:PySem.W.Frag)(mg:Str->Option Value)(base:Heap)(N:List Str)(qual:Str)(scope:Scope)(f:Addr)(cd:Value)(A:Around)(outer:List Env)(s:Shared)(H:Hp)(E:XK):Cx where
 prog:=P
 w:=w
 K:=K
 mg:=mg
 base:=base
 A:=A.deeper (envOfC qual scope s.heap.objs.size f cd)
 N:=N
 s₀:=s
 H₀:=H
 env:=envOfC qual scope s.heap.objs.size f cd
 outer:=outer
 stack:=envOfC qual scope s.heap.objs.size f cd::outer
 ex:=[]
 calm:=true
 fn:=fun _=>true
 pn:=[]
 xe:=fun e s'=>wpAny (model P w) (A.deeper (envOfC qual scope s.heap.objs.size f cd)) (leaving (envOfC qual scope s.heap.objs.size f cd) e) (fun _ s''=>CX outer H s E e s'') (fun e' s''=>CX outer H s E e' s'') s'
theorem ae0{sc:Scope}{n:Nat}{x:Str}(h:sc.names.lookup x=some .cell):∃c,(cellsFrom n sc.names []).lookup x=some c:=by
 have q:=PySem.W.cellsFrom_some sc.names n [] (.inl h);exact Option.isSome_iff_exists.mp q
theorem aQ6{CX:CXT}{P:Program}{w:World}{K:PySem.W.Frag}{mg:Str->Option Value}{base:Heap}{N ps:List Str}{qual:Str}{scope:Scope}{f:Addr}{cd:Value}{A:Around}{outer:List Env}{s s1:Shared}{H:Hp}{E:XK}{us:List Value}{vs:List V}(S:FnScope N ps scope)(hd:A.handled=none)(e0:ae3 P w K mg base A outer s H)(hl:vs.length=ps.length)(r:Vals vs us)(x:InCallC s s.heap.objs.size (bindL (envOfC qual scope s.heap.objs.size f cd).kindOf (ps.zip us) fun _=>none) (cellsFrom (s.heap.objs.size+1) scope.names []) (bindC (envOfC qual scope s.heap.objs.size f cd).kindOf (ps.zip us) fun _=>none) s1) :
  Inv (U0 CX P w K mg base N qual scope f cd A outer s H E) [] (start N vs) H s1:=by
 have hpl:ps.length<=N.length:=by have:=congrArg List.length S.pre;rw[List.length_take] at this;omega
 obtain⟨h1,tk,rfl,hk⟩:=x.done;have noA:∀b:Addr,b∉(U0 CX P w K mg base N qual scope f cd A outer s H E).ex:=fun b z=>absurd (show b∈([]:List Addr) from z) (by simp);refine ⟨⟨e0.mod,S.kind,rfl,rfl,Nat.le_refl _,fun y z c h1 h2=>?_,fun y hy=>?_,fun y c _ h=>?_,fun _=>hd,Around.frames_deeper e0.frames,.inr ⟨rfl,rfl⟩,fun b z=>absurd z (noA b),e0.bs,e0.bsz,fun b _ _=>noA b,fun b z=>absurd z (noA b),e0.A4,e0.frf⟩,
  rfl,e0.bare,Un.kept hk,⟨_,x.toInCall.ns,fun i y v h1 h2 h3=>?_⟩,fun y c h=>⟨_,x.cell y c h⟩,e0.hok.fresh (Nat.le_refl _),fun y c h=>?_,fun p hp=>absurd (show p ∈ ([]:List (Addr × Obj)) from hp) (by simp),e0.hok.kept hk,?_⟩
 ·exact name_of_addr x.apart (PySem.mem_of_lookup h1) (PySem.mem_of_lookup h2)
 ·have hy:scope.names.lookup y=some .cell\/scope.names.lookup y=some .free:=hy;rcases hy with hy|hy
  ·exact ae0 hy
  ·exact absurd rfl (S.nofree _ (PySem.mem_of_lookup hy))
 ·exact Nat.le_of_lt (x.above y c (PySem.mem_of_lookup h))
 ·have hi:i<vs.length:=by
   unfold start at h2;by_cases hi:i<vs.length
   ·exact hi
   ·rw[List.getElem?_append_right (by simpa using hi)] at h2;rw[List.getElem?_replicate] at h2;split at h2<;>cases h2
  have ha:vs[i]?=some v:=by
   unfold start at h2;rw[List.getElem?_append_left (by simpa using hi),List.getElem?_map] at h2;cases e:vs[i]? with
   |none=>rw[e] at h2;cases h2
   |some a=>rw[e] at h2;cases h2;rfl
  obtain⟨u,hu,rv⟩:=r.get ha;have hp:ps[i]?=some y:=by
   rw[<- S.pre,List.getElem?_take_of_lt (by omega)];exact h1
  have ndP:ps.Nodup:=by rw[<- S.pre];exact S.nd.sublist (List.take_sublist _ _)
  refine⟨u,rv,?_⟩;rcases S.par y (List.mem_of_getElem? hp) with k|k
  ·exact .inl ⟨k,ao4 ndP hp hu k⟩
  ·obtain⟨c,e⟩:=ae0 (n:=s.heap.objs.size+1) k;refine .inr ⟨.inl k,c,e,?_⟩;have q:=x.cell y c e;rw[ao6 ndP hp hu (by show scope.names.lookup y≠_;rw[k];decide)] at q;exact q
 ·exact e0.hok.fresh (Nat.le_of_lt (x.above y c (PySem.mem_of_lookup h)))
 ·unfold start;show _=N.length;rw[List.length_append,List.length_map,List.length_replicate];omega
theorem bA7{CX:CXT}{P:Program}{w:World}{K:PySem.W.Frag}{mg:Str->Option Value}{base:Heap}{k:Nat}{f:Addr}{name qual:Str}{params:Arguments}{body:List Stmt}{scope:Scope}{dV kV doc pm cdv ct oc:Value}{an od:Option Addr}{osl:Array (Option Value)}{N ps:List Str}{sp:Sp}(lk:K.lookup f=some ⟨oc,od,.func (PySem.W.fnOf name qual params body scope dV kV doc pm an cdv ct),osl⟩)(hcd:PySem.W.codeIn K cdv qual=true)(S:FnScope N ps scope)(len:∀vs H Q E,sp vs H Q E->vs.length=ps.length)(hbody:∀ (A:Around) (outer:List Env) (s:Shared) (H:Hp) (vs:List V) (Q:VK) (E:XK),j7 k (A.deeper (envOfC qual scope s.heap.objs.size f cdv))->sp vs H Q E ->
   ∃ t,PSs (U0 CX P w K mg base N qual scope f cdv A outer s H E) body t/\t { nx:=fun _ H'=>Q .non H',rt:=Q } (start N vs) H) :
  FnOk P w K mg base CX (k+1) f (PySem.W.fnOf name qual params body scope dV kV doc pm an cdv ct) ps sp:=by
 refine⟨len,fun A outer s H args us vs Q E hr e0 hb r hsp=>?_⟩;have hl:=len _ _ _ _ hsp;have KX:K.In s.heap:=e0.mod.kin.keeps fun b o e=>(e0.bs b o e).1;have lim:s.heap.NoLimit:=e0.mod.nolimit.keeps fun b o e=>(e0.bs b o e).1;have hkind:∀y∈ps.zip us,scope.names.lookup y.1=some .local\/(scope.names.lookup y.1=some .cell/\((cellsFrom (s.heap.objs.size+1) scope.names []).lookup y.1).isSome=true):=fun⟨n,v⟩ hy=>by
  rcases S.par n (List.of_mem_zip hy).1 with q|q
  ·exact .inl q
  ·exact .inr ⟨q,PySem.W.cellsFrom_some _ _ _ (.inl q)⟩
 refine codeAny_call_function hr.depth (KX _ _ lk) rfl S.co S.gen rfl (PySem.W.codeRec_of KX hcd) (hb _ _ _ _ ?_);refine wpAny_newFunctionEnv_cells S.kind hkind fun env he s1 x=>?_;subst he;refine⟨lim.keeps x.toInCall.keep,codeAny_func ?_⟩;obtain⟨t,ht,hq⟩:=hbody A outer s H vs Q E (hr.deeper _) hsp;have I:Inv (U0 CX P w K mg base N qual scope f cdv A outer s H E) [] (start N vs) H s1:=aQ6 S hr.hd e0 hl r x;refine wpAny_mono (ht [] s1 (start N vs) H _ I hq) (fun fl s' hs=>?_) fun e s' hs=>hs;have fin:∀{σ':St} {H':Hp} {v:V} {u:Value},Inv (U0 CX P w K mg base N qual scope f cdv A outer s H E) [] σ' H' s'->RelV v u->Q v H'->CE outer P w H s Q u s' :=
  fun{σ' H' v u} J rv q=>⟨v,H',J.os,J.bare,J.base,J.hok,rv,q⟩
 cases fl with
 |ret u =>
  obtain⟨v,σ',H',J,rv,q⟩:=hs;exact fin J rv q
 |next =>
  obtain⟨σ',H',J,q⟩:=hs;exact fin (v:=V.non) (u:=Value.none) J rfl q
 |brk =>
  obtain⟨_,_,_,q⟩:=hs;exact False.elim q
 |cont =>
  obtain⟨_,_,_,q⟩:=hs;exact False.elim q
end L2
namespace L2
open PySem PySem.Spec PyProof.Rows
section
variable{X:Cx}{x:Str}{p pos:Pos}{e:Expr}{es:List Expr}{t:TA}{id T:String}{r:List V->Hp->VK->Prop}
noncomputable def tCB(r:List V->Hp->VK->Prop)(t:TA):TE:=fun σ H Q=>t σ H fun vs H1=>r vs H1 Q
theorem at5(hc:j4 X (.builtin id) r)(hg:Gl X x)(hm:X.mg x=none)(hv:bootBuiltins x=some (.builtin id))(ha:PA X (e::es) t)(hn:x≠"__name__":=by decide)(hdb:(x==("__debug__":Str))=false:=by decide)(he:starEach (e::es) X.env=(false,eval e X.env)::starEach es X.env:=by rfl)(hpl:(backTo pos (starEach es X.env)).any (·.1)=false:=by rfl):PE X (.Call (.Name x p) (e::es) [] pos) (tCB r t):=by
 intro pins s σ H Q I h;refine wpAny_Call_Name_kw (M6 I hg hm hv ?_ hn hdb);exact PyProof.Rows.callWith_builtin1 (thn (ha pos pins s σ H _ I h) fun us s1 ⟨vs,H1,I1,r1,q1⟩=>hc pins s1 σ H1 vs us Q I1 r1 q1) he hpl
theorem F5(hc:j4 X (.type T) r)(hg:Gl X x)(hm:X.mg x=none)(hv:bootBuiltins x=some (.type T))(ha:PA X (e::es) t)(hn:x≠"__name__":=by decide)(hdb:(x==("__debug__":Str))=false:=by decide)(he:starEach (e::es) X.env=(false,eval e X.env)::starEach es X.env:=by rfl)(hpl:(backTo pos (starEach es X.env)).any (·.1)=false:=by rfl):PE X (.Call (.Name x p) (e::es) [] pos) (tCB r t):=by
 intro pins s σ H Q I h;refine wpAny_Call_Name_kw (M6 I hg hm hv ?_ hn hdb);exact PyProof.Rows.callWith_type1 (thn (ha pos pins s σ H _ I h) fun us s1 ⟨vs,H1,I1,r1,q1⟩=>hc pins s1 σ H1 vs us Q I1 r1 q1) he hpl
end
end L2

namespace HT
open PySem PyProof.Rows
section
open PySem.SeqAt
open PySem.AutoSeq1 (wpAny_loadPart')
open PySem.MeetsSeq PySem.MeetsSeq2 PySem.MeetsSeq3
end
section
variable{prog:Program}{w:World}{A:Around}{E:Value->Shared->Prop}{s:Shared}
theorem bf7{t b:Addr}{vs ws:List Value}{Q:Value->Shared->Prop}(ht:IsTup s.heap t vs.toArray)(hb:IsTup s.heap b ws.toArray)(hv:vs≠[])(h1:ws=[]->Q (.ref t) s)(h2:ws≠[]->Q (.ref s.heap.objs.size) { s with heap:=s.heap.push { cls:=.type "tuple",data:=.seq (vs++ws).toArray } })(hsz:vs.length+ws.length<=sizeLine):wpAny (model prog w) A (binaryOp .Add (.ref t) (.ref b)) Q E s:=by
 obtain⟨⟨cls,dd,data,sl⟩,ho,hc,n,hd⟩:=id ht;obtain⟨⟨cls2,dd2,data2,sl2⟩,ho2,hc2,n2,hd2⟩:=id hb;simp only at hc hd hc2 hd2;subst hc hd hc2 hd2;have e:vs.toArray++ws.toArray=(vs++ws).toArray:=by simp
 by_cases hw:ws=[]
 ·exact concat_meets ⟨_,ho,rfl⟩ ⟨_,ho2,rfl⟩ noFill_tuple_add seq_tuple_add PySem.F.slot_tuple_add PySem.F.entry_tuple_add (PySem.F.args_tuple_add_2 _ _)
   (tuple_addW1 t b vs.toArray ws.toArray n n2 dd dd2 sl sl2 (by simpa using hv) (by simp[hw])) ⟨ho,ho2,h1 hw⟩
 ·refine concat_meets ⟨_,ho,rfl⟩ ⟨_,ho2,rfl⟩ noFill_tuple_add seq_tuple_add PySem.F.slot_tuple_add PySem.F.entry_tuple_add (PySem.F.args_tuple_add_2 _ _)
   (tuple_addW2 t b vs.toArray ws.toArray n n2 dd dd2 sl sl2 (by simpa using hv) (by simpa using hw) (by rw[List.size_toArray,List.size_toArray];exact hsz)) ⟨ho,ho2,?_⟩
  rw[e];exact h2 hw
noncomputable def sIx(n d:Nat):Option Int->Nat
 |none=>d
 |some v=>if v<0 then(v+(n:Int)).toNat else min v.toNat n
theorem bl8(n d:Nat)(hd:d<=n)(o:Option Int):sIx n d o<=n:=by
 cases o with
 |none=>exact hd
 |some v =>
  show(if v<0 then(v+(n:Int)).toNat else min v.toNat n)<=n;by_cases hv:v<0
  ·rw[if_pos hv];omega
  ·rw[if_neg hv];exact Nat.min_le_right _ _
theorem aD1(v:Int)(n d:Nat):(if v<0 then max (v+(n:Int)) 0 else min v (n:Int))=((sIx n d (some v):Nat):Int):=by
 show(if v<0 then max (v+(n:Int)) 0 else min v (n:Int))=(((if v<0 then(v+(n:Int)).toNat else min v.toNat n):Nat):Int);by_cases hv:v<0
 ·simp only[if_pos hv];omega
 ·simp only[if_neg hv];omega
theorem aJ7(lo hi:Option Int)(n:Nat):Builtin.Slice.sliceAdjust lo hi 1 (n:Int)=(((sIx n 0 lo:Nat):Int),((sIx n n hi:Nat):Int)):=by
 have h1:¬((1:Int)<0):=by omega
 unfold Builtin.Slice.sliceAdjust;simp only[h1,if_false];refine Prod.ext ?_ ?_
 ·cases lo with
  |none=>rfl
  |some v=>exact aD1 v n 0
 ·cases hi with
  |none=>rfl
  |some v=>exact aD1 v n n
theorem aF2(i j:Nat):Builtin.Slice.slicePlaces (i:Int) (j:Int) 1=j-i:=by
 unfold Builtin.Slice.slicePlaces;have h1:(1:Int)>0:=by omega
 simp only[h1,if_true,Int.ediv_one];split<;>omega
theorem af2{v:Value}{o:Option Int}{Q:Option Int->Shared->Prop}(p:IsPart v o)(h:Q o s):wpAny (model prog w) A (Builtin.Slice.slicePartIndex v) Q E s:=by
 cases p with
 |none=>exact slicePart_none h
 |int i t=>exact slicePart_int h
theorem K6{sl:Addr}{vl vu:Value}{lo hi:Option Int}{n:Nat}{Q:Int×Int×Nat->Shared->Prop}(hs:s.heap.IsSliceOf sl vl vu .none)(pl:IsPart vl lo)(pu:IsPart vu hi)(h:Q (((sIx n 0 lo:Nat):Int),1,sIx n n hi-sIx n 0 lo) s):wpAny (model prog w) A (Builtin.Slice.sliceApplied (.ref sl) (pure (n:Int))) Q E s:=by
 obtain⟨os,hos,hcs,hds⟩:=id hs;unfold Builtin.Slice.sliceApplied Builtin.Slice.sliceFields;refine wpAny_bind (wpAny_bind (wpAny_field hos hds (x:=vl) rfl (wpAny_bind (wpAny_field hos hds (x:=vu) rfl (wpAny_bind (wpAny_field hos hds (x:=.none) rfl (wpAny_pure ?_)))))));refine wpAny_bind (slicePart_none ?_);show wpAny _ _ (if((1:Int)==0)=true then _ else _) _ _ s;rw[if_neg (by decide)];refine wpAny_bind (af2 pl (wpAny_bind (af2 pu (wpAny_bind (wpAny_pure ?_)))));show wpAny _ _ (match Builtin.Slice.sliceAdjust lo hi 1 (n:Int) with|(lo,hi)=>pure (lo,(1:Int),Builtin.Slice.slicePlaces lo hi 1)) _ _ s;rw[aJ7 lo hi n];show wpAny _ _ (pure (((sIx n 0 lo:Nat):Int),(1:Int),Builtin.Slice.slicePlaces ((sIx n 0 lo:Nat):Int) ((sIx n n hi:Nat):Int) 1)) _ _ s;rw[aF2];exact wpAny_pure h
theorem aW6(xs:Array Value)(i k:Nat):((List.range k).filterMap fun(m:Nat)=>xs[((i:Int)+(m:Int)*1).toNat]?).toArray=((xs.toList.drop i).take k).toArray:=by
 have e:(fun(m:Nat)=>xs[((i:Int)+(m:Int)*1).toNat]?)=fun m=>xs[i+m]?:=by
  funext m
  have:((i:Int)+(m:Int)*1).toNat=i+m:=by omega
  rw[this]
 rw[e];have:=pick_run xs i k;rw[List.filterMap_map] at this;have e2:((fun x=>xs[x]?) ∘ fun x=>i+x)=fun m=>xs[i+m]?:=rfl;rw[e2] at this;rw[this]
theorem ab4{t sl:Addr}{items:Array Value}{vl vu:Value}{lo hi:Option Int}{Q:Value->Shared->Prop}(ht:IsTup s.heap t items)(hs:s.heap.IsSliceOf sl vl vu .none)(pl:IsPart vl lo)(pu:IsPart vu hi)(hw:¬(sIx items.size 0 lo=0/\sIx items.size items.size hi=items.size))(h:Q (.ref s.heap.objs.size) { s with heap:=s.heap.push { cls:=.type "tuple",data:=.seq ((items.toList.drop (sIx items.size 0 lo)).take (sIx items.size items.size hi-sIx items.size 0 lo)).toArray } })(hsz:items.size<=sizeLine):wpAny (model prog w) A (getItem (.ref t) (.ref sl)) Q E s:=by
 have htake:sizeOk (.seq ((items.toList.drop (sIx items.size 0 lo)).take (sIx items.size items.size hi-sIx items.size 0 lo)).toArray):=by
  show((items.toList.drop (sIx items.size 0 lo)).take (sIx items.size items.size hi-sIx items.size 0 lo)).toArray.size<=sizeLine;rw[List.size_toArray,List.length_take,List.length_drop,Array.length_toList];omega
 have hj:sIx items.size items.size hi<=items.size:=bl8 _ _ (Nat.le_refl _) hi;obtain⟨os,hos,hcs,hds⟩:=id hs;have hTs:s.TypeIs (.ref sl) "slice":=⟨os,hos,hcs⟩
 unfold getItem
 try with_reducible refine wpAny_holding ?_
 first|refine wpAny_bind (wpAny_pure ?_)|skip
 refine wpAny_bind (wpAny_sequenceKey ht.typeIs (by decide) ?_);refine wpAny_bind (wpAny_callSpecial?_slot (name:=Str.ofString "__getitem__") ht.typeIs PyProof.Rows.slot_tuple_getitem
  (wpAny_call_entry PyProof.Rows.slot_tuple_getitem ht.typeIs entry_tuple_getitem ?_ (args_tuple_getitem _ _)))
 show wpAny _ _ (Builtin.Tuple.tupleItemsOf (.ref t) >>= _) _ _ s;refine wpAny_bind (tupleItemsOf_ ht ?_);refine wpAny_bind (wpAny_typeOf hTs ?_);rw[if_pos (by decide)];refine wpAny_bind (K6 hs pl pu ?_);have hno:¬((((sIx items.size 0 lo:Nat):Int)==0&&(1:Int)==1&&(sIx items.size items.size hi-sIx items.size 0 lo)==items.size)=true):=by
  intro q;rw[Bool.and_eq_true,Bool.and_eq_true] at q;have q1:((sIx items.size 0 lo:Nat):Int)=0:=eq_of_beq q.1.1;have q2:sIx items.size items.size hi-sIx items.size 0 lo=items.size:=eq_of_beq q.2;exact hw ⟨by omega,by omega⟩
 show wpAny _ _ (if(((sIx items.size 0 lo:Nat):Int)==0&&(1:Int)==1&&(sIx items.size items.size hi-sIx items.size 0 lo)==items.size)=true then _ else _) _ _ s;rw[if_neg hno,aW6]
 first
  |exact wpAny_bind (m:=Builtin.Tuple.tupleExact _) (wpAny_newObj_type (wpAny_pure ⟨_,rfl,wpAny_pure h⟩) htake)
  |exact wpAny_bind (m:=Builtin.Tuple.tupleExact _) (wpAny_newObj_type (wpAny_bind (wpAny_pure (wpAny_pure ⟨_,rfl,wpAny_pure h⟩))) htake)
  |exact wpAny_bind (wpAny_bind (m:=Builtin.Tuple.tupleExact _) (wpAny_newObj_type (wpAny_pure (wpAny_pure ⟨_,rfl,wpAny_pure h⟩)) htake))
  |exact wpAny_bind (wpAny_bind (m:=Builtin.Tuple.tupleExact _) (wpAny_newObj_type (wpAny_pure ⟨_,rfl,wpAny_pure h⟩) htake))
end
end HT
namespace L2
open PySem PySem.Spec PyProof.Rows
noncomputable abbrev TO:=St->Hp->(Option Int->Hp->Prop)->Prop
noncomputable def PO(X:Cx)(e:Option Expr)(t:TO):Prop :=
 ∀(pins:List (Addr×Obj)) (s:Shared) (σ:St) (H:Hp) (Q:Option Int->Hp->Prop),Inv X pins σ H s->t σ H Q ->
  wpAny (model X.prog X.w) X.A (evalPart e X.env) (fun u s'=>∃o H',Inv X pins σ H' s'/\IsPart u o/\Q o H') X.xe s
noncomputable def a83:TO:=fun _ H Q=>Q none H
noncomputable def bu9(t:TE):TO:=fun σ H Q=>t σ H fun x H1=>∃i,x=.int i/\Q (some i) H1
section
variable{X:Cx}{e:Expr}{te:TE}{lo hi:Option Expr}{tl th:TO}{pos p2:Pos}
theorem Z3:PO X none a83:=by
 intro pins s σ H Q I h;rw[evalPart_none];exact wpAny_pure ⟨none,H,I,.none,h⟩
theorem aB3(h:PE X e te):PO X (some e) (bu9 te):=by
 intro pins s σ H Q I hw;rw[evalPart_some];refine thn (h pins s σ H _ I hw) fun u s1 ⟨x,H1,I1,r1,q1⟩=>?_;obtain⟨i,rfl,q⟩:=q1;obtain⟨t,rfl⟩:=r1;exact⟨some i,H1,I1,.int i t,q⟩
noncomputable def SlR(X:Cx)(r:V->Option Int->Option Int->Hp->VK->Prop):Prop :=
 ∀(pins:List (Addr×Obj)) (s:Shared) (σ:St) (H:Hp) (x:V) (v vl vu:Value) (lo hi:Option Int) (sl:Addr) (Q:VK),Inv X pins σ H s->RelV x v->s.heap.IsSliceOf sl vl vu .none->IsPart vl lo->IsPart vu hi->r x lo hi H Q ->
  ∃T id,typeLookup (.type T) "__getitem__"=pure (some (.builtin id))/\s.TypeIs v T/\wpAny (model X.prog X.w) X.A (getItem v (.ref sl)) (EP X pins σ Q) X.xe s
noncomputable def tSl(r:V->Option Int->Option Int->Hp->VK->Prop)(te:TE)(tl th:TO):TE:=fun σ H Q=>te σ H fun x H1=>tl σ H1 fun l H2=>th σ H2 fun u H3=>r x l u H3 Q
theorem ad0{r:V->Option Int->Option Int->Hp->VK->Prop}(hr:SlR X r)(he:PE X e te)(hl:PO X lo tl)(hu:PO X hi th):PE X (.Subscript e (.Slice lo hi none p2) pos) (tSl r te tl th):=by
 intro pins s σ H Q I h;refine Subscript_ (thn (he pins s σ H _ I h) fun v s1 ⟨x,H1,I1,r1,q1⟩=>?_);refine wpAny_Slice (thn (hl pins s1 σ H1 _ I1 q1) fun vl s2 ⟨l,H2,I2,pl,q2⟩=>thn (hu pins s2 σ H2 _ I2 q2) fun vu s3 ⟨u,H3,I3,pu,q3⟩=>?_);rw[evalPart_none];refine wpAny_pure ?_;have I4:Inv X pins σ H3 { s3 with heap:=s3.heap.push { cls:=.type "slice",data:=.fields #[vl,vu,.none] } }:=I3.kept (t':=s3.toks) fun b ob q=>Heap.get?_push_of_some _ q;obtain⟨T,id,hT,ht,hg⟩:=hr pins { s3 with heap:=s3.heap.push { cls:=.type "slice",data:=.fields #[vl,vu,.none] } } σ H3 x v vl vu l u s3.heap.objs.size Q I4 r1 (Heap.IsSliceOf.new ..) pl pu q3;show wpAny (model X.prog X.w) X.A (subscriptTail e (.Slice lo hi none p2) v (.ref s3.heap.objs.size)) (EP X pins σ Q) X.xe { s3 with heap:=s3.heap.push { cls:=.type "slice",data:=.fields #[vl,vu,.none] } };exact tail_any (ops:=[.ref s3.heap.objs.size,v]) ht hT hg (by with_unfolding_all rfl)
noncomputable def M7(xs:List V)(lo hi:Option Int):List V:=(xs.drop (HT.sIx xs.length 0 lo)).take (HT.sIx xs.length xs.length hi-HT.sIx xs.length 0 lo)
theorem ac2(xs:List V)(lo hi:Option Int):(M7 xs lo hi).length<=xs.length:=by
 unfold M7;rw[List.length_take,List.length_drop];omega
noncomputable def bG2(K:PySem.W.Frag):V->Option Int->Option Int->Hp->VK->Prop:=fun x lo hi H Q=>∃a xs,x=.ref a/\SqT K H a xs /\
 ¬(HT.sIx xs.length 0 lo=0/\HT.sIx xs.length xs.length hi=xs.length)/\∀p,H p=none->Q (.ref p) (upd H p (.tup (M7 xs lo hi)))
theorem bj7:SlR X (bG2 X.K):=by
 intro pins s σ H x v vl vu lo hi sl Q I rx hs pl pu h;obtain⟨a,xs,rfl,hx,hw,q⟩:=h;cases rx;obtain⟨its,r,ht,hz⟩:=I.tuple hx;have hlen:its.toArray.size=xs.length:=by rw[List.size_toArray];exact r.length.symm
 refine⟨"tuple",_,PyProof.Rows.slot_tuple_getitem.lookup,ht.typeIs,?_⟩;refine HT.ab4 ht hs pl pu (by rw[hlen];exact hw) ?_ (by rw[hlen];exact hz);rw[hlen];refine⟨.ref s.heap.objs.size,_,I.laid (t':=s.toks) (o:=.tup (M7 xs lo hi)) (fun b ob q=>Heap.get?_push_of_some _ q) (Nat.le_refl _) ?_,rfl,q _ (I.hok.fresh (Nat.le_refl _))⟩;exact⟨Nat.le_trans (ac2 xs lo hi) hz,_,(r.drop (HT.sIx xs.length 0 lo)).take (HT.sIx xs.length xs.length hi-HT.sIx xs.length 0 lo),A3.new _ _⟩
noncomputable def bw7(K:PySem.W.Frag):R2:=fun x y H Q=>∃a b xs ys,x=.ref a/\y=.ref b/\SqT K H a xs/\SqT K H b ys/\xs≠[]/\xs.length+ys.length<=sizeLine /\
 (ys=[]->Q (.ref a) H)/\(ys≠[]->∀p,H p=none->Q (.ref p) (upd H p (.tup (xs++ys))))
theorem Vals.J9{xs:List V}{us:List Value}(r:Vals xs us):us=[]↔xs=[]:=by
 cases r with
 |nil=>simp
 |cons _ _=>simp
theorem bc7:OpR X (binaryOp .Add) (bw7 X.K):=by
 intro pins s σ H x y v u Q I rx ry h;obtain⟨a,b,xs,ys,rfl,rfl,ha,hb,hx,hz,q1,q2⟩:=h;cases rx;cases ry;obtain⟨its,r1,p1,_⟩:=I.tuple ha;obtain⟨its2,r2,p2,_⟩:=I.tuple hb;refine HT.bf7 p1 p2 (fun z=>hx (r1.J9.mp z)) (fun z=>⟨.ref a,H,I,rfl,q1 (r2.J9.mp z)⟩) (fun z=>?_) (by rw[<- r1.length,<- r2.length];exact hz);refine⟨.ref s.heap.objs.size,_,I.laid (t':=s.toks) (o:=.tup (xs++ys)) (fun b ob q=>Heap.get?_push_of_some _ q) (Nat.le_refl _) ?_,rfl,q2 (fun w=>z (r2.J9.mpr w)) _ (I.hok.fresh (Nat.le_refl _))⟩;exact⟨by rw[List.length_append];exact hz,_,r1.append r2,A3.new _ _⟩
end
end L2
namespace L2
open PySem PySem.Spec PyProof.Rows
noncomputable def ixN(n:Nat)(i:Int):Option Nat:=if 0<=i then(if i<n then some i.toNat else none) else if -(n:Int)<=i then some (i+n).toNat else none
noncomputable def atI{α:Type}(xs:List α)(i:Int):Option α:=(ixN xs.length i).bind fun j=>xs[j]?
theorem aC4{n:Nat}{i:Int}{j:Nat}(h:ixN n i=some j):seqIndex? i n=some j/\j<n/\-(n:Int)<=i/\i<n:=by
 unfold ixN at h;by_cases h0:0<=i
 ·rw[if_pos h0] at h;by_cases h1:i<n
  ·rw[if_pos h1] at h;have e:i.toNat=j:=Option.some.inj h;exact⟨by rw[seqIndex_of h0 h1,e],by omega,by omega,h1⟩
  ·rw[if_neg h1] at h;cases h
 ·rw[if_neg h0] at h;by_cases h1:-(n:Int)<=i
  ·rw[if_pos h1] at h;have e:(i+n).toNat=j:=Option.some.inj h;exact⟨by rw[seqIndex_neg (by omega) h1,e],by omega,h1,by omega⟩
  ·rw[if_neg h1] at h;cases h
theorem al0{α:Type}{xs:List α}{i:Int}{v:α}(h:atI xs i=some v):∃j,seqIndex? i xs.length=some j/\xs[j]?=some v/\j<xs.length/\-(xs.length:Int)<=i/\i<xs.length:=by
 unfold atI at h;cases e:ixN xs.length i with
 |none=>rw[e] at h;cases h
 |some j =>
  rw[e] at h;obtain⟨h1,h2,h3,h4⟩:=aC4 e;exact⟨j,h1,h,h2,h3,h4⟩
theorem Q7{α:Type}{xs:List α}{j:Nat}{v:α}(h:xs[j]?=some v):atI xs (j:Int)=some v:=by
 have hj:j<xs.length:=(List.getElem?_eq_some_iff.mp h).1;have e:ixN xs.length (j:Int)=some j:=by
  unfold ixN;rw[if_pos (by omega),if_pos (by omega)];simp
 unfold atI;rw[e];exact h
noncomputable def al4(b:Expr):Prop:=∀o i,subscripted b false o i=operate [o,i] (getItem o i)
noncomputable def IxR(X:Cx)(r:R2):Prop :=
 ∀(value slice:Expr) (pins:List (Addr×Obj)) (s:Shared) (σ:St) (H:Hp) (x y:V) (v u:Value) (Q:VK),Inv X pins σ H s->RelV x v->RelV y u->r x y H Q ->
  subscripted slice false v u=operate [v,u] (getItem v u)->wpAny (model X.prog X.w) X.A (subscriptTail value slice v u) (EP X pins σ Q) X.xe s
noncomputable def MtR(X:Cx)(id:String)(r:V->List V->Hp->VK->Prop):Prop :=
 ∀(pins:List (Addr×Obj)) (s:Shared) (σ:St) (H:Hp) (x:V) (xs:List V) (v:Value) (us:List Value) (Q:VK),Inv X pins σ H s->RelV x v->Vals xs us->r x xs H Q ->
  wpAny (model X.prog X.w) X.A (call (.builtin id) (v::us)) (EP X pins σ Q) X.xe s
section
variable{X:Cx}{a b:Expr}{ta tb:TE}{pos:Pos}
theorem a52{r:R2}(hr:IxR X r)(ha:PE X a ta)(hb:PE X b tb)(hs:al4 b):PE X (.Subscript a b pos) (tOp r ta tb):=by
 intro pins s σ H Q I h;exact Subscript_ (a20 ha hb I h fun v u s2 x y H2 I2 rx ry q=>hr a b pins s2 σ H2 x y v u Q I2 rx ry q (hs _ _))
noncomputable def bG9(K:PySem.W.Frag):R2:=fun x y H Q=>∃p xs i v,x=.ref p/\y=.int i/\SqL K H p xs/\atI xs i=some v/\Q v H
noncomputable def bG7(K:PySem.W.Frag):R2:=fun x y H Q=>∃p xs i v,x=.ref p/\y=.int i/\SqT K H p xs/\atI xs i=some v/\Q v H
noncomputable def bG8:R2:=fun x y H Q=>∃z i c,x=.str z/\y=.int i/\z.length<=sizeLine/\atI z.cps.toList i=some c/\Q (.str ⟨#[c]⟩) H
theorem be1:IxR X (bG9 X.K):=by
 intro value slice pins s σ H x y v u Q I rx ry h hs;obtain⟨p,xs,i,z,rfl,rfl,hq,he,q⟩:=h;cases rx;obtain⟨t,rfl⟩:=ry;obtain⟨its,r,pl,hz⟩:=I.list hq;obtain⟨j,h1,h2,h3,h4,h5⟩:=al0 he;obtain⟨w,ew,rw'⟩:=r.get h2;have hl:=r.length;have hn:=M5;have fin:EP X pins σ Q w s:=⟨z,H,I,rw',q⟩
 by_cases h0:0<=i
 ·have hj:i.toNat=j:=by
   rw[seqIndex_of h0 h5] at h1;exact Option.some.inj h1
  exact item_listR pl.isList h0 (by omega) (by rw[hj];simpa using ew) fin hs
 ·have hj:(i+(its.toArray.size:Int)).toNat=j:=by
   rw[seqIndex_neg (by omega) h4] at h1;rw[List.size_toArray,<- hl];exact Option.some.inj h1
  exact subscriptTail_builtinR (x:=w) pl.isList.typeIs slot_list_getitem.lookup
   (wpAny_getItem_list_neg (Q:=fun r s'=>r=w/\EP X pins σ Q r s') pl.isList (by omega) (by rw[List.size_toArray]<;>omega) (by omega) (by rw[hj];simpa using ew) ⟨rfl,fin⟩) hs
theorem br1:IxR X (bG7 X.K):=by
 intro value slice pins s σ H x y v u Q I rx ry h hs;obtain⟨p,xs,i,z,rfl,rfl,hq,he,q⟩:=h;cases rx;obtain⟨t,rfl⟩:=ry;obtain⟨its,r,pl,hz⟩:=I.tuple hq;obtain⟨j,h1,h2,h3,h4,h5⟩:=al0 he;obtain⟨w,ew,rw'⟩:=r.get h2;have hl:=r.length;have hn:=M5;have fin:EP X pins σ Q w s:=⟨z,H,I,rw',q⟩
 exact subscriptTail_builtinR (x:=w) pl.typeIs slot_tuple_getitem.lookup
  (getItem_tuple (j:=j) (Q:=fun r s'=>r=w/\EP X pins σ Q r s') pl (by omega) (by omega) (by rw[List.size_toArray,<- hl];exact h1) (by simpa using ew) ⟨rfl,fin⟩) hs
theorem br2:IxR X bG8:=by
 intro value slice pins s σ H x y v u Q I rx ry h hs;obtain⟨z,i,c,rfl,rfl,hz,he,q⟩:=h;obtain⟨t,rfl⟩:=rx;obtain⟨t',rfl⟩:=ry;obtain⟨j,h1,h2,h3,h4,h5⟩:=al0 he;have hl:z.cps.toList.length=z.length:=by simp[Str.length]
 rw[hl] at h1 h4 h5;have hn:=M5;exact tail_any (typeIs_str s z t) slot_str_getitem.lookup (getItem_str (c:=c) (by
  have e1:decide (i < -(2 ^ 63:Int))=false:=decide_eq_false (by omega);have e2:decide (i>=2 ^ 63)=false:=decide_eq_false (by omega);rw [e1,e2,Bool.or_false]) (by rw [h1];simpa using h2) ⟨.str ⟨#[c]⟩,H,I.tok _,⟨_,rfl⟩,q⟩) hs
theorem aG8(its:List Value)(n j:Nat)(u:Value):Obj.mapSeq (·.setIfInBounds j u) { cls:=.type "list",data:=.seq its.toArray n }={ cls:=.type "list",data:=.seq (its.set j u).toArray n }:=by
 simp[Obj.mapSeq]
theorem Inv.lst{pins:List (Addr×Obj)}{σ:St}{H:Hp}{s:Shared}{p:Addr}{xs:List V}(I:Inv X pins σ H s)(h:H p=some (.lst xs)) :
  ∃(its:List Value) (n:Nat),Vals xs its/\s.heap.get? p=some { cls:=.type "list",data:=.seq its.toArray n }/\xs.length<=sizeLine:=by
 obtain⟨z,its,n,r,e⟩:=I.hok p _ h;exact⟨its,n,r,e,z⟩
theorem Inv.bp9{pins:List (Addr×Obj)}{σ:St}{H:Hp}{s:Shared}{p:Addr}{xs ys:List V}{its its':List Value}{n n':Nat}{f:Obj->Obj}(I:Inv X pins σ H s)(h:H p=some (.lst xs))(ho:s.heap.get? p=some { cls:=.type "list",data:=.seq its.toArray n })(hf:f { cls:=.type "list",data:=.seq its.toArray n }={ cls:=.type "list",data:=.seq its'.toArray n' })(r:Vals ys its')(hz:ys.length<=sizeLine)(t:Nat) :
  Inv X pins σ (upd H p (.lst ys)) { s with heap:=s.heap.update p f,toks:=t }:=by
 have e:(s.heap.update p f).get? p=some { cls:=.type "list",data:=.seq its'.toArray n' }:=by
  rw[Heap.get?_update_self f ho (by rw[hf]<;>rfl),hf]
 refine I.write (x:=p) (e:=p) (by rw[h];trivial) (.inl rfl) (fun b u hb q=>(Heap.get?_update_other _ _ (Ne.symm hb)).trans q) ⟨_,e⟩ ?_;exact⟨hz,its',n',r,e⟩
noncomputable def bw4:V->V->V->Hp->(Hp->Prop)->Prop:=fun o i v H Q=>∃p xs k j,o=.ref p/\i=.int k/\H p=some (.lst xs)/\ixN xs.length k=some j/\Q (upd H p (.lst (xs.set j v)))
theorem set_list:a28 X bw4:=by
 intro pins s σ H o i v ov iv u Q I ro ri rv h;obtain⟨p,xs,k,j,rfl,rfl,hp,hj,q⟩:=h;cases ro;obtain⟨t,rfl⟩:=ri;obtain⟨its,n,r,ho,hz⟩:=I.lst hp;obtain⟨h1,h2,h3,h4⟩:=aC4 hj;have hl:=r.length;have hn:=M5;have I':Inv X pins σ (upd H p (.lst (xs.set j v))) { s with heap:=s.heap.update p (Obj.mapSeq (·.setIfInBounds j u)) } :=
  I.bp9 hp ho (aG8 its n j u) (r.set rv j) (by rw[List.length_set];exact hz) s.toks
 by_cases h0:0<=k
 ·have hk:k.toNat=j:=by
   rw[seqIndex_of h0 h4] at h1;exact Option.some.inj h1
  exact PySem.W.ki_setAt ho h0 (by omega) (by rw[List.size_toArray,<- hl];exact h4) (by rw[hk];exact⟨_,I',q⟩)
 ·have hk:(k+(its.toArray.size:Int)).toNat=j:=by
   rw[seqIndex_neg (by omega) h3] at h1;rw[List.size_toArray,<- hl];exact Option.some.inj h1
  exact PySem.W.ki_setBack ho (by omega) (by rw[List.size_toArray,<- hl];exact h3) (by omega) (by rw[hk];exact⟨_,I',q⟩)
theorem as2(lo hi:Option Int)(n:Nat):(sliceBounds lo hi none n).1=((HT.sIx n 0 lo:Nat):Int)/\(sliceBounds lo hi none n).2.1=((HT.sIx n n hi:Nat):Int)/\(sliceBounds lo hi none n).2.2=1:=by
 refine⟨?_,?_,rfl⟩
 ·cases lo with
  |none=>simp[sliceBounds,HT.sIx]
  |some i =>
   simp only[sliceBounds,HT.sIx,Option.getD_none,show(1:Int)>0 by decide,if_true];by_cases h:i<0
   ·simp only[h,if_true]<;>omega
   ·simp only[h,if_false]<;>omega
 ·cases hi with
  |none=>simp[sliceBounds,HT.sIx]
  |some i =>
   simp only[sliceBounds,HT.sIx,Option.getD_none,show(1:Int)>0 by decide,if_true];by_cases h:i<0
   ·simp only[h,if_true]<;>omega
   ·simp only[h,if_false]<;>omega
theorem ao8(its:List Value)(lo hi:Option Int):slicePick its.toArray lo hi none=((its.drop (HT.sIx its.length 0 lo)).take (HT.sIx its.length its.length hi-HT.sIx its.length 0 lo)).toArray:=by
 obtain⟨h1,h2,h3⟩:=as2 lo hi its.toArray.size;unfold slicePick;rw[h1,h2,h3];simp only[sliceRange_one,pick_run,List.size_toArray]<;>rfl
noncomputable def bG3(K:PySem.W.Frag):V->Option Int->Option Int->Hp->VK->Prop:=fun x lo hi H Q=>∃a xs,x=.ref a/\SqL K H a xs/\∀p,H p=none->Q (.ref p) (upd H p (.lst (M7 xs lo hi)))
theorem a90:SlR X (bG3 X.K):=by
 intro pins s σ H x v vl vu lo hi sl Q I rx hs pl pu h;obtain⟨a,xs,rfl,hx,q⟩:=h;cases rx;obtain⟨its,r,ht,hz⟩:=I.list hx;have hlen:=r.length;refine⟨"list",_,slot_list_getitem.lookup,ht.isList.typeIs,?_⟩;refine wpAny_getItem_list_slice ht.isList hs pl pu .none (by simp) ?_ (by rw[List.size_toArray]<;>omega);rw[ao8,<- hlen];refine⟨.ref s.heap.objs.size,_,I.laid (t':=s.toks) (o:=.lst (M7 xs lo hi)) (fun b ob q=>Heap.get?_push_of_some _ q) (Nat.le_refl _) ?_,rfl,q _ (I.hok.fresh (Nat.le_refl _))⟩;exact⟨Nat.le_trans (ac2 xs lo hi) hz,_,0,(r.drop (HT.sIx xs.length 0 lo)).take (HT.sIx xs.length xs.length hi-HT.sIx xs.length 0 lo),Heap.get?_push_size _ rfl⟩
noncomputable def B9:V->Bool
 |.non=>true
 |.bl _=>true
 |.int _=>true
 |.str _=>true
 |_=>false
noncomputable def eqV:V->V->Bool
 |.non,.non=>true
 |.bl a,.bl b=>a==b
 |.bl a,.int b=>(if a then 1 else 0)==b
 |.int a,.bl b=>a==(if b then 1 else 0)
 |.int a,.int b=>a==b
 |.str a,.str b=>a==b
 |_,_=>false
theorem bs1{A:Around}{s:Shared}{y x:V}{u v:Value}(ry:RelV y u)(rx:RelV x v)(fy:B9 y=true)(fx:B9 x=true):SeqAt.EqAt A s u v (eqV y x):=by
 cases y with
 |non =>
  cases ry;cases x with
  |non=>cases rx;exact SeqAt.EqAt.same _
  |bl b=>cases rx;exact SeqAt.EqAt.none_bool b
  |int b=>obtain⟨t,rfl⟩:=rx;exact SeqAt.EqAt.none_int b t
  |str b=>obtain⟨t,rfl⟩:=rx;exact SeqAt.EqAt.none_str b t
  |_=>exact absurd (show false=true from fx) Bool.false_ne_true
 |bl a =>
  cases ry;cases x with
  |non=>cases rx;exact SeqAt.EqAt.bool_none a
  |bl b=>cases rx;exact SeqAt.EqAt.bool_bool a b
  |int b=>obtain⟨t,rfl⟩:=rx;exact SeqAt.EqAt.bool_int a b t
  |str b=>obtain⟨t,rfl⟩:=rx;exact SeqAt.EqAt.bool_str a b t
  |_=>exact absurd (show false=true from fx) Bool.false_ne_true
 |int a =>
  obtain⟨t',rfl⟩:=ry;cases x with
  |non=>cases rx;exact SeqAt.EqAt.int_none a t'
  |bl b=>cases rx;exact SeqAt.EqAt.int_bool a t' b
  |int b=>obtain⟨t,rfl⟩:=rx;exact SeqAt.EqAt.int_int a t' b t
  |str b=>obtain⟨t,rfl⟩:=rx;exact SeqAt.EqAt.int_str a t' b t
  |_=>exact absurd (show false=true from fx) Bool.false_ne_true
 |str a =>
  obtain⟨t',rfl⟩:=ry;cases x with
  |non=>cases rx;exact SeqAt.EqAt.str_none a t'
  |bl b=>cases rx;exact SeqAt.EqAt.str_bool a t' b
  |int b=>obtain⟨t,rfl⟩:=rx;exact SeqAt.EqAt.str_int a t' b t
  |str b=>obtain⟨t,rfl⟩:=rx;exact SeqAt.EqAt.str_str a t' b t
  |_=>exact absurd (show false=true from fx) Bool.false_ne_true
 |_=>exact absurd (show false=true from fy) Bool.false_ne_true
noncomputable def eqU(x:V)(u:Value):Bool:=match u with
 |.none=>eqV .non x
 |.bool b=>eqV (.bl b) x
 |.int i _=>eqV (.int i) x
 |.str z _=>eqV (.str z) x
 |_=>false
theorem av9{x y:V}{u:Value}(r:RelV y u)(f:B9 y=true):eqU x u=eqV y x:=by
 cases y with
 |non=>cases r;rfl
 |bl b=>cases r;rfl
 |int i=>obtain⟨t,rfl⟩:=r;rfl
 |str z=>obtain⟨t,rfl⟩:=r;rfl
 |_=>exact absurd (show false=true from f) Bool.false_ne_true
theorem ad2{A:Around}{s:Shared}{x:V}{v:Value}(rx:RelV x v)(fx:B9 x=true):∀{xs:List V} {us:List Value},Vals xs us->xs.all B9=true->∀u∈us,SeqAt.EqAt A s u v (eqU x u)
 |_,_,.nil,_=>fun u hu=>by cases hu
 |y::xs,u::us,.cons r t,f=>fun u' hu=>by
  rw[List.all_cons,Bool.and_eq_true] at f;rcases List.mem_cons.mp hu with rfl|hu
  ·rw[av9 r f.1];exact bs1 r rx f.1 fx
  ·exact ad2 rx fx t f.2 u' hu
theorem ax1:j4 X (.builtin "len") (fun xs H Q=>∃p ys,xs=[.ref p]/\(SqL X.K H p ys\/SqT X.K H p ys)/\Q (.int ys.length) H):=by
 intro pins s σ H xs us Q I r h;obtain⟨p,ys,rfl,hq,q⟩:=h;obtain⟨u,rfl,rx⟩:=vals1 r;cases rx;have hn:=M5;rcases hq with hq|hq
 ·obtain⟨its,r',pl,hz⟩:=I.list hq;have hlen:=r'.length;exact Calls.call_len_list pl.isList (by simp only[List.size_toArray]<;>omega) ⟨.int ys.length,H,I.tok _,⟨s.toks+1,by rw[List.size_toArray,hlen]⟩,q⟩
 ·obtain⟨its,r',pl,hz⟩:=I.tuple hq;have hlen:=r'.length;exact len_tuple pl (by simp only[List.size_toArray]<;>omega) ⟨.int ys.length,H,I.tok _,⟨s.toks+1,by rw[List.size_toArray,hlen]⟩,q⟩
theorem ax0:j4 X (.builtin "len") (fun xs H Q=>∃z,xs=[.str z]/\z.length<=sizeLine/\Q (.int z.length) H):=by
 intro pins s σ H xs us Q I r h;obtain⟨z,rfl,hz,q⟩:=h;obtain⟨u,rfl,t,rfl⟩:=vals1 r;have hn:=M5;exact len_str (by omega) ⟨.int z.length,H,I.tok _,⟨_,rfl⟩,q⟩
theorem aw9:j4 X (.type "list") (fun xs H Q=>∃p ys,xs=[.ref p]/\(SqL X.K H p ys\/SqT X.K H p ys)/\∀l,H l=none->Q (.ref l) (upd H l (.lst ys))):=by
 intro pins s σ H xs us Q I r h;obtain⟨p,ys,rfl,hq,q⟩:=h;obtain⟨u,rfl,rx⟩:=vals1 r;cases rx;have fin:∀(its:List Value),Vals ys its->ys.length<=sizeLine->∀(h':Heap) (c':Nat),(∀b o',s.heap.get? b=some o'->h'.get? b=some o') ->
   h'.get? s.heap.objs.size=some { cls:=.type "list",dict:=none,data:=.seq its.toArray c',slots:=#[] }->EP X pins σ Q (.ref s.heap.objs.size) { s with heap:=h' }:=fun its r' hz h' c' kp e =>
  ⟨.ref s.heap.objs.size,_,I.laid (t':=s.toks) kp (Nat.le_refl _) (show g8 X.prog X.w _ h' _ (.lst ys) from⟨hz,its,c',r',e⟩),rfl,q _ (I.hok.fresh (Nat.le_refl _))⟩
 rcases hq with hq|hq
 ·obtain⟨its,r',pl,hz⟩:=I.list hq;have hlen:=r'.length;obtain⟨o,ho,hc,n,hd⟩:=pl.isList;exact call_list_seq p (.inl rfl) ho hc hd (fun h' c' kp e=>fin its r' hz h' c' kp e) (by simp only[List.size_toArray]<;>omega)
 ·obtain⟨its,r',pl,hz⟩:=I.tuple hq;have hlen:=r'.length;obtain⟨o,ho,hc,n,hd⟩:=pl;exact call_list_seq p (.inr rfl) ho hc hd (fun h' c' kp e=>fin its r' hz h' c' kp e) (by simp only[List.size_toArray]<;>omega)
theorem ap1:j4 X (.type "tuple") (fun xs H Q=>∃p ys,xs=[.ref p]/\((SqL X.K H p ys/\∀l,H l=none->Q (.ref l) (upd H l (.tup ys)))\/(SqT X.K H p ys/\Q (.ref p) H))):=by
 intro pins s σ H xs us Q I r h;obtain⟨p,ys,rfl,h⟩:=h;obtain⟨u,rfl,rx⟩:=vals1 r;cases rx;rcases h with⟨hq,q⟩|⟨hq,q⟩
 ·obtain⟨its,r',pl,hz⟩:=I.list hq;have hlen:=r'.length;refine call_tuple_list pl.isList (fun h' kp=>?_) (by simp only[List.size_toArray]<;>omega);have I1:Inv X pins σ H { s with heap:=h' }:=I.kept (t':=s.toks) kp;have I2:Inv X pins σ (upd H h'.objs.size (.tup ys)) { s with heap:=h'.push { cls:=.type "tuple",data:=.seq its.toArray } } :=
   I1.laid (t':=s.toks) (fun b o e=>Heap.get?_push_of_some _ e) (Nat.le_refl _) (show g8 X.prog X.w _ _ _ (.tup ys) from⟨hz,its,r',A3.new _ _⟩)
  exact⟨.ref h'.objs.size,_,I2,rfl,q _ (I1.hok.fresh (Nat.le_refl _))⟩
 ·obtain⟨its,r',pl,hz⟩:=I.tuple hq;exact call_tuple_same pl ⟨.ref p,H,I,rfl,q⟩
noncomputable def tyV(K:PySem.W.Frag)(T:String)(x:V)(H:Hp):Prop:=match x with
 |.str _=>T="str"
 |.int _=>T="int"
 |.ref p=>(T="list"/\∃xs,SqL K H p xs)\/(T="tuple"/\∃o,K.lookup p=some o/\o.cls=.type "tuple"/\o.dict=none) \/
   (T="dict"/\((∃kvs,H p=some (.dK kvs))\/∃kvs,H p=some (.dT kvs)))\/(T="set"/\∃S n,H p=some (.set S n))
 |_=>False
theorem aK5{pins:List (Addr×Obj)}{σ:St}{H:Hp}{s:Shared}{T:String}{x:V}{v:Value}(I:Inv X pins σ H s)(r:RelV x v)(ty:tyV X.K T x H) :
  s.TypeIs v T/\∀a,v=.ref a->∃ob,s.heap.get? a=some ob/\ob.dict=none:=by
 cases x with
 |str z =>
  obtain⟨t,rfl⟩:=r;cases (show T="str" from ty);exact⟨typeIs_str s z t,fun _ e=>nomatch e⟩
 |int i =>
  obtain⟨t,rfl⟩:=r;cases (show T="int" from ty);exact⟨typeIs_int s i t,fun _ e=>nomatch e⟩
 |ref p =>
  cases r;rcases ty with⟨rfl,xs,hq⟩|⟨rfl,o,hk,hc,hd⟩|⟨rfl,hk⟩|⟨rfl,S,n,hk⟩
  ·obtain⟨its,_,pl,_⟩:=I.list hq;refine⟨pl.isList.typeIs,fun a e=>?_⟩;cases e;obtain⟨o,n,e,c,hd,_⟩:=pl;exact⟨o,e,hd⟩
  ·refine⟨⟨o,I.kIn p o hk,hc⟩,fun a e=>?_⟩;cases e;exact⟨o,I.kIn _ o hk,hd⟩
  ·have z:∃o,s.heap.get? p=some o/\o.ExactDict:=by
    rcases hk with⟨kvs,hk⟩|⟨kvs,hk⟩
    ·obtain⟨_,_,_,_,o,_,_,e,ex,_⟩:=I.hok p _ hk;exact⟨o,e,ex⟩
    ·obtain⟨_,_,_,_,o,_,_,e,ex,_⟩:=I.hok p _ hk;exact⟨o,e,ex⟩
   obtain⟨o,e,ex⟩:=z;refine⟨⟨o,e,ex.1⟩,fun a e2=>?_⟩;cases e2;exact⟨o,e,ex.2.1⟩
  ·obtain⟨o,_,_,_,e,ex,_⟩:=I.hok p _ hk;refine⟨⟨o,e,ex.1⟩,fun a e2=>?_⟩;cases e2;exact⟨o,e,ex.2.1⟩
 |_=>exact False.elim ty
noncomputable def bF0(K:PySem.W.Frag)(T:String)(r:V->List V->Hp->VK->Prop)(to:TE):TE:=fun σ H Q=>to σ H fun x H1=>tyV K T x H1/\r x [] H1 Q
noncomputable def tBM(K:PySem.W.Frag)(T:String)(r:V->List V->Hp->VK->Prop)(to:TE)(t:TA):TE:=fun σ H Q=>to σ H fun x H1=>tyV K T x H1/\t σ H1 fun xs H2=>r x xs H2 Q
variable{o e:Expr}{es:List Expr}{to:TE}{t:TA}{name:Str}{apos cpos:Pos}{T id:String}{r:V->List V->Hp->VK->Prop}
theorem bo2(pa:PlainAttrs T)(slot:Slot T name id)(hty:typeOf (.builtin id)=pure (.type "method_descriptor"))(hm:MtR X id r)(ho:PE X o to)(hbase:attributeBase o name X.env (eval o X.env)=eval o X.env:=by rfl)(hline:(apos.endLine==cpos.line)=true:=by rfl):PE X (.Call (.Attribute o name apos) [] [] cpos) (bF0 X.K T r to):=by
 intro pins s σ H Q I h;refine wpAny_Call_method0_late hbase hline (thn (ho pins s σ H _ I h) fun v s1 ⟨x,H1,I1,r1,ty,q1⟩=>?_);obtain⟨h1,h2⟩:=aK5 I1 r1 ty;exact⟨T,id,pa,slot,hty,h1,h2,Calls.callWith_builtin rfl (PySem.evalArgs_none (hm pins s1 σ H1 x [] v [] Q I1 r1 .nil q1))⟩
theorem bx4(pa:PlainAttrs T)(slot:Slot T name id)(hty:typeOf (.builtin id)=pure (.type "method_descriptor"))(hm:MtR X id r)(ho:PE X o to)(ha:PA X (e::es) t)(hbase:attributeBase o name X.env (eval o X.env)=eval o X.env:=by rfl)(hfew:((backTo cpos (starEach (e :: es) X.env)).all (fun x=>!x.1) && (backToKw cpos (keywordEach [] X.env)).all (fun x=>x.1.isSome)
   && decide ((e :: es).length + ([]:List Keyword).length + (if ([]:List Keyword).isEmpty then 0 else 1) < 30))=true:=by rfl)(hline:(apos.endLine==cpos.line)=true:=by rfl)(hs:starEach (e::es) X.env=(false,eval e X.env)::starEach es X.env:=by rfl)(hplain:(backTo cpos (starEach es X.env)).any (·.1)=false:=by rfl) :
  PE X (.Call (.Attribute o name apos) (e::es) [] cpos) (tBM X.K T r to t):=by
 intro pins s σ H Q I h;refine wpAny_Call_method_late hbase hfew hline rfl (thn (ho pins s σ H _ I h) fun v s1 ⟨x,H1,I1,r1,ty,q1⟩=>?_);obtain⟨h1,h2⟩:=aK5 I1 r1 ty;refine⟨T,id,pa,slot,hty,h1,h2,?_⟩;have hA:=ha cpos pins s1 σ H1 _ I1 q1;rw[hs] at hA ⊢;refine Calls.callWith_builtin (by show(false||(backTo cpos (starEach es X.env)).any (·.1))=false;rw[hplain]<;>rfl) (Calls.evalArgs_plain ?_);exact thn hA fun us s2 ⟨vs,H2,I2,r2,q2⟩=>hm pins s2 σ H2 x vs v us Q I2 r1 r2 q2
end
end L2
namespace L2
open PySem PySem.Spec PyProof.Rows
noncomputable def MtM(X:Cx)(id:String)(r:V->List V->Hp->VK->Prop):Prop :=
 ∀(pins:List (Addr×Obj)) (s:Shared) (σ:St) (H:Hp) (x:V) (xs:List V) (v:Value) (us:List Value) (Q:VK),Inv X pins σ H s->RelV x v->Vals xs us->r x xs H Q ->
  wpAny (model X.prog X.w) X.A (call (.builtin id) (v::us)) (EP X pins σ Q) X.xe s
theorem Vals.one:∀{x:V} {us:List Value},Vals [x] us->∃u,us=[u]/\RelV x u
 |_,_,.cons r .nil=>⟨_,rfl,r⟩
theorem Vals.zero:∀{us:List Value},Vals [] us->us=[]
 |_,.nil=>rfl
theorem Vals.dropLast{xs:List V}{us:List Value}(h:Vals xs us):Vals xs.dropLast us.dropLast:=by
 induction h with
 |nil=>exact .nil
 |cons r t ih =>
  cases t with
  |nil=>exact .nil
  |cons q t'=>exact .cons r ih
theorem Vals.eraseIdx:∀{xs:List V} {us:List Value} (i:Nat),Vals xs us->Vals (xs.eraseIdx i) (us.eraseIdx i)
 |_,_,_,.nil=>.nil
 |_,_,0,.cons _ t=>t
 |_,_,i+1,.cons r t=>.cons r (Vals.eraseIdx i t)
theorem Vals.reverse{xs:List V}{us:List Value}(h:Vals xs us):Vals xs.reverse us.reverse:=by
 induction h with
 |nil=>exact .nil
 |cons r t ih=>rw[List.reverse_cons,List.reverse_cons];exact Vals.append ih (.cons r .nil)
theorem Vals.rep{xs:List V}{us:List Value}(h:Vals xs us):∀k:Nat,Vals (List.replicate k xs).flatten (List.replicate k us).flatten
 |0=>.nil
 |k+1=>by
  rw[List.replicate_succ,List.replicate_succ,List.flatten_cons,List.flatten_cons];exact Vals.append h (Vals.rep h k)
theorem aI3{α:Type}(l:List α):l.eraseIdx (l.length-1)=l.dropLast:=by
 induction l with
 |nil=>rfl
 |cons a r ih =>
  cases r with
  |nil=>rfl
  |cons b r =>
   have e:(a::b::r).length-1=((b::r).length-1)+1:=by
    have h1:(a::b::r).length=r.length+2:=rfl;have h2:(b::r).length=r.length+1:=rfl;omega
   rw[e,List.eraseIdx_cons_succ,ih]
   all_goals rfl
theorem foldl_rep(its:List Value):∀(k:Nat) (acc:List Value),
  List.foldl (fun x1 x2=>x1++x2) acc.toArray (List.replicate k its.toArray)=(acc++(List.replicate k its).flatten).toArray
 |0,acc=>by simp
 |k+1,acc=>by
  have e:acc.toArray++its.toArray=(acc++its).toArray:=by simp
  have e2:(acc++its)++(List.replicate k its).flatten=acc++(List.replicate (k+1) its).flatten:=by
   rw[List.replicate_succ,List.flatten_cons,List.append_assoc]
  rw[<- e2,<- foldl_rep its k (acc++its),<- e,List.replicate_succ,List.foldl_cons]
section
variable{X:Cx}{pins:List (Addr×Obj)}{σ:St}{H:Hp}{s:Shared}{l b:Addr}{xs ys zs:List V}
theorem Inv.aZ1{its its':List Value}{n:Nat}{f:Array Value->Array Value}{t':Nat}(I:Inv X pins σ H s)(hH:H l=some (.lst xs))(e:s.heap.get? l=some { cls:=.type "list",data:=.seq its.toArray n })(hf:f its.toArray=its'.toArray)(hv:Vals ys its')(hz:ys.length<=sizeLine) :
  Inv X pins σ (upd H l (.lst ys)) { s with heap:=s.heap.update l (Obj.mapSeq f),toks:=t' }:=by
 have q:=PySem.IsL.update e f;rw[hf] at q;refine I.write (x:=l) (e:=l) (by rw[hH];exact trivial) (.inl rfl) (fun b' u hb hu=>(Heap.get?_update_other s.heap (Obj.mapSeq f) (Ne.symm hb)).trans hu) ⟨_,q⟩ ?_;exact⟨hz,its',_,hv,q⟩
theorem Inv.bq2{its:List Value}{t':Nat}(I:Inv X pins σ H s)(hv:Vals ys its)(hz:ys.length<=sizeLine) :
  Inv X pins σ (upd H s.heap.objs.size (.lst ys)) { s with heap:=s.heap.push { cls:=.type "list",data:=.seq its.toArray },toks:=t' } :=
 I.laid (fun _ _ q=>Heap.get?_push_of_some _ q) (Nat.le_refl _) ⟨hz,its,0,hv,Heap.get?_push_size _ rfl⟩
theorem Inv.fresh(I:Inv X pins σ H s):H s.heap.objs.size=none:=I.hok.fresh (Nat.le_refl _)
theorem Inv.aj9(I:Inv X pins σ H s)(hH:H l=some (.lst xs)):xs.length<=sizeLine/\∃(its:List Value) (n:Nat),Vals xs its/\xs.length=its.length/\s.heap.get? l=some { cls:=.type "list",data:=.seq its.toArray n }:=by
 obtain⟨z,its,n,r,e⟩:=I.hok l _ hH;exact⟨z,its,n,r,r.length,e⟩
theorem aX8{n:Nat}(h:n<=sizeLine):Builtin.List.listTooLong n=false:=by
 unfold Builtin.List.listTooLong;exact decide_eq_false (by omega)
end
section
variable{X:Cx}
noncomputable def ba4:V->List V->Hp->VK->Prop:=fun x vs H Q=>∃l xs y,x=.ref l/\vs=[y]/\H l=some (.lst xs)/\xs.length<sizeLine/\Q .non (upd H l (.lst (xs++[y])))
theorem aP0:MtM X "list.append" ba4:=by
 intro pins s σ H x vs v us Q I rx rv h;obtain⟨l,xs,y,rfl,rfl,hH,hz,q⟩:=h;cases rx;obtain⟨u,rfl,ru⟩:=rv.one;obtain⟨z,its,n,r,hl,e⟩:=I.aj9 hH;refine call_meets F.slot_list_append ⟨_,e,rfl⟩ F.entry_list_append (F.args_list_append_2 _ _) (PySem.list_append l its.toArray n u (by rw[List.size_toArray];omega)) ⟨e,?_⟩;refine⟨.non,_,I.aZ1 (its':=its++[u]) hH e (by simp) (r.append (.cons ru .nil)) ?_,rfl,q⟩;rw[List.length_append,List.length_singleton];omega
noncomputable def bG6:V->List V->Hp->VK->Prop:=fun x vs H Q=>∃l xs y,x=.ref l/\vs=[]/\H l=some (.lst xs)/\xs[xs.length-1]?=some y/\Q y (upd H l (.lst xs.dropLast))
theorem bp8:MtM X "list.pop" bG6:=by
 intro pins s σ H x vs v us Q I rx rv h;obtain⟨l,xs,y,rfl,rfl,hH,hy,q⟩:=h;cases rx;have hus:=rv.zero;subst hus;obtain⟨z,its,n,r,hl,e⟩:=I.aj9 hH;obtain⟨u,hu,ru⟩:=r.get hy;have hy':its.toArray[its.toArray.size-1]?=some u:=by
  show its.toArray[its.length-1]?=some u;rw[<- Array.getElem?_toList,<- hl];exact hu
 refine call_meets F.slot_list_pop ⟨_,e,rfl⟩ F.entry_list_pop (F.args_list_pop_1 _) (MeetsSeq.list_pop_last l its.toArray n u hy' (by rw[List.size_toArray];omega)) ⟨e,?_⟩;refine⟨y,_,I.aZ1 (its':=its.dropLast) hH e ?_ r.dropLast ?_,ru,q⟩
 ·show its.toArray.eraseIdxIfInBounds (its.toArray.size-1)=its.dropLast.toArray;rw[List.size_toArray,List.eraseIdxIfInBounds_toArray,aI3]
 ·rw[List.length_dropLast];omega
noncomputable def bm1:V->List V->Hp->VK->Prop:=fun x vs H Q=>∃l xs,x=.ref l/\vs=[]/\H l=some (.lst xs)/\Q .non (upd H l (.lst []))
theorem aY1:MtM X "list.clear" bm1:=by
 intro pins s σ H x vs v us Q I rx rv h;obtain⟨l,xs,rfl,rfl,hH,q⟩:=h;cases rx;have hus:=rv.zero;subst hus;obtain⟨z,its,n,r,hl,e⟩:=I.aj9 hH;refine call_meets F.slot_list_clear ⟨_,e,rfl⟩ F.entry_list_clear (F.args_list_clear_1 _) (AutoSeq1.list_clear_list_0 l its.toArray n (by rw[List.size_toArray];omega)) ⟨e,?_⟩;exact⟨.non,_,I.aZ1 (its':=[]) (ys:=[]) hH e rfl .nil (Nat.zero_le _),rfl,q⟩
noncomputable def bH0:R2:=fun x y H Q=>∃l b xs zs,x=.ref l/\y=.ref b/\H l=some (.lst xs)/\H b=some (.lst zs)/\xs.length+zs.length<=sizeLine/\∀p,H p=none->Q (.ref p) (upd H p (.lst (xs++zs)))
theorem bp2:OpR X (binaryOp .Add) bH0:=by
 intro pins s σ H x y v u Q I rx ry h;obtain⟨l,b,xs,zs,rfl,rfl,hH,hB,hz,q⟩:=h;cases rx;cases ry;obtain⟨z,its,n,r,hl,e⟩:=I.aj9 hH;obtain⟨z2,its2,n2,r2,hl2,e2⟩:=I.aj9 hB;refine PySem.P.add_list e e2 ?_ (by rw[List.size_toArray,List.size_toArray];omega);have ea:its.toArray++its2.toArray=(its++its2).toArray:=by simp
 rw[ea];exact⟨.ref _,_,I.bq2 (t':=s.toks) (r.append r2) (by rw[List.length_append];omega),rfl,q _ I.fresh⟩
noncomputable def bG5:R2:=fun x y H Q=>∃l k xs,x=.ref l/\y=.int k/\H l=some (.lst xs)/\-(2 ^ 63)<=k/\k<2 ^ 63/\xs.length*k.toNat<=sizeLine /\
 ∀p,H p=none->Q (.ref p) (upd H p (.lst (List.replicate k.toNat xs).flatten))
theorem len_rep{α:Type}(xs:List α)(k:Nat):(List.replicate k xs).flatten.length=k*xs.length:=by
 induction k with
 |zero=>simp
 |succ k ih=>rw[List.replicate_succ,List.flatten_cons,List.length_append,ih,Nat.succ_mul,Nat.add_comm]
theorem bo7:OpR X (binaryOp .Mult) bG5:=by
 intro pins s σ H x y v u Q I rx ry h;obtain⟨l,k,xs,rfl,rfl,hH,h1,h2,hz,q⟩:=h;cases rx;obtain⟨t,rfl⟩:=ry;obtain⟨z,its,n,r,hl,e⟩:=I.aj9 hH;have hlen:its.toArray.size*k.toNat<=sizeLine:=by rw[List.size_toArray,<- hl];exact hz
 have hcap:¬its.toArray.size*k.toNat>(2 ^ 63-1) / 8:=by
  have:(sizeLine:Nat)<=(2 ^ 63-1) / 8:=by decide
  omega
 have hfit:¬(!Builtin.List.listFitsIndex k)=true:=by
  rw[fitsIndex_both h1 h2];exact Bool.false_ne_true
 have hlong:¬Builtin.List.listTooLong (its.toArray.size*k.toNat)=true:=by
  rw[aX8 hlen];exact Bool.false_ne_true
 have hnew:List.foldl (fun x1 x2=>x1++x2) #[] (List.replicate (if its.toArray.isEmpty=true then 0 else k.toNat) its.toArray)=(List.replicate k.toNat its).flatten.toArray:=by
  have f0:∀m:Nat,List.foldl (fun x1 x2=>x1++x2) #[] (List.replicate m its.toArray)=(List.replicate m its).flatten.toArray:=fun m=>by
   have:=foldl_rep its m [];rw[List.nil_append] at this;exact this
  rw[f0];cases its with
  |nil=>simp
  |cons a r'=>rw[if_neg (by simp)]
 refine wpAny_binaryOp_repeat_ref (T:="list") (U:="int") (by decide) ⟨_,e,rfl⟩ (fun s'=>typeIs_int s' k t) noFill_list_mul F.fills_int_mul F.slot_int_rmul repeat_list F.slot_int_index.lookup
  (call_meets F.slot_int_rmul (typeIs_int s k t) F.entry_int_rmul (F.args_int_rmul_2 _ _) (int___rmul___int_list k t l its.toArray n)
   ⟨e,rfl,⟨_,e,rfl⟩,call_meets F.slot_list_mul ⟨_,e,rfl⟩ F.entry_list_mul (F.args_list_mul_2 _ _) (AutoListH.list___mul___list_int_3 l its.toArray n k t hfit hcap hlong) ⟨e,?_⟩⟩)
 rw[hnew];exact⟨.ref _,_,I.bq2 (t':=s.toks) (r.rep k.toNat) (by rw[len_rep,Nat.mul_comm];exact hz),rfl,q _ I.fresh⟩
end
section
variable{prog:Program}{w:World}{A:Around}{E:Value->Shared->Prop}{s:Shared}
end
section
variable{X:Cx}
end
end L2

namespace L2
open PySem PySem.Spec PyProof.Rows
section
variable{κ:Type}[DecidableEq κ]
noncomputable def C6(kvs:List (κ×V))(k:κ):Option V:=(kvs.find? fun kv=>decide (kv.1=k)).map (·.2)
noncomputable def putK(kvs:List (κ×V))(k:κ)(v:V):List (κ×V) :=
 if(kvs.any fun kv=>decide (kv.1=k))=true then kvs.map (fun kv=>if kv.1=k then(kv.1,v) else kv) else kvs++[(k,v)]
theorem ac4{p:κ×V}{r:List (κ×V)}{k:κ}(e:p.1=k):C6 (p::r) k=some p.2:=by simp[C6,List.find?_cons,e]
theorem ac5{p:κ×V}{r:List (κ×V)}{k:κ}(e:¬p.1=k):C6 (p::r) k=C6 r k:=by simp[C6,List.find?_cons,e]
theorem ar3(k:κ):∀kvs:List (κ×V),(kvs.any fun kv=>decide (kv.1=k))=(C6 kvs k).isSome
 |[]=>rfl
 |p::r=>by
  rw[List.any_cons];by_cases e:p.1=k
  ·simp only[ac4 e,decide_eq_true e,Bool.true_or,Option.isSome_some]
  ·rw[ac5 e,decide_eq_false e,Bool.false_or];exact ar3 k r
theorem O9(kvs:List (κ×V))(k:κ)(v:V):(putK kvs k v).length<=kvs.length+1:=by
 unfold putK;split
 ·rw[List.length_map];omega
 ·rw[List.length_append,List.length_cons,List.length_nil];omega
theorem q8.F8{o:Option V}{u:Option Value}(r:q8 o u):o.isSome=u.isSome:=by
 cases o with
 |none=>cases u with
  |none=>rfl
  |some _=>exact(show False from r).elim
 |some _=>cases u with
  |none=>exact(show False from r).elim
  |some _=>rfl
theorem q8.getD{o:Option V}{u:Option Value}{d:V}{d':Value}(r:q8 o u)(rd:RelV d d'):RelV (o.getD d) (u.getD d'):=by
 cases o with
 |none=>cases u with
  |none=>exact rd
  |some _=>exact(show False from r).elim
 |some _=>cases u with
  |none=>exact(show False from r).elim
  |some _=>exact r
theorem KV.val{kvs:List (κ×V)}{vs:List (κ×Value)}(r:KV kvs vs)(k:κ):q8 (C6 kvs k) (valueAt vs k):=by
 unfold KV at r
 induction r with
 |nil=>exact True.intro
 |@cons p q ps qs h t ih =>
  obtain⟨h1,h2⟩:=h;by_cases e:p.1=k
  ·have e':q.1=k:=h1.symm.trans e;have b:valueAt (q::qs) k=some q.2:=by simp[valueAt,List.find?_cons,e']
   rw[ac4 e,b];exact h2
  ·have e':¬q.1=k:=fun z=>e (h1.trans z);have b:valueAt (q::qs) k=valueAt qs k:=by simp[valueAt,List.find?_cons,e']
   rw[ac5 e,b];exact ih
theorem KV.any{kvs:List (κ×V)}{vs:List (κ×Value)}(r:KV kvs vs)(k:κ):(kvs.any fun kv=>decide (kv.1=k))=vs.any fun kv=>decide (kv.1=k):=by
 unfold KV at r
 induction r with
 |nil=>rfl
 |cons h t ih=>rw[List.any_cons,List.any_cons,ih,h.1]
theorem KV.aV8{kvs:List (κ×V)}{vs:List (κ×Value)}(r:KV kvs vs)(k:κ){y:V}{u:Value}(ry:RelV y u) :
  KV (kvs.map fun kv=>if kv.1=k then(kv.1,y) else kv) (vs.map fun kv=>if kv.1=k then(kv.1,u) else kv):=by
 unfold KV at r ⊢
 induction r with
 |nil=>exact .nil
 |@cons p q ps qs h t ih =>
  rw[List.map_cons,List.map_cons];refine .cons ?_ ih;obtain⟨h1,h2⟩:=h;by_cases e:p.1=k
  ·rw[if_pos e,if_pos (h1.symm.trans e)];exact⟨h1,ry⟩
  ·rw[if_neg e,if_neg (fun z=>e (h1.trans z))];exact⟨h1,h2⟩
theorem KV.put{kvs:List (κ×V)}{vs:List (κ×Value)}(r:KV kvs vs)(k:κ){y:V}{u:Value}(ry:RelV y u):KV (putK kvs k y) (stored vs k u):=by
 unfold putK stored;rw[r.any k];by_cases e:(vs.any fun kv=>decide (kv.1=k))=true
 ·rw[if_pos e,if_pos e];exact r.aV8 k ry
 ·rw[if_neg e,if_neg e];exact Paired.snoc r ⟨rfl,ry⟩
theorem KV.length{kvs:List (κ×V)}{vs:List (κ×Value)}(r:KV kvs vs):kvs.length=vs.length:=Paired.length r
end
theorem Z9{P:Program}{w:World}{k:Key}{u:Value}(r:RelV (kV k) u):(j8 P w).is k u=true:=by
 cases k with
 |inl i=>obtain⟨t,e⟩:=(show ∃t,u=Value.int i t from r);subst e;exact ay4 P w i t
 |inr x=>obtain⟨t,e⟩:=(show ∃t,u=Value.str x t from r);subst e;exact ay3 P w x t
theorem an4{P:Program}{w:World}:∀{ks:List Key} {us:List Value},Vals (ks.map kV) us->ItemsAre (j8 P w) ks us
 |[],_,r=>by rw[List.map_nil] at r;cases r;exact .nil
 |k::ks,_,r=>by
  rw[List.map_cons] at r;cases r with
  |cons h t=>exact .cons (Z9 h) (an4 t)
noncomputable abbrev KT(H:Hp):List (List Key×V)->List (List Key×Addr×Value)->Prop:=Paired fun p q=>p.1=q.1/\H q.2.1=some (.tup (p.1.map kV))/\RelV p.2 q.2.2
theorem KT.val{H:Hp}{kvs:List (List Key×V)}{xs:List (List Key×Addr×Value)}(r:KT H kvs xs)(k:List Key):q8 (C6 kvs k) ((atKey xs k).map (·.2)):=by
 induction r with
 |nil=>exact True.intro
 |@cons p q ps qs h t ih =>
  obtain⟨h1,_,h2⟩:=h;by_cases e:p.1=k
  ·have e':q.1=k:=h1.symm.trans e;have b:atKey (q::qs) k=some q.2:=by simp[atKey,List.find?_cons,e']
   rw[ac4 e,b];exact h2
  ·have e':¬q.1=k:=fun z=>e (h1.trans z);have b:atKey (q::qs) k=atKey qs k:=by simp[atKey,List.find?_cons,e']
   rw[ac5 e,b];exact ih
theorem KT.aV8{H:Hp}{kvs:List (List Key×V)}{xs:List (List Key×Addr×Value)}(r:KT H kvs xs)(k:List Key){y:V}{u:Value}(ry:RelV y u) :
  KT H (kvs.map fun kv=>if kv.1=k then(kv.1,y) else kv) (xs.map (putAt k u)):=by
 induction r with
 |nil=>exact .nil
 |@cons p q ps qs h t ih =>
  rw[List.map_cons,List.map_cons];refine .cons ?_ ih;obtain⟨h1,h2,h3⟩:=h;unfold putAt;by_cases e:p.1=k
  ·rw[if_pos e,if_pos (h1.symm.trans e)];exact⟨h1,h2,ry⟩
  ·rw[if_neg e,if_neg (fun z=>e (h1.trans z))];exact⟨h1,h2,h3⟩
theorem KT.put{H:Hp}{kvs:List (List Key×V)}{xs:List (List Key×Addr×Value)}(r:KT H kvs xs)(k:List Key){b:Addr}{y:V}{u:Value}(hb:H b=some (.tup (k.map kV)))(ry:RelV y u) :
  KT H (putK kvs k y) (storedH xs k b u):=by
 have e:(kvs.any fun kv=>decide (kv.1=k))=(atKey xs k).isSome:=by
  rw[ar3,(r.val k).F8,Option.isSome_map]
 unfold putK storedH;rw[e];by_cases q:(atKey xs k).isSome=true
 ·rw[if_pos q,if_pos q];exact r.aV8 k ry
 ·rw[if_neg q,if_neg q];exact Paired.snoc r ⟨rfl,hb,ry⟩
theorem KT.keeps{H H':Hp}{kvs:List (List Key×V)}{xs:List (List Key×Addr×Value)}(r:KT H kvs xs)(ht:∀b ys,H b=some (.tup ys)->H' b=some (.tup ys)):KT H' kvs xs :=
 Paired.aY7 r fun _ _ z=>⟨z.1,ht _ _ z.2.1,z.2.2⟩
section
variable{P:Program}{w:World}{H:Hp}{h:Heap}{a:Addr}
theorem a48{u:HO}(ok:HOk P w H h)(e:Rd H a u):g8 P w H h a u:=e.ok ok
theorem T9{kvs:List (Key×V)}(ok:HOk P w H h)(e:Rd H a (.dK kvs)):kvs.length<=sizeLine/\(a==sysModules)=false/\∃vs,KV kvs vs/\h.DictOf (j8 P w) a vs :=
 show g8 P w H h a (.dK kvs) from a48 ok e
theorem a62{kvs:List (Key×V)}(ok:HOk P w H h)(e:H a=some (.dK kvs)):kvs.length<=sizeLine/\(a==sysModules)=false/\∃vs,KV kvs vs/\h.DictOf (j8 P w) a vs:=T9 ok (.inl e)
theorem X7{ks:List Key}(ok:HOk P w H h)(e:H a=some (.tup (ks.map kV))):(tupleKind (j8 P w)).is h ks a:=by
 obtain⟨_,its,r,o,h1,h2,⟨n,h3⟩,_⟩:=(show g8 P w H h a (.tup (ks.map kV)) from ok a _ e)
 exact⟨o,its.toArray,n,h1,h2,h3,by simpa using an4 r⟩
theorem ah1{kvs:List (List Key×V)}(ok:HOk P w H h)(e:Rd H a (.dT kvs)):kvs.length<=sizeLine/\(a==sysModules)=false /\
  ∃xs,KT H kvs xs/\h.DictOfH (tupleKind (j8 P w)) a xs:=by
 obtain⟨z,y,xs,r,o,es,ep,h1,h2,h3,h4,h5⟩:=(show g8 P w H h a (.dT kvs) from a48 ok e)
 refine⟨z,y,xs,r,o,es,ep,h1,h2,h3,h4,fun x hx=>?_,h5⟩;have all:∀{l:List (List Key×V)} {m:List (List Key×Addr×Value)},KT H l m->∀x∈m,(tupleKind (j8 P w)).is h x.1 x.2.1:=by
  intro l m q
  induction q with
  |nil=>intro x hx;exact nomatch hx
  |@cons p q ps qs hq t ih =>
   intro x hx;rcases List.mem_cons.mp hx with e|hx
   ·subst e;exact X7 ok (by rw[<- hq.1];exact hq.2.1)
   ·exact ih x hx
 exact all r x hx
theorem bA8{kvs:List (List Key×V)}(ok:HOk P w H h)(e:H a=some (.dT kvs)):kvs.length<=sizeLine/\(a==sysModules)=false /\
  ∃xs,KT H kvs xs/\h.DictOfH (tupleKind (j8 P w)) a xs:=ah1 ok (.inl e)
end
noncomputable def P1(H:Hp)(a:Addr)(y:V)(r:Option V):Prop :=
 (∃kvs k,Rd H a (.dK kvs)/\y=kV k/\r=C6 kvs k)\/∃kvs k b,Rd H a (.dT kvs)/\y=.ref b/\H b=some (.tup (k.map kV))/\r=C6 kvs k
noncomputable def aK0(H:Hp)(a:Addr)(y v:V)(H':Hp):Prop :=
 (∃kvs k,H a=some (.dK kvs)/\y=kV k/\kvs.length<sizeLine/\H'=upd H a (.dK (putK kvs k v))) \/
 ∃kvs k b,H a=some (.dT kvs)/\y=.ref b/\H b=some (.tup (k.map kV))/\kvs.length<sizeLine/\H'=upd H a (.dT (putK kvs k v))
theorem P1.k{H:Hp}{a:Addr}{kvs:List (Key×V)}{k:Key}(e:H a=some (.dK kvs)):P1 H a (kV k) (C6 kvs k):=.inl ⟨kvs,k,.inl e,rfl,rfl⟩
theorem aK0.k{H:Hp}{a:Addr}{kvs:List (Key×V)}{k:Key}{v:V}(e:H a=some (.dK kvs))(hl:kvs.length<sizeLine):aK0 H a (kV k) v (upd H a (.dK (putK kvs k v))):=.inl ⟨kvs,k,e,rfl,hl,rfl⟩
section
variable{X:Cx}{pins:List (Addr×Obj)}{σ:St}{H:Hp}{s:Shared}{a:Addr}{y v:V}{u r:Value}{o:Option V}{A:Around}{E:Value->Shared->Prop}
theorem Inv.big(I:Inv X pins σ H s):sysModules<s.heap.objs.size:=by
 have h:mainGlobals<s.heap.objs.size:=(I.mod.glob.keeps I.bk).lt;exact Nat.lt_trans (by decide) h
theorem aR9{Q:Value->Shared->Prop}(hu:A.units+1<cLine)(I:Inv X pins σ H s)(g:P1 H a y (some v))(ry:RelV y u)(h:∀w' s',Inv X pins σ H s'->RelV v w'->Q w' s') :
  wpAny (model X.prog X.w) A (getItem (.ref a) u) Q E s:=by
 rcases g with⟨kvs,k,e,ey,l⟩|⟨kvs,k,b,e,ey,eb,l⟩
 ·subst ey;obtain⟨z,hd,vs,rel,dd⟩:=T9 I.hok e;obtain⟨w',hw,rw'⟩:=q8.some_of (v:=v) (o:=valueAt vs k) (by rw[l];exact rel.val k);exact wpAny_getItem_of (Z9 ry) dd.mapOf hw (h w' _ (I.tok _) rw')
 ·subst ey;cases (show u=Value.ref b from ry);obtain⟨z,hd,xs,rel,dd⟩:=ah1 I.hok e;obtain⟨w',hw,rw'⟩:=q8.some_of (v:=v) (o:=(atKey xs k).map (·.2)) (by rw[l];exact rel.val k);obtain⟨p,hp,hp2⟩:=Option.map_eq_some_iff.mp hw;refine wpAny_getItem_heap (tupleKind_room_in1 hu) (X7 I.hok eb) dd hp ?_;rw[hp2];exact h w' _ (I.tok _) rw'
theorem bJ6{Q:Value->Shared->Prop}(hu:A.units+1<cLine)(I:Inv X pins σ H s)(g:P1 H a y o)(ry:RelV y u)(h:∀s',Inv X pins σ H s'->Q (.bool o.isSome) s') :
  wpAny (model X.prog X.w) A (compareOp .In u (.ref a)) Q E s:=by
 rcases g with⟨kvs,k,e,ey,l⟩|⟨kvs,k,b,e,ey,eb,l⟩
 ·subst ey;obtain⟨z,hd,vs,rel,dd⟩:=T9 I.hok e;refine wpAny_in_of (Z9 ry) hd dd.mapOf ?_;rw[<- (rel.val k).F8,<- l];exact h _ (I.tok _)
 ·subst ey;cases (show u=Value.ref b from ry);obtain⟨z,hd,xs,rel,dd⟩:=ah1 I.hok e;refine wpAny_in_heap (tupleKind_room_in1 hu) (X7 I.hok eb) hd dd ?_;have q:=(rel.val k).F8;rw[Option.isSome_map] at q;rw[<- q,<- l];exact h _ (I.tok _)
theorem bf3{Q:Value->Shared->Prop}(hu:A.units+1<cLine)(I:Inv X pins σ H s)(g:P1 H a y o)(ry:RelV y u)(h:∀s',Inv X pins σ H s'->Q (.bool (!o.isSome)) s') :
  wpAny (model X.prog X.w) A (compareOp .NotIn u (.ref a)) Q E s:=by
 rcases g with⟨kvs,k,e,ey,l⟩|⟨kvs,k,b,e,ey,eb,l⟩
 ·subst ey;obtain⟨z,hd,vs,rel,dd⟩:=T9 I.hok e;refine wpAny_notIn_of (Z9 ry) hd dd.mapOf ?_;rw[<- (rel.val k).F8,<- l];exact h _ (I.tok _)
 ·subst ey;cases (show u=Value.ref b from ry);obtain⟨z,hd,xs,rel,dd⟩:=ah1 I.hok e;refine wpAny_notIn_heap (tupleKind_room_in1 hu) (X7 I.hok eb) hd dd ?_;have q:=(rel.val k).F8;rw[Option.isSome_map] at q;rw[<- q,<- l];exact h _ (I.tok _)
theorem ak7{h':Heap}{t':Nat}{ob:HO}(I:Inv X pins σ H s)(mu:Mut (H a))(hs:Heap.SameBut a s.heap h')(he:∃q,h'.get? a=some q)(new:g8 X.prog X.w (upd H a ob) h' a ob) :
  Inv X pins σ (upd H a ob) { s with heap:=h',toks:=t' } :=
 I.write (x:=a) (e:=a) mu (.inl rfl) (fun b q hb z=>(hs.2 b hb).trans z) he new
theorem aw1{P:Program}{w:World}{H':Hp}{h':Heap}{kvs:List (Key×V)}{vs:List (Key×Value)}(z:kvs.length<=sizeLine)(hd:(a==sysModules)=false)(rel:KV kvs vs)(dd:h'.DictOf (j8 P w) a vs) :
  g8 P w H' h' a (.dK kvs):=⟨z,hd,vs,rel,dd⟩
theorem aR8{H':Hp}{Q:Unit->Shared->Prop}(hu:A.units+1<cLine)(I:Inv X pins σ H s)(g:aK0 H a y v H')(ry:RelV y u)(rv:RelV v r)(h:∀s',Inv X pins σ H' s'->Q () s') :
  wpAny (model X.prog X.w) A (setItem (.ref a) u r) Q E s:=by
 rcases g with⟨kvs,k,e,ey,l,eH⟩|⟨kvs,k,b,e,ey,eb,l,eH⟩
 ·subst ey eH;obtain⟨z,hd,vs,rel,dd⟩:=a62 I.hok e;have hz:vs.length<=sizeLine:=by rw[<- rel.length];exact z
  have hl:(putK kvs k v).length<=sizeLine:=by have:=O9 kvs k v;omega
  refine wpAny_setItem_pairs (hsz:=hz) (Z9 ry) dd fun h' dd' hs=>h _ ?_;have he:∃q,h'.get? a=some q:=let ⟨q,_,_,hq,_⟩:=dd';⟨q,hq⟩
  exact ak7 I (by rw[e];exact True.intro) hs he (aw1 hl hd (rel.put k rv) dd')
 ·subst ey eH;cases (show u=Value.ref b from ry);obtain⟨z,hd,xs,rel,dd⟩:=bA8 I.hok e;have hz:xs.length<=sizeLine:=by rw[<- Paired.length rel];exact z
  have hl:(putK kvs k v).length<=sizeLine:=by have:=O9 kvs k v;omega
  refine wpAny_setItem_heap (hsz:=hz) (tupleKind_room_in1 hu) (X7 I.hok eb) dd fun h' dd' hs=>h _ ?_;obtain⟨q,es,ep,hq,h2,h3,h4,_,h5⟩:=dd';refine ak7 I (by rw[e];exact True.intro) hs ⟨q,hq⟩ ⟨hl,hd,_,(rel.put k eb rv).keeps fun c ys ec=>?_,q,es,ep,hq,h2,h3,h4,h5⟩;rw[e8 (by3 ec e (fun z=>nomatch z))];exact ec
end
section
variable{X:Cx}{pins:List (Addr×Obj)}{σ:St}{H:Hp}{s:Shared}{a:Addr}{kvs:List (Key×V)}{k:Key}{u:Value}{A:Around}{E:Value->Shared->Prop}
theorem bB2{Q:Value->Shared->Prop}(I:Inv X pins σ H s)(e:Rd H a (.dK kvs))(h:∀t s',Inv X pins σ H s'->Q (.int kvs.length t) s'):wpAny (model X.prog X.w) A (call (.builtin "len") [.ref a]) Q E s:=by
 obtain⟨z,hd,vs,rel,dd⟩:=T9 I.hok e;refine call_len_dict hd dd (by rw[<- rel.length];rw[sizeLine_eq] at z;omega) ?_;rw[<- rel.length];exact h _ _ (I.tok _)
end
theorem az1{X:Cx}{pins:List (Addr×Obj)}{σ:St}{H:Hp}{s:Shared}{a:Addr}{y:V}{o:Option V}(I:Inv X pins σ H s)(g:P1 H a y o):s.TypeIs (.ref a) "dict":=by
 rcases g with⟨kvs,k,e,_,_⟩|⟨kvs,k,b,e,_,_,_⟩
 ·obtain⟨_,_,vs,_,dd⟩:=T9 I.hok e;exact dd.typeIs
 ·obtain⟨_,_,xs,_,dd⟩:=ah1 I.hok e;exact dd.typeIs
section
variable{X:Cx}{o i e value:Expr}{pos pos' tpos:Pos}{td ty tv:TE}
end
theorem aw2{P:Program}{w:World}{H:Hp}(h:Heap)(hb:sysModules<h.objs.size):g8 P w H (h.push { cls:=.type "dict",data:=.dict #[] }) h.objs.size (.dK []) :=
 ⟨Nat.zero_le _,beq_eq_false_iff_ne.mpr (Ne.symm (Nat.ne_of_lt hb)),[],.nil,Heap.DictOf.new h⟩
noncomputable def bi6:TE:=fun _ H Q=>∀p,H p=none->Q (.ref p) (upd H p (.dK []))
section
variable{X:Cx}{pos:Pos}
theorem aX3:PE X (.Dict [] [] pos) bi6:=fun pins s σ H Q I h =>
 wpAny_Dict_empty ⟨.ref s.heap.objs.size,_,I.laid (a:=s.heap.objs.size) (o:=.dK []) (t':=s.toks) (fun _ _ q=>Heap.get?_push_of_some _ q) (Nat.le_refl _) (aw2 s.heap I.big),rfl,h _ (I.hok.fresh (Nat.le_refl _))⟩
end
noncomputable def ae9:List (TE×TE)->St->Hp->(List (V×V)->Hp->Prop)->Prop
 |[],_,H,Q=>Q [] H
 |(tk,tv)::r,σ,H,Q=>tk σ H fun x H1=>tv σ H1 fun y H2=>ae9 r σ H2 fun ps H3=>Q ((x,y)::ps) H3
noncomputable abbrev VV:List (V×V)->List (Value×Value)->Prop:=Paired fun p q=>RelV p.1 q.1/\RelV p.2 q.2
noncomputable def PPs(X:Cx)(pos:Pos)(keys:List (Option Expr))(values:List Expr)(trs:List (TE×TE)):Prop :=
 ∀(pins:List (Addr×Obj)) (s:Shared) (σ:St) (H:Hp) (Q:List (V×V)->Hp->Prop),Inv X pins σ H s->ae9 trs σ H Q ->
  wpAny (model X.prog X.w) X.A (evalPairs (pairTrees keys values X.env pos)) (fun vs s'=>∃ps H',Inv X pins σ H' s'/\VV ps vs/\Q ps H') X.xe s
theorem bb3{X:Cx}{pos:Pos}:PPs X pos [] [] []:=fun pins s σ H Q I h=>pairTrees_nil_walk ⟨[],H,I,.nil,h⟩
theorem aW5{X:Cx}{pos:Pos}{k v:Expr}{ks:List (Option Expr)}{vs:List Expr}{tk tv:TE}{trs:List (TE×TE)}(hk:PE X k tk)(hv:PE X v tv)(hr:PPs X pos ks vs trs) :
  PPs X pos (some k::ks) (v::vs) ((tk,tv)::trs):=fun pins s σ H Q I h =>
 pairTrees_cons_walk (thn (hk pins s σ H _ I h) fun u s1 ⟨x,H1,I1,rx,q1⟩=>thn (hv pins s1 σ H1 _ I1 q1) fun w2 s2 ⟨y,H2,I2,ry,q2⟩ =>
  thn (hr pins s2 σ H2 _ I2 q2) fun ws s3 ⟨ps,H3,I3,rel,q3⟩=>⟨(x,y) :: ps,H3,I3,.cons ⟨rx,ry⟩ rel,q3⟩)
noncomputable def L6(kvs more:List (Key×V)):List (Key×V):=more.foldl (fun acc kv=>putK acc kv.1 kv.2) kvs
theorem KV.merge:∀{more:List (Key×V)} {rs:List (Key×Value)} {kvs:List (Key×V)} {vs:List (Key×Value)},KV more rs->KV kvs vs->KV (L6 kvs more) (merged vs rs):=by
 intro more rs kvs vs r;unfold KV at r
 induction r generalizing kvs vs with
 |nil=>intro q;exact q
 |@cons p q ps qs h t ih =>
  intro r0;have e:KV (putK kvs p.1 p.2) (stored vs q.1 q.2):=by
   have:=r0.put p.1 h.2;rw[<- h.1];exact this
  exact ih e
theorem U8:∀(more kvs:List (Key×V)),(L6 kvs more).length<=kvs.length+more.length
 |[],kvs=>by show kvs.length<=kvs.length+0;omega
 |p::r,kvs=>by
  have h1:=U8 r (putK kvs p.1 p.2);have h2:=O9 kvs p.1 p.2;show(L6 (putK kvs p.1 p.2) r).length<=_;rw[List.length_cons];omega
theorem ah9{P:Program}{w:World}:∀{kvs:List (Key×V)} {ws:List (Value×Value)},VV (kvs.map fun kv=>(kV kv.1,kv.2)) ws->∃rs,Carries (j8 P w) ws rs/\KV kvs rs
 |[],_,r=>by rw[List.map_nil] at r;cases r;exact⟨[],True.intro,.nil⟩
 |p::kvs,_,r=>by
  rw[List.map_cons] at r;cases r with
  |@cons a b as bs h t =>
   obtain⟨rs,c,q⟩:=ah9 (P:=P) (w:=w) t;obtain⟨b1,b2⟩:=b;exact⟨(p.1,b2)::rs,⟨Z9 h.1,rfl,c⟩,.cons ⟨rfl,h.2⟩ q⟩
noncomputable def bv2(trs:List (TE×TE)):TE:=fun σ H Q=>∀p,H p=none->ae9 trs σ (upd H p (.dK [])) fun ps H2=>H2 p=some (.dK [])/\∃kvs:List (Key×V),ps=kvs.map (fun kv=>(kV kv.1,kv.2))/\kvs.length<=15/\Q (.ref p) (upd H2 p (.dK (L6 [] kvs)))
theorem bb8{X:Cx}{pos:Pos}{keys:List (Option Expr)}{values:List Expr}{trs:List (TE×TE)}(h:PPs X pos keys values trs)(hall:keys.all (·.isSome)=true)(hl:keys.length=values.length)(h0:keys≠[])(h15:keys.length<=15):PE X (.Dict keys values pos) (bv2 trs):=by
 intro pins s σ H Q I q;have hn:=I.hok.fresh (Nat.le_refl s.heap.objs.size);have I1:=I.laid (a:=s.heap.objs.size) (o:=.dK []) (h':=s.heap.push { cls:=.type "dict",data:=.dict #[] }) (t':=s.toks) (fun _ _ q=>Heap.get?_push_of_some _ q) (Nat.le_refl _) (aw2 s.heap I.big);refine wpAny_Dict_walk (knd:=j8 X.prog X.w) hall hl h0 h15 (thn (h pins _ σ _ _ I1 (q _ hn)) fun ws s2 ⟨ps,H2,I2,rel,e,kvs,ep,lk,q2⟩=>?_);subst ep;obtain⟨rs,c,rk⟩:=ah9 (P:=X.prog) (w:=X.w) rel;obtain⟨z,hd,vs0,r0,dd⟩:=a62 I2.hok e;cases r0;refine⟨rs,c,dd,fun h' dd' hs=>⟨.ref s.heap.objs.size,_,?_,rfl,q2⟩⟩;have hz:(L6 [] kvs).length<=sizeLine:=by
  have h1:=U8 kvs [];rw[List.length_nil] at h1;rw[sizeLine_eq];omega
 have he:∃q,h'.get? s.heap.objs.size=some q:=let ⟨q,_,_,hq,_⟩:=dd';⟨q,hq⟩
 exact ak7 I2 (by rw[e];exact True.intro) hs he (aw1 hz hd (rk.merge .nil) dd')
section
variable{X:Cx}{pins:List (Addr×Obj)}{σ:St}{H:Hp}{s:Shared}{a:Addr}{y d:V}{u r:Value}{o:Option V}{A:Around}{E:Value->Shared->Prop}
end
section
variable{X:Cx}{o e f:Expr}{apos cpos:Pos}{td ty tx:TE}
end
section
variable{X:Cx}{pins:List (Addr×Obj)}{σ:St}{H:Hp}{s:Shared}{a:Addr}{kvs:List (Key×V)}{A:Around}{E:Value->Shared->Prop}
theorem a08{Q:Value->Shared->Prop}(I:Inv X pins σ H s)(e:Rd H a (.dK kvs))(h:∀p s',H p=none->Inv X pins σ (upd H p (.dK kvs)) s'->Q (.ref p) s'):wpAny (model X.prog X.w) A (call (.type "dict") [.ref a]) Q E s:=by
 obtain⟨z,hd,vs,rel,dd⟩:=T9 I.hok e;refine kt_call_dict hd dd (by rw[<- rel.length];exact z) fun h' dd' hs=>?_;refine h _ _ (I.hok.fresh (Nat.le_refl _)) (I.laid (a:=s.heap.objs.size) (o:=.dK kvs) (t':=s.toks) (fun b q hq=>?_) (Nat.le_refl _) (aw1 z (beq_eq_false_iff_ne.mpr (Ne.symm (Nat.ne_of_lt I.big))) rel dd'));exact(hs.2 b (Nat.ne_of_lt (Heap.lt_size hq))).trans (Heap.get?_push_of_some _ hq)
end
section
variable{X:Cx}{pins:List (Addr×Obj)}{σ:St}{H:Hp}{s:Shared}{a:Addr}{y:V}{u:Value}{A:Around}{E:Value->Shared->Prop}
end
end L2

namespace Att
open PySem PySem.W PySem.Calls PyProof.Rows
theorem ag7{P:Params}{h:Heap}:∀(ns:List Int) (vs:List Value),WellAll P h vs (ns.map WData.int)->IntsAre vs ns:=by
 intro ns
 induction ns with
 |nil =>
  intro vs w;rw[List.map_nil] at w;cases w;exact .nil
 |cons n ns ih =>
  intro vs w;rw[List.map_cons] at w;cases w with
  |cons a b =>
   cases a;exact .cons _ _ (ih _ b)
theorem aM1{l:OpenLaw}{n:Nat}(hn:l.most=some n){P:Params}{h:Heap}{args:List WData}{vals:List Value}(hpre:l.row.toRowW.claim.pre args=true)(hwl:WellAll P h vals args) :
  ∃a vs ns,vals=[Value.ref a]/\args=[WData.list (ns.map WData.int)]/\h.get? a=some { cls:=.type "list",data:=.seq vs.toArray }/\IntsAre vs ns/\ns.length<=n:=by
 have hsh:WShape.hasAll [] args [.list .int]=true:=(pre_splitW hpre).1;have hc:l.pre.holds [] { args:=args }=true:=(pre_splitW hpre).2;obtain⟨d,r,rfl,h1,h2⟩:=hasAllW_cons hsh;obtain rfl:=hasAllW_nil h2;obtain⟨xs,rfl,h3⟩:=hasW_list h1;obtain⟨ns,rfl⟩:=items_int h3;have hlen:ns.length<=n:=by
  unfold OpenLaw.pre at hc;have h4:(WTm.not (.lt (.lit (.int (n:Int))) (.len (.arg 0)))).holds [] { args:=[.list (ns.map .int)] }=true:=by
   have h4:=(holds_andW hc).1;rw[hn] at h4;exact h4
  have h5:=condW_of h4 (w_not (w_lt w_lit (w_len_list (w_arg rfl))));rw[List.length_map] at h5;refine Nat.le_of_not_lt fun q=>?_;have q':(n:Int)<((ns.length:Nat):Int):=by omega
  first
   |(rw[decide_eq_true q'] at h5;exact absurd h5 (by decide))
   |(simp at h5;omega)
 cases hwl with
 |cons w1 w2 =>
  cases w2;cases w1 with
  |list ho hall=>exact⟨_,_,ns,rfl,rfl,ho,ag7 ns _ hall,hlen⟩
theorem aN1(l:OpenLaw)(args:List WData):l.row.toRowW.claim.post args (.bool true) args=true :=
 postW_of (r:=l.row.toRowW) (X:=(true==true))
  (show WShape.has [] (.bool true) .bool=true by first|rfl|decide|simp[WShape.has,WShape.arms,WShape.armsAll])
  (show(WTm.eq .res (.lit (.bool true))).value [] { args:=args,res:=some (.bool true),after:=args }=some (.bool (true==true)) from w_eq_bool (w_res rfl) w_lit) rfl
theorem az4{l:OpenLaw}{n:Nat}{q:Program}{loose:List Str}{XP:(Str->Option Value)->Heap->Prop}{YP:World->Heap->Prop}{d:DefRec}(hn:l.most=some n)(hdf:d.params.defaults=[])(call:∀ (w:World) (s₀ s₁:Shared) (mg mb:Str->Option Value) (fa:Addr) (o:Obj) (pm cd doc:Value) (a:Addr) (vs:List Value) (ns:List Int),
   Ground q loose [] XP w s₀ mg mb s₁.heap->YP w s₁.heap ->
   s₁.heap.get? fa=some o->o.data=.func (docDef d.name d.params d.body d.scope pm cd doc)->s₁.heap.CodeRec cd d.name->mg d.name=some (.ref fa) ->
   s₁.heap.get? a=some { cls:=.type "list",data:=.seq vs.toArray }->IntsAre vs ns->ns.length<=n->s₁.gens=#[] ->
   codeAny (model l.prog w) callerA (.call (.ref fa) ⟨[.ref a],[]⟩) (fun r s'=>r=.ok (.ret (.bool true))/\OldK s₁.heap s'.heap/\s'.os=s₁.os/\AllBare s'.gens) s₁) :
  WalkO q loose XP YP l.row.toRowW d [] (fun f vs=>PySem.call f vs):=by
 intro w s₀ s₁ mg mb G Y fa o pm cd doc dV kV ho hd hcd hD hmg hg args vals as hpre hlay hrd hwl hlo;obtain rfl:dV=.none:=Dflts.none hD hdf;obtain rfl:kV=.none:=Dflts.noKw hD;obtain⟨a,vs,ns,rfl,rfl,hobj,hints,hlen⟩:=aM1 hn hpre hwl;refine enter_call (codeAny_mono (call w s₀ s₁ mg mb fa o pm cd doc a vs ns G Y ho (fd_plain hd) hcd hmg hobj hints hlen hg) fun r s' hq=>?_);obtain⟨rfl,h2,h3,h4⟩:=hq;exact⟨.inl ⟨.bool true,.bool true,[],rfl,fun _=>rfl,.bool true,aN1 l _,fun _=>⟨List.Pairwise.nil,fun _ hm=>(nomatch hm)⟩⟩,h2,h3,h4⟩
section
variable{prog:Program}{w:World}{A:Around}{E:Value->Shared->Prop}{s:Shared}{K:Frag}
end
end Att
namespace L2
open PySem PySem.Spec PyProof.Rows
theorem am0:∀{vs:List Value} {ns:List Int},IntsAre vs ns->Vals (ns.map V.int) vs
 |_,_,.nil=>.nil
 |_,_,.cons n t h=>.cons ⟨t,rfl⟩ (am0 h)
noncomputable def aJ8(H:Hp):Prop:=∀b,H b=none\/∃o xs,H b=some (.frz o (.lst xs))
theorem aZ6{P:Program}{w:World}{K:PySem.W.Frag}{mg mb:Str->Option Value}{CX:CXT}{k:Nat}{fa a:Addr}{fd:FuncData}{x:Str}{sp:Sp}{s₁:Shared}{vs:List Value}{ns:List Int}(KX:K.In s₁.heap)(hns:s₁.heap.Ns mainGlobals mg)(hb:s₁.heap.Ns builtinsNs mb)(hbb:∀x:Str,x≠"__name__"->mb x=bootBuiltins x)(hlim:s₁.heap.NoLimit)(hg:s₁.gens=#[])(ha:s₁.heap.get? a=some { cls:=.type "list",data:=.seq vs.toArray })(hi:IntsAre vs ns)(hl:ns.length<=sizeLine)(hr:j7 k callerA)(F:∀base:Heap,K.In base->base.Ns mainGlobals mg->FnOk P w K mg base CX k fa fd [x] sp)(hbind:∀(s:Shared) (u:Value),BindsTo s fd ⟨[u],[]⟩ [(x,u)])(hsp:∀H:Hp,aJ8 H->SqL K H a (ns.map V.int)->sp [.ref a] H (fun v _=>v=.bl true) fun _ _ _=>False)(hCX:∀H e s',CX [] H s₁ (fun _ _ _=>False) e s'->False) :
  codeAny (model P w) callerA (.call (.ref fa) ⟨[.ref a],[]⟩) (fun r s'=>r=.ok (.ret (.bool true))/\OldK s₁.heap s'.heap/\s'.os=s₁.os/\AllBare s'.gens) s₁:=by
 have rv:=am0 hi;have lenV:=hi.length;have core:∀H:Hp,aJ8 H->SqL K H a (ns.map V.int)->HOk P w H s₁.heap->(∀b,H b≠none->b=a)->(H a≠none->K.lookup a=none) ->
   codeAny (model P w) callerA (.call (.ref fa) ⟨[.ref a],[]⟩) (fun r s'=>r=.ok (.ret (.bool true))/\OldK s₁.heap s'.heap/\s'.os=s₁.os/\AllBare s'.gens) s₁:=by
  intro H hO hS hok hA hK;have A9:∀{b:Addr} {o:Obj},s₁.heap.get? b=some o->H b=none->(T5 s₁.heap H).get? b=some o:=fun e n=>a01 e n;have noA:∀{b:Addr} {o:Obj} {es:Array DictEntry} {ep:Nat},s₁.heap.get? b=some o->o.data=.dict es ep->H b=none:=fun{b o es ep} e d=>by
   cases q:H b with
   |none=>rfl
   |some u =>
    have e':b=a:=hA b (by rw[q];simp);subst e';rw[ha] at e;cases e;have d':Data.seq vs.toArray _=Data.dict es ep:=d;cases d'
  have nsK:∀{b:Addr} {m:Str->Option Value},s₁.heap.Ns b m->(T5 s₁.heap H).Ns b m:=fun{b m} ⟨o,es,ep,e,d,r⟩=>⟨o,es,ep,A9 e (noA e d),d,r⟩
  have hKb:K.In (T5 s₁.heap H):=fun b o e=>A9 (KX b o e) (by
   cases q:H b with
   |none=>rfl
   |some u =>
    have e':b=a:=hA b (by rw[q];simp);subst e';rw [hK (by rw [q];simp)] at e;cases e)
  have hM:Mod K mg (T5 s₁.heap H):=⟨hKb,nsK hns,⟨mb,nsK hb,hbb⟩,let ⟨mc,h1,h2⟩:=hlim;⟨mc,nsK h1,h2⟩⟩
  have e0:ae3 P w K mg (T5 s₁.heap H) callerA [] s₁ H:=⟨rfl,hM,fun b o e=>bd0 e,Nat.le_of_eq (aQ8 _ _),trivial,fun b hb=>absurd (show b∈([]:List Addr) from hb) (by simp),hok,.of_eq hg⟩
  refine codeAny_mono ((F _ hKb (nsK hns)).run callerA [] s₁ H ⟨[.ref a],[]⟩ [.ref a] [.ref a] _ _ hr e0 (hbind s₁ (.ref a)) (.cons rfl .nil) (hsp H hO hS)) fun r s' h=>?_;cases r with
  |error e=>exact(hCX H e s' h).elim
  |ok fl =>
   cases fl with
   |next=>exact False.elim h
   |brk=>exact False.elim h
   |cont=>exact False.elim h
   |ret u =>
    obtain⟨v,H',os,bare,un,hok',r',q⟩:=h;have q':v=.bl true:=q;subst q';obtain rfl:u=Value.bool true:=r';refine⟨rfl,OldK.of_keep fun b o e=>?_,os,bare⟩;cases q:H b with
    |none=>exact un.keep b o e q (by intro z;exact absurd (show b∈([]:List Addr) from z) (by simp)) (by simp)
    |some u =>
     rcases hO b with z|⟨ob,xs,z⟩
     ·rw[q] at z;cases z
     ·have z2:=un.frzs b ob _ z;obtain⟨e1,_⟩:=hok b _ z;obtain⟨e2,_⟩:=hok' b _ z2;rw[e] at e1;cases e1;exact e2
 cases hk:K.lookup a with
 |some o =>
  have e:=KX a o hk;rw[ha] at e;cases e;refine core (fun _=>none) (fun _=>.inl rfl) (.inr ⟨_,vs.toArray,_,hk,rfl,rfl,rfl,by rw[List.size_toArray,lenV];exact hl,by simpa using rv⟩) (fun b u z=>by have z':(none:Option HO)=some u:=z;cases z') (fun b z=>absurd rfl z) fun z=>absurd rfl z
 |none =>
  refine core (fun b=>if b=a then some (.frz { cls:=.type "list",data:=.seq vs.toArray } (.lst (ns.map V.int))) else none) (fun b=>?_) (.inl (.inr ⟨{ cls:=.type "list",data:=.seq vs.toArray },if_pos rfl⟩)) (fun b u z=>?_) (fun b z=>?_) fun _=>hk
  ·by_cases hb:b=a
   ·exact .inr ⟨_,_,if_pos hb⟩
   ·exact .inl (if_neg hb)
  ·by_cases hb:b=a
   ·have z':=(if_pos hb).symm.trans z;cases z';subst hb;exact⟨ha,by rw[List.length_map];exact hl,vs,_,rv,ha⟩
   ·have z':=(if_neg hb).symm.trans z;cases z'
  ·by_cases hb:b=a
   ·exact hb
   ·exact absurd (if_neg hb) z
end L2
namespace L2
open PySem PySem.Spec PyProof.Rows
theorem a75{l:PySem.W.OpenLaw}{n k:Nat}{q:Program}{loose:List Str}{XP:(Str->Option Value)->Heap->Prop}{YP:World->Heap->Prop}{d:DefRec}{K:Params->PySem.W.Frag}{CX:World->CXT}{sp:World->Sp}{x:Str}(hn:l.most=some n)(hn2:n<=sizeLine)(hdf:d.params.defaults=[])(hr:j7 k callerA)(hY:∀(w:World) (h:Heap),YP w h->(K w.params).In h)(F:∀ (w:World) (mg:Str->Option Value) (fa:Addr) (h:Heap),(K w.params).In h->h.Ns mainGlobals mg->mg d.name=some (.ref fa) ->
   ∃fd:FuncData,(∀(s:Shared) (u:Value),BindsTo s fd ⟨[u],[]⟩ [(x,u)]) /\
    ∀ base:Heap,(K w.params).In base->base.Ns mainGlobals mg->FnOk l.prog w (K w.params) mg base (CX w) k fa fd [x] (sp w))(hsp:∀(w:World) (H:Hp) (a:Addr) (ns:List Int),ns.length<=n->aJ8 H->SqL (K w.params) H a (ns.map V.int)->sp w [.ref a] H (fun v _=>v=.bl true) fun _ _ _=>False)(hCX:∀(w:World) (H:Hp) (s:Shared) (e:Value) (s':Shared),CX w [] H s (fun _ _ _=>False) e s'->False) :
  PySem.W.WalkO q loose XP YP l.row.toRowW d [] (fun f vs=>PySem.call f vs):=by
 refine Att.az4 hn hdf fun w s₀ s₁ mg mb fa o pm cd doc a vs ns G Y ho hd hcd hmg hobj hints hlen hg=>?_;have KX:=hY w _ Y;obtain⟨fd,hb,hF⟩:=F w mg fa _ KX G.T.g hmg;exact aZ6 KX G.T.g G.T.b G.T.builtins G.T.nolimit hg hobj hints (Nat.le_trans hlen hn2) hr hF hb (fun H hO hS=>hsp w H a ns hlen hO hS) fun H e s'=>hCX w H s₁ e s'
end L2
namespace L2
open PySem PySem.Spec PyProof.Rows
noncomputable def p6(s:Stmt):Arguments:=match s with
 |.FunctionDef _ a _ _ _ _ _ _ _ _=>a
 |_=>{ posonlyargs:=[],args:=[],vararg:=none,kwonlyargs:=[],kw_defaults:=[],kwarg:=none,defaults:=[] }
noncomputable def i8(s:Stmt):List Stmt:=match s with
 |.FunctionDef _ _ b _ _ _ _ _ _ _=>b
 |_=>[]
noncomputable def i6(s:Stmt):Scope:=match s with
 |.FunctionDef _ _ _ _ _ _ sc _ _ _=>sc
 |_=>{ kind:=.function,names:=[],isGenerator:=false,isCoroutine:=false }
structure Fun(K:PySem.W.Frag)(x qual:Str)(st:Stmt)(f:Addr)(fd:FuncData):Prop where
 ex:∃(oc:Value) (od:Option Addr) (kV doc pm:Value) (an:Option Addr) (cdv ct:Value) (osl:Array (Option Value)),
  fd=PySem.W.fnOf x qual (p6 st) (i8 st) (i6 st) .none kV doc pm an cdv ct/\K.lookup f=some ⟨oc,od,.func fd,osl⟩/\PySem.W.codeIn K cdv qual=true
 kp:PySem.W.keepIn K (.ref f)=true
section
variable{P:Program}{w:World}{K:PySem.W.Frag}{mg:Str->Option Value}{base:Heap}
theorem Fun.binds{x qual:Str}{st:Stmt}{f:Addr}{fd:FuncData}{ps:List Str}(F:Fun K x qual st f fd)(h:∀(kV doc pm:Value) (an:Option Addr) (cdv ct:Value) (us:List Value),us.length=ps.length->bindArgs (PySem.W.fnOf x qual (p6 st) (i8 st) (i6 st) .none kV doc pm an cdv ct) ⟨us,[]⟩=pure (ps.zip us)):Binds K fd ps []:=by
 obtain⟨oc,od,kV,doc,pm,an,cdv,ct,osl,rfl,lk,hcd⟩:=F.ex;exact .all (h kV doc pm an cdv ct)
theorem aR3{x qual:Str}{st:Stmt}{f:Addr}{oc:Value}{od an:Option Addr}{osl:Array (Option Value)}{kV doc pm cdv ct:Value}(l:K.lookup f=some ⟨oc,od,.func (PySem.W.fnOf x qual (p6 st) (i8 st) (i6 st) .none kV doc pm an cdv ct),osl⟩)(c:PySem.W.codeIn K cdv qual=true)(k:PySem.W.keepIn K (.ref f)=true):Fun K x qual st f (PySem.W.fnOf x qual (p6 st) (i8 st) (i6 st) .none kV doc pm an cdv ct):=⟨⟨oc,od,kV,doc,pm,an,cdv,ct,osl,rfl,l,c⟩,k⟩
end
section
variable{X:Cx}
theorem aS3:j4 X (.builtin "len") (fun xs H Q=>∃a kvs,xs=[V.ref a]/\H a=some (.dK kvs)/\Q (.int kvs.length) H):=by
 intro pins s σ H xs us Q I r h;obtain⟨a,kvs,rfl,ha,q⟩:=h;obtain⟨u,rfl,ru⟩:=vals1 r;cases ru;exact bB2 I (.inl ha) fun t s' I'=>⟨.int kvs.length,H,I',⟨t,rfl⟩,q⟩
end
section
variable{κ:Type}[DecidableEq κ]
end
end L2

namespace L2
open PySem PySem.Spec PyProof.Rows
section
variable{prog:Program}{w:World}{A:Around}{R:Result->Shared->Prop}{s:Shared}
theorem aw6{elt target iter:Expr}{ifs:List Expr}{scope:Scope}{pos:Pos}{it acc:Value}{env:Env}(I:Nat->Shared->Prop)(turn:∀ n s,I n s->wpAny (model prog w) A (pyNext it) (fun r s₁=>match r with
   |none=>R (.ok .next) s₁
   | some v=>wpAny (model prog w) A (letOwnedTupleGo target it v) (fun _ s₁=>wpAny (model prog w) A (assign target env v) (fun _ s₂ =>
     wpAny (model prog w) A (forIn ifs true fun c r=>if r=true then do let ok <- isTrue c env (eval c env);pure (ForInStep.yield ok) else pure (ForInStep.yield r)) (fun ok s₃ =>
      if ok=true then wpAny (model prog w) A (eval elt env) (fun x s₄ =>
       wpAny (model prog w) A (call (.builtin "list.append") [acc,x]) (fun _ s₅=>∃ m,m < n/\I m s₅) (fun _ _=>False) s₄) (notedBy (model prog w) A env fun e s'=>R (.error e) s') s₃
      else ∃ m,m < n/\I m s₃) (fun _ _=>False) s₂) (fun _ _=>False) s₁) (fun _ _=>False) s₁) (fun _ _=>False) s)(n:Nat)(h:I n s) :
  codeAny (model prog w) A (.compLoop (.ListComp elt [⟨target,iter,ifs,0⟩] scope pos) 0 it acc env) R s:=by
 refine codeAny_loop rfl I (fun n s hI=>?_) n h;show wpAny _ A ((compTurn (.ListComp elt [⟨target,iter,ifs,0⟩] scope pos) 0 it acc env).onRaise (fun x=>do noteFrame x env;theTreesLotGoes x)) _ _ s;refine wpAny_noted ?_;rw[compTurn_list];refine wpAny_bind (wpAny_standAt (wpAny_bind (wpAny_mono (turn n s hI) (fun r s₁ h₁=>?_) fun _ _ h'=>h'.elim)));cases r with
 |none=>exact wpAny_pure h₁
 |some v =>
  refine wpAny_bind (wpAny_mono h₁ (fun _ s₁ h₁=>?_) fun _ _ h'=>h'.elim);refine wpAny_bind (wpAny_mono h₁ (fun _ s₂ h₂=>wpAny_bind (wpAny_mono h₂ (fun ok s₃ h₃=>?_) fun _ _ h'=>h'.elim)) fun _ _ h'=>h'.elim);cases ok with
  |false=>exact wpAny_pure ⟨rfl,h₃⟩
  |true =>
   exact wpAny_bind (wpAny_bind (wpAny_mono h₃ (fun x s₄ h₄=>wpAny_bind (wpAny_mono h₄ (fun _ s₅ h₅=>wpAny_pure (wpAny_pure ⟨rfl,h₅⟩)) fun _ _ h'=>h'.elim)) fun _ _ h'=>h'))
end
noncomputable def PTs(X:Cx)(es:List Expr)(t:TT):Prop :=
 ∀(pins:List (Addr×Obj)) (s:Shared) (σ:St) (H:Hp) (Q:Bool->Hp->Prop),Inv X pins σ H s->t σ H Q ->
  wpAny (model X.prog X.w) X.A (forIn es true fun c r=>if r=true then do let ok <- isTrue c X.env (eval c X.env);pure (ForInStep.yield ok) else pure (ForInStep.yield r)) (TP X pins σ Q) X.xe s
noncomputable def bD8:TT:=fun _ H Q=>Q true H
section
variable{X:Cx}
theorem ba8:PTs X [] bD8:=fun pins s σ H Q I h=>wpAny_pure ⟨H,I,h⟩
theorem ba7{c:Expr}{t:TT}(h:PT X c t):PTs X [c] t:=by
 intro pins s σ H Q I q;simp only[List.forIn_cons,List.forIn_nil,if_true];exact wpAny_bind (wpAny_bind (wpAny_mono (h pins s σ H Q I q) (fun b s' hb=>wpAny_pure (wpAny_pure hb)) fun _ _ x=>x))
end
noncomputable def c8(X:Cx)(pins:List (Addr×Obj))(scope:Scope)(N':List Str)(cl:List (Str×Addr))(C:Addr)(s:Shared)(H:Hp)(fp:List Addr):Cx where
 prog:=X.prog
 w:=X.w
 K:=X.K
 mg:=X.mg
 base:=X.base
 A:=X.A
 N:=N'
 s₀:=s
 H₀:=H
 env:=compEnvC scope cl C X.env
 outer:=X.stack
 stack:=X.stack
 ex:=fp
 calm:=true
 fn:=fun _=>false
 pn:=X.pn++pins
 xe:=fun _ _=>False
structure CompScope(X:Cx)(scope:Scope)(N':List Str)(b9:List Nat)(cl:List (Str×Addr)):Prop where
 kind:scope.kind=.function
 nocell:∀y∈scope.names,y.2≠.cell
 names:∀y∈scope.names,y.2=.local->scope.names.lookup y.1=some .local
 clos:closureFor scope X.env=pure cl
 cin:∀x c,cl.lookup x=some c->X.env.cells.lookup x=some c
 chas:∀x,scope.names.lookup x=some .free->∃c,cl.lookup x=some c
 nd:N'.Nodup
 cap:∀(i j:Nat),b9[i]?=some j->∃x,N'[i]?=some x/\X.N[j]?=some x/\scope.names.lookup x=some .free/\(X.env.kindOf x=some .cell\/X.env.kindOf x=some .free)
 clen:b9.length<=N'.length
theorem v8{env:Env}:∀{names:List (Str×NameKind)} {x:Str},names.lookup x=some .free ->
  (names.map fun(n,k)=>if(k==NameKind.free&&env.scope.kind==.function&&env.kindOf n==some .cell) then(n,NameKind.cell) else(n,k)).lookup x=some .cell \/
  (names.map fun(n,k)=>if(k==NameKind.free&&env.scope.kind==.function&&env.kindOf n==some .cell) then(n,NameKind.cell) else(n,k)).lookup x=some .free
 |[],_,h=>by simp at h
 |(n,k)::r,x,h=>by
  have ih:=@v8 env r x;show List.lookup x ((if(k==NameKind.free&&env.scope.kind==.function&&env.kindOf n==some .cell)=true then(n,NameKind.cell) else(n,k))::_)=_\/List.lookup x ((if(k==NameKind.free&&env.scope.kind==.function&&env.kindOf n==some .cell)=true then(n,NameKind.cell) else(n,k))::_)=_;cases hx:x==n with
  |true =>
   simp only[List.lookup_cons,hx] at h;cases h;by_cases hc:(NameKind.free==NameKind.free&&env.scope.kind==.function&&env.kindOf n==some .cell)=true
   ·rw[if_pos hc];simp[List.lookup_cons,hx]
   ·rw[if_neg hc];simp[List.lookup_cons,hx]
  |false =>
   simp only[List.lookup_cons,hx] at h;by_cases hc:(k==NameKind.free&&env.scope.kind==.function&&env.kindOf n==some .cell)=true
   ·rw[if_pos hc];simp only[List.lookup_cons,hx];exact ih h
   ·rw[if_neg hc];simp only[List.lookup_cons,hx];exact ih h
theorem C5{env:Env}:∀{names:List (Str×NameKind)} {x:Str},((names.map fun(n,k)=>if(k==NameKind.free&&env.scope.kind==.function&&env.kindOf n==some .cell) then(n,NameKind.cell) else(n,k)).lookup x=some .cell \/
  (names.map fun (n,k)=>if (k == NameKind.free && env.scope.kind == .function && env.kindOf n == some .cell) then (n,NameKind.cell) else (n,k)).lookup x=some .free)->names.lookup x=some .free \/ names.lookup x=some .cell
 |[],_,h=>by simp at h
 |(n,k)::r,x,h=>by
  have ih:=@C5 env r x;rw[List.map_cons] at h;cases hx:x==n with
  |true =>
   simp only[List.lookup_cons,hx];by_cases hc:(k==NameKind.free&&env.scope.kind==.function&&env.kindOf n==some .cell)=true
   ·left;simp only[Bool.and_eq_true,beq_iff_eq] at hc;rw[hc.1.1]
   ·simp only[if_neg hc,List.lookup_cons,hx] at h;rcases h with h|h
    ·exact .inr h
    ·exact .inl h
  |false =>
   simp only[List.lookup_cons,hx];by_cases hc:(k==NameKind.free&&env.scope.kind==.function&&env.kindOf n==some .cell)=true
   ·simp only[if_pos hc,List.lookup_cons,hx] at h;exact ih h
   ·simp only[if_neg hc,List.lookup_cons,hx] at h;exact ih h
noncomputable def A2(σ:St)(b9:List Nat)(n:Nat):St:=b9.map (fun j=>(σ[j]?).join)++List.replicate (n-b9.length) none
section
variable{X:Cx}{pins:List (Addr×Obj)}{σ:St}{H:Hp}{s:Shared}
theorem Inv.aI6{scope:Scope}{N':List Str}{b9:List Nat}{cl:List (Str×Addr)}{C:Addr}{h1:Heap}{fp:List Addr}{tk:Nat}(I:Inv X pins σ H s)(S:CompScope X scope N' b9 cl)(hc:X.calm=true)(hf:∀b∈fp,C4 X pins H b)(ho:∀b∈fp,∃o,s.heap.get? b=some o)(hC:s.heap.objs.size<=C)(hn:∃m,h1.Ns C m)(k:∀b o,s.heap.get? b=some o->h1.get? b=some o) :
  Inv (c8 X pins scope N' cl C s H fp) [] (A2 σ b9 N'.length) H { s with heap:=h1,toks:=tk }:=by
 obtain⟨m,hm⟩:=hn;have hkf:(relabel scope X.env).kind=.function:=S.kind;have noC:∀b o,s.heap.get? b=some o->b≠C:=fun b o e z=>absurd (Heap.lt_size e) (by rw[z];exact Nat.not_lt.mpr hC);refine⟨⟨I.mod,hkf,I.ok.glob,I.ok.blt,hC,?_,?_,?_,fun _=>I.ok.hd hc,I.ok.frames,.inl rfl,?_,I.bs,?_,?_,?_,I.stack,I.Y9⟩,rfl,I.bare,Un.kept k,⟨m,hm,?_⟩,?_,?_,?_,?_,I.hok.kept k,?_⟩
 ·exact fun x y c h1 h2=>I.ok.inj x y c (S.cin x c h1) (S.cin y c h2)
 ·intro x hx;rcases C5 (env:=X.env) (names:=scope.names) hx with z|z
  ·exact S.chas x z
  ·exact absurd rfl (S.nocell _ (PySem.mem_of_lookup z))
 ·intro x c h;cases h
 ·intro b hb;obtain⟨f0,f1,f2,f3,f4,f5⟩:=hf b hb;obtain⟨o,e⟩:=ho b hb;exact⟨noC b o e,fun x c h=>f4 x c (S.cin x c h)⟩
 ·exact Nat.le_trans I.ok.bsz I.sz
 ·intro b o e hb;obtain⟨f0,f1,f2,f3,f4,f5⟩:=hf b hb;rcases f3 with f3|f3
  ·exact I.ok.noex b o e f3
  ·exact absurd (Heap.lt_size (I.ok.bs b o e).1) (Nat.not_lt.mpr f3)
 ·intro b hb z;obtain⟨f0,f1,f2,f3,f4,f5⟩:=hf b hb;rcases List.mem_cons.mp (I.E9 b z) with z|z
  ·exact f1 z
  ·exact f2 z
 ·intro i x v h1' h2 h3;have hi:i<b9.length:=by
   unfold A2 at h2;by_cases hi:i<b9.length
   ·exact hi
   ·rw[List.getElem?_append_right (by simpa using hi),List.getElem?_replicate] at h2;split at h2<;>cases h2
  obtain⟨j,hj⟩:∃j,b9[i]?=some j:=⟨_,List.getElem?_eq_getElem hi⟩
  have hs:σ[j]?=some (some v):=by
   unfold A2 at h2;rw[List.getElem?_append_left (by simpa using hi),List.getElem?_map,hj] at h2;simp only[Option.map_some] at h2;cases e:σ[j]? with
   |none=>rw[e] at h2;cases h2
   |some a=>rw[e] at h2;exact congrArg some (Option.some.inj h2)
  obtain⟨y,hy1,hy2,hy3,hy4⟩:=S.cap i j hj;have ey:y=x:=by
   have h1'':N'[i]?=some x:=h1';rw[hy1] at h1'';exact Option.some.inj h1''
  subst ey;obtain⟨m0,hm0,hl⟩:=I.loc;obtain ⟨u,ru,hu⟩:=hl j y v hy2 hs (by
   rcases hy4 with z|z
   ·exact .inr (.inl z)
   ·exact .inr (.inr z))
  refine⟨u,ru,.inr ⟨v8 (env:=X.env) (names:=scope.names) hy3,?_⟩⟩;rcases hu with⟨z,_⟩|⟨_,c,hc1,hc2⟩
  ·rcases hy4 with z'|z'<;>(rw[z'] at z;cases z)
  ·obtain⟨c',hc'⟩:=S.chas y hy3;have e:=S.cin y c' hc';rw[hc1] at e;cases e;obtain⟨o,e1,e2⟩:=hc2;exact⟨c,hc',o,k _ _ e1,e2⟩
 ·intro x c h;obtain⟨v,q⟩:=I.cell x c (S.cin x c h);obtain⟨o,e1,e2⟩:=q;exact⟨v,o,k _ _ e1,e2⟩
 ·exact I.hok.fresh hC
 ·exact fun x c h=>I.freeC x c (S.cin x c h)
 ·intro p hp;have hp':p∈X.pn++pins:=by simpa[c8] using hp
  obtain⟨p1,p2,p3,p4,p5⟩:=I.pin p hp';refine⟨k _ _ p1,p2,noC _ _ p1,fun z=>?_,p5⟩;rcases List.mem_cons.mp (I.E9 _ z) with z|z
  ·exact p3 z
  ·exact p4 z
 ·unfold A2;show _=N'.length;rw[List.length_append,List.length_map,List.length_replicate];have:=S.clen;omega
theorem Inv.aw4{scope:Scope}{N':List Str}{cl:List (Str×Addr)}{C:Addr}{fp:List Addr}{pins':List (Addr×Obj)}{σ':St}{H':Hp}{s':Shared}(I:Inv X pins σ H s)(hf:∀b∈fp,C4 X pins H b)(J:Inv (c8 X pins scope N' cl C s H fp) pins' σ' H' s'):Inv X pins σ H' s' :=
 I.aI7 (ch:=fp) J.os J.base J.hok J.bare fun b hb=>by
  obtain⟨f0,f1,f2,f3,f4,f5⟩:=hf b hb;exact⟨f3,f1,f4,f5⟩
theorem Inv.bu5{D:Addr}{ys:List V}{its:List Value}{n:Nat}(I:Inv X pins σ H s)(f:C4 X pins H D)(hs:X.s₀.heap.objs.size<=D)(hv:Vals ys its)(hz:ys.length<=sizeLine)(ho:s.heap.get? D=some { cls:=.type "list",data:=.seq its.toArray n }):Inv X pins σ (upd H D (.lst ys)) s:=by
 obtain⟨f0,f1,f2,f3,f4,f5⟩:=f;have hne:∀b o,X.s₀.heap.get? b=some o->b≠D:=fun b o e z=>absurd (Heap.lt_size e) (by rw[z];exact Nat.not_lt.mpr hs);have tup:∀b u,H b=some u->upd H D (.lst ys) b=some u:=fun b u e=>by rw[e8 (j6 e f0)];exact e
 refine⟨I.ok,I.os,I.bare,⟨?_,?_,?_,I.base.there,?_,?_,?_⟩,I.loc,I.cell,?_,?_,?_,?_,I.len⟩
 ·exact fun b o e n1 n2 n3=>I.base.keep b o e n1 n2 n3
 ·exact fun b o e n1 n2 n3=>I.base.slot b o e n1 n2 n3
 ·exact fun b o e n1 n2=>by rw[e8 (hne b o e)];exact I.base.free b o e n1 n2
 ·exact fun b xs e=>tup _ _ (I.base.tups b xs e)
 ·exact fun b o u e=>tup _ _ (I.base.frzs b o u e)
 ·exact fun b ps e=>by
   obtain⟨more,q⟩:=I.base.tbls b ps e;exact⟨more,tup _ _ q⟩
 ·rw[e8 f1.symm];exact I.free
 ·exact fun x c e=>by rw[e8 (f4 x c e)];exact I.freeC x c e
 ·intro p hp;obtain⟨p1,p2,p3⟩:=I.pin p hp;exact⟨p1,by rw[e8 (f5 p hp)];exact p2,p3⟩
 ·intro a o e;by_cases ha:a=D
  ·subst ha;rw[j5] at e;cases e;exact⟨hz,its,n,hv,ho⟩
  ·rw[e8 ha] at e;have q:=I.hok a o e;refine q.R7 (fun b u _ h=>h) (fun b hb=>tup _ _ hb) (fun b xs hb=>tup _ _ hb)
end
end L2

namespace L2
open PySem PySem.Spec PyProof.Rows
noncomputable def af0(wi:TI)(b9:List Nat)(n:Nat)(g:TG)(tc:TT)(te:TE):TE:=fun σ H Q=>wi σ H fun J H1=>∃W:Nat->Nat->List V->St->Hp->Prop,(∃m,W 0 m [] (A2 σ b9 n) H1)/\∀i m ys σ H,W i m ys σ H ->
 (J.stop i H/\∀p,H p=none->Q (.ref p) (upd H p (.lst ys))) \/
 (J.go i H/\ys.length < sizeLine/\∀ x H',J.yld i H x H'->g x σ H' fun σ2 H2=>tc σ2 H2 fun b H3 =>
  if b=true then te σ2 H3 fun y H4=>∃ m',m' < m/\W (i + 1) m' (ys ++ [y]) σ2 H4 else ∃ m',m' < m/\W (i + 1) m' ys σ2 H3)
noncomputable abbrev C8(its:List Value)(n:Nat):Obj:={ cls:=.type "list",data:=.seq its.toArray n }
section
variable{X:Cx}{pins:List (Addr×Obj)}{σ:St}{H:Hp}{s:Shared}
theorem U2{elt tg iter:Expr}{ifs:List Expr}{scope:Scope}{N':List Str}{b9:List Nat}{cl:List (Str×Addr)}{pos:Pos}{it:Addr}{fp:List Addr}{tn:Nat->Heap->Prop}{J:It}{g:TG}{tc:TT}{te:TE}{xx:Addr->Shared->Hp->Value->Shared->Prop}{RR:Value->Addr->Result->Shared->Prop}{E:Value->Shared->Prop}{W:Nat->Nat->List V->St->Hp->Prop}{m0:Nat}{Q:VK}(S:CompScope X scope N' b9 cl)(hc:X.calm=true)(hg:∀C s H,PG (c8 X pins scope N' cl C s H fp) tg g)(ht:∀C s H,PTs (c8 X pins scope N' cl C s H fp) ifs tc)(he:∀C s H,PE ((c8 X pins scope N' cl C s H fp).G5 (xx C s H)) elt te)(I:Inv X pins σ H s)(T:Turn X.prog X.w X.K tg J fp it tn)(st:tn 0 s.heap)(hf:∀b∈fp,C4 X pins H b)(w0:W 0 m0 [] (A2 σ b9 N'.length) H)(turn:∀ i m ys σ H,W i m ys σ H->(J.stop i H/\∀ p,H p=none->Q (.ref p) (upd H p (.lst ys))) \/
   (J.go i H/\ys.length < sizeLine/\∀ x H',J.yld i H x H'->g x σ H' fun σ2 H2=>tc σ2 H2 fun b H3 =>
    if b=true then te σ2 H3 fun y H4=>∃ m',m' < m/\W (i + 1) m' (ys ++ [y]) σ2 H4 else ∃ m',m' < m/\W (i + 1) m' ys σ2 H3))(hRR:∀D C s' H' m,Inv X pins σ H' s'->Q (.ref D) H'->s'.heap.Ns C m->H' C=none->s.heap.objs.size<=C->RR (.ref D) C (.ok .next) s')(hRX:∀D C e s',s.heap.objs.size<=C->xx C s H e s'->notedBy (model X.prog X.w) X.A (compEnvC scope cl C X.env) (fun e s'=>RR (.ref D) C (.error e) s') e s') :
  wpAny (model X.prog X.w) X.A (newList []) (fun acc s₃=>wpAny (model X.prog X.w) X.A (newFunctionEnv scope X.env.globals cl [] X.env.qual none .none (some X.env)) (fun cenv s₄ =>
   cenv.frame=X.env.frame/\codeAny (model X.prog X.w) X.A (.compStart (.ListComp elt [⟨tg,iter,ifs,0⟩] scope pos) 0 (.ref it) acc { cenv with scope:=relabel scope X.env }) (RR acc cenv.locals) s₄) E s₃) E s:=by
 refine wpAny_newObj_type (wpAny_newFunctionEnv S.nocell (by intro y hy;simp at hy) (fun h₁ hns₁ hsb₁=>?_) S.kind);dsimp only at hns₁ hsb₁ ⊢;generalize hH2:s.heap.push { cls:=.type "list",dict:=none,data:=.seq ([]:List Value).toArray }=H2 at hns₁ hsb₁ ⊢;generalize eD:s.heap.objs.size=D at *;have hC:H2.objs.size=D+1:=by rw[<- hH2,Heap.size_push,eD]
 generalize eC:H2.objs.size=C at *;have hDC:D≠C:=by omega
 have lt:∀b o,s.heap.get? b=some o->b<D:=fun b o e=>by rw[<- eD];exact Heap.lt_size e
 have leC:D<=C:=by omega
 have neC:∀b o,s.heap.get? b=some o->b≠C:=fun b o e=>Nat.ne_of_lt (Nat.lt_of_lt_of_le (lt b o e) leC);have neD:∀b o,s.heap.get? b=some o->b≠D:=fun b o e=>Nat.ne_of_lt (lt b o e);have old:∀b o,s.heap.get? b=some o->h₁.get? b=some o:=fun b o e=>hsb₁.extBut b o (neC b o e) (Heap.get?_push_of_some _ (hH2▸Heap.get?_push_of_some _ e));have hacc:h₁.get? D=some (C8 [] 0):=hsb₁.extBut _ _ hDC (Heap.get?_push_of_some _ (by rw[<- hH2,<- eD];exact Heap.get?_push_size _ rfl));have hobj:∀b∈fp,∃o,s.heap.get? b=some o:=fun b hb=>by
  obtain⟨o,e,_⟩:=T.obj _ _ st b hb;exact⟨o,e⟩
 have hDf:D∉fp:=fun hm=>by
  obtain⟨o,e⟩:=hobj D hm;exact neD D o e rfl
 have X1:Inv (c8 X pins scope N' cl C s H fp) [] (A2 σ b9 N'.length) H { s with heap:=h₁,toks:=s.toks+([]:List (Str×Value)).length } :=
  I.aI6 S hc hf hobj (by rw[eD];omega) ⟨_,hns₁⟩ old
 have st1:tn 0 h₁:=T.keep _ _ _ st fun b _ o e=>old b o e;have fpc:∀{H':Hp},(∀b∈fp,H' b=none)->∀b∈fp,C4 (c8 X pins scope N' cl C s H fp) [] H' b:=fun hn b hb=>by
  obtain⟨f0,f1,f2,f3,f4,f5⟩:=hf b hb;obtain⟨o,e⟩:=hobj b hb;refine⟨hn b hb,?_,?_,.inl hb,fun x c q=>f4 x c (S.cin x c q),fun p hp=>?_⟩
  ·exact neC b o e
  ·exact fun z=>by
    rcases List.mem_cons.mp (I.E9 b z) with z|z
    ·exact f1 z
    ·exact f2 z
  ·have hp':p∈X.pn++pins:=by simpa[c8] using hp
   exact f5 p hp'
 have fD:∀{H':Hp},H' D=none->C4 (c8 X pins scope N' cl C s H fp) [] H' D:=fun hn=>by
  refine⟨hn,hDC,fun z=>?_,.inr (by show s.heap.objs.size<=D;omega),fun x c q=>?_,fun p hp=>?_⟩
  ·exact absurd (I.aG2 (a:=D) (by omega)) fun hno=>by
    rcases List.mem_cons.mp (I.E9 D z) with z|z
    ·exact absurd I.lt (by rw[<- z,eD];exact Nat.lt_irrefl _)
    ·exact hno z
  ·obtain⟨v,o,e,_⟩:=I.cell x c (S.cin x c q);exact neD c o e
  ·have hp':p∈X.pn++pins:=by simpa[c8] using hp
   exact neD _ _ (I.pin p hp').1
 have pinD:∀{H':Hp} {s':Shared} {σ':St} {its:List Value} {n:Nat},Inv (c8 X pins scope N' cl C s H fp) [] σ' H' s'->H' D=none->s'.heap.get? D=some (C8 its n) ->
   Inv (c8 X pins scope N' cl C s H fp) [(D,C8 its n)] σ' H' s':=fun{H' s' σ' its n} J0 hn e=>J0.P6 fun p hp=>by
  have z:p=(D,C8 its n):=by simpa using hp
  subst z;obtain⟨f0,f1,f2,_⟩:=fD hn;exact⟨e,f0,f1,f2,fun v z=>nomatch z⟩
 have fpD:∀{H':Hp} {its:List Value} {n:Nat},(∀b∈fp,H' b=none)->∀b∈fp,C4 (c8 X pins scope N' cl C s H fp) [(D,C8 its n)] H' b:=fun{H' its n} hn b hb=>by
  obtain⟨f0,f1,f2,f3,f4,f5⟩:=fpc hn b hb;refine⟨f0,f1,f2,f3,f4,fun p hp=>?_⟩;have hp':p∈(c8 X pins scope N' cl C s H fp).pn\/p=(D,C8 its n):=by simpa using hp
  rcases hp' with z|z
  ·exact f5 p (List.mem_append_left _ z)
  ·subst z;exact fun z=>hDf (by rw[show D=b from z];exact hb)
 have loop:∀s₃:Shared,s₃={ s with heap:=h₁,toks:=s.toks+([]:List (Str×Value)).length } ->
   codeAny (model X.prog X.w) X.A (.compLoop (.ListComp elt [⟨tg,iter,ifs,0⟩] scope pos) 0 (.ref it) (.ref D) (compEnvC scope cl C X.env)) (RR (.ref D) C) s₃:=by
  rintro s₃ rfl;refine aw6 (fun n s'=>∃ i ys σ' H' its nn,Inv (c8 X pins scope N' cl C s H fp) [] σ' H' s'/\tn i s'.heap/\(∀ b ∈ fp,H' b=none)/\H' D=none/\Vals ys its/\ys.length <= sizeLine /\
   s'.heap.get? D=some (C8 its nn)/\W i n ys σ' H') ?_ m0 ⟨0,[],_,H,[],0,X1,st1,fun b hb=>(hf b hb).1,I.hok.fresh (by omega),.nil,Nat.zero_le _,hacc,w0⟩
  rintro n s3 ⟨i,ys,σ3,H3,its,nn,I3,st3,fr3,d3,v3,z3,o3,w3⟩;have I3':=pinD I3 d3 o3;rcases turn i n ys σ3 H3 w3 with⟨stop,q⟩|⟨go,hz,step⟩
  ·refine thn (T.done (c8 X pins scope N' cl C s H fp) rfl rfl rfl rfl i _ s3 _ H3 _ I3' (fpD fr3) st3 stop) fun r s4 ⟨hr,I4⟩=>?_;subst hr;have o4:=(I4.pin (D,C8 its nn) (by simp)).1;have J4:Inv X pins σ H3 s4:=I.aw4 hf I4;have fD4:C4 X pins H3 D:=by
    refine⟨d3,Nat.ne_of_gt (by rw[<- eD];exact I.lt),I.aG2 (by omega),.inr (by have:=I.sz;omega),fun x c q=>?_,fun p hp=>?_⟩
    ·obtain⟨v,o,e,_⟩:=I.cell x c q;exact neD c o e
    ·exact neD _ _ (I.pin p hp).1
   obtain⟨mC,hmC,_⟩:=I4.loc;exact hRR D C s4 (upd H3 D (.lst ys)) mC (J4.bu5 fD4 (by have:=I.sz;omega) v3 z3 o4) (q D d3) hmC (by rw[e8 hDC.symm];exact I4.free) (by omega)
  ·refine thn (T.item (c8 X pins scope N' cl C s H fp) rfl rfl rfl rfl i _ s3 _ H3 _ I3' (fpD fr3) st3 go) fun r s4 ⟨u,hr,h4⟩=>?_;subst hr;refine thn h4 fun _ s5 ⟨x,H5,I5,r5,y5,st5,fr5⟩=>?_;have o5:=I5.pin (D,C8 its nn) (by simp);have I5':=I5.pinned (fpD fr5) (T.obj _ _ st5);refine thn (hg C s H _ s5 _ H5 x u _ I5' r5 (step x H5 y5)) fun _ s6 ⟨σ6,H6,I6,q6⟩=>?_;refine thn (ht C s H _ s6 σ6 H6 _ I6 q6) fun ok s7 ⟨H7,I7,q7⟩=>?_;have back:∀{σ8:St} {H8:Hp} {s8:Shared},Inv (c8 X pins scope N' cl C s H fp) ([(D,C8 its nn)]++V8 fp s5.heap) σ8 H8 s8->(∀b∈fp,H8 b=none)/\tn (i+1) s8.heap/\H8 D=none/\s8.heap.get? D=some (C8 its nn) :=
    fun{σ8 H8 s8} I8=>by
     have pf:∀b∈fp,∀o,s5.heap.get? b=some o->s8.heap.get? b=some o/\H8 b=none:=fun b hb o e=>by
      have:=I8.pin (b,o) (List.mem_append_right _ (List.mem_append_right _ (S5 hb e)));exact⟨this.1,this.2.1⟩
     have pd:=I8.pin (D,C8 its nn) (by simp);refine⟨fun b hb=>?_,T.keep _ _ _ st5 fun b hb o e=>(pf b hb o e).1,pd.2.1,pd.1⟩;obtain⟨o,e,_⟩:=T.obj _ _ st5 b hb;exact(pf b hb o e).2
   cases ok with
   |false =>
    obtain⟨m',hm,w7⟩:=q7;obtain⟨b1,b2,b3,b4⟩:=back I7;exact⟨m',hm,i+1,ys,σ6,H7,its,nn,I7.P6 fun p hp=>absurd hp (by simp),b2,b1,b3,v3,z3,b4,w7⟩
   |true =>
    refine wpAny_mono (he C s H _ s7 σ6 H7 _ (I7.G5 _) q7) (fun xv s8 ⟨y,H8,I8,r8,m',hm,w8⟩=>?_) fun e s' hx=>hRX D C e s' (by omega) hx;have I8:=I8.ae7;obtain⟨b1,b2,b3,b4⟩:=back I8;refine call_meets F.slot_list_append ⟨_,b4,rfl⟩ F.entry_list_append (F.args_list_append_2 _ _) (PySem.list_append D its.toArray nn xv (by rw[List.size_toArray];have:=v3.length;omega)) ⟨b4,?_⟩;have q:∃n',(s8.heap.update D (Obj.mapSeq (·.push xv))).get? D=some (C8 (its++[xv]) n'):=by
     have q0:=PySem.IsL.update b4 (·.push xv);have e0:its.toArray.push xv=(its++[xv]).toArray:=by simp
     rw[e0] at q0;exact⟨_,q0⟩
    obtain⟨n',q⟩:=q;have I8':Inv (c8 X pins scope N' cl C s H fp) [] σ6 H8 s8:=I8.P6 fun p hp=>absurd hp (by simp);obtain⟨f0,f1,f2,f3,f4,f5⟩:=fD (H':=H8) b3;have kp:∀b o,b≠D->s8.heap.get? b=some o->(s8.heap.update D (Obj.mapSeq (·.push xv))).get? b=some o:=fun b' u hb hu=>(Heap.get?_update_other s8.heap (Obj.mapSeq (·.push xv)) (Ne.symm hb)).trans hu;refine⟨m',hm,i+1,ys++[y],σ6,H8,its++[xv],n',I8'.turned (it:=D) (t':=s8.toks) kp f0 f1 f3 f4 f5,T.keep _ _ _ b2 fun b hb o e=>kp b o (fun z=>hDf (by rw[<- z];exact hb)) e,b1,b3,v3.append (.cons r8 .nil),?_,q,w8⟩;rw[List.length_append,List.length_singleton];omega
 exact⟨rfl,codeAny_compStart_list (loop _ rfl) (T.self _ 0 _ _ _ st1 (loop _ rfl))⟩
theorem Inv.ag3{C:Addr}{h':Heap}{s2:Shared}{H2:Hp}(I:Inv X pins σ H s)(hC:s2.heap.objs.size<=C)(I2:Inv X pins σ H2 s2)(hn:H C=none)(sb:Heap.SameBut C s.heap h'):Inv X pins σ H { s with heap:=h' }:=by
 have f:=I2.ak3 (b:=C) (H':=H) hC hn;obtain⟨f0,f1,f2,f3,f4,f5⟩:=f;exact I.turned (t':=s.toks) (fun b o hb e=>sb.extBut b o hb e) f0 f1 f3 f4 f5
theorem ah2{M:Model}{A:Around}{E:Value->Shared->Prop}{s:Shared}{a:Sem Value}{b:Sem Env}{P:Env->Prop}{Q:Value->Env->Shared->Prop}(h:wpAny M A a (fun x s1=>wpAny M A b (fun y s2=>P y/\Q x y s2) E s1) E s):wpAny M A a (fun x s1=>wpAny M A b (fun y s2=>Q x y s2) E s1) E s :=
 wpAny_mono h (fun _ _ h=>wpAny_mono h (fun _ _ h=>h.2) fun _ _ z=>z) fun _ _ z=>z
theorem aB5{elt tg iter:Expr}{ifs:List Expr}{scope:Scope}{N':List Str}{b9:List Nat}{cl:List (Str×Addr)}{pos:Pos}{wi:TI}{g:TG}{tc:TT}{te:TE}(S:CompScope X scope N' b9 cl)(hc:X.calm=true)(hi:PI X tg iter wi)(hg:∀pins C s H fp,PG (c8 X pins scope N' cl C s H fp) tg g)(ht:∀pins C s H fp,PTs (c8 X pins scope N' cl C s H fp) ifs tc)(he:∀pins C s H fp,PE (c8 X pins scope N' cl C s H fp) elt te)(hs:∀x,foldedSetIterable iter X.env x=pure x):PE X (.ListComp elt [⟨tg,iter,ifs,0⟩] scope pos) (af0 wi b9 N'.length g tc te):=by
 intro pins s σ H Q I h;rw[eval_ListComp];refine wpAny_comprehension_free (use:=none) rfl hs S.clos S.kind S.names (thn (hi pins s σ H _ I h) fun xv s₁ h₁=>thn h₁ fun itv s₂ h₂=>?_);obtain⟨it,fp,tn,J,H2,e,I2,T,st2,f2,W,⟨m0,w0⟩,turn⟩:=h₂;subst e;refine ah2 (U2 (xx:=fun _ _ _ _ _=>False) (RR:=fun acc C=>compPost (model X.prog X.w) X.A X.xe none (EP X pins σ Q) acc C) S hc (fun C s H=>hg pins C s H fp) (fun C s H=>ht pins C s H fp) (fun C s H=>he pins C s H fp) I2 T st2 f2 w0 turn ?_ fun _ _ _ _ _ z=>z.elim);intro D C s' H' m I' q hn hC hsz;exact⟨m,hn,fun h' sb=>⟨.ref D,H',I'.ag3 hsz I2 hC sb,rfl,q⟩⟩
theorem ay1{elt tg iter:Expr}{ifs:List Expr}{scope:Scope}{N':List Str}{b9:List Nat}{cl:List (Str×Addr)}{pos spos px:Pos}{wi:TI}{g:TG}{tc:TT}{te:TE}{i:Nat}{x:Str}(S:CompScope X scope N' b9 cl)(hc:X.calm=true)(hi:PI X tg iter wi)(hg:∀pins C s H fp,PG (c8 X pins scope N' cl C s H fp) tg g)(ht:∀pins C s H fp,PTs (c8 X pins scope N' cl C s H fp) ifs tc)(he:∀pins C s H fp,PE (c8 X pins scope N' cl C s H fp) elt te)(hs:∀x,foldedSetIterable iter X.env x=pure x)(hN:X.N.Nodup)(hix:X.N[i]?=some x)(hx:Loc X.env.scope x)(hf:X.fn x=true\/X.env.scope.names.lookup x=some .local) :
  PS X (.Assign [.Name x px] (.ListComp elt [⟨tg,iter,ifs,0⟩] scope pos) spos) (ar7 (af0 wi b9 N'.length g tc te) (aa2 i)):=by
 intro pins s σ H D I h;have hsw:∃b,swapsWith (.ListComp elt [⟨tg,iter,ifs,0⟩] scope pos) (some (.Name x px)) spos.line X.env=pure b:=⟨_,rfl⟩
 obtain⟨b,hsw⟩:=hsw;cases b with
 |false=>exact aM8 hN hix hx (aB5 S hc hi hg ht he hs) hsw hf pins s σ H D I h
 |true =>
  rw[exec_Assign_Name_used _ _ _ _ hsw];refine wpAny_bind (wpAny_standAt (wpAny_bind ?_));show wpAny _ X.A (do let _ <- comprehension (.ListComp elt [⟨tg,iter,ifs,0⟩] scope pos) scope X.env _ (newList []) false (eval iter X.env) (some (assign (.Name x px) X.env))) _ _ s;refine wpAny_bind (wpAny_mono (wpAny_comprehension_free (use:=some (assign (.Name x px) X.env)) (Q:=fun _ s'=>SP X pins D .next s') rfl hs S.clos S.kind S.names
   (thn (hi pins s σ H _ I h) fun xv s₁ h₁=>thn h₁ fun itv s₂ h₂=>?_)) (fun _ s' hq=>wpAny_pure (wpAny_pure hq)) fun _ _ e=>e)
  obtain⟨it,fp,tn,J,H2,e,I2,T,st2,f2,W,⟨m0,w0⟩,turn⟩:=h₂;subst e;refine ah2 (U2 (xx:=fun _ _ _ _ _=>False) (Q:=fun v H1=>aa2 i v σ H1 D.nx) (RR:=fun acc C=>compPost (model X.prog X.w) X.A X.xe (some (assign (.Name x px) X.env)) (fun _ s'=>SP X pins D .next s') acc C) S hc (fun C s H=>hg pins C s H fp) (fun C s H=>ht pins C s H fp) (fun C s H=>he pins C s H fp) I2 T st2 f2 w0 turn ?_ fun _ _ _ _ _ z=>z.elim);intro Dl C s' H' m I' q hn hC hsz;show wpAny _ X.A (assign (.Name x px) X.env (.ref Dl)) _ _ _;refine wpAny_assign_Name (am1 I' hN hix hx (v:=.ref Dl) rfl (fun s3 I3 ⟨a,sb,ha⟩=>?_) hf);have hCL:C≠a:=by
   obtain⟨f0,f1,f2,f3,f4,f5⟩:=I2.ak3 (b:=C) (H':=H') hsz hC;rcases ha with z|z
   ·rw[z];exact f1
   ·exact fun z'=>f4 _ _ z z'.symm
  obtain⟨f0,f1,f2,f3,f4,f5⟩:=I2.ak3 (b:=C) (H':=H') hsz hC;refine⟨m,hn.sameBut sb hCL,fun h3 sb3=>⟨_,H',I3.turned (t':=s3.toks) (fun b o hb e=>sb3.extBut b o hb e) f0 f1 f3 f4 f5,q⟩⟩
end
end L2

namespace HT
open PySem PyProof.Rows
section
variable{prog:Program}{w:World}{A:Around}{E:Value->Shared->Prop}{s:Shared}
theorem a16{t b:Addr}{ws:List Value}{Q:Value->Shared->Prop}(ht:IsTup s.heap t #[])(hb:IsTup s.heap b ws.toArray)(h1:Q (.ref b) s):wpAny (model prog w) A (binaryOp .Add (.ref t) (.ref b)) Q E s:=by
 obtain⟨⟨cls,dd,data,sl⟩,ho,hc,n,hd⟩:=id ht;obtain⟨⟨cls2,dd2,data2,sl2⟩,ho2,hc2,n2,hd2⟩:=id hb;simp only at hc hd hc2 hd2;subst hc hd hc2 hd2;exact concat_meets ⟨_,ho,rfl⟩ ⟨_,ho2,rfl⟩ noFill_tuple_add seq_tuple_add PySem.F.slot_tuple_add PySem.F.entry_tuple_add (PySem.F.args_tuple_add_2 _ _)
   (tuple_addW0 t b #[] ws.toArray n n2 dd dd2 sl sl2 rfl) ⟨ho,ho2,h1⟩
theorem V1{t sl:Addr}{items:Array Value}{vl vu:Value}{lo hi:Option Int}{Q:Value->Shared->Prop}(ht:IsTup s.heap t items)(hs:s.heap.IsSliceOf sl vl vu .none)(pl:IsPart vl lo)(pu:IsPart vu hi)(hw:sIx items.size 0 lo=0/\sIx items.size items.size hi=items.size)(h:Q (.ref t) s):wpAny (model prog w) A (getItem (.ref t) (.ref sl)) Q E s:=by
 obtain⟨os,hos,hcs,hds⟩:=id hs;have hTs:s.TypeIs (.ref sl) "slice":=⟨os,hos,hcs⟩
 unfold getItem
 try with_reducible refine wpAny_holding ?_
 first|refine wpAny_bind (wpAny_pure ?_)|skip
 refine wpAny_bind (wpAny_sequenceKey ht.typeIs (by decide) ?_);refine wpAny_bind (wpAny_callSpecial?_slot (name:=Str.ofString "__getitem__") ht.typeIs PyProof.Rows.slot_tuple_getitem
  (wpAny_call_entry PyProof.Rows.slot_tuple_getitem ht.typeIs entry_tuple_getitem ?_ (args_tuple_getitem _ _)))
 show wpAny _ _ (Builtin.Tuple.tupleItemsOf (.ref t) >>= _) _ _ s;refine wpAny_bind (tupleItemsOf_ ht ?_);refine wpAny_bind (wpAny_typeOf hTs ?_);rw[if_pos (by decide)];refine wpAny_bind (K6 hs pl pu ?_);have hyes:((((sIx items.size 0 lo:Nat):Int)==0&&(1:Int)==1&&(sIx items.size items.size hi-sIx items.size 0 lo)==items.size)=true):=by
  rw[hw.1,hw.2];simp
 show wpAny _ _ (if(((sIx items.size 0 lo:Nat):Int)==0&&(1:Int)==1&&(sIx items.size items.size hi-sIx items.size 0 lo)==items.size)=true then _ else _) _ _ s;rw[if_pos hyes];obtain⟨o,ho,hc,_⟩:=id ht;unfold Builtin.Tuple.tupleIsExact;refine wpAny_bind (wpAny_bind (wpAny_typeOf ht.typeIs (wpAny_pure ?_)));rw[if_pos (by decide)]
 first
  |exact wpAny_bind (wpAny_rule (wpAny_bind (wpAny_pure ⟨_,rfl,wpAny_pure h⟩)))
  |exact wpAny_bind (wpAny_rule (wpAny_pure ⟨_,rfl,wpAny_pure h⟩))
  |exact wpAny_bind (wpAny_rule (wpAny_bind (wpAny_pure (wpAny_pure ⟨_,rfl,wpAny_pure h⟩))))
end
end HT
namespace L2
open PySem PySem.Spec PyProof.Rows
section
variable{X:Cx}
noncomputable def bm2(K:PySem.W.Frag):R2:=fun x y H Q=>∃a b xs ys,x=.ref a/\y=.ref b/\SqT K H a xs/\SqT K H b ys/\xs.length+ys.length<=sizeLine /\
 (xs=[]->Q (.ref b) H)/\(ys=[]->Q (.ref a) H)/\(∀p,H p=none->Q (.ref p) (upd H p (.tup (xs++ys))))
theorem aX6:OpR X (binaryOp .Add) (bm2 X.K):=by
 intro pins s σ H x y v u Q I rx ry h;obtain⟨a,b,xs,ys,rfl,rfl,ha,hb,hz,q0,q1,q2⟩:=h;by_cases hx:xs=[]
 ·subst hx;cases rx;cases ry;obtain⟨its,r1,p1,_⟩:=I.tuple ha;obtain⟨its2,r2,p2,_⟩:=I.tuple hb;cases r1;exact HT.a16 p1 p2 ⟨.ref b,H,I,rfl,q0 rfl⟩
 ·exact bc7 pins s σ H _ _ v u Q I rx ry ⟨a,b,xs,ys,rfl,rfl,ha,hb,hx,hz,q1,fun _=>q2⟩
noncomputable def bw3(K:PySem.W.Frag):V->Option Int->Option Int->Hp->VK->Prop:=fun x lo hi H Q=>∃a xs,x=.ref a/\SqT K H a xs /\
 (M7 xs lo hi=xs->Q (.ref a) H)/\∀p,H p=none->Q (.ref p) (upd H p (.tup (M7 xs lo hi)))
theorem a89:SlR X (bw3 X.K):=by
 intro pins s σ H x v vl vu lo hi sl Q I rx hs pl pu h;obtain⟨a,xs,rfl,hx,q0,q⟩:=h;by_cases hw:HT.sIx xs.length 0 lo=0/\HT.sIx xs.length xs.length hi=xs.length
 ·cases rx;obtain⟨its,r,ht,hz⟩:=I.tuple hx;have hlen:its.toArray.size=xs.length:=by rw[List.size_toArray];exact r.length.symm
  refine⟨"tuple",_,PyProof.Rows.slot_tuple_getitem.lookup,ht.typeIs,?_⟩;exact HT.V1 ht hs pl pu (by rw[hlen];exact hw) ⟨.ref a,H,I,rfl,q0 (by unfold M7;rw[hw.1,hw.2];simp)⟩
 ·exact bj7 pins s σ H _ v vl vu lo hi sl Q I rx hs pl pu ⟨a,xs,rfl,hx,hw,q⟩
theorem az3:j4 X (.builtin "isinstance") (fun xs H Q=>∃x t c b,xs=[x,.ty c]/\TyOf X.K H x t/\PySem.W.kitOne X.K t (.type c)=some b/\Q (.bl b) H):=by
 intro pins s σ H xs us Q I r h;obtain⟨x,t,c,b,rfl,hT,hk,q⟩:=h;obtain⟨u,w',rfl,ru,rw'⟩:=vals2 r;cases (show w'=Value.type c from rw');exact aQ5 I ru hT hk fun tk=>⟨.bl b,H,I.tok tk,rfl,q⟩
theorem aS4(hc:X.calm=true):j4 X (.builtin "all") (fun xs H Q=>∃(a:Addr) (bs:List Bool),xs=[.ref a]/\SqL X.K H a (bs.map V.bl)/\Q (.bl (bs.all id)) H):=by
 intro pins s σ H xs us Q I r h;obtain⟨a,bs,rfl,ha,q⟩:=h;obtain⟨u,rfl,ru⟩:=vals1 r;cases ru;obtain⟨its,rv,p,hz⟩:=I.list ha;refine call_all_walk ?_;refine wpAny_pyIter_list p.isList ?_;have hne:a≠s.heap.objs.size:=by
  obtain⟨o,e,_⟩:=id p.isList;exact Nat.ne_of_lt (Heap.lt_size e)
 have hl:=rv.length;rw[List.length_map] at hl;refine⟨s.heap.objs.size,_,_,_,_,_,fun i=>bs.getD i true,rfl,Walks.list (A:=X.A.in1) (I.ok.hd hc) _ a hne its.toArray,⟨⟨_,Heap.get?_push_size _ rfl,rfl,rfl⟩,?_⟩,?_,fun h' tk k=>?_⟩
 ·obtain⟨o,e,q1⟩:=id p.isList;exact⟨o,Heap.get?_push_of_some _ e,q1⟩
 ·intro i v s' Q' E' hP hQ;have hv:its[i]?=some v:=by simpa using hP
  have hi:i<bs.length:=by rw[hl];exact(List.getElem?_eq_some_iff.mp hv).1
  obtain⟨u',hu',ru'⟩:=rv.get (i:=i) (x:=V.bl bs[i]) (by rw[List.getElem?_map,List.getElem?_eq_getElem hi];rfl);rw[hv] at hu';cases hu';cases (show v=Value.bool bs[i] from ru');refine wpAny_truthy_bool ?_;have:bs.getD i true=bs[i]:=by simp[List.getD,hi]
  dsimp only at hQ;rw[this] at hQ;exact hQ
 ·have e1:(List.range its.toArray.size).all (fun i=>bs.getD i true)=bs.all id:=by
   rw[List.size_toArray,<- hl];rw[Bool.eq_iff_iff];simp only[List.all_eq_true,List.mem_range,id];constructor
   ·intro hh x hx;obtain⟨i,hi,rfl⟩:=List.mem_iff_getElem.mp hx;have:=hh i hi;simpa[List.getD,hi] using this
   ·intro hh i hi;have:=hh bs[i] (List.getElem_mem hi);simpa[List.getD,hi] using this
  rw[e1];exact ⟨.bl (bs.all id),H,I.kept (t':=tk) fun b o e=>k b o (by
   intro hb;have:b=s.heap.objs.size:=by simpa using hb
   exact absurd (Heap.lt_size e) (by rw [this];exact Nat.lt_irrefl _)) (Heap.get?_push_of_some _ e),rfl,q⟩
end
end L2

namespace HT
open PySem PyProof.Rows
section
variable{prog:Program}{w:World}{A:Around}{E:Value->Shared->Prop}{s:Shared}
end
end HT
namespace L2
open PySem PySem.Spec PyProof.Rows
section
variable{X:Cx}{e st:Expr}{te ts:TE}{pos p2:Pos}
end
end L2

namespace L2
open PySem PySem.Spec PyProof.Rows
theorem g8.get{P:Program}{w:World}{H:Hp}{h:Heap}{a:Addr}:∀{o:HO},g8 P w H h a o->∃ob,h.get? a=some ob
 |.lst _,x=>by obtain⟨_,_,_,_,e⟩:=x;exact⟨_,e⟩
 |.tup _,x=>by obtain⟨_,_,_,o,e,_⟩:=x;exact⟨o,e⟩
 |.dK _,x=>by obtain⟨_,_,_,_,o,es,ep,e,_⟩:=x;exact⟨o,e⟩
 |.dT _,x=>by obtain⟨_,_,_,_,o,es,ep,e,_⟩:=x;exact⟨o,e⟩
 |.set _ _,x=>by obtain⟨o,es,ep,t,e,_⟩:=x;exact⟨o,e⟩
 |.ins _ _ _,x=>by obtain⟨_,_,_,e,_⟩:=x;exact⟨_,e⟩
 |.own _,x=>x
 |.xd _,x=>by obtain⟨mA,n,_⟩:=x;obtain⟨od,e,_⟩:=an1 n;exact⟨od,e⟩
 |.rng _ _,x=>by obtain⟨_,_,_,e⟩:=x;exact⟨_,e⟩
 |.frz _ _,x=>⟨_,x.1⟩
 |.tbl _,x=>⟨_,x⟩
 |.met _ _,x=>⟨_,x⟩
 |.ext _,x=>x.2.1
noncomputable def aJ9(H':Hp)(h0:Heap)(l:List Env)(e:Value)(C:Addr)(h:Heap):Prop :=
 ∃(ea:Addr) (a0:Value) (B:Heap),e=.ref ea/\Heap.FlyingW B l ea (.ref C) a0 h/\∀b o,h.get? b=some o->b∉frs l->(H' b≠none\/∃o0,h0.get? b=some o0)->B.get? b=some o
noncomputable def CXE(P:Program)(w:World):CXT:=fun outer H s E e s'=>∃(C:Addr) (H':Hp),s'.os=s.os/\AllBare s'.gens/\Un (frs outer) [] H H' s.heap s'.heap/\HOk P w H' s'.heap/\aJ9 H' s.heap outer e C s'.heap/\E (.ref C) none H'
section
variable{X:Cx}{pins:List (Addr×Obj)}{σ:St}{H:Hp}{s s':Shared}{E:XK}{e:Value}
theorem Inv.flew(I:Inv X pins σ H s)(h:CXE X.prog X.w X.stack H s E e s'):∃C H',Inv X pins σ H' s'/\aJ9 H' s.heap X.stack e C s'.heap/\E (.ref C) none H':=by
 obtain⟨C,H',ho,hb,hu,hok,fl,hE⟩:=h;exact⟨C,H',I.aI7 (ch:=[]) ho hu hok hb (by simp),fl,hE⟩
theorem T7(I:Inv X pins σ H s){b:Addr}(hb:b∈frs X.stack):∃o,s.heap.get? b=some o/\∀vs,o.data≠.fields vs:=(I.stack.mem hb).2
theorem aI5{h'':Heap}{B:Heap}{ea C:Addr}{a0:Value}(I:Inv X pins σ H s)(hst:X.stack=X.env::X.outer)(hex:X.ex=[])(hf:X.env.frame=some X.env.locals)(inB:∀b o,s.heap.get? b=some o->b∉frs X.stack->(H b≠none\/∃o0,X.s₀.heap.get? b=some o0)->B.get? b=some o)(sl:∀b∈frs X.stack,∀o,s.heap.get? b=some o->∃sl,h''.get? b=some { o with slots:=sl })(fw:Heap.FlyingW B X.outer ea (.ref C) a0 h'')(hE:E (.ref C) none H):CXE X.prog X.w X.outer X.H₀ X.s₀ E (.ref ea) { s with heap:=h'' }:=by
 have hsub:∀b,b∈frs X.outer->b∈frs X.stack:=fun b hb=>by rw[hst];unfold frs at hb ⊢;rw[List.filterMap_cons,hf];exact List.mem_cons_of_mem _ hb
 have nost:∀b o,X.s₀.heap.get? b=some o->b∉frs X.outer->b∉frs X.stack:=fun b o e hb z=>by
  rcases List.mem_cons.mp (I.E9 b z) with z|z
  ·exact absurd (Heap.lt_size e) (by rw[z];exact Nat.not_lt.mpr I.ok.above)
  ·exact hb z
 have trk:∀b u,H b=some u->b∉frs X.stack:=fun b u e z=>by rw[I.Y9 b z] at e;cases e
 have kept:∀b o,s.heap.get? b=some o->b∉frs X.stack->(H b≠none\/∃o0,X.s₀.heap.get? b=some o0)->h''.get? b=some o:=fun b o e n q=>fw.1 b o (inB b o e n q);have nex:∀b,b∉X.ex:=fun b=>by rw[hex];simp
 refine⟨C,H,I.os,I.bare,⟨?_,?_,?_,?_,I.base.tups,I.base.frzs,I.base.tbls⟩,?_,⟨ea,a0,B,rfl,fw,?_⟩,hE⟩
 ·exact fun b o e n1 n2 _=>kept b o (I.base.keep b o e n1 n2 (nex b)) (nost b o e n2) (.inr ⟨o,e⟩)
 ·intro b o e n1 n2 _;obtain⟨sl1,e1⟩:=I.base.slot b o e n1 n2 (nex b);obtain⟨sl2,e2⟩:=sl b (hsub b n2) _ e1;exact⟨sl2,e2⟩
 ·exact fun b o e n1 _=>I.base.free b o e n1 (nex b)
 ·intro b o e _;obtain⟨o1,e1⟩:=I.base.there b o e (nex b);by_cases hb:b∈frs X.stack
  ·obtain⟨sl2,e2⟩:=sl b hb _ e1;exact⟨_,e2⟩
  ·exact⟨o1,kept b o1 e1 hb (.inr ⟨o,e⟩)⟩
 ·intro a o e;exact (I.hok a o e).R7 (fun b u hb q=>by
   have hb':∃v,H b=some v:=by
    rcases hb with rfl|hb
    ·exact⟨o,e⟩
    ·exact⟨_,hb⟩
   obtain⟨v,hv⟩:=hb';exact kept b u q (trk b v hv) (.inl (by rw [hv];simp))) (fun b hb=>hb) (fun b xs hb=>hb)
 ·intro b o e n q;rcases q with q|⟨o0,q⟩
  ·obtain⟨v,hv⟩:=Option.ne_none_iff_exists'.mp q;obtain⟨o1,e1⟩:=(I.hok b v hv).get;have z:=inB b o1 e1 (trk b v hv) (.inl (by rw[hv];simp));have z':=fw.1 b o1 z;have:o=o1:=by
    have e':h''.get? b=some o:=e;rw[z'] at e';exact(Option.some.inj e').symm
   subst this;exact z
  ·obtain⟨o1,e1⟩:=I.base.there b o0 q (nex b);have z:=inB b o1 e1 (nost b o0 q n) (.inr ⟨o0,q⟩);have z':=fw.1 b o1 z;have:o=o1:=by
    have e':h''.get? b=some o:=e;rw[z'] at e';exact(Option.some.inj e').symm
   subst this;exact z
theorem au9{h0:Heap}{C:Addr}{Ex:Value->Shared->Prop}(I:Inv X pins σ H s)(fl:aJ9 H h0 X.stack e C s.heap)(h0k:∀b o,X.s₀.heap.get? b=some o->∃o',h0.get? b=some o')(hst:X.stack=X.env::X.outer)(hex:X.ex=[])(hf:X.env.frame=some X.env.locals)(hE:E (.ref C) none H):wpAny (model X.prog X.w) X.A (leaving X.env e) (fun _ s''=>CXE X.prog X.w X.outer X.H₀ X.s₀ E e s'') Ex s:=by
 obtain⟨ea,a0,B,rfl,fw,hB⟩:=fl;have fw0:=fw;rw[hst] at fw;refine wpAny_leaves_onW (by rw[I.ok.frames,hst]) hf fw fun h'' fw' us=>?_;refine aI5 I hst hex hf (fun b o e n q=>hB b o e n (q.imp id fun⟨o0,q⟩=>h0k b o0 q)) (fun b hb o e=>?_) fw' hE;obtain⟨o1,e1,nf⟩:=T7 I hb;rw[e] at e1;cases e1;exact us b o e nf
theorem aH3{h':Heap}{ea C:Addr}{vs:List Value}{Ex:Value->Shared->Prop}(I:Inv X pins σ H s)(hx:Heap.MadeExcOf s.heap h' ea (.ref C) vs)(hst:X.stack=X.env::X.outer)(hex:X.ex=[])(hf:X.env.frame=some X.env.locals)(hE:E (.ref C) none H):wpAny (model X.prog X.w) X.A (leaving X.env (.ref ea)) (fun _ s''=>CXE X.prog X.w X.outer X.H₀ X.s₀ E (.ref ea) s'') Ex { s with heap:=h' }:=by
 have hfn:=I.stack;rw[hst] at hfn;have hin:∀env∈(X.env::X.outer),∀b,env.frame=some b->b∈frs X.stack:=fun env he b hb=>by rw[hst];exact List.mem_filterMap.mpr ⟨env,he,hb⟩
 refine wpAny_leaves_madeW (s:={ s with heap:=h' }) (base:=PySem.W.hideAll s.heap (frs X.stack)) (h:=s.heap) (by rw[I.ok.frames,hst]) hf (fun b o q=>PySem.W.of_hideAll _ q) (PySem.W.funFrames_hide hfn hin) hx fun h'' t fw _ _ us=>?_;refine(show CXE X.prog X.w X.outer X.H₀ X.s₀ E (.ref ea) { s with heap:=h'' } from aI5 I hst hex hf (fun b o e n _=>PySem.W.hideAll_get _ e n) (fun b hb o e=>?_) fw hE);obtain⟨o1,e1,nf⟩:=T7 I hb;rw[e] at e1;cases e1;exact us b o (hx.keeps b o e) nf
theorem aT5{l:List Env}{H H':Hp}{h0 h h1 B:Heap}{Pg:Program}{w:World}(u:Un (frs l) [] H H' h0 h)(ok:HOk Pg w H' h)(hB:∀b o,h.get? b=some o->b∉frs l->(H' b≠none\/∃o0,h0.get? b=some o0)->B.get? b=some o)(st:B.StaysIn h1)(us:h.UpToSlots h1)(hfr:∀b∈frs l,H' b=none/\∃o,h.get? b=some o/\∀vs,o.data≠.fields vs):Un (frs l) [] H H' h0 h1/\HOk Pg w H' h1/\∀b o,h1.get? b=some o->b∉frs l->(H' b≠none\/∃o0,h0.get? b=some o0)->B.get? b=some o:=by
 have trk:∀b u,H' b=some u->b∉frs l:=fun b u e z=>by rw[(hfr b z).1] at e;cases e
 have kept:∀b o,h.get? b=some o->b∉frs l->(H' b≠none\/∃o0,h0.get? b=some o0)->h1.get? b=some o:=fun b o e n q=>st b o (hB b o e n q);have fsl:∀b∈frs l,∀o,h.get? b=some o->∃sl,h1.get? b=some { o with slots:=sl }:=fun b hb o e=>by
  obtain⟨_,o1,e1,nf⟩:=hfr b hb;rw[e] at e1;cases e1;exact us b o e nf
 refine⟨⟨?_,?_,u.free,?_,u.tups,u.frzs,u.tbls⟩,?_,?_⟩
 ·exact fun b o e n1 n2 n3=>kept b o (u.keep b o e n1 n2 n3) n2 (.inr ⟨o,e⟩)
 ·intro b o e n1 n2 n3;obtain⟨sl1,e1⟩:=u.slot b o e n1 n2 n3;obtain⟨sl2,e2⟩:=fsl b n2 _ e1;exact⟨sl2,e2⟩
 ·intro b o e n;obtain⟨o1,e1⟩:=u.there b o e n;by_cases hb:b∈frs l
  ·obtain⟨sl2,e2⟩:=fsl b hb _ e1;exact⟨_,e2⟩
  ·exact⟨o1,kept b o1 e1 hb (.inr ⟨o,e⟩)⟩
 ·intro a o e;exact (ok a o e).R7 (fun b u hb q=>by
   have hb':∃v,H' b=some v:=by
    rcases hb with rfl|hb
    ·exact⟨o,e⟩
    ·exact⟨_,hb⟩
   obtain⟨v,hv⟩:=hb';exact kept b u q (trk b v hv) (.inl (by rw [hv];simp))) (fun b hb=>hb) (fun b xs hb=>hb)
 ·intro b o e n q;have:∃o1,h.get? b=some o1:=by
   rcases q with q|⟨o0,q⟩
   ·obtain⟨v,hv⟩:=Option.ne_none_iff_exists'.mp q;exact(ok b v hv).get
   ·exact u.there b o0 q (by simp)
  obtain⟨o1,e1⟩:=this;have z:=hB b o1 e1 n q;rw[st b o1 z] at e;cases e;exact z
section
variable{s':Shared}
structure Lies(X:Cx)(H H':Hp)(s:Shared)(B:Heap)(ea C:Addr)(a0:Value)(s':Shared):Prop where
 os:s'.os=s.os
 bare:AllBare s'.gens
 un:Un (frs X.stack) [] H H' s.heap s'.heap
 hok:HOk X.prog X.w H' s'.heap
 inB:∀b o,s'.heap.get? b=some o->b∉frs X.stack->(H' b≠none\/∃o0,s.heap.get? b=some o0)->B.get? b=some o
theorem Lies.inv{H':Hp}{B:Heap}{ea C:Addr}{a0:Value}(I:Inv X pins σ H s)(l:Lies X H H' s B ea C a0 s'):Inv X pins σ H' s':=I.aI7 (ch:=[]) l.os l.un l.hok l.bare (by simp)
theorem leave_held{H':Hp}{B:Heap}{ea C:Addr}{a0:Value}{Ex:Value->Shared->Prop}(I:Inv X pins σ H s)(l:Lies X H H' s B ea C a0 s')(hh:Heap.HeldW B X.stack ea (.ref C) a0 X.env.locals s'.heap)(hst:X.stack=X.env::X.outer)(hex:X.ex=[])(hf:X.env.frame=some X.env.locals)(hE:E (.ref C) none H'):wpAny (model X.prog X.w) X.A (leaving X.env (.ref ea)) (fun _ s''=>CXE X.prog X.w X.outer X.H₀ X.s₀ E (.ref ea) s'') Ex s':=by
 have J:=l.inv I;have hh':=hh;rw[hst] at hh';unfold leaving;refine wpAny_bind (wpAny_noteFrame_againW hf hh'.2.2.2 ?_);refine wpAny_landsW hh' fun h'' fl us=>?_;obtain⟨k1,k2,⟨_,_,k3⟩,k4⟩:=fl;refine aI5 J hst hex hf (fun b o e n q=>l.inB b o e n (q.imp id fun⟨o0,q⟩=>I.base.there b o0 q (by rw[hex];simp))) (fun b hb o e=>?_) ⟨k1,k2,k3,k4⟩ hE;obtain⟨o1,e1,nf⟩:=T7 J hb;rw[e] at e1;cases e1;exact us b o e nf
end
noncomputable def ab0(X:Cx)(Ξ:XK):Prop:=∀(pins:List (Addr×Obj)) (σ:St) (H:Hp) (s:Shared) (h':Heap) (ea C:Addr) (vs:List Value),Inv X pins σ H s->Heap.MadeExcOf s.heap h' ea (.ref C) vs->Ξ (.ref C) none H->X.xe (.ref ea) { s with heap:=h' }
noncomputable def Q9(X:Cx)(Ξ:XK):Prop:=∀(pins:List (Addr×Obj)) (σ:St) (H H':Hp) (s s':Shared) (B:Heap) (ea C:Addr) (a0:Value),Inv X pins σ H s->Lies X H H' s B ea C a0 s'->Heap.HeldW B X.stack ea (.ref C) a0 X.env.locals s'.heap->Ξ (.ref C) none H'->X.xe (.ref ea) s'
noncomputable def bi2(C:Addr)(Ξ:XK)(t:TA):TS:=fun _ σ H=>t σ H fun vs H1=>vs.length<=sizeLine/\Ξ (.ref C) none H1
theorem aW4{x:Str}{C:Addr}{B newId initId:String}{bm:List Value}{np cpos pos:Pos}{e₀:Expr}{rest:List Expr}{t:TA}{Ξ:XK}(hc:X.calm=true)(O:OwnCls x C bm newId X.mg X.base)(FB:ExcBaseFacts B newId initId bm)(hg:Gl X x)(ha:PA X (e₀::rest) t)(hr:ab0 X Ξ)(he:starEach (e₀::rest) X.env=(false,eval e₀ X.env)::starEach rest X.env)(hplain:(backTo cpos (starEach rest X.env)).any (·.1)=false)(hd:(x==("__debug__":Str))=false) :
  PS X (.Raise (some (.Call (.Name x np) (e₀::rest) [] cpos)) none pos) (bi2 C Ξ t):=by
 intro pins s σ H D I h;obtain⟨tl,N,nm,q,bs,hdct,sn,sub,ab,col,dd,k0,k1,k2,k3,k5,mN,hC,hN,hni,T⟩:=O.obj;refine wpAny_Raise_call_subT (C:=C) (nm:=nm) (q:=q) (N:=N) (bs:=bs) (bm:=tl) (hdct:=hdct) (sn:=sn) (sub:=sub) (ab:=ab) (col:=col) (dd:=dd) (k0:=k0) (k1:=k1) (k2:=k2) (k3:=k3) (k5:=k5)
  FB (mN:=mN) (T.hasType FB.hasBase) (I.ok.hd hc) (by rw[he];show(false||(backTo cpos (starEach rest X.env)).any (·.1))=false;rw[hplain];rfl) hni (K0 I hg O.bound ⟨rfl,?_⟩ hd)
 have h':=ha cpos pins s σ H _ I h;rw[he] at h' ⊢;refine Calls.evalArgs_plain (wpAny_mono h' (fun vs s₂ h₂=>?_) fun _ _ y=>y);obtain⟨ws,H1,I1,rv,hz,hE⟩:=h₂;exact⟨rfl,by rw[<- rv.length];exact hz,I1.bk _ _ hC,hN.keeps I1.bk,T.keeps I1.bk,fun h2 ea hm=>hr pins σ H1 s₂ h2 ea C vs I1 hm hE⟩
noncomputable def N1(X:Cx)(pins:List (Addr×Obj))(xe:Value->Shared->Prop):Cx:={ X with pn:=X.pn++pins,xe:=xe }
noncomputable def u6(X:Cx)(ea:Addr):Cx:={ X with A:=X.A.mark (some (.ref ea)),calm:=false,xe:=fun _ _=>False }
theorem Inv.bu6{xe:Value->Shared->Prop}(I:Inv X pins σ H s):Inv (N1 X pins xe) [] σ H s :=
 ⟨⟨I.ok.mod,I.ok.kind,I.ok.glob,I.ok.blt,I.ok.above,I.ok.inj,I.ok.has,I.ok.cab,I.ok.hd,I.ok.frames,I.ok.stk,I.ok.exf,I.ok.bs,I.ok.bsz,I.ok.noex,I.ok.exfs,I.ok.A4,I.ok.frf⟩,I.os,I.bare,I.base,I.loc,I.cell,I.free,I.freeC,
  fun p hp=>I.pin p (by simpa [N1] using hp),I.hok,I.len⟩
theorem Inv.S4{xe:Value->Shared->Prop}{pins':List (Addr×Obj)}(I:Inv (N1 X pins xe) pins' σ H s):Inv X pins σ H s :=
 ⟨⟨I.ok.mod,I.ok.kind,I.ok.glob,I.ok.blt,I.ok.above,I.ok.inj,I.ok.has,I.ok.cab,I.ok.hd,I.ok.frames,I.ok.stk,I.ok.exf,I.ok.bs,I.ok.bsz,I.ok.noex,I.ok.exfs,I.ok.A4,I.ok.frf⟩,I.os,I.bare,I.base,I.loc,I.cell,I.free,I.freeC,
  fun p hp=>I.pin p (List.mem_append_left _ hp),I.hok,I.len⟩
theorem Inv.aL0{ea:Addr}(I:Inv X pins σ H s):Inv (u6 X ea) pins σ H s :=
 ⟨⟨I.ok.mod,I.ok.kind,I.ok.glob,I.ok.blt,I.ok.above,I.ok.inj,I.ok.has,I.ok.cab,fun z=>(by cases z),I.ok.frames,I.ok.stk,I.ok.exf,I.ok.bs,I.ok.bsz,I.ok.noex,I.ok.exfs,I.ok.A4,I.ok.frf⟩,I.os,I.bare,I.base,I.loc,I.cell,I.free,I.freeC,I.pin,I.hok,I.len⟩
theorem Inv.P9{ea:Addr}(J:X.Ok)(I:Inv (u6 X ea) pins σ H s):Inv X pins σ H s :=
 ⟨J,I.os,I.bare,I.base,I.loc,I.cell,I.free,I.freeC,I.pin,I.hok,I.len⟩
theorem SP.S4{xe:Value->Shared->Prop}{D:Ends}{f:Flow}(h:SP (N1 X pins xe) [] D f s):SP X pins D f s:=by
 cases f with
 |next=>obtain⟨a,b,I,q⟩:=h;exact⟨a,b,I.S4,q⟩
 |brk=>obtain⟨a,b,I,q⟩:=h;exact⟨a,b,I.S4,q⟩
 |cont=>obtain⟨a,b,I,q⟩:=h;exact⟨a,b,I.S4,q⟩
 |ret u=>obtain⟨v,a,b,I,r,q⟩:=h;exact⟨v,a,b,I.S4,r,q⟩
theorem SP.P9{ea:Addr}{D:Ends}{f:Flow}(J:X.Ok)(h:SP (u6 X ea) pins D f s):SP X pins D f s:=by
 cases f with
 |next=>obtain⟨a,b,I,q⟩:=h;exact⟨a,b,I.P9 J,q⟩
 |brk=>obtain⟨a,b,I,q⟩:=h;exact⟨a,b,I.P9 J,q⟩
 |cont=>obtain⟨a,b,I,q⟩:=h;exact⟨a,b,I.P9 J,q⟩
 |ret u=>obtain⟨v,a,b,I,r,q⟩:=h;exact⟨v,a,b,I.P9 J,r,q⟩
noncomputable def U5(X:Cx)(D:Ends)(C:Addr)(H:Hp):List ExceptHandler->Prop
 |.ExceptHandler (some (.Name x _)) none (b₀::suite) _::rest=>Gl X x/\(x==("__debug__":Str))=false/\∃C' b,X.mg x=some (.ref C')/\PySem.W.exmOne X.K (.ref C) (.ref C')=some b /\
   (if b=true then ∃t:TS,(∀ea,PSs (u6 X ea) (b₀::suite) t)/\t D (List.replicate X.N.length none) H else U5 X D C H rest)
 |[]=>∃Ξ:XK,Q9 X Ξ/\Ξ (.ref C) none H
 |_=>False
end
end L2

namespace L2
open PySem PySem.Spec PyProof.Rows
section
variable{X:Cx}{pins:List (Addr×Obj)}{σ:St}{H H':Hp}{s s':Shared}{e:Value}{D:Ends}
noncomputable def Y8(X:Cx)(pins:List (Addr×Obj))(D:Ends)(hs:List ExceptHandler):Value->Shared->Prop:=fun e s₁ =>
 wpAny (model X.prog X.w) X.A (noteFrame e X.env) (fun _ s₂=>wpAny (model X.prog X.w) X.A (setFlight e none) (fun _ s₃=>wpAny (model X.prog X.w) X.A (handleBy e X.env hs) (SP X pins D) X.xe s₃) X.xe s₂) X.xe s₁
theorem Lies.step{B h1:Heap}{ea C:Addr}{a0:Value}(I:Inv X pins σ H s)(l:Lies X H H' s B ea C a0 s')(st:B.StaysIn h1)(us:s'.heap.UpToSlots h1):Lies X H H' s B ea C a0 { s' with heap:=h1 }:=by
 have J:=l.inv I;obtain⟨u,ok,ib⟩:=aT5 l.un l.hok l.inB st us fun b hb=>⟨J.Y9 b hb,T7 J hb⟩
 exact⟨l.os,l.bare,u,ok,ib⟩
theorem ay8{s:Shared}{B:Heap}{l:List Env}{ea L:Addr}{cls a0:Value}{A:Around}{M:Model}{E:Value->Shared->Prop}{Q:Unit->Shared->Prop}(fw:Heap.FlyingW B l ea cls a0 s.heap)(h:∀h',Heap.HeldW B l ea cls a0 L h'->(∀b o,s.heap.get? b=some o->(∀vs,o.data≠.fields vs)->h'.get? b=some o)->Q () { s with heap:=h' }):wpAny M A (setFlight (.ref ea) (some L)) Q E s:=by
 obtain⟨f1,f2,f3,oe,vs,T,oT,ts,he,hcls,hd,h1,hnT,hTe,hT,hdT,h3⟩:=fw;have hsz3:3<ts.size:=(Array.getElem?_eq_some_iff.mp h3).1;have other:∀b,b≠T->(s.heap.update T (Obj.mapFields (·.setIfInBounds 3 ((some L).elim Value.none fun f=>rawInt f)))).get? b=s.heap.get? b :=
  fun b hb=>Heap.get?_update_other _ _ (Ne.symm hb)
 have noRecord:∀b o,s.heap.get? b=some o->(∀vs,o.data≠.fields vs)->b≠T:=fun b o hb hnf q=>by
  rw[q,hT] at hb;injection hb with hb;subst hb;exact hnf ts hdT
 unfold setFlight;refine wpAny_bind (wpAny_field he hd h1 ?_);rw[if_pos (show(Value.ref T != Value.none)=true from by simp)];refine wpAny_setField hT hdT hsz3 (h _ ⟨fun b o hbo=>(other b fun q=>by rw [q,hnT] at hbo;cases hbo).trans (f1 b o hbo),f2,
  f3.of_keeps fun b o hb hnf=>⟨o,(other b (noRecord b o hb hnf)).trans hb,rfl⟩,?_⟩ fun b o hb hnf=>(other b (noRecord b o hb hnf)).trans hb)
 exact⟨oe,vs,T,_,_,(other ea (Ne.symm hTe)).trans he,hcls,hd,h1,hnT,hTe,Heap.get?_update_self _ hT (Obj.isFreed_of_fields (Obj.data_mapFields hdT _)),Obj.data_mapFields hdT _,by simp[hsz3]⟩
theorem an6{B:Heap}{ea C:Addr}{a0:Value}(hf:X.env.frame=some X.env.locals):∀(hs:List ExceptHandler) (s':Shared),Inv X pins σ H s->Lies X H H' s B ea C a0 s'->Heap.FlyingW B X.stack ea (.ref C) a0 s'.heap->U5 X D C H' hs ->
  wpAny (model X.prog X.w) X.A (handleBy (.ref ea) X.env hs) (SP X pins D) X.xe s'
 |[],s',I,l,fw,t=>by
  obtain⟨Ξ,hh,hE⟩:=t;refine wpAny_handleBy_nil ?_;unfold PySem.passOn;obtain⟨f1,f2,f3,oe,vs,T,oT,ts,he,hcls,hd,h1,_⟩:=id fw;refine wpAny_bind (wpAny_field he hd h1 ?_);rw[if_neg (by simp),hf];refine wpAny_bind (ay8 fw fun h2 held k=>wpAny_throw ?_);have l2:=l.step I held.1 (fun b o hb hn=>⟨o.slots,k b o hb hn⟩);exact hh pins σ H H' s _ B ea C a0 I l2 held hE
 |.ExceptHandler none _ _ _::_,_,_,_,_,t=>t.elim
 |.ExceptHandler (some e) nm bd pos::rest,s',I,l,fw,t=>by
  cases e
  case Name x np =>
   cases nm with
   |some y=>exact t.elim
   |none =>
    cases bd with
    |nil=>exact t.elim
    |cons b₀ suite =>
     obtain⟨hg,hdb,C',b,hm,hx,q⟩:=t;have J:=l.inv I;have JM:Inv (u6 X ea) pins σ H' s':=J.aL0;have LT:PySem.W.Looks (model X.prog X.w) s'.heap (typeOf (.ref ea)) (.ref C):=fun A Q E s2 k q=>by
      obtain⟨ob,ho,hc⟩:=fw.there;exact wpAny_typeOf_ref (k _ _ ho) (by rw[hc];exact q)
     refine wpAny_handleBy_cons (codeAny_handlers_test ?_) (by intro z;cases z);refine K0 (X:=u6 X ea) JM hg hm ?_ hdb;refine(PySem.W.exm_one (M:=model X.prog X.w) J.kIn LT hx).here ?_;cases b with
     |false =>
      simp only[Bool.false_eq_true,if_false] at q;exact an6 hf rest s' I l fw q
     |true =>
      simp only[if_true] at q;obtain⟨t,ht,hq⟩:=q;refine codeAny_handlers_suite ?_;refine wpAny_setFlight_noneW fw.1 fw.2.2.1 fw.2.2.2.at fun h2 k1 k2 k3 k4=>?_;have l2:=l.step I k1 (fun b o hb hn=>⟨o.slots,k4 b o hb hn⟩);have J2:=l2.inv I;have J3:Inv (u6 X ea) pins (List.replicate X.N.length none) H' { s' with heap:=h2 }:=(J2.weak (by rw [List.length_replicate,J2.len]) fun i v z=>by
       rw [List.getElem?_replicate] at z;split at z <;> cases z).aL0
      refine wpAny_mono (ht ea pins _ _ H' D J3 hq) (fun f s2 hf=>hf.P9 I.ok) fun _ _ z=>z.elim
  all_goals exact t.elim
theorem aX5{hs:List ExceptHandler}{Ξ:XK}(hst:X.stack=X.env::X.outer)(hf:X.env.frame=some X.env.locals)(hT:∀C H',Ξ (.ref C) none H'->U5 X D C H' hs) :
  Passes (CXE X.prog X.w) (N1 X pins (Y8 X pins D hs)) Ξ:=by
 intro pins' σ H s e s' I0 h;have I:Inv X pins σ H s:=I0.S4;obtain⟨C,H',ho,hb,hu,hok,⟨ea,a0,B,rfl,fw,hB⟩,hE⟩:=h;have l:Lies X H H' s B ea C a0 s':=⟨ho,hb,hu,hok,hB⟩
 have fw:Heap.FlyingW B X.stack ea (.ref C) a0 s'.heap:=fw;show Y8 X pins D hs (.ref ea) s';unfold Y8;have fw':=fw;rw[hst] at fw';refine wpAny_looks_onW (by rw[I.ok.frames,hst]) hf fw' fun h1 held us=>?_;have l1:=l.step I held.1 us;refine wpAny_landsW held fun h2 fl us2=>?_;have l2:=l1.step I fl.1 us2;rw[<- hst] at fl;exact an6 hf hs _ I l2 fl (hT C H' hE)
theorem bm7{hs:List ExceptHandler}{h₀:ExceptHandler}{body:List Stmt}{pos:Pos}{t:Ends->TS}{Ξ:Ends->XK}(hst:X.stack=X.env::X.outer)(hf:X.env.frame=some X.env.locals)(hb:∀pins D,(∀C H',Ξ D (.ref C) none H'->U5 X D C H' (h₀::hs))->PSs (N1 X pins (Y8 X pins D (h₀::hs))) body (t D)) :
  PS X (.Try body (h₀::hs) [] [] pos) (fun D σ H=>(∀C H',Ξ D (.ref C) none H'->U5 X D C H' (h₀::hs))/\t D D σ H):=by
 intro pins s σ H D I ⟨hT,h⟩;refine wpAny_Try_except (wpAny_mono (hb pins D hT [] s σ H D I.bu6 h) (fun f s1 q=>?_) fun e s1 q=>q);have q:=q.S4;cases f with
 |next =>
  obtain⟨σ',H',I',q⟩:=q;exact thn (wpAny_execs_nil ⟨σ',H',I',q⟩) fun _ _ z=>z
 |brk=>exact q
 |cont=>exact q
 |ret u=>exact q
end
end L2

namespace L2
open PySem PySem.Spec PyProof.Rows
section
variable{M:Model}{A:Around}{E:Value->Shared->Prop}{env:Env}{s:Shared}
theorem a09{e:Expr}{scope:Scope}{pos:Pos}{newAcc first:Sem Value}{g:Comprehension}{gs:List Comprehension}{cl:List (Str×Addr)}{Q:Value->Shared->Prop}{RX:Value->Addr->Result->Shared->Prop}(hcl:clausesOf e=g::gs)(hs:∀x,foldedSetIterable g.iter env x=pure x)(hclos:closureFor scope env=pure cl)(hkind:scope.kind=.function)(hnames:∀x∈scope.names,x.2=.local->scope.names.lookup x.1=some .local)(ok:∀acc C f s',RX acc C (.ok f) s'->∃m,s'.heap.Ns C m/\∀h',Heap.SameBut C s'.heap h'->Q acc { s' with heap:=h' })(er:∀acc C x s',RX acc C (.error x) s'->∃m,s'.heap.Ns C m/\∀h' m',h'.Ns C m'->Heap.SameBut C s'.heap h'->∀cenv:Env,cenv.frame=env.frame->wpAny M A (PySem.passOn "comprehension.variables-let-go" x cenv:Sem Value) (fun _ _=>False) E { s' with heap:=h' })(h:wpAny M A first (fun x s1=>wpAny M A (pyIter x) (fun it s2=>wpAny M A newAcc (fun acc s3=>wpAny M A (newFunctionEnv scope env.globals cl [] env.qual none .none (some env)) (fun cenv s4 =>
   cenv.frame=env.frame/\codeAny M A (.compStart e 0 it acc { cenv with scope:=relabel scope env }) (RX acc cenv.locals) s4) E s3) E s2) E s1) E s):wpAny M A (comprehension e scope env pos newAcc false first none) Q E s:=by
 have keep:∀{α:Type} {m:Sem α} {P P':α->Shared->Prop} {t:Shared},wpAny M A m P E t->(∀a t',P a t'->P' a t')->wpAny M A m P' E t:=fun a b=>wpAny_mono a b fun _ _ z=>z;unfold comprehension;rw[hclos,hcl];refine wpAny_bind (keep h fun x s1 h1=>wpAny_bind (wpAny_standAt (wpAny_bind (wpAny_of_eq (hs x) (wpAny_bind (wpAny_holding (keep h1 fun it s2 h2=>wpAny_standIf (wpAny_bind (keep h2 fun acc s3 h3=>wpAny_bind (wpAny_pure (wpAny_bind (keep h3 fun cenv s4 h4=>?_))))))))))));obtain⟨hfr,h4⟩:=h4;dsimp only;have hv:∀x∈(scope.names.filter fun x=>(x.2==.local||x.2==.cell)&&x.1 != (".0":Str)).reverse,x.2=.local->Env.kindOf { cenv with scope:=relabel scope env } x.1=some .local :=
  fun x hx hl=>lookup_relabel_local (hnames x (List.mem_filter.mp (List.mem_reverse.mp hx)).1 hl)
 refine wpAny_holding (wpAny_bind (wpAny_attempt (wpAny_holding (wpAny_run (codeAny_mono h4 fun r s5 h5=>?_)))));cases r with
 |ok f =>
  obtain⟨m,n5,q⟩:=ok _ _ _ _ h5;exact wpAny_bind (wpAny_holding (wpAny_comp_letGo (cenv:={ cenv with scope:=relabel scope env }) hkind _ s5 m hv n5 fun h6 m6 _ k6=>wpAny_pure (q h6 k6)))
 |error x =>
  obtain⟨m,n5,q⟩:=er _ _ _ _ h5;exact wpAny_bind (wpAny_holding (wpAny_comp_letGo (cenv:={ cenv with scope:=relabel scope env }) hkind _ s5 m hv n5 fun h6 m6 n6 k6=>wpAny_mono (q h6 m6 n6 k6 _ hfr) (fun _ _ f=>f.elim) fun _ _ y=>y))
end
end L2

namespace L2
open PySem PySem.Spec PyProof.Rows
theorem V0{B B' h h2:Heap}{C:Addr}(hB:∀b,b≠C->B'.get? b=B.get? b)(hh:∀b,b≠C->h2.get? b=h.get? b){oC:Obj}(hC:B.get? C=some oC):∀{l:List Env},h.FunFrames B l->h2.FunFrames B' l
 |[],x=>x
 |env::r,⟨x1,⟨L,o,x2,x3,x4,x5⟩,x6⟩=>by
  have hL:L≠C:=fun z=>by rw[z,hC] at x3;cases x3
  exact⟨x1,⟨L,o,x2,(hB L hL).trans x3,(hh L hL).trans x4,x5⟩,V0 hB hh hC x6⟩
section
variable{X:Cx}{pins:List (Addr×Obj)}{σ:St}{H H':Hp}{s s':Shared}
theorem ay9{s:Shared}{B:Heap}{l:List Env}{ea L:Addr}{cls a0:Value}{A:Around}{M:Model}{E:Value->Shared->Prop}{Q:Unit->Shared->Prop}(fw:Heap.HeldW B l ea cls a0 L s.heap)(h:∀h',Heap.HeldW B l ea cls a0 L h'->(∀b o,s.heap.get? b=some o->(∀vs,o.data≠.fields vs)->h'.get? b=some o)->Q () { s with heap:=h' }):wpAny M A (setFlight (.ref ea) (some L)) Q E s:=by
 obtain⟨f1,f2,f3,oe,vs,T,oT,ts,he,hcls,hd,h1,hnT,hTe,hT,hdT,h3⟩:=fw;have h3s:3<ts.size:=(Array.getElem?_eq_some_iff.mp h3).1;have oth:∀b,b≠T->(s.heap.update T (Obj.mapFields (·.setIfInBounds 3 ((some L).elim Value.none fun f=>rawInt f)))).get? b=s.heap.get? b:=fun b hb=>Heap.get?_update_other _ _ (Ne.symm hb);have noT:∀b o,s.heap.get? b=some o->(∀vs,o.data≠.fields vs)->b≠T:=fun b o hb hn q=>by
  rw[q,hT] at hb;cases hb;exact hn ts hdT
 unfold setFlight;refine wpAny_bind (wpAny_field he hd h1 ?_);rw[if_pos (show(Value.ref T != Value.none)=true from by simp)];refine wpAny_setField hT hdT h3s (h _ ⟨fun b o hb=>(oth b fun q=>by rw[q,hnT] at hb;cases hb).trans (f1 b o hb),f2,f3.of_keeps fun b o hb hn=>⟨o,(oth b (noT b o hb hn)).trans hb,rfl⟩,?_⟩ fun b o hb hn=>(oth b (noT b o hb hn)).trans hb);exact⟨oe,vs,T,_,_,(oth ea (Ne.symm hTe)).trans he,hcls,hd,h1,hnT,hTe,Heap.get?_update_self _ hT (Obj.isFreed_of_fields (Obj.data_mapFields hdT _)),Obj.data_mapFields hdT _,by simp[h3s]⟩
theorem Lies.ag3{B h2:Heap}{ea Cc C L:Addr}{a0:Value}{o o2:Obj}(l:Lies X H H' s B ea Cc a0 s')(held:Heap.HeldW B X.stack ea (.ref Cc) a0 L s'.heap)(sb:Heap.SameBut C s'.heap h2)(h2C:h2.get? C=some o2)(o2f:o2.isFreed=false)(hn:H C=none)(hs:s.heap.get? C=some o)(nf:C∉frs X.stack) :
  ∃B',Lies X H H' { s with heap:=s.heap.update C fun _=>o2 } B' ea Cc a0 { s' with heap:=h2 }/\Heap.HeldW B' X.stack ea (.ref Cc) a0 L h2:=by
 obtain⟨oC,eC⟩:=l.un.there C o hs (by simp);have n':H' C=none:=l.un.free C o hs hn (by simp);have hB:B.get? C=some oC:=l.inB C oC eC nf (.inr ⟨o,hs⟩);have b1:(B.update C fun _=>o2).get? C=some o2:=Heap.get?_update_self _ hB o2f;have b2:∀b,b≠C->(B.update C fun _=>o2).get? b=B.get? b:=fun b hb=>Heap.get?_update_other _ _ (Ne.symm hb);have s1:(s.heap.update C fun _=>o2).get? C=some o2:=Heap.get?_update_self _ hs o2f;have s2:∀b,b≠C->(s.heap.update C fun _=>o2).get? b=s.heap.get? b:=fun b hb=>Heap.get?_update_other _ _ (Ne.symm hb);have h2o:∀b,b≠C->h2.get? b=s'.heap.get? b:=sb.2;have ne:∀{b:Addr},B.get? b=none->b≠C:=fun{b} h z=>by rw[z,hB] at h;cases h
 obtain⟨f1,f2,f3,oe,vs,T,oT,ts,he,hcls,hd,h1,hnT,hTe,hT,hdT,h3⟩:=held;refine⟨B.update C fun _=>o2,⟨l.os,l.bare,⟨fun b u e n1 n2 n3=>?_,fun b u e n1 n2 n3=>?_,fun b u e n1 n2=>?_,fun b u e n1=>?_,l.un.tups,l.un.frzs,l.un.tbls⟩,?_,fun b u e n1 q=>?_⟩,fun b u e=>?_,(b2 ea (ne f2)).trans f2,V0 b2 h2o hB f3,oe,vs,T,oT,ts,(h2o ea (ne f2)).trans he,hcls,hd,h1,(b2 T (ne hnT)).trans hnT,hTe,(h2o T (ne hnT)).trans hT,hdT,h3⟩
 ·by_cases z:b=C
  ·subst z;rw[show({ s with heap:=s.heap.update b fun _=>o2 }:Shared).heap.get? b=_ from s1] at e;cases e;exact h2C
  ·exact(h2o b z).trans (l.un.keep b u ((s2 b z).symm.trans e) n1 n2 n3)
 ·have z:b≠C:=fun z=>nf (z▸n2);obtain⟨sl,q⟩:=l.un.slot b u ((s2 b z).symm.trans e) n1 n2 n3;exact⟨sl,(h2o b z).trans q⟩
 ·by_cases z:b=C
  ·subst z;exact n'
  ·exact l.un.free b u ((s2 b z).symm.trans e) n1 n2
 ·by_cases z:b=C
  ·subst z;exact⟨_,h2C⟩
  ·obtain⟨w,q⟩:=l.un.there b u ((s2 b z).symm.trans e) n1;exact⟨w,(h2o b z).trans q⟩
 ·intro a u e;exact (l.hok a u e).R7 (fun b w hb q=>by
   have:b≠C:=fun z=>by
    rcases hb with rfl|hb
    ·rw[z,n'] at e;cases e
    ·rw[z,n'] at hb;cases hb
   exact (h2o b this).trans q) (fun b hb=>hb) (fun b xs hb=>hb)
 ·by_cases z:b=C
  ·subst z;rw[show({ s' with heap:=h2 }:Shared).heap.get? b=_ from h2C] at e;cases e;exact b1
  ·refine(b2 b z).trans (l.inB b u ((h2o b z).symm.trans e) n1 ?_);rcases q with q|⟨o0,q⟩
   ·exact .inl q
   ·exact .inr ⟨o0,(s2 b z).symm.trans q⟩
 ·by_cases z:b=C
  ·subst z;rw[b1] at e;cases e;exact h2C
  ·exact(h2o b z).trans (f1 b u ((b2 b z).symm.trans e))
noncomputable def ai2(X:Cx)(Ξ:XK)(pins:List (Addr×Obj))(scope:Scope)(N':List Str)(cl:List (Str×Addr))(fp:List Addr)(C:Addr)(s:Shared)(H:Hp):Value->Shared->Prop :=
 fun e s'=>∃pins1 σ1 H1 s1,Inv (c8 X pins scope N' cl C s H fp) pins1 σ1 H1 s1/\CXE X.prog X.w X.stack H1 s1 Ξ e s'
noncomputable def bs3(X:Cx)(pins:List (Addr×Obj))(σ:St)(Q:VK):Value->Addr->Result->Shared->Prop:=fun acc C r s'=>match r with
 |.ok _=>∃m,s'.heap.Ns C m/\∀h',Heap.SameBut C s'.heap h'->EP X pins σ Q acc { s' with heap:=h' }
 |.error x=>∃m,s'.heap.Ns C m/\∀h' m',h'.Ns C m'->Heap.SameBut C s'.heap h'->∀cenv:Env,cenv.frame=X.env.frame->wpAny (model X.prog X.w) X.A (PySem.passOn "comprehension.variables-let-go" x cenv:Sem Value) (fun _ _=>False) X.xe { s' with heap:=h' }
theorem aW8{elt tg iter:Expr}{ifs:List Expr}{scope:Scope}{N':List Str}{b9:List Nat}{cl:List (Str×Addr)}{pos:Pos}{wi:TI}{g:TG}{tc:TT}{te:TE}{Ξ:XK}(hst:X.stack=X.env::X.outer)(hf:X.env.frame=some X.env.locals)(hh:Q9 X Ξ)(S:CompScope X scope N' b9 cl)(hc:X.calm=true)(hi:PI X tg iter wi)(hg:∀pins C s H fp,PG (c8 X pins scope N' cl C s H fp) tg g)(ht:∀pins C s H fp,PTs (c8 X pins scope N' cl C s H fp) ifs tc)(he:∀pins C s H fp,PE ((c8 X pins scope N' cl C s H fp).G5 (ai2 X Ξ pins scope N' cl fp C s H)) elt te)(hs:∀x,foldedSetIterable iter X.env x=pure x):PE X (.ListComp elt [⟨tg,iter,ifs,0⟩] scope pos) (af0 wi b9 N'.length g tc te):=by
 intro pins s σ H Q I h;rw[eval_ListComp];refine a09 (RX:=bs3 X pins σ Q)
  rfl hs S.clos S.kind S.names (fun _ _ _ _ z=>z) (fun _ _ _ _ z=>z) (thn (hi pins s σ H _ I h) fun xv s1 h1=>thn h1 fun itv s2 h2=>?_)
 obtain⟨it,fp,tn,J,H2,e,I2,T,st2,f2,W,⟨m0,w0⟩,turn⟩:=h2;subst e;refine U2 (xx:=fun C s H=>ai2 X Ξ pins scope N' cl fp C s H) (RR:=bs3 X pins σ Q) S hc (fun C s H=>hg pins C s H fp) (fun C s H=>ht pins C s H fp) (fun C s H=>he pins C s H fp) I2 T st2 f2 w0 turn ?_ ?_
 ·intro D C s' H' m I' q hn hC hsz;exact⟨m,hn,fun h' sb=>⟨.ref D,H',I'.ag3 hsz I2 hC sb,rfl,q⟩⟩
 ·rintro D C e s' hsz ⟨pins1,σ1,H1,s1,K1,cx⟩;obtain⟨Cc,H',ho,hb,hu,hok,⟨ea,a0,B,rfl,fw,hB⟩,hE⟩:=cx;have J1:Inv X pins σ H1 s1:=I2.aw4 f2 K1;have l:Lies X H1 H' s1 B ea Cc a0 s':=⟨ho,hb,hu,hok,hB⟩
  have fw':=fw;rw[hst] at fw';show wpAny (model X.prog X.w) X.A (noteFrame (.ref ea) X.env) _ _ s';refine wpAny_looks_onW (by rw[J1.ok.frames,hst]) hf fw' fun h3 held us=>?_;rw[<- hst] at held;have l1:=l.step J1 held.1 us;have lc:Lies (c8 X pins scope N' cl C s2 H2 fp) H1 H' s1 B ea Cc a0 { s' with heap:=h3 }:=⟨l1.os,l1.bare,l1.un,l1.hok,l1.inB⟩
  obtain⟨mC,hmC,_⟩:=(lc.inv K1).loc;refine⟨mC,hmC,fun h4 m4 n4 sb cenv hfr=>?_⟩;obtain⟨o4,es,ep,e4,_⟩:=n4;have o4f:o4.isFreed=false:=(Heap.get?_some_iff.mp e4).2;obtain⟨m1,⟨o1,es1,ep1,e1,_⟩,_⟩:=K1.loc;have n1:H1 C=none:=K1.free;have nf:C∉frs X.stack:=fun z=>by
   rcases List.mem_cons.mp (I2.E9 C z) with z|z
   ·exact absurd I2.lt (by rw[<- z];exact Nat.not_lt.mpr hsz)
   ·exact I2.aG2 hsz z
  obtain⟨B2,l2,held2⟩:=l1.ag3 held sb e4 o4f n1 e1 nf;have J2:Inv X pins σ H1 { s1 with heap:=s1.heap.update C fun _=>o4 }:=J1.ag3 hsz I2 n1 (Heap.SameBut.update _ _ _);unfold PySem.passOn;obtain⟨g1,g2,g3,oe,vs,T',oT,ts,he',hcls,hd,hh1,_⟩:=id held2;refine wpAny_bind (wpAny_field he' hd hh1 ?_);rw[if_neg (by simp),hfr,hf];refine wpAny_bind (ay9 held2 fun h5 held5 k5=>wpAny_throw ?_);have l5:=l2.step J2 held5.1 (fun b o hb hn=>⟨o.slots,k5 b o hb hn⟩);exact hh pins σ H1 H' _ _ B2 ea Cc a0 J2 l5 held5 hE
end
end L2

namespace L2
open PySem PySem.Spec PyProof.Rows
section
variable{X:Cx}
theorem bx3{e:Expr}{t:TE}{pos:Pos}(he:PE X e t):PE X (.FormattedValue e (-1) none pos) (fun σ H Q=>t σ H fun x H1=>(∃i,x=.int i/\i.natAbs.log2<1920/\Q (.str (toString i)) H1)\/∃y,x=.str y/\y.length<=sizeLine/\Q (.str y) H1):=by
 intro pins s σ H Q I h;refine wpAny_FormattedValue_plain (thn (he pins s σ H _ I h) fun v s1 ⟨x,H1,I1,r1,q1⟩=>?_);rcases q1 with⟨i,rfl,hd,q⟩|⟨y,rfl,hy,q⟩
 ·obtain⟨t,rfl⟩:=r1;exact wpAny_formatField_int hd ⟨.str _,H1,I1.tok _,⟨_,rfl⟩,q⟩
 ·obtain⟨t,rfl⟩:=r1;exact wpAny_formatField_str ⟨.str _,H1,I1,⟨_,rfl⟩,q⟩ ⟨.str _,H1,I1.tok _,⟨_,rfl⟩,q⟩ hy
inductive PJs(X:Cx):List Expr->List TE->Prop
 |nil:PJs X [] []
 |cons {e:Expr} {t:TE} {es:List Expr} {ts:List TE} (h:PE X e t) (r:PJs X es ts):PJs X (e::es) (t::ts)
noncomputable def ap3:List TE->St->Hp->Str->(Str->Hp->Prop)->Prop
 |[],_,H,acc,Q=>Q acc H
 |t::ts,σ,H,acc,Q=>t σ H fun x H1=>∃y,x=.str y/\(acc++y).length<=sizeLine/\ap3 ts σ H1 (acc++y) Q
theorem av0{pins:List (Addr×Obj)}{σ:St}{Q:Str->Hp->Prop}:∀{es:List Expr} {ts:List TE},PJs X es ts->∀{s:Shared} {H:Hp} {acc:Str},Inv X pins σ H s->ap3 ts σ H acc Q ->
  Joins (model X.prog X.w) X.A X.xe (evalEach es X.env) acc (fun out s1=>∃H1,Inv X pins σ H1 s1/\Q out H1) s
 |_,_,.nil,s,H,acc,I,h=>⟨H,I,h⟩
 |_,_,.cons he r,s,H,acc,I,h=>by
  rw[arm_evalEach_cons];refine thn (he pins s σ H _ I h) fun v s1 ⟨x,H1,I1,r1,y,ey,hy,q1⟩=>?_;subst ey;obtain⟨t,rfl⟩:=r1;exact⟨y,t,rfl,hy,av0 r I1 q1⟩
theorem ai8{M:Model}{A:Around}{E:Value->Shared->Prop}{Q Q':Str->Shared->Prop}(hq:∀x s,Q x s->Q' x s):∀{l:List (Sem Value)} {acc:Str} {s:Shared},Joins M A E l acc Q s->Joins M A E l acc Q' s
 |[],acc,s,h=>hq _ _ h
 |x::r,acc,s,h=>thn h fun v s1 ⟨y,t,e,hz,h1⟩=>⟨y,t,e,hz,ai8 hq h1⟩
theorem bb7{v₁ v₂:Expr}{rest:List Expr}{ts:List TE}{pos:Pos}(h:PJs X (v₁::v₂::rest) ts):PE X (.JoinedStr (v₁::v₂::rest) pos) (fun σ H Q=>ap3 ts σ H Str.empty fun out H1=>out.length<=sizeLine/\Q (.str out) H1):=by
 intro pins s σ H Q I hw;refine wpAny_JoinedStr (ai8 (fun x s1 ⟨H1,I1,hl,q⟩=>⟨hl,.str x,H1,I1.tok _,⟨_,rfl⟩,q⟩) (av0 h I hw))
theorem aH6{lo:Int}{acc:Array Value}{n:Nat}(h:ItemsOf (fun i v=>∃t,v=.int (lo+i*1) t) acc n):Vals ((List.range n).map fun(k:Nat)=>V.int (lo+k)) acc.toList:=by
 have hl:acc.toList.length=n:=by
  have:=h.1;simpa using this
 have go:∀(m:Nat) (l:List Value),l.length<=n->m+l.length=n->(∀i v,l[i]?=some v->∃t,v=Value.int (lo+((m+i:Nat):Int)) t)->Vals ((List.range' m l.length).map fun(k:Nat)=>V.int (lo+k)) l:=by
  intro m l
  induction l generalizing m with
  |nil=>intro _ _ _;exact .nil
  |cons x r ih =>
   intro h1 h2 h3;simp only[List.length_cons,List.range'_succ,List.map_cons];refine .cons ?_ (ih (m+1) (by simp at h1;omega) (by simp at h2;omega) fun i v hv=>?_)
   ·obtain⟨t,e⟩:=h3 0 x rfl;exact⟨t,by rw[e];simp⟩
   ·obtain⟨t,e⟩:=h3 (i+1) v (by simpa using hv);exact⟨t,by rw[e,show m+(i+1)=m+1+i by omega]⟩
 have:=go 0 acc.toList (by omega) (by omega) fun i v hv=>?_
 ·rw[hl,<- List.range_eq_range'] at this;exact this
 ·have hi:i<n:=by
   have:=(List.getElem?_eq_some_iff.mp hv).1;omega
  have:acc[i]?=some v:=by rw[<- Array.getElem?_toList];exact hv
  obtain⟨t,e⟩:=h.2 i v this;refine⟨t,?_⟩;rw[e];simp
theorem U9(hc:X.calm=true):j4 X (.type "list") (fun xs H Q=>∃a lo hi,xs=[.ref a]/\H a=some (.rng lo hi)/\(-(2 ^ 62)<=lo/\lo<2 ^ 62/\-(2 ^ 62)<=hi/\hi<2 ^ 62/\hi-lo<=100000)/\∀p,H p=none->Q (.ref p) (upd H p (.lst ((List.range (hi-lo).toNat).map fun(k:Nat)=>V.int (lo+k))))):=by
 intro pins s σ H xs us Q I r h;obtain⟨a,lo,hi,rfl,ha,⟨h1,h2,h3,h4,h5⟩,q⟩:=h;obtain⟨t,u,v,ho⟩:=I.hok a _ ha;cases r with
 |cons r rr =>
 cases rr;cases r;have hn:Builtin.Range.rangeSize lo hi 1=((hi-lo).toNat:Nat):=by rw[rangeSize_one];split<;>omega
 refine call_list_range (n:=(hi-lo).toNat) (I.ok.hd hc) ho (small_one h1 h2 h3 h4) hn (by omega) fun h' tk' acc c hk hS hi'=>?_;have hp:H s.heap.objs.size=none:=I.hok.fresh (Nat.le_refl _);refine⟨.ref _,_,I.laid (a:=s.heap.objs.size) (o:=.lst ((List.range (hi-lo).toNat).map fun(k:Nat)=>V.int (lo+k))) (t':=tk') hk (Nat.le_refl _) ⟨?_,acc.toList,c,aH6 hi',by simpa using hS⟩,rfl,q _ hp⟩;rw[List.length_map,List.length_range];have:(hi-lo).toNat<=100000:=by omega
 exact Nat.le_trans this (by decide)
theorem aN8{a:Expr}{ta:TA}{p pos:Pos}(hg:Gl X "range")(hm:X.mg "range"=none)(ha:PA X [a] ta)(hs:starEach [a] X.env=[(false,eval a X.env)]):PE X (.Call (.Name "range" p) [a] [] pos) (fun σ H Q=>ta σ H fun vs H1=>∃j:Int,vs=[.int j]/\∀q,H1 q=none->Q (.ref q) (upd H1 q (.rng 0 j))):=by
 intro pins s σ H Q I h;refine wpAny_Call_Name_kw (M6 I hg hm boot_range (PyProof.Rows.callWith_type1 (thn (ha pos pins s σ H _ I h) fun us s1 ⟨vs,H1,I1,r1,q1⟩=>?_) hs rfl));obtain⟨j,e,q⟩:=q1;subst e;cases r1 with
 |cons r rr =>
  cases rr;obtain⟨t,rfl⟩:=r;exact call_range_1 ⟨.ref s1.heap.objs.size,_,I1.laid (a:=s1.heap.objs.size) (o:=.rng 0 j) (fun b o e=>Heap.get?_push_of_some _ e) (Nat.le_refl _) ⟨_,_,_,Heap.get?_push_size _ rfl⟩,rfl,q _ (I1.hok.fresh (Nat.le_refl _))⟩
theorem aN7{a b:Expr}{ta:TA}{p pos:Pos}(hg:Gl X "range")(hm:X.mg "range"=none)(ha:PA X [a,b] ta)(hs:starEach [a,b] X.env=[(false,eval a X.env),(false,eval b X.env)])(hs2:starEach [b] X.env=[(false,eval b X.env)]):PE X (.Call (.Name "range" p) [a,b] [] pos) (fun σ H Q=>ta σ H fun vs H1=>∃i j:Int,vs=[.int i,.int j]/\∀q,H1 q=none->Q (.ref q) (upd H1 q (.rng i j))):=by
 intro pins s σ H Q I h;refine wpAny_Call_Name_kw (M6 I hg hm boot_range (PyProof.Rows.callWith_type1 (thn (ha pos pins s σ H _ I h) fun us s1 ⟨vs,H1,I1,r1,q1⟩=>?_) (by rw[hs,hs2]) (by rw[hs2];rfl)));obtain⟨i,j,e,q⟩:=q1;subst e;cases r1 with
 |cons r rr =>
  cases rr with
  |cons r' rr =>
   cases rr;obtain⟨t,rfl⟩:=r;obtain⟨t',rfl⟩:=r';exact call_range_2 ⟨.ref s1.heap.objs.size,_,I1.laid (a:=s1.heap.objs.size) (o:=.rng i j) (fun b o e=>Heap.get?_push_of_some _ e) (Nat.le_refl _) ⟨_,_,_,Heap.get?_push_size _ rfl⟩,rfl,q _ (I1.hok.fresh (Nat.le_refl _))⟩
noncomputable def ai7(K:PySem.W.Frag)(P:Params)(a:Addr)(kvs:List (Str×V)):Prop :=
 ∃es n,K.lookup a=some ⟨.type "dict",none,.dict es n,#[]⟩/\PySem.W.KeysLit P es.toList/\(a==sysModules)=false/\∀x,q8 (kvs.lookup x) (findBy Value.isStrOf es x)
theorem aO3{kvs:List (Str×V)}(neg:Bool):OpR X (compareOp (if neg then .NotIn else .In)) (fun x y H Q=>∃a z,y=.ref a/\ai7 X.K X.w.params a kvs/\x=.str z/\Q (.bl (xor neg (kvs.lookup z).isSome)) H):=by
 intro pins s σ H x y v u Q I rx ry h;obtain⟨a,z,rfl,⟨es,n,hl,hk,lo,hf⟩,rfl,q⟩:=h;obtain⟨t,rfl⟩:=rx;cases ry;have hm:=PySem.W.mapOf_K (prog:=X.prog) (w:=X.w) I.kIn hl hk;have e:=hf z;have ee:(findBy Value.isStrOf es z).isSome=(kvs.lookup z).isSome:=by
  cases h1:kvs.lookup z<;>cases h2:findBy Value.isStrOf es z<;>rw[h1,h2] at e<;>first|rfl|exact e.elim
 cases neg
 ·exact wpAny_in_of (strKind_is X.prog X.w z t) lo hm ⟨.bl _,H,I.tok _,by rw[ee];rfl,by simpa using q⟩
 ·exact wpAny_notIn_of (strKind_is X.prog X.w z t) lo hm ⟨.bl _,H,I.tok _,by rw[ee];rfl,by simpa using q⟩
theorem bz4{kvs:List (Str×V)}:IxR X (fun x y H Q=>∃a z v,x=.ref a/\ai7 X.K X.w.params a kvs/\y=.str z/\kvs.lookup z=some v/\Q v H):=by
 intro value slice pins s σ H x y v u Q I rx ry h hs;obtain⟨a,z,d,rfl,⟨es,n,hl,hk,lo,hf⟩,rfl,hz,q⟩:=h;cases rx;obtain⟨t,rfl⟩:=ry;have hm:=PySem.W.mapOf_K (prog:=X.prog) (w:=X.w) I.kIn hl hk;have e:=hf z;rw[hz] at e;cases h2:findBy Value.isStrOf es z with
 |none=>rw[h2] at e;exact e.elim
 |some r =>
  rw[h2] at e;exact tail_any hm.typeIs slot_dict_getitem.lookup (wpAny_getItem_of (strKind_is X.prog X.w z t) hm h2 ⟨d,H,I.tok _,e,q⟩) hs
theorem be2(hu:X.A.units+1<cLine):IxR X (fun x y H Q=>∃a v,x=.ref a/\P1 H a y (some v)/\Q v H):=by
 intro value slice pins s σ H x y v u Q I rx ry h hs;obtain⟨a,d,rfl,g,q⟩:=h;cases rx;exact tail_any (az1 I g) slot_dict_getitem.lookup (aR9 hu I g ry fun w' s3 I3 rw'=>⟨d,H,I3,rw',q⟩) hs
end
end L2

namespace ST
open PySem PyProof.Rows
noncomputable abbrev Ris(xs:Array Nat):Prop:=xs.toList.Pairwise (· < ·)
theorem Ris.lt{xs:Array Nat}(h:Ris xs){i k:Nat}(hik:i<k)(hk:k<xs.size):xs.getD i 0<xs.getD k 0:=by
 have:=List.pairwise_iff_getElem.mp h i k (by simpa using Nat.lt_trans hik hk) (by simpa using hk) hik;simp only[Array.getElem_toList] at this;rw[<- Array.getElem_eq_getD (h:=Nat.lt_trans hik hk),<- Array.getElem_eq_getD (h:=hk)];exact this
theorem Ris.le{xs:Array Nat}(h:Ris xs){i k:Nat}(hik:i<=k)(hk:k<xs.size):xs.getD i 0<=xs.getD k 0:=by
 rcases Nat.eq_or_lt_of_le hik with e|e
 ·rw[e];exact Nat.le_refl _
 ·exact Nat.le_of_lt (h.lt e hk)
theorem ak2{xs:Array Nat}{j:Nat}(h:Ris xs):∀(fuel lo hi:Nat),hi-lo<=fuel->lo<=hi->hi<=xs.size->(∀i,i<lo->xs.getD i 0<j)->(∀i,hi<=i->i<xs.size->j<=xs.getD i 0) ->
  SetTable.below.go xs j fuel lo hi<=xs.size/\(∀i,i<SetTable.below.go xs j fuel lo hi->xs.getD i 0<j)/\∀i,SetTable.below.go xs j fuel lo hi<=i->i<xs.size->j<=xs.getD i 0
 |0,lo,hi,h1,h2,h3,h4,h5=>by
  unfold SetTable.below.go;have:lo=hi:=by omega
  subst this;exact⟨h3,h4,h5⟩
 |fuel+1,lo,hi,h1,h2,h3,h4,h5=>by
  unfold SetTable.below.go;split
  ·rename_i hl;have hm:(lo+hi) / 2<xs.size:=by omega
   have em:xs.getD ((lo+hi) / 2) j=xs.getD ((lo+hi) / 2) 0:=by simp[Array.getD,hm]
   dsimp only;rw[em];by_cases hc:xs.getD ((lo+hi) / 2) 0<j
   ·rw[if_pos hc];exact ak2 h fuel _ hi (by omega) (by omega) h3 (fun i hi'=>Nat.lt_of_le_of_lt (h.le (by omega) hm) hc) h5
   ·rw[if_neg hc];exact ak2 h fuel lo _ (by omega) (by omega) (by omega) h4 fun i hi' hs=>Nat.le_trans (Nat.le_of_not_lt hc) (h.le hi' hs)
  ·have:lo=hi:=by omega
   subst this;exact⟨h3,h4,h5⟩
theorem J7{xs:Array Nat}(j:Nat)(h:Ris xs):SetTable.below xs j<=xs.size/\(∀i,i<SetTable.below xs j->xs.getD i 0<j)/\∀i,SetTable.below xs j<=i->i<xs.size->j<=xs.getD i 0 :=
 ak2 h _ 0 _ (by omega) (by omega) (Nat.le_refl _) (fun i hi=>absurd hi (Nat.not_lt_zero _)) fun i h1 h2=>absurd h2 (by omega)
theorem below_at{xs:Array Nat}(h:Ris xs){i:Nat}(hi:i<xs.size):SetTable.below xs (xs.getD i 0)=i:=by
 obtain⟨h1,h2,h3⟩:=J7 (xs.getD i 0) h;rcases Nat.lt_trichotomy (SetTable.below xs (xs.getD i 0)) i with z|z|z
 ·exact absurd (h3 _ (Nat.le_refl _) (by omega)) (Nat.not_le_of_lt (h.lt z hi))
 ·exact z
 ·exact absurd (h2 i z) (Nat.lt_irrefl _)
theorem aJ0{xs:Array Nat}(h:Ris xs){i:Nat}(hi:i<xs.size):SetTable.below xs (xs.getD i 0+1)=i+1:=by
 obtain⟨h1,h2,h3⟩:=J7 (xs.getD i 0+1) h;rcases Nat.lt_trichotomy (SetTable.below xs (xs.getD i 0+1)) (i+1) with z|z|z
 ·have:=h3 i (by omega) hi;omega
 ·exact z
 ·have:=h2 (i+1) z;have:=h.lt (Nat.lt_succ_self i) (k:=i+1) (by omega);omega
theorem aI9{xs:Array Nat}(h:Ris xs):SetTable.below xs 0=0:=by
 obtain⟨_,h2,_⟩:=J7 0 h;rcases Nat.eq_zero_or_pos (SetTable.below xs 0) with z|z
 ·exact z
 ·exact absurd (h2 0 z) (Nat.not_lt_zero _)
theorem getD_mem{xs:Array Nat}{i:Nat}(hi:i<xs.size):xs[i]?=some (xs.getD i 0):=by simp[Array.getD,hi]
theorem aE7{t:SetTable}{j:Nat}(h:Ris t.place)(hs:t.slot j=.empty):j∉t.place.toList:=by
 intro hm;obtain⟨i,hi,e⟩:=List.mem_iff_getElem.mp hm;have hi':i<t.place.size:=by simpa using hi
 have ej:t.place.getD i 0=j:=by rw[<- Array.getElem_eq_getD (h:=hi')];simpa using e
 have hb:=below_at h hi';rw[ej] at hb;unfold SetTable.slot at hs;dsimp only at hs;rw[hb,getD_mem hi',ej] at hs;simp at hs
theorem aF1{xs:Array Nat}{j:Nat}(h:Ris xs)(hj:j∉xs.toList):Ris (SetTable.insertAt xs (SetTable.below xs j) j):=by
 obtain⟨h1,h2,h3⟩:=J7 j h;show(SetTable.insertAt xs (SetTable.below xs j) j).toList.Pairwise (· < ·);rw[SetTable.toList_insertAt,List.pairwise_append];have tk:∀a∈xs.toList.take (SetTable.below xs j),a<j:=fun a ha=>by
  obtain⟨i,hi,e⟩:=List.mem_iff_getElem.mp ha;rw[List.length_take] at hi;rw[List.getElem_take] at e;have hs:i<xs.size:=by simp at hi;omega
  have:=h2 i (by omega);rw[<- Array.getElem_eq_getD (h:=hs)] at this;simp at e;omega
 have dp:∀b∈xs.toList.drop (SetTable.below xs j),j<b:=fun b hb=>by
  obtain⟨i,hi,e⟩:=List.mem_iff_getElem.mp hb;rw[List.length_drop] at hi;rw[List.getElem_drop] at e;have hs:SetTable.below xs j+i<xs.size:=by simp at hi;omega
  have:=h3 (SetTable.below xs j+i) (by omega) hs;rw[<- Array.getElem_eq_getD (h:=hs)] at this;have hne:b≠j:=fun z=>hj (by rw[<- z];exact List.mem_of_mem_drop hb);simp at e;omega
 refine⟨h.take,List.pairwise_cons.mpr ⟨dp,h.drop⟩,fun a ha b hb=>?_⟩;have ha':=tk a ha;rcases List.mem_cons.mp hb with z|z
 ·omega
 ·have:=dp b z;omega
theorem aM5(n:Nat):Ris (Array.range n):=by
 show(Array.range n).toList.Pairwise (· < ·);rw[Array.toList_range];exact List.pairwise_lt_range
structure Well(L:Bool)(t:SetTable):Prop where
 ris:Ris t.place
 dum:t.dummies=#[]
 led:t.led=L
theorem aX9{t:SetTable}(hd:t.dummies=#[])(j:Nat):t.slot j≠.dummy:=by
 unfold SetTable.slot;dsimp only;split
 ·intro z;cases z
 ·rw[hd];split
  ·rename_i z;simp[SetTable.has] at z
  ·intro z;cases z
theorem ab6{t:SetTable}(hd:t.dummies=#[]){hashAt:Nat->Int}{h:Int}:∀(fuel:Nat) (p:SetTable.Probe) {j:Nat} {dm:Option Nat},p.dummy=none->SetTable.probe.go t hashAt h fuel p=some (.empty j dm)->t.slot j=.empty/\dm=none
 |0,p,j,dm,_,e=>by simp[SetTable.probe.go] at e
 |fuel+1,p,j,dm,hp,e=>by
  unfold SetTable.probe.go at e;have ad:∀q:SetTable.Probe,q.dummy=none->(t.advance q).dummy=none:=fun q hq=>by
   unfold SetTable.advance;split
   ·exact hq
   ·exact hq
  split at e
  ·rename_i hs;cases e;exact⟨hs,hp⟩
  ·rename_i hs;exact absurd hs (aX9 hd _)
  ·split at e
   ·cases e
   ·exact ab6 hd fuel _ (ad p hp) e
theorem aR4{t:SetTable}(hd:t.dummies=#[]){h:Int}{j:Nat}{wd:Bool}(e:t.freeSlot h=some (j,wd)):t.slot j=.empty/\wd=false:=by
 unfold SetTable.freeSlot at e;split at e
 ·rename_i j' dm hp;obtain⟨h1,h2⟩:=ab6 hd _ _ rfl hp;subst h2;cases e;exact⟨h1,rfl⟩
 ·cases e
theorem B1{L:Bool}{t:SetTable}(h:Well L t)(n:Nat):Well L (t.standIn n):=⟨aM5 n,rfl,h.led⟩
theorem ay7{L:Bool}{t:SetTable}{es:Array (Int×Value)}{h:Int}{x:Value}(hw:Well L t):Well L (layNew t es h x).2.1/\(layNew t es h x).2.2.1=false:=by
 unfold layNew;split
 ·rename_i slot wd e;obtain⟨h1,h2⟩:=aR4 hw.dum e;refine⟨?_,h2⟩;have hd:SetTable.has t.dummies slot=false:=by rw[hw.dum];simp[SetTable.has]
  have w2:Well L (t.put slot).1:=⟨aF1 hw.ris (aE7 hw.ris h1),by simp only[SetTable.put,hd];exact hw.dum,hw.led⟩
  dsimp only;unfold SetTable.orStandIn;split
  ·exact w2
  ·exact B1 w2 _
 ·exact⟨B1 hw _,rfl⟩
theorem an3{L:Bool}{mask finger moves:Nat}{led plain:Bool}{hashes:Array Int}{t:SetTable}{o:Array Nat}(hl:led=L)(e:SetTable.laid mask finger moves led plain hashes=some (t,o)):Well L t:=by
 unfold SetTable.laid at e;cases ho:SetTable.layClean mask hashes with
 |none=>rw[ho] at e;cases e
 |some owner =>
  rw[ho] at e;simp only[Option.bind_eq_bind,Option.bind_some,Option.pure_def,Option.some.injEq,Prod.mk.injEq] at e;obtain⟨rfl,_⟩:=e;refine⟨?_,rfl,hl⟩;show(List.map _ _).toArray.toList.Pairwise (· < ·);rw[List.toList_toArray];have sub:((List.range (mask+1)).filterMap fun j=>(owner.getD j none).map (j,·)).map (·.1) |>.Sublist (List.range (mask+1)):=by
   generalize List.range (mask+1)=l
   induction l with
   |nil=>simp
   |cons a r ih =>
    rw[List.filterMap_cons];cases owner.getD a none with
    |none=>exact ih.cons a
    |some k=>exact ih.cons_cons a
  exact List.Pairwise.sublist sub List.pairwise_lt_range
theorem ao9{L:Bool}{t:SetTable}{es:Array (Int×Value)}{n:Nat}(hw:Well L t):Well L (relayAll t es n).2.1:=by
 unfold relayAll;split
 ·rename_i t' order e;dsimp only;split
  ·exact an3 hw.led e
  ·exact B1 hw _
 ·exact B1 hw _
end ST

namespace ST
open PySem PyProof.Rows
noncomputable def toI:Value->Int
 |.int k _=>k
 |_=>0
noncomputable def Led(w:World):Bool:=!(w.params.followText "set-order")
section
variable{prog:Program}{w:World}
noncomputable def f9(prog:Program)(w:World)(h:Heap)(a:Addr)(ks:List Int):Prop :=
 ∃o es ep t,h.get? a=some o/\o.ExactSet/\o.data=.set es ep t/\ElemsOf (intKind prog w) es.toList/\(es.toList.map fun e=>toI e.2).Perm ks/\ks.Nodup/\es.size<scanBound/\t.fits es.size=true/\Well (Led w) t
theorem f9.at{h h':Heap}{a:Addr}{ks:List Int}(x:f9 prog w h a ks)(k:∀o,h.get? a=some o->h'.get? a=some o):f9 prog w h' a ks:=by
 obtain⟨o,es,ep,t,e,r⟩:=x;exact⟨o,es,ep,t,k o e,r⟩
theorem Q5{e:Int×Value}{es:List (Int×Value)}(h:ElemsOf (intKind prog w) es)(he:e∈es):∃tk,e.2=.int (toI e.2) tk/\e.1=(intKind prog w).hash (toI e.2):=by
 obtain⟨⟨k,h1,h2⟩,_⟩:=h e he;obtain⟨t,ht⟩:=Value.isInt_shape (k:=k) (v:=e.2) h1;refine⟨t,by rw[ht];rfl,?_⟩;rw[h2,ht]
 rfl
theorem aR7{e:Int×Value}{es:List (Int×Value)}(h:ElemsOf (intKind prog w) es)(he:e∈es)(k:Int):(intKind prog w).is k e.2=decide (toI e.2=k):=by
 obtain⟨t,ht,_⟩:=Q5 h he;show Value.isInt k e.2=_;rw[ht];generalize toI e.2=m;show Value.isInt k (.int m t)=decide (m=k);by_cases z:m=k
 ·subst z;simp[Value.isInt]
 ·rw[decide_eq_false z];cases hv:Value.isInt k (.int m t) with
  |false=>rfl
  |true =>
   obtain⟨t',e'⟩:=Value.isInt_shape hv;cases e';exact absurd rfl z
theorem f9.mem{a:Addr}{es:List (Int×Value)}{ks:List Int}(h:ElemsOf (intKind prog w) es)(hp:(es.map fun e=>toI e.2).Perm ks)(k:Int):(es.findIdx? fun e=>(intKind prog w).is k e.2).isSome=decide (k∈ks):=by
 rw[Bool.eq_iff_iff,decide_eq_true_iff,<- hp.mem_iff,List.mem_map,Option.isSome_iff_exists];constructor
 ·rintro⟨i,hi⟩;obtain⟨h1,h2,_⟩:=List.findIdx?_eq_some_iff_getElem.mp hi;have hm:=List.getElem_mem h1;rw[aR7 h hm] at h2;exact⟨_,hm,of_decide_eq_true h2⟩
 ·rintro⟨e,he,rfl⟩;cases hf:es.findIdx? fun e'=>(intKind prog w).is (toI e.2) e'.2 with
  |some i=>exact⟨i,rfl⟩
  |none =>
   have:=List.findIdx?_eq_none_iff.mp hf e he;rw[aR7 h he] at this;simp at this
variable{A:Around}{E:Value->Shared->Prop}{s:Shared}
noncomputable def v9(ks:List Int)(k:Int):List Int:=if k∈ks then ks else ks++[k]
theorem ax6(ks:List Int)(k:Int):(v9 ks k).length<=ks.length+1:=by unfold v9;split<;>simp
theorem a72{a:Addr}{ks:List Int}{k:Int}{tk:Tok}{Q:Bool->Shared->Prop}(hS:f9 prog w s.heap a ks)(hr:ks.length+1<scanBound)(h:∀h' b,Heap.SameBut a s.heap h'->f9 prog w h' a (v9 ks k)->Q b { s with heap:=h' }):wpAny (model prog w) A (setAddHashed a (.int k tk) ((intKind prog w).hash k)) Q E s:=by
 obtain⟨o,es,ep,t,ho,hx,hd,hel,hp,hn,hb,hf,hw⟩:=hS;have hlen:es.size=ks.length:=by rw[<- hp.length_eq];simp
 have hkey:(intKind prog w).is k (.int k tk)=true:=intKind_is _ _ _ _;have gv:∀(b:Bool) (s1:Shared) (Q':Unit->Shared->Prop),Q' () s1->wpAny (model prog w) A (match b with|true=>rule "set.scan.the-table-gave-way"|false=>pure ()) Q' E s1:=fun b s1 Q' q=>by
  cases b
  ·exact wpAny_pure q
  ·exact wpAny_rule q
 unfold setAddHashed setAddHashedIn;refine wpAny_holding (wpAny_bind (wpAny_setState_of ho hd hf ?_));dsimp only;rw[byScan_of rfl hb hel,if_pos rfl];unfold setAddByScan;refine wpAny_bind (wpAny_bind (wpAny_rule (wpAny_bind (wpAny_setScan_of hkey ho hd hf hel ?_))));have hm:=f9.mem (a:=a) hel hp k;cases hr':es.toList.findIdx? (fun e=>(intKind prog w).is k e.2) with
 |some j =>
  rw[hr'] at hm;have hk:k∈ks:=by simpa using hm.symm
  refine wpAny_pure (wpAny_pure ?_);have e0:s={ s with heap:=s.heap }:=rfl;rw[e0];refine h s.heap _ (Heap.SameBut.refl a s.heap) ?_;unfold v9;rw[if_pos hk];exact⟨o,es,ep,t,ho,hx,hd,hel,hp,hn,hb,hf,hw⟩
 |none =>
  rw[hr'] at hm;have hk:k∉ks:=by simpa using hm.symm
  dsimp only;have p1:=layNew_perm t es ((intKind prog w).hash k) (.int k tk);have f1:=layNew_fits t es ((intKind prog w).hash k) (.int k tk);obtain⟨w1,wd1⟩:=ay7 (es:=es) (h:=(intKind prog w).hash k) (x:=.int k tk) hw;generalize layNew t es ((intKind prog w).hash k) (.int k tk)=R1 at p1 f1 w1 wd1 ⊢;obtain⟨es1,t1,wd,gave⟩:=R1;dsimp only at p1 f1 w1 wd1 ⊢;subst wd1;rw[Array.toList_push] at p1;have el1:ElemsOf (intKind prog w) es1.toList:=(hel.push hkey rfl).perm p1;have sz1:es1.size=es.size+1:=by rw[<- Array.length_toList,p1.length_eq];simp
  have k1:(es1.toList.map fun e=>toI e.2).Perm (v9 ks k):=by
   unfold v9;rw[if_neg hk];refine(p1.map _).trans ?_;rw[List.map_append];exact hp.append_right _
  have n1:(v9 ks k).Nodup:=by
   unfold v9;rw[if_neg hk,List.nodup_append];exact⟨hn,by simp,fun x hx y hy=>by simp at hy;subst hy;exact fun z=>hk (z▸hx)⟩
  refine wpAny_bind (gv _ _ _ ?_);have fin:∀ (t2:SetTable),t2.fits es1.size=true->Well (Led w) t2->wpAny (model prog w) A (do
    storeSet a es1 t2
    if(!false&&t2.tooFull)=true then do
      (match(relayAll t2 es1 (SetTable.grown es1.size)).2.2 with|true=>rule "set.scan.the-table-gave-way"|false=>pure ())
      storeSet a (relayAll t2 es1 (SetTable.grown es1.size)).1 (relayAll t2 es1 (SetTable.grown es1.size)).2.1
      pure (some true)
     else pure (some true)) (fun r s'=>wpAny (model prog w) A (match r with | some added=>pure added | none=>setAddHashedIn a (.int k tk) ((intKind prog w).hash k) 99999) Q E s') E s:=fun t2 f2 w2=>by
   have g1:(s.heap.update a (Obj.putSet es1 t2)).get? a=some { o with data:=.set es1 (ep+1) t2 }:=by
    have:=Heap.get?_update_self (Obj.putSet es1 t2) ho (by rw[putSet_of es1 t2 hd];rfl);rw[putSet_of es1 t2 hd] at this;exact this
   refine wpAny_bind (wpAny_storeSet_of ho hd ?_ (fits_of_scanBound (by omega)));have sb1:=Heap.SameBut.update s.heap a (Obj.putSet es1 t2);split
   ·have p2:=relayAll_perm t2 es1 (SetTable.grown es1.size);have f3:=relayAll_fits t2 es1 (SetTable.grown es1.size);have w3:=ao9 (es:=es1) (n:=SetTable.grown es1.size) w2;generalize relayAll t2 es1 (SetTable.grown es1.size)=R2 at p2 f3 w3 ⊢;obtain⟨es2,t3,gv2⟩:=R2;dsimp only at p2 f3 w3 ⊢;have sz2:es2.size=es1.size:=by rw[<- Array.length_toList,p2.length_eq,Array.length_toList]
    refine wpAny_bind (gv _ _ _ ?_);refine wpAny_bind (wpAny_storeSet_of g1 rfl ?_ (fits_of_scanBound (by omega)));refine wpAny_pure (wpAny_pure (h _ _ (sb1.trans (Heap.SameBut.update _ a _)) ?_));have g2:((s.heap.update a (Obj.putSet es1 t2)).update a (Obj.putSet es2 t3)).get? a=some { o with data:=.set es2 (ep+1+1) t3 }:=by
     have:=Heap.get?_update_self (Obj.putSet es2 t3) g1 (by rw[putSet_of es2 t3 rfl];rfl);rw[putSet_of es2 t3 rfl] at this;exact this
    exact⟨_,es2,_,t3,g2,hx,rfl,el1.perm p2,(p2.map _).trans k1,n1,by omega,f3,w3⟩
   ·exact wpAny_pure (wpAny_pure (h _ _ sb1 ⟨_,es1,_,t2,g1,hx,rfl,el1,k1,n1,by omega,f1 |> fun _=>f2,w2⟩))
  split
  ·refine wpAny_bind (wpAny_of_eq (hashByValue_scannable 8 rfl) ?_);exact fin _ f1 w1
  ·refine wpAny_bind (wpAny_pure ?_);exact fin _ f1 w1
end
end ST

namespace ST
open PySem PyProof.Rows
theorem aw0:entryFor table "set.__iter__"=some Builtin.«frozenset.__iter__» :=
 entryFor_alias (id':="frozenset.__iter__") (by kernel_rfl) rfl (by decide +kernel) (by kernel_rfl)
theorem p9:Slot "set_iterator" "__next__" "set_iterator.__next__" :=
 .of (owner:="set_iterator") (n:="__next__") (by rw[typeLookup_type,builtinLookup_eq_fast];kernel_rfl) (by decide +kernel) (by decide +kernel) (by decide +kernel)
  (by first|exact .inl (by decide +kernel)|exact .inr (by decide +kernel)) (by rw[isSubtype_type];kernel_rfl)
theorem ac1:entryFor table "set_iterator.__next__"=some Builtin.«set_iterator.__next__»:=entryFor_of_tree (by kernel_rfl)
theorem Y5(a:Value):argsOk "set_iterator.__next__" ⟨[a],[]⟩:=by
 unfold argsOk
 kernel_rfl
theorem V5:Slot "set_iterator" "__iter__" "set_iterator.__iter__" :=
 .of (owner:="set_iterator") (n:="__iter__") (by rw[typeLookup_type,builtinLookup_eq_fast];kernel_rfl) (by decide +kernel) (by decide +kernel) (by decide +kernel)
  (by first|exact .inl (by decide +kernel)|exact .inr (by decide +kernel)) (by rw[isSubtype_type];kernel_rfl)
theorem az0:entryFor table "set_iterator.__iter__"=some Builtin.«dict_keyiterator.__iter__» :=
 entryFor_alias (id':="dict_keyiterator.__iter__") (by kernel_rfl) rfl (by decide +kernel) (by kernel_rfl)
theorem ax5(a:Value):argsOk "set_iterator.__iter__" ⟨[a],[]⟩:=by
 unfold argsOk
 kernel_rfl
end ST

namespace ST
open PySem PyProof.Rows
inductive Rd|text|plain|drawn
structure Lies(h:Heap)(a:Addr)(es:Array (Int×Value))(ep:Nat)(t:SetTable):Prop where
 at_:∃o,h.get? a=some o/\o.cls=.type "set"/\o.data=.set es ep t
 fit:t.fits es.size=true
theorem Lies.at{h h':Heap}{a:Addr}{es:Array (Int×Value)}{ep:Nat}{t:SetTable}(x:Lies h a es ep t)(k:∀o,h.get? a=some o->h'.get? a=some o):Lies h' a es ep t :=
 ⟨let ⟨o,e,r⟩:=x.at_;⟨o,k o e,r⟩,x.fit⟩
noncomputable def t9(h:Heap)(I a:Addr)(f:Value)(i n ep:Nat):Prop:=∃o,h.get? I=some o/\o.cls=.type "set_iterator"/\o.data=.fields #[f,rawInt i,.ref a,rawInt n,rawInt ep]
theorem t9.at{h h':Heap}{I a:Addr}{f:Value}{i n ep:Nat}(x:t9 h I a f i n ep)(k:∀o,h.get? I=some o->h'.get? I=some o):t9 h' I a f i n ep:=let ⟨o,e,r⟩:=x;⟨o,k o e,r⟩
theorem t9.ty{s:Shared}{I a:Addr}{f:Value}{i n ep:Nat}(x:t9 s.heap I a f i n ep):s.TypeIs (.ref I) "set_iterator":=let ⟨o,e,c,_⟩:=x;⟨o,e,c⟩
noncomputable def af6(w:World)(a:Addr)(es:Array (Int×Value))(ep:Nat)(pl:List Nat):Rd->List Value
 |.text=>(pickOrder (w.params.setOrder a ep) es).toList.map (·.2)
 |.plain=>es.toList.map (·.2)
 |.drawn=>pl.map fun j=>(es.getD j (0,.none)).2
noncomputable def slotAt(t:SetTable):Nat->Nat
 |0=>0
 |i+1=>t.place.getD i 0+1
noncomputable def E2(h:Heap)(t:SetTable)(b:Addr)(pl:List Nat)(i:Nat)(f:Value):Rd->Prop
 |.text=>∃k:Nat,f=rawInt k
 |.plain=>f=rawInt (slotAt t i)
 |.drawn=>f=.ref b/\∃o e,h.get? b=some o/\o.cls=.type "tuple"/\o.data=.seq (pl.map fun j=>rawInt (j:Nat)).toArray e
noncomputable def al3(w:World)(es:Array (Int×Value))(t:SetTable)(pl:List Nat):Rd->Prop
 |.text=>w.params.followText "set-order"=true
 |.plain=>w.params.followText "set-order"=false/\(t.plain=true\/es.size<=1)/\Well true t
 |.drawn=>w.params.followText "set-order"=false/\pl.Perm (List.range es.size)
section
variable{prog:Program}{w:World}{A:Around}{E:Value->Shared->Prop}{s:Shared}{a:Addr}{es:Array (Int×Value)}{ep:Nat}{t:SetTable}
theorem M8{Q:Bool->Shared->Prop}(h:Q (w.params.followText "set-order") s):wpAny (model prog w) A setsByText Q E s:=by
 unfold setsByText;exact wpAny_bind (wpAny_askSetting (wpAny_pure h))
theorem am6(hL:Lies s.heap a es ep t)(ht:w.params.followText "set-order"=true){sl g:Nat}{Q:Option (Value×Nat)->Shared->Prop}(h:Q (((pickOrder (w.params.setOrder a ep) es)[g]?).map fun e=>(e.2,sl)) s) :
  wpAny (model prog w) A (setNext a sl g ep) Q E s:=by
 obtain⟨o,ho,_,hd⟩:=hL.at_;unfold setNext;refine wpAny_bind (wpAny_setState_of ho hd hL.fit ?_);refine wpAny_bind (M8 ?_);rw[ht,if_pos rfl,if_neg (by simp)];unfold setWalk;refine wpAny_bind (wpAny_bind (wpAny_setState_of ho hd hL.fit ?_));refine wpAny_bind (M8 ?_);rw[ht,if_pos rfl];exact wpAny_bind (wpAny_askSetting (wpAny_pure (wpAny_pure h)))
theorem af9(hL:Lies s.heap a es ep t)(ht:w.params.followText "set-order"=false)(hp:t.plain=true\/es.size<=1)(hl:t.led=true){sl g:Nat}{Q:Option (Value×Nat)->Shared->Prop}(h:Q (match es[SetTable.below t.place sl]?,t.place[SetTable.below t.place sl]? with|some (_,x),some j=>some (x,j+1)|_,_=>none) s):wpAny (model prog w) A (setNext a sl g ep) Q E s:=by
 obtain⟨o,ho,_,hd⟩:=hL.at_;unfold setNext;refine wpAny_bind (wpAny_setState_of ho hd hL.fit ?_);refine wpAny_bind (M8 ?_);rw[ht,if_neg (by decide)];show wpAny _ _ (if(!t.plain&&decide (es.size>1))=true then _ else _) _ _ _;rw[if_neg (by rcases hp with e|e<;>simp[e])];refine wpAny_bind (wpAny_of_eq (a:=()) ?_ (wpAny_pure h));show((if(!t.led&&!es.isEmpty)=true then unsupported "set:maker-not-led" else pure ()):Sem Unit)=pure ();rw[hl]
 rfl
theorem aG3(hL:Lies s.heap a es ep t){j:Nat}(hj:j<es.size){Q:Value->Shared->Prop}(h:Q (es.getD j (0,.none)).2 s):wpAny (model prog w) A (setNextDrawn a j ep) Q E s:=by
 obtain⟨o,ho,_,hd⟩:=hL.at_;unfold setNextDrawn;refine wpAny_bind (wpAny_setState_of ho hd hL.fit ?_);dsimp only;rw[if_neg (by simp)];have e:es[j]?=some (es.getD j (0,.none)):=by simp[Array.getD,hj]
 rw[e];exact wpAny_pure h
end
end ST

namespace ST
open PySem PyProof.Rows
section
variable{prog:Program}{w:World}{A:Around}{E:Value->Shared->Prop}{s:Shared}{a I b:Addr}{es:Array (Int×Value)}{ep:Nat}{t:SetTable}{pl:List Nat}
theorem ar8(hL:Lies s.heap a es ep t):t.place.size=es.size:=by
 have:=hL.fit;unfold SetTable.fits at this;simp at this;exact this.1
theorem ai3(hw:Ris t.place){i:Nat}(hi:i<=t.place.size):SetTable.below t.place (slotAt t i)=i:=by
 cases i with
 |zero=>exact aI9 hw
 |succ i=>exact aJ0 hw (by omega)
theorem entries{Q:Array (Int×Value)->Shared->Prop}(hL:Lies s.heap a es ep t)(h:Q es s):wpAny (model prog w) A (setEntries a) Q E s:=by
 obtain⟨o,ho,_,hd⟩:=hL.at_;unfold setEntries;exact wpAny_bind (wpAny_setState_of ho hd hL.fit (wpAny_pure h))
theorem bJ4{f f':Value}{i n:Nat}{h:Heap}(hi:t9 h I a f i n ep){x:Value}(hx:x=rawInt ((i:Int)+1)):t9 ((h.update I (Obj.mapFields (·.setIfInBounds 0 f'))).update I (Obj.mapFields (·.setIfInBounds 1 x))) I a f' (i+1) n ep:=by
 obtain⟨o,ho,hc,hd⟩:=hi;have h1:=Heap.get?_update_self (Obj.mapFields (·.setIfInBounds 0 f')) ho (Obj.isFreed_of_fields (Obj.data_mapFields hd _));have d1:(Obj.mapFields (·.setIfInBounds 0 f') o).data=.fields #[f',rawInt i,.ref a,rawInt n,rawInt ep]:=by rw[Obj.data_mapFields hd];simp
 have h2:=Heap.get?_update_self (Obj.mapFields (·.setIfInBounds 1 x)) h1 (Obj.isFreed_of_fields (Obj.data_mapFields d1 _));refine⟨_,h2,(Obj.cls_mapFields ..).trans ((Obj.cls_mapFields ..).trans hc),?_⟩;rw[Obj.data_mapFields d1];subst hx;simp[rawInt]
theorem bJ5{f:Value}{i n:Nat}{h:Heap}(hi:t9 h I a f i n ep){x:Value}(hx:x=rawInt ((i:Int)+1)):t9 (h.update I (Obj.mapFields (·.setIfInBounds 1 x))) I a f (i+1) n ep:=by
 obtain⟨o,ho,hc,hd⟩:=hi;have h2:=Heap.get?_update_self (Obj.mapFields (·.setIfInBounds 1 x)) ho (Obj.isFreed_of_fields (Obj.data_mapFields hd _));refine⟨_,h2,(Obj.cls_mapFields ..).trans hc,?_⟩;rw[Obj.data_mapFields hd];subst hx;simp[rawInt]
theorem bk6{α:Type}{f f' x:Value}{i n:Nat}{m:Sem α}{Q':α->Shared->Prop}(hi:t9 s.heap I a f i n ep)(hx:x=rawInt ((i:Int)+1))(h:∀h',t9 h' I a f' (i+1) n ep->Heap.SameBut I s.heap h'->wpAny (model prog w) A m Q' E { s with heap:=h' }) :
  wpAny (model prog w) A (do setField (.ref I) 0 f';setField (.ref I) 1 x;m) Q' E s:=by
 obtain⟨o,ho,hc,hd⟩:=id hi;refine wpAny_bind (wpAny_setField ho hd (by simp) ?_);have h1:=Heap.get?_update_self (Obj.mapFields (·.setIfInBounds 0 f')) ho (Obj.isFreed_of_fields (Obj.data_mapFields hd _));have d1:(Obj.mapFields (·.setIfInBounds 0 f') o).data=.fields #[f',rawInt i,.ref a,rawInt n,rawInt ep]:=by rw[Obj.data_mapFields hd];simp
 refine wpAny_bind (wpAny_setField (s:={ s with heap:=_ }) h1 d1 (by simp) ?_);exact h _ (bJ4 hi hx) ((Heap.SameBut.update ..).trans (Heap.SameBut.update ..))
theorem bF9{α:Type}{f x:Value}{i n:Nat}{m:Sem α}{Q':α->Shared->Prop}(hi:t9 s.heap I a f i n ep)(hx:x=rawInt ((i:Int)+1))(h:∀h',t9 h' I a f (i+1) n ep->Heap.SameBut I s.heap h'->wpAny (model prog w) A m Q' E { s with heap:=h' }) :
  wpAny (model prog w) A (do setField (.ref I) 1 x;m) Q' E s:=by
 obtain⟨o,ho,hc,hd⟩:=id hi;refine wpAny_bind (wpAny_setField ho hd (by simp) ?_);exact h _ (bJ5 hi hx) (Heap.SameBut.update ..)
theorem S2{α:Type}(next:Nat->Nat)(xs:Array α):(pickOrder next xs).toList.Perm xs.toList:=by
 have go:∀(fuel k:Nat) (left:List α) (out:Array α),fuel=left.length->(pickOrder.go next fuel k left out).toList.Perm (out.toList++left):=by
  intro fuel
  induction fuel with
  |zero =>
   intro k left out e;have:left=[]:=List.eq_nil_of_length_eq_zero e.symm;subst this;simp[pickOrder.go]
  |succ n ih =>
   intro k left out e;have hlt:next k % left.length<left.length:=Nat.mod_lt _ (by omega)
   unfold pickOrder.go;rw[List.getElem?_eq_getElem hlt];refine(ih _ _ _ (by rw[List.length_eraseIdx_of_lt hlt];omega)).trans ?_;rw[Array.toList_push,List.append_assoc];refine List.Perm.append_left _ ?_;have:left.Perm (left[next k % left.length]::left.eraseIdx (next k % left.length)):=by
    rw[List.eraseIdx_eq_take_drop_succ]
    conv=>lhs;rw[<- List.take_append_drop (next k % left.length) left,List.drop_eq_getElem_cons hlt]
    exact List.perm_middle
   exact this.symm
 have:=go xs.size 0 xs.toList #[] (by simp);simpa[pickOrder] using this
theorem next_item{r:Rd}{i:Nat}{f:Value}{Q:Option Value->Shared->Prop}(hL:Lies s.heap a es ep t)(hr:al3 w es t pl r)(hi:t9 s.heap I a f i es.size ep)(hf:E2 s.heap t b pl i f r)(hne:b≠I)(hlt:i<es.size)(h:∀v h' f',(af6 w a es ep pl r)[i]?=some v->t9 h' I a f' (i+1) es.size ep->E2 h' t b pl (i+1) f' r->Heap.SameBut I s.heap h'->Q (some v) { s with heap:=h' }):wpAny (model prog w) A (pyNext (.ref I)) Q E s:=by
 obtain⟨o,ho,hc,hd⟩:=id hi;unfold pyNext;refine wpAny_bind (wpAny_attempt (wpAny_callSpecial?_slot (name:=Str.ofString "__next__") hi.ty p9 (wpAny_call_entry p9 hi.ty ac1 ?_ (Y5 _))));unfold Builtin.«set_iterator.__next__»;refine wpAny_bind (wpAny_pure ?_);refine wpAny_bind (wpAny_fieldsOf ho hd ?_);dsimp only[rawInt];refine wpAny_bind (entries hL ?_);rw[if_neg (by simp)];rw[Int.toNat_natCast,Int.toNat_natCast];cases r with
 |text =>
  obtain⟨k,rfl⟩:=hf;dsimp only[rawInt];refine wpAny_bind (am6 hL hr ?_);have hl:i<(pickOrder (w.params.setOrder a ep) es).size:=by
   have:=(S2 (w.params.setOrder a ep) es).length_eq;simp at this;omega
  rw[Array.getElem?_eq_getElem hl];refine bk6 hi rfl fun h' h1 h2=>wpAny_pure ⟨_,rfl,wpAny_pure (h _ _ _ ?_ h1 ⟨_,rfl⟩ h2)⟩;show((pickOrder (w.params.setOrder a ep) es).toList.map (·.2))[i]?=_;simp[hl]
 |plain =>
  obtain⟨r1,r2,r3⟩:=hr;have hs:=ar8 hL;obtain rfl:=hf;dsimp only[rawInt];rw[Int.toNat_natCast];refine wpAny_bind (af9 hL r1 r2 r3.led ?_);rw[ai3 r3.ris (by omega),Array.getElem?_eq_getElem hlt,getD_mem (by omega)];refine bk6 hi rfl fun h' h1 h2=>wpAny_pure ⟨_,rfl,wpAny_pure (h _ _ _ ?_ h1 rfl h2)⟩;show(es.toList.map (·.2))[i]?=_;simp[hlt]
 |drawn =>
  obtain⟨r1,r2⟩:=hr;obtain⟨rfl,ob,e,hb,hbc,hbd⟩:=hf;have hpl:i<pl.length:=by rw[r2.length_eq];simpa using hlt
  dsimp only;refine wpAny_bind (wpAny_seqItems hb hbd ?_);have hj:pl[i]<es.size:=by
   have:=r2.mem_iff.mp (List.getElem_mem hpl);simpa using this
  have e1:(pl.map fun j=>rawInt (j:Nat)).toArray[i]?=some (rawInt (pl[i]:Nat)):=by simp[hpl]
  dsimp only;rw[e1];dsimp only[rawInt];rw[Int.toNat_natCast];refine wpAny_bind (aG3 hL hj ?_);refine bF9 hi rfl fun h' h1 h2=>wpAny_pure ⟨_,rfl,wpAny_pure (h _ _ _ ?_ h1 ⟨rfl,ob,e,by rw[h2.2 b hne];exact hb,hbc,hbd⟩ h2)⟩;show(pl.map fun j=>(es.getD j (0,.none)).2)[i]?=_;simp[hpl]
theorem ac7{Q:Option Value->Shared->Prop}{I:Addr}{h0:Heap}(hh:A.handled=none)(h0s:Heap.ExtBut I h0 s.heap)(h:∀h',Heap.ExtBut I h0 h'->Q none { s with heap:=h' }) :
  wpAny (model prog w) A.in1 (newExc (.type "StopIteration") [] >>= fun e=>(raiseNew e:Sem Fin)) (fun fin s'=>∃v,fin=Fin.done (Flow.ret v)/\wpAny (model prog w) A (pure (some v)) Q E s')
   (fun e s'=>wpAny (model prog w) A (do
     let x <- isInstance e (Value.type "StopIteration")
     if x=true then pure none else throw e) Q E s') s:=by
 refine wpAny_bind ?_;simp only[newExc,newTuple];refine wpAny_bind (wpAny_newObj_type ?_ (by size_fits));refine wpAny_bind (m:=firstArgMember _ _) (wpAny_of_eq (a:=Value.none) (by first|rfl|(simp only[firstArgMember];rfl)) ?_);refine wpAny_newObj_type ?_ (by size_fits);simp only[raiseNew];refine wpAny_bind (wpAny_handled ?_);rw[show A.in1.handled=none from hh];refine wpAny_bind (wpAny_pure (wpAny_throw ?_));refine wpAny_bind (wpAny_isInstance (T:="StopIteration") (b:=true) ⟨_,Heap.get?_push_size _ rfl,rfl⟩ isSubtype_stop ?_);exact wpAny_pure (h _ ((h0s.push _).push _))
theorem next_end{r:Rd}{f:Value}{Q:Option Value->Shared->Prop}(hh:A.handled=none)(hL:Lies s.heap a es ep t)(hr:al3 w es t pl r)(hi:t9 s.heap I a f es.size es.size ep)(hf:E2 s.heap t b pl es.size f r)(hne:b≠I)(h:∀h',Heap.ExtBut I s.heap h'->Q none { s with heap:=h' }):wpAny (model prog w) A (pyNext (.ref I)) Q E s:=by
 obtain⟨o,ho,hc,hd⟩:=id hi;unfold pyNext;refine wpAny_bind (wpAny_attempt (wpAny_callSpecial?_slot (name:=Str.ofString "__next__") hi.ty p9 (wpAny_call_entry p9 hi.ty ac1 ?_ (Y5 _))));unfold Builtin.«set_iterator.__next__»;refine wpAny_bind (wpAny_pure ?_);refine wpAny_bind (wpAny_fieldsOf ho hd ?_);dsimp only[rawInt];refine wpAny_bind (entries hL ?_);rw[if_neg (by simp)];rw[Int.toNat_natCast,Int.toNat_natCast];cases r with
 |text =>
  obtain⟨k,rfl⟩:=hf;dsimp only[rawInt];refine wpAny_bind (am6 hL hr ?_);have hl:(pickOrder (w.params.setOrder a ep) es).size<=es.size:=by
   have:=(S2 (w.params.setOrder a ep) es).length_eq;simp at this;omega
  rw[Array.getElem?_eq_none hl];refine wpAny_bind (wpAny_setField ho hd (by simp) ?_);exact ac7 (s:={ s with heap:=_ }) hh (Heap.SameBut.update ..).extBut h
 |plain =>
  obtain⟨r1,r2,r3⟩:=hr;have hs:=ar8 hL;obtain rfl:=hf;dsimp only[rawInt];rw[Int.toNat_natCast];refine wpAny_bind (af9 hL r1 r2 r3.led ?_);rw[ai3 r3.ris (by omega),Array.getElem?_eq_none (Nat.le_refl _)];refine wpAny_bind (wpAny_setField ho hd (by simp) ?_);exact ac7 (s:={ s with heap:=_ }) hh (Heap.SameBut.update ..).extBut h
 |drawn =>
  obtain⟨r1,r2⟩:=hr;obtain⟨rfl,ob,e,hb,hbc,hbd⟩:=hf;have hpl:pl.length=es.size:=by rw[r2.length_eq];simp
  dsimp only;refine wpAny_bind (wpAny_seqItems hb hbd ?_);have e1:(pl.map fun j=>rawInt (j:Nat)).toArray[es.size]?=none:=by simp[hpl]
  dsimp only;rw[e1];dsimp only[rawInt];refine wpAny_bind (wpAny_setField ho hd (by simp) ?_);have h1:=Heap.get?_update_self (Obj.mapFields (·.setIfInBounds 0 (Value.int 0 0))) ho (Obj.isFreed_of_fields (Obj.data_mapFields hd _));refine wpAny_bind (wpAny_setField (s:={ s with heap:=_ }) h1 (Obj.data_mapFields hd _) (by simp) ?_);exact ac7 (s:={ s with heap:=_ }) hh ((Heap.SameBut.update ..).trans (Heap.SameBut.update ..)).extBut h
end
end ST

namespace ST
open PySem PyProof.Rows
section
variable{prog:Program}{w:World}{A:Around}{E:Value->Shared->Prop}{s:Shared}{a I b:Addr}{es:Array (Int×Value)}{ep:Nat}{t:SetTable}{pl:List Nat}
theorem aN5{α:Type}{l:List α}{k:Nat}(hlt:k<l.length):(l[k]::l.eraseIdx k).Perm l:=by
 rw[List.eraseIdx_eq_take_drop_succ]
 conv=>rhs;rw[<- List.take_append_drop k l,List.drop_eq_getElem_cons hlt]
 exact List.perm_middle.symm
theorem T8{α:Type}:∀(n:Nat) (xs:List α) (s:Shared) (Q:List α->Shared->Prop),n=xs.length->(∀ys d,ys.Perm xs->Q ys { s with drawn:=d })->wpAny (model prog w) A (drawOrder n xs) Q E s
 |0,xs,s,Q,e,h=>by
  have:xs=[]:=List.eq_nil_of_length_eq_zero e.symm;subst this;exact wpAny_pure (h [] s.drawn (List.Perm.refl _))
 |n+1,[],s,Q,e,h=>by simp at e
 |n+1,x::xs,s,Q,e,h=>by
  unfold drawOrder;refine wpAny_bind ?_;intro Γ p hΓ;refine⟨by simp,?_⟩;generalize (model prog w).w.draws .order (s.drawn.get .order)=k;have hlt:k % (x::xs).length<(x::xs).length:=Nat.mod_lt _ (by simp);have go:wpAny (model prog w) A (match (x :: xs)[k % (x :: xs).length]? with
   |some y=>do
    let ys <- drawOrder n ((x::xs).eraseIdx (k % (x::xs).length))
    pure (y::ys)
   | none=>unsupported "internal:drawOrder") Q E { s with drawn:=s.drawn.bump .order }:=by
   rw[List.getElem?_eq_getElem hlt];refine wpAny_bind (T8 n _ _ _ (by rw[List.length_eraseIdx_of_lt hlt];simp at e ⊢;omega) fun ys d hp=>wpAny_pure ?_);exact h _ d ((List.Perm.cons _ hp).trans (aN5 hlt))
  exact go
theorem at6{r:Rd}(hr:al3 w es t pl r):(af6 w a es ep pl r).Perm (es.toList.map (·.2)):=by
 cases r with
 |text=>exact(S2 _ es).map _
 |plain=>exact List.Perm.refl _
 |drawn =>
  refine(hr.2.map _).trans ?_;have:(List.range es.size).map (fun j=>(es.getD j (0,.none)).2)=es.toList.map (·.2):=by
   apply List.ext_getElem
   ·simp
   ·intro i h1 h2;simp at h1;simp[Array.getD,h1]
  rw[this]
theorem Lies.ty(hL:Lies s.heap a es ep t):s.TypeIs (.ref a) "set":=let ⟨o,e,c,_⟩:=hL.at_;⟨o,e,c⟩
theorem aU4(hL:Lies s.heap a es ep t)(hw:Well (Led w) t)(hz:es.size<=10000){Q:Value->Shared->Prop}(h:∀r pl b f I h' d',al3 w es t pl r->t9 h' I a f 0 es.size ep->E2 h' t b pl 0 f r->b≠I->(b=a\/s.heap.objs.size<=b)->(∀c o,s.heap.get? c=some o->h'.get? c=some o)->s.heap.objs.size<=I->s.heap.objs.size<=h'.objs.size->Q (.ref I) { s with heap:=h',drawn:=d' }) :
  wpAny (model prog w) A (pyIter (.ref a)) Q E s:=by
 obtain⟨o,ho,hoc,hd⟩:=hL.at_;refine wpAny_pyIter_slot hL.ty F.slot_set_iter (wpAny_call_entry F.slot_set_iter hL.ty aw0 ?_ (F.args_set_iter_1 _));unfold Builtin.«frozenset.__iter__»;refine wpAny_bind (wpAny_pure ?_);unfold Builtin.Frozenset.sizeOf;refine wpAny_bind (wpAny_bind (entries hL (wpAny_pure ?_)));unfold setDrawn;refine wpAny_bind (wpAny_bind (wpAny_setState_of ho hd hL.fit ?_));refine wpAny_bind (M8 (wpAny_pure ?_));have hlt:=Heap.lt_size ho;have fin:∀(r:Rd) (f:Value) (b:Addr) (pl:List Nat) (h1:Heap) (d1:Drawn),al3 w es t pl r->(∀h',(∀c o,h1.get? c=some o->h'.get? c=some o)->E2 h' t b pl 0 f r)->b<h1.objs.size->(b=a\/s.heap.objs.size<=b)->(∀c o,s.heap.get? c=some o->h1.get? c=some o)->s.heap.objs.size<=h1.objs.size ->
   wpAny (model prog w) A.in1 (do
    let e <- setEpoch a
    ret (<- newFields "set_iterator" [f,rawInt 0,.ref a,rawInt es.size,rawInt e])) (fun fin s'=>∃ v,fin=Fin.done (Flow.ret v)/\∃ T' r,s'.TypeIs v T'/\typeLookup (.type T') "__next__"=pure (some r)/\Q v s') E { s with heap:=h1,drawn:=d1 }:=fun r f b pl h1 d1 hr hf hb hba he hsz=>by
  have hL1:Lies h1 a es ep t:=hL.at fun o e=>he a o e;obtain⟨o1,ho1,_,hd1⟩:=hL1.at_;unfold setEpoch;refine wpAny_bind (wpAny_bind (wpAny_setState_of (s:={ s with heap:=h1,drawn:=d1 }) ho1 hd1 hL1.fit (wpAny_pure ?_)));refine wpAny_bind (wpAny_newObj_type (wpAny_pure ⟨_,rfl,"set_iterator",_,⟨_,Heap.get?_push_size _ rfl,rfl⟩,p9.lookup,?_⟩));refine h r pl b f h1.objs.size _ d1 hr ⟨_,Heap.get?_push_size _ rfl,rfl,rfl⟩ (hf _ fun c o e=>Heap.get?_push_of_some _ e) (Nat.ne_of_lt hb) hba (fun c o e=>Heap.get?_push_of_some _ (he c o e)) hsz (by rw[size_push'];exact Nat.le_succ_of_le hsz)
 have e0:s={ s with heap:=s.heap,drawn:=s.drawn }:=rfl;cases hT:w.params.followText "set-order" with
 |true =>
  dsimp only[Bool.not_true,Bool.false_and];rw[if_neg (by simp)];refine wpAny_bind (wpAny_pure ?_);rw[e0];exact fin .text (rawInt 0) a [] s.heap s.drawn hT (fun h' _=>⟨0,rfl⟩) hlt (.inl rfl) (fun c o e=>e) (Nat.le_refl _)
 |false =>
  show wpAny _ _ (if(!false&&(!t.plain&&decide (es.size>1)))=true then _ else _ ) _ _ _;by_cases hp:t.plain=true\/es.size<=1
  ·rw[if_neg (by rcases hp with e|e<;>simp[e])];refine wpAny_bind (wpAny_pure ?_);rw[e0];refine fin .plain (rawInt 0) a [] s.heap s.drawn ⟨hT,hp,?_⟩ (fun h' _=>rfl) hlt (.inl rfl) (fun c o e=>e) (Nat.le_refl _);have:Led w=true:=by unfold Led;rw[hT];rfl
   rw[<- this];exact hw
  ·have h1:t.plain=false:=by cases hq:t.plain with|true=>exact absurd (.inl hq) hp|false=>rfl
   have h2:¬es.size<=1:=fun z=>hp (.inr z);rw[if_pos (by simp[h1];omega)];refine wpAny_bind (T8 _ _ _ _ (List.length_range).symm fun ys d hy=>?_);have hl:ys.length=es.size:=by rw[hy.length_eq];simp
   refine wpAny_bind (wpAny_newObj_type ?_ (by show(List.map _ ys).toArray.size<=sizeLine;rw[List.size_toArray,List.length_map,hl];exact Nat.le_trans hz (by decide)));refine fin .drawn (.ref s.heap.objs.size) s.heap.objs.size ys _ d ⟨hT,hy⟩ (fun h' hk=>⟨rfl,_,_,hk _ _ (Heap.get?_push_size _ rfl),rfl,rfl⟩) (by rw[size_push'];exact Nat.lt_succ_self _) (.inr (Nat.le_refl _)) (fun c o e=>Heap.get?_push_of_some _ e) (by rw[size_push'];exact Nat.le_succ _)
theorem aL7(hh:A.handled=none){r:Rd}(hr:al3 w es t pl r)(hne:b≠I)(hna:a≠I) :
  Walks prog w A I [I,a,b] [I] es.size (fun i v=>(af6 w a es ep pl r)[i]?=some v) (fun i h=>Lies h a es ep t/\∃f,t9 h I a f i es.size ep/\E2 h t b pl i f r) where
 sub:=fun c hc=>by simp at hc;simp[hc]
 frame:=fun i h h' st hk=>by
  obtain⟨hL,f,hi,hf⟩:=st;refine⟨hL.at fun o e=>hk a (by simp) o e,f,hi.at fun o e=>hk I (by simp) o e,?_⟩;cases r with
  |text=>exact hf
  |plain=>exact hf
  |drawn =>
   obtain⟨e1,o,e,h1,h2⟩:=hf;exact⟨e1,o,e,hk b (by simp) o h1,h2⟩
 item:=fun i s Q E hi st hQ=>by
  obtain⟨hL,f,hI,hf⟩:=st;exact next_item hL hr hI hf hne hi fun v h' f' hv h1 h2 h3=>hQ v h' s.toks hv ⟨hL.at fun o e=>by rw[h3.2 a hna];exact e,f',h1,h2⟩ fun c o hc e=>h3.extBut c o (fun z=>hc (by simp[z])) e
 done:=fun s Q E st hQ=>by
  obtain⟨hL,f,hI,hf⟩:=st;exact next_end hh hL hr hI hf hne fun h' he=>hQ h' s.toks fun c o hc e=>he c o (fun z=>hc (by simp[z])) e
 self:=fun i s Q E st hQ=>by
  obtain⟨hL,f,hI,hf⟩:=st;refine wpAny_pyIter_slot hI.ty V5 (wpAny_call_entry V5 hI.ty az0 ?_ (ax5 _));exact wpAny_bind (wpAny_pure (wpAny_pure ⟨_,rfl,"set_iterator",_,hI.ty,p9.lookup,hQ⟩))
end
end ST

namespace ST
open PySem PyProof.Rows
theorem au7:typeLookup (.type "set") "__len__"=pure (some (.builtin "set.__len__")):=by rw[typeLookup_type,builtinLookup_eq_fast];kernel_rfl
section
variable{prog:Program}{w:World}{A:Around}{E:Value->Shared->Prop}{s:Shared}{a I b:Addr}{es:Array (Int×Value)}{ep:Nat}{t:SetTable}{pl:List Nat}
theorem ay0(hh:A.handled=none)(hL:Lies s.heap a es ep t)(hw:Well (Led w) t)(hz:es.size<=10000){Q:List Value->Shared->Prop}(h:∀(vs:List Value) h' d' tk',vs.Perm (es.toList.map (·.2))->(∀c o,s.heap.get? c=some o->h'.get? c=some o)->s.heap.objs.size<=h'.objs.size->s.toks<=tk'->Q vs { s with heap:=h',drawn:=d',toks:=tk' }) :
  wpAny (model prog w) A (collect (.ref a)) Q E s:=by
 have hlt:a<s.heap.objs.size:=let ⟨o,ho,_⟩:=hL.at_;Heap.lt_size ho
 unfold collect;refine wpAny_bind (wpAny_runValue (codeAny_builtin F.entry_proto_collect ?_));rw[Around.under_plainId F.plain_proto_collect _];show wpAny _ A.in1 (newList [] >>= fun l=>again (.builtin "list.__iadd__" ⟨[l,.ref a],[]⟩)) _ _ s;refine wpAny_bind (wpAny_newObj_type ?_);refine wpAny_pure ⟨plainId_quiet F.plain_list_iadd _,codeAny_builtin F.entry_list_iadd ?_⟩;rw[Around.under_plainId F.plain_list_iadd _];have hL1:Lies (s.heap.push { cls:=.type "list",data:=.seq ([]:List Value).toArray }) a es ep t:=hL.at fun o e=>Heap.get?_push_of_some _ e;have hS1:(s.heap.push { cls:=.type "list",data:=.seq ([]:List Value).toArray }).get? s.heap.objs.size=some { cls:=.type "list",data:=.seq ([]:List Value).toArray }:=Heap.get?_push_size _ rfl;have hne:s.heap.objs.size≠a:=Nat.ne_of_gt hlt;have h1:Builtin.List.listSameRef (.ref s.heap.objs.size) (.ref a)=false:=by simp[Builtin.List.listSameRef,hne]
 show wpAny _ A.in1 (Builtin.List.listExtendWith (.ref s.heap.objs.size) (.ref a) (.ref s.heap.objs.size)) _ _ _;unfold Builtin.List.listExtendWith;refine wpAny_bind (wpAny_typeOf (Lies.ty (s:={ s with heap:=_ }) hL1) ?_);rw[if_neg (by rw[h1];decide)];refine wpAny_bind (aU4 (s:={ s with heap:=_ }) hL1 hw hz fun r pl b f I h2 d2 hr hI hf hb hbz he hIz h2z=>?_);have hL2:Lies h2 a es ep t:=hL1.at fun o e=>he a o e;have hS2:=he _ _ hS1;refine wpAny_bind (wpAny_holding ?_);unfold Builtin.List.listLengthHint;refine wpAny_bind (wpAny_specialOf (Lies.ty (s:={ s with heap:=h2,drawn:=d2 }) hL2) au7 ?_);generalize hid:("set.__len__":String)=id0;dsimp only;rw[show splitId id0=some ("set","__len__") from by subst hid;decide +kernel];dsimp only;refine wpAny_bind (wpAny_isInstance (b:=true) (Lies.ty (s:={ s with heap:=h2,drawn:=d2 }) hL2) (by rw[isSubtype_type];kernel_rfl) ?_);rw[if_neg (by decide)];subst hid;rw[if_pos (by decide +kernel)];refine wpAny_bind (wpAny_typeOf (Lies.ty (s:={ s with heap:=h2,drawn:=d2 }) hL2) ?_);refine wpAny_pure ?_;rw[if_pos (by decide +kernel)];refine wpAny_bind (wpAny_rule ?_);refine wpAny_bind ?_;show wpAny _ A.in1 (updateSeq s.heap.objs.size (·.push .none) >>= fun _=>updateSeq s.heap.objs.size (·.pop)) _ _ _;refine wpAny_bind (wpAny_updateSeq (s:={ s with heap:=h2,drawn:=d2 }) hS2 rfl ?_);have hS3:=Heap.get?_update_self (Obj.mapSeq (·.push Value.none)) hS2 rfl;refine wpAny_updateSeq (s:={ s with heap:=_,drawn:=d2 }) hS3 rfl ?_;have hS4:=Heap.get?_update_self (Obj.mapSeq (·.pop)) hS3 rfl;have oth:∀c o,c≠s.heap.objs.size->h2.get? c=some o->((h2.update s.heap.objs.size (Obj.mapSeq (·.push Value.none))).update s.heap.objs.size (Obj.mapSeq (·.pop))).get? c=some o :=
  fun c o hc e=>(Heap.get?_update_other _ _ (Ne.symm hc)).trans ((Heap.get?_update_other _ _ (Ne.symm hc)).trans e)
 have hz1:s.heap.objs.size<(s.heap.push { cls:=.type "list",data:=.seq ([]:List Value).toArray }).objs.size:=by rw[size_push'];exact Nat.lt_succ_self _
 have hSI:I≠s.heap.objs.size:=Nat.ne_of_gt (Nat.lt_of_lt_of_le hz1 hIz);have hSb:b≠s.heap.objs.size:=by
  rcases hbz with z|z
  ·rw[z];exact Ne.symm hne
  ·exact Nat.ne_of_gt (Nat.lt_of_lt_of_le hz1 z)
 have W:=(aL7 (prog:=prog) (w:=w) (A:=A.in1) (a:=a) (b:=b) (I:=I) (es:=es) (ep:=ep) (t:=t) (pl:=pl) hh hr hb (Nat.ne_of_lt (Nat.lt_of_lt_of_le (Nat.lt_trans hlt hz1) hIz))).toS;have st:Lies h2 a es ep t/\∃f,t9 h2 I a f 0 es.size ep/\E2 h2 t b pl 0 f r:=⟨hL2,f,hI,hf⟩
 have st2:=W.frame 0 ({ s with heap:=h2,drawn:=d2 }:Shared) _ s.toks st (Nat.le_refl _) fun c hc o e=>oth c o (fun z=>by simp at hc;rcases hc with y|y|y<;>simp_all) e;refine wpAny_pure ⟨plainId_quiet F.plain_extend_loop _,codeAny_extend_loopS W (Nat.le_trans hz (by decide)) _ (fun z=>by simp at z;rcases z with y|y|y<;>simp_all) _ es.size 0 _ _ _ rfl (Nat.zero_le _) st2 hS4 (ItemsOf.nil _) fun s' acc' c' hm hS' hacc=>?_⟩;show wpAny _ A (load s.heap.objs.size >>= _) _ _ s';refine wpAny_bind (wpAny_load hS' ?_);refine wpAny_pure ?_;have eS:s'={ s with heap:=s'.heap,drawn:=d2,toks:=s'.toks }:=by
  obtain⟨hp',g',d',tk',os'⟩:=s';have m1:g'=s.gens:=hm.gens;have m2:d'=d2:=hm.drawn;have m3:os'=s.os:=hm.os;subst m1;subst m2;subst m3
  rfl
 have eo:acc'.toList=af6 w a es ep pl r:=by
  have l1:(af6 w a es ep pl r).length=es.size:=by rw[(at6 hr).length_eq];simp
  apply List.ext_getElem
  ·rw[l1];simpa using hacc.1
  ·intro i h1 h2;have:=hacc.2 i acc'.toList[i] (by simp at h1 ⊢);dsimp only at this;rw[List.getElem?_eq_getElem h2] at this;exact(Option.some.inj this).symm
 rw[eo,eS];refine h _ _ d2 s'.toks (at6 hr) (fun c o e=>?_) (Nat.le_of_lt (Heap.lt_size hS')) hm.toks;have hc:c<s.heap.objs.size:=Heap.lt_size e;have n1:c≠s.heap.objs.size:=Nat.ne_of_lt hc;have n2:c≠I:=Nat.ne_of_lt (Nat.lt_of_lt_of_le (Nat.lt_trans hc hz1) hIz);exact hm.heap c o (by simp[n1,n2]) (oth c o n1 (he c o (Heap.get?_push_of_some _ e)))
theorem aE6{ks:List Int}(hh:A.handled=none)(hS:f9 prog w s.heap a ks)(h64:ks.length<64){Q:Value->Shared->Prop}(h:∀(S:Addr) (vs:List Value) (ns:List Int) e h' d' tk',IntsAre vs ns->ns.Perm ks->ns.Pairwise (·<=·)->h'.get? S=some (seqObj "list" vs.toArray e)->s.heap.objs.size<=S->(∀c o,s.heap.get? c=some o->h'.get? c=some o)->s.toks<=tk'->Q (.ref S) { s with heap:=h',drawn:=d',toks:=tk' }) :
  wpAny (model prog w) A (call (.builtin "sorted") [.ref a]) Q E s:=by
 obtain⟨o,es,ep,t,ho,hx,hd,hel,hp,hn,hb,hf,hw⟩:=hS;have hL:Lies s.heap a es ep t:=⟨⟨o,ho,hx.1,hd⟩,hf⟩
 have hz:es.size=ks.length:=by rw[<- hp.length_eq];simp
 refine Calls.call_function_entry kind_sorted plain_sorted entry_sorted (args_sorted1 _) ?_;unfold Builtin.«sorted»;refine wpAny_bind (m:=checkCount "sorted" 1 1 _) (wpAny_pure ?_);refine wpAny_bind (ay0 (A:=A.in1) hh hL hw (by omega) fun vs h1 d1 tk1 hv he hz1 htk=>?_);have hI:IntsAre vs (vs.map toI):=by
  have all:∀v∈vs,∃tk,v=.int (toI v) tk:=fun v hv'=>by
   obtain⟨e,he',rfl⟩:=List.mem_map.mp (hv.mem_iff.mp hv');obtain⟨tk,h1,_⟩:=Q5 hel he';exact⟨tk,h1⟩
  clear hv
  induction vs with
  |nil=>exact .nil
  |cons v r ih =>
   obtain⟨tk,e⟩:=all v (by simp);have:=IntsAre.cons (toI v) tk (ih fun u hu=>all u (by simp[hu]));rw[<- e] at this;exact this
 have hk:(vs.map toI).Perm ks:=by
  refine(hv.map toI).trans ?_;rw[List.map_map];exact hp
 have hl:vs.length<64:=by rw[hv.length_eq];simp;omega
 refine wpAny_bind (wpAny_newList (s:={ s with heap:=h1,drawn:=d1,toks:=tk1 }) ?_);have hoL:(h1.push (seqObj "list" vs.toArray 0)).get? h1.objs.size=some (seqObj "list" vs.toArray 0):=Heap.get?_push_size _ rfl;refine wpAny_bind (wpAny_holding (wpAny_call_entry (s:={ s with heap:=h1.push (seqObj "list" vs.toArray 0),drawn:=d1,toks:=tk1 }) slot_list_sort ⟨_,hoL,rfl⟩ entry_list_sort (list_sort_tree hoL hI hl fun out ns' a1 a2 a3=>⟨_,rfl,?_⟩) (args_list_sort _)));obtain⟨e,he'⟩:=sortedHeap_at (vs:=vs) (out:=out) hoL;refine wpAny_pure ⟨_,rfl,h h1.objs.size out.toList ns' e _ d1 tk1 a1 (a2.trans hk) a3 he' hz1 (fun c o' e'=>?_) htk⟩;have hc:=Heap.lt_size (he c o' e');rw[sortedHeap_old (Nat.ne_of_lt hc) (by rw[size_push'];exact Nat.lt_succ_of_lt hc)];exact Heap.get?_push_of_some _ (he c o' e')
end
end ST

namespace ST
open PySem PyProof.Rows
noncomputable def d9(ks xs:List Int):List Int:=xs.foldl v9 ks
theorem z5:∀(xs ks:List Int),(d9 ks xs).length<=ks.length+xs.length
 |[],ks=>by simp[d9]
 |x::xs,ks=>by
  have:=z5 xs (v9 ks x);have h2:=ax6 ks x;show(d9 (v9 ks x) xs).length<=_;simp only[List.length_cons];omega
theorem y9:∀(xs ks:List Int) (k:Int),k∈d9 ks xs↔k∈ks\/k∈xs
 |[],ks,k=>by simp[d9]
 |x::xs,ks,k=>by
  show k∈d9 (v9 ks x) xs↔_;rw[y9 xs];unfold v9;split
  ·rename_i h;constructor
   ·rintro(a|a)
    ·exact .inl a
    ·exact .inr (by simp[a])
   ·rintro(a|a)
    ·exact .inl a
    ·rcases List.mem_cons.mp a with rfl|b
     ·exact .inl h
     ·exact .inr b
  ·simp[or_assoc]
theorem N4:∀(xs ks:List Int),ks.Nodup->(d9 ks xs).Nodup
 |[],ks,h=>h
 |x::xs,ks,h=>by
  show(d9 (v9 ks x) xs).Nodup;refine N4 xs _ ?_;unfold v9;split
  ·exact h
  ·rename_i hk;rw[List.nodup_append];exact⟨h,by simp,fun a ha b hb=>by simp at hb;subst hb;exact fun z=>hk (z▸ha)⟩
section
variable{prog:Program}{w:World}{A:Around}{E:Value->Shared->Prop}{s:Shared}{a:Addr}
theorem ah0:Well (Led w) (SetTable.fresh 0 0 (Led w)):=⟨by simp[Ris,SetTable.fresh],rfl,rfl⟩
theorem an9{h:Heap}(e:h.get? a=some { cls:=.type "set",dict:=none,data:=.set #[] 0 (.fresh 0 0 (Led w)) }):f9 prog w h a [] :=
 ⟨_,#[],0,_,e,⟨rfl,rfl,rfl⟩,rfl,(by intro e he;simp at he),by simp,by simp,by decide,by rfl,ah0⟩
theorem aT4{R:Result->Shared->Prop}{I:Addr}{fp wr:List Addr}{G:Array GenState->Array GenState->Prop}{n:Nat}{P:Nat->Value->Prop}{St:Nat->Shared->Prop}(W:WalksS prog w A.in1 I fp wr G n P St)(hSf:a∉fp){ns:List Int}(hn:n=ns.length)(hv:∀i v,P i v->∃tk,v=.int (ns.getD i 0) tk)(hb:n+1<scanBound):∀(k i:Nat) (s:Shared),i+k=n->St i s->f9 prog w s.heap a (d9 [] (ns.take i)) ->
   (∀s',Moved (a::wr) G s s'->f9 prog w s'.heap a (d9 [] ns)->R (.ok (.ret .none)) s')->codeAny (model prog w) A (.builtin "set.update.loop" ⟨[.ref a,.ref I],[]⟩) R s:=by
 have hw:a∉wr:=fun h=>hSf (W.sub _ h);have sub':∀b∈wr,b∈a::wr:=fun b hb=>by simp[hb]
 intro k
 induction k with
 |zero =>
  intro i s e st hS hR;obtain rfl:i=n:=by omega
  refine codeAny_builtin PyProof.Rows.F.entry_set_update_loop ?_;rw[Around.under_plainId PyProof.Rows.F.plain_set_update_loop _];unfold Builtin.«set.update.loop»;refine wpAny_bind (W.done s _ _ st fun s' m=>wpAny_pure (hR s' (m.mono sub') (f9.at ?_ fun o e=>m.heap a o hw e)));rw[hn,List.take_length] at hS;exact hS
 |succ k ih =>
  intro i s e st hS hR;have hlt:i<ns.length:=by omega
  refine codeAny_builtin PyProof.Rows.F.entry_set_update_loop ?_;rw[Around.under_plainId PyProof.Rows.F.plain_set_update_loop _];unfold Builtin.«set.update.loop»;refine wpAny_bind (W.item i s _ _ (by omega) st fun v s' hP st' m=>?_);obtain⟨tk,rfl⟩:=hv i v hP;have hS':=f9.at hS fun o e=>m.heap a o hw e;have hl:=z5 (ns.take i) [];rw[List.length_take] at hl;simp only[List.length_nil] at hl;refine wpAny_bind (wpAny_holding ?_);unfold setAdd;refine wpAny_holding (wpAny_bind ((intKind prog w).pyHash (k:=ns.getD i 0) (intKind_is _ _ _ _) ?_));refine a72 (s:={ s' with toks:=s'.toks+1 }) hS' (by omega) fun h' bb sb hS2=>?_;have e2:v9 (d9 [] (ns.take i)) (ns.getD i 0)=d9 [] (ns.take (i+1)):=by
   unfold d9;rw[List.take_succ,List.foldl_append,List.getElem?_eq_getElem hlt];simp[List.getD,hlt]
  rw[e2] at hS2;refine wpAny_pure ⟨plainId_quiet PyProof.Rows.F.plain_set_update_loop _,ih (i+1) _ (by omega) (W.frame _ s' _ _ st' (Nat.le_succ _) fun b hb o e=>by rw[sb.2 b fun z=>hSf (z▸hb)];exact e) hS2 fun s2 m2 h2=>?_⟩;exact hR s2 (Moved.trans W.gtrans ((m.mono sub').then_heap (Nat.le_succ _) fun b o hb e=>by rw[sb.2 b fun z=>hb (by rw[z];simp)];exact e) m2) h2
end
end ST

namespace ST
open PySem PyProof.Rows
section
variable{prog:Program}{w:World}{A:Around}{E:Value->Shared->Prop}{s:Shared}{a:Addr}
noncomputable abbrev l0(w:World):Obj:={ cls:=.type "set",dict:=none,data:=.set #[] 0 (.fresh 0 0 (Led w)) }
theorem aB7{Q:Value->Shared->Prop}(h:Q (.ref s.heap.objs.size) { s with heap:=s.heap.push (l0 w) }):wpAny (model prog w) A (newSet (.type "set")) Q E s:=by
 unfold newSet;refine wpAny_bind (M8 ?_);exact wpAny_newObj_type h (Nat.zero_le _)
theorem a12(x:Value){Q:Value->Shared->Prop}(h:Q (.ref s.heap.objs.size) { s with heap:=s.heap.push (l0 w) }):codeAny (model prog w) A (.call (.builtin "set.__new__") ⟨[.type "set",x],[]⟩) (wants Q E) s:=by
 refine codeAny_of_tree (?_:wpAny _ A.in1 (do
  checkBuiltinCall "set.__new__" ⟨[.type "set",x],[]⟩
  again (.builtin "set.__new__" ⟨[.type "set",x],[]⟩)) _ _ s)
 refine wpAny_bind (wpAny_of_eq (F.newCall_set_1 x) (wpAny_pure ⟨plainId_quiet F.plain_set_new _,?_⟩));refine codeAny_builtin F.entry_set_new ?_;rw[Around.under_plainId F.plain_set_new _];unfold Builtin.«set.__new__»;have sub:=sub_set_self;refine wpAny_bind (m:=Builtin.Frozenset.newClass "set" _) ?_;unfold Builtin.Frozenset.newClass;dsimp only;refine wpAny_bind (wpAny_of_eq (a:=true) (by first|rfl|(simp[isType];rfl)) ?_);rw[if_neg (by decide)];refine wpAny_bind (wpAny_of_eq sub ?_);rw[if_neg (by decide)];refine wpAny_pure ?_;exact wpAny_bind (aB7 (wpAny_pure h))
theorem av3{vs:List Value}{ns:List Int}(h:IntsAre vs ns):vs.length=ns.length:=by
 induction h with
 |nil=>rfl
 |cons n t r ih=>simp[ih]
noncomputable def ax8(h:Heap)(l:Addr)(items:Array Value):Prop:=h.IsList l items\/h.IsTuple l items
theorem ax8.lt{h:Heap}{l:Addr}{items:Array Value}(x:ax8 h l items):l<h.objs.size:=by
 rcases x with⟨_,e,_⟩|⟨_,e,_⟩<;>exact Heap.lt_size e
theorem aZ8{l:Addr}{items:Array Value}{ns:List Int}{Q:Fin->Shared->Prop}(hh:A.handled=none)(hS:s.heap.get? a=some (l0 w))(hl:ax8 s.heap l items)(hi:IntsAre items.toList ns)(hb:items.size+1<scanBound)(hne:a≠l)(h:∀h' tk,f9 prog w h' a (d9 [] ns)->(∀b o,b≠a->s.heap.get? b=some o->h'.get? b=some o)->s.toks<=tk->wpAny (model prog w) A (ret .none) Q E { s with heap:=h',toks:=tk }) :
  wpAny (model prog w) A (Builtin.«set.__init__» ⟨[.ref a,.ref l],[]⟩) Q E s:=by
 have hT:s.TypeIs (.ref a) "set":=⟨_,hS,rfl⟩
 have hLi:Lies s.heap a #[] 0 (SetTable.fresh 0 0 (Led w)):=⟨⟨_,hS,rfl,rfl⟩,rfl⟩
 have hlt:=hl.lt;have hnI:l≠s.heap.objs.size:=Nat.ne_of_lt hlt;unfold Builtin.«set.__init__» noKeywords;dsimp only;refine wpAny_bind (wpAny_of_eq (a:=()) rfl ?_);have nm:∀{Q':String->Shared->Prop},(∀x,Q' x s)->wpAny (model prog w) A (typeNameOfCut 200 (.ref a)) Q' E s:=fun{Q'} q=>by
  unfold typeNameOfCut shownTypeOf;refine wpAny_bind (wpAny_bind (wpAny_typeOf hT ?_));rw[if_neg (by decide)];refine wpAny_pure (wpAny_of_eq (a:="set") ?_ (q _));unfold typeNameCut;dsimp only
  first|(unfold typeName;rw[find?_eq_fast];kernel_rfl)|kernel_rfl
 refine wpAny_bind (nm fun x=>?_);refine wpAny_bind (m:=checkCount _ 0 1 _) (wpAny_pure ?_);refine wpAny_bind (m:=Builtin.Frozenset.addrOf _) (wpAny_pure ?_);unfold setUsed;refine wpAny_bind (wpAny_bind (wpAny_setState_of hS rfl rfl (wpAny_pure ?_)));rw[if_neg (by show ¬((SetTable.fill (SetTable.fresh 0 0 (Led w)) != 0)=true);unfold SetTable.fill;simp[SetTable.fresh])];unfold Builtin.Frozenset.updateFrom Builtin.Frozenset.isAnySet;obtain⟨c,hcc,hTl,it,hit,hkp,St,W,hst⟩:∃c:String,(c="list"\/c="tuple")/\s.TypeIs (.ref l) c/\∃it:Obj,(∀Q':Value->Shared->Prop,Q' (.ref s.heap.objs.size) { s with heap:=s.heap.push it }->wpAny (model prog w) A (pyIter (.ref l)) Q' E s) /\
   (∀b o,s.heap.get? b=some o->(s.heap.push it).get? b=some o)/\∃St:Nat->Shared->Prop,WalksS prog w A.in1 s.heap.objs.size [s.heap.objs.size,l] [s.heap.objs.size] (fun a b=>b=a) items.size (fun i v=>items[i]?=some v) St/\St 0 { s with heap:=s.heap.push it }:=by
  rcases hl with hl|hl
  ·obtain⟨o,ho,hc,_⟩:=id hl;exact⟨"list",.inl rfl,⟨o,ho,hc⟩,_,fun Q' q=>wpAny_pyIter_list hl q,fun b o e=>Heap.get?_push_of_some _ e,_,(Walks.list (A:=A.in1) hh _ l hnI items).toS,⟨⟨_,Heap.get?_push_size _ rfl,rfl,rfl⟩,hl.push _⟩⟩
  ·obtain⟨o,ho,hc,_⟩:=id hl;exact⟨"tuple",.inr rfl,⟨o,ho,hc⟩,_,fun Q' q=>wpAny_pyIter_tuple hl q,fun b o e=>Heap.get?_push_of_some _ e,_,(Walks.tuple (A:=A.in1) hh _ l hnI items).toS,⟨⟨_,Heap.get?_push_size _ rfl,rfl,rfl⟩,hl.push _⟩⟩
 refine wpAny_bind (wpAny_bind (wpAny_bind (wpAny_isInstance (b:=false) hTl (by rcases hcc with rfl|rfl<;>(rw[isSubtype_type];kernel_rfl)) ?_)));show wpAny (model prog w) A (isInstance (Value.ref l) (Value.type "frozenset")) _ _ _;refine wpAny_isInstance (b:=false) hTl (by rcases hcc with rfl|rfl<;>(rw[isSubtype_type];kernel_rfl)) ?_;rw[if_neg (by decide)];refine wpAny_bind (wpAny_typeOf hTl ?_);rw[if_neg (by rcases hcc with rfl|rfl<;>decide)];refine wpAny_bind (hit _ ?_);refine wpAny_bind (wpAny_runValue ?_);have haz:a<s.heap.objs.size:=Heap.lt_size hS;have hsz:items.size=ns.length:=by rw[<- Array.length_toList];exact av3 hi
 refine aT4 (a:=a) (ns:=ns) W (by simp only[List.mem_cons,List.not_mem_nil,or_false,not_or];exact⟨Nat.ne_of_lt haz,hne⟩) hsz (fun i v hv=>IntsAre.int_at hi i v (by rw[Array.getElem?_toList];exact hv)) hb items.size 0 _ (by omega)
  hst (an9 (hkp _ _ hS)) fun s' m hS'=>?_
 have eS:s'={ s with heap:=s'.heap,toks:=s'.toks }:=by
  obtain⟨hp',g',d',tk',os'⟩:=s';have m1:g'=s.gens:=m.gens;have m2:d'=s.drawn:=m.drawn;have m3:os'=s.os:=m.os;subst m1;subst m2;subst m3
  rfl
 rw[eS];refine wpAny_pure (h _ _ hS' (fun b o hb e=>?_) m.toks);exact m.heap b o (by simp only[List.mem_cons,List.not_mem_nil,or_false,not_or];exact⟨hb,Nat.ne_of_lt (Heap.lt_size e)⟩) (hkp _ _ e)
theorem a17{l:Addr}{items:Array Value}{ns:List Int}{Q:Value->Shared->Prop}(hh:A.handled=none)(hl:ax8 s.heap l items)(hi:IntsAre items.toList ns)(hb:items.size+1<scanBound)(h:∀h' tk,f9 prog w h' s.heap.objs.size (d9 [] ns)->(∀b o,s.heap.get? b=some o->h'.get? b=some o)->s.toks<=tk->Q (.ref s.heap.objs.size) { s with heap:=h',toks:=tk }) :
  wpAny (model prog w) A (call (.type "set") [.ref l]) Q E s:=by
 have cs:=F.called_set;obtain⟨_,_,y1⟩:=cs.mro;have y2:=cs.made;have y3:=cs.sub;have y4:=cs.notType;have y5:=cs.canCreate;have y6:=F.typeCall_set_1 (.ref l);refine wpAny_call (codeAny_of_tree (?_:wpAny _ _ (callAny (.type "set") _) _ _ _));refine wpAny_pure ⟨Code.quiet_builtin _ (by decide +kernel),codeAny_builtin F.entry_type_call ?_⟩;rw[Around.under_plain (weight_type_call_type "set" [.ref l] []) rfl]
 repeat (any_goals (first|assumption|wp_step))
 refine codeAny_mono (a12 (.ref l) (E:=E) (Q:=fun v s1=>v=.ref s.heap.objs.size/\s1={ s with heap:=s.heap.push (l0 w) }) ⟨rfl,rfl⟩) ?_;rintro(e|fl) s1 hr
 ·exact hr
 cases fl with
 |next=>exact hr
 |brk=>exact hr
 |cont=>exact hr
 |ret v =>
 obtain⟨rfl,rfl⟩:=hr;have hS:(s.heap.push (l0 w)).get? s.heap.objs.size=some (l0 w):=Heap.get?_push_size _ rfl;have hT:Shared.TypeIs { s with heap:=s.heap.push (l0 w) } (.ref s.heap.objs.size) "set":=⟨_,hS,rfl⟩
 have y7:=cs.init.lookup;have y8:=cs.init.bind (.ref s.heap.objs.size)
 repeat (any_goals (first|assumption|wp_step))
 refine codeAny_mono (codeAny_call_builtin (R:=wants (fun v s2=>v=.none/\∃h' tk,s2={ s with heap:=h',toks:=tk }/\f9 prog w h' s.heap.objs.size (d9 [] ns)/\(∀b o,s.heap.get? b=some o->h'.get? b=some o)/\s.toks<=tk) E) cs.init.plain F.entry_set_init (check_set_init_1 hT ?_)) ?_
 ·have hl1:ax8 (s.heap.push (l0 w)) l items:=hl.imp (·.push _) (·.push _);have hll:=hl.lt;refine aZ8 (s:={ s with heap:=s.heap.push (l0 w) }) (by simp[hh]) hS hl1 hi hb (Nat.ne_of_gt hll) fun h' tk h1 h2 h3=>wpAny_pure ⟨rfl,h',tk,rfl,h1,fun b o e=>h2 b o (Nat.ne_of_lt (Heap.lt_size e)) (Heap.get?_push_of_some _ e),h3⟩
 ·rintro(e|fl) s2 hr
  ·exact hr
  cases fl with
  |next=>exact hr
  |brk=>exact hr
  |cont=>exact hr
  |ret v =>
  obtain⟨rfl,h',tk,rfl,h1,h2,h3⟩:=hr
  repeat (any_goals (first|assumption|wp_step))
  exact h _ _ h1 h2 h3
end
end ST

namespace L2
open PySem PySem.Spec PyProof.Rows
noncomputable def V6(X:Cx)(a:Addr)(ks:List Int):HO:=.ext fun h=>ST.f9 X.prog X.w h a ks
noncomputable def B3(ns:List Int):List Int:=(ST.d9 [] ns).mergeSort (fun a b=>decide (a<=b))
theorem V9:∀{a b:List Int},a.Perm b->a.Pairwise (·<=·)->b.Pairwise (·<=·)->a=b
 |[],b,h,_,_=>by rw[List.nil_perm.mp h]
 |x::a,[],h,_,_=>absurd h.length_eq (by simp)
 |x::a,y::b,h,h1,h2=>by
  rw[List.pairwise_cons] at h1 h2;have e:x=y:=by
   have m1:=h.mem_iff (a:=y);have m2:=h.mem_iff (a:=x);simp only[List.mem_cons,true_or,true_iff,iff_true] at m1 m2;rcases m1 with z|z
   ·exact z.symm
   ·rcases m2 with z'|z'
    ·exact z'
    ·have:=h1.1 y z;have:=h2.1 x z';omega
  subst e;rw[V9 (h.cons_inv) h1.2 h2.2]
theorem af1(ns:List Int):(B3 ns).Pairwise (·<=·):=by
 have:=List.pairwise_mergeSort (le:=fun a b:Int=>decide (a<=b)) (fun a b c h1 h2=>by simp at *;omega) (fun a b=>by simp;omega) (ST.d9 [] ns);exact this.imp fun h=>by simpa using h
theorem R8(ns:List Int):(B3 ns).Perm (ST.d9 [] ns):=List.mergeSort_perm _ _
theorem aL6(ns:List Int):(B3 ns).length<=ns.length:=by
 rw[(R8 ns).length_eq];have:=ST.z5 ns [];simpa using this
section
variable{X:Cx}{pins:List (Addr×Obj)}{σ:St}{H:Hp}{s:Shared}
theorem Inv.draw(I:Inv X pins σ H s)(d:Drawn):Inv X pins σ H { s with drawn:=d } :=
 I.step (g':=s.gens) (t':=s.toks) (d':=d) (ch:=[]) (by simp) (fun b o _ _ _ e _=>e) (fun b o _ _ _ e _=>⟨o.slots,e⟩) (fun b o _ _ e=>e) (fun b o _ e=>⟨o,e⟩) (fun _ _ e=>e) (fun _ _ _ e=>e) (fun b ps e=>⟨#[],by simp[e]⟩) (fun m hm=>hm) I.hok I.bare
theorem aA3{h:Heap}{H:Hp}{a:Addr}{ks:List Int}(x:ST.f9 X.prog X.w h a ks):g8 X.prog X.w H h a (V6 X a ks) :=
 ⟨x,let ⟨o,_,_,_,e,_⟩:=x;⟨o,e⟩,fun h1 h2 y k=>y.at k⟩
theorem ae6:∀{ns:List Int} {vs:List Value},IntsAre vs ns->Vals (ns.map V.int) vs
 |_,_,.nil=>.nil
 |_,_,.cons n t r=>.cons ⟨t,rfl⟩ (ae6 r)
theorem ag6:∀{ns:List Int} {vs:List Value},Vals (ns.map V.int) vs->IntsAre vs ns
 |[],_,h=>by cases h;exact .nil
 |n::ns,_,h=>by
  cases h with
  |cons r rr =>
   obtain⟨t,rfl⟩:=r;exact .cons n t (ag6 rr)
theorem Y4(hc:X.calm=true):j4 X (.type "set") (fun xs H Q=>∃a ns,xs=[.ref a]/\SqT X.K H a (ns.map V.int)/\ns.length<60/\∀p,H p=none->Q (.ref p) (upd H p (V6 X p (ST.d9 [] ns)))):=by
 intro pins s σ H xs us Q I r h;obtain⟨a,ns,rfl,hq,hl,q⟩:=h;cases r with
 |cons r rr =>
 cases rr;cases r;obtain⟨its,rv,p,hz⟩:=I.tuple hq;have hI:=ag6 rv;have hlen:=ST.av3 hI;refine ST.a17 (ns:=ns) (I.ok.hd hc) (.inr (show s.heap.IsTuple a its.toArray from p)) (by simpa using hI) (by rw[List.size_toArray,hlen];exact Nat.lt_of_lt_of_le (Nat.succ_lt_succ hl) (by decide)) fun h' tk hS hk _=>?_;exact⟨.ref _,_,I.laid (a:=s.heap.objs.size) (t':=tk) hk (Nat.le_refl _) (aA3 hS),rfl,q _ (I.hok.fresh (Nat.le_refl _))⟩
theorem ai0(hc:X.calm=true):j4 X (.builtin "sorted") (fun xs H Q=>∃a ns,xs=[.ref a]/\H a=some (V6 X a (ST.d9 [] ns))/\ns.length<60/\∀p,H p=none->Q (.ref p) (upd H p (.lst ((B3 ns).map V.int)))):=by
 intro pins s σ H xs us Q I r h;obtain⟨a,ns,rfl,ha,hl,q⟩:=h;cases r with
 |cons r rr =>
 cases rr;cases r;have hS:ST.f9 X.prog X.w s.heap a (ST.d9 [] ns):=(I.hok a _ ha).1;have hn:=ST.z5 ns [];simp only[List.length_nil] at hn;refine ST.aE6 (I.ok.hd hc) hS (by omega) fun S vs ns' e h' d' tk' h1 h2 h3 h4 h5 h6 _=>?_;have e1:ns'=B3 ns:=V9 (h2.trans (R8 ns).symm) h3 (af1 ns);subst e1;have hz:=aL6 ns;exact⟨.ref S,_,(I.laid (a:=S) (o:=.lst ((B3 ns).map V.int)) (t':=tk') h6 h5 ⟨by rw[List.length_map];exact Nat.le_trans hz (Nat.le_trans (Nat.le_of_lt hl) (by decide)),vs,e,ae6 h1,h4⟩).draw d',rfl,q S (I.hok.fresh h5)⟩
end
end L2

namespace ST
open PySem PyProof.Rows
end ST
namespace L2
open PySem PySem.Spec PyProof.Rows
section
variable{prog:Program}{w:World}{A:Around}{R:Result->Shared->Prop}{s:Shared}
end
section
variable{X:Cx}{pins:List (Addr×Obj)}{σ:St}{H:Hp}{s:Shared}
end
end L2

namespace HT
open PySem PyProof.Rows Builtin
theorem ad1:fillsNumberSlot (.type "tuple") "mul"=pure false :=
 PySem.fillsNumberSlot_seq (id:="tuple.__mul__") (r:=some (.builtin "tuple.__rmul__")) F.slot_tuple_mul.lookup (by decide +kernel) F.slot_tuple_rmul.lookup (by decide +kernel)
theorem at0:seqRepeat? (.type "tuple")=pure (some (.builtin "tuple.__mul__")):=by
 unfold seqRepeat?;rw[PySem.seqSlot_of (T:="tuple") (name:="__mul__") (id:="tuple.__mul__") F.slot_tuple_mul.lookup (by decide +kernel),PySem.seqSlot_of (T:="tuple") (name:="__rmul__") (id:="tuple.__rmul__") F.slot_tuple_rmul.lookup (by decide +kernel)]
 rfl
theorem ak1(a:Int)(t:Tok)(l:Addr)(items:Array Value)(n:Nat)(dd:Option Addr)(sl:Array (Option Value)) :
  Meets (Builtin.«int.__rmul__» ⟨[.int a t,.ref l],[]⟩) (fun _ R s=>s.heap.get? l=some { cls:=.type "tuple",dict:=dd,data:=.seq items n,slots:=sl }/\R (.ok (.ret Value.notImplemented)) s) :=
 .of_wp fun prog w A R s h=>by obtain⟨hp,g,d,tk,os⟩:=s;obtain⟨hl,h⟩:=h;wp_walk;exact⟨_,rfl,h⟩
theorem aj2(t:Value)(c:Value):Builtin.«tuple.__mul__» ⟨[t,c],[]⟩=(do
 let n <- asIndex c
 if n < -(2 ^ 63)||n>=2 ^ 63 then
  rule "tuple.repeat.overflow";raiseError "OverflowError" s!"cannot fit '{<- typeNameOf c}' into an index-sized integer"
 let xs <- Builtin.Tuple.tupleItemsOf t
 if xs.isEmpty||n==1 then
  if <- Builtin.Tuple.tupleIsExact t then rule "tuple.repeat.same-object";return <- ret t
 if n<=0||xs.isEmpty then return <- ret (<- Builtin.Tuple.tupleExact #[])
 if xs.size*n>(2 ^ 63-1) / 8 then rule "tuple.repeat.no-memory";raiseNew (<- newExc (.type "MemoryError") [])
 if Builtin.Tuple.tupleTooMany (xs.size*n) then unsupported "tuple.__mul__:memory"
 ret (<- Builtin.Tuple.tupleExact ((List.replicate n.toNat xs).foldl (· ++ ·) #[]))):=rfl
section
variable{prog:Program}{w:World}{A:Around}{E:Value->Shared->Prop}{s:Shared}
theorem aI0(its:List Value):∀(m:Nat) (acc:Array Value),List.foldl (fun x1 x2=>x1++x2) acc (List.replicate m its.toArray)=acc++(List.replicate m its).flatten.toArray:=by
 intro m
 induction m with
 |zero=>intro acc;simp
 |succ m ih=>intro acc;rw[List.replicate_succ,List.foldl_cons,ih,List.replicate_succ,List.flatten_cons];simp
theorem aK7{a:Addr}{its:List Value}{n:Int}{t:Tok}{Q:Value->Shared->Prop}(ht:IsTup s.heap a its.toArray)(hne:its≠[])(h1:1<=n)(h2:n<2 ^ 62)(hz:its.length*n.toNat<=sizeLine)(q1:n=1->Q (.ref a) s)(q2:Q (.ref s.heap.objs.size) { s with heap:=s.heap.push { cls:=.type "tuple",data:=.seq (List.replicate n.toNat its).flatten.toArray } }):wpAny (model prog w) A (binaryOp .Mult (.ref a) (.int n t)) Q E s:=by
 obtain⟨o,ho,hc,k,hd⟩:=id ht;obtain⟨cls,dict,data,slots⟩:=o;dsimp only at hc hd;subst hc hd;have he:its.toArray.isEmpty=false:=by cases its<;>first|exact absurd rfl hne|rfl
 refine wpAny_binaryOp_repeat_ref (T:="tuple") (U:="int") (by decide) ht.typeIs (fun s'=>typeIs_int s' n t) ad1 F.fills_int_mul F.slot_int_rmul at0 F.slot_int_index.lookup
  (call_meets F.slot_int_rmul (typeIs_int s n t) F.entry_int_rmul (F.args_int_rmul_2 _ _) (ak1 n t a its.toArray k dict slots) ⟨ho,rfl,ht.typeIs,?_⟩)
 refine wpAny_call_entry F.slot_tuple_mul ht.typeIs F.entry_tuple_mul ?_ (F.args_tuple_mul_2 _ _);rw[aj2];refine wpAny_bind (wpAny_of_eq (show asIndex (.int n t)=pure n from rfl) ?_);dsimp only;rw[if_neg (by simp only[Bool.or_eq_true,decide_eq_true_eq];omega)];refine wpAny_bind (tupleItemsOf_ ht ?_);have big:¬((its.toArray.size:Int)*n>(2 ^ 63-1) / 8):=by
  rw[List.size_toArray];have:((its.length*n.toNat:Nat):Int)=(its.length:Int)*n:=by rw[Int.natCast_mul];rw[show((n.toNat:Nat):Int)=n by omega]
  rw[<- this];have hs:sizeLine<2 ^ 59:=by decide
  omega
 have many:¬(Builtin.Tuple.tupleTooMany ((its.toArray.size:Int)*n)=true):=by
  unfold Builtin.Tuple.tupleTooMany;rw[List.size_toArray,decide_eq_true_iff];have:((its.length*n.toNat:Nat):Int)=(its.length:Int)*n:=by rw[Int.natCast_mul];rw[show((n.toNat:Nat):Int)=n by omega]
  rw[<- this];omega
 have hsz:sizeOk (.seq (List.replicate n.toNat its).flatten.toArray):=by
  show(List.replicate n.toNat its).flatten.toArray.size<=sizeLine;simp only[List.size_toArray,List.length_flatten,List.map_replicate,List.sum_replicate_nat];rw[Nat.mul_comm];exact hz
 by_cases e1:n=1
 ·subst e1;rw[if_pos (by rw[he];rfl)];unfold Builtin.Tuple.tupleIsExact;refine wpAny_bind (wpAny_bind (wpAny_typeOf ht.typeIs (wpAny_pure ?_)));rw[if_pos (by decide)]
  first
   |exact wpAny_bind (wpAny_rule (wpAny_bind (wpAny_pure ⟨_,rfl,wpAny_pure (q1 rfl)⟩)))
   |exact wpAny_bind (wpAny_rule (wpAny_pure ⟨_,rfl,(q1 rfl)⟩))
   |exact wpAny_bind (wpAny_rule (wpAny_pure ⟨_,rfl,wpAny_pure (q1 rfl)⟩))
 ·rw[if_neg (by rw[he];simpa using e1)];rw[if_neg (by rw[he];simp;omega),if_neg big,if_neg many];rw[show List.foldl (fun x1 x2=>x1++x2) #[] (List.replicate n.toNat its.toArray)=(List.replicate n.toNat its).flatten.toArray by rw[aI0];simp]
  first
   |exact wpAny_bind (m:=Builtin.Tuple.tupleExact _) (wpAny_newObj_type (wpAny_pure ⟨_,rfl,q2⟩) hsz)
   |exact wpAny_bind (m:=Builtin.Tuple.tupleExact _) (wpAny_newObj_type (wpAny_pure ⟨_,rfl,wpAny_pure q2⟩) hsz)
end
end HT
namespace L2
open PySem PySem.Spec PyProof.Rows
section
variable{X:Cx}
noncomputable def bw5(K:PySem.W.Frag):R2:=fun x y H Q=>∃(a:Addr) (n:Int) (xs:List V),x=.ref a/\y=.int n/\SqT K H a xs/\xs≠[]/\1<=n/\n<2 ^ 62/\xs.length*n.toNat<=sizeLine /\
 (n=1->Q (.ref a) H)/\(∀p,H p=none->Q (.ref p) (upd H p (.tup (List.replicate n.toNat xs).flatten)))
theorem bc4:OpR X (binaryOp .Mult) (bw5 X.K):=by
 intro pins s σ H x y v u Q I rx ry h;obtain⟨a,n,xs,rfl,rfl,ha,hne,h1,h2,hz,q1,q2⟩:=h;cases rx;obtain⟨tk,rfl⟩:=ry;obtain⟨its,r,p,_⟩:=I.tuple ha;refine HT.aK7 p (fun z=>hne (r.J9.mp z)) h1 h2 (by rw[<- r.length];exact hz) (fun e=>⟨.ref a,H,I,rfl,q1 e⟩) ?_;refine⟨.ref s.heap.objs.size,_,I.laid (t':=s.toks) (o:=.tup (List.replicate n.toNat xs).flatten) (fun b ob q=>Heap.get?_push_of_some _ q) (Nat.le_refl _) ?_,rfl,q2 _ (I.hok.fresh (Nat.le_refl _))⟩;exact⟨by rw[len_rep,Nat.mul_comm];exact hz,_,r.rep _,A3.new _ _⟩
noncomputable def v7(sep:Str)(ys:List Str):Nat:=ys.foldl (fun n y=>n+y.length+sep.length) 0
theorem aL3:∀{ys:List Str} {vs:List Value},Vals (ys.map V.str) vs->∃l:List (Str×Tok),vs=strValues l/\l.map (·.1)=ys:=by
 intro ys
 induction ys with
 |nil=>intro vs h;cases h;exact⟨[],rfl,rfl⟩
 |cons y ys ih =>
  intro vs h;cases h with
  |cons r rr =>
   obtain⟨t,rfl⟩:=r;obtain⟨l,rfl,e⟩:=ih rr;exact⟨(y,t)::l,rfl,by rw[List.map_cons,e]⟩
theorem aR2(sep:Str):∀(ps:List Str) (acc:Array Nat) (n:Nat),acc.size<=n->(ps.foldl (fun acc p=>acc++sep.cps++p.cps) acc).size<=ps.foldl (fun n y=>n+y.length+sep.length) n:=by
 intro ps
 induction ps with
 |nil=>intro acc n h;exact h
 |cons p ps ih =>
  intro acc n h;rw[List.foldl_cons,List.foldl_cons];refine ih _ _ ?_;rw[Array.size_append,Array.size_append];have:p.length=p.cps.size:=rfl;have:sep.length=sep.cps.size:=rfl;omega
theorem an7(sep:Str)(ys:List Str):(Builtin.Str.glued sep ys).length<=v7 sep ys:=by
 cases ys with
 |nil=>exact Nat.le_refl _
 |cons y ys =>
  show((ys.foldl (fun acc p=>acc++sep.cps++p.cps) y.cps)).size<=ys.foldl (fun n y=>n+y.length+sep.length) (0+y.length+sep.length);refine aR2 sep ys _ _ ?_;have:y.length=y.cps.size:=rfl;omega
theorem bd4:MtR X "str.join" (fun x xs H Q=>∃sep a ys,x=.str sep/\xs=[.ref a]/\SqL X.K H a (ys.map V.str)/\v7 sep ys<=sizeLine/\Q (.str (Builtin.Str.glued sep ys)) H):=by
 intro pins s σ H x xs v us Q I rx r h;obtain⟨sep,a,ys,rfl,rfl,hq,hz,q⟩:=h;obtain⟨t,rfl⟩:=rx;cases r with
 |cons r rr =>
 cases rr;cases r;obtain⟨its,rv,pl,_⟩:=I.list hq;obtain⟨l,rfl,el⟩:=aL3 rv;have hl:Builtin.Str.tooLong ((l.map (·.1)).toArray.foldl (·+·.length+sep.length) 0)=false:=by
  unfold Builtin.Str.tooLong;rw[decide_eq_false_iff_not,List.foldl_toArray,el];exact Nat.not_lt.mpr hz
 refine call_meets F.slot_str_join (typeIs_str s sep t) F.entry_str_join (F.args_str_join_2 _ _) (meets_str_join_list sep t a l hl) ⟨pl.isList,?_⟩;have fin:wants (EP X pins σ Q) X.xe (Except.ok (Flow.ret (.str (Builtin.Str.glued sep ys) s.toks))) { s with toks:=s.toks+1 }:=⟨.str _,H,I.tok _,⟨_,rfl⟩,q⟩
 have gen:(Made.str (Builtin.Str.glued sep (l.map (·.1)))).post (fun v s'=>wants (EP X pins σ Q) X.xe (Except.ok (Flow.ret v)) s') s:=by
  rw[el];exact⟨Nat.le_trans (an7 sep ys) hz,fin⟩
 rcases l with _|⟨p,_|⟨p2,l⟩⟩
 ·exact gen
 ·subst el;exact⟨.str p.1,H,I,⟨_,rfl⟩,q⟩
 ·exact gen
end
end L2

namespace HT
open PySem PyProof.Rows Builtin PySem.SeqAt
theorem ao7(l:Addr)(items:Array Value)(n:Nat)(dd:Option Addr)(sl:Array (Option Value))(x:Value)(e:Value->Bool)(j:Nat)(hj:j<items.size)(hit:e items[j]=true)(hno:∀m (hm:m<items.size),m<j->e items[m]=false) :
    Meets (Builtin.«tuple.index» ⟨[.ref l,x],[]⟩)
      (fun A R s=>s.heap.get? l=some { cls:=.type "tuple",dict:=dd,data:=.seq items n,slots:=sl }/\(∀y,y∈items->EqAt A.in1 s y x (e y))/\R (.ok (.ret (.int j s.toks))) { s with toks:=s.toks+1 }) :=
  .of_wp fun prog w A R s h=>by
    obtain⟨hp,g,d,tk,os⟩:=s;obtain⟨hl,he,h⟩:=h
    wp_walk using wpAny_loadPart' hl
    show wpAny (model prog w) A.in1 (forIn ([:Min.min items.size items.size]:Std.Legacy.Range) ((none,()):Option PySem.Fin × Unit) (fun (i:Nat) __s =>
            match items[i]? with
            |some y=>do
              let __do_lift <- eqBool y x
              if __do_lift=true then do
                  let __do_lift <- retInt (i:Nat)
                  pure (ForInStep.done (some __do_lift,()))
                else pure (ForInStep.yield (none,()))
            | x=>pure (ForInStep.yield (none,())))) _ _ _
    rw[Std.Legacy.Range.forIn_eq_forIn_range'];simp only[Std.Legacy.Range.size,Nat.sub_zero,Nat.add_sub_cancel,Nat.div_one,Nat.min_self];refine wpAny_forIn_list _ (fun rest b s'=>b=(none,())/\s'=⟨hp,g,d,tk,os⟩/\∃i,rest=List.range' i (items.size-i)/\i<=j) _ ?_ ?_ _ _ ⟨rfl,rfl,0,by simp,Nat.zero_le _⟩
    · rintro y rest b s' ⟨rfl,rfl,i,hr,hi⟩;have hlt:i<items.size:=by omega
      rw[show items.size-i=(items.size-(i+1))+1 by omega,List.range'_succ] at hr;cases hr;rw[show items[y]?=some items[y] from Array.getElem?_eq_getElem hlt];refine wpAny_bind (he _ (Array.getElem_mem hlt) prog w _ _ ?_);by_cases hij:y=j
      · subst hij;rw[hit]
        wp_walk
        exact⟨_,rfl,h⟩
      · rw[hno y hlt (by omega)]
        wp_walk
        exact⟨rfl,rfl,y+1,rfl,by omega⟩
    · rintro b s' ⟨rfl,rfl,i,hr,hi⟩;exfalso;have:=congrArg List.length hr;simp at this;omega
section
variable{prog:Program}{w:World}{A:Around}{E:Value->Shared->Prop}{s:Shared}
theorem aO7:typeLookup (.type "tuple") (dunderI "add")=pure none:=by
 show typeLookup (.type "tuple") "__iadd__"=pure none;rw[typeLookup_type,builtinLookup_eq_fast];kernel_rfl
theorem a00{t b:Addr}{vs ws:List Value}{Q:Value->Shared->Prop}(ht:IsTup s.heap t vs.toArray)(hb:IsTup s.heap b ws.toArray)(h0:vs=[]->Q (.ref b) s)(h1:ws=[]->Q (.ref t) s)(h2:Q (.ref s.heap.objs.size) { s with heap:=s.heap.push { cls:=.type "tuple",data:=.seq (vs++ws).toArray } })(hsz:vs.length+ws.length<=sizeLine):wpAny (model prog w) A (inplaceOp .Add (.ref t) (.ref b)) Q E s:=by
 obtain⟨⟨cls,dd,data,sl⟩,ho,hc,n,hd⟩:=id ht;obtain⟨⟨cls2,dd2,data2,sl2⟩,ho2,hc2,n2,hd2⟩:=id hb;simp only at hc hd hc2 hd2;subst hc hd hc2 hd2;have e:vs.toArray++ws.toArray=(vs++ws).toArray:=by simp
 refine wpAny_inplaceOp_concat (T:="tuple") ⟨_,ho,rfl⟩ ⟨_,ho2,rfl⟩ aO7 noFill_tuple_add seq_tuple_add ?_;by_cases hv:vs=[]
 ·subst hv;exact call_meets F.slot_tuple_add ⟨_,ho,rfl⟩ F.entry_tuple_add (F.args_tuple_add_2 _ _) (tuple_addW0 t b #[] ws.toArray n n2 dd dd2 sl sl2 rfl) ⟨ho,ho2,h0 rfl⟩
 by_cases hw:ws=[]
 ·exact call_meets F.slot_tuple_add ⟨_,ho,rfl⟩ F.entry_tuple_add (F.args_tuple_add_2 _ _) (tuple_addW1 t b vs.toArray ws.toArray n n2 dd dd2 sl sl2 (by simpa using hv) (by simp[hw])) ⟨ho,ho2,h1 hw⟩
 ·refine call_meets F.slot_tuple_add ⟨_,ho,rfl⟩ F.entry_tuple_add (F.args_tuple_add_2 _ _) (tuple_addW2 t b vs.toArray ws.toArray n n2 dd dd2 sl sl2 (by simpa using hv) (by simpa using hw) (by rw[List.size_toArray,List.size_toArray];exact hsz)) ⟨ho,ho2,?_⟩;rw[e];exact h2
end
end HT
namespace L2
open PySem PySem.Spec PyProof.Rows
section
variable{X:Cx}
noncomputable def ab2(ys:List V)(y:V)(n:Nat):Prop:=ys.all B9=true/\B9 y=true/\(∃z,ys[n]?=some z/\eqV z y=true)/\∀(m:Nat) z,m<n->ys[m]?=some z->eqV z y=false
theorem aj1:∀{xs:List V} {us:List Value} {i:Nat} (hi:i<us.length),Vals xs us->∃x,xs[i]?=some x/\RelV x us[i]
 |_,_,0,hi,.cons r _=>⟨_,rfl,r⟩
 |_,_,i+1,hi,.cons _ t=>by
  obtain⟨x,h1,h2⟩:=aj1 (i:=i) (by simpa using hi) t;exact⟨x,by simpa using h1,by simpa using h2⟩
theorem aS8{xs:List V}(h:xs.all B9=true){i:Nat}{x:V}(e:xs[i]?=some x):B9 x=true:=List.all_eq_true.mp h x (List.mem_of_getElem? e)
theorem ao1{ys:List V}{y:V}{n:Nat}{its:List Value}(F:ab2 ys y n)(r:Vals ys its):∃hn:n<its.toArray.size,eqU y its.toArray[n]=true/\∀m (hm:m<its.toArray.size),m<n->eqU y its.toArray[m]=false:=by
 obtain⟨fs,fy,⟨z,hz,he⟩,hno⟩:=F;have hl:=r.length;have hn:n<its.length:=by
  have:=(List.getElem?_eq_some_iff.mp hz).1;omega
 refine⟨by simpa using hn,?_,fun m hm hmn=>?_⟩
 ·obtain⟨x,hx,rx⟩:=aj1 hn r;rw[hz] at hx;cases hx;rw[List.getElem_toArray,av9 rx (aS8 fs hz)];exact he
 ·have hm':m<its.length:=by simpa using hm
  obtain⟨x,hx,rx⟩:=aj1 hm' r;rw[List.getElem_toArray,av9 rx (aS8 fs hx)];exact hno m x hmn hx
noncomputable def aA9(K:PySem.W.Frag):V->List V->Hp->VK->Prop:=fun x xs H Q=>∃a ys y n,x=.ref a/\xs=[y]/\SqT K H a ys/\ab2 ys y n/\Q (.int n) H
noncomputable def aB0(K:PySem.W.Frag):V->List V->Hp->VK->Prop:=fun x xs H Q=>∃a ys y n,x=.ref a/\xs=[y]/\SqL K H a ys/\ab2 ys y n/\n<2 ^ 62/\Q (.int n) H
theorem aO8:MtR X "tuple.index" (aA9 X.K):=by
 intro pins s σ H x xs v us Q I rx r h;obtain⟨a,ys,y,n,rfl,rfl,hq,W,q⟩:=h;cases rx;cases r with
 |cons ry rr =>
 cases rr;obtain⟨its,rv,p,hz⟩:=I.tuple hq;obtain⟨hn,hit,hno⟩:=ao1 W rv;obtain⟨⟨cls,dd,data,sl⟩,ho,hc,k,hd⟩:=id p;simp only at hc hd;subst hc hd;refine call_meets F.slot_tuple_index p.typeIs F.entry_tuple_index (F.args_tuple_index_2 _ _) (HT.ao7 a its.toArray k dd sl _ (eqU y) n hn hit hno) ⟨ho,fun w hw=>ad2 ry W.2.1 rv W.1 w (by simpa using hw),⟨.int n,H,I.tok _,⟨_,rfl⟩,q⟩⟩
theorem aO9:MtR X "list.index" (aB0 X.K):=by
 intro pins s σ H x xs v us Q I rx r h;obtain⟨a,ys,y,n,rfl,rfl,hq,W,hn2,q⟩:=h;cases rx;cases r with
 |cons ry rr =>
 cases rr;obtain⟨its,rv,p,hz⟩:=I.list hq;obtain⟨hn,hit,hno⟩:=ao1 W rv;have pt:=p.isList.typeIs;obtain⟨⟨cls,dd,data,sl⟩,k,ho,hc,hdd,hd⟩:=id p;simp only at hc hdd hd;subst hc hdd hd;refine call_meets F.slot_list_index pt F.entry_list_index (F.args_list_index_2 _ _) (SeqAt.list_indexAt a its.toArray k none sl _ (eqU y) n hn (by omega) hit hno) ⟨ho,fun w hw=>ad2 ry W.2.1 rv W.1 w (by simpa using hw),⟨.int n,H,I.tok _,⟨_,rfl⟩,q⟩⟩
noncomputable def ax7(K:PySem.W.Frag)(H:Hp)(a:Addr)(xs:List V):Prop :=
 H a=some (.tup xs)\/∃(o:Obj) (its:Array Value) (n:Nat),K.lookup a=some o/\o.cls=.type "tuple"/\o.dict=none/\o.data=.seq its n/\its.size<=sizeLine/\Vals xs its.toList
theorem ax7.sq{K:PySem.W.Frag}{H:Hp}{a:Addr}{xs:List V}(h:ax7 K H a xs):SqT K H a xs:=by
 rcases h with h|⟨o,its,n,h1,h2,_,h3,h4,h5⟩
 ·exact .inl (.inl h)
 ·exact .inr ⟨o,its,n,h1,h2,h3,h4,h5⟩
theorem Inv.bD6{pins:List (Addr×Obj)}{σ:St}{H:Hp}{s:Shared}{a:Addr}{xs:List V}(I:Inv X pins σ H s)(h:ax7 X.K H a xs):s.TypeIs (.ref a) "tuple"/\∀b,Value.ref a=.ref b->∃ob,s.heap.get? b=some ob/\ob.dict=none:=by
 rcases h with h|⟨o,its,n,h1,h2,h3,_⟩
 ·obtain⟨_,its,_,o,e,c,_,d⟩:=(show g8 X.prog X.w H s.heap a (.tup xs) from I.hok a _ h)
  exact⟨⟨o,e,c⟩,fun b q=>by cases q;exact⟨o,e,d⟩⟩
 ·exact⟨⟨o,I.kIn a o h1,h2⟩,fun b q=>by cases q;exact⟨o,I.kIn a o h1,h3⟩⟩
noncomputable def bi5(K:PySem.W.Frag)(to:TE)(t:TA):TE:=fun σ H Q=>to σ H fun x H1=>(∃a xs,x=.ref a/\SqL K H1 a xs/\t σ H1 fun ys H2=>aB0 K x ys H2 Q)\/(∃a xs,x=.ref a/\ax7 K H1 a xs/\t σ H1 fun ys H2=>aA9 K x ys H2 Q)
theorem aX1{o e:Expr}{es:List Expr}{to:TE}{t:TA}{apos cpos:Pos}(ho:PE X o to)(ha:PA X (e::es) t)(hbase:attributeBase o "index" X.env (eval o X.env)=eval o X.env)(hfew:((backTo cpos (starEach (e :: es) X.env)).all (fun x=>!x.1) && (backToKw cpos (keywordEach [] X.env)).all (fun x=>x.1.isSome)
   && decide ((e :: es).length + ([]:List Keyword).length + (if ([]:List Keyword).isEmpty then 0 else 1) < 30))=true)(hline:(apos.endLine==cpos.line)=true)(hs:starEach (e::es) X.env=(false,eval e X.env)::starEach es X.env)(hplain:(backTo cpos (starEach es X.env)).any (·.1)=false) :
  PE X (.Call (.Attribute o "index" apos) (e::es) [] cpos) (bi5 X.K to t):=by
 intro pins s σ H Q I h;refine wpAny_Call_method_late hbase hfew hline rfl (thn (ho pins s σ H _ I h) fun v s1 ⟨x,H1,I1,r1,q1⟩=>?_);rcases q1 with⟨a,xs,rfl,hq,q1⟩|⟨a,xs,rfl,hq,q1⟩
 ·cases r1;obtain⟨its,rv,pl,hz⟩:=I1.list hq;have pt:=pl.isList.typeIs;obtain⟨ob,k,e1,_,e2,_⟩:=id pl;refine⟨"list","list.index",F.plainAttrs_list,F.slot_list_index,F.type_list_index,pt,fun b q=>by cases q;exact⟨ob,e1,e2⟩,?_⟩;have hA:=ha cpos pins s1 σ H1 _ I1 q1;rw[hs] at hA ⊢;refine Calls.callWith_builtin (by show(false||(backTo cpos (starEach es X.env)).any (·.1))=false;rw[hplain]<;>rfl) (Calls.evalArgs_plain ?_);exact thn hA fun us s2 ⟨vs,H2,I2,r2,q2⟩=>aO9 pins s2 σ H2 (.ref a) vs (.ref a) us Q I2 rfl r2 q2
 ·cases r1;obtain⟨pt,hd⟩:=I1.bD6 hq;refine⟨"tuple","tuple.index",F.plainAttrs_tuple,F.slot_tuple_index,F.type_tuple_index,pt,hd,?_⟩;have hA:=ha cpos pins s1 σ H1 _ I1 q1;rw[hs] at hA ⊢;refine Calls.callWith_builtin (by show(false||(backTo cpos (starEach es X.env)).any (·.1))=false;rw[hplain]<;>rfl) (Calls.evalArgs_plain ?_);exact thn hA fun us s2 ⟨vs,H2,I2,r2,q2⟩=>aO8 pins s2 σ H2 (.ref a) vs (.ref a) us Q I2 rfl r2 q2
noncomputable def bw6(K:PySem.W.Frag):V->V->Hp->VK->Prop:=fun x y H Q=>(∃i j,x=.int i/\y=.int j/\Q (.int (i+j)) H) \/
 ∃a b xs ys,x=.ref a/\y=.ref b/\SqT K H a xs/\SqT K H b ys/\xs.length+ys.length<=sizeLine/\(xs=[]->Q (.ref b) H)/\(ys=[]->Q (.ref a) H)/\(∀p,H p=none->Q (.ref p) (upd H p (.tup (xs++ys))))
theorem be4:a29 X .Add (bw6 X.K):=by
 rintro pins s σ H x y u v Q I rx ry h;rcases h with h|⟨a,b,xs,ys,rfl,rfl,ha,hb,hz,q0,q1,q2⟩
 ·exact br6 pins s σ H x y u v Q I rx ry h
 ·cases rx;cases ry;obtain⟨its,r1,p1,_⟩:=I.tuple ha;obtain⟨its2,r2,p2,_⟩:=I.tuple hb;refine HT.a00 p1 p2 (fun z=>⟨.ref b,H,I,rfl,q0 (r1.J9.mp z)⟩) (fun z=>⟨.ref a,H,I,rfl,q1 (r2.J9.mp z)⟩) ?_ (by rw[<- r1.length,<- r2.length];exact hz);refine⟨.ref s.heap.objs.size,_,I.laid (t':=s.toks) (o:=.tup (xs++ys)) (fun b ob q=>Heap.get?_push_of_some _ q) (Nat.le_refl _) ?_,rfl,q2 _ (I.hok.fresh (Nat.le_refl _))⟩;exact⟨by rw[List.length_append];exact hz,_,r1.append r2,A3.new _ _⟩
end
end L2

namespace ST
open PySem PyProof.Rows
theorem be7{mask i p fuel:Nat}{owner:Array (Option Nat)}(h:owner.getD i (some 0)=none):SetTable.layClean.free mask owner (fuel+1) i p=some i:=by
 unfold SetTable.layClean.free;have e:SetTable.runEnd mask i+1-i=(SetTable.runEnd mask i-i)+1:=by
  unfold SetTable.runEnd;split<;>omega
 rw[e,List.range_succ_eq_map,List.find?_cons];rw[Nat.add_zero,h]
 rfl
noncomputable def Spot(k:Int):Prop:=0<=k/\k<8
structure Own(mask:Nat)(owner:Array (Option Nat))(pre:List Int):Prop where
 sz:owner.size=mask+1
 fwd:∀(i:Nat) (k:Int),pre[i]?=some k->owner[k.toNat]?=some (some i)
 bwd:∀(j i:Nat),owner[j]?=some (some i)->pre[i]?=some (j:Int)
theorem aC2{mask:Nat}(hm:7<=mask):∀(hs pre:List Int) (owner:Array (Option Nat)),(pre++hs).Nodup->(∀k∈pre++hs,Spot k)->Own mask owner pre ->
  ∃ owner',Own mask owner' (pre ++ hs)/\hs.foldl (fun acc h=>do
   let (owner,k) <- acc
   let j <- SetTable.layClean.free mask owner (SetTable.turns mask) (SetTable.bits h % (mask+1)) (SetTable.bits h)
   pure (owner.setIfInBounds j (some k),k + 1)) (some (owner,pre.length))=some (owner',(pre ++ hs).length)
 |[],pre,owner,_,_,o=>⟨owner,by simpa using o,by simp⟩
 |h::hs,pre,owner,hn,hp,o=>by
  obtain⟨h0,h8⟩:=hp h (by simp);have eb:SetTable.bits h % (mask+1)=h.toNat:=by
   unfold SetTable.bits;rw[Int.emod_eq_of_lt h0 (by omega)];exact Nat.mod_eq_of_lt (by omega)
  have hlt:h.toNat<owner.size:=by rw[o.sz];omega
  have hfree:owner[h.toNat]?=some none:=by
   rw[Array.getElem?_eq_getElem hlt];cases e:owner[h.toNat] with
   |none=>rfl
   |some i =>
    have:=o.bwd h.toNat i (by rw[Array.getElem?_eq_getElem hlt,e]);rw[Int.toNat_of_nonneg h0] at this;have hm:=List.mem_of_getElem? this;rw[List.nodup_append] at hn;exact absurd rfl (hn.2.2 h hm h (by simp))
  have ef:SetTable.layClean.free mask owner (SetTable.turns mask) (SetTable.bits h % (mask+1)) (SetTable.bits h)=some h.toNat:=by
   rw[eb];exact be7 (fuel:=mask+14) (by rw[Array.getD_eq_getD_getElem?,hfree];rfl)
  have o':Own mask (owner.setIfInBounds h.toNat (some pre.length)) (pre++[h]):=by
   refine⟨by rw[Array.size_setIfInBounds];exact o.sz,fun i k hi=>?_,fun j i hj=>?_⟩
   ·rw[List.getElem?_append] at hi;split at hi
    ·have hk:=o.fwd i k hi;have hks:=hp k (by have:=List.mem_of_getElem? hi;simp[this]);have hne:h.toNat≠k.toNat:=fun z=>by
      have:k=h:=by have:=hks.1;omega
      subst this;rw[List.nodup_append] at hn;exact absurd rfl (hn.2.2 k (List.mem_of_getElem? hi) k (by simp))
     rw[Array.getElem?_setIfInBounds_ne hne];exact hk
    ·rename_i hge;have:i-pre.length=0:=by
      cases e:i-pre.length with
      |zero=>rfl
      |succ n=>rw[e] at hi;simp at hi
     rw[this] at hi;cases hi;have:i=pre.length:=by omega
     subst this;rw[Array.getElem?_setIfInBounds_self_of_lt hlt]
   ·by_cases e:h.toNat=j
    ·subst e;rw[Array.getElem?_setIfInBounds_self_of_lt hlt] at hj;cases hj;rw[Int.toNat_of_nonneg h0];simp
    ·rw[Array.getElem?_setIfInBounds_ne e] at hj;have:=o.bwd j i hj;rw[List.getElem?_append_left (List.getElem?_eq_some_iff.mp this).1];exact this
  obtain⟨owner',o2,e2⟩:=aC2 hm hs (pre++[h]) _ (by simpa using hn) (by simpa using hp) o';refine⟨owner',by simpa using o2,?_⟩;rw[List.foldl_cons];have e1:(do
   let (owner,k) <- some (owner,pre.length)
   let j <- SetTable.layClean.free mask owner (SetTable.turns mask) (SetTable.bits h % (mask+1)) (SetTable.bits h)
   pure (owner.setIfInBounds j (some k),k + 1):Option (Array (Option Nat) × Nat))=some (owner.setIfInBounds h.toNat (some pre.length),(pre ++ [h]).length):=by
   simp only[Option.bind_eq_bind,Option.bind_some,ef,Option.pure_def];simp
  rw[e1,e2];simp
theorem aH4{mask finger moves:Nat}{led plain:Bool}{hashes:Array Int}(hm:7<=mask)(hn:hashes.toList.Nodup)(hs:∀k∈hashes.toList,Spot k) :
  ∃t o,SetTable.laid mask finger moves led plain hashes=some (t,o)/\o.toList.Perm (List.range hashes.size)/\t.mask=mask/\t.place.size=hashes.size:=by
 have o0:Own mask (Array.replicate (mask + 1) none) []:=⟨by simp,fun i k h=>by simp at h,fun j i h=>by
  rw[Array.getElem?_replicate] at h;split at h <;> cases h⟩
 obtain⟨owner,o,e⟩:=aC2 hm hashes.toList [] _ (by simpa using hn) (by simpa using hs) o0;rw[List.nil_append] at o e;have el:SetTable.layClean mask hashes=some owner:=by
  unfold SetTable.layClean;rw[<- Array.foldl_toList];have:=e;simp only[List.length_nil] at this;rw[this]
  rfl
 have hP:((List.range (mask+1)).filterMap fun j=>owner.getD j none).Perm (List.range hashes.size):=by
  have gd:∀j i,owner.getD j none=some i↔owner[j]?=some (some i):=fun j i=>by
   rw[Array.getD_eq_getD_getElem?];cases owner[j]? with
   |none=>simp
   |some x=>simp
  refine(List.perm_ext_iff_of_nodup ?_ List.nodup_range).mpr fun i=>?_
  ·unfold List.Nodup;rw[List.pairwise_filterMap];refine List.Pairwise.imp ?_ List.pairwise_lt_range;intro a b hab x hx y hy z;subst z;have h1:=o.bwd a x ((gd _ _).mp hx);have h2:=o.bwd b x ((gd _ _).mp hy);rw[h1] at h2;cases h2;omega
  ·rw[List.mem_filterMap,List.mem_range];constructor
   ·rintro⟨j,_,hj⟩;have:=(List.getElem?_eq_some_iff.mp (o.bwd j i ((gd _ _).mp hj))).1;simpa using this
   ·intro hi;have hi':i<hashes.toList.length:=by simpa using hi
    have hg:=List.getElem?_eq_getElem hi';have hk:=hs _ (List.getElem_mem hi');refine⟨(hashes.toList[i]).toNat,List.mem_range.mpr ?_,(gd _ _).mpr (o.fwd i _ hg)⟩;have:=hk.1;have:=hk.2;omega
 refine⟨{ mask,place:=((List.filterMap (fun j=>(owner.getD j none).map (j,·)) (List.range (mask+1))).map (·.1)).toArray,dummies:=#[],finger,led,moves,plain },((List.filterMap (fun j=>(owner.getD j none).map (j,·)) (List.range (mask+1))).map (·.2)).toArray,?_,?_,rfl,?_⟩
 ·unfold SetTable.laid;rw[el]
  rfl
 ·rw[List.toList_toArray,List.map_filterMap];have:(fun j=>Option.map (fun x:Nat×Nat=>x.2) (Option.map (fun x=>(j,x)) (owner.getD j none)))=fun j=>owner.getD j none:=by
   funext j
   cases owner.getD j none<;>rfl
  rw[this];exact hP
 ·show(List.map _ _).toArray.size=_;rw[List.size_toArray,List.length_map];have:=hP.length_eq;rw[List.length_range] at this;rw[<- this];have e3:(List.range (mask+1)).filterMap (fun j=>owner.getD j none)=(List.filterMap (fun j=>(owner.getD j none).map (j,·)) (List.range (mask+1))).map (·.2):=by
   rw[List.map_filterMap]
   congr 1
   funext j
   cases owner.getD j none<;>rfl
  rw[e3,List.length_map]
end ST

namespace ST
open PySem PyProof.Rows
section
variable{prog:Program}{w:World}{A:Around}{E:Value->Shared->Prop}{s:Shared}{a:Addr}
noncomputable def U6(prog:Program)(w:World)(h:Heap)(a:Addr)(ks:List Int):Prop :=
 ∃o es ep t,h.get? a=some o/\o.ExactSet/\o.data=.set es ep t/\ElemsOf (intKind prog w) es.toList/\(es.toList.map fun e=>toI e.2).Perm ks/\ks.Nodup/\es.size<scanBound/\t.fits es.size=true/\Well (Led w) t/\(ks=[]->7<=t.mask)
theorem U6.toW{h:Heap}{ks:List Int}(x:U6 prog w h a ks):f9 prog w h a ks:=by
 obtain⟨o,es,ep,t,h1,h2,h3,h4,h5,h6,h7,h8,h9,_⟩:=x;exact⟨o,es,ep,t,h1,h2,h3,h4,h5,h6,h7,h8,h9⟩
theorem f9.toV{h:Heap}{ks:List Int}(x:f9 prog w h a ks)(hn:ks≠[]):U6 prog w h a ks:=by
 obtain⟨o,es,ep,t,h1,h2,h3,h4,h5,h6,h7,h8,h9⟩:=x;exact⟨o,es,ep,t,h1,h2,h3,h4,h5,h6,h7,h8,h9,fun z=>absurd z hn⟩
theorem f9.same{h:Heap}{ks us:List Int}(x:f9 prog w h a ks)(hp:ks.Perm us):f9 prog w h a us:=by
 obtain⟨o,es,ep,t,h1,h2,h3,h4,h5,h6,h7⟩:=x;exact⟨o,es,ep,t,h1,h2,h3,h4,h5.trans hp,hp.nodup_iff.mp h6,h7⟩
theorem aQ9{k:Int}(h:Spot k):(intKind prog w).hash k=k:=by
 obtain⟨h0,h8⟩:=h;show hashInt k=k;have:k=0\/k=1\/k=2\/k=3\/k=4\/k=5\/k=6\/k=7:=by omega
 rcases this with rfl|rfl|rfl|rfl|rfl|rfl|rfl|rfl<;>decide +kernel
theorem av4{es:Array (Int×Value)}{ks:List Int}(hel:ElemsOf (intKind prog w) es.toList)(hp:(es.toList.map fun e=>toI e.2).Perm ks)(hs:∀k∈ks,Spot k):(es.map (·.1)).toList=es.toList.map fun e=>toI e.2:=by
 rw[Array.toList_map];refine List.map_congr_left fun e he=>?_;obtain⟨tk,h1,h2⟩:=Q5 hel he;rw[h2];exact aQ9 (hs _ (hp.mem_iff.mp (List.mem_map.mpr ⟨e,he,rfl⟩)))
theorem aC3{es:Array (Int×Value)}{ks:List Int}{mask finger moves:Nat}{led plain:Bool}(hm:7<=mask)(hsz:es.size<=mask)(hl:led=Led w)(hel:ElemsOf (intKind prog w) es.toList)(hp:(es.toList.map fun e=>toI e.2).Perm ks)(hn:ks.Nodup)(hs:∀k∈ks,Spot k) :
  ∃t o,SetTable.laid mask finger moves led plain (es.map (·.1))=some (t,o)/\(o.filterMap (es[·]?)).toList.Perm es.toList/\(o.filterMap (es[·]?)).size=es.size/\t.mask=mask/\t.fits es.size=true/\Well (Led w) t:=by
 have eh:=av4 hel hp hs;obtain⟨t,o,e,hP,h1,h2⟩:=aH4 (finger:=finger) (moves:=moves) (led:=led) (plain:=plain) (hashes:=es.map (·.1)) hm (by rw[eh];exact hp.nodup_iff.mpr hn) (by rw[eh];exact fun k hk=>hs k (hp.mem_iff.mp hk));rw[Array.size_map] at hP h2;have e2:(o.filterMap (es[·]?)).toList.Perm es.toList:=by
  rw[Array.toList_filterMap];refine(hP.filterMap _).trans ?_;have:(List.range es.size).filterMap (es[·]?)=es.toList:=by
   have gen:∀(l:List (Int×Value)),(List.range l.length).filterMap (fun i=>l[i]?)=l:=fun l=>by
    induction l with
    |nil=>rfl
    |cons x r ih =>
     rw[List.length_cons,List.range_succ_eq_map,List.filterMap_cons];simp only[List.getElem?_cons_zero,List.filterMap_map]
     congr 1
   have:=gen es.toList;rw[Array.length_toList] at this;rw[<- this]
   congr 1
   funext i
   rw[Array.getElem?_toList]
  rw[this]
 have hw:=an3 hl e;refine⟨t,o,e,e2,by rw[<- Array.length_toList,e2.length_eq,Array.length_toList],h1,?_,hw⟩;unfold SetTable.fits SetTable.fill;rw[hw.dum,h2,h1];simp;exact hsz
theorem a47{es:Array (Int×Value)}{t:SetTable}{o:Array Nat}(hsz:(o.filterMap (es[·]?)).size=es.size){Q:Array (Int×Value)×SetTable->Shared->Prop}(h:Q (o.filterMap (es[·]?),t) s):wpAny (model prog w) A (do
  let some (t,order):=(some (t,o):Option (SetTable×Array Nat))|unsupported "internal:set-table-without-room"
  let es':=order.filterMap (es[·]?)
  if es'.size != es.size then unsupported "internal:set-table-lost-an-element"
  pure (es',t)) Q E s:=by
 dsimp only;rw[if_neg (by rw[hsz];simp)];exact wpAny_pure h
theorem Z2{h:Heap}{o:Obj}{es es':Array (Int×Value)}{ep:Nat}{t t':SetTable}(ho:h.get? a=some o)(hd:o.data=.set es ep t):(h.update a (Obj.putSet es' t')).get? a=some { o with data:=.set es' (ep+1) t' }:=by
 have:=Heap.get?_update_self (Obj.putSet es' t') ho (by rw[putSet_of es' t' hd];rfl);rw[putSet_of es' t' hd] at this;exact this
theorem above:∀n,n<300->7<SetTable.sizeAbove n/\n<SetTable.sizeAbove n/\SetTable.sizeAbove n<=sizeLine:=by decide +kernel
theorem ba3{ks:List Int}{n:Nat}{Q:Unit->Shared->Prop}(hS:f9 prog w s.heap a ks)(hs:∀k∈ks,Spot k)(hn:n<300)(hkn:ks.length<=n)(h:∀h',Heap.SameBut a s.heap h'->(∃o es ep t,h'.get? a=some o/\o.ExactSet/\o.data=.set es ep t/\ElemsOf (intKind prog w) es.toList/\(es.toList.map fun e=>toI e.2).Perm ks/\ks.Nodup/\es.size<scanBound/\t.fits es.size=true/\Well (Led w) t/\t.mask=SetTable.sizeAbove n-1)->Q () { s with heap:=h' }):wpAny (model prog w) A (setRelay a n) Q E s:=by
 obtain⟨o,es,ep,t,ho,hx,hd,hel,hp,hnd,hb,hf,hw⟩:=hS;obtain⟨a1,a2,a3⟩:=above n hn;have hsz:es.size=ks.length:=by rw[<- hp.length_eq];simp
 unfold setRelay;refine wpAny_bind (wpAny_setState_of ho hd hf ?_);dsimp only;rw[if_neg (by omega)];obtain⟨t2,od,e1,e2,e3,e4,e5,e6⟩:=aC3 (w:=w) (finger:=t.finger) (moves:=t.movedTo (SetTable.sizeAbove n-1)) (led:=t.led) (plain:=t.plain) (mask:=SetTable.sizeAbove n-1) (by omega) (by omega) hw.led hel hp hnd hs;unfold SetTable.relaid;rw[e1];refine wpAny_bind (a47 e3 ?_);dsimp only;refine wpAny_storeSet_of ho hd (h _ (Heap.SameBut.update s.heap a _) ⟨_,_,_,_,Z2 ho hd,hx,rfl,hel.perm e2,(e2.map _).trans hp,hnd,by omega,by rw[e3];exact e5,e6,e4⟩) (fits_of_scanBound (by omega))
theorem bm0{ks:List Int}{n:Nat}{Q:Unit->Shared->Prop}(hS:U6 prog w s.heap a ks)(hs:∀k∈ks,Spot k)(hn:ks.length+n<100)(h:∀h',Heap.SameBut a s.heap h'->(∃o es ep t,h'.get? a=some o/\o.ExactSet/\o.data=.set es ep t/\ElemsOf (intKind prog w) es.toList/\(es.toList.map fun e=>toI e.2).Perm ks/\ks.Nodup/\es.size<scanBound/\t.fits es.size=true/\Well (Led w) t/\(ks=[]->7<=t.mask)/\(ks=[]->n<=t.mask))->Q () { s with heap:=h' }):wpAny (model prog w) A (setRoomFor a n) Q E s:=by
 obtain⟨o,es,ep,t,ho,hx,hd,hel,hp,hnd,hb,hf,hw,hm⟩:=id hS;have hsz:es.size=ks.length:=by rw[<- hp.length_eq];simp
 have hpl:t.place.size=es.size:=by
  simp only[SetTable.fits,Bool.and_eq_true,beq_iff_eq] at hf;exact hf.1
 unfold setRoomFor;refine wpAny_bind (wpAny_setState_of ho hd hf ?_);dsimp only;by_cases c:(t.fill+n)*5>=t.mask*3
 ·have e:t.roomFor n=some ((t.place.size+n)*2):=by unfold SetTable.roomFor;rw[if_pos c]
  rw[e];refine ba3 hS.toW hs (by omega) (by omega) fun h' hk hS'=>h h' hk ?_;obtain⟨o,es,ep,t',ho,hx,hd,hel,hp,hnd,hb,hf,hw,hm⟩:=hS';obtain⟨a1,a2,a3⟩:=above ((t.place.size+n)*2) (by omega);exact⟨o,es,ep,t',ho,hx,hd,hel,hp,hnd,hb,hf,hw,fun _=>by omega,fun _=>by omega⟩
 ·have e:t.roomFor n=none:=by unfold SetTable.roomFor;rw[if_neg c]
  rw[e];exact wpAny_pure (h s.heap (Heap.SameBut.refl a s.heap) ⟨o,es,ep,t,ho,hx,hd,hel,hp,hnd,hb,hf,hw,hm,fun _=>by omega⟩)
theorem bg4{o:Obj}{es:Array (Int×Value)}{ep:Nat}{t:SetTable}{Q:Array (Int×Value)->Shared->Prop}(ho:s.heap.get? a=some o)(hd:o.data=.set es ep t)(hf:t.fits es.size=true)(hw:Well (Led w) t)(h:∀l d',l.toList.Perm es.toList->Q l { s with drawn:=d' }):wpAny (model prog w) A (setWalk a) Q E s:=by
 unfold setWalk;refine wpAny_bind (wpAny_setState_of ho hd hf ?_);dsimp only;refine wpAny_bind (M8 ?_);cases hb:w.params.followText "set-order" with
 |true =>
  rw[if_pos rfl];exact wpAny_bind (wpAny_askSetting (wpAny_pure (h _ s.drawn (S2 _ es))))
 |false =>
  rw[if_neg (by decide)];have hl:t.led=true:=by rw[hw.led];unfold Led;rw[hb];rfl
  split
  ·refine wpAny_bind (T8 _ _ _ _ (by simp) fun ys d hp=>wpAny_pure (h _ d (by simpa using hp)))
  ·refine wpAny_bind (m:=(do if(!t.led&&decide (es.size>1))=true then unsupported "set:maker-not-led")) ?_;rw[hl];exact wpAny_pure (wpAny_pure (h es s.drawn (List.Perm.refl _)))
theorem ba5{l:List Addr}{Q:Bool->Shared->Prop}(hl:∀a∈l,∃o es ep t,s.heap.get? a=some o/\o.data=.set es ep t/\t.fits es.size=true/\ElemsOf (intKind prog w) es.toList)(h:Q true s):wpAny (model prog w) A (setsQuiet l) Q E s:=by
 unfold setsQuiet;refine wpAny_bind (wpAny_forIn_list _ (fun rest b s'=>b=(none,PUnit.unit)/\s'=s/\∀a∈rest,a∈l) _ (fun x rest b s' p=>?_) (fun b s' p=>?_) _ _ ⟨rfl,rfl,fun _ z=>z⟩)
 ·obtain⟨rfl,rfl,hm⟩:=p;obtain⟨o,es,ep,t,ho,hd,hf,hel⟩:=hl x (hm x (by simp));unfold setEntries;refine wpAny_bind (wpAny_bind (wpAny_setState_of ho hd hf (wpAny_pure ?_)));refine wpAny_bind (wpAny_forIn_array' _ (fun rest b s2=>b=(none,PUnit.unit)/\s2=s'/\∀e∈rest,e∈es.toList) _ (fun y rest' b s2 p=>?_) (fun b s2 p=>?_) _ _ ⟨rfl,rfl,fun _ z=>z⟩)
  ·obtain⟨rfl,rfl,hm2⟩:=p;obtain⟨tk,e1,_⟩:=Q5 hel (hm2 y (by simp));dsimp only;rw[e1];exact wpAny_pure ⟨rfl,rfl,fun e z=>hm2 e (by simp[z])⟩
  ·obtain⟨rfl,rfl,_⟩:=p;exact wpAny_pure ⟨rfl,rfl,fun e z=>hm e (by simp[z])⟩
 ·obtain⟨rfl,rfl,_⟩:=p;exact wpAny_pure h
theorem a76{r:Addr}{ks ms:List Int}{o:Obj}{es:Array (Int×Value)}{ep:Nat}{t:SetTable}{Q:Array (Int×Value)->Shared->Prop}(ho:s.heap.get? a=some o)(hd:o.data=.set es ep t)(hf:t.fits es.size=true)(hw:Well (Led w) t)(hel:ElemsOf (intKind prog w) es.toList)(hR:f9 prog w s.heap r ks)(h:∀l h' d',l.toList.Perm es.toList->Heap.SameBut r s.heap h'->f9 prog w h' r ks->Q l { s with heap:=h',drawn:=d' }):wpAny (model prog w) A (setWalkUnseen a [r] (some r)) Q E s:=by
 obtain⟨o',es',ep',t',ho',hx',hd',hel',hp',hn',hb',hf',hw'⟩:=id hR;have wk:wpAny (model prog w) A (setWalk a) Q E s:=bg4 ho hd hf hw fun l d' hp=>h l s.heap d' hp (Heap.SameBut.refl r s.heap) hR;unfold setWalkUnseen;refine wpAny_bind (wpAny_setState_of ho hd hf ?_);dsimp only;refine wpAny_bind (M8 ?_);split
 ·exact wk
 ·refine wpAny_bind (ba5 (fun b hb=>?_) ?_)
  ·simp only[List.mem_cons,List.mem_nil_iff,or_false] at hb;rcases hb with rfl|rfl
   ·exact⟨_,_,_,_,ho,hd,hf,hel⟩
   ·exact⟨_,_,_,_,ho',hd',hf',hel'⟩
  ·rw[if_neg (by decide)];refine wpAny_bind (wpAny_rule ?_);refine wpAny_bind (wpAny_setState_of ho' hd' hf' ?_);dsimp only;split
   ·refine wpAny_bind (wpAny_storeSet_of ho' hd' ?_ (fits_of_scanBound hb'));refine wpAny_pure (h es _ s.drawn (List.Perm.refl _) (Heap.SameBut.update s.heap r _) ⟨_,_,_,_,Z2 ho' hd',hx',rfl,hel',hp',hn',hb',hf',⟨hw'.ris,hw'.dum,?_⟩⟩);show(t'.led&&t.led)=_;rw[hw'.led,hw.led,Bool.and_self]
   ·exact wpAny_pure (h es s.heap s.drawn (List.Perm.refl _) (Heap.SameBut.refl r s.heap) hR)
theorem as0{es:Array (Int×Value)}{ks:List Int}(hp:(es.toList.map fun e=>toI e.2).Perm ks):es.size=ks.length:=by rw[<- hp.length_eq];simp
theorem aI1{t:SetTable}{n:Nat}(hf:t.fits n=true):t.place.size=n:=by
 simp only[SetTable.fits,Bool.and_eq_true,beq_iff_eq] at hf;exact hf.1
theorem aB8{r o:Addr}{ks ms:List Int}{each:Sem Unit}{Q:Unit->Shared->Prop}(hR:U6 prog w s.heap r ks)(hO:f9 prog w s.heap o ms)(hne:r≠o)(hks:∀k∈ks,Spot k)(hms:∀k∈ms,Spot k)(hl:ks.length+ms.length<100)(hea:∀(s':Shared) (Q':Unit->Shared->Prop),s'.heap.get? o=s.heap.get? o->Q' () s'->wpAny (model prog w) A each Q' E s')(h:∀h' d' us,(∀b o',b≠r->s.heap.get? b=some o'->h'.get? b=some o')->U6 prog w h' r us->us.Nodup->(∀k,k∈us↔k∈ks\/k∈ms)->Q () { s with heap:=h',drawn:=d' }):wpAny (model prog w) A (setMerge r o each) Q E s:=by
 obtain⟨oo,eo,epo,to,hoo,hox,hod,hoel,hop,hon,hob,hof,how⟩:=id hO;have hsz:=as0 hop;have hnd:ks.Nodup:=let ⟨_,_,_,_,_,_,_,_,_,z,_⟩:=hR;z
 unfold setMerge;rw[if_neg (by simpa using hne)];refine wpAny_bind (wpAny_setState_of hoo hod hof ?_);dsimp only;by_cases he:eo.size=0
 ·rw[if_pos (by simpa[Array.isEmpty] using he)];have hm0:ms=[]:=List.eq_nil_of_length_eq_zero (by omega);exact wpAny_pure (h s.heap s.drawn ks (fun b o' _ e=>e) hR hnd fun k=>by rw[hm0];simp)
 rw[if_neg (by simpa[Array.isEmpty] using he)];have hmne:ms≠[]:=fun z=>he (by rw[hsz,z];rfl);refine wpAny_bind (bm0 hR hks (by omega) fun h1 hk1 hR1=>?_);obtain⟨or',es,ep,ts,hor,hx,hd,hel,hp,_,hb,hf,hw,hm7,hmn⟩:=id hR1;have hko:h1.get? o=some oo:=by rw[<- hoo];exact hk1.2 o (Ne.symm hne)
 have hkk:∀b o',b≠r->s.heap.get? b=some o'->h1.get? b=some o':=fun b o' hb e=>by rw[<- e];exact hk1.2 b hb
 refine wpAny_bind (wpAny_setState_of (s:={ s with heap:=h1 }) hor hd hf ?_);dsimp only;have hfill:ts.fill=ks.length:=by
  unfold SetTable.fill;rw[hw.dum,aI1 hf,as0 hp]
  rfl
 have hled:(ts.led&&to.led)=Led w:=by rw[hw.led,how.led,Bool.and_self]
 by_cases hk0:ks=[]
 ·subst hk0;have hroad:ts.road to=.slotForSlot\/ts.road to=.clean:=by
   unfold SetTable.road;rw[if_neg (by rw[hfill];simp)];split
   ·exact .inl rfl
   ·exact .inr rfl
  rcases hroad with hr|hr
  ·rw[hr];dsimp only;refine wpAny_storeSet_of (s:={ s with heap:=h1 }) hor hd (h _ s.drawn ms (fun b o' hb e=>?_) ⟨_,_,_,_,Z2 hor hd,hx,rfl,hoel,hop,hon,hob,hof,⟨how.ris,how.dum,hled⟩,fun z=>absurd z hmne⟩ hon fun k=>by simp) (fits_of_scanBound hob);rw[<- hkk b o' hb e];exact(Heap.SameBut.update h1 r _).2 b hb
  ·rw[hr];dsimp only;obtain⟨t2,od,e1,e2,e3,e4,e5,e6⟩:=aC3 (w:=w) (finger:=ts.finger) (moves:=ts.moves) (led:=ts.led&&to.led) (plain:=ts.plain&&to.plain) (mask:=ts.mask) (hm7 rfl) (hmn rfl) hled hoel hop hon hms;rw[e1];refine wpAny_bind (a47 e3 ?_);dsimp only;refine wpAny_storeSet_of (s:={ s with heap:=h1 }) hor hd (h _ s.drawn ms (fun b o' hb e=>?_) ⟨_,_,_,_,Z2 hor hd,hx,rfl,hoel.perm e2,(e2.map _).trans hop,hon,by omega,by rw[e3];exact e5,e6,fun z=>absurd z hmne⟩ hon fun k=>by simp) (fits_of_scanBound (by omega));rw[<- hkk b o' hb e];exact(Heap.SameBut.update h1 r _).2 b hb
 ·have hr:ts.road to=.oneByOne:=by
   unfold SetTable.road;rw [if_pos (by
    rw[hfill];have:ks.length≠0:=fun z=>hk0 (List.eq_nil_of_length_eq_zero z);simpa using this)]
  rw[hr];dsimp only;have hRw:f9 prog w h1 r ks:=⟨or',es,ep,ts,hor,hx,hd,hel,hp,hnd,hb,hf,hw⟩
  refine wpAny_bind (a76 (s:={ s with heap:=h1 }) (ms:=ms) hko hod hof how hoel hRw fun l h2 d2 hlp hk2 hR2=>?_);refine wpAny_bind (wpAny_forIn_array' _ (fun rest b s'=>∃us h',s'={ s with heap:=h',drawn:=d2 }/\us.Nodup/\us≠[]/\us.length+rest.length<1000/\f9 prog w h' r us/\(∀b o',b≠r->s.heap.get? b=some o'->h'.get? b=some o')/\(∀k,(k∈us\/k∈rest.map fun e=>toI e.2)↔(k∈ks\/k∈ms))/\∀e∈rest,e∈eo.toList) _ (fun x rest b s' p=>?_) (fun b s' p=>?_) _ _ ⟨ks,h2,rfl,hnd,hk0,?_,hR2,fun b o' hb e=>?_,fun k=>?_,fun e he=>hlp.mem_iff.mp he⟩)
  ·obtain⟨us,h',rfl,hun,hune,hul,hUS,hkeep,hmem,hsub⟩:=p;obtain⟨x1,x2⟩:=x;obtain⟨tk,e1,e2⟩:=Q5 hoel (hsub (x1,x2) (by simp));dsimp only at e1 e2 ⊢;generalize toI x2=k at e1 e2;subst e1;subst e2;refine wpAny_bind (wpAny_holding (a72 (s:={ s with heap:=h',drawn:=d2 }) hUS (by simp at hul;exact Nat.lt_trans (by omega) (show 1000<scanBound by decide)) fun h3 b3 hk3 hS3=>?_));have ho3:h3.get? o=some oo:=by
    rw[hk3.2 o (Ne.symm hne)];exact hkeep o oo (Ne.symm hne) hoo
   refine wpAny_bind (hea _ _ (by rw[hoo];exact ho3) ?_);refine wpAny_bind (wpAny_setState_of (s:={ s with heap:=h3,drawn:=d2 }) ho3 hod hof ?_);rw[if_neg (by simp)];refine wpAny_pure ⟨v9 us k,h3,rfl,?_,?_,?_,hS3,fun b o' hb e=>?_,fun j=>?_,fun e he=>hsub e (by simp[he])⟩
   ·exact N4 [k] us hun
   ·unfold v9;split
    ·exact hune
    ·simp
   ·have:=ax6 us k;simp at hul;omega
   ·rw[hk3.2 b hb];exact hkeep b o' hb e
   ·rw[<- hmem j];have:=y9 [k] us j;simp only[d9,List.foldl_cons,List.foldl_nil] at this;rw[this];simp[toI,or_assoc]
  ·obtain⟨us,h',rfl,hun,hune,hul,hUS,hkeep,hmem,hsub⟩:=p;exact wpAny_pure (h h' d2 us hkeep (hUS.toV hune) hun fun k=>by rw[<- hmem k];simp)
  ·have e1:=hlp.length_eq;have e2:eo.toList.length=eo.size:=Array.length_toList;omega
  ·rw[hk2.2 b hb];exact hkk b o' hb e
  ·rw[(hlp.map _).mem_iff,hop.mem_iff]
theorem a21(hT:s.TypeIs (.ref a) "set"){Q:Value->Shared->Prop}(h:Q (.type "set") s):wpAny (model prog w) A (Builtin.Frozenset.baseOf a) Q E s:=by
 unfold Builtin.Frozenset.baseOf;refine wpAny_bind (wpAny_isInstance (b:=true) hT (by rw[isSubtype_type];kernel_rfl) ?_);exact wpAny_pure h
theorem al2(hT:s.TypeIs (.ref a) "set"){Q:Bool->Shared->Prop}(h:Q true s):wpAny (model prog w) A (Builtin.Frozenset.isAnySet (.ref a)) Q E s:=by
 unfold Builtin.Frozenset.isAnySet;refine wpAny_bind (wpAny_isInstance (b:=true) hT (by rw[isSubtype_type];kernel_rfl) ?_);exact wpAny_pure h
theorem as4{h:Heap}{ks:List Int}(x:f9 prog w h a ks):∃o,h.get? a=some o/\o.cls=.type "set":=by
 obtain⟨o,_,_,_,e,hx,_⟩:=x;exact⟨o,e,hx.1⟩
theorem aI4:entryFor table "set.__or__"=some Builtin.«frozenset.__or__»:=entryFor_alias (id':="frozenset.__or__") (by kernel_rfl) rfl (by decide +kernel) (by kernel_rfl)
theorem bs6{ks:List Int}{Q:Value->Shared->Prop}(hA:f9 prog w s.heap a ks)(hks:∀k∈ks,Spot k)(hl:ks.length<100)(h:∀h' d' us,(∀c o',s.heap.get? c=some o'->h'.get? c=some o')->U6 prog w h' s.heap.objs.size us->us.Nodup->(∀k,k∈us↔k∈ks)->Q (.ref s.heap.objs.size) { s with heap:=h',drawn:=d' }):wpAny (model prog w) A (Builtin.Frozenset.copyOf a) Q E s:=by
 obtain⟨oa,ea,ca⟩:=as4 hA;have la:=Heap.lt_size ea;unfold Builtin.Frozenset.copyOf;refine wpAny_bind (a21 ⟨oa,ea,ca⟩ ?_);refine wpAny_bind (aB7 ?_);refine wpAny_bind (m:=Builtin.Frozenset.addrOf (.ref s.heap.objs.size)) (wpAny_pure ?_);have hE:(s.heap.push (l0 w)).get? s.heap.objs.size=some (l0 w):=Heap.get?_push_size _ rfl;obtain⟨o,es,ep,t,h1,h2,h3,h4,h5,h6,h7,h8,h9⟩:=an9 (prog:=prog) hE;have hV:U6 prog w (s.heap.push (l0 w)) s.heap.objs.size []:=⟨_,#[],0,.fresh 0 0 (Led w),hE,⟨rfl,rfl,rfl⟩,rfl,by simp[ElemsOf],by simp,by simp,by decide,rfl,ah0,fun _=>Nat.le_refl 7⟩
 refine wpAny_bind (aB8 (s:={ s with heap:=s.heap.push (l0 w) }) (each:=pure ()) hV (hA.at fun o e=>Heap.get?_push_of_some _ e) (Nat.ne_of_gt la) (fun k hk=>by simp at hk) hks (by simpa using hl) (fun s' Q' _ q=>wpAny_pure q) fun h' d' us hk hS hn hm=>?_);exact wpAny_pure (h h' d' us (fun c o' e=>hk c o' (Nat.ne_of_lt (Heap.lt_size e)) (Heap.get?_push_of_some _ e)) hS hn fun k=>by rw[hm k];simp)
theorem bH3{b:Addr}{ks ms:List Int}{Q:Value->Shared->Prop}(hA:f9 prog w s.heap a ks)(hB:f9 prog w s.heap b ms)(hab:a≠b)(hks:∀k∈ks,Spot k)(hms:∀k∈ms,Spot k)(hl:ks.length+ms.length<90)(h:∀h' d' us,(∀c o',s.heap.get? c=some o'->h'.get? c=some o')->f9 prog w h' s.heap.objs.size us->us.Nodup->(∀k,k∈us↔k∈ks\/k∈ms)->Q (.ref s.heap.objs.size) { s with heap:=h',drawn:=d' }):wpAny (model prog w) A (binaryOp .BitOr (.ref a) (.ref b)) Q E s:=by
 obtain⟨oa,ea,ca⟩:=as4 hA;obtain⟨ob,eb,cb⟩:=as4 hB;have hTa:s.TypeIs (.ref a) "set":=⟨oa,ea,ca⟩
 have hTb:s.TypeIs (.ref b) "set":=⟨ob,eb,cb⟩
 have la:=Heap.lt_size ea;have lb:=Heap.lt_size eb;refine wpAny_binaryOp_same (op:=.BitOr) hTa hTb F.fills_set_or F.slot_set_or (wpAny_call_entry F.slot_set_or hTa aI4 ?_ (F.args_set_or_2 _ _));refine wpAny_bind (m:=Builtin.Frozenset.slot1 "__or__" ⟨[.ref a,.ref b],[]⟩) (wpAny_of_eq (a:=(.ref a,.ref b)) rfl ?_);dsimp only;refine wpAny_bind (wpAny_bind (al2 hTa ?_));refine al2 hTb ?_;refine wpAny_bind (m:=Builtin.Frozenset.addrOf (.ref a)) (wpAny_pure ?_);have hU:∀(us:List Int) (h':Heap),U6 prog w h' s.heap.objs.size us->(∀k∈us,Spot k)->us.Nodup->us.length<=8:=fun us h' _ hs hn=>by
  have:us.Sublist us:=List.Sublist.refl _;have hp:us.Perm ((List.range 8).map (fun(n:Nat)=>(n:Int)) |>.filter (·∈us)):=by
   refine(List.perm_ext_iff_of_nodup hn ?_).mpr fun k=>?_
   ·exact List.Nodup.sublist List.filter_sublist (by decide)
   ·rw[List.mem_filter];constructor
    ·intro hk;refine⟨?_,by simpa using hk⟩;obtain⟨h0,h8⟩:=hs k hk;rw[List.mem_map];exact⟨k.toNat,List.mem_range.mpr (by omega),by omega⟩
    ·rintro⟨_,hk⟩;simpa using hk
  rw[hp.length_eq];exact Nat.le_trans (List.length_filter_le _ _) (by decide)
 refine wpAny_bind (wpAny_bind (bs6 hA hks (by omega) fun h1 d1 us hk1 hS1 hn1 hm1=>?_));have hus:∀k∈us,Spot k:=fun k hk=>hks k ((hm1 k).mp hk);have hul:=hU us h1 hS1 hus hn1;dsimp only;rw[if_pos (by simp[Ne.symm hab])];have hTb1:Shared.TypeIs { s with heap:=h1,drawn:=d1 } (.ref b) "set":=⟨ob,hk1 b ob eb,cb⟩
 refine wpAny_bind (m:=Builtin.Frozenset.addrOf (.ref s.heap.objs.size)) (wpAny_pure ?_);refine wpAny_bind (wpAny_holding ?_);unfold Builtin.Frozenset.updateFrom;refine wpAny_bind (al2 hTb1 ?_);rw[if_pos rfl];refine wpAny_bind (m:=Builtin.Frozenset.addrOf (.ref b)) (wpAny_pure ?_);unfold Builtin.Frozenset.merge;have hB1:f9 prog w h1 b ms:=hB.at (hk1 b);obtain⟨o,es,ep,t,ho,hx,hd,hel,hp,hn,hb,hf,hw⟩:=id hB1;have hep:∀(s':Shared) (Q':Nat->Shared->Prop),s'.heap.get? b=some o->Q' ep s'->wpAny (model prog w) A.in1 (setEpoch b) Q' E s':=fun s' Q' e q=>by
  unfold setEpoch;exact wpAny_bind (wpAny_setState_of e hd hf (wpAny_pure q))
 refine wpAny_bind (hep _ _ ho ?_);refine aB8 (s:={ s with heap:=h1,drawn:=d1 }) hS1 hB1 (Nat.ne_of_gt lb) hus hms (by omega) (fun s' Q' e q=>?_) fun h2 d2 vs hk2 hS2 hn2 hm2=>?_
 ·unfold Builtin.Frozenset.unchanged;refine wpAny_bind (hep _ _ (e.trans ho) ?_);rw[if_neg (by simp)];exact wpAny_pure q
 ·refine wpAny_pure (wpAny_pure ⟨_,rfl,by simp,?_⟩);exact h h2 d2 vs (fun c o' e=>hk2 c o' (Nat.ne_of_lt (Heap.lt_size e)) (hk1 c o' e)) hS2.toW hn2 fun k=>by rw[hm2 k,hm1 k]
end
end ST
namespace L2
open PySem PySem.Spec PyProof.Rows
variable{X:Cx}
theorem aO2:OpR X (binaryOp .BitOr) (fun x y H Q=>∃a b ns ms,x=.ref a/\y=.ref b/\a≠b/\H a=some (V6 X a (ST.d9 [] ns))/\H b=some (V6 X b (ST.d9 [] ms))/\(∀k∈ns,ST.Spot k)/\(∀k∈ms,ST.Spot k)/\ns.length+ms.length<50 /\
  ∀ p,H p=none->Q (.ref p) (upd H p (V6 X p (ST.d9 [] (ns ++ ms))))):=by
 intro pins s σ H x y v u Q I rx ry h;obtain⟨a,b,ns,ms,rfl,rfl,hab,ha,hb,hns,hms,hl,q⟩:=h;cases rx;cases ry;have hA:ST.f9 X.prog X.w s.heap a (ST.d9 [] ns):=(I.hok a _ ha).1;have hB:ST.f9 X.prog X.w s.heap b (ST.d9 [] ms):=(I.hok b _ hb).1;have l1:=ST.z5 ns [];have l2:=ST.z5 ms [];have m1:=ST.y9 ns [];have m2:=ST.y9 ms [];refine ST.bH3 hA hB hab (fun k hk=>hns k (by simpa using(m1 k).mp hk)) (fun k hk=>hms k (by simpa using(m2 k).mp hk)) (by simp at l1 l2;omega) fun h' d' us hk hS hn hm=>?_;have hS':ST.f9 X.prog X.w h' s.heap.objs.size (ST.d9 [] (ns ++ ms)):=hS.same ((List.perm_ext_iff_of_nodup hn (ST.N4 _ _ (by simp))).mpr fun k=>by
  rw[hm k,m1 k,m2 k,ST.y9];simp)
 exact⟨.ref _,_,(I.laid (a:=s.heap.objs.size) (t':=s.toks) hk (Nat.le_refl _) (aA3 hS')).draw d',rfl,q _ (I.hok.fresh (Nat.le_refl _))⟩
end L2

namespace M
open PySem L2
inductive D where
 |non|bl (b:Bool)|int (i:Int)|str (x:Str)|ty (n:String)|ref (i:Nat)|tup (l:List D)
inductive O where
 |lst (l:List D)|fro (l:List D)
 |dic (kvs:List (Key×D))
 |ins (c:Str) (fs:List (Str×D))
noncomputable def O.mut:O->Bool
 |.fro _=>false
 |_=>true
noncomputable def T4:D->Option Key
 |.int i=>some (.inl i)
 |.str x=>some (.inr x)
 |_=>none
noncomputable def B0(kvs:List (Key×D))(k:Key):Option D:=(kvs.find? fun kv=>decide (kv.1=k)).map (·.2)
noncomputable def putD(kvs:List (Key×D))(k:Key)(v:D):List (Key×D) :=
 if(kvs.any fun kv=>decide (kv.1=k))=true then kvs.map (fun kv=>if kv.1=k then(kv.1,v) else kv) else kvs++[(k,v)]
noncomputable def n8(f:Str)(v:D):List (Str×D)->List (Str×D)
 |[]=>[(f,v)]
 |(g,x)::r=>if g=f then(g,v)::r else(g,x)::n8 f v r
noncomputable def T2:List D->Str->Option D
 |.tup [.str y,v]::r,x=>if x=y then some v else T2 r x
 |_::_,_=>none
 |[],_=>none
noncomputable def N6:List D->Option Str
 |[]=>some Str.empty
 |.str x::r=>(N6 r).map fun y=>x++y
 |_=>none
structure Xn where
 cls:Str
noncomputable abbrev G:=List O
noncomputable abbrev S:=List (Option D)
noncomputable abbrev KD:=D->G->Prop
noncomputable abbrev KX:=Xn->G->Prop
noncomputable abbrev NoX:KX:=fun _ _=>False
noncomputable def av1:Option O->Option (List D)
 |some (.lst l)=>some l
 |some (.fro l)=>some l
 |_=>none
noncomputable abbrev c7(g:G)(a:Nat):Option (List D):=av1 g[a]?
noncomputable def rd(g:G):Nat->D->Option PyData
 |_,.non=>some .none
 |_,.bl b=>some (.bool b)
 |_,.int i=>some (.int i)
 |_,.str x=>some (.str x)
 |_,.ty _=>none
 |0,.ref _=>none
 |0,.tup _=>none
 |n+1,.ref a=>match c7 g a with
  |some l=>(l.mapM (rd g n)).map .list
  |none=>none
 |n+1,.tup l=>(l.mapM (rd g n)).map .tuple
noncomputable def rds(g:G)(l:List D):Option (List PyData):=l.mapM (rd g 6)
noncomputable def u7(g:G):D->Option (List D)
 |.tup l=>some l
 |.ref a=>c7 g a
 |_=>none
noncomputable def N7:D->Bool
 |.non=>true
 |_=>false
noncomputable def cut{α:Type}(xs:List α)(lo hi:Option Int):List α:=(xs.drop (HT.sIx xs.length 0 lo)).take (HT.sIx xs.length xs.length hi-HT.sIx xs.length 0 lo)
noncomputable def ad8(g:G)(x:D)(c:String):Option Bool:=match x with
 |.non=>some (c=="NoneType")
 |.bl _=>some (c=="bool"||c=="int")
 |.int _=>some (c=="int")
 |.str _=>some (c=="str")
 |.tup _=>some (c=="tuple")
 |.ref a=>match g[a]? with
  |some (.lst _)=>some (c=="list")
  |_=>none
 |.ty _=>none
noncomputable def n0(lo:Int)(n:Nat):List D:=(List.range n).map fun(k:Nat)=>.int (lo+k)
noncomputable def N8:List D->Option Bool
 |[]=>some true
 |.bl b::r=>(N8 r).map fun c=>b&&c
 |_=>none
inductive Pr where
 |bin (op:Operator)|un (op:UnaryOp)|cmp (op:CmpOp)
 |ix|slc (lo hi:Bool)|rev|tup|lst|dnew
 |len|list|tuple|isin|all|max|min|int|str|lrng1|lrng2|sset|sun|dcopy
 |gin|gnin|gget|fv|fstr|fld (f:Str)
 |append|pop|get|index|join|iadd|clear|pop0|extend
noncomputable abbrev DR:=List D->G->D->G->Prop
noncomputable def arR:Operator->Int->Int->Int->Prop
 |.Add,i,j,r=>r=i+j
 |.Sub,i,j,r=>r=i-j
 |.Mult,i,j,r=>ae5 i j/\r=i*j
 |.FloorDiv,i,j,r=>a30 i j/\r=i / j
 |.Mod,i,j,r=>0<j/\r=i % j
 |.Pow,i,j,r=>ae4 i j/\r=i ^ j.toNat
 |_,_,_,_=>False
noncomputable def bK2(op:Operator):DR:=fun xs g d g' =>
 (∃i j r,xs=[.int i,.int j]/\arR op i j r/\d=.int r/\g'=g) \/
 (op=.Add/\((∃ l m,xs=[.tup l,.tup m]/\l.length + m.length <= 100000/\d=.tup (l ++ m)/\g'=g) \/
  (∃a b l m,xs=[.ref a,.ref b]/\g[a]?=some (.lst l)/\g[b]?=some (.lst m)/\l.length+m.length<=100000/\d=.ref g.length/\g'=g++[.lst (l++m)]) \/
  (∃ x y,xs=[.str x,.str y]/\x.length + y.length <= 100000/\d=.str (x ++ y)/\g'=g))) \/
 (op=.Mult/\((∃ a l n,xs=[.ref a,.int n]/\g[a]?=some (.lst l)/\-(2 ^ 62) <= n/\n < 2 ^ 62/\l.length * n.toNat <= 100000/\d=.ref g.length/\g'=g ++ [.lst (List.replicate n.toNat l).flatten]) \/
  (∃ l n,xs=[.tup l,.int n]/\l ≠ []/\1 <= n/\n < 2 ^ 62/\l.length * n.toNat <= 100000/\d=.tup (List.replicate n.toNat l).flatten/\g'=g)))
noncomputable def unR(op:UnaryOp):DR:=fun xs g d g'=>op=.USub/\∃i,xs=[.int i]/\d=.int (-i)/\g'=g
noncomputable def eqR(g:G)(x y:D)(b:Bool):Prop :=
 (∃i j,x=.int i/\y=.int j/\b=decide (i=j))\/(∃i j,x=.bl i/\y=.bl j/\b=(i==j))\/(∃i j,x=.str i/\y=.str j/\b=decide (i=j)) \/
 ∃p q,rd g 6 x=some p/\rd g 6 y=some q/\p.canLay0=true/\q.canLay0=true/\b=PyData.eqv p q
noncomputable def inR(g:G)(x y:D)(b:Bool):Prop :=
 (∃a kvs c,y=.ref a/\g[a]?=some (.dic kvs)/\T4 x=some c/\b=(B0 kvs c).isSome) \/
 ∃l ps p,u7 g y=some l/\rds g l=some ps/\rd g 6 x=some p/\PyData.canLayAll0 ps=true/\p.canLay0=true/\b=(ps.any fun q=>PyData.eqv q p)
noncomputable def bs8(g:G)(x y:D)(b:Bool):CmpOp->Prop
 |.Eq=>eqR g x y b
 |.NotEq=>eqR g x y (!b)
 |.In=>inR g x y b
 |.NotIn=>inR g x y (!b)
 |.Lt=>∃i j,x=.int i/\y=.int j/\b=decide (i<j)
 |.LtE=>∃i j,x=.int i/\y=.int j/\b=decide (i<=j)
 |.Gt=>∃i j,x=.int i/\y=.int j/\b=decide (j<i)
 |.GtE=>∃i j,x=.int i/\y=.int j/\b=decide (j<=i)
 |.Is=>y=.non/\b=N7 x
 |.IsNot=>y=.non/\b=!N7 x
noncomputable def bJ7(op:CmpOp):DR:=fun xs g d g'=>∃x y b,xs=[x,y]/\bs8 g x y b op/\d=.bl b/\g'=g
noncomputable def bh7(g:G)(x:D)(b:Bool):Prop :=
 (x=.non/\b=false)\/x=.bl b\/(∃i,x=.int i/\b=(i != 0))\/(∃l,x=.tup l/\b=!l.isEmpty)\/∃a l,x=.ref a/\c7 g a=some l/\b=!l.isEmpty
noncomputable def ixR:DR:=fun xs g d g'=>g'=g/\((∃x l i,xs=[x,.int i]/\u7 g x=some l/\atI l i=some d)\/(∃a kvs y c,xs=[.ref a,y]/\g[a]?=some (.dic kvs)/\T4 y=some c/\B0 kvs c=some d) \/
 ∃ x i c,xs=[.str x,.int i]/\x.length <= 100000/\atI x.cps.toList i=some c/\d=.str ⟨#[c]⟩)
noncomputable def slR(x:D)(lo hi:Option Int)(g:G)(d:D)(g':G):Prop:=(∃l,x=.tup l/\d=.tup (cut l lo hi)/\g'=g)\/∃a l,x=.ref a/\c7 g a=some l/\d=.ref g.length/\g'=g++[.lst (cut l lo hi)]
noncomputable def bF4:Bool->Bool->DR
 |false,false,xs,g,d,g'=>∃x,xs=[x]/\slR x none none g d g'
 |true,false,xs,g,d,g'=>∃x i,xs=[x,.int i]/\slR x (some i) none g d g'
 |false,true,xs,g,d,g'=>∃x j,xs=[x,.int j]/\slR x none (some j) g d g'
 |true,true,xs,g,d,g'=>∃x i j,xs=[x,.int i,.int j]/\slR x (some i) (some j) g d g'
noncomputable def bG1:DR:=fun xs g d g'=>(∃l,xs=[.tup l]/\d=.tup l.reverse/\g'=g)\/∃a l,xs=[.ref a]/\c7 g a=some l/\d=.ref g.length/\g'=g++[.lst l.reverse]
noncomputable def bD5:DR:=fun xs g d g'=>xs.length<=1000/\d=.tup xs/\g'=g
noncomputable def bI2:DR:=fun xs g d g'=>xs.length<=1000/\d=.ref g.length/\g'=g++[.lst xs]
noncomputable def ak6:List D->List (Key×D)->Option (List (Key×D))
 |[],kvs=>some kvs
 |k::v::r,kvs=>(T4 k).bind fun c=>ak6 r (putD kvs c v)
 |_,_=>none
noncomputable def bA9:DR:=fun xs g d g'=>xs=[]/\d=.ref g.length/\g'=g++[.dic []]
noncomputable def bI3:DR:=fun xs g d g'=>g'=g/\((∃x l,xs=[x]/\u7 g x=some l/\d=.int l.length)\/(∃a kvs,xs=[.ref a]/\g[a]?=some (.dic kvs)/\d=.int kvs.length)\/∃x,xs=[.str x]/\x.length<=100000/\d=.int x.length)
noncomputable def by9:DR:=fun xs g d g'=>∃x l,xs=[x]/\u7 g x=some l/\d=.ref g.length/\g'=g++[.lst l]
noncomputable def bh4:DR:=fun xs g d g'=>∃x l,xs=[x]/\u7 g x=some l/\d=.tup l/\g'=g
noncomputable def bz6:DR:=fun xs g d g'=>∃x c b,xs=[x,.ty c]/\c∈["int","bool","str","tuple","list"]/\ad8 g x c=some b/\d=.bl b/\g'=g
noncomputable def allR:DR:=fun xs g d g'=>∃a l b,xs=[.ref a]/\c7 g a=some l/\N8 l=some b/\d=.bl b/\g'=g
noncomputable def bI1:DR:=fun xs g d g'=>∃i j,xs=[.int i,.int j]/\d=.int (if j>i then j else i)/\g'=g
noncomputable def bI0:DR:=fun xs g d g'=>∃i j,xs=[.int i,.int j]/\d=.int (if j<i then j else i)/\g'=g
noncomputable def bI5:DR:=fun xs g d g'=>g'=g/\((∃i,xs=[.int i]/\d=.int i)\/∃b,xs=[.bl b]/\d=.int (if b then 1 else 0))
noncomputable def bF3:DR:=fun xs g d g'=>(∃i,xs=[.int i]/\i.natAbs.log2<1920/\d=.str (toString i)/\g'=g)\/∃x,xs=[.str x]/\d=.str x/\g'=g
noncomputable def bq1:DR:=fun xs g d g'=>∃j,xs=[.int j]/\-(2 ^ 62)<=j/\j<=100000/\d=.ref g.length/\g'=g++[.lst (n0 0 j.toNat)]
noncomputable def bq0:DR:=fun xs g d g'=>∃i j,xs=[.int i,.int j]/\(-(2 ^ 62)<=i/\i<2 ^ 62/\-(2 ^ 62)<=j/\j<2 ^ 62/\j-i<=100000)/\d=.ref g.length/\g'=g++[.lst (n0 i (j-i).toNat)]
noncomputable def bv9:DR:=fun xs g d g'=>∃a ns,xs=[.ref a]/\c7 g a=some (ns.map .int)/\ns.length<60/\d=.ref g.length/\g'=g++[.lst ((B3 ns).map .int)]
noncomputable def bF2:DR:=fun xs g d g'=>∃ns ms:List Int,xs=[.tup (ns.map .int),.tup (ms.map .int)]/\(∀k∈ns,ST.Spot k)/\(∀k∈ms,ST.Spot k)/\ns.length+ms.length<50/\d=.ref g.length/\g'=g++[.lst ((B3 (ns++ms)).map .int)]
noncomputable def a02(neg:Bool):DR:=fun xs g d g'=>∃kvs x,xs=[.tup kvs,.str x]/\d=.bl (xor neg (T2 kvs x).isSome)/\g'=g
noncomputable def bA2:DR:=fun xs g d g'=>∃kvs x,xs=[.tup kvs,.str x]/\T2 kvs x=some d/\g'=g
noncomputable def fvR:DR:=fun xs g d g'=>g'=g/\((∃i,xs=[.int i]/\i.natAbs.log2<1920/\d=.str (toString i))\/∃x,xs=[.str x]/\x.length<=2000/\d=.str x)
noncomputable def bA5:DR:=fun xs g d g'=>∃x,N6 xs=some x/\d=.str x/\g'=g
noncomputable def bJ3(f:Str):DR:=fun xs g d g'=>∃a c fs,xs=[.ref a]/\g[a]?=some (.ins c fs)/\fs.lookup f=some d/\g'=g
noncomputable def appendR:DR:=fun xs g d g'=>∃a y l,xs=[.ref a,y]/\g[a]?=some (.lst l)/\l.length<100000/\d=.non/\g'=g.set a (.lst (l++[y]))
noncomputable def bH2:DR:=fun xs g d g'=>∃a i l k,xs=[.ref a,.int i]/\g[a]?=some (.lst l)/\-(2 ^ 63)<=i/\i<2 ^ 63/\seqIndex? i l.length=some k/\l[k]?=some d/\g'=g.set a (.lst (l.eraseIdx k))
noncomputable def bJ0:DR:=fun xs g d g'=>∃a y z kvs c,xs=[.ref a,y,z]/\g[a]?=some (.dic kvs)/\T4 y=some c/\d=(B0 kvs c).getD z/\g'=g
noncomputable def aa3:D->Bool
 |.non=>true
 |.bl _=>true
 |.int _=>true
 |.str _=>true
 |_=>false
noncomputable def toV:D->V
 |.bl b=>.bl b
 |.int i=>.int i
 |.str x=>.str x
 |_=>.non
noncomputable def F9(l:List D)(y:D)(n:Nat):Prop:=l.all aa3=true/\aa3 y=true/\(∃z,l[n]?=some z/\eqV (toV z) (toV y)=true)/\∀(m:Nat) z,m<n->l[m]?=some z->eqV (toV z) (toV y)=false
noncomputable def br5:DR:=fun xs g d g'=>∃x y l n,xs=[x,y]/\u7 g x=some l/\F9 l y n/\l.length<=100000/\d=.int n/\g'=g
noncomputable def joinR:DR:=fun xs g d g'=>∃sep a ys,xs=[.str sep,.ref a]/\c7 g a=some (ys.map .str)/\v7 sep ys<=100000/\d=.str (Builtin.Str.glued sep ys)/\g'=g
noncomputable def bz8:DR:=fun xs g d g'=>(∃i j,xs=[.int i,.int j]/\d=.int (i+j)/\g'=g)\/∃l m,xs=[.tup l,.tup m]/\l.length+m.length<=100000/\d=.tup (l++m)/\g'=g
noncomputable def bs9:DR:=fun xs g d g'=>∃a l,xs=[.ref a]/\g[a]?=some (.lst l)/\d=.non/\g'=g.set a (.lst [])
noncomputable def bx0:DR:=fun xs g d g'=>∃a l,xs=[.ref a]/\g[a]?=some (.lst (l++[d]))/\g'=g.set a (.lst l)
noncomputable def bf0:DR:=fun xs g d g'=>∃a b l m,xs=[.ref a,.ref b]/\g[a]?=some (.lst l)/\g[b]?=some (.lst m)/\l.length+m.length<=100000/\d=.non/\g'=g.set a (.lst (l++m))
noncomputable def bs5:DR:=fun xs g d g'=>∃a kvs,xs=[.ref a]/\g[a]?=some (.dic kvs)/\d=.ref g.length/\g'=g++[.dic kvs]
noncomputable def PR:Pr->DR
 |.clear=>bs9
 |.extend=>bf0
 |.pop0=>bx0
 |.dcopy=>bs5
 |.bin op=>bK2 op
 |.un op=>unR op
 |.cmp op=>bJ7 op
 |.ix=>ixR
 |.slc a b=>bF4 a b
 |.rev=>bG1
 |.tup=>bD5
 |.lst=>bI2
 |.dnew=>bA9
 |.len=>bI3
 |.list=>by9
 |.tuple=>bh4
 |.isin=>bz6
 |.all=>allR
 |.max=>bI1
 |.min=>bI0
 |.int=>bI5
 |.str=>bF3
 |.lrng1=>bq1
 |.lrng2=>bq0
 |.sset=>bv9
 |.sun=>bF2
 |.gin=>a02 false
 |.gnin=>a02 true
 |.gget=>bA2
 |.fv=>fvR
 |.fstr=>bA5
 |.fld f=>bJ3 f
 |.append=>appendR
 |.pop=>bH2
 |.get=>bJ0
 |.index=>br5
 |.join=>joinR
 |.iadd=>bz8
noncomputable def prP(p:Pr)(xs:List D)(g:G)(Q:KD):Prop:=∃d g',PR p xs g d g'/\Q d g'
noncomputable def eqP(g:G)(x y:D)(k:Bool->Prop):Prop:=∃b,eqR g x y b/\k b
noncomputable def inP(g:G)(x y:D)(k:Bool->Prop):Prop:=∃b,inR g x y b/\k b
noncomputable def V3(g:G)(x:D)(k:Bool->Prop):Prop:=∃b,bh7 g x b/\k b
noncomputable def bF7(x y v:D)(g g':G):Prop:=(∃a i l j,x=.ref a/\y=.int i/\g[a]?=some (.lst l)/\ixN l.length i=some j/\g'=g.set a (.lst (l.set j v))) \/
 ∃a kvs c,x=.ref a/\g[a]?=some (.dic kvs)/\T4 y=some c/\kvs.length<100000/\g'=g.set a (.dic (putD kvs c v))
noncomputable def ac9(x y v:D)(g:G)(k:G->Prop):Prop:=∃g',bF7 x y v g g'/\k g'
noncomputable def a45(f:Str)(cs:List Str)(x v:D)(g g':G):Prop:=∃a c fs,x=.ref a/\g[a]?=some (.ins c fs)/\c∈cs/\fs.length<100/\g'=g.set a (.ins c (n8 f v fs))
noncomputable def af3(f:Str)(cs:List Str)(x v:D)(g:G)(k:G->Prop):Prop:=∃g',a45 f cs x v g g'/\k g'
noncomputable def mkP:Pr->D->G->Prop
 |.get,x,g=>∃a kvs,x=.ref a/\g[a]?=some (.dic kvs)
 |.join,x,g=>∃y,x=.str y
 |.index,x,g=>(∃l,x=.tup l)\/∃a l,x=.ref a/\c7 g a=some l
 |_,x,g=>∃a l,x=.ref a/\c7 g a=some l
inductive IK where
 |fix (l:List D)|lst (a:Nat)|enl (a:Nat)
noncomputable def IK.at:IK->Nat->G->Option (Option D)
 |.fix l,i,_=>some l[i]?
 |.lst a,i,g=>match c7 g a with
  |some l=>some l[i]?
  |none=>none
 |.enl a,i,g=>match c7 g a with
  |some l=>some (l[i]?.map fun d=>.tup [.int i,d])
  |none=>none
inductive MT where
 |one (i:Nat)|many (is:List Nat)
noncomputable def u4:List Nat->List D->S->Option S
 |[],[],σ=>some σ
 |i::is,d::ds,σ=>u4 is ds (σ.set i (some d))
 |_,_,_=>none
noncomputable def tgP(t:MT)(x:D)(σ:S)(k:S->Prop):Prop:=match t with
 |.one i=>k (σ.set i (some x))
 |.many is=>∃l σ',x=.tup l/\u4 is l σ=some σ'/\k σ'
set_option genInjectivity false in
set_option genSizeOf false in
inductive ME where
 |var (i:Nat)|lit (d:D)
 |nil|cons (a b:ME)|prim (p:Pr) (es:ME)|meth (p:Pr) (o es:ME)|dct (es:ME)
 |chain (o1 o2:CmpOp) (a b c:ME)
 |and_ (a b:ME)|or_ (a b:ME)|not_ (a:ME)|ite (c a b:ME)
 |call (f:Nat) (es:ME)|make (c:Str) (f:Nat) (es:ME)|methc (m:Str) (cs:List (Str×Nat)) (o es:ME)
 |comp (b9:List Nat) (n:Nat) (tg:MT) (it cond elt:ME)|scomp (b9:List Nat) (n:Nat) (tg:MT) (it cond elt:ME)|rcomp (b9:List Nat) (n:Nat) (tg:MT) (it cond elt:ME)
 |itE (e:ME)|itR1 (a:ME)|itR2 (a b:ME)|itN (e:ME)|tst (e:ME)|no
noncomputable abbrev Sig:=Nat->List D->G->KD->KX->Prop
noncomputable def J5(σ:S)(b9:List Nat)(n:Nat):S:=b9.map (fun j=>(σ[j]?).join)++List.replicate (n-b9.length) none
noncomputable def turns(k:IK)(σ:S)(g:G)(fin:S->G->Prop)(turn:D->(S->G->Prop)->S->G->Prop):Prop :=
 ∃W:Nat->Nat->S->G->Prop,(∃m,W 0 m σ g)/\∀i m σ g,W i m σ g->(k.at i g=some none/\fin σ g)\/∃x,k.at i g=some (some x)/\∃N2:S->G->Prop,(∀σ' g',N2 σ' g'->∃m',m'<m/\W (i+1) m' σ' g')/\turn x N2 σ g
noncomputable def ae8(k:IK)(σ:S)(g:G)(fin:List D->G->Prop)(turn:D->(Option D->S->G->Prop)->S->G->Prop):Prop :=
 ∃W:Nat->Nat->List D->S->G->Prop,(∃m,W 0 m [] σ g)/\∀i m ys σ g,W i m ys σ g->(k.at i g=some none/\fin ys g) \/
  ∃x,k.at i g=some (some x)/\ys.length<100000/\turn x (fun y σ' g'=>∃m',m'<m/\W (i+1) m' (ys++y.toList) σ' g') σ g
noncomputable def ar4(k:IK)(σ:S)(g:G)(fin:List Int->G->Prop)(turn:D->(Option Int->S->G->Prop)->S->G->Prop):Prop :=
 ∃W:Nat->Nat->List Int->S->G->Prop,(∃m,W 0 m [] σ g)/\∀i m ys σ g,W i m ys σ g->(k.at i g=some none/\ys.length<60/\fin ys g) \/
  ∃x,k.at i g=some (some x)/\ys.length<60/\turn x (fun y σ' g'=>∃m',m'<m/\W (i+1) m' (ys++y.toList) σ' g') σ g
mutual
noncomputable def wpE(P:Sig):ME->S->G->KD->KX->Prop
 |.var i,σ,g,Q,_=>∃d,σ[i]?=some (some d)/\Q d g
 |.lit d,_,g,Q,_=>Q d g
 |.prim p es,σ,g,Q,E=>wpA P es σ g (fun xs g1=>prP p xs g1 Q) E
 |.meth p o es,σ,g,Q,E=>wpE P o σ g (fun x g1=>mkP p x g1/\wpA P es σ g1 (fun xs g2=>prP p (x::xs) g2 Q) E) E
 |.dct es,σ,g,Q,E=>wpA P es σ (g++[.dic []]) (fun xs g1=>∃kvs,ak6 xs []=some kvs/\xs.length<=30/\g1[g.length]?=some (.dic [])/\Q (.ref g.length) (g1.set g.length (.dic kvs))) E
 |.chain o1 o2 a b c,σ,g,Q,E=>wpE P a σ g (fun x g1=>wpE P b σ g1 (fun y g2=>prP (.cmp o1) [x,y] g2 fun z g3=>∃t,z=.bl t/\if t=true then wpE P c σ g3 (fun w g4=>prP (.cmp o2) [y,w] g4 Q) E else Q (.bl false) g3) E) E
 |.and_ a b,σ,g,Q,E=>wpE P a σ g (fun x g1=>∃t,x=.bl t/\if t=true then wpE P b σ g1 Q E else Q (.bl false) g1) E
 |.or_ a b,σ,g,Q,E=>wpE P a σ g (fun x g1=>∃t,x=.bl t/\if t=true then Q (.bl true) g1 else wpE P b σ g1 Q E) E
 |.not_ a,σ,g,Q,E=>wpE P a σ g (fun x g1=>∃t,x=.bl t/\Q (.bl (!t)) g1) E
 |.ite c a b,σ,g,Q,E=>wpT P c σ g (fun t g1=>if t=true then wpE P a σ g1 Q E else wpE P b σ g1 Q E) E
 |.call f es,σ,g,Q,E=>wpA P es σ g (fun xs g1=>P f xs g1 Q E) E
 |.make c f es,σ,g,Q,E=>wpA P es σ g (fun xs g1=>P f (.ref g1.length::xs) (g1++[.ins c []]) (fun d g2=>d=.non/\Q (.ref g1.length) g2) E) E
 |.methc m cs o es,σ,g,Q,E=>wpE P o σ g (fun x g1=>∃a c fs f,x=.ref a/\g1[a]?=some (.ins c fs)/\fs.lookup m=none/\cs.lookup c=some f/\wpA P es σ g1 (fun xs g2=>P f (x::xs) g2 Q E) E) E
 |.comp b9 n tg it cond elt,σ,g,Q,E=>wpI P it σ g (fun k g1=>ae8 k (J5 σ b9 n) g1 (fun ys g=>Q (.ref g.length) (g++[.lst ys])) fun x N σ g=>tgP tg x σ fun σ2=>wpT P cond σ2 g (fun b g3=>if b=true then wpE P elt σ2 g3 (fun y g4=>N (some y) σ2 g4) NoX else N none σ2 g3) NoX) E
 |.rcomp b9 n tg it cond elt,σ,g,Q,E=>wpI P it σ g (fun k g1=>ae8 k (J5 σ b9 n) g1 (fun ys g=>Q (.ref g.length) (g++[.lst ys])) fun x N σ g=>tgP tg x σ fun σ2=>wpT P cond σ2 g (fun b g3=>if b=true then wpE P elt σ2 g3 (fun y g4=>N (some y) σ2 g4) E else N none σ2 g3) NoX) E
 |.scomp b9 n tg it cond elt,σ,g,Q,E=>wpI P it σ g (fun k g1=>ar4 k (J5 σ b9 n) g1 (fun ys g=>Q (.ref g.length) (g++[.lst ((B3 ys).map .int)])) fun x N σ g=>tgP tg x σ fun σ2=>wpT P cond σ2 g (fun b g3=>if b=true then wpE P elt σ2 g3 (fun y g4=>∃j,y=.int j/\N (some j) σ2 g4) NoX else N none σ2 g3) NoX) E
 |_,_,_,_,_=>False
noncomputable def wpA(P:Sig):ME->S->G->(List D->G->Prop)->KX->Prop
 |.nil,_,g,Q,_=>Q [] g
 |.cons a b,σ,g,Q,E=>wpE P a σ g (fun x g1=>wpA P b σ g1 (fun xs g2=>Q (x::xs) g2) E) E
 |_,_,_,_,_=>False
noncomputable def wpT(P:Sig):ME->S->G->(Bool->G->Prop)->KX->Prop
 |.and_ a b,σ,g,Q,E=>wpT P a σ g (fun t g1=>if t=true then wpT P b σ g1 Q E else Q false g1) E
 |.or_ a b,σ,g,Q,E=>wpT P a σ g (fun t g1=>if t=true then Q true g1 else wpT P b σ g1 Q E) E
 |.not_ a,σ,g,Q,E=>wpT P a σ g (fun t g1=>Q (!t) g1) E
 |.no,_,g,Q,_=>Q true g
 |.tst e,σ,g,Q,E=>wpE P e σ g (fun x g1=>V3 g1 x fun b=>Q b g1) E
 |_,_,_,_,_=>False
noncomputable def wpI(P:Sig):ME->S->G->(IK->G->Prop)->KX->Prop
 |.itE e,σ,g,R,E=>wpE P e σ g (fun x g1=>(∃l,x=.tup l/\R (.fix l) g1)\/∃a l,x=.ref a/\c7 g1 a=some l/\R (.lst a) g1) E
 |.itR1 a,σ,g,R,E=>wpE P a σ g (fun x g1=>∃j:Int,x=.int j/\-(2 ^ 62)<=j/\j<2 ^ 62/\R (.fix (n0 0 j.toNat)) g1) E
 |.itR2 a b,σ,g,R,E=>wpE P a σ g (fun x g1=>wpE P b σ g1 (fun y g2=>∃i j:Int,x=.int i/\y=.int j/\(-(2 ^ 62)<=i/\i<2 ^ 62/\-(2 ^ 62)<=j/\j<2 ^ 62)/\R (.fix (n0 i (j-i).toNat)) g2) E) E
 |.itN e,σ,g,R,E=>wpE P e σ g (fun x g1=>∃a l,x=.ref a/\c7 g1 a=some l/\R (.enl a) g1) E
 |_,_,_,_,_=>False
end
set_option genInjectivity false in
set_option genSizeOf false in
inductive MS where
 |pass|seq (a b:MS)|expr (e:ME)|set (i:Nat) (e:ME)|unp (t:MT) (e:ME)|setix (o i v:ME)|setf (f:Str) (cs:List Str) (o v:ME)
 |augf (f:Str) (cs:List Str) (o v:ME)
 |ifs (c:ME) (a b:MS)|for_ (t:MT) (it:ME) (b:MS)|whil (c:ME) (b:MS)|ret (e:ME)|retn|brk|cont
 |raise (x:Str) (es:ME)|R0 (b:MS) (hs:List (Str×ME))
structure Ends where
 nx:S->G->Prop
 rt:KD
 bk:S->G->Prop:=fun _ _=>False
 ct:S->G->Prop:=fun _ _=>False
noncomputable def wpH(P:Sig)(N:Ends)(σ:S)(E:KX):List (Str×ME)->KX
 |[],x,g=>E x g
 |(y,e)::r,x,g=>if x.cls=y\/y="MintError" then wpE P e σ g N.rt NoX else wpH P N σ E r x g
noncomputable def wpS(P:Sig):MS->Ends->S->G->KX->Prop
 |.pass,N,σ,g,_=>N.nx σ g
 |.seq a b,N,σ,g,E=>wpS P a { N with nx:=fun σ1 g1=>wpS P b N σ1 g1 E } σ g E
 |.expr e,N,σ,g,E=>wpE P e σ g (fun _ g1=>N.nx σ g1) E
 |.set i e,N,σ,g,E=>wpE P e σ g (fun x g1=>N.nx (σ.set i (some x)) g1) E
 |.unp t e,N,σ,g,E=>wpE P e σ g (fun x g1=>tgP t x σ fun σ1=>N.nx σ1 g1) E
 |.setix o i v,N,σ,g,E=>wpE P v σ g (fun x g1=>wpE P o σ g1 (fun y g2=>wpE P i σ g2 (fun z g3=>ac9 y z x g3 fun g4=>N.nx σ g4) E) E) E
 |.setf f cs o v,N,σ,g,E=>wpE P v σ g (fun x g1=>wpE P o σ g1 (fun y g2=>af3 f cs y x g2 fun g3=>N.nx σ g3) E) E
 |.augf f cs o v,N,σ,g,E=>wpE P o σ g (fun y g1=>∃a c fs x,y=.ref a/\g1[a]?=some (.ins c fs)/\c∈cs/\fs.lookup f=some x/\wpE P v σ g1 (fun z g3=>prP .iadd [x,z] g3 fun w g4=>∃fs',g4[a]?=some (.ins c fs')/\fs'.length<100/\N.nx σ (g4.set a (.ins c (n8 f w fs')))) E) E
 |.ifs c a b,N,σ,g,E=>wpT P c σ g (fun t g1=>if t=true then wpS P a N σ g1 E else wpS P b N σ g1 E) E
 |.for_ t it b,N,σ,g,E=>wpI P it σ g (fun k g1=>turns k σ g1 N.nx fun x N2 σ g=>tgP t x σ fun σ2=>wpS P b { N with nx:=N2,ct:=N2,bk:=N.nx } σ2 g E) E
 |.whil c b,N,σ,g,E=>∃W:Nat->S->G->Prop,(∃m,W m σ g)/\∀m σ g,W m σ g->wpT P c σ g (fun t g1=>if t=true then ∃N2:S->G->Prop,(∀σ' g',N2 σ' g'->∃m',m'<m/\W m' σ' g')/\wpS P b { N with nx:=N2,ct:=N2,bk:=N.nx } σ g1 E else N.nx σ g1) E
 |.ret e,N,σ,g,E=>wpE P e σ g N.rt E
 |.retn,N,_,g,_=>N.rt .non g
 |.brk,N,σ,g,_=>N.bk σ g
 |.cont,N,σ,g,_=>N.ct σ g
 |.raise x es,_,σ,g,E=>wpA P es σ g (fun vs g1=>vs.length<=1000/\E ⟨x⟩ g1) E
 |.R0 b hs,N,σ,g,E=>wpS P b N σ g (wpH P N (σ.map fun _=>none) E hs)
structure MDef where
 ar:Nat
 n:Nat
 body:MS
noncomputable def b5(m:MDef)(ds:List D):S:=ds.map some++List.replicate (m.n-ds.length) none
noncomputable def a9(T:Nat->Option MDef):Nat->Sig
 |0,_,_,_,_,_=>False
 |k+1,f,ds,g,Q,E=>∃m,T f=some m/\ds.length=m.ar/\wpS (a9 T k) m.body ⟨fun _ g'=>Q .non g',Q,fun _ _=>False,fun _ _=>False⟩ (b5 m ds) g E
end M

namespace M
open PySem L2
theorem k9{p xs}{g:G}{Q Q':KD}(h:∀d g,Q d g->Q' d g)(q:prP p xs g Q):prP p xs g Q':=by
 obtain⟨d,g',a,b⟩:=q;exact⟨d,g',a,h _ _ b⟩
theorem aK9{x}{g:G}{k k':Bool->Prop}(h:∀b,k b->k' b)(q:V3 g x k):V3 g x k':=by
 obtain⟨b,a,z⟩:=q;exact⟨b,a,h _ z⟩
theorem am3{x y v}{g:G}{k k':G->Prop}(h:∀g,k g->k' g)(q:ac9 x y v g k):ac9 x y v g k':=by
 obtain⟨b,a,z⟩:=q;exact⟨b,a,h _ z⟩
theorem aE9{f cs x v}{g:G}{k k':G->Prop}(h:∀g,k g->k' g)(q:af3 f cs x v g k):af3 f cs x v g k':=by
 obtain⟨b,a,z⟩:=q;exact⟨b,a,h _ z⟩
theorem w6{t x σ}{k k':S->Prop}(h:∀σ,k σ->k' σ)(q:tgP t x σ k):tgP t x σ k':=by
 cases t with
 |one i=>exact h _ q
 |many is=>obtain⟨l,σ',a,b,c⟩:=q;exact⟨l,σ',a,b,h _ c⟩
theorem aE1{k σ g}{fin fin':S->G->Prop}{turn turn':D->(S->G->Prop)->S->G->Prop}(h:∀σ g,fin σ g->fin' σ g)(h2:∀x N σ g,turn x N σ g->turn' x N σ g)(q:turns k σ g fin turn):turns k σ g fin' turn':=by
 obtain⟨W,w0,q⟩:=q;refine⟨W,w0,fun i m σ g w=>?_⟩;rcases q i m σ g w with⟨a,b⟩|⟨x,a,N2,b,c⟩
 ·exact .inl ⟨a,h _ _ b⟩
 ·exact .inr ⟨x,a,N2,b,h2 _ _ _ _ c⟩
theorem ab5{k σ g}{fin fin':List D->G->Prop}{turn turn':D->(Option D->S->G->Prop)->S->G->Prop}(h:∀ys g,fin ys g->fin' ys g)(h2:∀x N σ g,turn x N σ g->turn' x N σ g)(q:ae8 k σ g fin turn):ae8 k σ g fin' turn':=by
 obtain⟨W,w0,q⟩:=q;refine⟨W,w0,fun i m ys σ g w=>?_⟩;rcases q i m ys σ g w with⟨a,b⟩|⟨x,a,b,c⟩
 ·exact .inl ⟨a,h _ _ b⟩
 ·exact .inr ⟨x,a,b,h2 _ _ _ _ c⟩
theorem ax9{k σ g}{fin fin':List Int->G->Prop}{turn turn':D->(Option Int->S->G->Prop)->S->G->Prop}(h:∀ys g,fin ys g->fin' ys g)(h2:∀x N σ g,turn x N σ g->turn' x N σ g)(q:ar4 k σ g fin turn):ar4 k σ g fin' turn':=by
 obtain⟨W,w0,q⟩:=q;refine⟨W,w0,fun i m ys σ g w=>?_⟩;rcases q i m ys σ g w with⟨a,b,c⟩|⟨x,a,b,c⟩
 ·exact .inl ⟨a,b,h _ _ c⟩
 ·exact .inr ⟨x,a,b,h2 _ _ _ _ c⟩
theorem x8{t:Bool}{A B A' B':Prop}(h1:A->A')(h2:B->B')(q:if t=true then A else B):if t=true then A' else B':=by
 cases t
 ·exact h2 q
 ·exact h1 q
noncomputable def e9(P:Sig):Prop:=∀f xs g Q Q' E E',(∀d g,Q d g->Q' d g)->(∀x g,E x g->E' x g)->P f xs g Q E->P f xs g Q' E'
mutual
theorem b0{P:Sig}(hP:e9 P):∀(e:ME) (σ:S) (g:G) (Q Q':KD) (E E':KX),(∀d g,Q d g->Q' d g)->(∀x g,E x g->E' x g)->wpE P e σ g Q E->wpE P e σ g Q' E'
 |.var i,σ,g,Q,Q',E,E',h,hx,q=>by
  rw[wpE] at q ⊢;obtain⟨d,a,b⟩:=q;exact⟨d,a,h _ _ b⟩
 |.lit d,σ,g,Q,Q',E,E',h,hx,q=>by rw[wpE] at q ⊢;exact h _ _ q
 |.prim p es,σ,g,Q,Q',E,E',h,hx,q=>by
  rw[wpE] at q ⊢;exact l9 hP es _ _ _ _ _ _ (fun xs g1 q=>k9 h q) hx q
 |.meth p o es,σ,g,Q,Q',E,E',h,hx,q=>by
  rw[wpE] at q ⊢;exact b0 hP o _ _ _ _ _ _ (fun x g1 q=>⟨q.1,l9 hP es _ _ _ _ _ _ (fun xs g2 q=>k9 h q) hx q.2⟩) hx q
 |.dct es,σ,g,Q,Q',E,E',h,hx,q=>by
  rw[wpE] at q ⊢;exact l9 hP es _ _ _ _ _ _ (fun xs g1 ⟨kvs,a,b,c,d⟩=>⟨kvs,a,b,c,h _ _ d⟩) hx q
 |.chain o1 o2 a b c,σ,g,Q,Q',E,E',h,hx,q=>by
  rw[wpE] at q ⊢;refine b0 hP a _ _ _ _ _ _ (fun x g1 q=>b0 hP b _ _ _ _ _ _ (fun y g2 q=>k9 (fun z g3 q=>?_) q) hx q) hx q;obtain⟨t,e,q⟩:=q;exact⟨t,e,x8 (fun q=>b0 hP c _ _ _ _ _ _ (fun w g4 q=>k9 h q) hx q) (h _ _) q⟩
 |.and_ a b,σ,g,Q,Q',E,E',h,hx,q=>by
  rw[wpE] at q ⊢;refine b0 hP a _ _ _ _ _ _ (fun x g1 q=>?_) hx q;obtain⟨t,e,q⟩:=q;exact⟨t,e,x8 (fun q=>b0 hP b _ _ _ _ _ _ h hx q) (h _ _) q⟩
 |.or_ a b,σ,g,Q,Q',E,E',h,hx,q=>by
  rw[wpE] at q ⊢;refine b0 hP a _ _ _ _ _ _ (fun x g1 q=>?_) hx q;obtain⟨t,e,q⟩:=q;exact⟨t,e,x8 (h _ _) (fun q=>b0 hP b _ _ _ _ _ _ h hx q) q⟩
 |.not_ a,σ,g,Q,Q',E,E',h,hx,q=>by
  rw[wpE] at q ⊢;refine b0 hP a _ _ _ _ _ _ (fun x g1 q=>?_) hx q;obtain⟨t,e,q⟩:=q;exact⟨t,e,h _ _ q⟩
 |.ite c a b,σ,g,Q,Q',E,E',h,hx,q=>by
  rw[wpE] at q ⊢;exact k7 hP c _ _ _ _ _ _ (fun t g1 q=>x8 (fun q=>b0 hP a _ _ _ _ _ _ h hx q) (fun q=>b0 hP b _ _ _ _ _ _ h hx q) q) hx q
 |.call f es,σ,g,Q,Q',E,E',h,hx,q=>by
  rw[wpE] at q ⊢;exact l9 hP es _ _ _ _ _ _ (fun xs g1 q=>hP _ _ _ _ _ _ _ h hx q) hx q
 |.make c f es,σ,g,Q,Q',E,E',h,hx,q=>by
  rw[wpE] at q ⊢;exact l9 hP es _ _ _ _ _ _ (fun xs g1 q=>hP _ _ _ _ _ _ _ (fun d g2 q=>⟨q.1,h _ _ q.2⟩) hx q) hx q
 |.methc m cs o es,σ,g,Q,Q',E,E',h,hx,q=>by
  rw[wpE] at q ⊢;refine b0 hP o _ _ _ _ _ _ (fun x g1 q=>?_) hx q;obtain⟨a,c,fs,f,q1,q2,q3,q4,q⟩:=q;exact⟨a,c,fs,f,q1,q2,q3,q4,l9 hP es _ _ _ _ _ _ (fun xs g2 q=>hP _ _ _ _ _ _ _ h hx q) hx q⟩
 |.comp b9 n tg it cond elt,σ,g,Q,Q',E,E',h,hx,q=>by
  rw[wpE] at q ⊢;exact q9 hP it _ _ _ _ _ _ (fun k g1 q=>ab5 (fun ys g q=>h _ _ q) (fun _ _ _ _ q=>q) q) hx q
 |.rcomp b9 n tg it cond elt,σ,g,Q,Q',E,E',h,hx,q=>by
  rw[wpE] at q ⊢;exact q9 hP it _ _ _ _ _ _ (fun k g1 q=>ab5 (fun ys g q=>h _ _ q) (fun x N σ g q=>w6 (fun σ2 q=>k7 hP cond _ _ _ _ _ _ (fun b g3 q=>by
   cases b
   ·exact q
   ·exact b0 hP elt _ _ _ _ _ _ (fun _ _ z=>z) hx q) (fun _ _ z=>z) q) q) q) hx q
 |.scomp b9 n tg it cond elt,σ,g,Q,Q',E,E',h,hx,q=>by
  rw[wpE] at q ⊢;exact q9 hP it _ _ _ _ _ _ (fun k g1 q=>ax9 (fun ys g q=>h _ _ q) (fun _ _ _ _ q=>q) q) hx q
 |.nil,σ,g,Q,Q',E,E',h,hx,q=>(show False from q).elim
 |.cons _ _,σ,g,Q,Q',E,E',h,hx,q=>(show False from q).elim
 |.itE _,σ,g,Q,Q',E,E',h,hx,q=>(show False from q).elim
 |.itR1 _,σ,g,Q,Q',E,E',h,hx,q=>(show False from q).elim
 |.itR2 _ _,σ,g,Q,Q',E,E',h,hx,q=>(show False from q).elim
 |.itN _,σ,g,Q,Q',E,E',h,hx,q=>(show False from q).elim
 |.tst _,σ,g,Q,Q',E,E',h,hx,q=>(show False from q).elim
 |.no,σ,g,Q,Q',E,E',h,hx,q=>(show False from q).elim
theorem l9{P:Sig}(hP:e9 P):∀(e:ME) (σ:S) (g:G) (Q Q':List D->G->Prop) (E E':KX),(∀d g,Q d g->Q' d g)->(∀x g,E x g->E' x g)->wpA P e σ g Q E->wpA P e σ g Q' E'
 |.nil,σ,g,Q,Q',E,E',h,hx,q=>by rw[wpA] at q ⊢;exact h _ _ q
 |.cons a b,σ,g,Q,Q',E,E',h,hx,q=>by
  rw[wpA] at q ⊢;exact b0 hP a _ _ _ _ _ _ (fun x g1 q=>l9 hP b _ _ _ _ _ _ (fun xs g2 q=>h _ _ q) hx q) hx q
 |.var _,σ,g,Q,Q',E,E',h,hx,q|.lit _,σ,g,Q,Q',E,E',h,hx,q|.prim _ _,σ,g,Q,Q',E,E',h,hx,q|.meth _ _ _,σ,g,Q,Q',E,E',h,hx,q|.dct _,σ,g,Q,Q',E,E',h,hx,q|.chain _ _ _ _ _,σ,g,Q,Q',E,E',h,hx,q|.and_ _ _,σ,g,Q,Q',E,E',h,hx,q|.or_ _ _,σ,g,Q,Q',E,E',h,hx,q|.not_ _,σ,g,Q,Q',E,E',h,hx,q|.ite _ _ _,σ,g,Q,Q',E,E',h,hx,q|.call _ _,σ,g,Q,Q',E,E',h,hx,q
 |.make _ _ _,σ,g,Q,Q',E,E',h,hx,q|.methc _ _ _ _,σ,g,Q,Q',E,E',h,hx,q|.comp _ _ _ _ _ _,σ,g,Q,Q',E,E',h,hx,q|.scomp _ _ _ _ _ _,σ,g,Q,Q',E,E',h,hx,q|.rcomp _ _ _ _ _ _,σ,g,Q,Q',E,E',h,hx,q|.itE _,σ,g,Q,Q',E,E',h,hx,q|.itR1 _,σ,g,Q,Q',E,E',h,hx,q|.itR2 _ _,σ,g,Q,Q',E,E',h,hx,q|.itN _,σ,g,Q,Q',E,E',h,hx,q|.tst _,σ,g,Q,Q',E,E',h,hx,q|.no,σ,g,Q,Q',E,E',h,hx,q=>(show False from q).elim
theorem k7{P:Sig}(hP:e9 P):∀(e:ME) (σ:S) (g:G) (Q Q':Bool->G->Prop) (E E':KX),(∀d g,Q d g->Q' d g)->(∀x g,E x g->E' x g)->wpT P e σ g Q E->wpT P e σ g Q' E'
 |.and_ a b,σ,g,Q,Q',E,E',h,hx,q=>by
  rw[wpT] at q ⊢;exact k7 hP a _ _ _ _ _ _ (fun t g1 q=>x8 (fun q=>k7 hP b _ _ _ _ _ _ h hx q) (h _ _) q) hx q
 |.or_ a b,σ,g,Q,Q',E,E',h,hx,q=>by
  rw[wpT] at q ⊢;exact k7 hP a _ _ _ _ _ _ (fun t g1 q=>x8 (h _ _) (fun q=>k7 hP b _ _ _ _ _ _ h hx q) q) hx q
 |.not_ a,σ,g,Q,Q',E,E',h,hx,q=>by rw[wpT] at q ⊢;exact k7 hP a _ _ _ _ _ _ (fun t g1 q=>h _ _ q) hx q
 |.no,σ,g,Q,Q',E,E',h,hx,q=>by rw[wpT] at q ⊢;exact h _ _ q
 |.tst e,σ,g,Q,Q',E,E',h,hx,q=>by rw[wpT] at q ⊢;exact b0 hP e _ _ _ _ _ _ (fun x g1 q=>aK9 (fun b q=>h _ _ q) q) hx q
 |.var _,σ,g,Q,Q',E,E',h,hx,q|.lit _,σ,g,Q,Q',E,E',h,hx,q|.prim _ _,σ,g,Q,Q',E,E',h,hx,q|.meth _ _ _,σ,g,Q,Q',E,E',h,hx,q|.dct _,σ,g,Q,Q',E,E',h,hx,q|.chain _ _ _ _ _,σ,g,Q,Q',E,E',h,hx,q|.ite _ _ _,σ,g,Q,Q',E,E',h,hx,q|.call _ _,σ,g,Q,Q',E,E',h,hx,q|.nil,σ,g,Q,Q',E,E',h,hx,q|.cons _ _,σ,g,Q,Q',E,E',h,hx,q
 |.make _ _ _,σ,g,Q,Q',E,E',h,hx,q|.methc _ _ _ _,σ,g,Q,Q',E,E',h,hx,q|.comp _ _ _ _ _ _,σ,g,Q,Q',E,E',h,hx,q|.scomp _ _ _ _ _ _,σ,g,Q,Q',E,E',h,hx,q|.rcomp _ _ _ _ _ _,σ,g,Q,Q',E,E',h,hx,q|.itE _,σ,g,Q,Q',E,E',h,hx,q|.itR1 _,σ,g,Q,Q',E,E',h,hx,q|.itR2 _ _,σ,g,Q,Q',E,E',h,hx,q|.itN _,σ,g,Q,Q',E,E',h,hx,q=>(show False from q).elim
theorem q9{P:Sig}(hP:e9 P):∀(e:ME) (σ:S) (g:G) (Q Q':IK->G->Prop) (E E':KX),(∀d g,Q d g->Q' d g)->(∀x g,E x g->E' x g)->wpI P e σ g Q E->wpI P e σ g Q' E'
 |.itE e,σ,g,Q,Q',E,E',h,hx,q=>by
  rw[wpI] at q ⊢;exact b0 hP e _ _ _ _ _ _ (fun x g1 q=>q.imp (fun⟨l,a,b⟩=>⟨l,a,h _ _ b⟩) fun⟨i,l,a,b,c⟩=>⟨i,l,a,b,h _ _ c⟩) hx q
 |.itR1 a,σ,g,Q,Q',E,E',h,hx,q=>by
  rw[wpI] at q ⊢;exact b0 hP a _ _ _ _ _ _ (fun x g1 ⟨j,a,b,c,d⟩=>⟨j,a,b,c,h _ _ d⟩) hx q
 |.itR2 a b,σ,g,Q,Q',E,E',h,hx,q=>by
  rw[wpI] at q ⊢;exact b0 hP a _ _ _ _ _ _ (fun x g1 q=>b0 hP b _ _ _ _ _ _ (fun y g2 ⟨i,j,a,b,c,d⟩=>⟨i,j,a,b,c,h _ _ d⟩) hx q) hx q
 |.itN e,σ,g,Q,Q',E,E',h,hx,q=>by
  rw[wpI] at q ⊢;exact b0 hP e _ _ _ _ _ _ (fun x g1 ⟨i,l,a,b,c⟩=>⟨i,l,a,b,h _ _ c⟩) hx q
 |.var _,σ,g,Q,Q',E,E',h,hx,q|.lit _,σ,g,Q,Q',E,E',h,hx,q|.prim _ _,σ,g,Q,Q',E,E',h,hx,q|.meth _ _ _,σ,g,Q,Q',E,E',h,hx,q|.dct _,σ,g,Q,Q',E,E',h,hx,q|.chain _ _ _ _ _,σ,g,Q,Q',E,E',h,hx,q|.ite _ _ _,σ,g,Q,Q',E,E',h,hx,q|.call _ _,σ,g,Q,Q',E,E',h,hx,q|.nil,σ,g,Q,Q',E,E',h,hx,q|.cons _ _,σ,g,Q,Q',E,E',h,hx,q
 |.and_ _ _,σ,g,Q,Q',E,E',h,hx,q|.or_ _ _,σ,g,Q,Q',E,E',h,hx,q|.not_ _,σ,g,Q,Q',E,E',h,hx,q|.tst _,σ,g,Q,Q',E,E',h,hx,q|.no,σ,g,Q,Q',E,E',h,hx,q
 |.make _ _ _,σ,g,Q,Q',E,E',h,hx,q|.methc _ _ _ _,σ,g,Q,Q',E,E',h,hx,q|.comp _ _ _ _ _ _,σ,g,Q,Q',E,E',h,hx,q|.scomp _ _ _ _ _ _,σ,g,Q,Q',E,E',h,hx,q|.rcomp _ _ _ _ _ _,σ,g,Q,Q',E,E',h,hx,q=>(show False from q).elim
end
structure Ends.le(N N':Ends):Prop where
 nx:∀σ g,N.nx σ g->N'.nx σ g
 rt:∀d g,N.rt d g->N'.rt d g
 bk:∀σ g,N.bk σ g->N'.bk σ g
 ct:∀σ g,N.ct σ g->N'.ct σ g
theorem ar2{P:Sig}(hP:e9 P){N N':Ends}{E E':KX}(h:N.le N')(hx:∀x g,E x g->E' x g){σ:S}:∀(hs:List (Str×ME)) x g,wpH P N σ E hs x g->wpH P N' σ E' hs x g
 |[],x,g,q=>hx x g q
 |(y,e)::r,x,g,q=>by
  unfold wpH at q ⊢;split
  ·rename_i hh;rw[if_pos hh] at q;exact b0 hP e _ _ _ _ _ _ h.rt (fun _ _ z=>z) q
  ·rename_i hh;rw[if_neg hh] at q;exact ar2 hP h hx r x g q
theorem wpS_mono{P:Sig}(hP:e9 P):∀(s:MS) (N N':Ends) (σ:S) (g:G) (E E':KX),N.le N'->(∀x g,E x g->E' x g)->wpS P s N σ g E->wpS P s N' σ g E'
 |.pass,N,N',σ,g,E,E',h,hx,q=>h.nx _ _ q
 |.seq a b,N,N',σ,g,E,E',h,hx,q=>wpS_mono hP a { N with nx:=fun σ1 g1=>wpS P b N σ1 g1 E } { N' with nx:=fun σ1 g1=>wpS P b N' σ1 g1 E' } _ _ _ _ ⟨fun σ1 g1 q=>wpS_mono hP b _ _ _ _ _ _ h hx q,h.rt,h.bk,h.ct⟩ hx q
 |.expr e,N,N',σ,g,E,E',h,hx,q=>b0 hP e _ _ _ _ _ _ (fun x g1 q=>h.nx _ _ q) hx q
 |.set i e,N,N',σ,g,E,E',h,hx,q=>b0 hP e _ _ _ _ _ _ (fun x g1 q=>h.nx _ _ q) hx q
 |.unp t e,N,N',σ,g,E,E',h,hx,q=>b0 hP e _ _ _ _ _ _ (fun x g1 q=>w6 (fun σ q=>h.nx _ _ q) q) hx q
 |.setix o i v,N,N',σ,g,E,E',h,hx,q=>b0 hP v _ _ _ _ _ _ (fun x g1 q=>b0 hP o _ _ _ _ _ _ (fun y g2 q=>b0 hP i _ _ _ _ _ _ (fun z g3 q=>am3 (fun g q=>h.nx _ _ q) q) hx q) hx q) hx q
 |.setf f cs o v,N,N',σ,g,E,E',h,hx,q=>b0 hP v _ _ _ _ _ _ (fun x g1 q=>b0 hP o _ _ _ _ _ _ (fun y g2 q=>aE9 (fun g q=>h.nx _ _ q) q) hx q) hx q
 | .augf f cs o v,N,N',σ,g,E,E',h,hx,q=>b0 hP o _ _ _ _ _ _ (fun y g1 q=>by
   obtain⟨a,c,fs,x,q1,q2,q3,q4,q⟩:=q;exact ⟨a,c,fs,x,q1,q2,q3,q4,b0 hP v _ _ _ _ _ _ (fun z g3 q=>k9 (fun w g4 q=>by
    obtain⟨fs',k1,k2,k3⟩:=q;exact ⟨fs',k1,k2,h.nx _ _ k3⟩) q) hx q⟩) hx q
 |.ifs c a b,N,N',σ,g,E,E',h,hx,q=>k7 hP c _ _ _ _ _ _ (fun t g1 q=>x8 (fun q=>wpS_mono hP a _ _ _ _ _ _ h hx q) (fun q=>wpS_mono hP b _ _ _ _ _ _ h hx q) q) hx q
 |.for_ t it b,N,N',σ,g,E,E',h,hx,q=>q9 hP it _ _ _ _ _ _ (fun k g1 q=>aE1 h.nx (fun x N2 σ g q=>w6 (fun σ2 q=>wpS_mono hP b { N with nx:=N2,ct:=N2,bk:=N.nx } { N' with nx:=N2,ct:=N2,bk:=N'.nx } _ _ _ _ ⟨fun _ _ z=>z,h.rt,h.nx,fun _ _ z=>z⟩ hx q) q) q) hx q
 |.whil c b,N,N',σ,g,E,E',h,hx,q=>by
  obtain⟨W,w0,q⟩:=q;refine⟨W,w0,fun m σ g w=>k7 hP c _ _ _ _ _ _ (fun t g1 q=>x8 (fun q=>?_) (h.nx _ _) q) hx (q m σ g w)⟩;obtain⟨N2,a,q⟩:=q;exact⟨N2,a,wpS_mono hP b { N with nx:=N2,ct:=N2,bk:=N.nx } { N' with nx:=N2,ct:=N2,bk:=N'.nx } _ _ _ _ ⟨fun _ _ z=>z,h.rt,h.nx,fun _ _ z=>z⟩ hx q⟩
 |.ret e,N,N',σ,g,E,E',h,hx,q=>b0 hP e _ _ _ _ _ _ h.rt hx q
 |.retn,N,N',σ,g,E,E',h,hx,q=>h.rt _ _ q
 |.brk,N,N',σ,g,E,E',h,hx,q=>h.bk _ _ q
 |.cont,N,N',σ,g,E,E',h,hx,q=>h.ct _ _ q
 |.raise x es,N,N',σ,g,E,E',h,hx,q=>l9 hP es _ _ _ _ _ _ (fun vs g1 q=>⟨q.1,hx _ _ q.2⟩) hx q
 |.R0 b hs,N,N',σ,g,E,E',h,hx,q=>wpS_mono hP b _ _ _ _ _ _ h (fun x g q=>ar2 hP h hx hs x g q) q
theorem c9(T:Nat->Option MDef):∀k,e9 (a9 T k)
 |0=>fun f xs g Q Q' E E' h hx q=>q.elim
 |k+1=>fun f xs g Q Q' E E' h hx q=>by
  obtain⟨m,a,b,q⟩:=q;exact⟨m,a,b,wpS_mono (c9 T k) m.body ⟨fun _ g'=>Q .non g',Q,fun _ _=>False,fun _ _=>False⟩ _ _ _ _ _ ⟨fun _ _ z=>h _ _ z,h,fun _ _ z=>z,fun _ _ z=>z⟩ hx q⟩
end M

namespace M
open PySem L2
noncomputable def TupAt(K:PySem.W.Frag)(H:Hp)(a:Addr)(vs:List V):Prop :=
 H a=some (.tup vs)\/∃(o:Obj) (its:Array Value) (n:Nat),K.lookup a=some o/\o.cls=.type "tuple"/\o.dict=none/\o.data=.seq its n/\its.size<=sizeLine/\Vals vs its.toList
theorem TupAt.d{K:PySem.W.Frag}{H:Hp}{a:Addr}{vs:List V}(h:TupAt K H a vs):ax7 K H a vs:=h
theorem TupAt.sq{K:PySem.W.Frag}{H:Hp}{a:Addr}{vs:List V}(h:TupAt K H a vs):SqT K H a vs:=h.d.sq
mutual
inductive b7(K:PySem.W.Frag)(ρ:List Addr)(H:Hp):D->V->Prop
 |non:b7 K ρ H .non .non
 |bl (b:Bool):b7 K ρ H (.bl b) (.bl b)
 |int (i:Int):b7 K ρ H (.int i) (.int i)
 |str (x:Str):b7 K ρ H (.str x) (.str x)
 |ty (n:String):b7 K ρ H (.ty n) (.ty n)
 |ref {i:Nat} {a:Addr} (h:ρ[i]?=some a):b7 K ρ H (.ref i) (.ref a)
 |tup {l:List D} {a:Addr} {vs:List V} (h:TupAt K H a vs) (r:a8 K ρ H l vs):b7 K ρ H (.tup l) (.ref a)
inductive a8(K:PySem.W.Frag)(ρ:List Addr)(H:Hp):List D->List V->Prop
 |nil:a8 K ρ H [] []
 |cons {d:D} {v:V} {ds:List D} {vs:List V} (h:b7 K ρ H d v) (r:a8 K ρ H ds vs):a8 K ρ H (d::ds) (v::vs)
end
structure Ext(ρ:List Addr)(H:Hp)(ρ':List Addr)(H':Hp):Prop where
 pre:∃more,ρ'=ρ++more
 tup:∀a xs,H a=some (.tup xs)->H' a=some (.tup xs)
theorem Ext.refl(ρ:List Addr)(H:Hp):Ext ρ H ρ H:=⟨⟨[],by simp⟩,fun _ _ h=>h⟩
theorem Ext.trans{ρ H ρ1 H1 ρ2 H2}(a:Ext ρ H ρ1 H1)(b:Ext ρ1 H1 ρ2 H2):Ext ρ H ρ2 H2:=by
 obtain⟨⟨m,rfl⟩,t⟩:=a;obtain⟨⟨m',rfl⟩,t'⟩:=b;exact⟨⟨m++m',by simp⟩,fun x xs h=>t' _ _ (t _ _ h)⟩
theorem Ext.get{ρ H ρ' H'}(e:Ext ρ H ρ' H'){i:Nat}{a:Addr}(h:ρ[i]?=some a):ρ'[i]?=some a:=by
 obtain⟨⟨m,rfl⟩,_⟩:=e;rw[List.getElem?_append_left (List.getElem?_eq_some_iff.mp h).1];exact h
theorem TupAt.ext{K ρ H ρ' H'}(e:Ext ρ H ρ' H'){a:Addr}{vs:List V}(h:TupAt K H a vs):TupAt K H' a vs:=h.elim (fun z=>.inl (e.tup _ _ z)) .inr
mutual
theorem b7.ext{K ρ H ρ' H'}(e:Ext ρ H ρ' H'):∀{d v},b7 K ρ H d v->b7 K ρ' H' d v
 |_,_,.non=>.non
 |_,_,.bl b=>.bl b
 |_,_,.int i=>.int i
 |_,_,.str x=>.str x
 |_,_,.ty n=>.ty n
 |_,_,.ref h=>.ref (e.get h)
 |_,_,.tup h r=>.tup (h.ext e) (a8.ext e r)
theorem a8.ext{K ρ H ρ' H'}(e:Ext ρ H ρ' H'):∀{ds vs},a8 K ρ H ds vs->a8 K ρ' H' ds vs
 |_,_,.nil=>.nil
 |_,_,.cons h r=>.cons (b7.ext e h) (a8.ext e r)
end
theorem a8.length{K ρ H}:∀{ds vs},a8 K ρ H ds vs->ds.length=vs.length
 |_,_,.nil=>rfl
 |_,_,.cons _ r=>by simp[a8.length r]
theorem a8.get{K ρ H}:∀{ds vs} {i:Nat} {d:D},a8 K ρ H ds vs->ds[i]?=some d->∃v,vs[i]?=some v/\b7 K ρ H d v
 |_,_,_,_,.nil,h=>by simp at h
 |_,_,0,_,.cons h _,e=>by simp at e;subst e;exact⟨_,rfl,h⟩
 |_,_,i+1,d,.cons _ r,e=>by
  obtain⟨v,h1,h2⟩:=a8.get (i:=i) (d:=d) r (by simpa using e);exact⟨v,by simpa using h1,h2⟩
theorem a8.set{K ρ H}{d:D}{v:V}(h:b7 K ρ H d v):∀{ds vs} (i:Nat),a8 K ρ H ds vs->a8 K ρ H (ds.set i d) (vs.set i v)
 |_,_,_,.nil=>.nil
 |_,_,0,.cons _ r=>.cons h r
 |_,_,i+1,.cons q r=>.cons q (a8.set h i r)
theorem a8.append{K ρ H}:∀{ds es:List D} {vs ws:List V},a8 K ρ H ds vs->a8 K ρ H es ws->a8 K ρ H (ds++es) (vs++ws)
 |_,_,_,_,.nil,s=>s
 |_,_,_,_,.cons h r,s=>.cons h (a8.append r s)
theorem a8.rep{K ρ H}{ds:List D}{vs:List V}(r:a8 K ρ H ds vs):∀n,a8 K ρ H (List.replicate n ds).flatten (List.replicate n vs).flatten
 |0=>.nil
 |n+1=>by
  rw[List.replicate_succ,List.replicate_succ,List.flatten_cons,List.flatten_cons];exact a8.append r (a8.rep r n)
theorem a8.erase{K ρ H}:∀{ds:List D} {vs:List V} (i:Nat),a8 K ρ H ds vs->a8 K ρ H (ds.eraseIdx i) (vs.eraseIdx i)
 |_,_,_,.nil=>.nil
 |_,_,0,.cons _ r=>r
 |_,_,i+1,.cons q r=>.cons q (a8.erase i r)
theorem a8.take{K ρ H}:∀{ds:List D} {vs:List V} (n:Nat),a8 K ρ H ds vs->a8 K ρ H (ds.take n) (vs.take n)
 |_,_,0,_=>.nil
 |_,_,_+1,.nil=>.nil
 |_,_,n+1,.cons h r=>.cons h (a8.take n r)
theorem a8.drop{K ρ H}:∀{ds:List D} {vs:List V} (n:Nat),a8 K ρ H ds vs->a8 K ρ H (ds.drop n) (vs.drop n)
 |_,_,0,r=>r
 |_,_,_+1,.nil=>.nil
 |_,_,n+1,.cons _ r=>a8.drop n r
theorem a8.reverse{K ρ H}:∀{ds:List D} {vs:List V},a8 K ρ H ds vs->a8 K ρ H ds.reverse vs.reverse
 |_,_,.nil=>.nil
 |_,_,.cons h r=>by
  rw[List.reverse_cons,List.reverse_cons];exact a8.append (a8.reverse r) (.cons h .nil)
theorem a8.cut{K ρ H}{ds:List D}{vs:List V}(r:a8 K ρ H ds vs)(lo hi:Option Int):a8 K ρ H (M.cut ds lo hi) (M7 vs lo hi):=by
 unfold M.cut M7;rw[r.length];exact(r.drop _).take _
theorem a8.ints{K ρ H}:∀{ns:List Int} {vs:List V},a8 K ρ H (ns.map D.int) vs->vs=ns.map V.int
 |[],_,.nil=>rfl
 |_::_,_,.cons h r=>by cases h;rw[a8.ints r];rfl
theorem a8.ofInts{K ρ H}:∀(ns:List Int),a8 K ρ H (ns.map D.int) (ns.map V.int)
 |[]=>.nil
 |n::r=>.cons (.int n) (a8.ofInts r)
noncomputable def ab1(K:PySem.W.Frag)(H:Hp)(a:Addr)(vs:List V):Prop :=
 (∃o,H a=some (.frz o (.lst vs)))\/∃(o:Obj) (its:Array Value) (n:Nat),K.lookup a=some o/\o.cls=.type "list"/\o.dict=none/\o.data=.seq its n/\its.size<=sizeLine/\Vals vs its.toList
theorem ab1.sq{K:PySem.W.Frag}{H:Hp}{a:Addr}{vs:List V}(h:ab1 K H a vs):SqL K H a vs:=h.elim (fun⟨o,z⟩=>.inl (.inr ⟨o,z⟩)) .inr
inductive d4{α:Type}(K:PySem.W.Frag)(ρ:List Addr)(H:Hp):List (α×D)->List (α×V)->Prop
 |nil:d4 K ρ H [] []
 |cons {k:α} {d:D} {v:V} {ds:List (α×D)} {vs:List (α×V)} (h:b7 K ρ H d v) (r:d4 K ρ H ds vs):d4 K ρ H ((k,d)::ds) ((k,v)::vs)
theorem d4.ext{α:Type}{K ρ H ρ' H'}(e:Ext ρ H ρ' H'){ds:List (α×D)}{vs:List (α×V)}(h:d4 K ρ H ds vs):d4 K ρ' H' ds vs:=by
 induction h with
 |nil=>exact .nil
 |cons h r ih=>exact .cons (h.ext e) ih
theorem d4.length{α:Type}{K ρ H}{ds:List (α×D)}{vs:List (α×V)}(h:d4 K ρ H ds vs):ds.length=vs.length:=by
 induction h with
 |nil=>rfl
 |cons h r ih=>simp[ih]
noncomputable def U7(K:PySem.W.Frag)(ρ:List Addr)(H:Hp):Option D->Option V->Prop
 |some d,some v=>b7 K ρ H d v
 |none,none=>True
 |_,_=>False
theorem d4.val{K ρ H}:∀{ds vs} (k:Key),d4 K ρ H ds vs->U7 K ρ H (B0 ds k) (C6 vs k)
 |_,_,k,.nil=>trivial
 |_,_,k,.cons (k:=k') h r=>by
  unfold B0 C6;rw[List.find?_cons,List.find?_cons];by_cases e:k'=k
  ·simp only[e,decide_true];exact h
  ·simp only[e,decide_false];exact d4.val k r
theorem d4.a71{K ρ H}:∀{ds vs} (k:Key),d4 K ρ H ds vs->(ds.any fun kv=>decide (kv.1=k))=(vs.any fun kv=>decide (kv.1=k))
 |_,_,k,.nil=>rfl
 |_,_,k,.cons h r=>by simp only[List.any_cons,d4.a71 k r]
theorem d4.snoc{K ρ H}{k:Key}{d:D}{v:V}(h:b7 K ρ H d v):∀{ds vs},d4 K ρ H ds vs->d4 K ρ H (ds++[(k,d)]) (vs++[(k,v)])
 |_,_,.nil=>.cons h .nil
 |_,_,.cons q r=>.cons q (d4.snoc h r)
theorem d4.au5{K ρ H}{k:Key}{d:D}{v:V}(h:b7 K ρ H d v):∀{ds vs},d4 K ρ H ds vs->d4 K ρ H (ds.map fun kv=>if kv.1=k then(kv.1,d) else kv) (vs.map fun kv=>if kv.1=k then(kv.1,v) else kv)
 |_,_,.nil=>.nil
 |_,_,.cons (k:=k') q r=>by
  simp only[List.map_cons];by_cases e:k'=k
  ·rw[if_pos e,if_pos e];exact .cons h (d4.au5 h r)
  ·rw[if_neg e,if_neg e];exact .cons q (d4.au5 h r)
theorem d4.put{K ρ H}{k:Key}{d:D}{v:V}(h:b7 K ρ H d v){ds vs}(r:d4 K ρ H ds vs):d4 K ρ H (putD ds k d) (putK vs k v):=by
 unfold putD putK;rw[r.a71 k];split
 ·exact r.au5 h
 ·exact r.snoc h
noncomputable abbrev j3(K:PySem.W.Frag)(x:Str)(C:Addr):Prop:=PySem.W.nsIn K mainGlobals x=some (some (.ref C))
theorem d4.look{K ρ H}{ds:List (Str×D)}{vs:List (Str×V)}(f:Str)(h:d4 K ρ H ds vs):U7 K ρ H (ds.lookup f) (vs.lookup f):=by
 induction h with
 |nil=>trivial
 |cons h r ih =>
  rename_i k d v ds vs;rw[List.lookup_cons,List.lookup_cons];cases f==k
  ·exact ih
  ·exact h
theorem d4.k8{K ρ H}{f:Str}{d:D}{v:V}(h:b7 K ρ H d v){ds:List (Str×D)}{vs:List (Str×V)}(r:d4 K ρ H ds vs):d4 K ρ H (n8 f d ds) (L2.k8 f v vs):=by
 induction r with
 |nil=>exact .cons h .nil
 |cons q r ih =>
  unfold n8 L2.k8;split
  ·exact .cons h r
  ·exact .cons q ih
theorem S1{f:Str}{d:D}{p:Str->Prop}(hf:p f):∀{ds:List (Str×D)},(∀x∈ds,p x.1)->∀x∈n8 f d ds,p x.1
 |[],_,x,hx=>by
  have:x=(f,d):=by simpa[n8] using hx
  rw[this];exact hf
 |(k,e)::r,h,x,hx=>by
  unfold n8 at hx;split at hx
  ·rcases List.mem_cons.mp hx with z|z
   ·rw[z];exact h (k,e) (by simp)
   ·exact h x (by simp[z])
  ·rcases List.mem_cons.mp hx with z|z
   ·rw[z];exact h (k,e) (by simp)
   ·exact S1 hf (fun y hy=>h y (by simp[hy])) x z
noncomputable def OH(K:PySem.W.Frag)(ρ:List Addr)(H:Hp):O->HO->Prop
 |.lst l,.lst vs=>a8 K ρ H l vs
 |.dic kvs,.dK vs=>d4 K ρ H kvs vs
 |.ins c fs,.ins C _ vs=>j3 K c C/\Cls K C/\d4 K ρ H fs vs/\∀x∈fs,m9 K C x.1
 |_,_=>False
theorem OH.ext{K ρ H ρ' H'}(e:Ext ρ H ρ' H'){o:O}{u:HO}(h:OH K ρ H o u):OH K ρ' H' o u:=by
 cases o<;>cases u<;>first|exact h.elim|exact a8.ext e h|exact d4.ext e h|exact⟨h.1,h.2.1,h.2.2.1.ext e,h.2.2.2⟩
theorem OH.af8{K ρ H}{o:O}{xs:List V}(h:OH K ρ H o (.tup xs)):False:=by cases o<;>exact h
theorem OH.by2{K ρ H}{o:O}{ob:Obj}{u:HO}(h:OH K ρ H o (.frz ob u)):False:=by cases o<;>exact h
noncomputable def C3(K:PySem.W.Frag)(ρ:List Addr)(H:Hp)(o:O)(a:Addr):Prop:=match o with
 |.fro l=>∃vs,ab1 K H a vs/\a8 K ρ H l vs
 |o=>∃u,H a=some u/\OH K ρ H o u
theorem C3.of{K ρ H}{o:O}{a:Addr}{u:HO}(hu:H a=some u)(h:OH K ρ H o u):C3 K ρ H o a:=by
 cases o<;>first|exact⟨u,hu,h⟩|(cases u<;>exact h.elim)
theorem C3.inv{K ρ H}{o:O}{a:Addr}(m:o.mut=true)(h:C3 K ρ H o a):∃u,H a=some u/\OH K ρ H o u:=by
 cases o<;>first|exact h|cases m
theorem C3.lst{K ρ H}{l:List D}{a:Addr}(h:C3 K ρ H (.lst l) a):∃vs,H a=some (.lst vs)/\a8 K ρ H l vs:=by
 obtain⟨u,h1,h2⟩:=h;cases u<;>first|exact⟨_,h1,h2⟩|exact h2.elim
theorem C3.dic{K ρ H}{l:List (Key×D)}{a:Addr}(h:C3 K ρ H (.dic l) a):∃vs,H a=some (.dK vs)/\d4 K ρ H l vs:=by
 obtain⟨u,h1,h2⟩:=h;cases u<;>first|exact⟨_,h1,h2⟩|exact h2.elim
theorem C3.ins{K ρ H}{c:Str}{fs:List (Str×D)}{a:Addr}(h:C3 K ρ H (.ins c fs) a):∃C dx vs,H a=some (.ins C dx vs)/\j3 K c C/\Cls K C/\d4 K ρ H fs vs/\∀x∈fs,m9 K C x.1:=by
 obtain⟨u,h1,h2⟩:=h;cases u<;>first|exact⟨_,_,_,h1,h2⟩|exact h2.elim
structure Rl(K:PySem.W.Frag)(ρ:List Addr)(g:G)(H:Hp):Prop where
 len:ρ.length=g.length
 obj:∀(i:Nat) o a,g[i]?=some o->ρ[i]?=some a->C3 K ρ H o a
 nd:∀(i j:Nat) o o' a,g[i]?=some o->g[j]?=some o'->o.mut=true->o'.mut=true->ρ[i]?=some a->ρ[j]?=some a->i=j
section
variable{K:PySem.W.Frag}{ρ:List Addr}{g:G}{H:Hp}
theorem Rl.lst(R:Rl K ρ g H){i:Nat}{l:List D}{a:Addr}(h:g[i]?=some (.lst l))(ha:ρ[i]?=some a):∃vs,H a=some (.lst vs)/\a8 K ρ H l vs:=(R.obj _ _ _ h ha).lst
theorem Rl.dic(R:Rl K ρ g H){i:Nat}{l:List (Key×D)}{a:Addr}(h:g[i]?=some (.dic l))(ha:ρ[i]?=some a):∃vs,H a=some (.dK vs)/\d4 K ρ H l vs:=(R.obj _ _ _ h ha).dic
theorem Rl.ins(R:Rl K ρ g H){i:Nat}{c:Str}{fs:List (Str×D)}{a:Addr}(h:g[i]?=some (.ins c fs))(ha:ρ[i]?=some a):∃C dx vs,H a=some (.ins C dx vs)/\j3 K c C/\Cls K C/\d4 K ρ H fs vs/\∀x∈fs,m9 K C x.1:=(R.obj _ _ _ h ha).ins
theorem Rl.items(R:Rl K ρ g H){i:Nat}{l:List D}{a:Addr}(h:c7 g i=some l)(ha:ρ[i]?=some a):∃vs,SqL K H a vs/\a8 K ρ H l vs:=by
 cases e:g[i]? with
 |none=>rw[c7,e] at h;cases h
 |some o =>
  rw[c7,e] at h;have q:=R.obj _ _ _ e ha;cases o with
  |lst m=>cases h;obtain⟨vs,z,r⟩:=q.lst;exact⟨vs,SqL.of z,r⟩
  |fro m=>cases h;obtain⟨vs,z,r⟩:=q;exact⟨vs,z.sq,r⟩
  |_=>cases h
theorem o7{p:Addr}{o:HO}(hp:H p=none):Ext ρ H ρ (upd H p o):=⟨⟨[],by simp⟩,fun a xs h=>by rw[e8 (j6 h hp)];exact h⟩
theorem ab1.upd{p a:Addr}{o:HO}{vs:List V}(h:ab1 K H a vs)(hp:∀ob u,H p≠some (.frz ob u)):ab1 K (upd H p o) a vs:=by
 rcases h with⟨ob,z⟩|z
 ·refine .inl ⟨ob,?_⟩;rw[e8 ?_]
  ·exact z
  ·intro e;subst e;exact hp _ _ z
 ·exact .inr z
theorem C3.upd{p a:Addr}{o:O}{u:HO}{ρ':List Addr}(h:C3 K ρ H o a)(hne:o.mut=true->a≠p)(hp:∀ob u,H p≠some (.frz ob u))(e:Ext ρ H ρ' (L2.upd H p u)):C3 K ρ' (L2.upd H p u) o a:=by
 cases hm:o.mut with
 |true =>
  obtain⟨u',h1,h2⟩:=h.inv hm;exact .of (by rw[e8 (hne hm)];exact h1) (h2.ext e)
 |false =>
  cases o<;>first|cases hm|skip
  obtain⟨vs,z,r⟩:=h;exact⟨vs,z.upd hp,r.ext e⟩
theorem Rl.grow{p:Addr}{o:HO}(R:Rl K ρ g H)(hp:H p=none):Rl K ρ g (upd H p o):=by
 have e:Ext ρ H ρ (upd H p o):=o7 hp;refine⟨R.len,fun i ob a h1 h2=>?_,R.nd⟩;have q:=R.obj _ _ _ h1 h2;refine q.upd (fun hm=>?_) (fun ob u z=>by rw[hp] at z;cases z) e;obtain⟨u,h1,_⟩:=q.inv hm;exact j6 h1 hp
theorem Rl.r6(R:Rl K ρ g H)(p:Addr):(ρ++[p])[g.length]?=some p:=by rw[<- R.len];simp
theorem E0{p:Addr}{o:HO}(hp:H p=none):Ext ρ H (ρ++[p]) (upd H p o):=⟨⟨[p],rfl⟩,(o7 (ρ:=ρ) hp).tup⟩
theorem Rl.new{p:Addr}{o:O}{u:HO}(R:Rl K ρ g H)(hp:H p=none)(r:OH K ρ H o u):Rl K (ρ++[p]) (g++[o]) (upd H p u):=by
 have e:Ext ρ H (ρ++[p]) (upd H p u):=E0 hp;have old:∀{i:Nat} {ob:O} {a:Addr},g[i]?=some ob->(ρ++[p])[i]?=some a->ρ[i]?=some a:=fun{i ob a} h1 h2=>by
  rw[List.getElem?_append_left (by rw[R.len];exact(List.getElem?_eq_some_iff.mp h1).1)] at h2;exact h2
 have split:∀{i:Nat} {ob:O},(g++[o])[i]?=some ob->g[i]?=some ob\/(i=g.length/\ob=o):=fun{i ob} h=>by
  rcases Nat.lt_trichotomy i g.length with q|q|q
  ·rw[List.getElem?_append_left q] at h;exact .inl h
  ·subst q;simp at h;exact .inr ⟨rfl,h.symm⟩
  ·rw[List.getElem?_eq_none (by simp;omega)] at h;cases h
 refine⟨by simp[R.len],fun i ob a h1 h2=>?_,fun i j o1 o2 a h1 h2 m1 m2 h3 h4=>?_⟩
 ·rcases split h1 with q|⟨rfl,rfl⟩
  ·have z:=R.obj _ _ _ q (old q h2);refine z.upd (fun hm=>?_) (fun ob u z=>by rw[hp] at z;cases z) e;obtain⟨u,h1,_⟩:=z.inv hm;exact j6 h1 hp
  ·rw[R.r6] at h2;cases h2;exact .of j5 (r.ext e)
 ·have nq:∀{i:Nat} {o:O} {a:Addr},g[i]?=some o->o.mut=true->ρ[i]?=some a->a≠p:=fun{i o a} h1 hm h2=>by
   obtain⟨u,z,_⟩:=(R.obj _ _ _ h1 h2).inv hm;exact j6 z hp
  rcases split h1 with q|⟨rfl,_⟩
  ·rcases split h2 with q'|⟨rfl,_⟩
   ·exact R.nd _ _ _ _ _ q q' m1 m2 (old q h3) (old q' h4)
   ·rw[R.r6] at h4;cases h4;exact absurd rfl (nq q m1 (old q h3))
  ·rcases split h2 with q'|⟨rfl,_⟩
   ·rw[R.r6] at h3;cases h3;exact absurd rfl (nq q' m2 (old q' h4))
   ·rfl
theorem Rl.alloc{p:Addr}{l:List D}{vs:List V}(R:Rl K ρ g H)(hp:H p=none)(r:a8 K ρ H l vs):Rl K (ρ++[p]) (g++[.lst l]) (upd H p (.lst vs)):=R.new hp r
theorem Rl.put{i:Nat}{a:Addr}{o o':O}{u:HO}(R:Rl K ρ g H)(h:g[i]?=some o)(hm:o.mut=true)(ha:ρ[i]?=some a)(r:OH K ρ H o' u) :
  Rl K ρ (g.set i o') (upd H a u)/\Ext ρ H ρ (upd H a u):=by
 obtain⟨u0,z0,oh0⟩:=(R.obj _ _ _ h ha).inv hm;have e:Ext ρ H ρ (upd H a u):=⟨⟨[],by simp⟩,fun b xs q=>by rw[e8];exact q;intro z;subst z;rw[z0] at q;cases q;exact oh0.af8⟩
 refine⟨⟨by simp[R.len],fun j ob b h1 h2=>?_,fun j k o1 o2 b h1 h2 m1 m2 h3 h4=>?_⟩,e⟩
 ·by_cases hij:i=j
  ·subst hij;rw[ha] at h2;cases h2;have hi:i<g.length:=(List.getElem?_eq_some_iff.mp h).1;rw[List.getElem?_set_self hi] at h1;cases h1;exact .of j5 (r.ext e)
  ·rw[List.getElem?_set_ne hij] at h1;refine(R.obj _ _ _ h1 h2).upd (fun hm' ez=>?_) (fun ob u z=>by rw[z0] at z;cases z;exact oh0.by2) e;subst ez;exact hij (R.nd _ _ _ _ _ h h1 hm hm' ha h2)
 ·have back:∀{j:Nat} {m:O},(g.set i o')[j]?=some m->m.mut=true->∃m',g[j]?=some m'/\m'.mut=true:=fun{j m} q hm'=>by
   by_cases hij:i=j
   ·subst hij;exact⟨o,h,hm⟩
   ·rw[List.getElem?_set_ne hij] at q;exact⟨m,q,hm'⟩
  obtain⟨_,q1,n1⟩:=back h1 m1;obtain⟨_,q2,n2⟩:=back h2 m2;exact R.nd _ _ _ _ _ q1 q2 n1 n2 h3 h4
theorem Rl.write{i:Nat}{a:Addr}{l l':List D}{vs:List V}(R:Rl K ρ g H)(h:g[i]?=some (.lst l))(ha:ρ[i]?=some a)(r:a8 K ρ H l' vs) :
  Rl K ρ (g.set i (.lst l')) (upd H a (.lst vs))/\Ext ρ H ρ (upd H a (.lst vs)):=R.put h rfl ha r
end
structure i3(K:PySem.W.Frag)(ρ:List Addr)(H:Hp)(σ:S)(σv:St):Prop where
 len:σ.length=σv.length
 val:∀(i:Nat) d,σ[i]?=some (some d)->∃v,σv[i]?=some (some v)/\b7 K ρ H d v
section
variable{K:PySem.W.Frag}{ρ ρ':List Addr}{H H':Hp}
theorem i3.ext{σ σv}(e:Ext ρ H ρ' H')(r:i3 K ρ H σ σv):i3 K ρ' H' σ σv:=⟨r.len,fun i d h=>let ⟨v,a,b⟩:=r.val i d h;⟨v,a,b.ext e⟩⟩
theorem i3.set{σ σv d v}(r:i3 K ρ H σ σv)(i:Nat)(h:b7 K ρ H d v):i3 K ρ H (σ.set i (some d)) (σv.set i (some v)):=by
 refine⟨by simp[r.len],fun j e q=>?_⟩;by_cases hij:i=j
 ·subst hij;have hi:i<σ.length:=by
   have:=(List.getElem?_eq_some_iff.mp q).1;simpa using this
  rw[List.getElem?_set_self hi] at q;cases q;exact⟨v,by rw[List.getElem?_set_self (by rw[<- r.len];exact hi)],h⟩
 ·rw[List.getElem?_set_ne hij] at q ⊢;exact r.val j e q
theorem i3.start{ds vs}{n:Nat}(r:a8 K ρ H ds vs):i3 K ρ H (ds.map some++List.replicate (n-ds.length) none) (vs.map some++List.replicate (n-vs.length) none):=by
 refine⟨by simp[r.length],fun i d h=>?_⟩;by_cases hi:i<ds.length
 ·rw[List.getElem?_append_left (by simpa using hi),List.getElem?_map] at h;cases e:ds[i]? with
  |none=>rw[e] at h;cases h
  |some x =>
   rw[e] at h;cases h;obtain⟨v,h1,h2⟩:=r.get e;refine⟨v,?_,h2⟩;rw[List.getElem?_append_left (by rw[List.length_map,<- r.length];exact hi),List.getElem?_map,h1]
   rfl
 ·rw[List.getElem?_append_right (by simpa using hi),List.getElem?_replicate] at h;split at h<;>cases h
theorem i3.b9{σ σv}(r:i3 K ρ H σ σv)(b9:List Nat)(n:Nat):i3 K ρ H (J5 σ b9 n) (A2 σv b9 n):=by
 refine⟨by simp[J5,A2],fun i d h=>?_⟩;unfold J5 at h;unfold A2;by_cases hi:i<b9.length
 ·rw[List.getElem?_append_left (by simpa using hi),List.getElem?_map,List.getElem?_eq_getElem hi] at h;rw[List.getElem?_append_left (by simpa using hi),List.getElem?_map,List.getElem?_eq_getElem hi];simp only[Option.map_some] at h ⊢;cases e:σ[b9[i]]? with
  |none=>rw[e] at h;cases h
  |some x =>
   rw[e] at h;have hx:x=some d:=Option.some.inj h;subst hx;obtain⟨v,h1,h2⟩:=r.val _ _ e;exact⟨v,by rw[h1];rfl,h2⟩
 ·rw[List.getElem?_append_right (by simpa using hi),List.getElem?_replicate] at h;split at h<;>cases h
end
end M

namespace M
open PySem L2 PySem.Spec PyProof.Rows
noncomputable def LQ(K:PySem.W.Frag)(ρ:List Addr)(H:Hp)(Q:VK):KD:=fun d g'=>∀ρ' H' v,Ext ρ H ρ' H'->Rl K ρ' g' H'->b7 K ρ' H' d v->Q v H'
theorem LQ.ext{K ρ H ρ1 H1 Q d g}(e:Ext ρ H ρ1 H1)(h:LQ K ρ H Q d g):LQ K ρ1 H1 Q d g:=fun ρ' H' v e' R r=>h ρ' H' v (e.trans e') R r
theorem LQ.now{K ρ H Q d g v}(h:LQ K ρ H Q d g)(R:Rl K ρ g H)(r:b7 K ρ H d v):Q v H:=h ρ H v (.refl _ _) R r
theorem LQ.new{K ρ H Q}{g:G}{l:List D}{vs:List V}{p:Addr}(h:LQ K ρ H Q (.ref g.length) (g++[.lst l]))(R:Rl K ρ g H)(hp:H p=none)(r:a8 K ρ H l vs):Q (.ref p) (upd H p (.lst vs)) :=
 h (ρ++[p]) _ _ (E0 hp) (R.alloc hp r) (.ref (R.r6 p))
theorem LQ.tup{K ρ H Q}{g:G}{l:List D}{vs:List V}{p:Addr}(h:LQ K ρ H Q (.tup l) g)(R:Rl K ρ g H)(hp:H p=none)(r:a8 K ρ H l vs):Q (.ref p) (upd H p (.tup vs)) :=
 h ρ _ _ (o7 hp) (R.grow hp) (.tup (.inl j5) (r.ext (o7 hp)))
noncomputable def r2(K:PySem.W.Frag)(p:Pr):R2:=fun x y H Q=>∃d e g ρ,Rl K ρ g H/\b7 K ρ H d x/\b7 K ρ H e y/\prP p [d,e] g (LQ K ρ H Q)
noncomputable def r1(K:PySem.W.Frag)(p:Pr):V->Hp->VK->Prop:=fun x H Q=>∃d g ρ,Rl K ρ g H/\b7 K ρ H d x/\prP p [d] g (LQ K ρ H Q)
noncomputable def rN(K:PySem.W.Frag)(p:Pr):List V->Hp->VK->Prop:=fun xs H Q=>∃ds g ρ,Rl K ρ g H/\a8 K ρ H ds xs/\prP p ds g (LQ K ρ H Q)
theorem f7{n:Nat}(h:n<=100000):n<=sizeLine:=Nat.le_trans h (by decide)
theorem Z6{n:Nat}(h:n<100000):n<sizeLine:=Nat.lt_of_lt_of_le h (by decide)
theorem b7.g7{K ρ H i v}(h:b7 K ρ H (.int i) v):v=.int i:=by cases h;rfl
theorem b7.o8{K ρ H i v}(h:b7 K ρ H (.str i) v):v=.str i:=by cases h;rfl
theorem b7.C0{K ρ H i v}(h:b7 K ρ H (.bl i) v):v=.bl i:=by cases h;rfl
theorem b7.af7{K ρ H v}(h:b7 K ρ H .non v):v=.non:=by cases h;rfl
theorem b7.bu4{K ρ H n v}(h:b7 K ρ H (.ty n) v):v=.ty n:=by cases h;rfl
theorem b7.i0{K ρ H i v}(h:b7 K ρ H (.ref i) v):∃a,v=.ref a/\ρ[i]?=some a:=by cases h;exact⟨_,rfl,by assumption⟩
theorem b7.u3{K ρ H l v}(h:b7 K ρ H (.tup l) v):∃a vs,v=.ref a/\TupAt K H a vs/\a8 K ρ H l vs:=by cases h;exact⟨_,_,rfl,by assumption,by assumption⟩
theorem a8.one{K ρ H d vs}(h:a8 K ρ H [d] vs):∃v,vs=[v]/\b7 K ρ H d v:=by
 cases h with
 |cons r rr=>cases rr;exact⟨_,rfl,r⟩
theorem a8.two{K ρ H d e vs}(h:a8 K ρ H [d,e] vs):∃v w,vs=[v,w]/\b7 K ρ H d v/\b7 K ρ H e w:=by
 cases h with
 |cons r rr=>obtain⟨w,rfl,q⟩:=rr.one;exact⟨_,_,rfl,r,q⟩
theorem p0{a b c d:D}(h:[a,b]=[c,d]):a=c/\b=d:=by cases h;exact⟨rfl,rfl⟩
section
variable{X:Cx}
theorem bp3(op:Operator):OpR X (binaryOp op) (r2 X.K (.bin op)):=by
 intro pins s σ H x y v u Q I rx ry h;obtain⟨d,e,g,ρ,R,rd,re,d',g',h,q⟩:=h;rcases h with⟨i,j,r,ex,ha,rfl,rfl⟩|⟨rfl,h⟩|⟨rfl,h⟩
 ·obtain⟨rfl,rfl⟩:=p0 ex;obtain rfl:=rd.g7;obtain rfl:=re.g7;have fin:=q.now R (.int r);cases op<;>first|exact(show False from ha).elim|skip
  ·cases ha;exact bp4 pins s σ H _ _ v u Q I rx ry ⟨i,j,rfl,rfl,fin⟩
  ·cases ha;exact bo6 pins s σ H _ _ v u Q I rx ry ⟨i,j,rfl,rfl,fin⟩
  ·obtain⟨hc,rfl⟩:=ha;exact bo9 pins s σ H _ _ v u Q I rx ry ⟨i,j,rfl,rfl,hc,fin⟩
  ·obtain⟨hc,rfl⟩:=ha;exact bp0 pins s σ H _ _ v u Q I rx ry ⟨i,j,rfl,rfl,hc,fin⟩
  ·obtain⟨hc,rfl⟩:=ha;exact bo8 pins s σ H _ _ v u Q I rx ry ⟨i,j,rfl,rfl,hc,fin⟩
  ·obtain⟨hc,rfl⟩:=ha;exact bc6 pins s σ H _ _ v u Q I rx ry ⟨i,j,rfl,rfl,hc,fin⟩
 ·rcases h with⟨l,m,ex,hz,rfl,rfl⟩|⟨a,b,l,m,ex,ha,hb,hz,rfl,rfl⟩|⟨x',y',ex,hz,rfl,rfl⟩
  ·obtain⟨rfl,rfl⟩:=p0 ex;obtain⟨a,vs,rfl,ta,rs⟩:=rd.u3;obtain⟨b,ws,rfl,tb,rt⟩:=re.u3;refine aX6 pins s σ H _ _ v u Q I rx ry ⟨a,b,vs,ws,rfl,rfl,ta.sq,tb.sq,?_,fun z=>?_,fun z=>?_,fun p hp=>q.tup R hp (rs.append rt)⟩
   ·rw[<- rs.length,<- rt.length];exact f7 hz
   ·subst z;cases rs;exact q.now R (.tup tb rt)
   ·subst z;cases rt;rw[List.append_nil] at q;exact q.now R (.tup ta rs)
  ·obtain⟨rfl,rfl⟩:=p0 ex;obtain⟨a',rfl,ra⟩:=rd.i0;obtain⟨b',rfl,rb⟩:=re.i0;obtain⟨vs,z1,rs⟩:=R.lst ha ra;obtain⟨ws,z2,rt⟩:=R.lst hb rb;exact bp2 pins s σ H _ _ v u Q I rx ry ⟨_,_,vs,ws,rfl,rfl,z1,z2,by rw[<- rs.length,<- rt.length];exact f7 hz,fun p hp=>q.new R hp (rs.append rt)⟩
  ·obtain⟨rfl,rfl⟩:=p0 ex;obtain rfl:=rd.o8;obtain rfl:=re.o8;exact aG0 pins s σ H _ _ v u Q I rx ry ⟨_,_,rfl,rfl,f7 hz,q.now R (.str _)⟩
 ·rcases h with⟨a,l,n,ex,ha,h1,h2,hz,rfl,rfl⟩|⟨l,n,ex,hne,h1,h2,hz,rfl,rfl⟩
  rotate_left
  ·obtain⟨rfl,rfl⟩:=p0 ex;obtain⟨a',vs,rfl,ta,rs⟩:=rd.u3;obtain rfl:=re.g7;refine bc4 pins s σ H _ _ v u Q I rx ry ⟨_,_,vs,rfl,rfl,ta.sq,fun z=>?_,h1,h2,by rw[<- rs.length];exact f7 hz,fun z=>?_,fun p hp=>q.tup R hp (rs.rep _)⟩
   ·subst z;cases rs;exact hne rfl
   ·subst z;have:(List.replicate (Int.toNat 1) l).flatten=l:=by simp
    rw[this] at q;exact q.now R (.tup ta rs)
  obtain⟨rfl,rfl⟩:=p0 ex;obtain⟨a',rfl,ra⟩:=rd.i0;obtain rfl:=re.g7;obtain⟨vs,z1,rs⟩:=R.lst ha ra;exact bo7 pins s σ H _ _ v u Q I rx ry ⟨_,_,vs,rfl,rfl,z1,by omega,by omega,by rw[<- rs.length];exact f7 hz,fun p hp=>q.new R hp (rs.rep _)⟩
theorem bx7(op:UnaryOp):UnR X (unaryOp op) (r1 X.K (.un op)):=by
 intro pins s σ H x v Q I rx h;obtain⟨d,g,ρ,R,rd,d',g',⟨rfl,i,ex,rfl,rfl⟩,q⟩:=h;cases ex;obtain rfl:=rd.g7;exact bh2 pins s σ H _ v Q I rx ⟨_,rfl,q.now R (.int _)⟩
mutual
theorem C7{ρ:List Addr}{g:G}{H:Hp}{pins:List (Addr×Obj)}{σ:L2.St}{s:Shared}(I:Inv X pins σ H s)(R:Rl X.K ρ g H):∀(n:Nat) {d:D} {v:V} {u:Value} {p:PyData},rd g n d=some p->b7 X.K ρ H d v->RelV v u->∃as,Reads s.heap u p as/\p.depth<=n
 |n,.non,_,_,_,h,.non,ru=>by
  cases n<;>(simp only[rd] at h;cases h;cases ru;exact⟨_,.none,Nat.zero_le _⟩)
 |n,.bl b,_,_,_,h,.bl _,ru=>by
  cases n<;>(simp only[rd] at h;cases h;cases ru;exact⟨_,.bool b,Nat.zero_le _⟩)
 |n,.int i,_,_,_,h,.int _,ru=>by
  cases n<;>(simp only[rd] at h;cases h;obtain⟨t,rfl⟩:=ru;exact⟨_,.int i t,Nat.zero_le _⟩)
 |n,.str x,_,_,_,h,.str _,ru=>by
  cases n<;>(simp only[rd] at h;cases h;obtain⟨t,rfl⟩:=ru;exact⟨_,.str x t,Nat.zero_le _⟩)
 |n,.ty x,_,_,_,h,.ty _,ru=>by
  cases n<;>(simp only[rd] at h;cases h)
 |0,.ref _,_,_,_,h,_,_=>by simp only[rd] at h;cases h
 |0,.tup _,_,_,_,h,_,_=>by simp only[rd] at h;cases h
 |n+1,.ref a,_,_,p,h,.ref ha,ru=>by
  simp only[rd] at h;cases e:c7 g a with
  |none=>rw[e] at h;cases h
  |some l =>
   rw[e] at h;dsimp only at h;cases e2:l.mapM (rd g n) with
   |none=>rw[e2] at h;cases h
   |some ps =>
    rw[e2] at h;cases h;cases ru;obtain⟨vs,hq,rs⟩:=R.items e ha;obtain⟨its,rv,p,hz⟩:=I.list hq;obtain⟨as,q,hd⟩:=O0 I R n e2 rs rv;obtain⟨o,ho,hc,k,hdat⟩:=p.isList;refine⟨_,.list ho hc hdat (by simpa using q),?_⟩;simp only[PyData.depth];omega
 |n+1,.tup l,_,_,p,h,.tup ht rs,ru=>by
  simp only[rd] at h;cases e2:l.mapM (rd g n) with
  |none=>rw[e2] at h;cases h
  |some ps =>
   rw[e2] at h;cases h;cases ru;obtain⟨its,rv,pt,hz⟩:=I.tuple ht.sq;obtain⟨as,q,hd⟩:=O0 I R n e2 rs rv;obtain⟨o,ho,hc,k,hdat⟩:=id pt;refine⟨_,.tuple ho hc hdat (by simpa using q),?_⟩;simp only[PyData.depth];omega
theorem O0{ρ:List Addr}{g:G}{H:Hp}{pins:List (Addr×Obj)}{σ:L2.St}{s:Shared}(I:Inv X pins σ H s)(R:Rl X.K ρ g H):∀(n:Nat) {l:List D} {vs:List V} {us:List Value} {ps:List PyData},l.mapM (rd g n)=some ps->a8 X.K ρ H l vs->Vals vs us ->
  ∃as,ReadsAll s.heap us ps as/\PyData.depthAll ps<=n
 |n,[],_,_,_,h,.nil,.nil=>by
  simp at h;subst h;exact⟨_,.nil,Nat.zero_le _⟩
 |n,d::l,_,_,ps,h,.cons rd' rs,.cons ru rv=>by
  rw[List.mapM_cons] at h;cases e:rd g n d with
  |none=>rw[e] at h;cases h
  |some p =>
   rw[e] at h;cases e2:l.mapM (rd g n) with
   |none=>rw[e2] at h;cases h
   |some qs =>
    rw[e2] at h;cases h;obtain⟨as,q1,d1⟩:=C7 I R n e rd' ru;obtain⟨bs,q2,d2⟩:=O0 I R n e2 rs rv;refine⟨_,.cons q1 q2,?_⟩;simp only[PyData.depthAll];omega
end
end
section
variable{X:Cx}
theorem aa6{α:Type}[BEq α][LawfulBEq α][DecidableEq α](a b:α):decide (a=b)=(a==b):=by
 by_cases e:a=b
 ·subst e;simp
 ·rw[decide_eq_false e];exact(beq_eq_false_iff_ne.mpr e).symm
theorem Z7{K ρ H}{d:D}{v:V}{c:Key}(h:T4 d=some c)(r:b7 K ρ H d v):v=kV c:=by
 cases r<;>first|(cases h;rfl)|cases h
theorem U7.some{K ρ H}{o:Option V}{d:D}(h:U7 K ρ H (some d) o):∃v,o=some v/\b7 K ρ H d v:=by
 cases o with
 |none=>exact h.elim
 |some v=>exact⟨v,rfl,h⟩
theorem U7.isSome{K ρ H}{o:Option V}{d:Option D}(h:U7 K ρ H d o):d.isSome=o.isSome:=by
 cases o<;>cases d<;>first|rfl|exact h.elim
theorem a60{pins:List (Addr×Obj)}{s:Shared}{σ:L2.St}{H:Hp}{ρ:List Addr}{g:G}{d e:D}{x y:V}{v u:Value}{b:Bool}{Q:VK}(hu:X.A.units+100<cLine)(I:Inv X pins σ H s)(rx:RelV x v)(ry:RelV y u)(R:Rl X.K ρ g H)(rd':b7 X.K ρ H d x)(re:b7 X.K ρ H e y)(h:eqR g d e b)(neg:Bool)(q:Q (.bl (xor neg b)) H):wpAny (model X.prog X.w) X.A (compareOp (if neg then .NotEq else .Eq) v u) (EP X pins σ Q) X.xe s:=by
 rcases h with⟨i,j,rfl,rfl,rfl⟩|⟨i,j,rfl,rfl,rfl⟩|⟨i,j,rfl,rfl,rfl⟩|⟨p,p',h1,h2,c1,c2,rfl⟩
 ·obtain rfl:=rd'.g7;obtain rfl:=re.g7;cases neg
  ·exact aF9 pins s σ H _ _ v u Q I rx ry ⟨rfl,by rw[aa5];simpa[aa6] using q⟩
  ·exact aF8 pins s σ H _ _ v u Q I rx ry ⟨rfl,by rw[aa5];simpa[aa6] using q⟩
 ·obtain rfl:=rd'.C0;obtain rfl:=re.C0;cases neg
  ·exact aF9 pins s σ H _ _ v u Q I rx ry ⟨rfl,by rw[ah3];simpa using q⟩
  ·exact aF8 pins s σ H _ _ v u Q I rx ry ⟨rfl,by rw[ah3];simpa using q⟩
 ·obtain rfl:=rd'.o8;obtain rfl:=re.o8;cases neg
  ·exact aF9 pins s σ H _ _ v u Q I rx ry ⟨rfl,by rw[aa4];simpa[aa6] using q⟩
  ·exact aF8 pins s σ H _ _ v u Q I rx ry ⟨rfl,by rw[aa4];simpa[aa6] using q⟩
 ·obtain⟨as,q1,d1⟩:=C7 I R 6 h1 rd' rx;obtain⟨bs,q2,d2⟩:=C7 I R 6 h2 re ry;have hr:X.A.units+min p.depth p'.depth<cLine:=by omega
  cases neg
  ·exact SeqAt.compareEq_reads q1 q2 c1 c2 hr ⟨.bl _,H,I,rfl,by simpa using q⟩
  ·exact SeqAt.compareNe_reads q1 q2 c1 c2 hr ⟨.bl _,H,I,rfl,by simpa using q⟩
theorem in_of{pins:List (Addr×Obj)}{s:Shared}{σ:L2.St}{H:Hp}{ρ:List Addr}{g:G}{d e:D}{x y:V}{v u:Value}{b:Bool}{Q:VK}(hu:X.A.units+100<cLine)(I:Inv X pins σ H s)(rx:RelV x v)(ry:RelV y u)(R:Rl X.K ρ g H)(rd':b7 X.K ρ H d x)(re:b7 X.K ρ H e y)(h:inR g d e b)(neg:Bool)(q:Q (.bl (xor neg b)) H):wpAny (model X.prog X.w) X.A (compareOp (if neg then .NotIn else .In) v u) (EP X pins σ Q) X.xe s:=by
 rcases h with⟨a,kvs,c,rfl,ha,hc,rfl⟩|⟨l,ps,p,h0,h1,h2,c1,c2,rfl⟩
 ·obtain⟨a',rfl,ra⟩:=re.i0;obtain⟨vs,z,rs⟩:=R.dic ha ra;have:=Z7 hc rd';subst this;cases ry;rw[(rs.val c).isSome] at q;cases neg
  ·exact bJ6 (by omega) I (P1.k z) rx fun s' I'=>⟨.bl _,H,I',rfl,by simpa using q⟩
  ·exact bf3 (by omega) I (P1.k z) rx fun s' I'=>⟨.bl _,H,I',rfl,by simpa using q⟩
 ·obtain⟨as,q1,d1⟩:=C7 I R 6 h2 rd' rx;cases e with
  |tup m =>
   cases h0;have h3:rd g 7 (.tup l)=some (.tuple ps):=by simp only[rd];rw[show l.mapM (rd g 6)=some ps from h1];rfl
   obtain⟨bs,q2,d2⟩:=C7 I R 7 h3 re ry;have hr:X.A.units+1+min (PyData.depthAll ps) p.depth<cLine:=by omega
   cases neg
   ·exact SeqAt.in_tuple_reads q2 q1 c1 c2 hr ⟨.bl _,H,I,rfl,by simpa using q⟩
   ·exact SeqAt.notIn_tuple_reads q2 q1 c1 c2 hr ⟨.bl _,H,I,rfl,by simpa using q⟩
  |ref a =>
   have h3:rd g 7 (.ref a)=some (.list ps):=by
    simp only[rd];rw[show c7 g a=some l from h0];dsimp only;rw[show l.mapM (rd g 6)=some ps from h1]
    rfl
   obtain⟨bs,q2,d2⟩:=C7 I R 7 h3 re ry;have hr:X.A.units+1+min (PyData.depthAll ps) p.depth<cLine:=by omega
   cases neg
   ·exact SeqAt.in_list_reads q2 q1 c1 c2 hr ⟨.bl _,H,I,rfl,by simpa using q⟩
   ·exact SeqAt.notIn_list_reads q2 q1 c1 c2 hr ⟨.bl _,H,I,rfl,by simpa using q⟩
  |_=>cases h0
theorem P8(hu:X.A.units+100<cLine)(op:CmpOp):OpR X (compareOp op) (r2 X.K (.cmp op)):=by
 intro pins s σ H x y v u Q I rx ry h;obtain⟨d,e,g,ρ,R,rd',re,d',g',⟨x',y',b,ex,h,rfl,rfl⟩,q⟩:=h;obtain⟨rfl,rfl⟩:=p0 ex;have fin:=q.now R (.bl b);have intz:∀{P:Int->Int->Bool},(∃i j,d=.int i/\e=.int j/\b=P i j)->∃i j,x=.int i/\y=.int j/\b=P i j:=fun hh=>by
  obtain⟨i,j,z1,z2,z3⟩:=hh;exact⟨i,j,(z1▸rd').g7,(z2▸re).g7,z3⟩
 cases op
 ·exact a60 hu I rx ry R rd' re h false (by simpa using fin)
 ·exact a60 hu I rx ry R rd' re h true (by simpa using fin)
 ·obtain⟨i,j,e1,e2,e3⟩:=intz (P:=fun i j=>decide (i<j)) h;exact bx8 pins s σ H _ _ v u Q I rx ry ⟨i,j,e1,e2,by subst e3;exact fin⟩
 ·obtain⟨i,j,e1,e2,e3⟩:=intz (P:=fun i j=>decide (i<=j)) h;exact bx9 pins s σ H _ _ v u Q I rx ry ⟨i,j,e1,e2,by subst e3;exact fin⟩
 ·obtain⟨i,j,e1,e2,e3⟩:=intz (P:=fun i j=>decide (j<i)) h;exact by0 pins s σ H _ _ v u Q I rx ry ⟨i,j,e1,e2,by subst e3;exact fin⟩
 ·obtain⟨i,j,e1,e2,e3⟩:=intz (P:=fun i j=>decide (j<=i)) h;exact by1 pins s σ H _ _ v u Q I rx ry ⟨i,j,e1,e2,by subst e3;exact fin⟩
 ·obtain⟨rfl,rfl⟩:=(show _/\_ from h)
  obtain rfl:=re.af7;refine bp1 pins s σ H _ _ v u Q I rx ry ⟨rfl,?_⟩;have e:N7 d=decide (x=V.non):=by cases rd'<;>simp[N7]
  rw[<- e];exact fin
 ·obtain⟨rfl,rfl⟩:=(show _/\_ from h)
  obtain rfl:=re.af7;refine bc5 pins s σ H _ _ v u Q I rx ry ⟨rfl,?_⟩;have e:N7 d=decide (x=V.non):=by cases rd'<;>simp[N7]
  rw[<- e];exact fin
 ·exact in_of hu I rx ry R rd' re h false (by simpa using fin)
 ·exact in_of hu I rx ry R rd' re h true (by simpa using fin)
theorem empty_eq{K ρ H}{l:List D}{vs:List V}(r:a8 K ρ H l vs):l.isEmpty=vs.isEmpty:=by cases r<;>rfl
theorem bh6{K:PySem.W.Frag}{ρ:List Addr}{g:G}{H:Hp}{d:D}{x:V}{b:Bool}(R:Rl K ρ g H)(r:b7 K ρ H d x)(h:bh7 g d b):a26 K x H b:=by
 rcases h with⟨rfl,rfl⟩|rfl|⟨i,rfl,rfl⟩|⟨l,rfl,rfl⟩|⟨a,l,rfl,hl,rfl⟩
 ·obtain rfl:=r.af7;rfl
 ·obtain rfl:=r.C0;rfl
 ·obtain rfl:=r.g7;rfl
 ·obtain⟨a,vs,rfl,ht,rs⟩:=r.u3;exact .inr (.inl ⟨_,ht.sq,by rw[empty_eq rs]⟩)
 ·obtain⟨a',rfl,ha⟩:=r.i0;obtain⟨vs,hq,rs⟩:=R.items hl ha;exact .inl ⟨_,hq,by rw[empty_eq rs]⟩
theorem bg1{K ρ H}{l:List D}{vs:List V}{i:Int}{d:D}(r:a8 K ρ H l vs)(h:atI l i=some d):∃v,atI vs i=some v/\b7 K ρ H d v:=by
 unfold atI at h ⊢;rw[<- r.length];cases e:ixN l.length i with
 |none=>rw[e] at h;cases h
 |some j =>
  rw[e] at h;exact r.get h
theorem af5{K ρ H}{g:G}{x:D}{v:V}{l:List D}(R:Rl K ρ g H)(r:b7 K ρ H x v)(h:u7 g x=some l):∃a vs,v=.ref a/\a8 K ρ H l vs/\((∃i,x=.ref i/\ρ[i]?=some a)/\SqL K H a vs\/x=.tup l/\TupAt K H a vs):=by
 cases r with
 |tup ht rs=>cases h;exact⟨_,_,rfl,rs,.inr ⟨rfl,ht⟩⟩
 |ref ha=>obtain⟨vs,hq,rs⟩:=R.items h ha;exact⟨_,_,rfl,rs,.inl ⟨⟨_,rfl,ha⟩,hq⟩⟩
 |_=>cases h
theorem bz3(hu:X.A.units+100<cLine):IxR X (r2 X.K .ix):=by
 intro value slice pins s σ H x y v u Q I rx ry h hs;obtain⟨d,e,g,ρ,R,rd',re,d',g',⟨rfl,h⟩,q⟩:=h;rcases h with⟨x',l,i,ex,hl,ha⟩|⟨a,kvs,y',c,ex,ha,hc,hv⟩|⟨x',i,c,ex,h0,h1,rfl⟩
 ·obtain⟨rfl,rfl⟩:=p0 ex;obtain rfl:=re.g7;obtain⟨a,vs,rfl,rs,h⟩:=af5 R rd' hl;obtain⟨w,hw,rw'⟩:=bg1 rs ha;rcases h with⟨_,hq⟩|⟨_,ht⟩
  ·exact be1 value slice pins s σ H _ _ v u Q I rx ry ⟨_,_,i,w,rfl,rfl,hq,hw,q.now R rw'⟩ hs
  ·exact br1 value slice pins s σ H _ _ v u Q I rx ry ⟨_,_,i,w,rfl,rfl,ht.sq,hw,q.now R rw'⟩ hs
 ·obtain⟨rfl,rfl⟩:=p0 ex;obtain⟨a',rfl,ra⟩:=rd'.i0;obtain⟨vs,z,rs⟩:=R.dic ha ra;have:=Z7 hc re;subst this;have q2:=rs.val c;rw[hv] at q2;obtain⟨w,hw,rw'⟩:=q2.some;exact be2 (by omega) value slice pins s σ H _ _ v u Q I rx ry ⟨_,w,rfl,by have:=P1.k (k:=c) z;rw[hw] at this;exact this,q.now R rw'⟩ hs
 ·obtain⟨rfl,rfl⟩:=p0 ex;obtain rfl:=rd'.o8;obtain rfl:=re.g7;exact br2 value slice pins s σ H _ _ v u Q I rx ry ⟨x',i,c,rfl,rfl,f7 h0,h1,q.now R (.str _)⟩ hs
end
end M

namespace M
open PySem L2 PySem.Spec PyProof.Rows
section
variable{X:Cx}
noncomputable def rSl(K:PySem.W.Frag):V->Option Int->Option Int->Hp->VK->Prop:=fun x lo hi H Q=>∃d g ρ d' g',Rl K ρ g H/\b7 K ρ H d x/\slR d lo hi g d' g'/\LQ K ρ H Q d' g'
theorem aE8:SlR X (rSl X.K):=by
 intro pins s σ H x v vl vu lo hi sl Q I rx hs pl pu h;obtain⟨d,g,ρ,d',g',R,rd',h,q⟩:=h;rcases h with⟨l,rfl,rfl,rfl⟩|⟨a,l,rfl,hl,rfl,rfl⟩
 ·obtain⟨a,vs,rfl,ht,rs⟩:=rd'.u3;refine a89 pins s σ H _ v vl vu lo hi sl Q I rx hs pl pu ⟨_,_,rfl,ht.sq,fun z=>?_,fun p hp=>q.tup R hp (rs.cut lo hi)⟩;refine q.now R (.tup ht ?_);have:=rs.cut lo hi;rw[z] at this;exact this
 ·obtain⟨a',rfl,ha⟩:=rd'.i0;obtain⟨vs,hq,rs⟩:=R.items hl ha;exact a90 pins s σ H _ v vl vu lo hi sl Q I rx hs pl pu ⟨_,_,rfl,hq,fun p hp=>q.new R hp (rs.cut lo hi)⟩
noncomputable def bG4(K:PySem.W.Frag):V->V->V->Hp->(Hp->Prop)->Prop:=fun o i v H Q=>∃do' di dv g ρ,Rl K ρ g H/\b7 K ρ H do' o/\b7 K ρ H di i/\b7 K ρ H dv v/\ac9 do' di dv g (fun g'=>∀ρ' H',Ext ρ H ρ' H'->Rl K ρ' g' H'->Q H')
theorem bk4(hu:X.A.units+100<cLine):a28 X (bG4 X.K):=by
 intro pins s σ H o i v ov iv u Q I ro ri rv h;obtain⟨do',di,dv,g,ρ,R,r1,r2,r3,g',h,q⟩:=h;rcases h with⟨a,i',l,j,rfl,rfl,hl,hj,rfl⟩|⟨a,kvs,c,rfl,ha,hc,hz,rfl⟩
 ·obtain⟨a',rfl,ha⟩:=r1.i0;obtain rfl:=r2.g7;obtain⟨vs,z,rs⟩:=R.lst hl ha;obtain⟨R',e'⟩:=R.write hl ha (rs.set r3 j);exact set_list pins s σ H _ _ _ ov iv u Q I ro ri rv ⟨_,vs,_,j,rfl,rfl,z,by rw[<- rs.length];exact hj,q ρ _ e' R'⟩
 ·obtain⟨a',rfl,ra⟩:=r1.i0;obtain⟨vs,z,rs⟩:=R.dic ha ra;have:=Z7 hc r2;subst this;obtain⟨R',e'⟩:=R.put (o':=.dic (putD kvs c dv)) (u:=.dK (putK vs c v)) ha rfl ra (rs.put r3);cases ro;exact aR8 (by omega) I (aK0.k z (by rw[<- rs.length];exact Z6 hz)) ri rv fun s' I'=>⟨_,I',q ρ _ e' R'⟩
theorem bq3:j4 X (.builtin "len") (rN X.K .len):=by
 intro pins s σ H xs us Q I r h;obtain⟨ds,g,ρ,R,rs,d',g',⟨rfl,h⟩,q⟩:=h;rcases h with⟨x,l,rfl,hl,rfl⟩|⟨a,kvs,rfl,ha,rfl⟩|⟨x,rfl,hz,rfl⟩
 ·obtain⟨v,rfl,rv⟩:=rs.one;obtain⟨a,vs,rfl,rl,h⟩:=af5 R rv hl;refine ax1 pins s σ H _ us Q I r ⟨_,_,rfl,?_,by rw[<- rl.length];exact q.now R (.int _)⟩;exact h.imp (fun z=>z.2) (fun z=>z.2.sq)
 ·obtain⟨v,rfl,rv⟩:=rs.one;obtain⟨a',rfl,ra⟩:=rv.i0;obtain⟨vs,z,rk⟩:=R.dic ha ra;exact aS3 pins s σ H _ us Q I r ⟨_,_,rfl,z,by rw[<- rk.length];exact q.now R (.int _)⟩
 ·obtain⟨v,rfl,rv⟩:=rs.one;obtain rfl:=rv.o8;exact ax0 pins s σ H _ us Q I r ⟨_,rfl,f7 hz,q.now R (.int _)⟩
theorem bd8:j4 X (.type "list") (rN X.K .list):=by
 intro pins s σ H xs us Q I r h;obtain⟨ds,g,ρ,R,rs,d',g',⟨x,l,rfl,hl,rfl,rfl⟩,q⟩:=h;obtain⟨v,rfl,rv⟩:=rs.one;obtain⟨a,vs,rfl,rl,h⟩:=af5 R rv hl;exact aw9 pins s σ H _ us Q I r ⟨_,_,rfl,h.imp (fun z=>z.2) (fun z=>z.2.sq),fun p hp=>q.new R hp rl⟩
theorem aT8:j4 X (.type "tuple") (rN X.K .tuple):=by
 intro pins s σ H xs us Q I r h;obtain⟨ds,g,ρ,R,rs,d',g',⟨x,l,rfl,hl,rfl,rfl⟩,q⟩:=h;obtain⟨v,rfl,rv⟩:=rs.one;obtain⟨a,vs,rfl,rl,h⟩:=af5 R rv hl;refine ap1 pins s σ H _ us Q I r ⟨a,vs,rfl,?_⟩;exact h.imp (fun z=>⟨z.2,fun p hp=>q.tup R hp rl⟩) (fun z=>⟨z.2.sq,q.now R (.tup z.2 rl)⟩)
theorem be3:j4 X (.builtin "isinstance") (rN X.K .isin):=by
 intro pins s σ H xs us Q I r h;obtain⟨ds,g,ρ,R,rs,d',g',⟨x,c,b,rfl,hc,hb,rfl,rfl⟩,q⟩:=h;obtain⟨v,w,rfl,r1,r2⟩:=rs.two;obtain rfl:=r2.bu4;have fin:=q.now R (.bl b);have go:∀(t:Value) (v:V),TyOf X.K H v t->PySem.W.kitOne X.K t (.type c)=some b->Vals [v,V.ty c] us->wpAny (model X.prog X.w) X.A (call (.builtin "isinstance") us) (EP X pins σ Q) X.xe s :=
  fun t v ht hk r=>az3 pins s σ H _ us Q I r ⟨v,t,c,b,rfl,ht,hk,fin⟩
 simp only[List.mem_cons,List.mem_nil_iff,or_false] at hc;cases r1 with
 |non=>refine go _ _ .non ?_ r;cases hb;rcases hc with rfl|rfl|rfl|rfl|rfl<;>rfl
 |bl y=>refine go _ _ (.bl y) ?_ r;cases hb;rcases hc with rfl|rfl|rfl|rfl|rfl<;>rfl
 |int y=>refine go _ _ (.int y) ?_ r;cases hb;rcases hc with rfl|rfl|rfl|rfl|rfl<;>rfl
 |str y=>refine go _ _ (.str y) ?_ r;cases hb;rcases hc with rfl|rfl|rfl|rfl|rfl<;>rfl
 |ty _=>cases hb
 |tup ht rs =>
  cases hb;rcases ht with ht|ht
  ·refine go _ _ (.tup ht) ?_ r;rcases hc with rfl|rfl|rfl|rfl|rfl<;>rfl
  ·obtain⟨o,its,n,lk,hcl,_⟩:=ht;obtain⟨u,w',rfl,ru,rw'⟩:=vals2 r;cases (show w'=Value.type c from rw');cases ru;have hk:PySem.W.kitOne X.K (.type "tuple") (.type c)=some (c=="tuple"):=by rcases hc with rfl|rfl|rfl|rfl|rfl<;>rfl
   exact PySem.W.kia_one PySem.W.kitx_tuple I.kIn ⟨o,I.kIn _ _ lk,hcl⟩ hk (fun z=>nomatch z) fun tk=>⟨.bl _,H,I.tok tk,rfl,fin⟩
 |@ref i a ha =>
  have hb2:∃m,g'[i]?=some (.lst m)/\b=(c=="list"):=by
   simp only[ad8] at hb;split at hb
   ·exact⟨_,by assumption,(Option.some.inj hb).symm⟩
   ·cases hb
  obtain⟨m,e,rfl⟩:=hb2;obtain⟨vs,z,_⟩:=R.lst e ha;refine go _ _ (.lst z) ?_ r;rcases hc with rfl|rfl|rfl|rfl|rfl<;>rfl
theorem aJ6:∀{l:List D} {b:Bool},N8 l=some b->∃bs:List Bool,l=bs.map D.bl/\b=bs.all id:=by
 intro l
 induction l with
 |nil=>intro b h;cases h;exact⟨[],rfl,rfl⟩
 |cons d r ih =>
  intro b h;cases d<;>first|(cases h;done)|skip
  rename_i c;simp only[N8] at h;cases e:N8 r with
  |none=>rw[e] at h;cases h
  |some b' =>
   rw[e] at h;cases h;obtain⟨bs,rfl,rfl⟩:=ih e;exact⟨c::bs,rfl,by simp⟩
theorem a8.bls{K ρ H}:∀{bs:List Bool} {vs:List V},a8 K ρ H (bs.map D.bl) vs->vs=bs.map V.bl:=by
 intro bs
 induction bs with
 |nil=>intro vs h;cases h;rfl
 |cons b r ih =>
  intro vs h;cases h with
  |cons h rr=>rw[ih rr,h.C0];rfl
theorem bt3(hc:X.calm=true):j4 X (.builtin "all") (rN X.K .all):=by
 intro pins s σ H xs us Q I r h;obtain⟨ds,g,ρ,R,rs,d',g',⟨a,l,b,rfl,hl,hb,rfl,rfl⟩,q⟩:=h;obtain⟨bs,rfl,rfl⟩:=aJ6 hb;obtain⟨v,rfl,rv⟩:=rs.one;obtain⟨a',rfl,ra⟩:=rv.i0;obtain⟨vs,hq,rs⟩:=R.items hl ra;have:=rs.bls;subst this;exact aS4 hc pins s σ H _ us Q I r ⟨_,bs,rfl,hq,q.now R (.bl _)⟩
theorem br3:j4 X (.type "int") (rN X.K .int):=by
 intro pins s σ H xs us Q I r h;obtain⟨ds,g,ρ,R,rs,d',g',⟨rfl,h⟩,q⟩:=h;rcases h with⟨i,rfl,rfl⟩|⟨b,rfl,rfl⟩
 ·obtain⟨v,rfl,rv⟩:=rs.one;obtain rfl:=rv.g7;exact ao2 pins s σ H _ us Q I r (.inl ⟨i,rfl,q.now R (.int _)⟩)
 ·obtain⟨v,rfl,rv⟩:=rs.one;obtain rfl:=rv.C0;exact ao2 pins s σ H _ us Q I r (.inr ⟨b,rfl,q.now R (.int _)⟩)
theorem bj2:j4 X (.type "str") (rN X.K .str):=by
 intro pins s σ H xs us Q I r h;obtain⟨ds,g,ρ,R,rs,d',g',⟨i,rfl,hi,rfl,rfl⟩|⟨x,rfl,rfl,rfl⟩,q⟩:=h
 ·obtain⟨v,rfl,rv⟩:=rs.one;obtain rfl:=rv.g7;exact aw8 pins s σ H _ us Q I r ⟨i,rfl,hi,q.now R (.str _)⟩
 ·obtain⟨v,rfl,rv⟩:=rs.one;obtain rfl:=rv.o8;obtain⟨u,rfl,t,rfl⟩:=vals1 r;exact PySem.P.str_of_str ⟨.str _,H,I,⟨_,rfl⟩,q.now R (.str _)⟩
noncomputable def rM(K:PySem.W.Frag)(p:Pr):V->List V->Hp->VK->Prop:=fun x xs H Q=>∃d ds g ρ,Rl K ρ g H/\b7 K ρ H d x/\a8 K ρ H ds xs/\prP p (d::ds) g (LQ K ρ H Q)
theorem U1{a b:D}{l m:List D}(h:a::l=b::m):a=b/\l=m:=by cases h;exact⟨rfl,rfl⟩
theorem aS7:MtR X "list.append" (rM X.K .append):=by
 intro pins s σ H x xs v us Q I rx r h;obtain⟨d,ds,g,ρ,R,rd,rs,d',g',⟨a,y,l,ex,ha,hz,rfl,rfl⟩,q⟩:=h;obtain⟨rfl,rfl⟩:=U1 ex;obtain⟨a',rfl,ra⟩:=rd.i0;obtain⟨w,rfl,rw'⟩:=rs.one;obtain⟨vs,z1,rv⟩:=R.lst ha ra;obtain⟨R2,e2⟩:=R.write ha ra (rv.append (.cons rw' .nil));exact aP0 pins s σ H _ _ v us Q I rx r ⟨_,vs,_,rfl,rfl,z1,by rw[<- rv.length];exact Z6 hz,q ρ _ _ e2 R2 .non⟩
theorem a13:MtR X "list.clear" (rM X.K .clear):=by
 intro pins s σ H x xs v us Q I rx r h;obtain⟨d,ds,g,ρ,R,rd,rs,d',g',⟨a,l,ex,ha,rfl,rfl⟩,q⟩:=h;obtain⟨rfl,rfl⟩:=U1 ex;obtain⟨a',rfl,ra⟩:=rd.i0;cases rs;obtain⟨vs,z1,rv⟩:=R.lst ha ra;obtain⟨R2,e2⟩:=R.write ha ra (a8.nil);exact aY1 pins s σ H _ _ v us Q I rx r ⟨_,vs,rfl,rfl,z1,q ρ _ _ e2 R2 .non⟩
theorem bb4:MtR X "list.pop" (rM X.K .pop0):=by
 intro pins s σ H x xs v us Q I rx r h;obtain⟨d,ds,g,ρ,R,rd,rs,y,g',⟨a,l,ex,ha,rfl⟩,q⟩:=h;obtain⟨rfl,rfl⟩:=U1 ex;obtain⟨a',rfl,ra⟩:=rd.i0;cases rs;obtain⟨vs,z1,rv⟩:=R.lst ha ra;obtain⟨w,hw,rw'⟩:=rv.get (i:=l.length) (d:=y) (by simp);have hl:vs.length=l.length+1:=by rw[<- rv.length];simp
 have rl:a8 X.K ρ H l vs.dropLast:=by
  have:=rv.erase l.length;rw[List.eraseIdx_append_of_length_le (Nat.le_refl _)] at this;rw[show vs.eraseIdx l.length=vs.dropLast by rw[List.eraseIdx_eq_dropLast];omega] at this;simpa using this
 obtain⟨R2,e2⟩:=R.write ha ra rl;exact bp8 pins s σ H _ _ v us Q I rx r ⟨_,vs,w,rfl,rfl,z1,by rw[hl];exact hw,q ρ _ _ e2 R2 (rw'.ext e2)⟩
theorem a07:j4 X (.type "dict") (rN X.K .dcopy):=by
 intro pins s σ H xs us Q I r h;obtain⟨ds,g,ρ,R,rs,d',g',⟨a,kvs,rfl,ha,rfl,rfl⟩,q⟩:=h;obtain⟨v,rfl,rv⟩:=rs.one;obtain⟨a',rfl,ra⟩:=rv.i0;obtain⟨vs,z1,rk⟩:=R.dic ha ra;cases r with
 |cons r rr =>
 cases rr;cases r;refine a08 I (.inl z1) fun p s' hp I'=>⟨.ref p,_,I',rfl,?_⟩
 exact q (ρ++[p]) _ _ (E0 hp) (R.new hp (o:=.dic kvs) (u:=.dK vs) rk) (.ref (R.r6 p))
theorem a8.strs{K ρ H}:∀{ys:List Str} {vs:List V},a8 K ρ H (ys.map D.str) vs->vs=ys.map V.str
 |[],_,.nil=>rfl
 |_::_,_,.cons h r=>by cases h;rw[a8.strs r];rfl
theorem be0:MtR X "str.join" (rM X.K .join):=by
 intro pins s σ H x xs v us Q I rx r h;obtain⟨d,ds,g,ρ,R,rd,rs,d',g',⟨sep,a,ys,ex,ha,hz,rfl,rfl⟩,q⟩:=h;obtain⟨rfl,rfl⟩:=U1 ex;obtain rfl:=rd.o8;obtain⟨w,rfl,rw'⟩:=rs.one;obtain⟨a',rfl,ra⟩:=rw'.i0;obtain⟨vs,hq,rv⟩:=R.items ha ra;obtain rfl:=rv.strs;exact bd4 pins s σ H _ _ v us Q I rx r ⟨sep,a',ys,rfl,rfl,hq,f7 hz,q.now R (.str _)⟩
theorem ty_str{d:D}{v:V}{g:G}{ρ:List Addr}{H:Hp}(R:Rl X.K ρ g H)(r:b7 X.K ρ H d v)(h:∃y,d=.str y):tyV X.K "str" v H:=by
 obtain⟨y,rfl⟩:=h;obtain rfl:=r.o8;exact rfl
theorem ty_list{d:D}{v:V}{g:G}{ρ:List Addr}{H:Hp}(R:Rl X.K ρ g H)(r:b7 X.K ρ H d v)(h:∃a l,d=.ref a/\c7 g a=some l):tyV X.K "list" v H:=by
 obtain⟨a,l,rfl,hl⟩:=h;obtain⟨a',rfl,ra⟩:=r.i0;obtain⟨vs,hq,_⟩:=R.items hl ra;exact .inl ⟨rfl,vs,hq⟩
end
end M

namespace M
open PySem L2 PySem.Spec PyProof.Rows
noncomputable abbrev XKE:=List Str×XK
noncomputable def LX(K:PySem.W.Frag)(ρ:List Addr)(H:Hp)(Ξ:XKE):KX:=fun x g'=>∀ρ' H' C,Ext ρ H ρ' H'->Rl K ρ' g' H'->x.cls∈Ξ.1->j3 K x.cls C->Ξ.2 (.ref C) none H'
theorem LX.ext{K:PySem.W.Frag}{ρ ρ1:List Addr}{H H1:Hp}{Ξ:XKE}(e:Ext ρ H ρ1 H1){x:Xn}{g:G}(h:LX K ρ H Ξ x g):LX K ρ1 H1 Ξ x g:=fun ρ' H' C e' R hm c=>h ρ' H' C (e.trans e') R hm c
noncomputable abbrev XK0(ex:List Str):XKE:=(ex,fun _ _ _=>False)
noncomputable def LE(K:PySem.W.Frag)(Ξ:XKE)(t:S->G->KD->KX->Prop):TE:=fun σv H Q=>∃σ g ρ,i3 K ρ H σ σv/\Rl K ρ g H/\t σ g (LQ K ρ H Q) (LX K ρ H Ξ)
noncomputable def LT(K:PySem.W.Frag)(Ξ:XKE)(t:S->G->(Bool->G->Prop)->KX->Prop):TT:=fun σv H Q=>∃σ g ρ,i3 K ρ H σ σv/\Rl K ρ g H/\t σ g (fun b g'=>∀ρ' H',Ext ρ H ρ' H'->Rl K ρ' g' H'->Q b H') (LX K ρ H Ξ)
noncomputable def LA(K:PySem.W.Frag)(Ξ:XKE)(t:S->G->(List D->G->Prop)->KX->Prop):TA:=fun σv H Q=>∃σ g ρ,i3 K ρ H σ σv/\Rl K ρ g H/\t σ g (fun ds g'=>∀ρ' H' vs,Ext ρ H ρ' H'->Rl K ρ' g' H'->a8 K ρ' H' ds vs->Q vs H') (LX K ρ H Ξ)
noncomputable def al7(K:PySem.W.Frag)(ρ0:List Addr)(H0:Hp)(k:IK)(J:It):Prop:=∀ρ g H,Ext ρ0 H0 ρ H->Rl K ρ g H->∀i,(k.at i g=some none->J.stop i H) /\
 ∀d,k.at i g=some (some d)->J.go i H/\∀v H',J.yld i H v H'->Ext ρ H ρ H'/\Rl K ρ g H'/\b7 K ρ H' d v
noncomputable def LI(K:PySem.W.Frag)(Ξ:XKE)(t:S->G->(IK->G->Prop)->KX->Prop):TI:=fun σv H R=>∃σ g ρ,i3 K ρ H σ σv/\Rl K ρ g H/\t σ g (fun k g'=>∀ρ' H' J,Ext ρ H ρ' H'->Rl K ρ' g' H'->al7 K ρ' H' k J->R J H') (LX K ρ H Ξ)
noncomputable def LG(K:PySem.W.Frag)(t:MT):TG:=fun v σv H Q=>∃d σ g ρ,i3 K ρ H σ σv/\Rl K ρ g H/\b7 K ρ H d v/\tgP t d σ (fun σ'=>∀σv',i3 K ρ H σ' σv'->Q σv' H)
noncomputable def LN(K:PySem.W.Frag)(ρ:List Addr)(H:Hp)(N:L2.Ends):Ends where
 nx:=fun σ' g'=>∀ρ' H' σv',Ext ρ H ρ' H'->Rl K ρ' g' H'->i3 K ρ' H' σ' σv'->N.nx σv' H'
 rt:=LQ K ρ H N.rt
 bk:=fun σ' g'=>∀ρ' H' σv',Ext ρ H ρ' H'->Rl K ρ' g' H'->i3 K ρ' H' σ' σv'->N.bk σv' H'
 ct:=fun σ' g'=>∀ρ' H' σv',Ext ρ H ρ' H'->Rl K ρ' g' H'->i3 K ρ' H' σ' σv'->N.ct σv' H'
noncomputable def LS(K:PySem.W.Frag)(Ξ:XKE)(t:Ends->S->G->KX->Prop):TS:=fun N σv H=>∃σ g ρ,i3 K ρ H σ σv/\Rl K ρ g H/\t (LN K ρ H N) σ g (LX K ρ H Ξ)
end M
namespace L2
open PySem PySem.Spec PyProof.Rows
section
variable{X:Cx}{e:Expr}
theorem PE.imp{t t':TE}(h:PE X e t)(i:∀σ H Q,t' σ H Q->t σ H Q):PE X e t':=fun pins s σ H Q I q=>h pins s σ H Q I (i σ H Q q)
theorem PT.imp{t t':TT}(h:PT X e t)(i:∀σ H Q,t' σ H Q->t σ H Q):PT X e t':=fun pins s σ H Q I q=>h pins s σ H Q I (i σ H Q q)
theorem PW.imp{t t':TT}(h:PW X e t)(i:∀σ H Q,t' σ H Q->t σ H Q):PW X e t':=fun w pins s σ H Q I q=>h w pins s σ H Q I (i σ H Q q)
theorem PA.imp{es:List Expr}{t t':TA}(h:PA X es t)(i:∀σ H Q,t' σ H Q->t σ H Q):PA X es t':=fun p pins s σ H Q I q=>h p pins s σ H Q I (i σ H Q q)
theorem PTs.imp{es:List Expr}{t t':TT}(h:PTs X es t)(i:∀σ H Q,t' σ H Q->t σ H Q):PTs X es t':=fun pins s σ H Q I q=>h pins s σ H Q I (i σ H Q q)
theorem PI.imp{tg:Expr}{t t':TI}(h:PI X tg e t)(i:∀σ H Q,t' σ H Q->t σ H Q):PI X tg e t':=fun pins s σ H Q I q=>h pins s σ H Q I (i σ H Q q)
theorem PG.imp{t t':TG}(h:PG X e t)(i:∀v σ H Q,t' v σ H Q->t v σ H Q):PG X e t':=fun pins s σ H v u Q I r q=>h pins s σ H v u Q I r (i v σ H Q q)
theorem PS.imp{st:Stmt}{t t':TS}(h:PS X st t)(i:∀N σ H,t' N σ H->t N σ H):PS X st t':=fun pins s σ H N I q=>h pins s σ H N I (i N σ H q)
theorem PSs.imp{st:List Stmt}{t t':TS}(h:PSs X st t)(i:∀N σ H,t' N σ H->t N σ H):PSs X st t':=fun pins s σ H N I q=>h pins s σ H N I (i N σ H q)
end
end L2
namespace M
open PySem L2 PySem.Spec PyProof.Rows
section
variable{K:PySem.W.Frag}{Ξ:XKE}{P:Sig}(hP:e9 P){ρ ρ0:List Addr}{H H0:Hp}{σ:S}{σv:L2.St}{g:G}{m:ME}
include hP
theorem thE{Q0:KD}{Q:VK}(s:i3 K ρ H σ σv)(R:Rl K ρ g H)(e0:Ext ρ0 H0 ρ H)(h:wpE P m σ g Q0 (LX K ρ0 H0 Ξ))(k:∀x g1 ρ1 H1 v1,Ext ρ H ρ1 H1->Rl K ρ1 g1 H1->b7 K ρ1 H1 x v1->Q0 x g1->Q v1 H1):LE K Ξ (wpE P m) σv H Q :=
 ⟨σ,g,ρ,s,R,b0 hP m _ _ _ _ _ _ (fun x g1 h ρ1 H1 v1 e1 R1 r1=>k x g1 ρ1 H1 v1 e1 R1 r1 h) (fun _ _ z=>LX.ext e0 z) h⟩
theorem thA{Q0:List D->G->Prop}{Q:List V->Hp->Prop}(s:i3 K ρ H σ σv)(R:Rl K ρ g H)(e0:Ext ρ0 H0 ρ H)(h:wpA P m σ g Q0 (LX K ρ0 H0 Ξ))(k:∀x g1 ρ1 H1 v1,Ext ρ H ρ1 H1->Rl K ρ1 g1 H1->a8 K ρ1 H1 x v1->Q0 x g1->Q v1 H1):LA K Ξ (wpA P m) σv H Q :=
 ⟨σ,g,ρ,s,R,l9 hP m _ _ _ _ _ _ (fun x g1 h ρ1 H1 v1 e1 R1 r1=>k x g1 ρ1 H1 v1 e1 R1 r1 h) (fun _ _ z=>LX.ext e0 z) h⟩
theorem thT{Q0:Bool->G->Prop}{Q:Bool->Hp->Prop}(s:i3 K ρ H σ σv)(R:Rl K ρ g H)(e0:Ext ρ0 H0 ρ H)(h:wpT P m σ g Q0 (LX K ρ0 H0 Ξ))(k:∀t g1 ρ1 H1,Ext ρ H ρ1 H1->Rl K ρ1 g1 H1->Q0 t g1->Q t H1):LT K Ξ (wpT P m) σv H Q :=
 ⟨σ,g,ρ,s,R,k7 hP m _ _ _ _ _ _ (fun t g1 h ρ1 H1 e1 R1=>k t g1 ρ1 H1 e1 R1 h) (fun _ _ z=>LX.ext e0 z) h⟩
theorem thS{ms:MS}{N:L2.Ends}{N0:Ends}(s:i3 K ρ H σ σv)(R:Rl K ρ g H)(e0:Ext ρ0 H0 ρ H)(h:wpS P ms N0 σ g (LX K ρ0 H0 Ξ))(k:N0.le (LN K ρ H N)):LS K Ξ (wpS P ms) N σv H :=
 ⟨σ,g,ρ,s,R,wpS_mono hP ms _ _ _ _ _ _ k (fun _ _ z=>LX.ext e0 z) h⟩
end
theorem a8.rng{K ρ H}(lo:Int)(n:Nat):a8 K ρ H (n0 lo n) ((List.range n).map fun(k:Nat)=>V.int (lo+k)):=by
 unfold n0;have:∀l:List Nat,a8 K ρ H (l.map fun(k:Nat)=>D.int (lo+k)) (l.map fun(k:Nat)=>V.int (lo+k)):=by
  intro l
  induction l with
  |nil=>exact .nil
  |cons x r ih=>exact .cons (.int _) ih
 exact this _
section
variable{X:Cx}{Ξ:XKE}{P:Sig}(hP:e9 P){a b c e:Expr}{ma mb mc:ME}{pos:Pos}{p:Pr}
include hP
theorem as7(h:PE X e (tOp (r2 X.K p) (LE X.K Ξ (wpE P ma)) (LE X.K Ξ (wpE P mb)))):PE X e (LE X.K Ξ (wpE P (.prim p (.cons ma (.cons mb .nil))))) :=
 h.imp fun σv H Q ⟨σ,g,ρ,s,R,h⟩=>by
  simp only[wpE,wpA] at h;exact thE hP s R (.refl _ _) h fun x g1 ρ1 H1 v1 e1 R1 r1 h=>thE hP (s.ext e1) R1 e1 h fun y g2 ρ2 H2 v2 e2 R2 r2 h =>
   ⟨x,y,g2,ρ2,R2,r1.ext e2,r2,k9 (fun d g' h=>h.ext (e1.trans e2)) h⟩
theorem bj4{op:CmpOp}(h:PT X e (aE4 (tOp (r2 X.K (.cmp op)) (LE X.K Ξ (wpE P ma)) (LE X.K Ξ (wpE P mb))))):PT X e (LT X.K Ξ (wpT P (.tst (.prim (.cmp op) (.cons ma (.cons mb .nil)))))) :=
 h.imp fun σv H Q ⟨σ,g,ρ,s,R,h⟩=>by
  simp only[wpT,wpE,wpA] at h;refine thE hP s R (.refl _ _) h fun x g1 ρ1 H1 v1 e1 R1 r1 h=>thE hP (s.ext e1) R1 e1 h fun y g2 ρ2 H2 v2 e2 R2 r2 h=>?_;obtain⟨d',g',h,q⟩:=h;obtain⟨x',y',t,ex,hc,rfl,rfl⟩:=id h;refine⟨x,y,g',ρ2,R2,r1.ext e2,r2,_,_,h,fun ρ' H' v e' R' r'=>?_⟩;obtain⟨t',ht,q⟩:=q;rcases ht with⟨z,_⟩|z|⟨i,z,_⟩|⟨l,z,_⟩|⟨a,l,z,_⟩<;>cases z
  exact⟨_,r'.C0,q ρ' H' (e1.trans (e2.trans e')) R'⟩
theorem bw0{op:UnaryOp}(ha:PE X a (LE X.K Ξ (wpE P ma))):PE X (.UnaryOp op a pos) (LE X.K Ξ (wpE P (.prim (.un op) (.cons ma .nil)))) :=
 (bx1 (bx7 op) ha).imp fun σv H Q ⟨σ,g,ρ,s,R,h⟩=>by
  simp only[wpE,wpA] at h;exact thE hP s R (.refl _ _) h fun x g1 ρ1 H1 v1 e1 R1 r1 h=>⟨x,g1,ρ1,R1,r1,k9 (fun d g' h=>h.ext e1) h⟩
theorem aw7{op op':CmpOp}:∀σv H Q,LE X.K Ξ (wpE P (.chain op op' ma mb mc)) σv H Q->ar6 (r2 X.K (.cmp op)) (r2 X.K (.cmp op')) (LE X.K Ξ (wpE P ma)) (LE X.K Ξ (wpE P mb)) (LE X.K Ξ (wpE P mc)) σv H Q:=fun σv H Q ⟨σ,g,ρ,s,R,h⟩=>by
 simp only[wpE] at h;refine thE hP s R (.refl _ _) h fun x g1 ρ1 H1 v1 e1 R1 r1 h=>thE hP (s.ext e1) R1 e1 h fun y g2 ρ2 H2 v2 e2 R2 r2 h=>?_;refine⟨x,y,g2,ρ2,R2,r1.ext e2,r2,k9 (fun d g3 h ρ3 H3 v3 e3 R3 r3=>?_) h⟩;obtain⟨t,rfl,h⟩:=h;obtain rfl:=r3.C0;refine⟨t,rfl,?_⟩;cases t
 ·exact h ρ3 H3 _ (e1.trans (e2.trans e3)) R3 (.bl _)
 ·exact thE hP (s.ext (e1.trans (e2.trans e3))) R3 (e1.trans (e2.trans e3)) h fun z g4 ρ4 H4 v4 e4 R4 r4 h =>
   ⟨y,z,g4,ρ4,R4,r2.ext (e3.trans e4),r4,k9 (fun d g' h=>h.ext (e1.trans (e2.trans (e3.trans e4)))) h⟩
theorem aV6{op op':CmpOp}(hu:X.A.units+100<cLine)(ha:PE X a (LE X.K Ξ (wpE P ma)))(hb:PE X b (LE X.K Ξ (wpE P mb)))(hc:PE X c (LE X.K Ξ (wpE P mc)))(hm:lastMarks [op,op'] [b,c]=false) :
  PE X (.Compare a [op,op'] [b,c] pos) (LE X.K Ξ (wpE P (.chain op op' ma mb mc))):=(aX4 (P8 hu op) (P8 hu op') ha hb hc hm).imp (aw7 hP)
theorem a15{op op':CmpOp}{σ:S}{g:G}{Q:Bool->G->Prop}{E:KX}(h:wpT P (.tst (.chain op op' ma mb mc)) σ g Q E):wpE P (.chain op op' ma mb mc) σ g (fun d g'=>∃t,d=.bl t/\Q t g') E:=by
 have one:∀{o:CmpOp} {xs:List D} {g:G},prP (.cmp o) xs g (fun d g1=>V3 g1 d fun b=>Q b g1)->prP (.cmp o) xs g fun d g'=>∃t,d=.bl t/\Q t g':=by
  intro o xs g h;obtain⟨d',g',h,t',ht,q⟩:=h;obtain⟨x',y',t,ex,hc,rfl,rfl⟩:=id h;refine⟨_,_,h,t',?_,q⟩;rcases ht with⟨z,_⟩|z|⟨i,z,_⟩|⟨l,z,_⟩|⟨a,l,z,_⟩<;>first|exact z|cases z
 simp only[wpT,wpE] at h ⊢;refine b0 hP ma _ _ _ _ _ _ (fun x g1 h=>b0 hP mb _ _ _ _ _ _ (fun y g2 h=>k9 (fun z g3 h=>?_) h) (fun _ _ z=>z) h) (fun _ _ z=>z) h;obtain⟨t,rfl,h⟩:=h;refine⟨t,rfl,?_⟩;cases t
 ·obtain⟨b,hb,q⟩:=(show V3 g3 (.bl false) fun b=>Q b g3 from h)
  rcases hb with⟨z,_⟩|z|⟨i,z,_⟩|⟨l,z,_⟩|⟨a,l,z,_⟩<;>first|(cases z;exact⟨_,rfl,q⟩)|cases z
 ·exact b0 hP mc _ _ _ _ _ _ (fun w g4 h=>one h) (fun _ _ z=>z) h
theorem aU3{op op':CmpOp}(hu:X.A.units+100<cLine)(ha:PE X a (LE X.K Ξ (wpE P ma)))(hb:PE X b (LE X.K Ξ (wpE P mb)))(hc:PE X c (LE X.K Ξ (wpE P mc)))(hm:lastMarks [op,op'] [b,c]=false) :
  PT X (.Compare a [op,op'] [b,c] pos) (LT X.K Ξ (wpT P (.tst (.chain op op' ma mb mc)))) :=
 (aW1 (P8 hu op) (P8 hu op') ha hb hc hm).imp fun σv H Q ⟨σ,g,ρ,s,R,h⟩ =>
  aw7 hP σv H _ (thE hP s R (.refl _ _) (a15 hP h) fun x g1 ρ1 H1 v1 e1 R1 r1 h=>by
   obtain⟨t,rfl,h⟩:=h;exact ⟨t,r1.C0,h ρ1 H1 e1 R1⟩)
theorem bl6{rest:List Expr}(ha:PE X a (LE X.K Ξ (wpE P ma)))(hb:PE X (.BoolOp .And (b::rest) pos) (LE X.K Ξ (wpE P mb))):PE X (.BoolOp .And (a::b::rest) pos) (LE X.K Ξ (wpE P (.and_ ma mb))) :=
 (bo3 ha hb).imp fun σv H Q ⟨σ,g,ρ,s,R,h⟩=>by
  simp only[wpE] at h;refine thE hP s R (.refl _ _) h fun x g1 ρ1 H1 v1 e1 R1 r1 h=>?_;obtain⟨t,rfl,h⟩:=h;refine⟨t,r1.C0,?_⟩;cases t
  ·exact h ρ1 H1 _ e1 R1 (.bl _)
  ·exact thE hP (s.ext e1) R1 e1 h fun y g2 ρ2 H2 v2 e2 R2 r2 h=>h ρ2 H2 v2 (e1.trans e2) R2 r2
theorem bw1{rest:List Expr}(ha:PE X a (LE X.K Ξ (wpE P ma)))(hb:PE X (.BoolOp .Or (b::rest) pos) (LE X.K Ξ (wpE P mb))):PE X (.BoolOp .Or (a::b::rest) pos) (LE X.K Ξ (wpE P (.or_ ma mb))) :=
 (bx2 ha hb).imp fun σv H Q ⟨σ,g,ρ,s,R,h⟩=>by
  simp only[wpE] at h;refine thE hP s R (.refl _ _) h fun x g1 ρ1 H1 v1 e1 R1 r1 h=>?_;obtain⟨t,rfl,h⟩:=h;refine⟨t,r1.C0,?_⟩;cases t
  ·exact thE hP (s.ext e1) R1 e1 h fun y g2 ρ2 H2 v2 e2 R2 r2 h=>h ρ2 H2 v2 (e1.trans e2) R2 r2
  ·exact h ρ1 H1 _ e1 R1 (.bl _)
theorem bl0(ha:PE X a (LE X.K Ξ (wpE P ma))):PE X (.UnaryOp .Not a pos) (LE X.K Ξ (wpE P (.not_ ma))) :=
 (bn7 ha).imp fun σv H Q ⟨σ,g,ρ,s,R,h⟩=>by
  simp only[wpE] at h;refine thE hP s R (.refl _ _) h fun x g1 ρ1 H1 v1 e1 R1 r1 h=>?_;obtain⟨t,rfl,h⟩:=h;exact⟨t,r1.C0,h ρ1 H1 _ e1 R1 (.bl _)⟩
theorem bl1(hc:PT X c (LT X.K Ξ (wpT P mc)))(ha:PE X a (LE X.K Ξ (wpE P ma)))(hb:PE X b (LE X.K Ξ (wpE P mb))):PE X (.IfExp c a b pos) (LE X.K Ξ (wpE P (.ite mc ma mb))) :=
 (aX2 hc ha hb).imp fun σv H Q ⟨σ,g,ρ,s,R,h⟩=>by
  simp only[wpE] at h;refine thT hP s R (.refl _ _) h fun t g1 ρ1 H1 e1 R1 h=>?_;cases t
  ·exact thE hP (s.ext e1) R1 e1 h fun y g2 ρ2 H2 v2 e2 R2 r2 h=>h ρ2 H2 v2 (e1.trans e2) R2 r2
  ·exact thE hP (s.ext e1) R1 e1 h fun y g2 ρ2 H2 v2 e2 R2 r2 h=>h ρ2 H2 v2 (e1.trans e2) R2 r2
theorem bk8{es:List Expr}{mes:ME}{k:Nat}(h:PA X es (LA X.K Ξ (wpA P mes))):PE X (.Tuple es k pos) (LE X.K Ξ (wpE P (.prim .tup mes))) :=
 (bn5 h).imp fun σv H Q ⟨σ,g,ρ,s,R,h⟩=>by
  simp only[wpE] at h;refine thA hP s R (.refl _ _) h fun ds g1 ρ1 H1 vs e1 R1 r1 h=>?_;obtain⟨d',g',⟨hz,rfl,rfl⟩,q⟩:=h;exact⟨by rw[<- r1.length];exact f7 (Nat.le_trans hz (by decide)),fun p hp=>(q.ext e1).tup R1 hp r1⟩
theorem aM0{es:List Expr}{mes:ME}(h:PA X es (LA X.K Ξ (wpA P mes))):PE X (.List es pos) (LE X.K Ξ (wpE P (.prim .lst mes))) :=
 (bn9 h).imp fun σv H Q ⟨σ,g,ρ,s,R,h⟩=>by
  simp only[wpE] at h;refine thA hP s R (.refl _ _) h fun ds g1 ρ1 H1 vs e1 R1 r1 h=>?_;obtain⟨d',g',⟨hz,rfl,rfl⟩,q⟩:=h;exact⟨by rw[<- r1.length];exact f7 (Nat.le_trans hz (by decide)),fun p hp=>(q.ext e1).new R1 hp r1⟩
theorem P4:PA X [] (LA X.K Ξ (wpA P .nil)) :=
 (P7 (X:=X)).imp fun σv H Q ⟨σ,g,ρ,s,R,h⟩=>by
  simp only[wpA] at h;exact h ρ H [] (.refl _ _) R .nil
theorem A7{es:List Expr}{mes:ME}(ha:PE X a (LE X.K Ξ (wpE P ma)))(h:PA X es (LA X.K Ξ (wpA P mes)))(hs:starEach (a::es) X.env=(false,eval a X.env)::starEach es X.env):PA X (a::es) (LA X.K Ξ (wpA P (.cons ma mes))) :=
 (J8 ha h hs).imp fun σv H Q ⟨σ,g,ρ,s,R,h⟩=>by
  simp only[wpA] at h;exact thE hP s R (.refl _ _) h fun x g1 ρ1 H1 v1 e1 R1 r1 h=>thA hP (s.ext e1) R1 e1 h fun xs g2 ρ2 H2 vs e2 R2 r2 h=>h ρ2 H2 _ (e1.trans e2) R2 (.cons (r1.ext e2) r2)
theorem aU9{p2:Pos}(ha:PE X a (LE X.K Ξ (wpE P ma))):PE X (.Subscript a (.Slice none none none p2) pos) (LE X.K Ξ (wpE P (.prim (.slc false false) (.cons ma .nil)))) :=
 (ad0 aE8 ha Z3 Z3).imp fun σv H Q ⟨σ,g,ρ,s,R,h⟩=>by
  simp only[wpE,wpA] at h;refine thE hP s R (.refl _ _) h fun x g1 ρ1 H1 v1 e1 R1 r1 h=>?_;obtain⟨d',g',⟨x',ex,h⟩,q⟩:=h;cases ex;exact⟨x,g1,ρ1,d',g',R1,r1,h,q.ext e1⟩
theorem aU7{p2:Pos}(ha:PE X a (LE X.K Ξ (wpE P ma)))(hb:PE X b (LE X.K Ξ (wpE P mb))):PE X (.Subscript a (.Slice (some b) none none p2) pos) (LE X.K Ξ (wpE P (.prim (.slc true false) (.cons ma (.cons mb .nil))))) :=
 (ad0 aE8 ha (aB3 hb) Z3).imp fun σv H Q ⟨σ,g,ρ,s,R,h⟩=>by
  simp only[wpE,wpA] at h;refine thE hP s R (.refl _ _) h fun x g1 ρ1 H1 v1 e1 R1 r1 h=>thE hP (s.ext e1) R1 e1 h fun y g2 ρ2 H2 v2 e2 R2 r2 h=>?_;obtain⟨d',g',⟨x',i,ex,h⟩,q⟩:=h;cases ex;exact⟨i,r2.g7,x,g2,ρ2,d',g',R2,r1.ext e2,h,q.ext (e1.trans e2)⟩
theorem aU8{p2:Pos}(ha:PE X a (LE X.K Ξ (wpE P ma)))(hb:PE X b (LE X.K Ξ (wpE P mb))):PE X (.Subscript a (.Slice none (some b) none p2) pos) (LE X.K Ξ (wpE P (.prim (.slc false true) (.cons ma (.cons mb .nil))))) :=
 (ad0 aE8 ha Z3 (aB3 hb)).imp fun σv H Q ⟨σ,g,ρ,s,R,h⟩=>by
  simp only[wpE,wpA] at h;refine thE hP s R (.refl _ _) h fun x g1 ρ1 H1 v1 e1 R1 r1 h=>thE hP (s.ext e1) R1 e1 h fun y g2 ρ2 H2 v2 e2 R2 r2 h=>?_;obtain⟨d',g',⟨x',i,ex,h⟩,q⟩:=h;cases ex;exact⟨i,r2.g7,x,g2,ρ2,d',g',R2,r1.ext e2,h,q.ext (e1.trans e2)⟩
theorem bj3(ha:PE X a (LE X.K Ξ (wpE P ma)))(he:∀whole,isTrue a X.env whole=(do let v <- whole;standAt a.pos;holding [v] (truthy v))):PT X a (LT X.K Ξ (wpT P (.tst ma))) :=
 (aW0 ha he).imp fun σv H Q ⟨σ,g,ρ,s,R,h⟩=>by
  simp only[wpT] at h;refine thE hP s R (.refl _ _) h fun x g1 ρ1 H1 v1 e1 R1 r1 h=>?_;obtain⟨b,h1,h2⟩:=h;exact⟨b,bh6 R1 r1 h1,h2 ρ1 H1 e1 R1⟩
theorem bj5(ha:PT X a (LT X.K Ξ (wpT P ma))):PT X (.UnaryOp .Not a pos) (LT X.K Ξ (wpT P (.not_ ma))) :=
 (bm6 ha).imp fun σv H Q ⟨σ,g,ρ,s,R,h⟩=>by
  simp only[wpT] at h;exact thT hP s R (.refl _ _) h fun t g1 ρ1 H1 e1 R1 h=>h ρ1 H1 e1 R1
theorem bj1{rest:List Expr}(ha:PT X a (LT X.K Ξ (wpT P ma)))(hb:PW X (.BoolOp .And (b::rest) pos) (LT X.K Ξ (wpT P mb))):PW X (.BoolOp .And (a::b::rest) pos) (LT X.K Ξ (wpT P (.and_ ma mb))) :=
 (bm5 ha hb).imp fun σv H Q ⟨σ,g,ρ,s,R,h⟩=>by
  simp only[wpT] at h;refine thT hP s R (.refl _ _) h fun t g1 ρ1 H1 e1 R1 h=>?_;cases t
  ·exact h ρ1 H1 e1 R1
  ·exact thT hP (s.ext e1) R1 e1 h fun t g2 ρ2 H2 e2 R2 h=>h ρ2 H2 (e1.trans e2) R2
theorem bv7{rest:List Expr}(ha:PT X a (LT X.K Ξ (wpT P ma)))(hb:PW X (.BoolOp .Or (b::rest) pos) (LT X.K Ξ (wpT P mb))):PW X (.BoolOp .Or (a::b::rest) pos) (LT X.K Ξ (wpT P (.or_ ma mb))) :=
 (bw8 ha hb).imp fun σv H Q ⟨σ,g,ρ,s,R,h⟩=>by
  simp only[wpT] at h;refine thT hP s R (.refl _ _) h fun t g1 ρ1 H1 e1 R1 h=>?_;cases t
  ·exact thT hP (s.ext e1) R1 e1 h fun t g2 ρ2 H2 e2 R2 h=>h ρ2 H2 (e1.trans e2) R2
  ·exact h ρ1 H1 e1 R1
theorem a88:PTs X [] (LT X.K Ξ (wpT P .no)) :=
 (ba8 (X:=X)).imp fun σv H Q ⟨σ,g,ρ,s,R,h⟩=>by
  simp only[wpT] at h;exact h ρ H (.refl _ _) R
theorem bl5{x:Str}{v:Value}{es:List Expr}{mes:ME}{q:Pos}(hv:(∃id,v=.builtin id)\/∃T,v=.type T)(hc:j4 X v (rN X.K p))(hg:Gl X x)(hm:X.mg x=none)(hb:bootBuiltins x=some v)(ha:PA X (e::es) (LA X.K Ξ (wpA P mes)))(hn:x≠"__name__")(hd:(x==("__debug__":Str))=false)(hst:starEach (e::es) X.env=(false,eval e X.env)::starEach es X.env)(hpl:(backTo pos (starEach es X.env)).any (·.1)=false):PE X (.Call (.Name x q) (e::es) [] pos) (LE X.K Ξ (wpE P (.prim p mes))):=by
 have base:PE X (.Call (.Name x q) (e::es) [] pos) (tCB (rN X.K p) (LA X.K Ξ (wpA P mes))):=by
  rcases hv with⟨id,rfl⟩|⟨T,rfl⟩
  ·exact at5 hc hg hm hb ha hn hd hst hpl
  ·exact F5 hc hg hm hb ha hn hd hst hpl
 refine base.imp fun σv H Q ⟨σ,g,ρ,s,R,h⟩=>?_;simp only[wpE] at h;exact thA hP s R (.refl _ _) h fun xs g1 ρ1 H1 vs e1 R1 r1 h=>⟨xs,g1,ρ1,R1,r1,k9 (fun d g' h=>h.ext e1) h⟩
theorem a96{o:Expr}{es:List Expr}{mo mes:ME}{T:String}{name:Str}{id:String}{apos:Pos}(pa:PlainAttrs T)(slot:Slot T name id)(hty:typeOf (.builtin id)=pure (.type "method_descriptor"))(hm:MtR X id (rM X.K p))(hk:∀{d:D} {v:V} {g:G} {ρ:List Addr} {H:Hp},Rl X.K ρ g H->b7 X.K ρ H d v->mkP p d g->tyV X.K T v H)(ho:PE X o (LE X.K Ξ (wpE P mo)))(ha:PA X (e::es) (LA X.K Ξ (wpA P mes)))(hbase:attributeBase o name X.env (eval o X.env)=eval o X.env)(hfew:((backTo pos (starEach (e::es) X.env)).all (fun x=>!x.1)&&(backToKw pos (keywordEach [] X.env)).all (fun x=>x.1.isSome)&&decide ((e::es).length+([]:List Keyword).length+(if([]:List Keyword).isEmpty then 0 else 1)<30))=true)(hline:(apos.endLine==pos.line)=true)(hs:starEach (e::es) X.env=(false,eval e X.env)::starEach es X.env)(hplain:(backTo pos (starEach es X.env)).any (·.1)=false) :
  PE X (.Call (.Attribute o name apos) (e::es) [] pos) (LE X.K Ξ (wpE P (.meth p mo mes))) :=
 (bx4 pa slot hty hm ho ha hbase hfew hline hs hplain).imp fun σv H Q ⟨σ,g,ρ,s,R,h⟩=>by
  simp only[wpE] at h;exact thE hP s R (.refl _ _) h fun x g1 ρ1 H1 v1 e1 R1 r1 h=>⟨hk R1 r1 h.1,thA hP (s.ext e1) R1 e1 h.2 fun xs g2 ρ2 H2 ws e2 R2 r2 h =>
   ⟨x,xs,g2,ρ2,R2,r1.ext e2,r2,k9 (fun d g' h=>h.ext (e1.trans e2)) h⟩⟩
theorem aV1{o:Expr}{mo:ME}{T:String}{name:Str}{id:String}{apos:Pos}(pa:PlainAttrs T)(slot:Slot T name id)(hty:typeOf (.builtin id)=pure (.type "method_descriptor"))(hm:MtR X id (rM X.K p))(hk:∀{d:D} {v:V} {g:G} {ρ:List Addr} {H:Hp},Rl X.K ρ g H->b7 X.K ρ H d v->mkP p d g->tyV X.K T v H)(ho:PE X o (LE X.K Ξ (wpE P mo)))(hbase:attributeBase o name X.env (eval o X.env)=eval o X.env)(hline:(apos.endLine==pos.line)=true) :
  PE X (.Call (.Attribute o name apos) [] [] pos) (LE X.K Ξ (wpE P (.meth p mo .nil))) :=
 (bo2 pa slot hty hm ho hbase hline).imp fun σv H Q ⟨σ,g,ρ,s,R,h⟩=>by
  simp only[wpE,wpA] at h;exact thE hP s R (.refl _ _) h fun x g1 ρ1 H1 v1 e1 R1 r1 h=>⟨hk R1 r1 h.1,x,[],g1,ρ1,R1,r1,.nil,k9 (fun d g' h=>h.ext e1) h.2⟩
omit hP in
theorem av7{K ρ H}{d:D}{v:V}(r:b7 K ρ H d v)(h:aa3 d=true):v=toV d/\B9 v=true:=by
 cases r with
 |non=>exact⟨rfl,rfl⟩
 |bl _=>exact⟨rfl,rfl⟩
 |int _=>exact⟨rfl,rfl⟩
 |str _=>exact⟨rfl,rfl⟩
 |ty _=>exact absurd h Bool.false_ne_true
 |ref _=>exact absurd h Bool.false_ne_true
 |tup _ _=>exact absurd h Bool.false_ne_true
omit hP in
theorem aR5{K ρ H}{l:List D}{vs:List V}(r:a8 K ρ H l vs)(h:l.all aa3=true):vs=l.map toV/\vs.all B9=true:=by
 induction l generalizing vs with
 |nil=>cases r;exact⟨rfl,rfl⟩
 |cons d l ih =>
  cases r with
  |cons rd rs =>
   rw[List.all_cons,Bool.and_eq_true] at h;obtain⟨e1,f1⟩:=av7 rd h.1;obtain⟨e2,f2⟩:=ih rs h.2;subst e1 e2;exact⟨rfl,by rw[List.all_cons,f1,f2];rfl⟩
omit hP in
theorem ao0{K ρ H}{l:List D}{vs:List V}{y:D}{w:V}{n:Nat}(r:a8 K ρ H l vs)(ry:b7 K ρ H y w)(h:F9 l y n):ab2 vs w n:=by
 obtain⟨h1,h2,⟨z,h3,h4⟩,h5⟩:=h;obtain⟨e1,f1⟩:=aR5 r h1;obtain⟨e2,f2⟩:=av7 ry h2;subst e1 e2;refine⟨f1,f2,⟨toV z,by rw[List.getElem?_map,h3];rfl,h4⟩,fun m z' hm hz=>?_⟩;rw[List.getElem?_map,Option.map_eq_some_iff] at hz;obtain⟨z'',hz,rfl⟩:=hz;exact h5 m z'' hm hz
theorem aV5{o:Expr}{es:List Expr}{mo mes:ME}{apos:Pos}(ho:PE X o (LE X.K Ξ (wpE P mo)))(ha:PA X (e::es) (LA X.K Ξ (wpA P mes)))(hbase:attributeBase o "index" X.env (eval o X.env)=eval o X.env)(hfew:((backTo pos (starEach (e::es) X.env)).all (fun x=>!x.1)&&(backToKw pos (keywordEach [] X.env)).all (fun x=>x.1.isSome)&&decide ((e::es).length+([]:List Keyword).length+(if([]:List Keyword).isEmpty then 0 else 1)<30))=true)(hline:(apos.endLine==pos.line)=true)(hs:starEach (e::es) X.env=(false,eval e X.env)::starEach es X.env)(hplain:(backTo pos (starEach es X.env)).any (·.1)=false) :
  PE X (.Call (.Attribute o "index" apos) (e::es) [] pos) (LE X.K Ξ (wpE P (.meth .index mo mes))) :=
 (aX1 ho ha hbase hfew hline hs hplain).imp fun σv H Q ⟨σ,g,ρ,s,R,h⟩=>by
  simp only[wpE] at h;refine thE hP s R (.refl _ _) h fun x g1 ρ1 H1 v1 e1 R1 r1 h=>?_;obtain⟨hk,h⟩:=h;rcases hk with⟨l,rfl⟩|⟨a,l,rfl,hl⟩
  ·obtain⟨a',vs,rfl,ta,rs⟩:=r1.u3;refine .inr ⟨a',vs,rfl,ta.d,thA hP (s.ext e1) R1 e1 h fun xs g2 ρ2 H2 ws e2 R2 r2 h=>?_⟩;obtain⟨d',g',⟨x,y,l',n,ex,hi,W,hz,rfl,rfl⟩,q⟩:=h;cases ex;cases hi;obtain⟨w,rfl,rw'⟩:=r2.one;exact⟨a',vs,w,n,rfl,rfl,(ta.ext e2).sq,ao0 (rs.ext e2) rw' W,(q.ext (e1.trans e2)).now R2 (.int n)⟩
  ·obtain⟨a',rfl,ra⟩:=r1.i0;obtain⟨vs,hq,_⟩:=R1.items hl ra;refine .inl ⟨a',vs,rfl,hq,thA hP (s.ext e1) R1 e1 h fun xs g2 ρ2 H2 ws e2 R2 r2 h=>?_⟩;obtain⟨d',g',⟨x,y,l',n,ex,hi,W,hz,rfl,rfl⟩,q⟩:=h;cases ex;obtain⟨w,rfl,rw'⟩:=r2.one;obtain⟨vs2,hq2,rs2⟩:=R2.items (show c7 _ a=some l' from hi) (e2.get ra);have hn:n<2 ^ 62:=by
    obtain⟨_,_,⟨z,hz',_⟩,_⟩:=W;have:=(List.getElem?_eq_some_iff.mp hz').1;omega
   exact⟨a',vs2,w,n,rfl,rfl,hq2,ao0 rs2 rw' W,hn,(q.ext (e1.trans e2)).now R2 (.int n)⟩
theorem aV4{q p2 pos2:Pos}(hc:X.calm=true)(ha:PE X a (LE X.K Ξ (wpE P ma)))(hgl:Gl X "list")(hml:X.mg "list"=none)(hg:Gl X "range")(hm:X.mg "range"=none)(hs:starEach [a] X.env=[(false,eval a X.env)]) :
  PE X (.Call (.Name "list" p2) [.Call (.Name "range" q) [a] [] pos] [] pos2) (LE X.K Ξ (wpE P (.prim .lrng1 (.cons ma .nil)))) :=
 (F5 (U9 hc) hgl hml (by first|exact PyProof.Rows.boot_list|decide +kernel) (J8 (aN8 hg hm (A7 hP ha (P4 hP) (by rw[hs];rfl)) hs) P7)).imp fun σv H Q ⟨σ,g,ρ,s,R,h⟩=>by
  simp only[wpE] at h;refine thA hP s R (.refl _ _) h fun xs g1 ρ1 H1 vs e1 R1 r1 h=>?_;obtain⟨d',g',⟨j,rfl,h1,h2,rfl,rfl⟩,q⟩:=h;obtain⟨v,rfl,rv⟩:=r1.one;obtain rfl:=rv.g7;refine⟨j,rfl,fun q' hq=>⟨q',0,j,rfl,j5,⟨by omega,by omega,h1,by omega,by omega⟩,fun p hp=>?_⟩⟩;rw[show(j-0).toNat=j.toNat by omega];exact(q.ext (e1.trans (o7 hq))).new (R1.grow hq) hp (a8.rng 0 _)
theorem aV3{q p2 pos2:Pos}(hc:X.calm=true)(ha:PE X a (LE X.K Ξ (wpE P ma)))(hb:PE X b (LE X.K Ξ (wpE P mb)))(hgl:Gl X "list")(hml:X.mg "list"=none)(hg:Gl X "range")(hm:X.mg "range"=none)(hs:starEach [a,b] X.env=[(false,eval a X.env),(false,eval b X.env)])(hs2:starEach [b] X.env=[(false,eval b X.env)]) :
  PE X (.Call (.Name "list" p2) [.Call (.Name "range" q) [a,b] [] pos] [] pos2) (LE X.K Ξ (wpE P (.prim .lrng2 (.cons ma (.cons mb .nil))))) :=
 (F5 (U9 hc) hgl hml (by first|exact PyProof.Rows.boot_list|decide +kernel) (J8 (aN7 hg hm (A7 hP ha (A7 hP hb (P4 hP) (by rw[hs2];rfl)) (by rw[hs,hs2])) hs hs2) P7)).imp fun σv H Q ⟨σ,g,ρ,s,R,h⟩=>by
  simp only[wpE] at h;refine thA hP s R (.refl _ _) h fun xs g1 ρ1 H1 vs e1 R1 r1 h=>?_;obtain⟨d',g',⟨i,j,rfl,hb,rfl,rfl⟩,q⟩:=h;obtain⟨v,w,rfl,rv,rw'⟩:=r1.two;obtain rfl:=rv.g7;obtain rfl:=rw'.g7;exact⟨i,j,rfl,fun q' hq=>⟨q',i,j,rfl,j5,hb,fun p hp=>(q.ext (e1.trans (o7 hq))).new (R1.grow hq) hp (a8.rng i _)⟩⟩
theorem bl3{f:Str}(ha:PE X a (LE X.K Ξ (wpE P ma)))(hb:attributeBase a f X.env (eval a X.env)=eval a X.env):PE X (.Attribute a f pos) (LE X.K Ξ (wpE P (.prim (.fld f) (.cons ma .nil)))) :=
 (bo1 ha hb).imp fun σv H Q ⟨σ,g,ρ,s,R,h⟩=>by
  simp only[wpE,wpA] at h;refine thE hP s R (.refl _ _) h fun x g1 ρ1 H1 v1 e1 R1 r1 h=>?_;obtain⟨d',g',⟨i,c,fs,ex,hi,hf,rfl⟩,q⟩:=h;cases ex;obtain⟨a',rfl,ra⟩:=r1.i0;obtain⟨C,dx,vs,hH,_,hC,rk,na⟩:=R1.ins hi ra;have lk:=rk.look f;rw[hf] at lk;obtain⟨v,hv,rv⟩:=lk.some;exact⟨a',C,dx,vs,v,rfl,hH,hC,na _ (PySem.mem_of_lookup hf),hv,q ρ1 H1 v e1 R1 rv⟩
theorem bk9{i j:Nat}{x y:Str}{q1 q2 p1 p2 p3 p4 px py pos2:Pos}(hc:X.calm=true)(hi:X.N[i]?=some x)(hj:X.N[j]?=some y)(vx:Vis X.env.scope x)(vy:Vis X.env.scope y)(dx:(x==("__debug__":Str))=false)(cx:(x==("__classdict__":Str))=false)(dy:(y==("__debug__":Str))=false)(cy:(y==("__classdict__":Str))=false)(hgl:Gl X "sorted")(hml:X.mg "sorted"=none)(hg:Gl X "set")(hm:X.mg "set"=none) :
  PE X (.Call (.Name "sorted" p2) [.BinOp (.Call (.Name "set" q1) [.Name x px] [] p1) .BitOr (.Call (.Name "set" q2) [.Name y py] [] p3) p4] [] pos2) (LE X.K Ξ (wpE P (.prim .sun (.cons (.var i) (.cons (.var j) .nil))))) :=
 (at5 (ai0 hc) hgl hml (by first|exact PyProof.Rows.boot_sorted|decide +kernel) (J8 (a51 aO2 (F5 (Y4 hc) hg hm (by first|exact PyProof.Rows.boot_set|decide +kernel) (J8 (at4 hi vx dx cx) P7)) (F5 (Y4 hc) hg hm (by first|exact PyProof.Rows.boot_set|decide +kernel) (J8 (at4 hj vy dy cy) P7))) P7)).imp fun σv H Q ⟨σ,g,ρ,s,R,h⟩=>by
  simp only[wpE,wpA] at h;obtain⟨d1,e1,d2,e2,d',g',⟨ns,ms,ex,hns,hms,hl,rfl,rfl⟩,q⟩:=h;cases ex;obtain⟨v1,s1,r1⟩:=s.val _ _ e1;obtain⟨v2,s2,r2⟩:=s.val _ _ e2;obtain⟨a1,vs1,rfl,t1,rs1⟩:=r1.u3;obtain rfl:=rs1.ints;refine⟨.ref a1,s1,a1,ns,rfl,t1.sq,by omega,fun p1 hp1=>?_⟩;obtain⟨a2,vs2,rfl2,t2,rs2⟩:=(r2.ext (o7 (o:=V6 X p1 (ST.d9 [] ns)) hp1)).u3;obtain rfl:=rs2.ints;refine⟨.ref a2,by rw[<- rfl2];exact s2,a2,ms,rfl,t2.sq,by omega,fun p2 hp2=>?_⟩;have hne:p1≠p2:=j6 (j5 (H:=H) (o:=V6 X p1 (ST.d9 [] ns))) hp2;refine⟨p1,p2,ns,ms,rfl,rfl,hne,by rw[e8 hne];exact j5,j5,hns,hms,hl,fun p3 hp3=>⟨p3,ns++ms,rfl,j5,by rw[List.length_append];omega,fun p hp=>?_⟩⟩;exact(q.ext (((o7 hp1).trans (o7 hp2)).trans (o7 hp3))).new (((R.grow hp1).grow hp2).grow hp3) hp (a8.ofInts _)
end
section
variable{X:Cx}{Ξ:XKE}{P:Sig}{a b c:Expr}{ma mb mc:ME}{pos:Pos}
theorem bk7{i:Nat}{x:Str}(hN:X.N[i]?=some x)(hv:Vis X.env.scope x)(hd:(x==("__debug__":Str))=false)(hcd:(x==("__classdict__":Str))=false):PE X (.Name x pos) (LE X.K Ξ (wpE P (.var i))) :=
 (at4 hN hv hd hcd).imp fun σv H Q ⟨σ,g,ρ,s,R,h⟩=>by
  simp only[wpE] at h;obtain⟨d,e,h⟩:=h;obtain⟨v,h1,h2⟩:=s.val _ _ e;exact⟨v,h1,h.now R h2⟩
theorem K8{e:Expr}{d:D}{v:V}(h:PE X e (tC v))(r:∀ρ H,b7 X.K ρ H d v):PE X e (LE X.K Ξ (wpE P (.lit d))) :=
 h.imp fun σv H Q ⟨σ,g,ρ,s,R,h⟩=>by
  simp only[wpE] at h;exact LQ.now h R (r ρ H)
theorem ba0:PE X (.Dict [] [] pos) (LE X.K Ξ (wpE P (.prim .dnew .nil))) :=
 (aX3 (X:=X)).imp fun σv H Q ⟨σ,g,ρ,s,R,h⟩ p hp=>by
  simp only[wpE,wpA] at h;obtain⟨d',g',⟨_,rfl,rfl⟩,q⟩:=h;exact q (ρ++[p]) _ _ (E0 hp) (R.new hp (o:=.dic []) (u:=.dK []) d4.nil) (.ref (R.r6 p))
end
end M

namespace L2
open PySem PySem.Spec PyProof.Rows
section
variable{X:Cx}{m:Str}{pos apos:Pos}{e o:Expr}{es:List Expr}{ta:TE}{t:TA}
noncomputable def bi4(X:Cx)(m:Str)(E:XK)(ta:TE)(t:TA):TE:=fun σ H Q=>ta σ H fun x H1=>∃a C dx fs f fd ps k sp,x=.ref a/\H1 a=some (.ins C dx fs)/\fs.lookup m=none/\Cls X.K C/\Meth X.K C m f /\
 FnOk X.prog X.w X.K X.mg X.base (CXE X.prog X.w) k f fd ps sp/\j7 k X.A/\Binds X.K fd ps []/\t σ H1 fun vs H2=>sp (x::(vs++[])) H2 Q E
theorem aW9{pl:Sem Bool}{E:XK}(he:PE X o ta)(hx:Passes (CXE X.prog X.w) X E)(ha:PA X (e::es) t)(hst:starEach (e::es) X.env=(false,eval e X.env)::starEach es X.env)(hpl:(backTo pos (starEach es X.env)).any (·.1)=false)(ht:eval (.Call (.Attribute o m apos) (e :: es) [] pos) X.env=(do
   let ov <- eval o X.env
   standAt apos.atName
   let (f,first) <- holding [ov] (getMethod ov m pl)
   callWith pos f first (backTo pos (starEach (e :: es) X.env)) (backToKw pos (keywordEach [] X.env)))) :
  PE X (.Call (.Attribute o m apos) (e::es) [] pos) (bi4 X m E ta t):=by
 intro pins s σ H Q I h;refine PySem.W.methodCall_KW (pl:=pl) (thn (he pins s σ H _ I h) fun u s1 ⟨x,H1,I1,rx,a,C,dx,fs,f,fd,ps,k,sp,ex,ea,l,c,hm,F,hr,hb,q⟩=>?_) ht;subst ex;obtain rfl:u=Value.ref a:=rx;refine ag8 I1 ea c hm l ?_;refine PySem.W.callWith_K (first:=[.ref a]) (h₀:=X.base) I.ok.mod.kin hm.kp (thn (ha pos pins s1 σ H1 _ I1 q) fun us s2 ⟨vs,H2,I2,r,q2⟩=>⟨I2.kIn,?_⟩) hst hpl;exact as9 (us:=.ref a::us) (vs:=.ref a::vs) F hr hb .nil hx I2 (.cons rfl r) q2
noncomputable def a84(X:Cx)(m:Str)(E:XK)(ta:TE):TE:=fun σ H Q=>ta σ H fun x H1=>∃a C dx fs f fd ps k sp,x=.ref a/\H1 a=some (.ins C dx fs)/\fs.lookup m=none/\Cls X.K C/\Meth X.K C m f /\
 FnOk X.prog X.w X.K X.mg X.base (CXE X.prog X.w) k f fd ps sp/\j7 k X.A/\Binds X.K fd ps []/\sp [x] H1 Q E
theorem aN9{pl:Sem Bool}{E:XK}(he:PE X o ta)(hx:Passes (CXE X.prog X.w) X E)(ht:eval (.Call (.Attribute o m apos) [] [] pos) X.env=(do
   let ov <- eval o X.env
   standAt apos.atName
   let (f,first) <- holding [ov] (getMethod ov m pl)
   callWith pos f first (backTo pos (starEach [] X.env)) (backToKw pos (keywordEach [] X.env)))) :
  PE X (.Call (.Attribute o m apos) [] [] pos) (a84 X m E ta):=by
 intro pins s σ H Q I h;refine PySem.W.methodCall_KW (pl:=pl) (thn (he pins s σ H _ I h) fun u s1 ⟨x,H1,I1,rx,a,C,dx,fs,f,fd,ps,k,sp,ex,ea,l,c,hm,F,hr,hb,q⟩=>?_) ht;subst ex;obtain rfl:u=Value.ref a:=rx;refine ag8 I1 ea c hm l ?_;exact PySem.W.callWith_K0 (first:=[.ref a]) I1.kIn hm.kp (as9 (us:=[.ref a]) (vs:=[.ref a]) (dvs:=[]) F hr hb .nil hx I1 (.cons rfl .nil) q)
end
end L2
namespace M
open PySem L2 PySem.Spec PyProof.Rows
inductive Y6(K:PySem.W.Frag):List D->List (Str×V)->Prop
 |nil:Y6 K [] []
 |cons {x:Str} {d:D} {v:V} {ds:List D} {vs:List (Str×V)} (h:∀ρ H,b7 K ρ H d v) (r:Y6 K ds vs):Y6 K (.tup [.str x,d]::ds) ((x,v)::vs)
theorem Y6.look{K:PySem.W.Frag}{ρ:List Addr}{H:Hp}{ds vs}(x:Str)(h:Y6 K ds vs):U7 K ρ H (T2 ds x) (vs.lookup x):=by
 induction h with
 |nil=>trivial
 |cons h r ih =>
  rename_i y d v ds vs;unfold T2;rw[List.lookup_cons];by_cases e:x=y
  ·rw[if_pos e,show(x==y)=true from by simp[e]];exact h ρ H
  ·rw[if_neg e,show(x==y)=false from by simpa using e];exact ih
noncomputable def aq7(X:Cx)(x:Str)(kvs:List D):Prop:=∃A vs,X.mg x=some (.ref A)/\ai7 X.K X.w.params A vs/\Y6 X.K kvs vs
noncomputable def aq2(neg:Bool):Pr:=if neg then .gnin else .gin
theorem aC6{neg:Bool}:PR (aq2 neg)=a02 neg:=by cases neg<;>rfl
theorem aL4(a b c:Str):a++b++c=a++(b++c):=by
 cases a;cases b;cases c;show Str.mk _=Str.mk _;exact congrArg Str.mk (Array.append_assoc ..)
theorem az8(x:Str):x++Str.empty=x:=by cases x;show Str.mk _=_;simp[Str.empty]
theorem bd1(x:Str):Str.empty++x=x:=by cases x;show Str.mk _=_;simp[Str.empty]
section
variable{X:Cx}{Ξ:XKE}{P:Sig}(hP:e9 P){a b c:Expr}{ma mb mc:ME}{pos:Pos}
include hP
theorem bl2{x:Str}{p:Pos}{kvs:List D}{neg:Bool}(hg:Gl X x)(hd:(x==("__debug__":Str))=false)(hG:aq7 X x kvs)(ha:PE X a (LE X.K Ξ (wpE P ma)))(hm:behindInMarks (if neg then .NotIn else .In) (.Name x p)=false) :
  PE X (.Compare a [if neg then .NotIn else .In] [.Name x p] pos) (LE X.K Ξ (wpE P (.prim (aq2 neg) (.cons (.lit (.tup kvs)) (.cons ma .nil))))):=by
 obtain⟨A,vs,hmg,hk,gr⟩:=hG;refine(aB6 (aO3 (kvs:=vs) neg) ha (Z4 (v:=.ref A) hg hmg rfl hd) hm).imp fun σv H Q ⟨σ,g,ρ,s,R,h⟩=>?_;simp only[wpE,wpA] at h;refine thE hP s R (.refl _ _) h fun d g1 ρ1 H1 v1 e1 R1 r1 h=>?_;obtain⟨d',g',h,q⟩:=h;rw[aC6] at h;obtain⟨kvs',z,ex,rfl,rfl⟩:=h;cases ex;obtain rfl:=r1.o8;refine⟨A,z,rfl,hk,rfl,?_⟩;rw[<- (gr.look (ρ:=ρ1) (H:=H1) z).isSome];exact q ρ1 H1 _ e1 R1 (.bl _)
theorem bj6{x:Str}{p:Pos}{kvs:List D}{neg:Bool}(hg:Gl X x)(hd:(x==("__debug__":Str))=false)(hG:aq7 X x kvs)(ha:PE X a (LE X.K Ξ (wpE P ma)))(hm:behindInMarks (if neg then .NotIn else .In) (.Name x p)=false) :
  PT X (.Compare a [if neg then .NotIn else .In] [.Name x p] pos) (LT X.K Ξ (wpT P (.tst (.prim (aq2 neg) (.cons (.lit (.tup kvs)) (.cons ma .nil)))))):=by
 obtain⟨A,vs,hmg,hk,gr⟩:=hG;refine(aB2 (aO3 (kvs:=vs) neg) ha (Z4 (v:=.ref A) hg hmg rfl hd) hm).imp fun σv H Q ⟨σ,g,ρ,s,R,h⟩=>?_;simp only[wpT,wpE,wpA] at h;refine thE hP s R (.refl _ _) h fun d g1 ρ1 H1 v1 e1 R1 r1 h=>?_;obtain⟨d',g',h,t,ht,q⟩:=h;rw[aC6] at h;obtain⟨kvs',z,ex,rfl,rfl⟩:=h;cases ex;obtain rfl:=r1.o8;refine⟨A,z,rfl,hk,rfl,t,?_,q ρ1 H1 e1 R1⟩;rw[<- (gr.look (ρ:=ρ1) (H:=H1) z).isSome];rcases ht with⟨z,_⟩|z|⟨i,z,_⟩|⟨l,z,_⟩|⟨a,l,z,_⟩<;>cases z
 rfl
theorem a98{x:Str}{p:Pos}{kvs:List D}(hg:Gl X x)(hd:(x==("__debug__":Str))=false)(hG:aq7 X x kvs)(ha:PE X a (LE X.K Ξ (wpE P ma)))(hs:al4 a):PE X (.Subscript (.Name x p) a pos) (LE X.K Ξ (wpE P (.prim .gget (.cons (.lit (.tup kvs)) (.cons ma .nil))))):=by
 obtain⟨A,vs,hmg,hk,gr⟩:=hG;refine(a52 (bz4 (kvs:=vs)) (Z4 (v:=.ref A) hg hmg rfl hd) ha hs).imp fun σv H Q ⟨σ,g,ρ,s,R,h⟩=>?_;simp only[wpE,wpA] at h;refine thE hP s R (.refl _ _) h fun d g1 ρ1 H1 v1 e1 R1 r1 h=>?_;obtain⟨d',g',⟨kvs',z,ex,hz,rfl⟩,q⟩:=h;cases ex;obtain rfl:=r1.o8;have lk:=gr.look (ρ:=ρ1) (H:=H1) z;rw[hz] at lk;obtain⟨w,hw,lk⟩:=lk.some;exact⟨A,z,w,rfl,hk,rfl,hw,q ρ1 H1 _ e1 R1 lk⟩
theorem bw2(ha:PE X a (LE X.K Ξ (wpE P ma))):PE X (.FormattedValue a (-1) none pos) (LE X.K Ξ (wpE P (.prim .fv (.cons ma .nil)))) :=
 (bx3 ha).imp fun σv H Q ⟨σ,g,ρ,s,R,h⟩=>by
  simp only[wpE,wpA] at h;refine thE hP s R (.refl _ _) h fun d g1 ρ1 H1 v1 e1 R1 r1 h=>?_;obtain⟨d',g',⟨rfl,h⟩,q⟩:=h;rcases h with⟨i,ex,h1,rfl⟩|⟨z,ex,h1,rfl⟩
  ·cases ex;exact .inl ⟨i,r1.g7,h1,q ρ1 H1 _ e1 R1 (.str _)⟩
  ·cases ex;exact .inr ⟨z,r1.o8,f7 (by omega),q ρ1 H1 _ e1 R1 (.str _)⟩
omit hP in
inductive FOk(X:Cx)(Ξ:XKE)(P:Sig):List Expr->ME->List TE->Prop
 |nil:FOk X Ξ P [] .nil []
 |lit {x:Str} {j:Nat} {p:Pos} {es:List Expr} {ms:ME} {ts:List TE} (hx:x.length<=2000) (r:FOk X Ξ P es ms ts):FOk X Ξ P (.Constant (.str x) j p::es) (.cons (.lit (.str x)) ms) (LE X.K Ξ (wpE P (.lit (.str x)))::ts)
 |val {e:Expr} {m:ME} {p:Pos} {es:List Expr} {ms:ME} {ts:List TE} (he:PE X e (LE X.K Ξ (wpE P m))) (r:FOk X Ξ P es ms ts):FOk X Ξ P (.FormattedValue e (-1) none p::es) (.cons (.prim .fv (.cons m .nil)) ms) (LE X.K Ξ (wpE P (.prim .fv (.cons m .nil)))::ts)
theorem FOk.pjs{es ms ts}(h:FOk X Ξ P es ms ts):PJs X es ts:=by
 induction h with
 |nil=>exact .nil
 |lit hx r ih=>exact .cons (K8 aN6 fun _ _=>.str _) ih
 |val he r ih=>exact .cons (bw2 hP he) ih
theorem FOk.join{σv:L2.St}{Q:Str->Hp->Prop}{es ms ts}(hf:FOk X Ξ P es ms ts):∀{σ:S} {g:G} {ρ:List Addr} {H:Hp} {acc:Str},acc.length+2000*es.length<=100000->i3 X.K ρ H σ σv->Rl X.K ρ g H ->
  wpA P ms σ g (fun ds g1=>∃x,N6 ds=some x/\∀ρ' H',Ext ρ H ρ' H'->Rl X.K ρ' g1 H'->Q (acc++x) H') (LX X.K ρ H Ξ)->ap3 ts σv H acc (fun out H1=>out.length<=sizeLine/\Q out H1):=by
 have tl:∀{acc y:Str} {ρ:List Addr} {H:Hp} {ρ1:List Addr} {H1:Hp} {ds:List D} {g1:G},Ext ρ H ρ1 H1->(∃x,N6 (.str y::ds)=some x/\∀ρ' H',Ext ρ H ρ' H'->Rl X.K ρ' g1 H'->Q (acc++x) H')->∃x,N6 ds=some x/\∀ρ' H',Ext ρ1 H1 ρ' H'->Rl X.K ρ' g1 H'->Q (acc++y++x) H':=by
  intro acc y ρ H ρ1 H1 ds g1 e1 h;obtain⟨x,hx,h⟩:=h;simp only[N6] at hx;cases hj:N6 ds with
  |none=>rw[hj] at hx;cases hx
  |some x' =>
   rw[hj] at hx;cases hx;refine⟨x',rfl,fun ρ' H' e' R'=>?_⟩;rw[aL4];exact h ρ' H' (e1.trans e') R'
 induction hf with
 |nil =>
  intro σ g ρ H acc ha s R h;simp only[wpA] at h;obtain⟨x,hx,h⟩:=h;cases hx;rw[az8] at h;exact⟨f7 (by simpa using ha),h ρ H (.refl _ _) R⟩
 |lit hx r ih =>
  rename_i y j p es ms ts;intro σ g ρ H acc ha s R h;simp only[wpA,wpE] at h;refine⟨σ,g,ρ,s,R,?_⟩;simp only[wpE];intro ρ1 H1 v1 e1 R1 r1;obtain rfl:=r1.o8;have hl:(acc++y).length<=acc.length+2000:=by rw[strLen_append];omega
  simp only[List.length_cons] at ha;exact⟨y,rfl,f7 (by omega),ih (by omega) (s.ext e1) R1 (l9 hP _ _ _ _ _ _ _ (fun ds g1 h=>tl e1 h) (fun _ _ z=>LX.ext e1 z) h)⟩
 |val he r ih =>
  rename_i e m p es ms ts;intro σ g ρ H acc ha s R h;simp only[wpA,wpE] at h;refine⟨σ,g,ρ,s,R,?_⟩;simp only[wpE,wpA];simp only[List.length_cons] at ha;refine b0 hP m _ _ _ _ _ _ (fun d g1 h=>?_) (fun _ _ z=>z) h;obtain⟨d',g',⟨rfl,h⟩,q⟩:=h;have hy:∃y,d'=.str y/\y.length<=2000:=by
   rcases h with⟨i,ex,h1,rfl⟩|⟨z,ex,h1,rfl⟩
   ·exact⟨_,rfl,by rw[PySem.ofString_length];have:=int_text_length_le (k:=1920) (by decide) h1;omega⟩
   ·exact⟨z,rfl,h1⟩
  obtain⟨y,rfl,hy⟩:=hy;refine⟨_,_,⟨rfl,h⟩,fun ρ1 H1 v1 e1 R1 r1=>?_⟩;obtain rfl:=r1.o8;have hl:(acc++y).length<=acc.length+2000:=by rw[strLen_append];omega
  exact⟨y,rfl,f7 (by omega),ih (by omega) (s.ext e1) R1 (l9 hP _ _ _ _ _ _ _ (fun ds g1 h=>tl e1 h) (fun _ _ z=>LX.ext e1 z) q)⟩
theorem a99{v₁ v₂:Expr}{rest:List Expr}{ms:ME}{ts:List TE}(h:FOk X Ξ P (v₁::v₂::rest) ms ts)(hl:(v₁::v₂::rest).length<=40):PE X (.JoinedStr (v₁::v₂::rest) pos) (LE X.K Ξ (wpE P (.prim .fstr ms))) :=
 (bb7 (h.pjs hP)).imp fun σv H Q ⟨σ,g,ρ,s,R,hw⟩=>by
  simp only[wpE] at hw;refine FOk.join hP h (Q:=fun out H1=>Q (.str out) H1) (acc:=Str.empty) ?_ s R (l9 hP ms _ _ _ _ _ _ (fun ds g1 hw=>?_) (fun _ _ z=>z) hw)
  ·have:Str.empty.length=0:=rfl;omega
  ·obtain⟨d',g',⟨x,hx,rfl,rfl⟩,q⟩:=hw;refine⟨x,hx,fun ρ' H' e' R'=>?_⟩;rw[bd1];exact q ρ' H' _ e' R' (.str _)
omit hP in
noncomputable def spD(ex:List Str)(K:PySem.W.Frag)(n:Nat)(t:List D->G->KD->KX->Prop):Sp:=fun vs H Q E=>vs.length=n/\∃ds g ρ,a8 K ρ H ds vs/\Rl K ρ g H/\t ds g (LQ K ρ H Q) (LX K ρ H (ex,E))
omit hP in
noncomputable def FnR(X:Cx)(P:Sig)(ex:List Str)(k f:Nat)(fa:Addr)(fd:FuncData)(ps:List Str):Prop :=
 FnOk X.prog X.w X.K X.mg X.base (CXE X.prog X.w) k fa fd ps (spD ex X.K ps.length (P f))/\Binds X.K fd ps []/\∀ds g Q E,P f ds g Q E->ds.length=ps.length
theorem ap4{k f:Nat}{fa:Addr}{fd:FuncData}{ps:List Str}(F:FnR X P Ξ.1 k f fa fd ps){ρ ρ0:List Addr}{H H0:Hp}{g:G}{xs:List D}{vs:List V}{Q0:KD}{Q:VK}(e0:Ext ρ0 H0 ρ H)(R:Rl X.K ρ g H)(r:a8 X.K ρ H xs vs)(h:P f xs g Q0 (LX X.K ρ0 H0 Ξ))(k:∀d g',Q0 d g'->LQ X.K ρ H Q d g'):spD Ξ.1 X.K ps.length (P f) (vs++[]) H Q Ξ.2:=by
 rw[List.append_nil];exact⟨by rw[<- r.length];exact F.2.2 _ _ _ _ h,xs,g,ρ,r,R,hP _ _ _ _ _ _ _ k (fun _ _ z=>LX.ext e0 z) h⟩
theorem ba1{k f:Nat}{x:Str}{fa:Addr}{fd:FuncData}{ps:List Str}{es:List Expr}{e:Expr}{mes:ME}{p:Pos}(hx:Passes (CXE X.prog X.w) X Ξ.2)(F:FnR X P Ξ.1 k f fa fd ps)(hr:j7 k X.A)(hg:Gl X x)(hm:X.mg x=some (.ref fa))(hk:PySem.W.keepIn X.K (.ref fa)=true)(ha:PA X (e::es) (LA X.K Ξ (wpA P mes)))(hd:(x==("__debug__":Str))=false)(hst:starEach (e::es) X.env=(false,eval e X.env)::starEach es X.env)(hpl:(backTo pos (starEach es X.env)).any (·.1)=false):PE X (.Call (.Name x p) (e::es) [] pos) (LE X.K Ξ (wpE P (.call f mes))) :=
 (bb9 F.1 hr hg hm hk F.2.1 .nil hx ha hd hst hpl).imp fun σv H Q ⟨σ,g,ρ,s,R,h⟩=>by
  simp only[wpE] at h;exact thA hP s R (.refl _ _) h fun xs g1 ρ1 H1 vs e1 R1 r1 h=>ap4 hP F e1 R1 r1 h fun d g' h=>h.ext e1
theorem aB9{c:Str}{f k:Nat}{C fa:Addr}{fd:FuncData}{ps:List Str}(F:FnR X P Ξ.1 k f fa fd ps)(hC:j3 X.K c C)(hc:Cls X.K C){ρ ρ0:List Addr}{H H0:Hp}{g1:G}{xs:List D}{vs:List V}{Q:VK}(e0:Ext ρ0 H0 ρ H)(R:Rl X.K ρ g1 H)(r:a8 X.K ρ H xs vs)(h:P f (.ref g1.length::xs) (g1++[.ins c []]) (fun d g2=>d=.non/\LQ X.K ρ0 H0 Q (.ref g1.length) g2) (LX X.K ρ0 H0 Ξ)):∀x dx,H x=none->H dx=none->dx≠x->spD Ξ.1 X.K ps.length (P f) (.ref x::(vs++[])) (upd (upd H dx (.own x)) x (.ins C dx [])) (fun v H2=>v=.non/\Q (.ref x) H2) Ξ.2:=by
 intro x dx hx hdx hne;have hx2:upd H dx (.own x) x=none:=by rw[e8 (Ne.symm hne)];exact hx
 have R2:=R.grow (o:=.own x) hdx;have e2:Ext ρ H ρ (upd H dx (.own x)):=o7 hdx;have R3:=R2.new (o:=.ins c []) (u:=.ins C dx []) hx2 ⟨hC,hc,.nil,fun x hx=>absurd hx (by simp)⟩;have e3:Ext ρ (upd H dx (.own x)) (ρ++[x]) (upd (upd H dx (.own x)) x (.ins C dx [])):=E0 hx2;have:=ap4 hP F (e0.trans (e2.trans e3)) R3 (.cons (.ref (R.r6 x)) (r.ext (e2.trans e3))) h (Q:=fun v H2=>v=.non/\Q (.ref x) H2) fun d g' q ρ' H' v e' R' r'=>by
  obtain⟨rfl,q⟩:=q;exact⟨r'.af7,q ρ' H' _ (e0.trans (e2.trans (e3.trans e'))) R' (.ref (e'.get (R.r6 x)))⟩
 exact this
theorem a97{k f:Nat}{x:Str}{C fa:Addr}{fd:FuncData}{ps:List Str}{es:List Expr}{e:Expr}{mes:ME}{p:Pos}(hx:Passes (CXE X.prog X.w) X Ξ.2)(F:FnR X P Ξ.1 k f fa fd ps)(M:Mk X.K C fa)(hC:j3 X.K x C)(hc:Cls X.K C)(hr:j7 (k+1) X.A)(hg:Gl X x)(hm:X.mg x=some (.ref C))(ha:PA X (e::es) (LA X.K Ξ (wpA P mes)))(hd:(x==("__debug__":Str))=false)(hst:starEach (e::es) X.env=(false,eval e X.env)::starEach es X.env)(hpl:(backTo pos (starEach es X.env)).any (·.1)=false):PE X (.Call (.Name x p) (e::es) [] pos) (LE X.K Ξ (wpE P (.make x f mes))) :=
 (bb6 M F.1 hr hg hm F.2.1 .nil hx ha hd hst hpl).imp fun σv H Q ⟨σ,g,ρ,s,R,h⟩=>by
  simp only[wpE] at h;exact thA hP s R (.refl _ _) h fun xs g1 ρ1 H1 vs e1 R1 r1 h=>aB9 hP F hC hc e1 R1 r1 h
theorem aV2{k f:Nat}{x:Str}{C fa:Addr}{fd:FuncData}{ps:List Str}{p:Pos}(hx:Passes (CXE X.prog X.w) X Ξ.2)(F:FnR X P Ξ.1 k f fa fd ps)(M:Mk X.K C fa)(hC:j3 X.K x C)(hc:Cls X.K C)(hr:j7 (k+1) X.A)(hg:Gl X x)(hm:X.mg x=some (.ref C))(hd:(x==("__debug__":Str))=false):PE X (.Call (.Name x p) [] [] pos) (LE X.K Ξ (wpE P (.make x f .nil))) :=
 (aX0 M F.1 hr hg hm F.2.1 .nil hx hd).imp fun σv H Q ⟨σ,g,ρ,s,R,h⟩=>by
  simp only[wpE,wpA] at h;exact aB9 hP F hC hc (.refl _ _) R .nil h
omit hP in
noncomputable def al6(X:Cx)(P:Sig)(ex:List Str)(m:Str)(cs:List (Str×Nat)):Prop:=∀c f C,cs.lookup c=some f->j3 X.K c C->∃k fa fd ps,Meth X.K C m fa/\FnR X P ex k f fa fd ps/\j7 k X.A
theorem aV0{m:Str}{cs:List (Str×Nat)}{o e:Expr}{es:List Expr}{mo mes:ME}{apos:Pos}{pl:Sem Bool}(hx:Passes (CXE X.prog X.w) X Ξ.2)(hM:al6 X P Ξ.1 m cs)(ho:PE X o (LE X.K Ξ (wpE P mo)))(ha:PA X (e::es) (LA X.K Ξ (wpA P mes)))(hst:starEach (e::es) X.env=(false,eval e X.env)::starEach es X.env)(hpl:(backTo pos (starEach es X.env)).any (·.1)=false)(ht:eval (.Call (.Attribute o m apos) (e :: es) [] pos) X.env=(do
   let ov <- eval o X.env
   standAt apos.atName
   let (f,first) <- holding [ov] (getMethod ov m pl)
   callWith pos f first (backTo pos (starEach (e :: es) X.env)) (backToKw pos (keywordEach [] X.env)))):PE X (.Call (.Attribute o m apos) (e :: es) [] pos) (LE X.K Ξ (wpE P (.methc m cs mo mes))) :=
 (aW9 ho hx ha hst hpl ht).imp fun σv H Q ⟨σ,g,ρ,s,R,h⟩=>by
  simp only[wpE] at h;refine thE hP s R (.refl _ _) h fun x g1 ρ1 H1 v1 e1 R1 r1 h=>?_;obtain⟨i,c,fs,f,rfl,hi,hf,hcs,h⟩:=h;obtain⟨a',rfl,ra⟩:=r1.i0;obtain⟨C,dx,vs,hH,hC,hcl,rk,na⟩:=R1.ins hi ra;obtain⟨k,fa,fd,ps,M,F,hr⟩:=hM c f C hcs hC;have lk:=rk.look m;rw[hf] at lk;have hl:vs.lookup m=none:=by cases e:vs.lookup m with|none=>rfl|some w=>rw[e] at lk;exact lk.elim
  refine⟨a',C,dx,vs,fa,fd,ps,k,_,rfl,hH,hl,hcl,M,F.1,hr,F.2.1,?_⟩;exact thA hP (s.ext e1) R1 e1 h fun xs g2 ρ2 H2 ws e2 R2 r2 h=>ap4 hP F (e1.trans e2) R2 (.cons (.ref (e2.get ra)) r2) h fun d g' h=>h.ext (e1.trans e2)
theorem aL9{m:Str}{cs:List (Str×Nat)}{o:Expr}{mo:ME}{apos:Pos}{pl:Sem Bool}(hx:Passes (CXE X.prog X.w) X Ξ.2)(hM:al6 X P Ξ.1 m cs)(ho:PE X o (LE X.K Ξ (wpE P mo)))(ht:eval (.Call (.Attribute o m apos) [] [] pos) X.env=(do
   let ov <- eval o X.env
   standAt apos.atName
   let (f,first) <- holding [ov] (getMethod ov m pl)
   callWith pos f first (backTo pos (starEach [] X.env)) (backToKw pos (keywordEach [] X.env)))):PE X (.Call (.Attribute o m apos) [] [] pos) (LE X.K Ξ (wpE P (.methc m cs mo .nil))) :=
 (aN9 ho hx ht).imp fun σv H Q ⟨σ,g,ρ,s,R,h⟩=>by
  simp only[wpE,wpA] at h;refine thE hP s R (.refl _ _) h fun x g1 ρ1 H1 v1 e1 R1 r1 h=>?_;obtain⟨i,c,fs,f,rfl,hi,hf,hcs,h⟩:=h;obtain⟨a',rfl,ra⟩:=r1.i0;obtain⟨C,dx,vs,hH,hC,hcl,rk,na⟩:=R1.ins hi ra;obtain⟨k,fa,fd,ps,M,F,hr⟩:=hM c f C hcs hC;have lk:=rk.look m;rw[hf] at lk;have hl:vs.lookup m=none:=by cases e:vs.lookup m with|none=>rfl|some w=>rw[e] at lk;exact lk.elim
  exact⟨a',C,dx,vs,fa,fd,ps,k,_,rfl,hH,hl,hcl,M,F.1,hr,F.2.1,ap4 hP F e1 R1 (.cons (.ref ra) .nil) h fun d g' h=>h.ext e1⟩
end
end M

namespace M
open PySem L2 PySem.Spec PyProof.Rows
inductive PRels(K:PySem.W.Frag)(ρ:List Addr)(H:Hp):List D->List (V×V)->Prop
 |nil:PRels K ρ H [] []
 |cons {k d:D} {x y:V} {ds:List D} {ps:List (V×V)} (h1:b7 K ρ H k x) (h2:b7 K ρ H d y) (r:PRels K ρ H ds ps):PRels K ρ H (k::d::ds) ((x,y)::ps)
theorem bs4{K ρ H}{xs:List D}{ps:List (V×V)}(r:PRels K ρ H xs ps):∀{acc kvs:List (Key×D)} {accV:List (Key×V)},ak6 xs acc=some kvs->d4 K ρ H acc accV->∃more:List (Key×V),ps=more.map (fun kv=>(kV kv.1,kv.2))/\2*more.length=xs.length/\d4 K ρ H kvs (L6 accV more):=by
 induction r with
 |nil =>
  intro acc kvs accV h ra;cases h;exact⟨[],rfl,rfl,ra⟩
 |cons h1 h2 r ih =>
  rename_i k d x y ds ps;intro acc kvs accV h ra;simp only[ak6] at h;cases hk:T4 k with
  |none=>rw[hk] at h;cases h
  |some c =>
   rw[hk] at h;obtain⟨more,e1,e2,r2⟩:=ih (show ak6 ds (putD acc c d)=some kvs from h) (ra.put h2);have ex:=Z7 hk h1;subst ex;refine⟨(c,y)::more,by rw[List.map_cons,<- e1],by simp only[List.length_cons];omega,r2⟩
section
variable{X:Cx}{Ξ:XKE}{P:Sig}(hP:e9 P){pos:Pos}
inductive DOk(X:Cx)(Ξ:XKE)(P:Sig):List (Option Expr)->List Expr->ME->List (TE×TE)->Prop
 |nil:DOk X Ξ P [] [] .nil []
 |cons {k v:Expr} {ks:List (Option Expr)} {vs:List Expr} {mk mv ms:ME} {trs:List (TE×TE)} (hk:PE X k (LE X.K Ξ (wpE P mk))) (hv:PE X v (LE X.K Ξ (wpE P mv))) (r:DOk X Ξ P ks vs ms trs) :
   DOk X Ξ P (some k::ks) (v::vs) (.cons mk (.cons mv ms)) ((LE X.K Ξ (wpE P mk),LE X.K Ξ (wpE P mv))::trs)
theorem DOk.pps{ks vs ms trs}(h:DOk X Ξ P ks vs ms trs):PPs X pos ks vs trs:=by
 induction h with
 |nil=>exact bb3
 |cons hk hv r ih=>exact aW5 hk hv ih
theorem DOk.len{ks vs ms trs}(h:DOk X Ξ P ks vs ms trs):ks.all (·.isSome)=true/\ks.length=vs.length:=by
 induction h with
 |nil=>exact⟨rfl,rfl⟩
 |cons hk hv r ih=>exact⟨by simpa using ih.1,by simp[ih.2]⟩
include hP
theorem DOk.pairs{ks vs ms trs}(hd:DOk X Ξ P ks vs ms trs):∀{σv:L2.St} {σ:S} {g:G} {ρ ρ0:List Addr} {H H0:Hp} {Qd:List D->G->Prop} {Q:List (V×V)->Hp->Prop},i3 X.K ρ H σ σv->Rl X.K ρ g H->Ext ρ0 H0 ρ H->wpA P ms σ g Qd (LX X.K ρ0 H0 Ξ) ->
  (∀ds g' ρ' H' ps,Ext ρ H ρ' H'->Rl X.K ρ' g' H'->PRels X.K ρ' H' ds ps->Qd ds g'->Q ps H')->ae9 trs σv H Q:=by
 induction hd with
 |nil =>
  intro σv σ g ρ ρ0 H H0 Qd Q s R e0 h k;simp only[wpA] at h;exact k [] g ρ H [] (.refl _ _) R .nil h
 |cons hk hv r ih =>
  intro σv σ g ρ ρ0 H H0 Qd Q s R e0 h k;simp only[wpA] at h;refine thE hP s R e0 h fun x g1 ρ1 H1 v1 e1 R1 r1 h=>thE hP (s.ext e1) R1 (e0.trans e1) h fun y g2 ρ2 H2 v2 e2 R2 r2 h=>?_;refine ih (s.ext (e1.trans e2)) R2 (e0.trans (e1.trans e2)) h fun ds g' ρ' H' ps e' R' rp hq=>?_;exact k _ g' ρ' H' _ (e1.trans (e2.trans e')) R' (.cons (r1.ext (e2.trans e')) (r2.ext e') rp) hq
theorem bl4{ks:List (Option Expr)}{vs:List Expr}{ms:ME}{trs:List (TE×TE)}(hd:DOk X Ξ P ks vs ms trs)(h0:ks≠[])(h15:ks.length<=15):PE X (.Dict ks vs pos) (LE X.K Ξ (wpE P (.dct ms))) :=
 (bb8 hd.pps hd.len.1 hd.len.2 h0 h15).imp fun σv H Q ⟨σ,g,ρ,s,R,h⟩ p hp=>by
  simp only[wpE] at h;have e1:Ext ρ H (ρ++[p]) (upd H p (.dK [])):=E0 hp;refine DOk.pairs hP hd (s.ext e1) (R.new hp (o:=.dic []) (u:=.dK []) d4.nil) e1 h fun ds g2 ρ2 H2 ps e2 R2 rp hq=>?_;obtain⟨kvs,hk,hz,hg,q⟩:=hq;have hp2:ρ2[g.length]?=some p:=e2.get (R.r6 p);obtain⟨vs',hv,rv⟩:=R2.dic hg hp2;cases rv;obtain⟨more,em,hl,rk⟩:=bs4 rp hk (accV:=[]) .nil;refine⟨hv,more,em,by omega,?_⟩;obtain⟨R3,e3⟩:=R2.put (o':=.dic kvs) (u:=.dK (L6 [] more)) hg rfl hp2 rk;exact q ρ2 _ _ (e1.trans (e2.trans e3)) R3 (.ref hp2)
end
end M

namespace M
open PySem L2 PySem.Spec PyProof.Rows
theorem bz1{K:PySem.W.Frag}{ρ0:List Addr}{H0:Hp}{a:Addr}{l:List D}{vs:List V}(ht:TupAt K H0 a vs)(rs:a8 K ρ0 H0 l vs):al7 K ρ0 H0 (.fix l) (Itt K a):=by
 intro ρ g H e R i;have ht':=ht.ext e;have rs':=rs.ext e;refine⟨fun h=>⟨vs,ht'.sq,?_⟩,fun d h=>?_⟩
 ·simp only[IK.at] at h;have:=List.getElem?_eq_none_iff.mp (Option.some.inj h);rw[<- rs'.length];exact this
 ·simp only[IK.at] at h;obtain⟨v,hv,rv⟩:=rs'.get (Option.some.inj h);refine⟨⟨vs,v,ht'.sq,hv⟩,fun w H' y=>?_⟩;obtain⟨rfl,y⟩:=y;have:=y vs ht'.sq;rw[hv] at this;cases this;exact⟨.refl _ _,R,rv⟩
theorem bz2{K:PySem.W.Frag}{ρ0:List Addr}{H0:Hp}{a:Addr}{j:Nat}(ha:ρ0[j]?=some a):al7 K ρ0 H0 (.lst j) (Itl K a):=by
 intro ρ g H e R i;have ha':=e.get ha;refine⟨fun h=>?_,fun d h=>?_⟩
 ·simp only[IK.at] at h;cases el:c7 g j with
  |none=>rw[el] at h;cases h
  |some l =>
   rw[el] at h;obtain⟨vs,hq,rs⟩:=R.items el ha';refine⟨vs,hq,?_⟩;have:=List.getElem?_eq_none_iff.mp (Option.some.inj h);rw[<- rs.length];exact this
 ·simp only[IK.at] at h;cases el:c7 g j with
  |none=>rw[el] at h;cases h
  |some l =>
   rw[el] at h;obtain⟨vs,hq,rs⟩:=R.items el ha';obtain⟨v,hv,rv⟩:=rs.get (Option.some.inj h);refine⟨⟨vs,v,hq,hv⟩,fun w H' y=>?_⟩;obtain⟨rfl,y⟩:=y;have:=y vs hq;rw[hv] at this;cases this;exact⟨.refl _ _,R,rv⟩
theorem a58{K:PySem.W.Frag}{ρ0:List Addr}{H0:Hp}{lo:Int}{n:Nat}:al7 K ρ0 H0 (.fix (n0 lo n)) (Itr lo n):=by
 unfold n0;intro ρ g H e R i;refine⟨fun h=>?_,fun d h=>?_⟩
 ·simp only[IK.at] at h;have:=List.getElem?_eq_none_iff.mp (Option.some.inj h);show n<=i;simpa using this
 ·simp only[IK.at] at h;have h:=Option.some.inj h;have hi:i<n:=by
   have:=(List.getElem?_eq_some_iff.mp h).1;simpa using this
  rw[List.getElem?_map,List.getElem?_range hi] at h;cases h;refine⟨hi,fun w H' y=>?_⟩;obtain⟨rfl,rfl⟩:=y;exact⟨.refl _ _,R,.int _⟩
end M
namespace L2
open PySem PySem.Spec PyProof.Rows
theorem bn2{X:Cx}{tg l:Expr}{tl:TE}(hl:PE X l tl):PI X tg l (fun σ H R=>tl σ H fun x H1=>(∃a,x=.ref a/\(∃xs,SqL X.K H1 a xs)/\R (Itl X.K a) H1)\/(∃a,x=.ref a/\(∃xs,SqT X.K H1 a xs)/\R (Itt X.K a) H1)):=by
 intro pins s σ H R I h;refine thn (hl pins s σ H _ I h) fun v s1 ⟨x,H1,I1,r1,q1⟩=>?_;rcases q1 with⟨a,e,⟨xs,hq⟩,q⟩|⟨a,e,⟨xs,hq⟩,q⟩
 ·subst e;cases r1;obtain⟨its,rv,p,hz⟩:=I1.list hq;refine wpAny_pyIter_list p.isList ?_;refine⟨s1.heap.objs.size,[s1.heap.objs.size],_,_,H1,rfl,I1.kept (t':=s1.toks) fun b o e=>Heap.get?_push_of_some _ e,aK6 a _,⟨_,Heap.get?_push_size _ rfl,rfl,rfl⟩,fun b hb=>?_,q⟩;have e:b=s1.heap.objs.size:=by simpa using hb
  subst e;exact I1.ak3 (Nat.le_refl _) (I1.hok.fresh (Nat.le_refl _))
 ·subst e;cases r1;obtain⟨its,rv,p,hz⟩:=I1.tuple hq;refine wpAny_pyIter_tuple (show s1.heap.IsTuple a its.toArray from p) ?_;refine⟨s1.heap.objs.size,[s1.heap.objs.size],_,_,H1,rfl,I1.kept (t':=s1.toks) fun b o e=>Heap.get?_push_of_some _ e,aE2 a _,⟨_,Heap.get?_push_size _ rfl,rfl,rfl⟩,fun b hb=>?_,q⟩;have e:b=s1.heap.objs.size:=by simpa using hb
  subst e;exact I1.ak3 (Nat.le_refl _) (I1.hok.fresh (Nat.le_refl _))
end L2
namespace M
open PySem L2 PySem.Spec PyProof.Rows
section
variable{X:Cx}{Ξ:XKE}{P:Sig}(hP:e9 P){a b c tg:Expr}{ma mb mc:ME}{pos p:Pos}
include hP
theorem bk2(ha:PE X a (LE X.K Ξ (wpE P ma))):PI X tg a (LI X.K Ξ (wpI P (.itE ma))) :=
 (bn2 ha).imp fun σv H R ⟨σ,g,ρ,s,Rr,h⟩=>by
  simp only[wpI] at h;refine thE hP s Rr (.refl _ _) h fun x g1 ρ1 H1 v1 e1 R1 r1 h=>?_;rcases h with⟨l,rfl,h⟩|⟨i,l,rfl,hl,h⟩
  ·obtain⟨a',vs,rfl,ht,rs⟩:=r1.u3;exact .inr ⟨_,rfl,⟨_,ht.sq⟩,h ρ1 H1 _ e1 R1 (bz1 ht rs)⟩
  ·obtain⟨a',rfl,ha'⟩:=r1.i0;obtain⟨vs,hq,rs⟩:=R1.items hl ha';exact .inl ⟨_,rfl,⟨_,hq⟩,h ρ1 H1 _ e1 R1 (bz2 ha')⟩
theorem a92(ha:PE X a (LE X.K Ξ (wpE P ma)))(hg:Gl X "range")(hm:X.mg "range"=none)(hs:starEach [a] X.env=[(false,eval a X.env)]):PI X tg (.Call (.Name "range" p) [a] [] pos) (LI X.K Ξ (wpI P (.itR1 ma))) :=
 (aN4 hg hm (A7 hP ha (P4 hP) (by rw[hs];rfl)) hs).imp fun σv H R ⟨σ,g,ρ,s,Rr,h⟩=>by
  simp only[wpI] at h;refine thA hP (m:=.cons ma .nil) s Rr (.refl _ _) (Q0:=fun xs g1=>∃j:Int,xs=[.int j]/\-(2 ^ 62)<=j/\j<2 ^ 62/\∀ρ' H' J,Ext ρ H ρ' H'->Rl X.K ρ' g1 H'->al7 X.K ρ' H' (.fix (n0 0 j.toNat)) J->R J H') ?_ fun xs g1 ρ1 H1 vs e1 R1 r1 h=>?_
  ·simp only[wpA];exact b0 hP ma _ _ _ _ _ _ (fun x g1 ⟨j,e,h1,h2,h⟩=>⟨j,by rw[e],h1,h2,h⟩) (fun _ _ z=>z) h
  ·obtain⟨j,rfl,h1,h2,h⟩:=h;obtain⟨v,rfl,rv⟩:=r1.one;obtain rfl:=rv.g7;exact⟨_,rfl,h1,h2,h ρ1 H1 _ e1 R1 a58⟩
theorem a91(ha:PE X a (LE X.K Ξ (wpE P ma)))(hb:PE X b (LE X.K Ξ (wpE P mb)))(hg:Gl X "range")(hm:X.mg "range"=none)(hs:starEach [a,b] X.env=[(false,eval a X.env),(false,eval b X.env)])(hs2:starEach [b] X.env=[(false,eval b X.env)]) :
  PI X tg (.Call (.Name "range" p) [a,b] [] pos) (LI X.K Ξ (wpI P (.itR2 ma mb))) :=
 (aN3 hg hm (A7 hP ha (A7 hP hb (P4 hP) (by rw[hs2];rfl)) (by rw[hs,hs2])) hs hs2).imp fun σv H R ⟨σ,g,ρ,s,Rr,h⟩=>by
  simp only[wpI] at h;refine thA hP (m:=.cons ma (.cons mb .nil)) s Rr (.refl _ _) (Q0:=fun xs g1=>∃i j:Int,xs=[.int i,.int j]/\(-(2 ^ 62)<=i/\i<2 ^ 62/\-(2 ^ 62)<=j/\j<2 ^ 62)/\∀ρ' H' J,Ext ρ H ρ' H'->Rl X.K ρ' g1 H'->al7 X.K ρ' H' (.fix (n0 i (j-i).toNat)) J->R J H') ?_ fun xs g1 ρ1 H1 vs e1 R1 r1 h=>?_
  ·simp only[wpA];exact b0 hP ma _ _ _ _ _ _ (fun x g1 h=>b0 hP mb _ _ _ _ _ _ (fun y g2 ⟨i,j,e,e',h1,h⟩=>⟨i,j,by rw[e,e'],h1,h⟩) (fun _ _ z=>z) h) (fun _ _ z=>z) h
  ·obtain⟨i,j,rfl,h1,h⟩:=h;obtain⟨v,w,rfl,rv,rw'⟩:=r1.two;obtain rfl:=rv.g7;obtain rfl:=rw'.g7;exact⟨_,_,rfl,h1,h ρ1 H1 _ e1 R1 a58⟩
end
section
variable{X:Cx}{pos:Pos}
theorem bk3{i:Nat}{x:Str}(hN:X.N.Nodup)(hi:X.N[i]?=some x)(hx:Loc X.env.scope x)(hf:X.fn x=true\/X.env.scope.names.lookup x=some .local):PG X (.Name x pos) (LG X.K (.one i)) :=
 (aB4 hN hi hx hf).imp fun v σv H Q ⟨d,σ,g,ρ,s,R,r,h⟩=>h _ (s.set i r)
inductive SlotsOk(X:Cx):List Expr->List Nat->Prop
 |nil:SlotsOk X [] []
 |cons {x:Str} {p:Pos} {i:Nat} {es:List Expr} {is:List Nat} (hi:X.N[i]?=some x) (hx:Loc X.env.scope x) (hf:X.fn x=true\/X.env.scope.names.lookup x=some .local) (r:SlotsOk X es is):SlotsOk X (.Name x p::es) (i::is)
noncomputable def av6:List Nat->TGs
 |[]=>br8
 |i::is=>a59 (aa2 i) (av6 is)
theorem am5(hN:X.N.Nodup):∀{es:List Expr} {is:List Nat},SlotsOk X es is->PGs X es (av6 is)
 |_,_,.nil=>bb5
 |_,_,.cons hi hx hf r=>aW7 (aB4 hN hi hx hf) (am5 hN r) rfl
theorem V4:∀{es:List Expr} {is:List Nat},SlotsOk X es is->(assignEach es X.env).length=is.length/\(assignEach es X.env).findIdx? (·.1)=none
 |_,_,.nil=>⟨rfl,rfl⟩
 |_,_,.cons (x:=x) (p:=p) (es:=es) hi hx hf r=>by
  obtain⟨h1,h2⟩:=V4 r;have e:assignEach (.Name x p::es) X.env=(false,assign (.Name x p) X.env)::assignEach es X.env:=rfl;rw[e];refine⟨by simp[h1],?_⟩;rw[List.findIdx?_cons,h2]
  rfl
theorem an8{K:PySem.W.Frag}{ρ:List Addr}{H:Hp}{k:S->Prop}{Q:L2.St->Hp->Prop}:∀{is:List Nat} {l:List D} {vs:List V} {σ σ':S} {σv:L2.St},u4 is l σ=some σ'->a8 K ρ H l vs->i3 K ρ H σ σv->(∀σv',i3 K ρ H σ' σv'->Q σv' H)->av6 is vs σv H Q
 |[],_,_,_,_,_,h,.nil,s,q=>by
  simp only[u4] at h;cases h;exact⟨rfl,q _ s⟩
 |[],_,_,_,_,_,h,.cons _ _,s,q=>by simp only[u4] at h;cases h
 |i::is,_,_,_,_,_,h,.nil,s,q=>by simp only[u4] at h;cases h
 |i::is,_,_,_,_,_,h,.cons r rr,s,q=>by
  simp only[u4] at h;exact⟨_,_,rfl,an8 (k:=k) h rr (s.set i r) q⟩
theorem R9:∀{is:List Nat} {l:List D} {σ σ':S},u4 is l σ=some σ'->l.length=is.length
 |[],[],_,_,_=>rfl
 |[],_::_,_,_,h=>by simp only[u4] at h;cases h
 |_::_,[],_,_,h=>by simp only[u4] at h;cases h
 |_::is,_::l,_,_,h=>by simp only[u4] at h;simp[R9 h]
theorem aA2{es:List Expr}{is:List Nat}{k:Nat}(hc:X.calm=true)(hN:X.N.Nodup)(hs:SlotsOk X es is):PG X (.Tuple es k pos) (LG X.K (.many is)) :=
 (bn3 hc (am5 hN hs) (V4 hs).1 (V4 hs).2).imp fun v σv H Q ⟨d,σ,g,ρ,s,R,r,h⟩=>by
  obtain⟨l,σ',rfl,e,h⟩:=h;obtain⟨a',vs,rfl,ht,rs⟩:=r.u3;exact⟨_,_,rfl,ht.sq,by rw[<- rs.length];exact R9 e,an8 (k:=fun _=>True) e rs s h⟩
end
theorem LN.ext{K ρ H N ρ1 H1}(e:Ext ρ H ρ1 H1):(LN K ρ H N).le (LN K ρ1 H1 N) :=
 ⟨fun σ g h ρ' H' σv' e' R s=>h ρ' H' σv' (e.trans e') R s,fun d g h=>h.ext e,fun σ g h ρ' H' σv' e' R s=>h ρ' H' σv' (e.trans e') R s,fun σ g h ρ' H' σv' e' R s=>h ρ' H' σv' (e.trans e') R s⟩
section
variable{X:Cx}{Ξ:XKE}{P:Sig}(hP:e9 P){a b c tg:Expr}{ma mb mc:ME}{st:Stmt}{rest:List Stmt}{mst mrest:MS}{pos p:Pos}
include hP
theorem aL5:PSs X [] (LS X.K Ξ (wpS P .pass)) :=
 (ba9 (X:=X)).imp fun N σv H ⟨σ,g,ρ,s,R,h⟩=>h ρ H σv (.refl _ _) R s
theorem az9(h1:PS X st (LS X.K Ξ (wpS P mst)))(h2:PSs X rest (LS X.K Ξ (wpS P mrest))):PSs X (st::rest) (LS X.K Ξ (wpS P (.seq mst mrest))) :=
 (aW2 h1 h2).imp fun N σv H ⟨σ,g,ρ,s,R,h⟩ =>
  thS hP s R (.refl _ _) (show wpS P mst { LN X.K ρ H N with nx:=fun σ1 g1=>wpS P mrest (LN X.K ρ H N) σ1 g1 (LX X.K ρ H Ξ) } σ g (LX X.K ρ H Ξ) from h) ⟨fun σ1 g1 h ρ1 H1 σv1 e1 R1 s1=>thS hP s1 R1 e1 h (LN.ext e1),fun _ _ z=>z,fun _ _ z=>z,fun _ _ z=>z⟩
theorem a86(ha:PE X a (LE X.K Ξ (wpE P ma)))(hs:swapsWith a none pos.line X.env=pure false):PS X (.Expr a pos) (LS X.K Ξ (wpS P (.expr ma))) :=
 (bb2 ha hs).imp fun N σv H ⟨σ,g,ρ,s,R,h⟩=>thE hP s R (.refl _ _) h fun x g1 ρ1 H1 v1 e1 R1 r1 h=>h ρ1 H1 σv e1 R1 (s.ext e1)
theorem aL1{i:Nat}{x:Str}{p:Pos}(h0:PS X (.Assign [.Name x p] a pos) (ar7 (LE X.K Ξ (wpE P ma)) (aa2 i))):PS X (.Assign [.Name x p] a pos) (LS X.K Ξ (wpS P (.set i ma))) :=
 h0.imp fun N σv H ⟨σ,g,ρ,s,R,h⟩=>thE hP s R (.refl _ _) h fun x g1 ρ1 H1 v1 e1 R1 r1 h=>h ρ1 H1 _ e1 R1 ((s.ext e1).set i r1)
theorem bi7{t:MT}(h0:PS X (.Assign [tg] a pos) (ar7 (LE X.K Ξ (wpE P ma)) (LG X.K t))):PS X (.Assign [tg] a pos) (LS X.K Ξ (wpS P (.unp t ma))) :=
 h0.imp fun N σv H ⟨σ,g,ρ,s,R,h⟩=>thE hP s R (.refl _ _) h fun x g1 ρ1 H1 v1 e1 R1 r1 h=>⟨x,σ,g1,ρ1,s.ext e1,R1,r1,w6 (fun σ' h σv' s'=>h ρ1 H1 σv' e1 R1 s') h⟩
theorem aU0(hu:X.A.units+100<cLine){o i:Expr}{mo mi:ME}{tp:Pos}(ha:PE X a (LE X.K Ξ (wpE P ma)))(ho:PE X o (LE X.K Ξ (wpE P mo)))(hi:PE X i (LE X.K Ξ (wpE P mi)))(hs:swapsWithSole [.Subscript o i tp] a pos.line X.env=pure false)(ha':∀ v,assign (.Subscript o i tp) X.env v=(do
   let ov <- holding [v] (eval o X.env)
   let iv <- holding [v,ov] (eval i X.env)
   standAt tp
   holding [v,ov,iv] (setItem ov iv v)
   release [v,ov,iv] [])):PS X (.Assign [.Subscript o i tp] a pos) (LS X.K Ξ (wpS P (.setix mo mi ma))) :=
 (aN0 ha (bn4 ho hi (bk4 hu) ha') hs).imp fun N σv H ⟨σ,g,ρ,s,R,h⟩ =>
  thE hP s R (.refl _ _) h fun x g1 ρ1 H1 v1 e1 R1 r1 h=>thE hP (s.ext e1) R1 e1 h fun y g2 ρ2 H2 v2 e2 R2 r2 h=>thE hP (s.ext (e1.trans e2)) R2 (e1.trans e2) h fun z g3 ρ3 H3 v3 e3 R3 r3 h =>
   ⟨y,z,x,g3,ρ3,R3,r2.ext e3,r3,r1.ext (e2.trans e3),am3 (fun g4 h ρ4 H4 e4 R4=>h ρ4 H4 σv (e1.trans (e2.trans (e3.trans e4))) R4 (s.ext (e1.trans (e2.trans (e3.trans e4))))) h⟩
omit hP in
noncomputable def ai9(K:PySem.W.Frag)(f:Str)(cs:List Str):Prop:=∀c C,c∈cs->j3 K c C->m9 K C f
omit hP in
theorem a93{f:Str}{cs:List Str}(hF:ai9 X.K f cs){ρ:List Addr}{H:Hp}{g g':G}{x v:D}{xv vv:V}(R:Rl X.K ρ g H)(rx:b7 X.K ρ H x xv)(rv:b7 X.K ρ H v vv)(h:a45 f cs x v g g') :
  ∃a C dx fs,xv=.ref a/\H a=some (.ins C dx fs)/\Cls X.K C/\m9 X.K C f/\fs.length<1000/\Rl X.K ρ g' (upd H a (.ins C dx (k8 f vv fs)))/\Ext ρ H ρ (upd H a (.ins C dx (k8 f vv fs))):=by
 obtain⟨i,c,fs,rfl,hi,hc,hz,rfl⟩:=h;obtain⟨a',rfl,ra⟩:=rx.i0;obtain⟨C,dx,vs,hH,hC,hcl,rk,na⟩:=R.ins hi ra;obtain⟨R',e'⟩:=R.put (o':=.ins c (n8 f v fs)) (u:=.ins C dx (k8 f vv vs)) hi rfl ra ⟨hC,hcl,rk.k8 rv,S1 (p:=fun y=>m9 X.K C y) (hF c C hc hC) na⟩;exact⟨a',C,dx,vs,rfl,hH,hcl,hF c C hc hC,by rw[<- rk.length];omega,R',e'⟩
theorem a85{f:Str}{cs:List Str}{o:Expr}{mo:ME}{tp:Pos}(hF:ai9 X.K f cs)(ho:PE X o (LE X.K Ξ (wpE P mo)))(ha:PE X a (LE X.K Ξ (wpE P ma)))(hs:swapsWith a (some (.Attribute o f tp)) pos.line X.env=pure false):PS X (.Assign [.Attribute o f tp] a pos) (LS X.K Ξ (wpS P (.setf f cs mo ma))) :=
 (bn1 ho ha hs).imp fun N σv H ⟨σ,g,ρ,s,R,h⟩=>thE hP s R (.refl _ _) h fun x g1 ρ1 H1 v1 e1 R1 r1 h=>thE hP (s.ext e1) R1 e1 h fun y g2 ρ2 H2 v2 e2 R2 r2 h=>by
  obtain⟨g3,h,q⟩:=h;obtain⟨a',C,dx,fs,hx,hH,hcl,na,hz,R3,e3⟩:=a93 hF R2 r2 (r1.ext e2) h;exact⟨a',C,dx,fs,hx,hH,hcl,na,hz,q ρ2 _ σv (e1.trans (e2.trans e3)) R3 (s.ext (e1.trans (e2.trans e3)))⟩
theorem a87{f:Str}{cs:List Str}{o:Expr}{mo:ME}{tp:Pos}(hF:ai9 X.K f cs)(ho:PE X o (LE X.K Ξ (wpE P mo)))(ha:PE X a (LE X.K Ξ (wpE P ma))):PS X (.AugAssign (.Attribute o f tp) .Add a pos) (LS X.K Ξ (wpS P (.augf f cs mo ma))) :=
 (aM9 ho ha be4).imp fun N σv H ⟨σ,g,ρ,s,R,h⟩=>thE hP s R (.refl _ _) h fun y g1 ρ1 H1 v1 e1 R1 r1 h=>by
  obtain⟨i,c,fs,x,rfl,hi,hc,hf,h⟩:=h;obtain⟨a',rfl,ra⟩:=r1.i0;obtain⟨C,dx,vs,hH,hC,hcl,rk,na⟩:=R1.ins hi ra;have lk:=rk.look f;rw[hf] at lk;obtain⟨v,hv,rv⟩:=lk.some;refine⟨a',C,dx,vs,v,rfl,hH,hcl,hF c C hc hC,hv,thE hP (s.ext e1) R1 e1 h fun z g3 ρ3 H3 v3 e3 R3 r3 h=>?_⟩;obtain⟨d',g',hR,fs',hi',hz,q⟩:=h;have fin:∀{ρ4:List Addr} {H4:Hp} {vv:V},Ext ρ3 H3 ρ4 H4->Rl X.K ρ4 g' H4->b7 X.K ρ4 H4 d' vv->∃dx' fs',H4 a'=some (.ins C dx' fs')/\fs'.length<1000/\N.nx σv (upd H4 a' (.ins C dx' (k8 f vv fs'))):=by
   intro ρ4 H4 vv e4 R4 r4;obtain⟨C2,dx2,vs2,hH2,hC2,hcl2,rk2,na2⟩:=R4.ins hi' ((e3.trans e4).get ra);have:C2=C:=by have h1:=hC2.symm.trans hC;cases h1;rfl
   subst this;obtain⟨R5,e5⟩:=R4.put (o':=.ins c (n8 f d' fs')) (u:=.ins C2 dx2 (k8 f vv vs2)) hi' rfl ((e3.trans e4).get ra) ⟨hC2,hcl2,rk2.k8 r4,S1 (p:=fun y=>m9 X.K C2 y) (hF c C2 hc hC2) na2⟩;exact⟨dx2,vs2,hH2,by rw[<- rk2.length];omega,q ρ4 _ σv (e1.trans (e3.trans (e4.trans e5))) R5 (s.ext (e1.trans (e3.trans (e4.trans e5))))⟩
  rcases hR with⟨j,l,ex,rfl,rfl⟩|⟨l,m,ex,hz2,rfl,rfl⟩
  ·obtain⟨rfl,rfl⟩:=p0 ex;obtain rfl:=rv.g7;obtain rfl:=r3.g7;exact .inl ⟨_,_,rfl,rfl,fin (.refl _ _) R3 (.int _)⟩
  ·obtain⟨rfl,rfl⟩:=p0 ex;obtain⟨p1,vs1,rfl,t1,rs1⟩:=(rv.ext e3).u3;obtain⟨p2,vs2,rfl,t2,rs2⟩:=r3.u3;refine .inr ⟨p1,p2,vs1,vs2,rfl,rfl,t1.sq,t2.sq,by rw[<- rs1.length,<- rs2.length];exact f7 hz2,fun z=>?_,fun z=>?_,fun p hp=>?_⟩
   ·subst z;cases rs1;exact fin (.refl _ _) R3 (.tup t2 rs2)
   ·subst z;cases rs2;rw[List.append_nil] at fin;exact fin (.refl _ _) R3 (.tup t1 rs1)
   ·exact fin (o7 hp) (R3.grow hp) (.tup (.inl j5) ((rs1.append rs2).ext (o7 hp)))
theorem bv6{sa sb:List Stmt}{msa msb:MS}(hc:PT X c (LT X.K Ξ (wpT P mc)))(ha:PSs X sa (LS X.K Ξ (wpS P msa)))(hb:PSs X sb (LS X.K Ξ (wpS P msb))):PS X (.If c sa sb pos) (LS X.K Ξ (wpS P (.ifs mc msa msb))) :=
 (bw9 hc ha hb).imp fun N σv H ⟨σ,g,ρ,s,R,h⟩=>thT hP s R (.refl _ _) h fun t g1 ρ1 H1 e1 R1 h=>by
  cases t
  ·exact thS hP (s.ext e1) R1 e1 h (LN.ext e1)
  ·exact thS hP (s.ext e1) R1 e1 h (LN.ext e1)
theorem aL2(ha:PE X a (LE X.K Ξ (wpE P ma))):PS X (.Return (some a) pos) (LS X.K Ξ (wpS P (.ret ma))) :=
 (bm8 ha).imp fun N σv H ⟨σ,g,ρ,s,R,h⟩=>⟨σ,g,ρ,s,R,h⟩
theorem aT9{body:List Stmt}{mb:MS}(hp:PassesOwn (model X.prog X.w) X.A X.env X.xe)(hc:PT X c (LT X.K Ξ (wpT P mc)))(hb:PSs X body (LS X.K Ξ (wpS P mb))):PS X (.While c body [] pos) (LS X.K Ξ (wpS P (.whil mc mb))) :=
 (aW3 hp hc hb).imp fun N σv H ⟨σ,g,ρ,s,R,h⟩=>by
  obtain⟨W,⟨m0,w0⟩,h⟩:=h;refine⟨fun m σv' H'=>∃σ' g' ρ',Ext ρ H ρ' H'/\i3 X.K ρ' H' σ' σv'/\Rl X.K ρ' g' H'/\W m σ' g',⟨m0,σ,g,ρ,.refl _ _,s,R,w0⟩,?_⟩;rintro m σv' H' ⟨σ',g',ρ',e1,s',R',w'⟩;refine thT hP s' R' e1 (h m σ' g' w') fun t g1 ρ1 H1 e2 R1 q=>?_;cases t
  ·exact q ρ1 H1 σv' (e1.trans e2) R1 (s'.ext e2)
  ·obtain⟨N2,hN2,q⟩:=q;refine⟨fun σv2 H2=>∃σ2 g2 ρ2,Ext ρ H ρ2 H2/\i3 X.K ρ2 H2 σ2 σv2/\Rl X.K ρ2 g2 H2/\N2 σ2 g2,?_,?_⟩
   ·rintro σv2 H2 ⟨σ2,g2,ρ2,e3,s2,R2,n2⟩;obtain⟨m',hm,w2⟩:=hN2 σ2 g2 n2;exact⟨m',hm,σ2,g2,ρ2,e3,s2,R2,w2⟩
   ·refine thS hP (s'.ext e2) R1 (e1.trans e2) q ⟨?_,?_,?_,?_⟩
    ·exact fun σ3 g3 n3 ρ3 H3 σv3 e3 R3 s3=>⟨σ3,g3,ρ3,(e1.trans e2).trans e3,s3,R3,n3⟩
    ·exact fun d g3 h=>h.ext (e1.trans e2)
    ·exact fun σ3 g3 h ρ3 H3 σv3 e3 R3 s3=>h ρ3 H3 σv3 ((e1.trans e2).trans e3) R3 s3
    ·exact fun σ3 g3 n3 ρ3 H3 σv3 e3 R3 s3=>⟨σ3,g3,ρ3,(e1.trans e2).trans e3,s3,R3,n3⟩
theorem bj0{iter:Expr}{mi:ME}{body:List Stmt}{mb:MS}{t:MT}(hp:PassesOwn (model X.prog X.w) X.A X.env X.xe)(hc:X.calm=true)(hi:PI X tg iter (LI X.K Ξ (wpI P mi)))(hg:PG X tg (LG X.K t))(hb:PSs X body (LS X.K Ξ (wpS P mb)))(hs:∀x,foldedSetIterable iter X.env x=pure x):PS X (.For tg iter body [] pos) (LS X.K Ξ (wpS P (.for_ t mi mb))) :=
 (bn0 hp hc hi hg hb hs).imp fun N σv H ⟨σ,g,ρ,s,R,h⟩=>by
  refine⟨σ,g,ρ,s,R,q9 hP mi _ _ _ _ _ _ (fun k g1 h ρ1 H1 J e1 R1 j1=>?_) (fun _ _ z=>z) h⟩;obtain⟨W,⟨m0,w0⟩,h⟩:=h;refine⟨fun i m σv' H'=>∃σ' g' ρ',Ext ρ1 H1 ρ' H'/\i3 X.K ρ' H' σ' σv'/\Rl X.K ρ' g' H'/\W i m σ' g',⟨m0,σ,g1,ρ1,.refl _ _,s.ext e1,R1,w0⟩,?_⟩;rintro i m σv' H' ⟨σ',g',ρ',e',s',R',w'⟩;obtain⟨j1a,j1b⟩:=j1 ρ' g' H' e' R' i;rcases h i m σ' g' w' with⟨ek,q⟩|⟨x,ek,N2,hN2,q⟩
  ·exact .inl ⟨j1a ek,q ρ' H' σv' (e1.trans e') R' s'⟩
  ·obtain⟨go,yl⟩:=j1b x ek;refine .inr ⟨go,fun σv2 H2=>∃σ2 g2 ρ2,Ext ρ1 H1 ρ2 H2/\i3 X.K ρ2 H2 σ2 σv2/\Rl X.K ρ2 g2 H2/\N2 σ2 g2,?_,?_⟩
   ·rintro σv2 H2 ⟨σ2,g2,ρ2,e2,s2,R2,n2⟩;obtain⟨m',hm,w2⟩:=hN2 σ2 g2 n2;exact⟨m',hm,σ2,g2,ρ2,e2,s2,R2,w2⟩
   ·intro v H2 y;obtain⟨e2,R2,r2⟩:=yl v H2 y;refine⟨x,σ',g',ρ',s'.ext e2,R2,r2,w6 (fun σ2 q σv2 s2=>?_) q⟩;refine thS hP s2 R2 (e1.trans (e'.trans e2)) q ⟨?_,?_,?_,?_⟩
    ·exact fun σ3 g3 n3 ρ3 H3 σv3 e3 R3 s3=>⟨σ3,g3,ρ3,(e'.trans e2).trans e3,s3,R3,n3⟩
    ·exact fun d g3 h=>h.ext (e1.trans (e'.trans e2))
    ·exact fun σ3 g3 h ρ3 H3 σv3 e3 R3 s3=>h ρ3 H3 σv3 (e1.trans ((e'.trans e2).trans e3)) R3 s3
    ·exact fun σ3 g3 n3 ρ3 H3 σv3 e3 R3 s3=>⟨σ3,g3,ρ3,(e'.trans e2).trans e3,s3,R3,n3⟩
theorem aw3{b9:List Nat}{n:Nat}{t:MT}{mi mcond me:ME}:∀σv H Q,LE X.K Ξ (wpE P (.comp b9 n t mi mcond me)) σv H Q->af0 (LI X.K Ξ (wpI P mi)) b9 n (LG X.K t) (LT X.K (XK0 Ξ.1) (wpT P mcond)) (LE X.K (XK0 Ξ.1) (wpE P me)) σv H Q:=fun σv H Q ⟨σ,g,ρ,s,R,h⟩=>by
 simp only[wpE] at h;refine⟨σ,g,ρ,s,R,q9 hP mi _ _ _ _ _ _ (fun k g1 h ρ1 H1 J e1 R1 j1=>?_) (fun _ _ z=>z) h⟩;obtain⟨W,⟨m0,w0⟩,h⟩:=h;refine⟨fun i m ysv σv' H'=>∃ys σ' g' ρ',Ext ρ1 H1 ρ' H'/\i3 X.K ρ' H' σ' σv'/\Rl X.K ρ' g' H'/\a8 X.K ρ' H' ys ysv/\W i m ys σ' g',⟨m0,[],_,g1,ρ1,.refl _ _,(s.ext e1).b9 b9 n,R1,.nil,w0⟩,?_⟩;rintro i m ysv σv' H' ⟨ys,σ',g',ρ',e',s',R',ry,w'⟩;obtain⟨j1a,j1b⟩:=j1 ρ' g' H' e' R' i;rcases h i m ys σ' g' w' with⟨ek,q⟩|⟨x,ek,hz,q⟩
 ·exact .inl ⟨j1a ek,fun p hp=>(q.ext (e1.trans e')).new R' hp ry⟩
 ·obtain⟨go,yl⟩:=j1b x ek;refine .inr ⟨go,by rw[<- ry.length];exact Z6 hz,fun v H2 y=>?_⟩;obtain⟨e2,R2,r2⟩:=yl v H2 y;refine⟨x,σ',g',ρ',s'.ext e2,R2,r2,w6 (fun σ2 q σv2 s2=>?_) q⟩;refine⟨σ2,g',ρ',s2,R2,k7 hP mcond _ _ _ _ _ _ (fun b g3 q ρ3 H3 e3 R3=>?_) (fun _ _ z=>z.elim) q⟩;cases b
  ·obtain⟨m',hm,w3⟩:=q;exact⟨m',hm,ys,σ2,g3,ρ3,(e'.trans e2).trans e3,s2.ext e3,R3,(ry.ext e2).ext e3,by simpa using w3⟩
  ·refine⟨σ2,g3,ρ3,s2.ext e3,R3,b0 hP me _ _ _ _ _ _ (fun z g4 q ρ4 H4 v4 e4 R4 r4=>?_) (fun _ _ z=>z.elim) q⟩;obtain⟨m',hm,w4⟩:=q;exact⟨m',hm,ys++[z],σ2,g4,ρ4,(e'.trans e2).trans (e3.trans e4),(s2.ext e3).ext e4,R4,(((ry.ext e2).ext e3).ext e4).append (.cons r4 .nil),by simpa using w4⟩
theorem aM6{b9:List Nat}{n:Nat}{t:MT}{mi mcond me:ME}:∀σv H Q,LE X.K Ξ (wpE P (.rcomp b9 n t mi mcond me)) σv H Q->af0 (LI X.K Ξ (wpI P mi)) b9 n (LG X.K t) (LT X.K (XK0 Ξ.1) (wpT P mcond)) (LE X.K Ξ (wpE P me)) σv H Q:=fun σv H Q ⟨σ,g,ρ,s,R,h⟩=>by
 simp only[wpE] at h;refine⟨σ,g,ρ,s,R,q9 hP mi _ _ _ _ _ _ (fun k g1 h ρ1 H1 J e1 R1 j1=>?_) (fun _ _ z=>z) h⟩;obtain⟨W,⟨m0,w0⟩,h⟩:=h;refine⟨fun i m ysv σv' H'=>∃ys σ' g' ρ',Ext ρ1 H1 ρ' H'/\i3 X.K ρ' H' σ' σv'/\Rl X.K ρ' g' H'/\a8 X.K ρ' H' ys ysv/\W i m ys σ' g',⟨m0,[],_,g1,ρ1,.refl _ _,(s.ext e1).b9 b9 n,R1,.nil,w0⟩,?_⟩;rintro i m ysv σv' H' ⟨ys,σ',g',ρ',e',s',R',ry,w'⟩;obtain⟨j1a,j1b⟩:=j1 ρ' g' H' e' R' i;rcases h i m ys σ' g' w' with⟨ek,q⟩|⟨x,ek,hz,q⟩
 ·exact .inl ⟨j1a ek,fun p hp=>(q.ext (e1.trans e')).new R' hp ry⟩
 ·obtain⟨go,yl⟩:=j1b x ek;refine .inr ⟨go,by rw[<- ry.length];exact Z6 hz,fun v H2 y=>?_⟩;obtain⟨e2,R2,r2⟩:=yl v H2 y;refine⟨x,σ',g',ρ',s'.ext e2,R2,r2,w6 (fun σ2 q σv2 s2=>?_) q⟩;refine⟨σ2,g',ρ',s2,R2,k7 hP mcond _ _ _ _ _ _ (fun b g3 q ρ3 H3 e3 R3=>?_) (fun _ _ z=>z.elim) q⟩;cases b
  ·obtain⟨m',hm,w3⟩:=q;exact⟨m',hm,ys,σ2,g3,ρ3,(e'.trans e2).trans e3,s2.ext e3,R3,(ry.ext e2).ext e3,by simpa using w3⟩
  ·refine⟨σ2,g3,ρ3,s2.ext e3,R3,b0 hP me _ _ _ _ _ _ (fun z g4 q ρ4 H4 v4 e4 R4 r4=>?_) (fun _ _ z=>z.ext (e1.trans ((e'.trans e2).trans e3))) q⟩;obtain⟨m',hm,w4⟩:=q;exact⟨m',hm,ys++[z],σ2,g4,ρ4,(e'.trans e2).trans (e3.trans e4),(s2.ext e3).ext e4,R4,(((ry.ext e2).ext e3).ext e4).append (.cons r4 .nil),by simpa using w4⟩
end
end M

namespace M
open PySem L2 PySem.Spec PyProof.Rows
section
variable{X:Cx}{Ξ:XKE}{P:Sig}(hP:e9 P)
include hP
theorem aU1{x:Str}{C:Addr}{B newId initId:String}{bm:List Value}{np cpos pos:Pos}{e₀:Expr}{rest:List Expr}{mes:ME}(hc:X.calm=true)(O:OwnCls x C bm newId X.mg X.base)(FB:ExcBaseFacts B newId initId bm)(hg:Gl X x)(ha:PA X (e₀::rest) (LA X.K Ξ (wpA P mes)))(hr:ab0 X Ξ.2)(hx:x∈Ξ.1)(hC:j3 X.K x C)(he:starEach (e₀::rest) X.env=(false,eval e₀ X.env)::starEach rest X.env)(hplain:(backTo cpos (starEach rest X.env)).any (·.1)=false)(hd:(x==("__debug__":Str))=false):PS X (.Raise (some (.Call (.Name x np) (e₀::rest) [] cpos)) none pos) (LS X.K Ξ (wpS P (.raise x mes))) :=
 (aW4 hc O FB hg ha hr he hplain hd).imp fun N σv H ⟨σ,g,ρ,s,R,h⟩=>by
  refine thA hP s R (.refl _ _) h fun ds g1 ρ1 H1 vs e1 R1 r1 h=>?_;exact⟨by rw[<- r1.length];exact f7 (Nat.le_trans h.1 (by decide)),h.2 ρ1 H1 C e1 R1 hx hC⟩
noncomputable def aD3(X:Cx)(ex:List Str)(D:L2.Ends)(hs:List ExceptHandler):XKE:=(ex,fun v _ H=>∃C,v=.ref C/\U5 X D C H hs)
inductive HsOk(X:Cx)(Ξ:XKE)(P:Sig):List ExceptHandler->List (Str×ME)->Prop
 |nil (hh:Q9 X Ξ.2):HsOk X Ξ P [] []
 |cons {y:Str} {C':Addr} {p p1 p2:Pos} {e:Expr} {me:ME} {hs:List ExceptHandler} {ms:List (Str×ME)} (hg:Gl X y) (hd:(y==("__debug__":Str))=false) (hm:X.mg y=some (.ref C'))
   (hx:∀x C,x∈Ξ.1->j3 X.K x C->PySem.W.exmOne X.K (.ref C) (.ref C')=some (decide (x=y\/y="MintError"))) (he:∀ea,PE (u6 X ea) e (LE X.K (XK0 Ξ.1) (wpE P me))) (r:HsOk X Ξ P hs ms) :
   HsOk X Ξ P (.ExceptHandler (some (.Name y p)) none [.Return (some e) p1] p2::hs) ((y,me)::ms)
theorem ar5{N:L2.Ends}{ρ ρ':List Addr}{H H':Hp}{σ:S}{g:G}{x:Xn}{C:Addr}(hl:σ.length=X.N.length)(e:Ext ρ H ρ' H')(R:Rl X.K ρ' g H')(hx:x.cls∈Ξ.1)(hC:j3 X.K x.cls C) :
  ∀{hs:List ExceptHandler} {ms:List (Str×ME)},HsOk X Ξ P hs ms->wpH P (LN X.K ρ H N) (σ.map fun _=>none) (LX X.K ρ H Ξ) ms x g->U5 X N C H' hs
 |_,_,.nil hh,q=>⟨Ξ.2,hh,q ρ' H' C e R hx hC⟩
 |_,_,.cons (me:=me) hg hd hm hxm he r,q=>by
  refine⟨hg,hd,_,_,hm,hxm _ _ hx hC,?_⟩;unfold wpH at q;split at q
  ·rename_i ex;rw[if_pos (by simpa using ex)];refine⟨LS X.K (XK0 Ξ.1) (wpS P (.seq (.ret me) .pass)),fun ea=>az9 (X:=u6 X ea) (Ξ:=XK0 Ξ.1) hP (aL2 (X:=u6 X ea) hP (he ea)) (aL5 (X:=u6 X ea) hP),?_⟩;refine⟨σ.map fun _=>none,g,ρ',⟨by simp[hl],fun i d z=>?_⟩,R,?_⟩
   ·rw[List.getElem?_map] at z;cases e:σ[i]? with
    |none=>rw[e] at z;cases z
    |some y=>rw[e] at z;cases z
   ·simp only[wpS];refine b0 hP me _ _ _ _ _ _ (fun d g1 h=>?_) (fun _ _ z=>z.elim) q;exact h.ext e
  ·rename_i ex;rw[if_neg (by simpa using ex)];exact ar5 hl e R hx hC r q
theorem bi8{h₀:ExceptHandler}{hs:List ExceptHandler}{ms:List (Str×ME)}{body:List Stmt}{mb:MS}{pos:Pos}(hst:X.stack=X.env::X.outer)(hf:X.env.frame=some X.env.locals)(hb:∀pins D,PSs (N1 X pins (Y8 X pins D (h₀::hs))) body (LS X.K (aD3 X Ξ.1 D (h₀::hs)) (wpS P mb)))(hh:HsOk X Ξ P (h₀::hs) ms):PS X (.Try body (h₀::hs) [] [] pos) (LS X.K Ξ (wpS P (.R0 mb ms))):=by
 intro pins s σv H N I ⟨σ,g,ρ,sr,R,h⟩;refine bm7 (t:=fun D=>LS X.K (aD3 X Ξ.1 D (h₀::hs)) (wpS P mb)) (Ξ:=fun D=>(aD3 X Ξ.1 D (h₀::hs)).2) hst hf (fun pins D _=>hb pins D) pins s σv H N I ⟨fun C H' ⟨C',e,z⟩=>by cases e;exact z,?_⟩;simp only[wpS] at h;refine⟨σ,g,ρ,sr,R,wpS_mono hP mb _ _ _ _ _ _ ⟨fun _ _ z=>z,fun _ _ z=>z,fun _ _ z=>z,fun _ _ z=>z⟩ (fun x g1 q ρ' H' C e' R' hm hc=>⟨C,rfl,?_⟩) h⟩;exact ar5 (Ξ:=Ξ) hP (sr.len.trans I.len) e' R' hm hc hh q
end
end M

namespace M
open PySem L2 PySem.Spec PyProof.Rows
structure c6 where
 N:List Str
 nm:List (Str×NameKind)
 fnb:Bool
 fns:List (Str×Nat)
 con:List (Str×D)
 blt:List Str
 exc:List Str
 gd:List (Str×List D)
 cls:List (Str×Nat)
 mts:List (Str×Str×Nat)
 fls:List (Str×Str)
 rais:Bool
 tryb:Bool
noncomputable def okE:Expr->Bool
 |.Set ..=>false
 |.Starred ..=>false
 |.Slice ..=>false
 |_=>true
noncomputable def o9:Expr->Bool
 |.ListComp ..=>false
 |.SetComp ..=>false
 |.DictComp ..=>false
 |_=>true
noncomputable def af8:Expr->Bool
 |.Tuple ..=>false
 |_=>true
noncomputable def V7:Expr->Bool
 |.Name ..=>true
 |.Call ..=>true
 |.Subscript ..=>true
 |.Constant ..=>true
 |.Attribute ..=>true
 |_=>false
noncomputable def W0:Expr->Bool
 |.Call (.Name ..) ..=>false
 |_=>true
noncomputable def c6.idx(c:c6)(x:Str):Option Nat:=c.N.findIdx? fun y=>decide (y=x)
noncomputable def c6.vis(c:c6)(x:Str):Bool:=match c.nm.lookup x with
 |some .local=>true
 |some .cell=>true
 |some .free=>true
 |_=>false
noncomputable def c6.gl(c:c6)(x:Str):Bool:=decide (c.nm.lookup x=some .globalImplicit)
noncomputable def c6.s9(c:c6)(x:Str):Bool:=decide (c.nm.lookup x=some .local)||(c.fnb&&decide (c.nm.lookup x=some .cell))
noncomputable def L0(x:Str):Bool:=(x==("__debug__":Str))==false&&(x==("__classdict__":Str))==false&&decide (x≠"__name__")
noncomputable def aE0:List (Str×String):=[("int","int"),("bool","bool"),("str","str"),("tuple","tuple"),("list","list")]
noncomputable def ax2:List (Str×Pr):=[("len",.len),("list",.list),("tuple",.tuple),("isinstance",.isin),("all",.all),("int",.int),("str",.str),("dict",.dcopy)]
noncomputable def Q2:List (Str×Pr):=[("clear",.clear),("pop",.pop0)]
noncomputable def au2:List (Str×Pr):=[("append",.append),("join",.join)]
noncomputable def Q8:Expr->Option (Str×List Expr)
 |.Call (.Name x _) args [] _=>some (x,args)
 |_=>none
noncomputable def asName:Expr->Option Str
 |.Name x _=>some x
 |_=>none
noncomputable def frees(sc:Scope):List Str:=(sc.names.filter fun y=>decide (y.2=.free)).map (·.1)
noncomputable def locals(sc:Scope):List Str:=(sc.names.filter fun y=>decide (y.2=.local)).map (·.1)
noncomputable def c6.inner(c:c6)(sc:Scope):c6:={ c with N:=frees sc++locals sc,nm:=sc.names,fnb:=false,rais:=false,tryb:=false }
noncomputable def c6.b9(c:c6)(sc:Scope):List Nat:=(frees sc).map fun x=>(c.idx x).getD 0
noncomputable def c6.aj5(c:c6)(sc:Scope):Bool :=
 decide (sc.kind=.function)&&sc.names.all (fun y=>decide (y.2≠.cell))&&sc.names.all (fun y=>!decide (y.2=.local)||decide (sc.names.lookup y.1=some .local)) &&
 decide (frees sc++locals sc).Nodup&&(frees sc).all (fun x=>(c.idx x).isSome&&decide (sc.names.lookup x=some .free)&&(decide (c.nm.lookup x=some .cell)||decide (c.nm.lookup x=some .free)))
noncomputable def c6.slot(c:c6)(e:Expr):Option Nat:=(asName e).bind fun x=>if c.s9 x then c.idx x else none
noncomputable def c6.slots(c:c6):List Expr->Option (List Nat)
 |[]=>some []
 |e::r=>(c.slot e).bind fun i=>(c.slots r).map fun is=>i::is
noncomputable def c6.tg(c:c6)(e:Expr):Option MT:=((c.slot e).map .one).orElse fun _=>match e with
 |.Tuple es _ _=>(c.slots es).map .many
 |_=>none
noncomputable def U3:Const->Option D
 |.int i=>some (.int i)
 |.bool b=>some (.bl b)
 |.none=>some .non
 |.str x=>some (.str x)
 |_=>none
structure CF where
 e:c6->Expr->Option ME
 t:c6->Expr->Option ME
 s:c6->Stmt->Option MS
section
variable(r:CF)(c:c6)
noncomputable def c1(p:Pr)(a:Expr):Option ME:=(r.e c a).map fun m=>.prim p (.cons m .nil)
noncomputable def c2(p:Pr)(a b:Expr):Option ME:=(r.e c a).bind fun ma=>(r.e c b).map fun mb=>.prim p (.cons ma (.cons mb .nil))
noncomputable def z4:List Expr->Option ME
 |[]=>some .nil
 |e::es=>if okE e then(r.e c e).bind fun m=>(z4 es).map fun ms=>.cons m ms else none
noncomputable def aS6:Expr->Option Str
 |.Constant (.str x) _ _=>some x
 |_=>none
noncomputable def bt1:Expr->Option Expr
 |.FormattedValue e k none _=>if k=-1 then some e else none
 |_=>none
noncomputable def aa7:List Expr->Option ME
 |[]=>some .nil
 |e::es=>((aS6 e).bind fun x=>if x.length<=2000 then(aa7 es).map fun ms=>.cons (.lit (.str x)) ms else none).orElse fun _ =>
   (bt1 e).bind fun a=>(r.e c a).bind fun m=>(aa7 es).map fun ms=>.cons (.prim .fv (.cons m .nil)) ms
noncomputable def ah7:List (Option Expr)->List Expr->Option ME
 |[],[]=>some .nil
 |some k::ks,v::vs=>(r.e c k).bind fun mk=>(r.e c v).bind fun mv=>(ah7 ks vs).map fun ms=>.cons mk (.cons mv ms)
 |_,_=>none
noncomputable def aq5(op:BoolOp):List Expr->Option ME
 |[]=>none
 |[a]=>r.e c a
 |a::b::rs=>(r.e c a).bind fun ma=>(aq5 op (b::rs)).map fun mb=>match op with
  |.And=>.and_ ma mb
  |.Or=>.or_ ma mb
noncomputable def aq4(op:BoolOp):List Expr->Option ME
 |[]=>none
 |[a]=>r.t c a
 |a::b::rs=>(r.t c a).bind fun ma=>(aq4 op (b::rs)).map fun mb=>match op with
  |.And=>.and_ ma mb
  |.Or=>.or_ ma mb
noncomputable def aS2:List Expr->Option ME
 |[]=>some .no
 |[e]=>r.t c e
 |_=>none
noncomputable def j9:List Stmt->Option MS
 |[]=>some .pass
 |s::rs=>(r.s c s).bind fun m=>(j9 rs).map fun ms=>.seq m ms
noncomputable def aD4(x:Str):Option ME :=
 if L0 x then(if c.vis x then(c.idx x).map .var else if c.gl x then((c.con.lookup x).map .lit).orElse fun _=>if c.blt.contains x then(aE0.lookup x).map fun t=>.lit (.ty t) else none else none) else none
noncomputable def xUn(op:UnaryOp)(a:Expr):Option ME:=if op=.Not then(r.e c a).map .not_ else c1 r c (.un op) a
noncomputable def c6.aH9(b:Expr):Option (List D):=(asName b).bind fun x=>if c.gl x&&L0 x then c.gd.lookup x else none
noncomputable def bI6:CmpOp->Option Bool
 |.In=>some false
 |.NotIn=>some true
 |_=>none
noncomputable def aq8(a:Expr)(ops:List CmpOp)(bs:List Expr):Option ME:=match ops,bs with
 |[op],[b]=>if behindInMarks op b then none else((bI6 op).bind fun neg=>(c.aH9 b).bind fun kvs=>(r.e c a).map fun ma=>.prim (aq2 neg) (.cons (.lit (.tup kvs)) (.cons ma .nil))).orElse fun _=>c2 r c (.cmp op) a b
 |[op,op'],[b,d]=>if lastMarks [op,op'] [b,d] then none else(r.e c a).bind fun ma=>(r.e c b).bind fun mb=>(r.e c d).map fun md=>.chain op op' ma mb md
 |_,_=>none
noncomputable def bK3:Expr->Option (Option Expr×Option Expr×Option Expr)
 |.Slice lo hi st _=>some (lo,hi,st)
 |_=>none
noncomputable def xSl(a:Expr):Option Expr->Option Expr->Option Expr->Option ME
 |none,none,none=>c1 r c (.slc false false) a
 |some b,none,none=>c2 r c (.slc true false) a b
 |none,some b,none=>c2 r c (.slc false true) a b
 |_,_,_=>none
noncomputable def aT3(a b:Expr):Option ME:=((bK3 b).bind fun q=>xSl r c a q.1 q.2.1 q.2.2).orElse fun _=>if okE b then((c.aH9 a).bind fun kvs=>(r.e c b).map fun mb=>.prim .gget (.cons (.lit (.tup kvs)) (.cons mb .nil))).orElse fun _=>c2 r c .ix a b else none
noncomputable def xSp(x:Str)(e:Expr):Option ME:=(Q8 e).bind fun q =>
 if x="list" && q.1="range" && c.blt.contains "list" && c.blt.contains "range" && c.gl "range" then (match q.2 with
  |[a]=>if okE a then c1 r c .lrng1 a else none
  |[a,b]=>if okE a&&okE b then c2 r c .lrng2 a b else none
  | _=>none)
 else none
noncomputable def bD3(x:Str)(e:Expr):List Expr->Option ME
 |[]=>xSp r c x e
 |_=>none
noncomputable def ar1(x:Str):Option ME:=if L0 x&&c.gl x then(c.cls.lookup x).map fun f=>.make x f .nil else none
noncomputable def ar0(x:Str)(e:Expr)(es:List Expr):Option ME:=if L0 x&&c.gl x then(bD3 r c x e es).orElse fun _=>(z4 r c (e::es)).bind fun ms=>((c.fns.lookup x).map fun f=>.call f ms).orElse fun _=>((c.cls.lookup x).map fun f=>.make x f ms).orElse fun _=>if c.blt.contains x then(ax2.lookup x).map fun p=>.prim p ms else none else none
noncomputable def aK1(x:Str):List Expr->Option ME
 |[]=>ar1 c x
 |e::es=>ar0 r c x e es
noncomputable def c6.meths(m:Str):List (Str×Nat):=(c.mts.filter fun y=>decide (y.1=m)).map (·.2)
noncomputable def aq9(o:Expr)(m:Str)(apos pos:Pos)(args:List Expr):Option ME :=
 if W0 o && (apos.endLine == pos.line) && decide (args.length < 20) then (r.e c o).bind fun mo=>(z4 r c args).bind fun ms=>if m="index" then (if args.isEmpty then none else some (.meth .index mo ms)) else if args.isEmpty && (Q2.lookup m).isSome then (Q2.lookup m).map fun p=>.meth p mo ms else (match au2.lookup m with
  |some p=>if args.isEmpty then none else some (.meth p mo ms)
  | none=>some (.methc m (c.meths m) mo ms)) else none
noncomputable def aD5(f:Expr)(args:List Expr)(kws:List Keyword)(pos:Pos):Option ME:=if kws.isEmpty then(match f with
 |.Name x _=>aK1 r c x args
 |.Attribute o m apos=>aq9 r c o m apos pos args
 | _=>none) else none
noncomputable def ah5(tg e:Expr):Option ME:=(((Q8 e).bind fun q =>
  if q.1="range" then (match q.2 with
   |[a]=>if c.gl "range"&&c.blt.contains "range"&&okE a then(r.e c a).map .itR1 else none
   |[a,b]=>if c.gl "range"&&c.blt.contains "range"&&okE a&&okE b then(r.e c a).bind fun ma=>(r.e c b).map fun mb=>.itR2 ma mb else none
   | _=>none)
  else none):Option ME).orElse fun _=>if okE e then (r.e c e).map .itE else none
noncomputable def Y7(elt:Expr)(gens:List Comprehension)(sc:Scope):Option ME:=match gens with
 |[⟨tg,it,ifs,isa⟩]=>if c.aj5 sc&&decide (isa=0)&&okE it then((c.inner sc).tg tg).bind fun t=>(ah5 r c tg it).bind fun mi=>(aS2 r (c.inner sc) ifs).bind fun mc=>(r.e (c.inner sc) elt).map fun me=>.comp (c.b9 sc) (frees sc++locals sc).length t mi mc me else none
 |_=>none
noncomputable def bK4:Expr->Option Str
 |.Name x _=>some x
 |_=>none
noncomputable def xSC(f:Expr)(args:List Expr)(kws:List Keyword):Option ME:=(fun(_:CF) (_:c6)=>none) r c
noncomputable def bt2:Expr->Option (Expr×Expr)
 |.BinOp a .BitOr b _=>some (a,b)
 |_=>none
noncomputable def a23:List Expr->Option Str
 |[.Name x _]=>some x
 |_=>none
noncomputable def xSU(f:Expr)(args:List Expr)(kws:List Keyword):Option ME:=match args with
 |[a]=>if kws.isEmpty&&decide (bK4 f=some "sorted")&&c.gl "sorted"&&c.blt.contains "sorted"&&c.gl "set"&&c.blt.contains "set" then(bt2 a).bind fun q=>(Q8 q.1).bind fun u=>(Q8 q.2).bind fun v=>if decide (u.1="set")&&decide (v.1="set") then(a23 u.2).bind fun x=>(a23 v.2).bind fun y=>if L0 x&&L0 y&&c.vis x&&c.vis y then(c.idx x).bind fun i=>(c.idx y).map fun j=>.prim .sun (.cons (.var i) (.cons (.var j) .nil)) else none else none else none
 |_=>none
noncomputable def a44:Expr->Option ME
 |.Name x _=>aD4 c x
 |.Constant k _ _=>(U3 k).map .lit
 |.BinOp a op b _=>c2 r c (.bin op) a b
 |.UnaryOp op a _=>xUn r c op a
 |.Compare a ops bs _=>aq8 r c a ops bs
 |.BoolOp op vs _=>aq5 r c op vs
 |.IfExp t a b _=>(r.t c t).bind fun mt=>(r.e c a).bind fun ma=>(r.e c b).map fun mb=>.ite mt ma mb
 |.Tuple es _ _=>(z4 r c es).map (.prim .tup)
 |.List es _=>(z4 r c es).map (.prim .lst)
 |.Subscript a b _=>aT3 r c a b
 |.Dict ks vs _=>if ks.isEmpty&&vs.isEmpty then some (.prim .dnew .nil) else if decide (ks.length<=15) then(ah7 r c ks vs).map .dct else none
 |.JoinedStr vs _=>if decide (2<=vs.length)&&decide (vs.length<=40) then(aa7 r c vs).map (.prim .fstr) else none
 |.Attribute o f _=>if W0 o then c1 r c (.fld f) o else none
 |.Call f args kws pos=>(xSC r c f args kws).orElse fun _=>(xSU c f args kws).orElse fun _=>aD5 r c f args kws pos
 |.ListComp elt gens sc _=>Y7 r c elt gens sc
 |_=>none
noncomputable def stepT:Expr->Option ME
 |.UnaryOp op a _=>if op=.Not then(r.t c a).map .not_ else none
 |.BoolOp op vs _=>aq4 r c op vs
 |.Compare a ops bs _=>(aq8 r c a ops bs).map .tst
 |e=>if V7 e then(r.e c e).map .tst else none
noncomputable def c6.aF4:List Expr->Expr->Bool
 |[.Name x px,.Name y py],.Tuple [a,b] _ _=>decide (c.nm.lookup x=some .local)&&decide (c.nm.lookup y=some .local)&&decide (x≠y)&&decide (py.line=px.line)&&okE a&&okE b&&!([a,b].all (foldedForSure 8))&&!([a,b].all (constantsAlone 8))
 |_,_=>false
noncomputable def a67:Expr->Option ME
 |.Constant k _ _=>(U3 k).map .lit
 |_=>none
noncomputable def ah4:List Expr->Option ME
 |[]=>some .nil
 |e::es=>(a67 e).bind fun m=>(ah4 es).map fun ms=>.cons m ms
noncomputable def a68:Expr->Option ME
 |.List es _=>(ah4 es).map (.prim .lst)
 |.Constant k _ _=>(U3 k).map .lit
 |_=>none
noncomputable def ax4:ExceptHandler->Option (Str×Expr)
 |.ExceptHandler (some (.Name y _)) none [.Return (some e) _] _=>some (y,e)
 |_=>none
noncomputable def ah6:List ExceptHandler->Option (List (Str×ME))
 |[]=>some []
 |h::hs=>(ax4 h).bind fun q=>if c.exc.contains q.1&&c.gl q.1&&L0 q.1 then(a68 q.2).bind fun m=>(ah6 hs).map fun ms=>(q.1,m)::ms else none
noncomputable def al1:Option Expr->Option Expr->Option (Str×Expr×List Expr)
 |some (.Call (.Name x _) (e::es) [] _),none=>some (x,e,es)
 |_,_=>none
noncomputable def c6.ak4(f:Str):List Str:=(c.fls.filter fun y=>decide (y.1=f)).map (·.2)
noncomputable def bl9(tg e:Expr):Option MS:=match tg with
 |.Name x _=>if c.s9 x then(c.idx x).bind fun i=>(r.e c e).map fun m=>.set i m else none
 |.Tuple es _ _=>if(af8 e&&o9 e)||c.aF4 es e then(c.slots es).bind fun is=>(r.e c e).map fun m=>.unp (.many is) m else none
 |.Subscript o i _=>if okE i&&o9 e then(r.e c o).bind fun mo=>(r.e c i).bind fun mi=>(r.e c e).map fun m=>.setix mo mi m else none
 |.Attribute o f _=>if o9 e then(r.e c o).bind fun mo=>(r.e c e).map fun m=>.setf f (c.ak4 f) mo m else none
 |_=>none
noncomputable def toR(e:Expr):ME->ME
 |.comp a n t i k (.methc x y z w)=>if !o9 e&&c.tryb then .rcomp a n t i k (.methc x y z w) else .comp a n t i k (.methc x y z w)
 |m=>m
noncomputable def a43:Stmt->Option MS
 |.Expr e _=>if o9 e then(r.e c e).map .expr else none
 | .Assign tgs e _=>(match tgs with
  |[tg]=>bl9 r c tg e
  | _=>none)
 | .AugAssign tg op e _=>(match tg with
  |.Attribute o f _=>if decide (op=.Add) then(r.e c o).bind fun mo=>(r.e c e).map fun m=>.augf f (c.ak4 f) mo m else none
  | _=>none)
 |.If t a b _=>(r.t c t).bind fun mt=>(j9 r c a).bind fun ma=>(j9 r c b).map fun mb=>.ifs mt ma mb
 |.For tg it body els _=>if c.fnb&&(els.isEmpty&&okE it) then(c.tg tg).bind fun t=>(ah5 r c tg it).bind fun mi=>(j9 r c body).map fun mb=>.for_ t mi mb else none
 |.While t body els _=>if c.fnb&&els.isEmpty then(r.t c t).bind fun mt=>(j9 r c body).map fun mb=>.whil mt mb else none
 | .Return e _=>(match e with
  |some e=>(r.e c e).map fun m=>.ret (toR c e m)
  | none=>some .retn)
 |.Pass _=>some .pass
 |.Raise e f _=>(al1 e f).bind fun q=>if c.rais&&c.exc.contains q.1&&c.gl q.1&&L0 q.1 then(z4 r c (q.2.1::q.2.2)).map (.raise q.1) else none
 |.Try body hs el fi _=>if c.tryb&&!hs.isEmpty&&el.isEmpty&&fi.isEmpty then(j9 r { c with rais:=false,tryb:=false } body).bind fun mb=>(ah6 c hs).map fun ms=>.R0 mb ms else none
 |_=>none
end
noncomputable def comp:Nat->CF
 |0=>⟨fun _ _=>none,fun _ _=>none,fun _ _=>none⟩
 |n+1=>⟨a44 (comp n),stepT (comp n),a43 (comp n)⟩
end M

namespace M
open PySem L2 PySem.Spec PyProof.Rows
structure COk(X:Cx)(c:c6)(P:Sig)(Ξ:XKE):Prop where
 N:X.N=c.N
 nd:c.N.Nodup
 loc:∀x,c.nm.lookup x=some .local->X.env.scope.names.lookup x=some .local
 cel:∀x,c.nm.lookup x=some .cell->X.env.scope.names.lookup x=some .cell
 fre:∀x,c.nm.lookup x=some .free->X.env.scope.names.lookup x=some .cell\/X.env.scope.names.lookup x=some .free
 glo:∀x,c.nm.lookup x=some .globalImplicit->X.env.scope.names.lookup x=some .globalImplicit
 cells:∀x,(c.nm.lookup x=some .cell\/c.nm.lookup x=some .free)->∃a,X.env.cells.lookup x=some a
 fnb:c.fnb=true->∀x,X.fn x=true
 calm:X.calm=true
 units:X.A.units+100<cLine
 own:c.fnb=true->PassesOwn (model X.prog X.w) X.A X.env X.xe
 mono:e9 P
 con:∀x d,c.con.lookup x=some d->∃v u,X.mg x=some u/\RelV v u/\∀ρ H,b7 X.K ρ H d v
 blt:∀x,c.blt.contains x=true->X.mg x=none
 fns:∀x f,c.fns.lookup x=some f->∃k fa fd ps,FnR X P Ξ.1 k f fa fd ps/\j7 k X.A/\X.mg x=some (.ref fa)/\PySem.W.keepIn X.K (.ref fa)=true
 cls:∀x f,c.cls.lookup x=some f->∃k C fa fd ps,FnR X P Ξ.1 k f fa fd ps/\j7 (k+1) X.A/\X.mg x=some (.ref C)/\j3 X.K x C/\Cls X.K C/\Mk X.K C fa
 mts:∀m y f C,(m,y,f)∈c.mts->j3 X.K y C->∃k fa fd ps,Meth X.K C m fa/\FnR X P Ξ.1 k f fa fd ps/\j7 k X.A
 fls:∀f y C,(f,y)∈c.fls->j3 X.K y C->m9 X.K C f
 exq:Ξ.1=c.exc
 pass:Passes (CXE X.prog X.w) X Ξ.2
 rais:c.rais=true->ab0 X Ξ.2
 tryb:c.tryb=true->X.stack=X.env::X.outer/\X.env.frame=some X.env.locals/\Q9 X Ξ.2
 exc:∀x,c.exc.contains x=true->∃C,X.mg x=some (.ref C)/\j3 X.K x C/\∃B newId initId bm,OwnCls x C bm newId X.mg X.base/\ExcBaseFacts B newId initId bm
 exm:∀x y C C',c.exc.contains x=true->c.exc.contains y=true->j3 X.K x C->j3 X.K y C'->PySem.W.exmOne X.K (.ref C) (.ref C')=some (decide (x=y\/y="MintError"))
 gdc:∀x kvs,c.gd.lookup x=some kvs->aq7 X x kvs
section
variable{X:Cx}{c:c6}{P:Sig}{Ξ:XKE}
theorem be5{c:c6}{x:Str}{i:Nat}(h:c.idx x=some i):c.N[i]?=some x:=by
 unfold c6.idx at h;rw[List.findIdx?_eq_some_iff_getElem] at h;obtain⟨h1,h2,_⟩:=h;rw[List.getElem?_eq_getElem h1,of_decide_eq_true h2]
theorem COk.aD9(C:COk X c P Ξ){x:Str}(h:c.vis x=true):Vis X.env.scope x:=by
 unfold c6.vis at h;split at h
 ·rename_i e;exact .inl (C.loc x e)
 ·rename_i e;exact .inr (.inl (C.cel x e))
 ·rename_i e;rcases C.fre x e with z|z
  ·exact .inr (.inl z)
  ·exact .inr (.inr z)
 ·cases h
theorem COk.t7(C:COk X c P Ξ){x:Str}(h:c.gl x=true):Gl X x:=C.glo x (of_decide_eq_true h)
theorem COk.s9(C:COk X c P Ξ){x:Str}(h:c.s9 x=true):Loc X.env.scope x/\(X.fn x=true\/X.env.scope.names.lookup x=some .local):=by
 unfold c6.s9 at h;rw[Bool.or_eq_true] at h;rcases h with h|h
 ·have:=C.loc x (of_decide_eq_true h);exact⟨.inl this,.inr this⟩
 ·rw[Bool.and_eq_true] at h;exact⟨.inr (C.cel x (of_decide_eq_true h.2)),.inl (C.fnb h.1 x)⟩
theorem COk.Y1(C:COk X c P Ξ){x:Str}{i:Nat}(h:c.idx x=some i):X.N[i]?=some x:=by rw[C.N];exact be5 h
theorem COk.ndN(C:COk X c P Ξ):X.N.Nodup:=by rw[C.N];exact C.nd
theorem ai5{e:Expr}{x:Str}(h:asName e=some x):∃p,e=.Name x p:=by
 cases e<;>first|(cases h;exact⟨_,rfl⟩)|cases h
theorem as1{e:Expr}{i:Nat}(h:c.slot e=some i):∃x p,e=.Name x p/\c.s9 x=true/\c.idx x=some i:=by
 unfold c6.slot at h;obtain⟨x,hx,h2⟩:=Option.bind_eq_some_iff.mp h;obtain⟨p,rfl⟩:=ai5 hx;split at h2
 ·exact⟨x,p,rfl,by assumption,h2⟩
 ·cases h2
theorem COk.slots(C:COk X c P Ξ):∀{es:List Expr} {is:List Nat},c.slots es=some is->SlotsOk X es is:=by
 intro es
 induction es with
 |nil=>intro is h;cases h;exact .nil
 |cons e r ih =>
  intro is h;unfold c6.slots at h;obtain⟨i,hi,h⟩:=Option.bind_eq_some_iff.mp h;obtain⟨is',hs,rfl⟩:=Option.map_eq_some_iff.mp h;obtain⟨x,p,rfl,hl,hx⟩:=as1 hi;exact .cons (C.Y1 hx) (C.s9 hl).1 (C.s9 hl).2 (ih hs)
theorem orElse_some{α:Type}{a:Option α}{b:Unit->Option α}{m:α}(h:a.orElse b=some m):a=some m\/b ()=some m:=by
 cases a with
 |none=>exact .inr h
 |some x=>exact .inl h
theorem COk.bh8(C:COk X c P Ξ){tg:Expr}{t:MT}(h:c.tg tg=some t):PG X tg (LG X.K t):=by
 unfold c6.tg at h;rcases orElse_some h with h|h
 ·obtain⟨i,hi,rfl⟩:=Option.map_eq_some_iff.mp h;obtain⟨x,p,rfl,hl,hx⟩:=as1 hi;exact bk3 C.ndN (C.Y1 hx) (C.s9 hl).1 (C.s9 hl).2
 ·cases tg<;>first|(cases h;done)|skip
  obtain⟨is,hs,rfl⟩:=Option.map_eq_some_iff.mp (show(c.slots _).map MT.many=some t from h);exact aA2 C.calm C.ndN (C.slots hs)
theorem i9{e:Expr}{es:List Expr}{env:Env}(h:okE e=true):starEach (e::es) env=(false,eval e env)::starEach es env:=by
 cases e<;>first|rfl|cases h
theorem S3{e:Expr}{env:Env}(h:okE e=true):∀x,foldedSetIterable e env x=pure x:=by
 intro x;cases e<;>first|rfl|cases h
theorem aO4{e:Expr}(h:okE e=true):al4 e:=by
 intro o i;cases e<;>first|rfl|cases h
theorem bc8{o i:Expr}{tp:Pos}{env:Env}(h:okE i=true):∀v,assign (.Subscript o i tp) env v=(do
      let ov <- holding [v] (eval o env)
      let iv <- holding [v,ov] (eval i env)
      standAt tp
      holding [v,ov,iv] (setItem ov iv v)
      release [v,ov,iv] []):=by
  intro v;cases i<;>first|rfl|cases h
theorem N3{e:Expr}{t:Option Expr}{n:Nat}{env:Env}(h:o9 e=true):swapsWith e t n env=pure false:=by
 cases e<;>first|rfl|cases h
theorem aY0{e:Expr}{es:List Expr}{k:Nat}{p:Pos}{env:Env}(h:af8 e=true):swappedStores [.Tuple es k p] e env=pure none:=by
 cases e<;>first|rfl|cases h
theorem aN2{e:Expr}{env:Env}(h:V7 e=true):∀whole,isTrue e env whole=(do let v <- whole;standAt e.pos;holding [v] (truthy v)):=by
 intro w;cases e<;>first|rfl|cases h
theorem E8{e:Expr}{q:Str×List Expr}(h:Q8 e=some q):∃p pos,e=.Call (.Name q.1 p) q.2 [] pos:=by
 cases e<;>first|(cases h;done)|skip
 rename_i f as kws pos;cases f<;>first|(cases h;done)|skip
 cases kws<;>first|(cases h;done)|skip
 cases h;exact⟨_,_,rfl⟩
theorem ax3{l:List Expr}{x:Str}(h:a23 l=some x):∃p,l=[.Name x p]:=by
 rcases l with _|⟨e,_|⟨_,_⟩⟩
 ·cases h
 ·cases e<;>first|(cases h;exact⟨_,rfl⟩)|cases h
 ·cases e<;>cases h
theorem a25{e:Expr}{q:Expr×Expr}(h:bt2 e=some q):∃p,e=.BinOp q.1 .BitOr q.2 p:=by
 cases e<;>first|(cases h;done)|skip
 rename_i a op b p;cases op<;>first|(cases h;exact⟨_,rfl⟩)|cases h
theorem av5{b:Expr}{kvs:List D}(h:c.aH9 b=some kvs):∃x p,b=.Name x p/\c.gl x=true/\L0 x=true/\c.gd.lookup x=some kvs:=by
 unfold c6.aH9 at h;obtain⟨x,hx,h2⟩:=Option.bind_eq_some_iff.mp h;obtain⟨p,rfl⟩:=ai5 hx;split at h2
 ·rename_i hc;rw[Bool.and_eq_true] at hc;exact⟨x,p,rfl,hc.1,hc.2,h2⟩
 ·cases h2
theorem A9{o:Expr}{f:Str}{env:Env}(h:W0 o=true):attributeBase o f env (eval o env)=eval o env:=by
 cases o<;>first|rfl|skip
 rename_i f as kws pos;cases f<;>first|rfl|cases h
theorem ak8{env:Env}:∀(names:List (Str×NameKind)) (acc:List (Str×Addr)),(∀y∈names,y.2=.free->∃a,env.cells.lookup y.1=some a)->(∀x a,acc.lookup x=some a->env.cells.lookup x=some a) ->
  ∃ cl,(forIn names acc fun (y:Str × NameKind) (cs:List (Str × Addr))=>(match y with
   |(name,kind)=>if(kind==NameKind.free)=true then do
     let __do_lift <- cellOf env name
     pure (ForInStep.yield ((name,__do_lift)::cs))
    else pure (ForInStep.yield cs):Sem (ForInStep (List (Str × Addr)))))=pure cl/\(∀ x a,cl.lookup x=some a->env.cells.lookup x=some a)/\(∀ y ∈ names,y.2=.free->∃ a,cl.lookup y.1=some a)/\∀ x a,acc.lookup x=some a->∃ a',cl.lookup x=some a'
 |[],acc,_,h2=>⟨acc,rfl,h2,fun y hy=>absurd hy (by simp),fun x a h=>⟨a,h⟩⟩
 |(n,k)::r,acc,h1,h2=>by
  rw[List.forIn_cons];by_cases hk:k=.free
  ·subst hk;obtain⟨a,ha⟩:=h1 (n,.free) (by simp) rfl;have hc:cellOf env n=pure a:=by unfold cellOf;rw[ha]
   obtain ⟨cl,e,q1,q2,q3⟩:=ak8 r ((n,a) :: acc) (fun y hy=>h1 y (by simp [hy])) (fun x b hb=>by
    rw[List.lookup_cons] at hb;cases hx:x==n with
    |true=>rw[hx] at hb;cases hb;rw[eq_of_beq hx];exact ha
    | false=>rw [hx] at hb;exact h2 x b hb)
   refine⟨cl,?_,q1,fun y hy hf=>?_,fun x b hb=>?_⟩
   ·simp only[beq_self_eq_true,if_true,hc];exact e
   ·rcases List.mem_cons.mp hy with z|z
    ·subst z;exact q3 n a (by simp[List.lookup_cons])
    ·exact q2 y z hf
   ·cases hx:x==n with
    |true=>exact q3 x a (by rw[List.lookup_cons,hx])
    |false=>exact q3 x b (by rw[List.lookup_cons,hx];exact hb)
  ·have hb:(k==NameKind.free)=false:=by simpa using hk
   obtain⟨cl,e,q1,q2,q3⟩:=ak8 r acc (fun y hy=>h1 y (by simp[hy])) h2;refine⟨cl,?_,q1,fun y hy hf=>?_,q3⟩
   ·simp only[hb,Bool.false_eq_true,if_false];exact e
   ·rcases List.mem_cons.mp hy with z|z
    ·subst z;exact absurd hf hk
    ·exact q2 y z hf
end
end M

namespace M
open PySem L2 PySem.Spec PyProof.Rows
theorem aO0{P:Program}{w:World}{X:Cx}:Passes (CXE P w) X (fun _ _ _=>False):=fun _ _ _ _ _ _ _ h=>by
 obtain⟨_,_,_,_,_,_,_,z⟩:=h;exact z.elim
theorem G6{env:Env}:∀{names:List (Str×NameKind)} {x:Str},names.lookup x=some .globalImplicit ->
  (names.map fun(n,k)=>if(k==NameKind.free&&env.scope.kind==.function&&env.kindOf n==some .cell) then(n,NameKind.cell) else(n,k)).lookup x=some .globalImplicit
 |[],_,h=>by simp at h
 |(n,k)::r,x,h=>by
  have ih:=@G6 env r x;show List.lookup x ((if(k==NameKind.free&&env.scope.kind==.function&&env.kindOf n==some .cell)=true then(n,NameKind.cell) else(n,k))::_)=_;cases hx:x==n with
  |true =>
   simp only[List.lookup_cons,hx] at h;cases h;simp[List.lookup_cons,hx]
  |false =>
   simp only[List.lookup_cons,hx] at h;by_cases hc:(k==NameKind.free&&env.scope.kind==.function&&env.kindOf n==some .cell)=true
   ·rw[if_pos hc];simp only[List.lookup_cons,hx];exact ih h
   ·rw[if_neg hc];simp only[List.lookup_cons,hx];exact ih h
section
variable{X:Cx}{c:c6}{P:Sig}{Ξ:XKE}
theorem COk.comp(C:COk X c P Ξ){sc:Scope}(h:c.aj5 sc=true):∃cl,CompScope X sc (frees sc++locals sc) (c.b9 sc) cl/\∀pins A s H fp,COk (c8 X pins sc (frees sc++locals sc) cl A s H fp) (c.inner sc) P (XK0 Ξ.1):=by
 unfold c6.aj5 at h;simp only[Bool.and_eq_true,decide_eq_true_eq,List.all_eq_true] at h;obtain⟨⟨⟨⟨h1,h2⟩,h3⟩,h4⟩,h5⟩:=h;have hfree:∀x,sc.names.lookup x=some .free->x∈frees sc:=fun x hx=>by
  unfold frees;exact List.mem_map.mpr ⟨(x,.free),List.mem_filter.mpr ⟨PySem.mem_of_lookup hx,by simp⟩,rfl⟩
 have fr:∀x∈frees sc,(∃i,c.idx x=some i)/\sc.names.lookup x=some .free/\(c.nm.lookup x=some .cell\/c.nm.lookup x=some .free):=fun x hx=>by
  have:=h5 x hx;rw[Option.isSome_iff_exists,Bool.or_eq_true] at this;simp only[decide_eq_true_eq] at this;exact⟨this.1.1,this.1.2,this.2⟩
 have cellOk:∀y∈sc.names,y.2=.free->∃a,X.env.cells.lookup y.1=some a:=fun y hy hf=>by
  have hm:y.1∈frees sc:=List.mem_map.mpr ⟨y,List.mem_filter.mpr ⟨hy,by simp[hf]⟩,rfl⟩;exact C.cells y.1 (fr y.1 hm).2.2
 obtain⟨cl,e,q1,q2,_⟩:=ak8 sc.names [] cellOk (fun x a h=>by simp at h);refine⟨cl,⟨h1,h2,fun y hy hl=>?_,?_,q1,fun x hx=>q2 (x,.free) (PySem.mem_of_lookup hx) rfl,h4,fun i j hij=>?_,?_⟩,fun pins A s H fp=>?_⟩
 ·have:=h3 y hy;rw[Bool.or_eq_true] at this;simp only[Bool.not_eq_true',decide_eq_false_iff_not,decide_eq_true_eq] at this;exact this.resolve_left fun z=>z hl
 ·simp only[closureFor];rw[e]
  rfl
 ·unfold c6.b9 at hij;rw[List.getElem?_map] at hij;cases ex:(frees sc)[i]? with
  |none=>rw[ex] at hij;cases hij
  |some x =>
   rw[ex] at hij;have hx:x∈frees sc:=List.mem_of_getElem? ex;obtain⟨⟨k,hk⟩,hl,hc⟩:=fr x hx;have hj:k=j:=by
    have:=Option.some.inj hij;dsimp only at this;rw[hk] at this;exact this
   subst hj;refine⟨x,?_,C.Y1 hk,hl,?_⟩
   ·rw[List.getElem?_append_left (List.getElem?_eq_some_iff.mp ex).1];exact ex
   ·rcases hc with z|z
    ·exact .inl (C.cel x z)
    ·exact C.fre x z
 ·unfold c6.b9;rw[List.length_map,List.length_append];omega
 ·refine⟨rfl,h4,fun x hx=>lookup_relabel_local hx,fun x hx=>?_,fun x hx=>v8 hx,fun x hx=>G6 hx,fun x hx=>?_,fun z=>?_,rfl,C.units,(fun _=>PassesOwn.never),C.mono,C.con,C.blt,C.fns,C.cls,C.mts,C.fls,C.exq,aO0,(fun z=>by cases z),(fun z=>by cases z),C.exc,C.exm,C.gdc⟩
  ·exact absurd rfl (h2 _ (PySem.mem_of_lookup hx))
  ·rcases hx with hx|hx
   ·exact absurd rfl (h2 _ (PySem.mem_of_lookup hx))
   ·exact q2 (x,.free) (PySem.mem_of_lookup hx) rfl
  ·cases z
theorem COk.block{pins:List (Addr×Obj)}{sc:Scope}{N':List Str}{cl:List (Str×Addr)}{A:Addr}{s:Shared}{H:Hp}{fp:List Addr}(I:COk (c8 X pins sc N' cl A s H fp) (c.inner sc) P (XK0 Ξ.1)):COk ((c8 X pins sc N' cl A s H fp).G5 (ai2 X Ξ.2 pins sc N' cl fp A s H)) (c.inner sc) P Ξ :=
 ⟨I.N,I.nd,I.loc,I.cel,I.fre,I.glo,I.cells,I.fnb,I.calm,I.units,(fun z=>by cases z),I.mono,I.con,I.blt,I.fns,I.cls,I.mts,I.fls,I.exq,fun pins1 σ1 H1 s1 e s' J h=>⟨pins1,σ1,H1,s1,J.ae7,h⟩,(fun z=>by cases z),(fun z=>by cases z),I.exc,I.exm,I.gdc⟩
theorem v5{x:Str}(h:L0 x=true):(x==("__debug__":Str))=false/\(x==("__classdict__":Str))=false/\x≠"__name__":=by
 unfold L0 at h;simp only[Bool.and_eq_true,decide_eq_true_eq,beq_iff_eq] at h;exact⟨h.1.1,h.1.2,h.2⟩
theorem aT6{x:Str}{t:String}(h:aE0.lookup x=some t):bootBuiltins x=some (.type t):=by
 have hm:=PySem.mem_of_lookup h;simp only[aE0,List.mem_cons,List.mem_nil_iff,or_false] at hm;rcases hm with z|z|z|z|z<;>(cases z;first|exact PyProof.Rows.boot_int|exact PyProof.Rows.boot_bool|exact PyProof.Rows.boot_str|exact PyProof.Rows.boot_tuple|exact PyProof.Rows.boot_list|decide +kernel|rfl)
theorem aS5{x:Str}{p:Pr}(hc:X.calm=true)(h:ax2.lookup x=some p):∃v,((∃id,v=.builtin id)\/∃T,v=.type T)/\bootBuiltins x=some v/\j4 X v (rN X.K p):=by
 have hm:=PySem.mem_of_lookup h;simp only[ax2,List.mem_cons,List.mem_nil_iff,or_false] at hm;rcases hm with z|z|z|z|z|z|z|z
 ·cases z;exact⟨.builtin "len",.inl ⟨_,rfl⟩,PySem.boot_len,bq3⟩
 ·cases z;exact⟨.type "list",.inr ⟨_,rfl⟩,by first|exact PyProof.Rows.boot_list|decide +kernel,bd8⟩
 ·cases z;exact⟨.type "tuple",.inr ⟨_,rfl⟩,by first|exact PyProof.Rows.boot_tuple|decide +kernel,aT8⟩
 ·cases z;exact⟨.builtin "isinstance",.inl ⟨_,rfl⟩,by first|exact PyProof.Rows.boot_isinstance|decide +kernel,be3⟩
 ·cases z;exact⟨.builtin "all",.inl ⟨_,rfl⟩,by first|exact PyProof.Rows.boot_all|decide +kernel,bt3 hc⟩
 ·cases z;exact⟨.type "int",.inr ⟨_,rfl⟩,by first|exact PyProof.Rows.boot_int|decide +kernel,br3⟩
 ·cases z;exact⟨.type "str",.inr ⟨_,rfl⟩,by first|exact PyProof.Rows.boot_str|decide +kernel,bj2⟩
 ·cases z;exact⟨.type "dict",.inr ⟨_,rfl⟩,by first|exact PyProof.Rows.boot_dict|decide +kernel,a07⟩
theorem aG7{x:Str}{p:Pr}(h:Q2.lookup x=some p):∃T id,PlainAttrs T/\Slot T x id/\typeOf (.builtin id)=pure (.type "method_descriptor")/\MtR X id (rM X.K p) /\
  ∀{d:D} {v:V} {g:G} {ρ:List Addr} {H:Hp},Rl X.K ρ g H->b7 X.K ρ H d v->mkP p d g->tyV X.K T v H:=by
 have hm:=PySem.mem_of_lookup h;simp only[Q2,List.mem_cons,List.mem_nil_iff,or_false] at hm;rcases hm with z|z
 ·cases z;exact⟨_,_,PySem.F.plainAttrs_list,PySem.F.slot_list_clear,PySem.F.type_list_clear,a13,fun R r h=>ty_list R r h⟩
 ·cases z;exact⟨_,_,PySem.F.plainAttrs_list,PySem.F.slot_list_pop,PySem.F.type_list_pop,bb4,fun R r h=>ty_list R r h⟩
theorem aP5{x:Str}{p:Pr}(hu:X.A.units+100<cLine)(h:au2.lookup x=some p):∃T id,PlainAttrs T/\Slot T x id/\typeOf (.builtin id)=pure (.type "method_descriptor")/\MtR X id (rM X.K p) /\
  ∀{d:D} {v:V} {g:G} {ρ:List Addr} {H:Hp},Rl X.K ρ g H->b7 X.K ρ H d v->mkP p d g->tyV X.K T v H:=by
 have hm:=PySem.mem_of_lookup h;simp only[au2,List.mem_cons,List.mem_nil_iff,or_false] at hm;rcases hm with z|z
 ·cases z;exact⟨_,_,PySem.F.plainAttrs_list,PySem.F.slot_list_append,PySem.F.type_list_append,aS7,fun R r h=>ty_list R r h⟩
 ·cases z;exact⟨_,_,PySem.F.plainAttrs_str,PySem.F.slot_str_join,PySem.F.type_str_join,be0,fun R r h=>ty_str R r h⟩
theorem ar9{pos:Pos}{env:Env}:∀{es:List Expr},(∀e∈es,okE e=true)->(backTo pos (starEach es env)).all (fun x=>!x.1)=true
 |[],_=>rfl
 |e::es,h=>by
  rw[i9 (h e (by simp))];have ih:=ar9 (pos:=pos) (env:=env) (es:=es) fun x hx=>h x (by simp[hx]);unfold backTo at ih ⊢;rw[List.map_cons,List.all_cons,ih]
  rfl
theorem K5{pos:Pos}{env:Env}:∀{es:List Expr},(∀e∈es,okE e=true)->(backTo pos (starEach es env)).any (·.1)=false
 |[],_=>rfl
 |e::es,h=>by
  rw[i9 (h e (by simp))];have ih:=K5 (pos:=pos) (env:=env) (es:=es) fun x hx=>h x (by simp[hx]);unfold backTo at ih ⊢;rw[List.map_cons,List.any_cons,ih]
  rfl
theorem ad9{r:CF}:∀{es:List Expr} {m:ME},z4 r c es=some m->∀e∈es,okE e=true:=by
 intro es
 induction es with
 |nil=>intro m _ e he;exact absurd he (by simp)
 |cons a es ih =>
  intro m h e he;unfold z4 at h;split at h
  ·obtain⟨m1,h1,h⟩:=Option.bind_eq_some_iff.mp h;obtain⟨m2,h2,_⟩:=Option.map_eq_some_iff.mp h;rcases List.mem_cons.mp he with z|z
   ·rw[z];assumption
   ·exact ih h2 e z
  ·cases h
end
theorem aJ3{a:Expr}{x:Str}(h:aS6 a=some x):∃j p,a=.Constant (.str x) j p:=by
 cases a with
 |Constant k j p=>cases k with
  |str y=>cases h;exact⟨_,_,rfl⟩
  |_=>cases h
 |_=>cases h
theorem a24{a e:Expr}(h:bt1 a=some e):∃p,a=.FormattedValue e (-1) none p:=by
 cases a with
 |FormattedValue v k f p=>cases f with
  |none =>
   have h2:(if k=-1 then some v else none)=some e:=h;split at h2
   ·rename_i hk;cases h2;rw[hk];exact⟨_,rfl⟩
   ·cases h2
  |some _=>cases h
 |_=>cases h
structure Snd(P:Sig)(r:CF):Prop where
 e:∀X c Ξ,COk X c P Ξ->∀e m,r.e c e=some m->PE X e (LE X.K Ξ (wpE P m))
 t:∀X c Ξ,COk X c P Ξ->∀e m,r.t c e=some m->PT X e (LT X.K Ξ (wpT P m))
 s:∀X c Ξ,COk X c P Ξ->∀st m,r.s c st=some m->PS X st (LS X.K Ξ (wpS P m))
section
variable{X:Cx}{c:c6}{P:Sig}{Ξ:XKE}{r:CF}(S:Snd P r)(C:COk X c P Ξ){a b d e:Expr}{m:ME}{pos:Pos}
include S C
theorem ai1{p:Pr}(h:c1 r c p a=some m):∃ma,PE X a (LE X.K Ξ (wpE P ma))/\m=.prim p (.cons ma .nil):=by
 obtain⟨ma,ha,rfl⟩:=Option.map_eq_some_iff.mp h;exact⟨ma,S.e X c Ξ C _ _ ha,rfl⟩
theorem Q6{p:Pr}(h:c2 r c p a b=some m):∃ma mb,PE X a (LE X.K Ξ (wpE P ma))/\PE X b (LE X.K Ξ (wpE P mb))/\m=.prim p (.cons ma (.cons mb .nil)):=by
 obtain⟨ma,ha,h⟩:=Option.bind_eq_some_iff.mp h;obtain⟨mb,hb,rfl⟩:=Option.map_eq_some_iff.mp h;exact⟨ma,mb,S.e X c Ξ C _ _ ha,S.e X c Ξ C _ _ hb,rfl⟩
theorem n_A:∀{es:List Expr} {m:ME},z4 r c es=some m->PA X es (LA X.K Ξ (wpA P m)):=by
 intro es
 induction es with
 |nil=>intro m h;cases h;exact P4 C.mono
 |cons a es ih =>
  intro m h;unfold z4 at h;split at h
  ·rename_i hok;obtain⟨m1,h1,h⟩:=Option.bind_eq_some_iff.mp h;obtain⟨m2,h2,rfl⟩:=Option.map_eq_some_iff.mp h;exact A7 C.mono (S.e X c Ξ C _ _ h1) (ih h2) (i9 hok)
  ·cases h
theorem n_F:∀{es:List Expr} {m:ME},aa7 r c es=some m->∃ts,FOk X Ξ P es m ts:=by
 intro es
 induction es with
 |nil=>intro m h;cases h;exact⟨_,.nil⟩
 |cons a es ih =>
  intro m h;unfold aa7 at h;rcases orElse_some h with h1|h1
  ·obtain⟨x,hx,h2⟩:=Option.bind_eq_some_iff.mp h1;obtain⟨j,p,rfl⟩:=aJ3 hx;split at h2
   ·obtain⟨m2,h3,rfl⟩:=Option.map_eq_some_iff.mp h2;obtain⟨ts,F⟩:=ih h3;exact⟨_,.lit (by assumption) F⟩
   ·cases h2
  ·obtain⟨x,hx,h2⟩:=Option.bind_eq_some_iff.mp h1;obtain⟨m1,h3,h4⟩:=Option.bind_eq_some_iff.mp h2;obtain⟨m2,h5,rfl⟩:=Option.map_eq_some_iff.mp h4;obtain⟨p,rfl⟩:=a24 hx;obtain⟨ts,F⟩:=ih h5;exact⟨_,.val (S.e X c Ξ C _ _ h3) F⟩
theorem n_D:∀{ks:List (Option Expr)} {vs:List Expr} {m:ME},ah7 r c ks vs=some m->∃trs,DOk X Ξ P ks vs m trs:=by
 intro ks
 induction ks with
 |nil=>intro vs m h;cases vs<;>first|(cases h;exact⟨_,.nil⟩)|cases h
 |cons k ks ih =>
  intro vs m h;cases k<;>first|(cases h;done)|skip
  cases vs<;>first|(cases h;done)|skip
  unfold ah7 at h;obtain⟨m1,h1,h⟩:=Option.bind_eq_some_iff.mp h;obtain⟨m2,h2,h⟩:=Option.bind_eq_some_iff.mp h;obtain⟨m3,h3,rfl⟩:=Option.map_eq_some_iff.mp h;obtain⟨trs,D⟩:=ih h3;exact⟨_,.cons (S.e X c Ξ C _ _ h1) (S.e X c Ξ C _ _ h2) D⟩
theorem n_B{op:BoolOp}:∀{vs:List Expr} {m:ME},aq5 r c op vs=some m->PE X (.BoolOp op vs pos) (LE X.K Ξ (wpE P m)):=by
 intro vs
 induction vs with
 |nil=>intro m h;cases h
 |cons a vs ih =>
  intro m h;cases vs with
  |nil=>exact bn6 (S.e X c Ξ C _ _ h)
  |cons b vs =>
   unfold aq5 at h;obtain⟨m1,h1,h⟩:=Option.bind_eq_some_iff.mp h;obtain⟨m2,h2,rfl⟩:=Option.map_eq_some_iff.mp h;cases op
   ·exact bl6 C.mono (S.e X c Ξ C _ _ h1) (ih h2)
   ·exact bw1 C.mono (S.e X c Ξ C _ _ h1) (ih h2)
theorem n_W{op:BoolOp}:∀{vs:List Expr} {m:ME},aq4 r c op vs=some m->PW X (.BoolOp op vs pos) (LT X.K Ξ (wpT P m)):=by
 intro vs
 induction vs with
 |nil=>intro m h;cases h
 |cons a vs ih =>
  intro m h;cases vs with
  |nil =>
   cases op
   ·exact ba6 (S.t X c Ξ C _ _ h)
   ·exact bm4 (S.t X c Ξ C _ _ h)
  |cons b vs =>
   unfold aq4 at h;obtain⟨m1,h1,h⟩:=Option.bind_eq_some_iff.mp h;obtain⟨m2,h2,rfl⟩:=Option.map_eq_some_iff.mp h;cases op
   ·exact bj1 C.mono (S.t X c Ξ C _ _ h1) (ih h2)
   ·exact bv7 C.mono (S.t X c Ξ C _ _ h1) (ih h2)
theorem bH6{es:List Expr}(h:aS2 r c es=some m):PTs X es (LT X.K Ξ (wpT P m)):=by
 rcases es with _|⟨e,_|⟨_,_⟩⟩
 ·cases h;exact a88 C.mono
 ·exact ba7 (S.t X c Ξ C _ _ h)
 ·cases h
theorem aj7:∀{sts:List Stmt} {m:MS},j9 r c sts=some m->PSs X sts (LS X.K Ξ (wpS P m)):=by
 intro es
 induction es with
 |nil=>intro m h;cases h;exact aL5 C.mono
 |cons a es ih =>
  intro m h;unfold j9 at h;obtain⟨m1,h1,h⟩:=Option.bind_eq_some_iff.mp h;obtain⟨m2,h2,rfl⟩:=Option.map_eq_some_iff.mp h;exact az9 C.mono (S.s X c Ξ C _ _ h1) (ih h2)
end
theorem ab7{e t:Expr}{n:Nat}{env:Env}(h:o9 e=true):swapsWithSole [t] e n env=pure false:=by
 show swapsWith e (some t) n env=pure false;exact N3 h
theorem aF3{x y:Str}{px py pt pt2:Pos}{kt k2:Nat}{a b:Expr}{env:Env}(hk:env.scope.kind=.function)(hx:env.kindOf x=some .local)(hy:env.kindOf y=some .local)(hne:x≠y)(hl:py.line=px.line)(ha:okE a=true)(hb:okE b=true)(h1:[a,b].all (foldedForSure 8)=false)(h2:[a,b].all (constantsAlone 8)=false):swappedStores [.Tuple [.Name x px,.Name y py] kt pt] (.Tuple [a,b] k2 pt2) env=pure (some [x,y]):=by
 have hbk:env.blockKind=.function:=by simp[Env.blockKind,hk,ScopeKind.isAnnotationScope]
 have hd:[x,y].eraseDups.length=2:=by
  have:(y==x)=false:=by simpa using Ne.symm hne
  simp[List.eraseDups_cons,this]
 have hx':(env.kindOf x==some NameKind.local&&px.line==px.line)=true:=by simp[hx]
 have hy':(env.kindOf y==some NameKind.local&&py.line==px.line)=true:=by simp[hy,hl]
 have hp:Expr.pos (.Name x px)=px:=rfl;unfold swappedStores;simp only[List.length_cons,List.length_nil,hbk,List.head?_cons,Option.map_some,Option.getD_some,hp,List.filterMap_cons,List.filterMap_nil,hx',hy',if_true,hd,h1,h2];rw[if_neg (by decide),if_neg ?_]
 ·rfl
 ·simp only[List.any_cons,List.any_nil,Bool.or_false,Bool.or_eq_true,not_or];constructor
  ·cases a<;>first|(intro h;cases h;done)|cases ha
  ·cases b<;>first|(intro h;cases h;done)|cases hb
theorem bi9{X:Cx}{Ξ:XKE}{P:Sig}(hP:e9 P){i j:Nat}{x y:Str}{a b:Expr}{px py pt pt2 pos:Pos}{kt k2:Nat}{mes:ME}(hc:X.calm=true)(hN:X.N.Nodup)(hi:X.N[i]?=some x)(hj:X.N[j]?=some y)(hne:x≠y)(hl:py.line=px.line)(hx:X.env.scope.names.lookup x=some .local)(hy:X.env.scope.names.lookup y=some .local)(oa:okE a=true)(ob:okE b=true)(h1:[a,b].all (foldedForSure 8)=false)(h2:[a,b].all (constantsAlone 8)=false)(ha:PA X [a,b] (LA X.K Ξ (wpA P mes))):PS X (.Assign [.Tuple [.Name x px,.Name y py] kt pt] (.Tuple [a,b] k2 pt2) pos) (LS X.K Ξ (wpS P (.unp (.many [i,j]) (.prim .tup mes)))):=by
 intro pins s σv H D I h;have hij:i≠j:=by
  rintro rfl;rw[hi] at hj;cases hj;exact hne rfl
 refine bm9 hc hN hi hj hij hx hy ha (aF3 I.ok.kind hx hy hne hl oa ob h1 h2) rfl pins s σv H D I ?_;obtain⟨σ,g,ρ,sr,R,h⟩:=h;refine thA hP sr R (.refl _ _) (show wpA P mes σ g (fun xs g1=>prP .tup xs g1 _) _ from h) fun ds g1 ρ1 H1 vs e1 R1 r1 h=>?_;obtain⟨d',g',⟨_,rfl,rfl⟩,l,σ',ex,hs,h⟩:=h;cases ex;have hl:=R9 hs;have e2:∃d1 d2,ds=[d1,d2]:=by
  rcases ds with _|⟨d1,_|⟨d2,_|⟨d3,r⟩⟩⟩<;>first|exact⟨_,_,rfl⟩|(simp at hl;done)|(simp at hl;omega)
 obtain⟨d1,d2,rfl⟩:=e2;obtain⟨v,w,rfl,q1,q2⟩:=r1.two;cases hs;exact⟨_,_,rfl,h ρ1 H1 _ e1 R1 (((sr.ext e1).set i q1).set j q2)⟩
theorem COk.R0{X:Cx}{c:c6}{Ξ:XKE}{P:Sig}(C:COk X c P Ξ)(hst:X.stack=X.env::X.outer)(hf:X.env.frame=some X.env.locals)(pins:List (Addr×Obj))(D:L2.Ends)(hs:List ExceptHandler) :
  COk (N1 X pins (Y8 X pins D hs)) { c with rais:=false,tryb:=false } P (aD3 X Ξ.1 D hs) :=
 ⟨C.N,C.nd,C.loc,C.cel,C.fre,C.glo,C.cells,C.fnb,C.calm,C.units,(fun _=>PassesOwn.looking),C.mono,C.con,C.blt,C.fns,C.cls,C.mts,C.fls,C.exq,aX5 hst hf fun C H' ⟨C',e,z⟩=>(by cases e;exact z),(fun z=>by cases z),(fun z=>by cases z),C.exc,C.exm,C.gdc⟩
end M

namespace M
open PySem L2 PySem.Spec PyProof.Rows
theorem am7{o:Expr}{m:Str}{apos pos:Pos}{args:List Expr}{env:Env}(hb:W0 o=true)(hl:(apos.endLine==pos.line)=true)(hf:methodCallForm args.length (backTo pos (starEach args env)) (backToKw pos (keywordEach [] env))=true) :
  eval (.Call (.Attribute o m apos) args [] pos) env=(do
   let ov <- eval o env
   standAt apos.atName
   let (f,first) <- holding [ov] (getMethod ov m (do return (<- importBound o env).getD true))
   callWith pos f first (backTo pos (starEach args env)) (backToKw pos (keywordEach [] env))):=by
 have h1:eval (.Call (.Attribute o m apos) args [] pos) env=(do
   let ov <- attributeBase o m env (eval o env)
   standAt apos.atName
   methodCall o m apos pos env ov (args.length + 0) (backTo pos (starEach args env)) (backToKw pos (keywordEach [] env))):=rfl
 rw[h1,A9 hb];have h2:∀ ov,methodCall o m apos pos env ov (args.length + 0) (backTo pos (starEach args env)) (backToKw pos (keywordEach [] env))=(do
   let (f,first) <- holding [ov] (getMethod ov m (do return (<- importBound o env).getD true))
   callWith pos f first (backTo pos (starEach args env)) (backToKw pos (keywordEach [] env))):=fun ov=>by
  unfold methodCall calleeOf methodCallPos;rw[Nat.add_zero,hf,hl];simp only[if_true,Bool.not_true,Bool.false_or,pure_bind]
 simp only[h2]
section
variable{X:Cx}{c:c6}{P:Sig}{Ξ:XKE}{r:CF}(S:Snd P r)(C:COk X c P Ξ){a b d e:Expr}{m:ME}{pos:Pos}
include C
theorem bp6{x:Str}(h:aD4 c x=some m):PE X (.Name x pos) (LE X.K Ξ (wpE P m)):=by
 unfold aD4 at h;split at h
 ·rename_i hdb;obtain⟨d1,d2,d3⟩:=v5 hdb;split at h
  ·rename_i hv;obtain⟨i,hi,rfl⟩:=Option.map_eq_some_iff.mp h;exact bk7 (C.Y1 hi) (C.aD9 hv) d1 d2
  ·split at h
   ·rename_i hg;rcases orElse_some h with h|h
    ·obtain⟨d,hd,rfl⟩:=Option.map_eq_some_iff.mp h;obtain⟨v,u,hm,r,rr⟩:=C.con x d hd;exact K8 (Z4 (C.t7 hg) hm r d1) rr
    ·split at h
     ·rename_i hb;obtain⟨t,ht,rfl⟩:=Option.map_eq_some_iff.mp h;exact K8 (v:=.ty t) (bc0 (C.t7 hg) (C.blt x hb) (aT6 ht) rfl d3 d1) fun _ _=>.ty t
     ·cases h
   ·cases h
 ·cases h
omit C in
theorem n_K{k:Const}{j:Nat}{d:D}(h:U3 k=some d):PE X (.Constant k j pos) (LE X.K Ξ (wpE P (.lit d))):=by
 cases k<;>first|(cases h;done)|skip
 ·cases h;exact K8 bn8 fun _ _=>.non
 ·cases h;exact K8 bx5 fun _ _=>.bl _
 ·cases h;exact K8 bo0 fun _ _=>.int _
 ·cases h;exact K8 aN6 fun _ _=>.str _
include S
theorem bH5{op:UnaryOp}(h:xUn r c op a=some m):PE X (.UnaryOp op a pos) (LE X.K Ξ (wpE P m)):=by
 unfold xUn at h;split at h
 ·rename_i ho;subst ho;obtain⟨ma,ha,rfl⟩:=Option.map_eq_some_iff.mp h;exact bl0 C.mono (S.e X c Ξ C _ _ ha)
 ·obtain⟨ma,ha,rfl⟩:=ai1 S C h;exact bw0 C.mono ha
theorem a53{ops:List CmpOp}{bs:List Expr}(h:aq8 r c a ops bs=some m):PE X (.Compare a ops bs pos) (LE X.K Ξ (wpE P m))/\PT X (.Compare a ops bs pos) (LT X.K Ξ (wpT P (.tst m))):=by
 unfold aq8 at h;split at h
 ·rename_i op b;split at h
  ·cases h
  ·rename_i hm;have hm:behindInMarks op b=false:=by simpa using hm
   rcases orElse_some h with h|h
   ·obtain⟨neg,hn,h⟩:=Option.bind_eq_some_iff.mp h;obtain⟨kvs,hk,h⟩:=Option.bind_eq_some_iff.mp h;obtain⟨ma,ha,rfl⟩:=Option.map_eq_some_iff.mp h;obtain⟨x,p,rfl,hg,hd,hk⟩:=av5 hk;have ho:op=if neg then .NotIn else .In:=by cases op<;>cases hn<;>rfl
    subst ho;exact⟨bl2 C.mono (C.t7 hg) (v5 hd).1 (C.gdc x kvs hk) (S.e X c Ξ C _ _ ha) hm,bj6 C.mono (C.t7 hg) (v5 hd).1 (C.gdc x kvs hk) (S.e X c Ξ C _ _ ha) hm⟩
   ·obtain⟨ma,mb,ha,hb,rfl⟩:=Q6 S C h;exact⟨as7 C.mono (aB6 (P8 C.units op) ha hb hm),bj4 C.mono (aB2 (P8 C.units op) ha hb hm)⟩
 ·split at h
  ·cases h
  ·rename_i hm;obtain⟨ma,ha,h⟩:=Option.bind_eq_some_iff.mp h;obtain⟨mb,hb,h⟩:=Option.bind_eq_some_iff.mp h;obtain⟨md,hd,rfl⟩:=Option.map_eq_some_iff.mp h;exact⟨aV6 C.mono C.units (S.e X c Ξ C _ _ ha) (S.e X c Ξ C _ _ hb) (S.e X c Ξ C _ _ hd) (by simpa using hm),aU3 C.mono C.units (S.e X c Ξ C _ _ ha) (S.e X c Ξ C _ _ hb) (S.e X c Ξ C _ _ hd) (by simpa using hm)⟩
 ·cases h
theorem bH8{lo hi st:Option Expr}{p2:Pos}(h:xSl r c a lo hi st=some m):PE X (.Subscript a (.Slice lo hi st p2) pos) (LE X.K Ξ (wpE P m)):=by
 cases lo<;>cases hi<;>cases st<;>first|(cases h;done)|skip
 ·obtain⟨ma,ha,rfl⟩:=ai1 S C h;exact aU9 C.mono ha
 ·obtain⟨ma,mb,ha,hb,rfl⟩:=Q6 S C h;exact aU8 C.mono ha hb
 ·obtain⟨ma,mb,ha,hb,rfl⟩:=Q6 S C h;exact aU7 C.mono ha hb
theorem by5(h:aT3 r c a b=some m):PE X (.Subscript a b pos) (LE X.K Ξ (wpE P m)):=by
 unfold aT3 at h;rcases orElse_some h with h|h
 ·obtain⟨q,hq,h⟩:=Option.bind_eq_some_iff.mp h;have eb:∃p,b=.Slice q.1 q.2.1 q.2.2 p:=by cases b<;>first|(cases hq;exact⟨_,rfl⟩)|cases hq
  obtain⟨p,rfl⟩:=eb;exact bH8 S C h
 ·split at h
  ·rename_i hb;rcases orElse_some h with h|h
   ·obtain⟨kvs,hk,h⟩:=Option.bind_eq_some_iff.mp h;obtain⟨mb,hb',rfl⟩:=Option.map_eq_some_iff.mp h;obtain⟨x,p,rfl,hg,hd,hk⟩:=av5 hk;exact a98 C.mono (C.t7 hg) (v5 hd).1 (C.gdc x kvs hk) (S.e X c Ξ C _ _ hb') (aO4 hb)
   ·obtain⟨ma,mb,ha,hb',rfl⟩:=Q6 S C h;exact as7 C.mono (a52 (bz3 C.units) ha hb' (aO4 hb))
  ·cases h
theorem bH7{x:Str}{px:Pos}(hg:c.gl x=true)(h:xSp r c x e=some m):PE X (.Call (.Name x px) [e] [] pos) (LE X.K Ξ (wpE P m)):=by
 unfold xSp at h;obtain⟨q,hq,h'⟩:=Option.bind_eq_some_iff.mp h;clear h;have h:=h';clear h';obtain⟨p,pos',rfl⟩:=E8 hq;obtain⟨y,as⟩:=q;dsimp only at h ⊢;split at h
 ·rename_i hc;simp only[Bool.and_eq_true,decide_eq_true_eq] at hc;obtain⟨⟨⟨⟨rfl,rfl⟩,hl⟩,hr⟩,hgr⟩:=hc;rcases as with _|⟨a,_|⟨b,_|⟨_,_⟩⟩⟩
  ·cases h
  ·dsimp only at h;split at h
   ·rename_i ho;obtain⟨ma,ha,rfl⟩:=ai1 S C h;exact aV4 C.mono C.calm ha (C.t7 hg) (C.blt _ hl) (C.t7 hgr) (C.blt _ hr) (i9 ho)
   ·cases h
  ·dsimp only at h;split at h
   ·rename_i ho;rw[Bool.and_eq_true] at ho;obtain⟨ma,mb,ha,hb,rfl⟩:=Q6 S C h;exact aV3 C.mono C.calm ha hb (C.t7 hg) (C.blt _ hl) (C.t7 hgr) (C.blt _ hr) (by rw[i9 ho.1,i9 ho.2];rfl) (i9 ho.2)
   ·cases h
  ·cases h
 ·cases h
theorem bd2{x:Str}{px:Pos}{args:List Expr}(h:aK1 r c x args=some m):PE X (.Call (.Name x px) args [] pos) (LE X.K Ξ (wpE P m)):=by
 cases args with
 |nil =>
  have h2:ar1 c x=some m:=h;unfold ar1 at h2;split at h2
  ·rename_i hdb;rw[Bool.and_eq_true] at hdb;obtain⟨f,hf,rfl⟩:=Option.map_eq_some_iff.mp h2;obtain⟨k,C',fa,fd,ps,F,hr,hm,hC,hcl,M⟩:=C.cls x f hf;exact aV2 C.mono C.pass F M hC hcl hr (C.t7 hdb.2) hm (v5 hdb.1).1
  ·cases h2
 |cons e es =>
  have h0:ar0 r c x e es=some m:=h;clear h;have h:=h0;clear h0;unfold ar0 at h;split at h
  ·rename_i hdb;rw[Bool.and_eq_true] at hdb;obtain⟨d1,d2,d3⟩:=v5 hdb.1;rcases orElse_some h with h|h
   ·cases es with
    |nil=>exact bH7 S C hdb.2 h
    |cons _ _=>cases h
   ·obtain⟨ms,hms,h⟩:=Option.bind_eq_some_iff.mp h;have ok:=ad9 hms;have pa:=n_A S C hms;have hst:=i9 (env:=X.env) (es:=es) (ok e (by simp));have hpl:=K5 (pos:=pos) (env:=X.env) (es:=es) fun z hz=>ok z (by simp[hz]);rcases orElse_some h with h|h
    ·obtain⟨f,hf,rfl⟩:=Option.map_eq_some_iff.mp h;obtain⟨k,fa,fd,ps,F,hr,hm,hk⟩:=C.fns x f hf;exact ba1 C.mono C.pass F hr (C.t7 hdb.2) hm hk pa d1 hst hpl
    ·rcases orElse_some h with h|h
     ·obtain⟨f,hf,rfl⟩:=Option.map_eq_some_iff.mp h;obtain⟨k,C',fa,fd,ps,F,hr,hm,hC,hcl,M⟩:=C.cls x f hf;exact a97 C.mono C.pass F M hC hcl hr (C.t7 hdb.2) hm pa d1 hst hpl
     ·split at h
      ·rename_i hb;obtain⟨p,hp,rfl⟩:=Option.map_eq_some_iff.mp h;obtain⟨v,hv,hbb,hc⟩:=aS5 (X:=X) C.calm hp;exact bl5 C.mono hv hc (C.t7 hdb.2) (C.blt x hb) hbb pa d3 d1 hst hpl
      ·cases h
  ·cases h
omit S in
theorem au1{m:Str}:al6 X P Ξ.1 m (c.meths m):=fun y f C' h hC=>by
 have hm:=PySem.mem_of_lookup h;unfold c6.meths at hm;obtain⟨⟨m',y',f'⟩,h1,h2⟩:=List.mem_map.mp hm;obtain⟨h3,h4⟩:=List.mem_filter.mp h1;cases h2;have:m'=m:=by simpa using h4
 subst this;exact C.mts m' y f C' h3 hC
theorem bd3{o:Expr}{mt:Str}{apos:Pos}{args:List Expr}(h:aq9 r c o mt apos pos args=some m):PE X (.Call (.Attribute o mt apos) args [] pos) (LE X.K Ξ (wpE P m)):=by
 unfold aq9 at h;split at h
 ·rename_i hc;simp only[Bool.and_eq_true,decide_eq_true_eq] at hc;obtain⟨⟨hb,hl⟩,hn⟩:=hc;obtain⟨mo,ho,h⟩:=Option.bind_eq_some_iff.mp h;obtain⟨ms,hms,h⟩:=Option.bind_eq_some_iff.mp h;have ok:=ad9 hms;have pa:=n_A S C hms;have po:=S.e X c Ξ C _ _ ho;have hf:methodCallForm args.length (backTo pos (starEach args X.env)) (backToKw pos (keywordEach [] X.env))=true:=by
   unfold methodCallForm;rw[ar9 ok];have:args.length+0<30:=by omega
   show(true&&true&&decide (args.length+0<30))=true;rw[decide_eq_true this]
   rfl
  by_cases hix:mt="index"
  ·subst hix;rw[if_pos rfl] at h;cases args with
   |nil=>cases h
   |cons e es =>
    cases h;exact aV5 C.mono po pa (A9 hb) hf hl (i9 (env:=X.env) (es:=es) (ok e (by simp))) (K5 (pos:=pos) (env:=X.env) (es:=es) fun z hz=>ok z (by simp[hz]))
  rw[if_neg hix] at h;cases args with
  |nil =>
   cases hms;by_cases h0:(Q2.lookup mt).isSome=true
   ·rw[if_pos (by rw[h0];rfl)] at h;obtain⟨p,hp,rfl⟩:=Option.map_eq_some_iff.mp h;obtain⟨T,id,pa',sl,ty,mt',hk⟩:=aG7 (X:=X) hp;exact aV1 C.mono pa' sl ty mt' hk po (A9 hb) hl
   rw[if_neg (by rw[Bool.and_eq_true];exact fun z=>h0 z.2)] at h;split at h
   ·cases h
   ·cases h;exact aL9 C.mono C.pass (au1 C) po (am7 hb hl hf)
  |cons e es =>
   have hst:=i9 (env:=X.env) (es:=es) (ok e (by simp));have hpl:=K5 (pos:=pos) (env:=X.env) (es:=es) fun z hz=>ok z (by simp[hz]);rw[if_neg (by simp)] at h;split at h
   ·rename_i p hp;cases h;obtain⟨T,id,pa',sl,ty,mt',hk⟩:=aP5 (X:=X) C.units hp;exact a96 C.mono pa' sl ty mt' hk po pa (A9 hb) hf hl hst hpl
   ·cases h;exact aV0 C.mono C.pass (au1 C) po pa hst hpl (am7 hb hl hf)
 ·cases h
theorem n_I{tg:Expr}(h:ah5 r c tg e=some m):PI X tg e (LI X.K Ξ (wpI P m)):=by
 unfold ah5 at h;rcases orElse_some h with h|h
 ·obtain⟨q,hq,h'⟩:=Option.bind_eq_some_iff.mp h;rename_i h0;clear h h0;have h:=h';clear h';obtain⟨p,pos',rfl⟩:=E8 hq;obtain⟨y,as⟩:=q;dsimp only at h ⊢
  ·split at h
   ·rename_i hy;subst hy;rcases as with _|⟨a,_|⟨b,_|⟨_,_⟩⟩⟩
    ·cases h
    ·dsimp only at h;split at h
     ·rename_i hc;simp only[Bool.and_eq_true] at hc;obtain⟨⟨hg,hb⟩,ho⟩:=hc;obtain⟨ma,ha,rfl⟩:=Option.map_eq_some_iff.mp h;exact a92 C.mono (S.e X c Ξ C _ _ ha) (C.t7 hg) (C.blt _ hb) (i9 ho)
     ·cases h
    ·dsimp only at h;split at h
     ·rename_i hc;simp only[Bool.and_eq_true] at hc;obtain⟨⟨⟨hg,hb⟩,ho⟩,ho2⟩:=hc;obtain⟨ma,ha,h⟩:=Option.bind_eq_some_iff.mp h;obtain⟨mb,hb',rfl⟩:=Option.map_eq_some_iff.mp h;exact a91 C.mono (S.e X c Ξ C _ _ ha) (S.e X c Ξ C _ _ hb') (C.t7 hg) (C.blt _ hb) (by rw[i9 ho,i9 ho2];rfl) (i9 ho2)
     ·cases h
    ·cases h
   ·cases h
 ·split at h
  ·obtain⟨ma,ha,rfl⟩:=Option.map_eq_some_iff.mp h;exact bk2 C.mono (S.e X c Ξ C _ _ ha)
  ·cases h
theorem aj6{elt:Expr}{gens:List Comprehension}{sc:Scope}(h:Y7 r c elt gens sc=some m):∃tg it ifs t mi mc me cl,gens=[⟨tg,it,ifs,0⟩]/\m=.comp (c.b9 sc) (frees sc++locals sc).length t mi mc me/\okE it=true /\
  CompScope X sc (frees sc++locals sc) (c.b9 sc) cl/\PI X tg it (LI X.K Ξ (wpI P mi))/\(∀pins A s H fp,PG (c8 X pins sc (frees sc++locals sc) cl A s H fp) tg (LG X.K t)) /\
   (∀pins A s H fp,PTs (c8 X pins sc (frees sc++locals sc) cl A s H fp) ifs (LT X.K (XK0 Ξ.1) (wpT P mc)))/\(∀pins A s H fp,PE (c8 X pins sc (frees sc++locals sc) cl A s H fp) elt (LE X.K (XK0 Ξ.1) (wpE P me)))/\∀pins A s H fp,PE ((c8 X pins sc (frees sc++locals sc) cl A s H fp).G5 (ai2 X Ξ.2 pins sc (frees sc++locals sc) cl fp A s H)) elt (LE X.K Ξ (wpE P me)):=by
 unfold Y7 at h;rcases gens with _|⟨⟨tg,it,ifs,isa⟩,_|⟨_,_⟩⟩
 ·cases h
 ·dsimp only at h;split at h
  ·rename_i hs;simp only[Bool.and_eq_true,decide_eq_true_eq] at hs;obtain⟨⟨hs,rfl⟩,hit⟩:=hs;obtain⟨t,h1,h⟩:=Option.bind_eq_some_iff.mp h;obtain⟨mi,h2,h⟩:=Option.bind_eq_some_iff.mp h;obtain⟨mc,h3,h⟩:=Option.bind_eq_some_iff.mp h;obtain⟨me,h4,rfl⟩:=Option.map_eq_some_iff.mp h;obtain⟨cl,Sc,I⟩:=C.comp hs;exact⟨tg,it,ifs,t,mi,mc,me,cl,rfl,rfl,hit,Sc,n_I S C h2,fun pins A s H fp=>(I pins A s H fp).bh8 h1,fun pins A s H fp=>bH6 S (I pins A s H fp) h3,fun pins A s H fp=>S.e _ _ _ (I pins A s H fp) elt me h4,fun pins A s H fp=>S.e _ _ _ (I pins A s H fp).block elt me h4⟩
  ·cases h
 ·cases h
omit S in
theorem bH9{f:Expr}{args:List Expr}{kws:List Keyword}(h:xSU c f args kws=some m):PE X (.Call f args kws pos) (LE X.K Ξ (wpE P m)):=by
 unfold xSU at h;rcases args with _|⟨a,_|⟨_,_⟩⟩
 ·cases h
 ·dsimp only at h;split at h
  ·rename_i hk;simp only[Bool.and_eq_true,decide_eq_true_eq] at hk;obtain⟨⟨⟨⟨⟨hk,hf⟩,hgl⟩,hb⟩,hgs⟩,hbs⟩:=hk;cases kws<;>first|(cases hk;done)|skip
   obtain⟨q,hq,h⟩:=Option.bind_eq_some_iff.mp h;obtain⟨u,hu,h⟩:=Option.bind_eq_some_iff.mp h;obtain⟨v,hv,h⟩:=Option.bind_eq_some_iff.mp h;split at h
   ·rename_i hs;simp only[Bool.and_eq_true,decide_eq_true_eq] at hs;obtain⟨x,hx,h⟩:=Option.bind_eq_some_iff.mp h;obtain⟨y,hy,h⟩:=Option.bind_eq_some_iff.mp h;split at h
    ·rename_i hw;simp only[Bool.and_eq_true] at hw;obtain⟨⟨⟨nx,ny⟩,vx⟩,vy⟩:=hw;obtain⟨i,hi,h⟩:=Option.bind_eq_some_iff.mp h;obtain⟨j,hj,rfl⟩:=Option.map_eq_some_iff.mp h;obtain⟨x1,x2,_⟩:=v5 nx;obtain⟨y1,y2,_⟩:=v5 ny;cases f<;>first|(cases hf;done)|skip
     cases hf;obtain⟨p,pp,e1⟩:=E8 hu;obtain⟨p',pp',e2⟩:=E8 hv;obtain⟨u1,u2⟩:=u;obtain⟨v1,v2⟩:=v;dsimp only at hs e1 e2 hx hy;obtain⟨rfl,rfl⟩:=hs;obtain⟨p1,rfl⟩:=ax3 hx;obtain⟨p2,rfl⟩:=ax3 hy;obtain⟨p3,rfl⟩:=a25 hq;rw[e1,e2];exact bk9 C.mono C.calm (C.Y1 hi) (C.Y1 hj) (C.aD9 vx) (C.aD9 vy) x1 x2 y1 y2 (C.t7 hgl) (C.blt _ hb) (C.t7 hgs) (C.blt _ hbs)
    ·cases h
   ·cases h
  ·cases h
 ·cases h
theorem n_E:∀e m,a44 r c e=some m->PE X e (LE X.K Ξ (wpE P m)):=by
 intro e m h;cases e with
 |Name x p=>exact bp6 C h
 |Constant k j p =>
  obtain⟨d,hd,rfl⟩:=Option.map_eq_some_iff.mp (show(U3 k).map ME.lit=some m from h);exact n_K hd
 |BinOp a op b p =>
  obtain⟨ma,mb,ha,hb,rfl⟩:=Q6 S C h;exact as7 C.mono (a51 (bp3 op) ha hb)
 |UnaryOp op a p=>exact bH5 S C h
 |Compare a ops bs p=>exact(a53 S C h).1
 |BoolOp op vs p=>exact n_B S C h
 |IfExp t a b p =>
  obtain⟨mt,ht,h⟩:=Option.bind_eq_some_iff.mp h;obtain⟨ma,ha,h⟩:=Option.bind_eq_some_iff.mp h;obtain⟨mb,hb,rfl⟩:=Option.map_eq_some_iff.mp h;exact bl1 C.mono (S.t X c Ξ C _ _ ht) (S.e X c Ξ C _ _ ha) (S.e X c Ξ C _ _ hb)
 |Tuple es k p =>
  obtain⟨ma,ha,rfl⟩:=Option.map_eq_some_iff.mp h;exact bk8 C.mono (n_A S C ha)
 |List es p =>
  obtain⟨ma,ha,rfl⟩:=Option.map_eq_some_iff.mp h;exact aM0 C.mono (n_A S C ha)
 |Subscript a b p=>exact by5 S C h
 |Dict ks vs p =>
  have h2:(if ks.isEmpty&&vs.isEmpty then some (ME.prim .dnew .nil) else if decide (ks.length<=15) then(ah7 r c ks vs).map .dct else none)=some m:=h;split at h2
  ·rename_i hc;cases ks<;>cases vs<;>first|(cases hc;done)|skip
   cases h2;exact ba0
  ·rename_i hc;split at h2
   ·rename_i hl;obtain⟨ms,hm,rfl⟩:=Option.map_eq_some_iff.mp h2;obtain⟨trs,D⟩:=n_D S C hm;refine bl4 C.mono D (fun z=>hc ?_) (of_decide_eq_true hl);have:=D.len.2;subst z;cases vs<;>first|rfl|cases this
   ·cases h2
 |JoinedStr vs p =>
  have h2:(if decide (2<=vs.length)&&decide (vs.length<=40) then(aa7 r c vs).map (ME.prim .fstr) else none)=some m:=h;split at h2
  ·rename_i hc;simp only[Bool.and_eq_true,decide_eq_true_eq] at hc;obtain⟨ms,hm,rfl⟩:=Option.map_eq_some_iff.mp h2;obtain⟨ts,F⟩:=n_F S C hm;rcases vs with _|⟨v1,_|⟨v2,vs⟩⟩
   ·simp at hc
   ·simp at hc
   ·exact a99 C.mono F hc.2
  ·cases h2
 |Attribute o f p =>
  have h2:(if W0 o then c1 r c (.fld f) o else none)=some m:=h;split at h2
  ·rename_i hb;obtain⟨ma,ha,rfl⟩:=ai1 S C h2;exact bl3 C.mono ha (A9 hb)
  ·cases h2
 |Call f args kws pos =>
  have h1:((xSC r c f args kws).orElse fun _=>(xSU c f args kws).orElse fun _=>aD5 r c f args kws pos)=some m:=h;rcases orElse_some h1 with h2|h2
  ·unfold xSC at h2;cases h2
  clear h h1;rcases orElse_some h2 with h3|h3
  ·exact bH9 C h3
  clear h2;unfold aD5 at h3;split at h3
  ·rename_i hk;cases kws<;>first|(cases hk;done)|skip
   cases f with
   |Name x p=>exact bd2 S C h3
   |Attribute o a p=>exact bd3 S C h3
   |_=>cases h3
  ·cases h3
 |ListComp elt gens sc p =>
  obtain⟨tg,it,ifs,t,mi,mc,me,cl,rfl,rfl,hit,Sc,q1,q2,q3,q4,_⟩:=aj6 S C h;exact(aB5 Sc C.calm q1 q2 q3 q4 (S3 hit)).imp fun σ H Q h=>aw3 C.mono σ H Q h
 |_=>cases h
theorem n_T:∀e m,stepT r c e=some m->PT X e (LT X.K Ξ (wpT P m)):=by
 intro e m h;have plain:∀{e:Expr} {m:ME},(if V7 e then(r.e c e).map ME.tst else none)=some m->PT X e (LT X.K Ξ (wpT P m)):=fun{e m} h=>by
  split at h
  ·rename_i hp;obtain⟨ma,ha,rfl⟩:=Option.map_eq_some_iff.mp h;exact bj3 C.mono (S.e X c Ξ C _ _ ha) (aN2 hp)
  ·cases h
 cases e with
 |UnaryOp op a p =>
  have h2:(if op=.Not then(r.t c a).map ME.not_ else none)=some m:=h;split at h2
  ·rename_i ho;subst ho;obtain⟨ma,ha,rfl⟩:=Option.map_eq_some_iff.mp h2;exact bj5 C.mono (S.t X c Ξ C _ _ ha)
  ·cases h2
 |BoolOp op vs p=>exact(n_W S C h).pt
 |Compare a ops bs p =>
  obtain⟨ma,ha,rfl⟩:=Option.map_eq_some_iff.mp (show(aq8 r c a ops bs).map ME.tst=some m from h);exact(a53 S C ha).2
 |_=>exact plain h
end
end M

namespace M
open PySem L2 PySem.Spec PyProof.Rows
section
variable{X:Cx}{c:c6}{P:Sig}{Ξ:XKE}
theorem aw5{e:Expr}{m:ME}(h:a67 e=some m):PE X e (LE X.K Ξ (wpE P m))/\okE e=true:=by
 cases e<;>first|(cases h;done)|skip
 obtain⟨d,hd,rfl⟩:=Option.map_eq_some_iff.mp (show(U3 _).map ME.lit=some m from h);exact⟨n_K hd,rfl⟩
theorem aS1(hP:e9 P):∀{es:List Expr} {m:ME},ah4 es=some m->PA X es (LA X.K Ξ (wpA P m)):=by
 intro es
 induction es with
 |nil=>intro m h;cases h;exact P4 hP
 |cons e es ih =>
  intro m h;unfold ah4 at h;obtain⟨m1,h1,h⟩:=Option.bind_eq_some_iff.mp h;obtain⟨m2,h2,rfl⟩:=Option.map_eq_some_iff.mp h;exact A7 hP (aw5 h1).1 (ih h2) (i9 (aw5 (X:=X) (Ξ:=Ξ) (P:=P) h1).2)
theorem a10(hP:e9 P){e:Expr}{m:ME}(h:a68 e=some m):PE X e (LE X.K Ξ (wpE P m)):=by
 cases e<;>first|(cases h;done)|skip
 ·obtain⟨d,hd,rfl⟩:=Option.map_eq_some_iff.mp (show(U3 _).map ME.lit=some m from h);exact n_K hd
 ·obtain⟨ms,hm,rfl⟩:=Option.map_eq_some_iff.mp h;exact aM0 hP (aS1 hP hm)
theorem aJ4{h:ExceptHandler}{q:Str×Expr}(hq:ax4 h=some q):∃p p1 p2,h=.ExceptHandler (some (.Name q.1 p)) none [.Return (some q.2) p1] p2:=by
 unfold ax4 at hq;split at hq
 ·cases hq;exact⟨_,_,_,rfl⟩
 ·cases hq
theorem a11(C:COk X c P Ξ)(hhd:Q9 X Ξ.2):∀{hs:List ExceptHandler} {ms:List (Str×ME)},ah6 c hs=some ms->HsOk X Ξ P hs ms:=by
 intro hs
 induction hs with
 |nil=>intro ms h;cases h;exact .nil hhd
 |cons hd hs ih =>
  intro ms h;unfold ah6 at h;obtain⟨q,hq,h'⟩:=Option.bind_eq_some_iff.mp h;clear h;have h:=h';clear h';obtain⟨p,p1,p2,rfl⟩:=aJ4 hq;obtain⟨y,e⟩:=q;dsimp only at h ⊢;split at h
  ·rename_i hc;simp only[Bool.and_eq_true] at hc;obtain⟨m,h1,h⟩:=Option.bind_eq_some_iff.mp h;obtain⟨ms',h2,rfl⟩:=Option.map_eq_some_iff.mp h;obtain⟨C',hm,hi,_⟩:=C.exc y hc.1.1;refine .cons (C.t7 hc.1.2) (v5 hc.2).1 hm (fun x C1 hx h1=>C.exm x y C1 C' ?_ hc.1.1 h1 hi) (fun ea=>a10 (X:=u6 X ea) C.mono h1) (ih h2);rw[C.exq] at hx;simpa using hx
  ·cases h
theorem az5{e f:Option Expr}{q:Str×Expr×List Expr}(h:al1 e f=some q):f=none/\∃p p',e=some (.Call (.Name q.1 p) (q.2.1::q.2.2) [] p'):=by
 unfold al1 at h;split at h
 ·cases h;exact⟨rfl,_,_,rfl⟩
 ·cases h
theorem aC7(C:COk X c P Ξ){f:Str}:ai9 X.K f (c.ak4 f):=fun y C' h hC=>by
 unfold c6.ak4 at h;obtain⟨⟨f',y'⟩,h1,h2⟩:=List.mem_map.mp h;obtain⟨h3,h4⟩:=List.mem_filter.mp h1;cases h2;have:f'=f:=by simpa using h4
 subst this;exact C.fls f' y' C' h3 hC
variable{r:CF}(S:Snd P r)(C:COk X c P Ξ){pos:Pos}
include S C
theorem by6{tg e:Expr}{m:MS}(hS:∀e m,r.e c e=some m->o9 e=false->∃elt gens sc p,e=.ListComp elt gens sc p/\∃r',Snd P r'/\Y7 r' c elt gens sc=some m)(hT:∀a b k p m,r.e c (.Tuple [a,b] k p)=some m->∃r' ms,Snd P r'/\z4 r' c [a,b]=some ms/\m=.prim .tup ms)(h:bl9 r c tg e=some m):PS X (.Assign [tg] e pos) (LS X.K Ξ (wpS P m)):=by
 cases tg with
 |Name x px =>
  have h2:(if c.s9 x then(c.idx x).bind fun i=>(r.e c e).map fun m=>MS.set i m else none)=some m:=h;split at h2
  ·rename_i hl;obtain⟨i,hi,h2⟩:=Option.bind_eq_some_iff.mp h2;obtain⟨me,he,rfl⟩:=Option.map_eq_some_iff.mp h2;cases hn:o9 e with
   |true=>exact aL1 C.mono (aM8 C.ndN (C.Y1 hi) (C.s9 hl).1 (S.e X c Ξ C _ _ he) (N3 hn) (C.s9 hl).2)
   |false =>
    obtain⟨elt,gens,sc,p,rfl,r',S',hx⟩:=hS e me he hn;obtain⟨tg,it,ifs,t,mi,mc,me,cl,rfl,rfl,hit,Sc,q1,q2,q3,q4,_⟩:=aj6 S' C hx;refine aL1 C.mono ?_;exact(ay1 Sc C.calm q1 q2 q3 q4 (S3 hit) C.ndN (C.Y1 hi) (C.s9 hl).1 (C.s9 hl).2).imp fun N σ H h=>aw3 C.mono σ H _ h
  ·cases h2
 |Tuple es k pt =>
  have h2:(if(af8 e&&o9 e)||c.aF4 es e then(c.slots es).bind fun is=>(r.e c e).map fun m=>MS.unp (.many is) m else none)=some m:=h;split at h2
  ·rename_i hn;rw[Bool.or_eq_true,Bool.and_eq_true] at hn;obtain⟨is,hs,h2⟩:=Option.bind_eq_some_iff.mp h2;obtain⟨me,he,rfl⟩:=Option.map_eq_some_iff.mp h2;rcases hn with hn|hn
   ·exact bi7 C.mono (aN0 (S.e X c Ξ C _ _ he) (aA2 C.calm C.ndN (C.slots hs)) (ab7 hn.2) (aY0 hn.1))
   ·unfold c6.aF4 at hn;split at hn
    ·rename_i x px y py a b k2 pt2 _;simp only[Bool.and_eq_true,decide_eq_true_eq,Bool.not_eq_true'] at hn;obtain⟨⟨⟨⟨⟨⟨⟨l1,l2⟩,hne⟩,hl⟩,oa⟩,ob⟩,f1⟩,f2⟩:=hn;obtain⟨r',ms,S',hms,rfl⟩:=hT _ _ _ _ _ he;have so:=C.slots hs;cases so with
     |cons hi _ _ so =>
     cases so with
     |cons hj _ _ so =>
     cases so;exact bi9 C.mono C.calm C.ndN hi hj hne hl (C.loc x l1) (C.loc y l2) oa ob f1 f2 (n_A S' C hms)
    ·cases hn
  ·cases h2
 |Subscript o i pt =>
  have h2:(if okE i&&o9 e then(r.e c o).bind fun mo=>(r.e c i).bind fun mi=>(r.e c e).map fun m=>MS.setix mo mi m else none)=some m:=h;split at h2
  ·rename_i hn;rw[Bool.and_eq_true] at hn;obtain⟨mo,ho,h2⟩:=Option.bind_eq_some_iff.mp h2;obtain⟨mi,hi,h2⟩:=Option.bind_eq_some_iff.mp h2;obtain⟨me,he,rfl⟩:=Option.map_eq_some_iff.mp h2;exact aU0 C.mono C.units (S.e X c Ξ C _ _ he) (S.e X c Ξ C _ _ ho) (S.e X c Ξ C _ _ hi) (ab7 hn.2) (bc8 hn.1)
  ·cases h2
 |Attribute o f pt =>
  have h2:(if o9 e then(r.e c o).bind fun mo=>(r.e c e).map fun m=>MS.setf f (c.ak4 f) mo m else none)=some m:=h;split at h2
  ·rename_i hn;obtain⟨mo,ho,h2⟩:=Option.bind_eq_some_iff.mp h2;obtain⟨me,he,rfl⟩:=Option.map_eq_some_iff.mp h2;exact a85 C.mono (aC7 C) (S.e X c Ξ C _ _ ho) (S.e X c Ξ C _ _ he) (N3 hn)
  ·cases h2
 |_=>cases h
theorem n_S(hS:∀e m,r.e c e=some m->o9 e=false->∃elt gens sc p,e=.ListComp elt gens sc p/\∃r',Snd P r'/\Y7 r' c elt gens sc=some m)(hT:∀a b k p m,r.e c (.Tuple [a,b] k p)=some m->∃r' ms,Snd P r'/\z4 r' c [a,b]=some ms/\m=.prim .tup ms) :
  ∀st m,a43 r c st=some m->PS X st (LS X.K Ξ (wpS P m)):=by
 intro st m h;have hP:=C.mono;cases st with
 |AugAssign tg op e p =>
  cases tg with
  |Attribute o f tp =>
   have h2:(if decide (op=Operator.Add) then(r.e c o).bind fun mo=>(r.e c e).map fun m=>MS.augf f (c.ak4 f) mo m else none)=some m:=h;split at h2
   ·rename_i ho;obtain rfl:=of_decide_eq_true ho;obtain⟨mo,ho,h2⟩:=Option.bind_eq_some_iff.mp h2;obtain⟨me,he,rfl⟩:=Option.map_eq_some_iff.mp h2;exact a87 C.mono (aC7 C) (S.e X c Ξ C _ _ ho) (S.e X c Ξ C _ _ he)
   ·cases h2
  |_=>cases h
 |Expr e p =>
  have h2:(if o9 e then(r.e c e).map MS.expr else none)=some m:=h;split at h2
  ·rename_i hn;obtain⟨me,he,rfl⟩:=Option.map_eq_some_iff.mp h2;exact a86 hP (S.e X c Ξ C _ _ he) (N3 hn)
  ·cases h2
 |Assign tgs e p =>
  rcases tgs with _|⟨tg,_|⟨_,_⟩⟩
  ·cases h
  ·exact by6 S C hS hT h
  ·cases h
 |If t a b p =>
  obtain⟨mt,ht,h⟩:=Option.bind_eq_some_iff.mp h;obtain⟨ma,ha,h⟩:=Option.bind_eq_some_iff.mp h;obtain⟨mb,hb,rfl⟩:=Option.map_eq_some_iff.mp h;exact bv6 hP (S.t X c Ξ C _ _ ht) (aj7 S C ha) (aj7 S C hb)
 |For tg it body els p =>
  have h2:(if c.fnb&&(els.isEmpty&&okE it) then(c.tg tg).bind fun t=>(ah5 r c tg it).bind fun mi=>(j9 r c body).map fun mb=>MS.for_ t mi mb else none)=some m:=h;split at h2
  ·rename_i hc;rw[Bool.and_eq_true,Bool.and_eq_true] at hc;cases els<;>first|(cases hc.2.1;done)|skip
   obtain⟨t,h1,h2⟩:=Option.bind_eq_some_iff.mp h2;obtain⟨mi,h3,h2⟩:=Option.bind_eq_some_iff.mp h2;obtain⟨mb,h4,rfl⟩:=Option.map_eq_some_iff.mp h2;exact bj0 hP (C.own hc.1) C.calm (n_I S C h3) (C.bh8 h1) (aj7 S C h4) (S3 hc.2.2)
  ·cases h2
 |While t body els p =>
  have h2:(if c.fnb&&els.isEmpty then(r.t c t).bind fun mt=>(j9 r c body).map fun mb=>MS.whil mt mb else none)=some m:=h;split at h2
  ·rename_i hc;rw[Bool.and_eq_true] at hc;cases els<;>first|(cases hc.2;done)|skip
   obtain⟨mt,h1,h2⟩:=Option.bind_eq_some_iff.mp h2;obtain⟨mb,h4,rfl⟩:=Option.map_eq_some_iff.mp h2;exact aT9 hP (C.own hc.1) (S.t X c Ξ C _ _ h1) (aj7 S C h4)
  ·cases h2
 |Return e p =>
  cases e with
  |none=>cases h;exact(bb0 (X:=X)).imp fun N σv H ⟨σ,g,ρ,s,R,h⟩=>LQ.now h R .non
  |some e =>
   obtain⟨me,he,rfl⟩:=Option.map_eq_some_iff.mp (show(r.e c e).map (fun m=>MS.ret (toR c e m))=some m from h);refine aL2 hP ?_;unfold toR;split
   ·split
    ·rename_i hc;rw[Bool.and_eq_true] at hc;obtain⟨elt,gens,sc,p,rfl,r',S',hx⟩:=hS e _ he (by simpa using hc.1);obtain⟨tg,it,ifs,t,mi,mc,me,cl,rfl,em,hit,Sc,q1,q2,q3,_,q5⟩:=aj6 S' C hx;cases em;obtain⟨hst,hf,hh⟩:=C.tryb hc.2;exact(aW8 hst hf hh Sc C.calm q1 q2 q3 q5 (S3 hit)).imp fun σ H Q h=>aM6 C.mono σ H Q h
    ·exact S.e X c Ξ C _ _ he
   ·exact S.e X c Ξ C _ _ he
 |Raise e f p =>
  obtain⟨q,hq,h2⟩:=Option.bind_eq_some_iff.mp h;clear h;obtain⟨rfl,px,p2,rfl⟩:=az5 hq;obtain⟨x,e,es⟩:=q;dsimp only at h2 ⊢;split at h2
  ·rename_i hc;simp only[Bool.and_eq_true] at hc;obtain⟨ma,ha,rfl⟩:=Option.map_eq_some_iff.mp h2;have ok:=ad9 ha;obtain⟨C',hm,hi,B,nI,iI,bm,O,FB⟩:=C.exc x hc.1.1.2;exact aU1 hP C.calm O FB (C.t7 hc.1.2) (n_A S C ha) (C.rais hc.1.1.1) (by rw[C.exq];simpa using hc.1.1.2) hi (i9 (ok e (by simp))) (K5 fun z hz=>ok z (by simp[hz])) (v5 hc.2).1
  ·cases h2
 |Try body hs el fi p =>
  have h2:(if c.tryb&&!hs.isEmpty&&el.isEmpty&&fi.isEmpty then(j9 r { c with rais:=false,tryb:=false } body).bind fun mb=>(ah6 c hs).map fun ms=>MS.R0 mb ms else none)=some m:=h;split at h2
  ·rename_i hc;simp only[Bool.and_eq_true] at hc;obtain⟨⟨⟨ht,hh⟩,he⟩,hf⟩:=hc;cases el<;>first|(cases he;done)|skip
   cases fi<;>first|(cases hf;done)|skip
   cases hs<;>first|(cases hh;done)|skip
   obtain⟨mb,h1,h2⟩:=Option.bind_eq_some_iff.mp h2;obtain⟨ms,h3,rfl⟩:=Option.map_eq_some_iff.mp h2;obtain⟨hst,hf,hhd⟩:=C.tryb ht;exact bi8 hP hst hf (fun pins D=>aj7 S (C.R0 hst hf pins D _) h1) (a11 C hhd h3)
  ·cases h2
 |Pass p=>cases h;exact(bb1 (X:=X)).imp fun N σv H ⟨σ,g,ρ,s,R,h⟩=>h ρ H σv (.refl _ _) R s
 |_=>cases h
end
theorem az2{n:Nat}{c:c6}{e:Expr}{m:ME}(h:(comp (n+1)).e c e=some m)(hn:o9 e=false):∃elt gens sc p,e=.ListComp elt gens sc p/\Y7 (comp n) c elt gens sc=some m:=by
 cases e<;>first|(cases hn;done)|(cases h;done)|exact⟨_,_,_,_,rfl,h⟩
theorem snd{P:Sig}:∀n,(∀k,k<=n->Snd P (comp k)):=by
 intro n
 induction n with
 |zero =>
  intro k hk;obtain rfl:=Nat.le_zero.mp hk;exact⟨fun _ _ _ _ _ _ h=>(by cases h),fun _ _ _ _ _ _ h=>(by cases h),fun _ _ _ _ _ _ h=>(by cases h)⟩
 |succ n ih =>
  intro k hk;rcases Nat.lt_or_ge k (n+1) with hlt|hge
  ·exact ih k (by omega)
  obtain rfl:k=n+1:=by omega
  have I:=ih n (Nat.le_refl n);refine⟨fun X c Ξ C e m h=>n_E I C e m h,fun X c Ξ C e m h=>n_T I C e m h,fun X c Ξ C st m h=>n_S I C (fun e m he hn=>?_) (fun a b k p m he=>?_) st m h⟩
  ·cases n with
   |zero=>cases he
   |succ n =>
    obtain⟨elt,gens,sc,p,rfl,hx⟩:=az2 he hn;exact⟨_,_,_,_,rfl,comp n,ih n (by omega),hx⟩
  ·cases n with
   |zero=>cases he
   |succ n =>
    obtain⟨ms,hm,rfl⟩:=Option.map_eq_some_iff.mp (show(z4 (comp n) c [a,b]).map (ME.prim .tup)=some m from he);exact⟨comp n,ms,ih n (by omega),hm,rfl⟩
end M

namespace M
open PySem L2 PySem.Spec PyProof.Rows
structure DefI where
 nm:Str
 qn:Str
 N:List Str
 ps:List Str
 st:Stmt
noncomputable def c6.at(c:c6)(d:DefI):c6:={ c with N:=d.N,nm:=(i6 d.st).names,fnb:=true,rais:=true,tryb:=true }
structure DefOk(K:PySem.W.Frag)(c:c6)(d:DefI)(m:MDef)(f:Addr)(fd:FuncData):Prop where
 fn:Fun K d.nm d.qn d.st f fd
 bi:Binds K fd d.ps []
 sc:FnScope d.N d.ps (i6 d.st)
 co:j9 (comp 60) (c.at d) (i8 d.st)=some m.body
 ar:m.ar=d.ps.length
 nn:m.n=d.N.length
structure TabOk(w:World)(K:PySem.W.Frag)(mg:Str->Option Value)(c:c6)(T:Nat->Option MDef):Prop where
 fns:∀x i,c.fns.lookup x=some i->∃d m f fd,T i=some m/\DefOk K c d m f fd/\mg x=some (.ref f)
 cls:∀x i,c.cls.lookup x=some i->∃C d m f fd,T i=some m/\DefOk K c d m f fd/\mg x=some (.ref C)/\j3 K x C/\Cls K C/\Mk K C f
 mts:∀x y i C,(x,y,i)∈c.mts->j3 K y C->∃d m f fd,T i=some m/\DefOk K c d m f fd/\Meth K C x f
 fls:∀f y C,(f,y)∈c.fls->j3 K y C->m9 K C f
 con:∀x d,c.con.lookup x=some d->∃v u,mg x=some u/\RelV v u/\∀ρ H,b7 K ρ H d v
 blt:∀x,c.blt.contains x=true->mg x=none
 excs:∀x,c.exc.contains x=true->∃C,mg x=some (.ref C)/\j3 K x C/\∀base:Heap,K.In base->base.Ns mainGlobals mg->∃B newId initId bm,OwnCls x C bm newId mg base/\ExcBaseFacts B newId initId bm
 exms:∀x y C C',c.exc.contains x=true->c.exc.contains y=true->j3 K x C->j3 K y C'->PySem.W.exmOne K (.ref C) (.ref C')=some (decide (x=y\/y="MintError"))
 gdcs:∀x kvs,c.gd.lookup x=some kvs->∃A vs,mg x=some (.ref A)/\ai7 K w.params A vs/\Y6 K kvs vs
section
variable{Pg:Program}{w:World}{K:PySem.W.Frag}{mg:Str->Option Value}{base:Heap}{c:c6}{T:Nat->Option MDef}
theorem bc1{N:List Str}{qual:Str}{scope:Scope}{f:Addr}{cd:Value}{A:Around}{outer:List Env}{s:Shared}{H:Hp}{E:XK}:Passes (CXE Pg w) (U0 (CXE Pg w) Pg w K mg base N qual scope f cd A outer s H E) E:=fun pins σ H1 s1 e s' I h=>by
 obtain⟨C,H',J,fl,hE⟩:=I.flew h;exact au9 J fl (fun b o q=>I.base.there b o q (by intro z;cases z)) rfl rfl rfl hE
theorem aV9{N:List Str}{qual:Str}{scope:Scope}{f:Addr}{cd:Value}{A:Around}{outer:List Env}{s:Shared}{H:Hp}{E:XK}:ab0 (U0 (CXE Pg w) Pg w K mg base N qual scope f cd A outer s H E) E:=fun pins σ H1 s1 h' ea C vs I hm hE =>
 aH3 I hm rfl rfl rfl hE
theorem be6{N:List Str}{qual:Str}{scope:Scope}{f:Addr}{cd:Value}{A:Around}{outer:List Env}{s:Shared}{H:Hp}{E:XK}:Q9 (U0 (CXE Pg w) Pg w K mg base N qual scope f cd A outer s H E) E:=fun pins σ H1 H2 s1 s2 B ea C a0 I l hh hE =>
 leave_held I l hh rfl rfl rfl hE
theorem ak9{k i:Nat}{m:MDef}(hT:T i=some m){ds:List D}{g:G}{Q:KD}{E:KX}(h:a9 T k i ds g Q E):ds.length=m.ar:=by
 cases k with
 |zero=>exact h.elim
 |succ k =>
  obtain⟨m',e,h,_⟩:=h;rw[hT] at e;cases e;exact h
theorem bt4(kin:K.In base)(gns:base.Ns mainGlobals mg)(A:TabOk w K mg c T):∀(k i:Nat) d m f fd,T i=some m->DefOk K c d m f fd->FnOk Pg w K mg base (CXE Pg w) (2*k) f fd d.ps (spD c.exc K d.ps.length (a9 T k i)):=by
 intro k
 induction k with
 |zero =>
  intro i d m f fd hm O;refine⟨fun vs H Q E h=>h.1,fun A outer s H args us vs Q E _ _ _ _ h=>?_⟩;obtain⟨_,_,_,_,_,_,q⟩:=h;exact q.elim
 |succ k ih =>
  intro i d m f fd hm O;obtain⟨oc,od,kV,doc,pm,an,cdv,ct,osl,rfl,lk,hcd⟩:=O.fn.ex;refine bA7 (k:=2*k+1) lk hcd O.sc (fun vs H Q E h=>h.1) (fun A0 outer s H vs Q E hr h=>?_);obtain⟨hl,xs,g,ρ,rs,R,q⟩:=h;have C:COk (U0 (CXE Pg w) Pg w K mg base d.N d.qn (i6 d.st) f cdv A0 outer s H E) (c.at d) (a9 T k) (c.exc,E):=by
   refine⟨rfl,O.sc.nd,fun x h=>h,fun x h=>h,fun x h=>.inr h,fun x h=>h,fun x h=>?_,fun _ _=>rfl,rfl,?_,(fun _=>PassesOwn.leaving),c9 T k,A.con,A.blt,fun x j hj=>?_,fun x j hj=>?_,fun x y j C' hj hC=>?_,A.fls,rfl,bc1,fun _=>aV9,fun _=>⟨rfl,rfl,be6⟩,fun x hx=>?_,A.exms,A.gdcs⟩
   ·rcases h with h|h
    ·exact ae0 h
    ·exact absurd rfl (O.sc.nofree _ (PySem.mem_of_lookup h))
   ·have:=hr.un;show(A0.deeper _).units+100<cLine;omega
   ·obtain⟨d',m',f',fd',hT,O',hmg⟩:=A.fns x j hj;exact⟨2*k,f',fd',d'.ps,⟨ih j d' m' f' fd' hT O',O'.bi,fun ds' g' Q' E' h'=>(ak9 hT h').trans O'.ar⟩,hr.mono (by omega),hmg,O'.fn.kp⟩
   ·obtain⟨C',d',m',f',fd',hT,O',hmg,hC,hcl,M⟩:=A.cls x j hj;exact⟨2*k,C',f',fd',d'.ps,⟨ih j d' m' f' fd' hT O',O'.bi,fun ds' g' Q' E' h'=>(ak9 hT h').trans O'.ar⟩,hr,hmg,hC,hcl,M⟩
   ·obtain⟨d',m',f',fd',hT,O',M⟩:=A.mts x y j C' hj hC;exact⟨2*k,f',fd',d'.ps,M,⟨ih j d' m' f' fd' hT O',O'.bi,fun ds' g' Q' E' h'=>(ak9 hT h').trans O'.ar⟩,hr.mono (by omega)⟩
   ·obtain⟨C,h1,h2,h3⟩:=A.excs x hx;exact⟨C,h1,h2,h3 base kin gns⟩
  refine⟨_,aj7 (snd (P:=a9 T k) 60 60 (Nat.le_refl _)) C O.co,?_⟩;obtain⟨m',e,q1,q⟩:=q;rw[hm] at e;cases e;refine⟨b5 m xs,g,ρ,?_,R,wpS_mono (c9 T k) m.body ⟨fun _ g'=>LQ K ρ H Q .non g',LQ K ρ H Q,fun _ _=>False,fun _ _=>False⟩ _ _ _ _ _ ⟨fun σ g' h ρ' H' σv' e R' s'=>h ρ' H' _ e R' .non,fun d g' h=>h,fun _ _ h=>h.elim,fun _ _ h=>h.elim⟩ (fun _ _ z=>z) q⟩;have:=i3.start (n:=d.N.length) rs;unfold b5 L2.start;rw[O.nn];exact this
theorem bq6{L k0:Nat}{H:Hp}{a:Addr}{ns:List Int}(hO:aJ8 H)(hS:SqL K H a (ns.map V.int))(h:a9 T k0 L [.ref 0] [.fro (ns.map .int)] (fun d _=>d=.bl true) NoX) :
  spD exc K 1 (a9 T k0 L) [.ref a] H (fun v _=>v=.bl true) fun _ _ _=>False:=by
 refine⟨rfl,[.ref 0],[.fro (ns.map .int)],[a],.cons (.ref rfl) .nil,⟨rfl,fun i o b h1 h2=>?_,fun i j l m b h1 h2 m1=>?_⟩,c9 T k0 _ _ _ _ _ _ _ (fun d g' e ρ' H' v _ _ r=>?_) (fun _ _ z=>z.elim) h⟩
 ·cases i with
  |zero =>
   cases h1;cases h2;refine⟨_,?_,a8.ofInts ns⟩;rcases hS with(z|⟨o,z⟩)|z
   ·rcases hO a with q|⟨o,xs,q⟩
    ·rw[z] at q;cases q
    ·rw[z] at q;cases q
   ·exact .inl ⟨o,z⟩
   ·exact .inr z
  |succ i=>simp at h1
 ·cases i with
  |zero=>cases h1;cases m1
  |succ i=>simp at h1
 ·subst e;cases r
  rfl
end
end M

namespace M
open PySem L2
section
variable{P:Sig}{σ:S}{g:G}{Q:KD}{E:KX}{N:Ends}{a b c o:ME}{x y:MS}{p:Pr}
theorem w5(h:N.nx σ g):wpS P .pass N σ g E:=h
theorem a34(h:wpS P x ⟨fun σ1 g1=>wpS P y N σ1 g1 E,N.rt,N.bk,N.ct⟩ σ g E):wpS P (.seq x y) N σ g E:=h
theorem aK2(h:wpS P x N σ g E):wpS P (.seq x .pass) N σ g E:=h
theorem bh1(h:wpE P a σ g (fun _ g1=>N.nx σ g1) E):wpS P (.expr a) N σ g E:=h
theorem a33{i:Nat}(h:wpE P a σ g (fun x g1=>N.nx (σ.set i (some x)) g1) E):wpS P (.set i a) N σ g E:=h
theorem a77{o i:ME}(h:wpE P a σ g (fun x g1=>wpE P o σ g1 (fun y g2=>wpE P i σ g2 (fun z g3=>ac9 y z x g3 fun g4=>N.nx σ g4) E) E) E):wpS P (.setix o i a) N σ g E:=h
theorem bg7{f:Str}{cs:List Str}(h:wpE P a σ g (fun x g1=>wpE P o σ g1 (fun y g2=>af3 f cs y x g2 fun g3=>N.nx σ g3) E) E):wpS P (.setf f cs o a) N σ g E:=h
theorem aK4{f:Str}{cs:List Str}(h:wpE P o σ g (fun y g1=>∃a' c fs x,y=.ref a'/\g1[a']?=some (.ins c fs)/\c∈cs/\fs.lookup f=some x/\wpE P a σ g1 (fun z g3=>prP .iadd [x,z] g3 fun w g4=>∃fs',g4[a']?=some (.ins c fs')/\fs'.length<100/\N.nx σ (g4.set a' (.ins c (n8 f w fs')))) E) E):wpS P (.augf f cs o a) N σ g E:=h
theorem a36(h:wpT P c σ g (fun t g1=>if t=true then wpS P x N σ g1 E else wpS P y N σ g1 E) E):wpS P (.ifs c x y) N σ g E:=h
theorem bu1(h:wpE P a σ g N.rt E):wpS P (.ret a) N σ g E:=h
theorem a78{x:Str}(h:wpA P a σ g (fun vs g1=>vs.length<=1000/\E ⟨x⟩ g1) E):wpS P (.raise x a) N σ g E:=h
theorem bt9{hs:List (Str×ME)}(h:wpS P x N σ g (wpH P N (σ.map fun _=>none) E hs)):wpS P (.R0 x hs) N σ g E:=h
theorem bA1{x:Xn}{e:ME}{r:List (Str×ME)}(h:wpE P e σ g N.rt NoX):wpH P N σ E (("MintError",e)::r) x g:=by unfold wpH;rw[if_pos (.inr rfl)];exact h
theorem w_var{i:Nat}{d:D}(e:σ[i]?=some (some d))(h:Q d g):wpE P (.var i) σ g Q E:=by rw[wpE];exact⟨d,e,h⟩
theorem w_lit{d:D}(h:Q d g):wpE P (.lit d) σ g Q E:=by rw[wpE];exact h
theorem bg8(h:wpA P a σ g (fun xs g1=>prP p xs g1 Q) E):wpE P (.prim p a) σ g Q E:=by rw[wpE];exact h
theorem bD4(h:prP p [] g Q):wpE P (.prim p .nil) σ g Q E:=by rw[wpE,wpA];exact h
theorem aD6(h:wpE P a σ g (fun x g1=>prP p [x] g1 Q) E):wpE P (.prim p (.cons a .nil)) σ g Q E:=by simp only[wpE,wpA];exact h
theorem aj0(h:wpE P a σ g (fun x g1=>wpE P b σ g1 (fun y g2=>prP p [x,y] g2 Q) E) E):wpE P (.prim p (.cons a (.cons b .nil))) σ g Q E:=by simp only[wpE,wpA];exact h
theorem a80{o1 o2:CmpOp}(h:wpE P a σ g (fun x g1=>wpE P b σ g1 (fun y g2=>prP (.cmp o1) [x,y] g2 fun z g3=>∃t,z=.bl t/\if t=true then wpE P c σ g3 (fun w g4=>prP (.cmp o2) [y,w] g4 Q) E else Q (.bl false) g3) E) E):wpE P (.chain o1 o2 a b c) σ g Q E:=by rw[wpE];exact h
theorem w_and(h:wpE P a σ g (fun x g1=>∃t,x=.bl t/\if t=true then wpE P b σ g1 Q E else Q (.bl false) g1) E):wpE P (.and_ a b) σ g Q E:=by rw[wpE];exact h
theorem w_not(h:wpE P a σ g (fun x g1=>∃t,x=.bl t/\Q (.bl (!t)) g1) E):wpE P (.not_ a) σ g Q E:=by rw[wpE];exact h
theorem w_ite(h:wpT P c σ g (fun t g1=>if t=true then wpE P a σ g1 Q E else wpE P b σ g1 Q E) E):wpE P (.ite c a b) σ g Q E:=by rw[wpE];exact h
theorem aK3{f:Nat}(h:wpA P a σ g (fun xs g1=>P f xs g1 Q E) E):wpE P (.call f a) σ g Q E:=by rw[wpE];exact h
theorem bh0{f:Nat}{c:Str}(h:wpA P a σ g (fun xs g1=>P f (.ref g1.length::xs) (g1++[.ins c []]) (fun d g2=>d=.non/\Q (.ref g1.length) g2) E) E):wpE P (.make c f a) σ g Q E:=by rw[wpE];exact h
theorem a79{m:Str}{cs:List (Str×Nat)}(h:wpE P o σ g (fun x g1=>∃a' c fs f,x=.ref a'/\g1[a']?=some (.ins c fs)/\fs.lookup m=none/\cs.lookup c=some f/\wpA P a σ g1 (fun xs g2=>P f (x::xs) g2 Q E) E) E):wpE P (.methc m cs o a) σ g Q E:=by rw[wpE];exact h
theorem bg9(h:wpE P o σ g (fun x g1=>mkP p x g1/\wpA P a σ g1 (fun xs g2=>prP p (x::xs) g2 Q) E) E):wpE P (.meth p o a) σ g Q E:=by rw[wpE];exact h
theorem bu2(h:wpA P a σ (g++[.dic []]) (fun xs g1=>∃kvs,ak6 xs []=some kvs/\xs.length<=30/\g1[g.length]?=some (.dic [])/\Q (.ref g.length) (g1.set g.length (.dic kvs))) E):wpE P (.dct a) σ g Q E:=by rw[wpE];exact h
theorem a35{Q:List D->G->Prop}(h:Q [] g):wpA P .nil σ g Q E:=by rw[wpA];exact h
theorem V2{Q:List D->G->Prop}(h:wpE P a σ g (fun x g1=>wpA P b σ g1 (fun xs g2=>Q (x::xs) g2) E) E):wpA P (.cons a b) σ g Q E:=by rw[wpA];exact h
theorem bg6{Q:Bool->G->Prop}(h:wpT P a σ g (fun t g1=>if t=true then wpT P b σ g1 Q E else Q false g1) E):wpT P (.and_ a b) σ g Q E:=by rw[wpT];exact h
theorem bu0{Q:Bool->G->Prop}(h:wpT P a σ g (fun t g1=>if t=true then Q true g1 else wpT P b σ g1 Q E) E):wpT P (.or_ a b) σ g Q E:=by rw[wpT];exact h
theorem bg5{Q:Bool->G->Prop}(h:wpT P a σ g (fun t g1=>Q (!t) g1) E):wpT P (.not_ a) σ g Q E:=by rw[wpT];exact h
theorem a32{Q:Bool->G->Prop}(h:Q true g):wpT P .no σ g Q E:=by rw[wpT];exact h
theorem a31{Q:Bool->G->Prop}(h:wpE P a σ g (fun x g1=>V3 g1 x fun b=>Q b g1) E):wpT P (.tst a) σ g Q E:=by rw[wpT];exact h
end
section
variable{g:G}{Q:KD}{i j:Int}{kb:Bool->Prop}{t s:Bool}{l m:List D}
theorem bD1(h:Q (.int (i+j)) g):prP (.bin .Add) [.int i,.int j] g Q:=⟨_,_,.inl ⟨i,j,_,rfl,rfl,rfl,rfl⟩,h⟩
theorem bD0(h:Q (.int (i-j)) g):prP (.bin .Sub) [.int i,.int j] g Q:=⟨_,_,.inl ⟨i,j,_,rfl,rfl,rfl,rfl⟩,h⟩
theorem aa9(c:ae5 i j)(h:Q (.int (i*j)) g):prP (.bin .Mult) [.int i,.int j] g Q:=⟨_,_,.inl ⟨i,j,_,rfl,⟨c,rfl⟩,rfl,rfl⟩,h⟩
theorem N9(c:0<j)(h:Q (.int (i % j)) g):prP (.bin .Mod) [.int i,.int j] g Q:=⟨_,_,.inl ⟨i,j,_,rfl,⟨c,rfl⟩,rfl,rfl⟩,h⟩
theorem a73(c:a30 i j)(h:Q (.int (i / j)) g):prP (.bin .FloorDiv) [.int i,.int j] g Q:=⟨_,_,.inl ⟨i,j,_,rfl,⟨c,rfl⟩,rfl,rfl⟩,h⟩
theorem aq6(c:ae4 i j)(h:Q (.int (i ^ j.toNat)) g):prP (.bin .Pow) [.int i,.int j] g Q:=⟨_,_,.inl ⟨i,j,_,rfl,⟨c,rfl⟩,rfl,rfl⟩,h⟩
theorem aJ1(hl:l.length+m.length<=100000)(h:Q (.tup (l++m)) g):prP (.bin .Add) [.tup l,.tup m] g Q:=⟨_,_,.inr (.inl ⟨rfl,.inl ⟨l,m,rfl,hl,rfl,rfl⟩⟩),h⟩
theorem bC7{x y:Str}(hl:x.length+y.length<=100000)(h:Q (.str (x++y)) g):prP (.bin .Add) [.str x,.str y] g Q:=⟨_,_,.inr (.inl ⟨rfl,.inr (.inr ⟨x,y,rfl,hl,rfl,rfl⟩)⟩),h⟩
theorem bC8{i j:Nat}(hi:g[i]?=some (.lst l))(hj:g[j]?=some (.lst m))(hl:l.length+m.length<=100000)(h:Q (.ref g.length) (g++[.lst (l++m)])):prP (.bin .Add) [.ref i,.ref j] g Q:=⟨_,_,.inr (.inl ⟨rfl,.inr (.inl ⟨i,j,l,m,rfl,hi,hj,hl,rfl,rfl⟩)⟩),h⟩
theorem a70{i:Nat}{n:Int}(hi:g[i]?=some (.lst l))(h1:-(2 ^ 62)<=n)(h2:n<2 ^ 62)(hl:l.length*n.toNat<=100000)(h:Q (.ref g.length) (g++[.lst (List.replicate n.toNat l).flatten])):prP (.bin .Mult) [.ref i,.int n] g Q:=⟨_,_,.inr (.inr ⟨rfl,.inl ⟨i,l,n,rfl,hi,h1,h2,hl,rfl,rfl⟩⟩),h⟩
theorem bt0{n:Int}(hne:l≠[])(h1:1<=n)(h2:n<2 ^ 62)(hl:l.length*n.toNat<=100000)(h:Q (.tup (List.replicate n.toNat l).flatten) g):prP (.bin .Mult) [.tup l,.int n] g Q:=⟨_,_,.inr (.inr ⟨rfl,.inr ⟨l,n,rfl,hne,h1,h2,hl,rfl,rfl⟩⟩),h⟩
theorem bu3(h:Q (.int (-i)) g):prP (.un .USub) [.int i] g Q:=⟨_,_,⟨rfl,i,rfl,rfl,rfl⟩,h⟩
theorem P0{op:CmpOp}{x y:D}{b:Bool}(hb:bs8 g x y b op)(h:Q (.bl b) g):prP (.cmp op) [x,y] g Q:=⟨_,_,⟨x,y,b,rfl,hb,rfl,rfl⟩,h⟩
theorem bJ8(h:Q (.bl (decide (i<j))) g):prP (.cmp .Lt) [.int i,.int j] g Q:=P0 ⟨i,j,rfl,rfl,rfl⟩ h
theorem bJ9(h:Q (.bl (decide (i<=j))) g):prP (.cmp .LtE) [.int i,.int j] g Q:=P0 ⟨i,j,rfl,rfl,rfl⟩ h
theorem bK0(h:Q (.bl (decide (j<i))) g):prP (.cmp .Gt) [.int i,.int j] g Q:=P0 ⟨i,j,rfl,rfl,rfl⟩ h
theorem bK1(h:Q (.bl (decide (j<=i))) g):prP (.cmp .GtE) [.int i,.int j] g Q:=P0 ⟨i,j,rfl,rfl,rfl⟩ h
theorem a19{x y:D}(h:eqP g x y fun b=>Q (.bl b) g):prP (.cmp .Eq) [x,y] g Q:=let ⟨_,hb,h⟩:=h;P0 hb h
theorem a18{x y:D}(h:eqP g x y fun b=>Q (.bl (!b)) g):prP (.cmp .NotEq) [x,y] g Q:=let ⟨b,hb,h⟩:=h;P0 (b:=!b) (show eqR g x y (!(!b)) from by rw[Bool.not_not];exact hb) h
theorem U4{x y:D}(h:inP g x y fun b=>Q (.bl b) g):prP (.cmp .In) [x,y] g Q:=let ⟨_,hb,h⟩:=h;P0 hb h
theorem J6{x y:D}(h:inP g x y fun b=>Q (.bl (!b)) g):prP (.cmp .NotIn) [x,y] g Q:=let ⟨b,hb,h⟩:=h;P0 (b:=!b) (show inR g x y (!(!b)) from by rw[Bool.not_not];exact hb) h
theorem a50(h:kb (decide (i=j))):eqP g (.int i) (.int j) kb:=⟨_,.inl ⟨i,j,rfl,rfl,rfl⟩,h⟩
theorem bm3(h:kb (t==s)):eqP g (.bl t) (.bl s) kb:=⟨_,.inr (.inl ⟨t,s,rfl,rfl,rfl⟩),h⟩
theorem a49{x y:Str}(h:kb (decide (x=y))):eqP g (.str x) (.str y) kb:=⟨_,.inr (.inr (.inl ⟨x,y,rfl,rfl,rfl⟩)),h⟩
theorem bC5(h:Q (.bl (decide (i=j))) g):prP (.cmp .Eq) [.int i,.int j] g Q:=a19 (a50 h)
theorem a69(h:Q (.bl (!decide (i=j))) g):prP (.cmp .NotEq) [.int i,.int j] g Q:=a18 (a50 h)
theorem bC6(h:Q (.bl (t==s)) g):prP (.cmp .Eq) [.bl t,.bl s] g Q:=a19 (bm3 h)
theorem bB5(h:Q (.bl (!(t==s))) g):prP (.cmp .NotEq) [.bl t,.bl s] g Q:=a18 (bm3 h)
theorem bC4{p q:Str}(h:Q (.bl (decide (p=q))) g):prP (.cmp .Eq) [.str p,.str q] g Q:=a19 (a49 h)
theorem bB4{p q:Str}(h:Q (.bl (!decide (p=q))) g):prP (.cmp .NotEq) [.str p,.str q] g Q:=a18 (a49 h)
theorem ae1{d:D}(h:Q (.bl (N7 d)) g):prP (.cmp .Is) [d,.non] g Q:=P0 ⟨rfl,rfl⟩ h
theorem aI8{d:D}(h:Q (.bl (!N7 d)) g):prP (.cmp .IsNot) [d,.non] g Q:=P0 ⟨rfl,rfl⟩ h
theorem bC1(h:Q (.bl true) g):prP (.cmp .Is) [.non,.non] g Q:=ae1 h
theorem bB9(h:Q (.bl false) g):prP (.cmp .Is) [.int i,.non] g Q:=ae1 h
theorem bC0(h:Q (.bl false) g):prP (.cmp .Is) [.bl t,.non] g Q:=ae1 h
theorem bB7{x:Str}(h:Q (.bl false) g):prP (.cmp .Is) [.str x,.non] g Q:=ae1 h
theorem bB6(h:Q (.bl false) g):prP (.cmp .Is) [.tup l,.non] g Q:=ae1 h
theorem bB8{n:Nat}(h:Q (.bl false) g):prP (.cmp .Is) [.ref n,.non] g Q:=ae1 h
theorem bC3(h:Q (.bl false) g):prP (.cmp .IsNot) [.non,.non] g Q:=aI8 h
theorem bC2(h:Q (.bl true) g):prP (.cmp .IsNot) [.int i,.non] g Q:=aI8 h
theorem bD7(h:kb t):V3 g (.bl t) kb:=⟨t,.inr (.inl rfl),h⟩
theorem a40{i:Nat}(hl:c7 g i=some l)(h:kb (!l.isEmpty)):V3 g (.ref i) kb:=⟨_,.inr (.inr (.inr (.inr ⟨i,l,rfl,hl,rfl⟩))),h⟩
theorem bf9{t:Bool}{p:Bool->Prop}(h:p t):∃s,D.bl t=D.bl s/\p s:=⟨t,rfl,h⟩
theorem br4{p:Int->Prop}(h:p i):∃s,D.int i=D.int s/\p s:=⟨i,rfl,h⟩
theorem if2{c:Prop}[Decidable c]{A B:Prop}(h1:c->A)(h2:¬c->B):if decide c=true then A else B:=by
 by_cases h:c
 ·rw[if_pos (decide_eq_true h)];exact h1 h
 ·rw[if_neg (by rw[decide_eq_false h];decide)];exact h2 h
theorem ift{A B:Prop}(h:A):if true=true then A else B:=by rw[if_pos rfl];exact h
theorem Y0{A B:Prop}(h:B):if false=true then A else B:=by rw[if_neg (by decide)];exact h
theorem bI8{A B:Prop}(h:A):if(!false)=true then A else B:=by rw[if_pos (show(!false)=true from rfl)];exact h
theorem bI7{A B:Prop}(h:B):if(!true)=true then A else B:=by rw[if_neg (by decide)];exact h
theorem ifF{b:Bool}{A B:Prop}(hb:b=false)(h:B):if b=true then A else B:=by rw[hb];exact Y0 h
theorem ifT{b:Bool}{A B:Prop}(hb:b=true)(h:A):if b=true then A else B:=by rw[hb];exact ift h
theorem D7{a:Nat}{d:D}(hl:c7 g a=some l)(h2:atI l i=some d)(h:Q d g):prP .ix [.ref a,.int i] g Q:=⟨_,_,⟨rfl,.inl ⟨_,l,i,rfl,hl,h2⟩⟩,h⟩
theorem aH5{d:D}(h2:atI l i=some d)(h:Q d g):prP .ix [.tup l,.int i] g Q:=⟨_,_,⟨rfl,.inl ⟨_,l,i,rfl,rfl,h2⟩⟩,h⟩
theorem j0{i:Nat}{kvs:List (Key×D)}{y v:D}{k:Key}(hg:g[i]?=some (.dic kvs))(hk:T4 y=some k)(hv:B0 kvs k=some v)(h:Q v g):prP .ix [.ref i,y] g Q:=⟨_,_,⟨rfl,.inr (.inl ⟨i,kvs,y,k,rfl,hg,hk,hv⟩)⟩,h⟩
theorem G7{a n:Nat}{v:D}{kg:G->Prop}(hl:g[a]?=some (.lst l))(hn:ixN l.length i=some n)(h:kg (g.set a (.lst (l.set n v)))):ac9 (.ref a) (.int i) v g kg:=⟨_,.inl ⟨a,i,l,n,rfl,rfl,hl,hn,rfl⟩,h⟩
theorem a46{i:Nat}{kvs:List (Key×D)}{y v:D}{k:Key}{kg:G->Prop}(hg:g[i]?=some (.dic kvs))(hk:T4 y=some k)(hl:kvs.length<100000)(h:kg (g.set i (.dic (putD kvs k v)))):ac9 (.ref i) y v g kg:=⟨_,.inr ⟨i,kvs,k,rfl,hg,hk,hl,rfl⟩,h⟩
theorem l7{f c:Str}{cs:List Str}{a:Nat}{fs:List (Str×D)}{v:D}{kg:G->Prop}(hg:g[a]?=some (.ins c fs))(hc:c∈cs)(hl:fs.length<100)(h:kg (g.set a (.ins c (n8 f v fs)))):af3 f cs (.ref a) v g kg:=⟨_,⟨a,c,fs,rfl,hg,hc,hl,rfl⟩,h⟩
theorem i7{f c:Str}{a:Nat}{fs:List (Str×D)}{d:D}(hg:g[a]?=some (.ins c fs))(hf:fs.lookup f=some d)(h:Q d g):prP (.fld f) [.ref a] g Q:=⟨_,_,⟨a,c,fs,rfl,hg,hf,rfl⟩,h⟩
theorem a7{a:Nat}(h:g[a]?=some (.lst l)):c7 g a=some l:=by simp only[c7,h,av1]
theorem aQ4{a:Nat}(h:g[a]?=some (.fro l)):c7 g a=some l:=by simp only[c7,h,av1]
theorem o6{a:Nat}(hl:c7 g a=some l)(h:Q (.int l.length) g):prP .len [.ref a] g Q:=⟨_,_,⟨rfl,.inl ⟨_,l,rfl,hl,rfl⟩⟩,h⟩
theorem bz0(h:Q (.int l.length) g):prP .len [.tup l] g Q:=⟨_,_,⟨rfl,.inl ⟨_,l,rfl,rfl,rfl⟩⟩,h⟩
theorem bj8(h:Q (.tup (cut l (some i) none)) g):prP (.slc true false) [.tup l,.int i] g Q:=⟨_,_,⟨_,i,rfl,.inl ⟨l,rfl,rfl,rfl⟩⟩,h⟩
theorem bk0(h:Q (.tup (cut l none (some i))) g):prP (.slc false true) [.tup l,.int i] g Q:=⟨_,_,⟨_,i,rfl,.inl ⟨l,rfl,rfl,rfl⟩⟩,h⟩
theorem bj9{a:Nat}(hl:c7 g a=some l)(h:Q (.ref g.length) (g++[.lst (cut l (some i) none)])):prP (.slc true false) [.ref a,.int i] g Q:=⟨_,_,⟨_,i,rfl,.inr ⟨a,l,rfl,hl,rfl,rfl⟩⟩,h⟩
theorem bk1{a:Nat}(hl:c7 g a=some l)(h:Q (.ref g.length) (g++[.lst (cut l none (some i))])):prP (.slc false true) [.ref a,.int i] g Q:=⟨_,_,⟨_,i,rfl,.inr ⟨a,l,rfl,hl,rfl,rfl⟩⟩,h⟩
theorem aF5(hl:l.length<=1000)(h:Q (.tup l) g):prP .tup l g Q:=⟨_,_,⟨hl,rfl,rfl⟩,h⟩
theorem aF7(hl:l.length<=1000)(h:Q (.ref g.length) (g++[.lst l])):prP .lst l g Q:=⟨_,_,⟨hl,rfl,rfl⟩,h⟩
theorem a56{a:Nat}(hl:c7 g a=some l)(h:Q (.ref g.length) (g++[.lst l])):prP .list [.ref a] g Q:=⟨_,_,⟨_,l,rfl,hl,rfl,rfl⟩,h⟩
theorem by8(h:Q (.ref g.length) (g++[.lst l])):prP .list [.tup l] g Q:=⟨_,_,⟨_,l,rfl,rfl,rfl,rfl⟩,h⟩
theorem a38{a:Nat}(hl:c7 g a=some l)(h:Q (.tup l) g):prP .tuple [.ref a] g Q:=⟨_,_,⟨_,l,rfl,hl,rfl,rfl⟩,h⟩
theorem a37(h:Q (.tup l) g):prP .tuple [.tup l] g Q:=⟨_,_,⟨_,l,rfl,rfl,rfl,rfl⟩,h⟩
theorem isi{d:D}{c:String}{b:Bool}(hc:c∈["int","bool","str","tuple","list"])(hb:ad8 g d c=some b)(h:Q (.bl b) g):prP .isin [d,.ty c] g Q:=⟨_,_,⟨d,c,b,rfl,hc,hb,rfl,rfl⟩,h⟩
theorem B5{i:Nat}{y:D}(hg:g[i]?=some (.lst l))(hl:l.length<100000)(h:Q .non (g.set i (.lst (l++[y])))):prP .append [.ref i,y] g Q:=⟨_,_,⟨i,y,l,rfl,hg,hl,rfl,rfl⟩,h⟩
theorem au0{x:Str}:mkP .join (.str x) g:=⟨x,rfl⟩
theorem au6{sep:Str}{i:Nat}{ys:List Str}(hl:c7 g i=some (ys.map .str))(hz:v7 sep ys<=100000)(h:Q (.str (Builtin.Str.glued sep ys)) g):prP .join [.str sep,.ref i] g Q:=⟨_,_,⟨sep,i,ys,rfl,hl,hz,rfl,rfl⟩,h⟩
theorem aP3{l:List D}:mkP .index (.tup l) g:=.inl ⟨l,rfl⟩
theorem aP4{a:Nat}{l:List D}(hl:c7 g a=some l):mkP .index (.ref a) g:=.inr ⟨a,l,rfl,hl⟩
theorem a54{l:List D}{y:D}{n:Nat}(W:F9 l y n)(hz:l.length<=100000)(h:Q (.int n) g):prP .index [.tup l,y] g Q:=⟨_,_,⟨_,y,l,n,rfl,rfl,W,hz,rfl,rfl⟩,h⟩
theorem a55{a:Nat}{l:List D}{y:D}{n:Nat}(hl:c7 g a=some l)(W:F9 l y n)(hz:l.length<=100000)(h:Q (.int n) g):prP .index [.ref a,y] g Q:=⟨_,_,⟨_,y,l,n,rfl,hl,W,hz,rfl,rfl⟩,h⟩
theorem aQ7{l m:List D}(hl:l.length+m.length<=100000)(h:Q (.tup (l++m)) g):prP .iadd [.tup l,.tup m] g Q:=⟨_,_,.inr ⟨l,m,rfl,hl,rfl,rfl⟩,h⟩
theorem u5{i:Nat}(hg:g[i]?=some (.lst l)):mkP .append (.ref i) g:=⟨i,l,rfl,a7 hg⟩
theorem lr2{i j:Int}(h1:-(2 ^ 62)<=i/\i<2 ^ 62/\-(2 ^ 62)<=j/\j<2 ^ 62/\j-i<=100000)(h:Q (.ref g.length) (g++[.lst (n0 i (j-i).toNat)])):prP .lrng2 [.int i,.int j] g Q:=⟨_,_,⟨i,j,rfl,h1,rfl,rfl⟩,h⟩
theorem bx6{ns ms:List Int}(h1:∀k∈ns,ST.Spot k)(h2:∀k∈ms,ST.Spot k)(hl:ns.length+ms.length<50)(h:Q (.ref g.length) (g++[.lst ((B3 (ns++ms)).map .int)])):prP .sun [.tup (ns.map .int),.tup (ms.map .int)] g Q:=⟨_,_,⟨ns,ms,rfl,h1,h2,hl,rfl,rfl⟩,h⟩
theorem W5{i:Nat}{y:D}(hg:g[i]?=some (.lst (l++[y])))(h:Q y (g.set i (.lst l))):prP .pop0 [.ref i] g Q:=⟨_,_,⟨i,l,rfl,hg,rfl⟩,h⟩
theorem Q1{i:Nat}(hg:g[i]?=some (.lst l)):mkP .pop0 (.ref i) g:=⟨i,l,rfl,a7 hg⟩
theorem bc2{i:Nat}{kvs:List (Key×D)}(hg:g[i]?=some (.dic kvs))(h:Q (.ref g.length) (g++[.dic kvs])):prP .dcopy [.ref i] g Q:=⟨_,_,⟨i,kvs,rfl,hg,rfl,rfl⟩,h⟩
theorem bz7{v:Bool}(h:Q (.int (if v then 1 else 0)) g):prP .int [.bl v] g Q:=⟨_,_,⟨rfl,.inr ⟨v,rfl,rfl⟩⟩,h⟩
theorem aF6{i:Int}(hi:i.natAbs.log2<1920)(h:Q (.str (toString i)) g):prP .str [.int i] g Q:=⟨_,_,.inl ⟨i,rfl,hi,rfl,rfl⟩,h⟩
theorem bo4{x:Str}(h:Q (.str x) g):prP .str [.str x] g Q:=⟨_,_,.inr ⟨x,rfl,rfl,rfl⟩,h⟩
theorem bA3{kvs:List D}{x:Str}(h:Q (.bl (!(T2 kvs x).isSome)) g):prP .gnin [.tup kvs,.str x] g Q:=⟨_,_,⟨kvs,x,rfl,rfl,rfl⟩,by rw[Bool.true_xor];exact h⟩
theorem aq3{kvs:List D}{x:Str}{v:D}(hv:T2 kvs x=some v)(h:Q v g):prP .gget [.tup kvs,.str x] g Q:=⟨_,_,⟨kvs,x,rfl,hv,rfl⟩,h⟩
theorem bo5{x:Str}(hx:N6 l=some x)(h:Q (.str x) g):prP .fstr l g Q:=⟨_,_,⟨x,hx,rfl,rfl⟩,h⟩
theorem bC9{i:Nat}{v:Bool}(hl:c7 g i=some l)(hv:N8 l=some v)(h:Q (.bl v) g):prP .all [.ref i] g Q:=⟨_,_,⟨i,l,v,rfl,hl,hv,rfl,rfl⟩,h⟩
theorem A1{i:Nat}{x:D}{σ:S}{k:S->Prop}(h:k (σ.set i (some x))):tgP (.one i) x σ k:=h
theorem aj3{is:List Nat}{σ σ':S}{k:S->Prop}(e:u4 is l σ=some σ')(h:k σ'):tgP (.many is) (.tup l) σ k:=⟨l,σ',rfl,e,h⟩
end
theorem aS9:∀(bs:List Bool),N8 (bs.map D.bl)=some (bs.all id):=by
 intro bs
 induction bs with
 |nil=>rfl
 |cons b r ih=>simp[N8,ih]
theorem call_of{T:Nat->Option MDef}{k f:Nat}{m:MDef}{ds:List D}{g:G}{Q:KD}{E:KX}(hT:T f=some m)(hl:ds.length=m.ar)(h:wpS (a9 T k) m.body ⟨fun _ g'=>Q .non g',Q,fun _ _=>False,fun _ _=>False⟩ (b5 m ds) g E):a9 T (k+1) f ds g Q E:=⟨m,hT,hl,h⟩
theorem e7{P:Sig}{σ:S}{g:G}{Q:KD}{E:KX}{a:ME}{i f:Nat}{c m:Str}{fs:List (Str×D)}{cs:List (Str×Nat)}(hg:g[i]?=some (.ins c fs))(hf:fs.lookup m=none)(hc:cs.lookup c=some f)(h:wpA P a σ g (fun xs g2=>P f (.ref i::xs) g2 Q E) E) :
  ∃a' c fs f,D.ref i=.ref a'/\g[a']?=some (.ins c fs)/\fs.lookup m=none/\cs.lookup c=some f/\wpA P a σ g (fun xs g2=>P f (.ref i::xs) g2 Q E) E:=⟨i,c,fs,f,rfl,hg,hf,hc,h⟩
noncomputable def IK.Is(k:IK)(l:List D)(g:G):Prop:=∀i,k.at i g=some l[i]?
theorem X9{l:List D}{g:G}:(IK.fix l).Is l g:=fun _=>rfl
theorem X8{a:Nat}{l:List D}{g:G}(h:c7 g a=some l):(IK.lst a).Is l g:=fun i=>by simp only[IK.at,h]
theorem Z0{lo:Int}{n i:Nat}{x:D}(h:(n0 lo n)[i]?=some x):i<n/\x=.int (lo+i):=by
 unfold n0 at h;have hi:i<n:=by
  have:=(List.getElem?_eq_some_iff.mp h).1;simpa using this
 rw[List.getElem?_map,List.getElem?_range hi] at h;cases h;exact⟨hi,rfl⟩
theorem P5(lo:Int)(n:Nat):(n0 lo n).length=n:=by simp[n0]
section
variable{P:Sig}{σ:S}{g:G}{E:KX}{N:Ends}{it a b c o:ME}{s:MS}{t:MT}{Q:KD}
theorem aT7{k:IK}{l:List D}{fin:S->G->Prop}{turn:D->(S->G->Prop)->S->G->Prop}(I:Nat->S->G->Prop)(hk:∀i σ g,I i σ g->k.Is l g)(h0:I 0 σ g)(hs:∀i x σ g,l[i]?=some x->I i σ g->turn x (I (i+1)) σ g)(hd:∀σ g,I l.length σ g->fin σ g):turns k σ g fin turn:=by
 refine⟨fun i m σ g=>m=l.length-i/\i<=l.length/\I i σ g,⟨l.length,by simp,Nat.zero_le _,h0⟩,?_⟩;rintro i m σ g ⟨rfl,hi,p⟩;rw[hk i σ g p i];by_cases hlt:i<l.length
 ·rw[List.getElem?_eq_getElem hlt];exact .inr ⟨_,rfl,I (i+1),fun σ' g' p'=>⟨l.length-(i+1),by omega,rfl,hlt,p'⟩,hs i l[i] σ g (List.getElem?_eq_getElem hlt) p⟩
 ·have e:i=l.length:=by omega
  subst e;rw[List.getElem?_eq_none (Nat.le_refl _)];exact .inl ⟨rfl,hd σ g p⟩
theorem ap2(hP:e9 P)(h:wpI P it σ g (fun k g1=>∃(l:List D) (I:Nat->S->G->Prop),(∀i σ g,I i σ g->k.Is l g)/\I 0 σ g1 /\
      (∀ i x σ g,l[i]?=some x->I i σ g->tgP t x σ fun σ2=>wpS P s ⟨I (i + 1),N.rt,N.nx,I (i + 1)⟩ σ2 g E)/\∀ σ g,I l.length σ g->N.nx σ g) E):wpS P (.for_ t it s) N σ g E :=
  q9 hP it _ _ _ _ _ _ (fun k g1 ⟨l,I,hk,h0,hs,hd⟩=>aT7 I hk h0 hs hd) (fun _ _ z=>z) h
theorem P2{b9:List Nat}{n:Nat}{cond elt:ME}(hP:e9 P)(h:wpI P it σ g (fun k g1=>∃(l:List D) (I:Nat->List D->S->G->Prop),l.length<=1000/\(∀i ys σ g,I i ys σ g->k.Is l g/\ys.length<=i)/\I 0 [] (J5 σ b9 n) g1 /\
      (∀i x ys σ g,l[i]?=some x->I i ys σ g->tgP t x σ fun σ2=>wpT P cond σ2 g (fun c g3=>if c=true then wpE P elt σ2 g3 (fun y g4=>I (i+1) (ys++[y]) σ2 g4) NoX else I (i+1) ys σ2 g3) NoX) /\
      ∀ ys σ g,I l.length ys σ g->Q (.ref g.length) (g ++ [.lst ys])) E):wpE P (.comp b9 n t it cond elt) σ g Q E:=by
  rw[wpE];refine q9 hP it _ _ _ _ _ _ (fun k g1 h=>?_) (fun _ _ z=>z) h;obtain⟨l,I,hl,hk,h0,hs,hd⟩:=h;refine⟨fun i m ys σ g=>m=l.length-i/\i<=l.length/\I i ys σ g,⟨l.length,by simp,Nat.zero_le _,h0⟩,?_⟩;rintro i m ys σ g ⟨rfl,hi,p⟩;obtain⟨hk',hy⟩:=hk i ys σ g p;rw[hk' i];by_cases hlt:i<l.length
  · rw[List.getElem?_eq_getElem hlt];refine .inr ⟨_,rfl,by omega,w6 (fun σ2 q=>k7 hP cond _ _ _ _ _ _ (fun c g3 q=>?_) (fun _ _ z=>z) q) (hs i l[i] ys σ g (List.getElem?_eq_getElem hlt) p)⟩;cases c
    · exact⟨l.length-(i+1),by omega,rfl,hlt,by simpa using(show I (i+1) ys σ2 g3 from q)⟩
    · exact b0 hP elt _ _ _ _ _ _ (fun y g4 q=>⟨l.length-(i+1),by omega,rfl,hlt,by simpa using q⟩) (fun _ _ z=>z) q
  · have e:i=l.length:=by omega
    subst e;rw[List.getElem?_eq_none (Nat.le_refl _)];exact .inl ⟨rfl,hd ys σ g p⟩
theorem aD8{b9:List Nat}{n:Nat}{cond elt:ME}(hP:e9 P)(h:wpE P a σ g (fun x g1=>∃j:Nat,x=.int j/\j<=1000/\∃I:Nat->List D->S->G->Prop,I 0 [] (J5 σ b9 n) g1/\(∀i ys σ g,I i ys σ g->ys.length<=i) /\
      (∀(i:Nat) ys σ g,i<j->I i ys σ g->tgP t (.int i) σ fun σ2=>wpT P cond σ2 g (fun c g3=>if c=true then wpE P elt σ2 g3 (fun y g4=>I (i+1) (ys++[y]) σ2 g4) NoX else I (i+1) ys σ2 g3) NoX) /\
      ∀ ys σ g,I j ys σ g->Q (.ref g.length) (g ++ [.lst ys])) E):wpE P (.comp b9 n t (.itR1 a) cond elt) σ g Q E:=by
  refine P2 hP ?_;rw[wpI];refine b0 hP a _ _ _ _ _ _ (fun x g1 h=>?_) (fun _ _ z=>z) h;obtain⟨j,rfl,hj,I,h0,hz,hs,hd⟩:=h;refine⟨j,rfl,by omega,by omega,_,I,by rw[P5];simpa using hj,fun i ys σ g p=>⟨X9,hz i ys σ g p⟩,h0,fun i x ys σ g hx p=>?_,fun ys σ g p=>hd ys σ g (by rw[P5] at p;simpa using p)⟩;obtain⟨hi,rfl⟩:=Z0 hx;rw[show(0:Int)+(i:Int)=i by omega];exact hs i ys σ g (by simpa using hi) p
theorem aD7{b9:List Nat}{n:Nat}{cond elt:ME}(hP:e9 P)(h:wpE P a σ g (fun x g1=>∃l,x=.tup l/\l.length<=1000/\∃I:Nat->List D->S->G->Prop,I 0 [] (J5 σ b9 n) g1/\(∀i ys σ g,I i ys σ g->ys.length<=i) /\
      (∀(i:Nat) x ys σ g,l[i]?=some x->I i ys σ g->tgP t x σ fun σ2=>wpT P cond σ2 g (fun c g3=>if c=true then wpE P elt σ2 g3 (fun y g4=>I (i+1) (ys++[y]) σ2 g4) NoX else I (i+1) ys σ2 g3) NoX) /\
      ∀ ys σ g,I l.length ys σ g->Q (.ref g.length) (g ++ [.lst ys])) E):wpE P (.comp b9 n t (.itE a) cond elt) σ g Q E:=by
  refine P2 hP ?_;rw[wpI];refine b0 hP a _ _ _ _ _ _ (fun x g1 h=>?_) (fun _ _ z=>z) h;obtain⟨l,rfl,hj,I,h0,hz,hs,hd⟩:=h;exact .inl ⟨l,rfl,_,I,hj,fun i ys σ g p=>⟨X9,hz i ys σ g p⟩,h0,hs,hd⟩
theorem br7(hP:e9 P){R:IK->G->Prop}(h:wpE P a σ g (fun x g1=>∃j:Int,x=.int j/\-(2 ^ 62)<=j/\j<2 ^ 62/\R (.fix (n0 0 j.toNat)) g1) E):wpI P (.itR1 a) σ g R E:=by rw[wpI];exact h
theorem bI9(hP:e9 P){R:IK->G->Prop}(h:wpE P a σ g (fun x g1=>wpE P b σ g1 (fun y g2=>∃i j:Int,x=.int i/\y=.int j/\(-(2 ^ 62)<=i/\i<2 ^ 62/\-(2 ^ 62)<=j/\j<2 ^ 62)/\R (.fix (n0 i (j-i).toNat)) g2) E) E):wpI P (.itR2 a b) σ g R E:=by rw[wpI];exact h
theorem i_l(hP:e9 P){R:IK->G->Prop}(h:wpE P a σ g (fun x g1=>∃i l,x=.ref i/\c7 g1 i=some l/\R (.lst i) g1) E):wpI P (.itE a) σ g R E:=by
 rw[wpI];exact b0 hP a _ _ _ _ _ _ (fun x g1 h=>.inr h) (fun _ _ z=>z) h
end
end M

namespace M
open PySem L2 PySem.Spec PyProof.Rows
structure RF where
 id:Nat
 nm:Str
 N:List Str
 k:Nat
 i:Nat
 m:MDef
structure RM where
 id:Nat
 cl:Str
 nm:Str
 qn:Str
 N:List Str
 k:Nat
 i:Nat
 j:Nat
 m:MDef
noncomputable def RF.d(tp:Nat->Stmt)(r:RF):DefI:=⟨r.nm,r.nm,r.N,r.N.take r.k,tp r.i⟩
noncomputable def RM.d(mt:Nat->Nat->Stmt)(r:RM):DefI:=⟨r.nm,r.qn,r.N,r.N.take r.k,mt r.i r.j⟩
noncomputable def aj4(F:List RF)(M:List RM)(i:Nat):Option MDef:=match F.find? fun r=>Nat.beq r.id i with
 |some r=>some r.m
 |none=>(M.find? fun r=>Nat.beq r.id i).map (·.m)
section
variable(tp:Nat->Stmt)(mt:Nat->Nat->Stmt)(K:PySem.W.Frag)
noncomputable def PF:List RF->Prop
 |[]=>True
 |r::l=>(∃f fd,PySem.W.nsIn K mainGlobals r.nm=some (some (.ref f))/\Fun K r.nm r.nm (tp r.i) f fd)/\PF l
noncomputable def PM:List RM->Prop
 |[]=>True
 |r::l=>(∃C f fd,PySem.W.nsIn K mainGlobals r.cl=some (some (.ref C))/\Meth K C r.nm f/\Fun K r.nm r.qn (mt r.i r.j) f fd)/\PM l
noncomputable def PC:List (Str×Nat)->Prop
 |[]=>True
 |r::l=>(∃C,PySem.W.nsIn K mainGlobals r.1=some (some (.ref C))/\Cls K C/\PySem.W.makesIn K C=true/\PySem.W.keepIn K (.ref C)=true)/\PC l
noncomputable def PA:List (Str×Str)->Prop
 |[]=>True
 |r::l=>(∃C,PySem.W.nsIn K mainGlobals r.2=some (some (.ref C))/\PySem.W.findIn K (.ref C) r.1=some none)/\PA l
noncomputable def PB:List Str->Prop
 |[]=>True
 |r::l=>PySem.W.nsIn K mainGlobals r=some none/\PB l
noncomputable def PX:List Str->Prop
 |[]=>True
 |r::l=>(∃C,PySem.W.nsIn K mainGlobals r=some (some (.ref C))/\PySem.W.excIn K C [.type "ValueError",.type "Exception",.type "BaseException",.type "object"] "ValueError.__new__"=true)/\PX l
noncomputable def BF:List RF->Prop
 |[]=>True
 |r::l=>(∀(kV doc pm:Value) (an:Option Addr) (cdv ct:Value) (us:List Value),us.length=(r.N.take r.k).length->bindArgs (PySem.W.fnOf r.nm r.nm (p6 (tp r.i)) (i8 (tp r.i)) (i6 (tp r.i)) .none kV doc pm an cdv ct) ⟨us,[]⟩=pure ((r.N.take r.k).zip us))/\BF l
noncomputable def BM:List RM->Prop
 |[]=>True
 |r::l=>(∀(kV doc pm:Value) (an:Option Addr) (cdv ct:Value) (us:List Value),us.length=(r.N.take r.k).length->bindArgs (PySem.W.fnOf r.nm r.qn (p6 (mt r.i r.j)) (i8 (mt r.i r.j)) (i6 (mt r.i r.j)) .none kV doc pm an cdv ct) ⟨us,[]⟩=pure ((r.N.take r.k).zip us))/\BM l
noncomputable def YF(c:c6):List RF->Prop
 |[]=>True
 |r::l=>j9 (comp 60) (c.at (r.d tp)) (i8 (tp r.i))=some r.m.body/\YF c l
noncomputable def YM(c:c6):List RM->Prop
 |[]=>True
 |r::l=>j9 (comp 60) (c.at (r.d mt)) (i8 (mt r.i r.j))=some r.m.body/\YM c l
end
section
variable{tp:Nat->Stmt}{mt:Nat->Nat->Stmt}{K:PySem.W.Frag}{c:c6}{id k i j:Nat}{cl nm qn x:Str}{N:List Str}{m:MDef}{f C:Addr}{oc kV doc pm cdv ct:Value}{od an:Option Addr}{osl:Array (Option Value)}
theorem PF.nil:PF tp K []:=trivial
theorem PF.cons{l:List RF}(a:PySem.W.nsIn K mainGlobals nm=some (some (.ref f)))(lk:K.lookup f=some ⟨oc,od,.func (PySem.W.fnOf nm nm (p6 (tp i)) (i8 (tp i)) (i6 (tp i)) .none kV doc pm an cdv ct),osl⟩)(cd:PySem.W.codeIn K cdv nm=true)(kp:PySem.W.keepIn K (.ref f)=true)(h:PF tp K l):PF tp K (⟨id,nm,N,k,i,m⟩::l):=⟨⟨f,_,a,aR3 lk cd kp⟩,h⟩
theorem PM.nil:PM mt K []:=trivial
theorem PM.cons{l:List RM}(c0:PySem.W.nsIn K mainGlobals cl=some (some (.ref C)))(a:PySem.W.findIn K (.ref C) nm=some (some (.ref f)))(af:PySem.W.isFn K (.ref f)=true)(lk:K.lookup f=some ⟨oc,od,.func (PySem.W.fnOf nm qn (p6 (mt i j)) (i8 (mt i j)) (i6 (mt i j)) .none kV doc pm an cdv ct),osl⟩)(cd:PySem.W.codeIn K cdv qn=true)(kp:PySem.W.keepIn K (.ref f)=true)(h:PM mt K l):PM mt K (⟨id,cl,nm,qn,N,k,i,j,m⟩::l):=⟨⟨C,f,_,c0,⟨a,af,kp⟩,aR3 lk cd kp⟩,h⟩
theorem PC.nil:PC K []:=trivial
theorem PC.cons{l:List (Str×Nat)}(cn:PySem.W.nsIn K mainGlobals x=some (some (.ref C)))(cp:PySem.W.plainGet K C Str.empty=true)(chd:PySem.W.hasDictIn K C=true)(cpo:PySem.W.plainOver K C=true)(csa:PySem.W.findIn K (.ref C) "__setattr__"=some (some (.builtin "object.__setattr__")))(cmk:PySem.W.makesIn K C=true)(ckp:PySem.W.keepIn K (.ref C)=true)(h:PC K l):PC K ((x,i)::l):=⟨⟨C,cn,⟨cp,chd,cpo,csa⟩,cmk,ckp⟩,h⟩
theorem PA.nil:PA K []:=trivial
theorem PA.cons{l:List (Str×Str)}(cn:PySem.W.nsIn K mainGlobals x=some (some (.ref C)))(fl:PySem.W.findIn K (.ref C) nm=some none)(h:PA K l):PA K ((nm,x)::l):=⟨⟨C,cn,fl⟩,h⟩
theorem PB.nil:PB K []:=trivial
theorem PB.cons{l:List Str}(cn:PySem.W.nsIn K mainGlobals x=some none)(h:PB K l):PB K (x::l):=⟨cn,h⟩
theorem PX.nil:PX K []:=trivial
theorem PX.cons{l:List Str}(cn:PySem.W.nsIn K mainGlobals x=some (some (.ref C)))(q:PySem.W.excIn K C [.type "ValueError",.type "Exception",.type "BaseException",.type "object"] "ValueError.__new__"=true)(h:PX K l):PX K (x::l):=⟨⟨C,cn,q⟩,h⟩
theorem BF.nil:BF tp []:=trivial
theorem BF.cons{l:List RF}(h:∀(kV doc pm:Value) (an:Option Addr) (cdv ct:Value) (us:List Value),us.length=(N.take k).length->bindArgs (PySem.W.fnOf nm nm (p6 (tp i)) (i8 (tp i)) (i6 (tp i)) .none kV doc pm an cdv ct) ⟨us,[]⟩=pure ((N.take k).zip us))(h2:BF tp l):BF tp (⟨id,nm,N,k,i,m⟩::l):=⟨h,h2⟩
theorem BM.nil:BM mt []:=trivial
theorem BM.cons{l:List RM}(h:∀(kV doc pm:Value) (an:Option Addr) (cdv ct:Value) (us:List Value),us.length=(N.take k).length->bindArgs (PySem.W.fnOf nm qn (p6 (mt i j)) (i8 (mt i j)) (i6 (mt i j)) .none kV doc pm an cdv ct) ⟨us,[]⟩=pure ((N.take k).zip us))(h2:BM mt l):BM mt (⟨id,cl,nm,qn,N,k,i,j,m⟩::l):=⟨h,h2⟩
theorem YF.nil:YF tp c []:=trivial
theorem YF.cons{l:List RF}(h:j9 (comp 60) (c.at ⟨nm,nm,N,N.take k,tp i⟩) (i8 (tp i))=some m.body)(h2:YF tp c l):YF tp c (⟨id,nm,N,k,i,m⟩::l):=⟨h,h2⟩
theorem YM.nil:YM mt c []:=trivial
theorem YM.cons{l:List RM}(h:j9 (comp 60) (c.at ⟨nm,qn,N,N.take k,mt i j⟩) (i8 (mt i j))=some m.body)(h2:YM mt c l):YM mt c (⟨id,cl,nm,qn,N,k,i,j,m⟩::l):=⟨h,h2⟩
theorem YF.get:∀{l:List RF},YF tp c l->∀r∈l,j9 (comp 60) (c.at (r.d tp)) (i8 (tp r.i))=some r.m.body
 |_::_,h,r,hr=>(List.mem_cons.mp hr).elim (fun z=>z▸h.1) (YF.get h.2 r)
theorem YM.get:∀{l:List RM},YM mt c l->∀r∈l,j9 (comp 60) (c.at (r.d mt)) (i8 (mt r.i r.j))=some r.m.body
 |_::_,h,r,hr=>(List.mem_cons.mp hr).elim (fun z=>z▸h.1) (YM.get h.2 r)
theorem PF.get:∀{l:List RF},PF tp K l->∀r∈l,∃f fd,PySem.W.nsIn K mainGlobals r.nm=some (some (.ref f))/\Fun K r.nm r.nm (tp r.i) f fd
 |_::_,h,r,hr=>(List.mem_cons.mp hr).elim (fun z=>z▸h.1) (PF.get h.2 r)
theorem PM.get:∀{l:List RM},PM mt K l->∀r∈l,∃C f fd,PySem.W.nsIn K mainGlobals r.cl=some (some (.ref C))/\Meth K C r.nm f/\Fun K r.nm r.qn (mt r.i r.j) f fd
 |_::_,h,r,hr=>(List.mem_cons.mp hr).elim (fun z=>z▸h.1) (PM.get h.2 r)
theorem PC.get:∀{l:List (Str×Nat)},PC K l->∀r∈l,∃C,PySem.W.nsIn K mainGlobals r.1=some (some (.ref C))/\Cls K C/\PySem.W.makesIn K C=true/\PySem.W.keepIn K (.ref C)=true
 |_::_,h,r,hr=>(List.mem_cons.mp hr).elim (fun z=>z▸h.1) (PC.get h.2 r)
theorem PA.get:∀{l:List (Str×Str)},PA K l->∀r∈l,∃C,PySem.W.nsIn K mainGlobals r.2=some (some (.ref C))/\PySem.W.findIn K (.ref C) r.1=some none
 |_::_,h,r,hr=>(List.mem_cons.mp hr).elim (fun z=>z▸h.1) (PA.get h.2 r)
theorem PB.get:∀{l:List Str},PB K l->∀r∈l,PySem.W.nsIn K mainGlobals r=some none
 |_::_,h,r,hr=>(List.mem_cons.mp hr).elim (fun z=>z▸h.1) (PB.get h.2 r)
theorem PX.get:∀{l:List Str},PX K l->∀r∈l,∃C,PySem.W.nsIn K mainGlobals r=some (some (.ref C))/\PySem.W.excIn K C [.type "ValueError",.type "Exception",.type "BaseException",.type "object"] "ValueError.__new__"=true
 |_::_,h,r,hr=>(List.mem_cons.mp hr).elim (fun z=>z▸h.1) (PX.get h.2 r)
theorem BF.get:∀{l:List RF},BF tp l->∀r∈l,∀(kV doc pm:Value) (an:Option Addr) (cdv ct:Value) (us:List Value),us.length=(r.N.take r.k).length->bindArgs (PySem.W.fnOf r.nm r.nm (p6 (tp r.i)) (i8 (tp r.i)) (i6 (tp r.i)) .none kV doc pm an cdv ct) ⟨us,[]⟩=pure ((r.N.take r.k).zip us)
 |_::_,h,r,hr=>(List.mem_cons.mp hr).elim (fun z=>z▸h.1) (BF.get h.2 r)
theorem BM.get:∀{l:List RM},BM mt l->∀r∈l,∀(kV doc pm:Value) (an:Option Addr) (cdv ct:Value) (us:List Value),us.length=(r.N.take r.k).length->bindArgs (PySem.W.fnOf r.nm r.qn (p6 (mt r.i r.j)) (i8 (mt r.i r.j)) (i6 (mt r.i r.j)) .none kV doc pm an cdv ct) ⟨us,[]⟩=pure ((r.N.take r.k).zip us)
 |_::_,h,r,hr=>(List.mem_cons.mp hr).elim (fun z=>z▸h.1) (BM.get h.2 r)
end
noncomputable def scB(N P:List Str)(sc:Scope):Bool:=decide (sc.kind=.function)&&!sc.isCoroutine&&!sc.isGenerator&&decide N.Nodup&&decide (N.take P.length=P)&&P.all (fun x=>decide (sc.names.lookup x=some .local)||decide (sc.names.lookup x=some .cell))&&sc.names.all fun y=>decide (y.2≠.free)
theorem aM2{N P:List Str}{sc:Scope}(h:scB N P sc=true):FnScope N P sc:=by
 unfold scB at h;simp only[Bool.and_eq_true,decide_eq_true_eq,Bool.not_eq_true',List.all_eq_true,Bool.or_eq_true] at h;obtain⟨⟨⟨⟨⟨⟨h1,h2⟩,h3⟩,h4⟩,h5⟩,h6⟩,h7⟩:=h;exact⟨h1,h2,h3,h4,h5,h6,h7⟩
theorem aO1{K:PySem.W.Frag}{h₀:Heap}{mg:Str->Option Value}{x:Str}{C:Addr}{bmB:List Value}{newId:String}(X:K.In h₀)(G:h₀.Ns mainGlobals mg)(e:PySem.W.nsIn K mainGlobals x=some (some (.ref C)))(q:PySem.W.excIn K C bmB newId=true):PyProof.Rows.OwnCls x C bmB newId mg h₀:=by
 refine⟨PySem.W.mg_of X G e,?_⟩;unfold PySem.W.excIn at q;split at q
 ·rename_i dd cd sl ho;split at q
  ·rename_i C' bm k0 k1 k2 k3 n k5 hm hs;simp only[Bool.and_eq_true,beq_iff_eq,Bool.not_eq_true'] at q;obtain⟨⟨⟨⟨⟨z1,z2⟩,hdel⟩,ht⟩,hok⟩,hni⟩:=q;subst z1;subst z2;obtain⟨nm,bs,mro,ns,qn,hd,sn,sub,ab,col,del⟩:=cd;dsimp only at hm hdel hok hni;subst hm hdel;have hsl:sl=#[k0,k1,k2,k3,some (.builtin n),k5]:=by
    obtain⟨l⟩:=sl;simp only at hs;rw[hs]
   subst hsl;exact⟨bm,ns,nm,qn,bs,hd,sn,sub,ab,col,dd,k0,k1,k2,k3,k5,_,X _ _ ho,.of_isNs (PySem.W.isNs_of_in X hok),PySem.W.nsMap_none_of_in X hok hni,PySem.W.tail_of_in X ht⟩
  ·cases q
 ·cases q
noncomputable def K4(K:PySem.W.Frag)(x:Str):Addr:=match PySem.W.nsIn K mainGlobals x with
 |some (some (.ref C))=>C
 |_=>0
noncomputable def aC8(K:PySem.W.Frag)(exc:List Str):Bool:=exc.all fun x=>exc.all fun y=>decide (PySem.W.exmOne K (.ref (K4 K x)) (.ref (K4 K y))=some (decide (x=y\/y="MintError")))
theorem bs0{K:PySem.W.Frag}{exc:List Str}(h:aC8 K exc=true){x y:Str}{C C':Addr}(hx:exc.contains x=true)(hy:exc.contains y=true)(hC:j3 K x C)(hC':j3 K y C'):PySem.W.exmOne K (.ref C) (.ref C')=some (decide (x=y\/y="MintError")):=by
 have h1:=List.all_eq_true.mp h x (by simpa using hx);have h2:=of_decide_eq_true (List.all_eq_true.mp h1 y (by simpa using hy));have e1:K4 K x=C:=by unfold K4;rw[show PySem.W.nsIn K mainGlobals x=_ from hC]
 have e2:K4 K y=C':=by unfold K4;rw[show PySem.W.nsIn K mainGlobals y=_ from hC']
 rw[e1,e2] at h2;exact h2
theorem ak5{α:Type}{f:α->Nat}:∀{l:List α},(l.map f).Nodup->∀r∈l,l.find? (fun x=>Nat.beq (f x) (f r))=some r
 |y::l,nd,r,hr=>by
  rw[List.map_cons,List.nodup_cons] at nd;rcases List.mem_cons.mp hr with rfl|hr
  ·rw[List.find?_cons_of_pos];exact Nat.beq_refl _
  ·rw[List.find?_cons_of_neg]
   ·exact ak5 nd.2 r hr
   ·intro z;exact nd.1 (List.mem_map.mpr ⟨r,hr,(Nat.eq_of_beq_eq_true z).symm⟩)
theorem be9{α β:Type}{f:α->Nat}{g:β->Nat}{l:List α}{r:β}(h:g r∉l.map f):l.find? (fun x=>Nat.beq (f x) (g r))=none:=by
 rw[List.find?_eq_none];intro x hx z;exact h (List.mem_map.mpr ⟨x,hx,Nat.eq_of_beq_eq_true z⟩)
section
variable{w:World}{K:PySem.W.Frag}{h₀:Heap}{mg:Str->Option Value}{c:c6}{F:List RF}{M:List RM}{tp:Nat->Stmt}{mt:Nat->Nat->Stmt}
structure TabIn(K:PySem.W.Frag)(c:c6)(F:List RF)(M:List RM)(tp:Nat->Stmt)(mt:Nat->Nat->Stmt):Prop where
 qF:PF tp K F
 qM:PM mt K M
 qC:PC K c.cls
 qA:PA K c.fls
 qB:PB K c.blt
 qX:PX K c.exc
 xm:aC8 K c.exc=true
structure TabTx(c:c6)(F:List RF)(M:List RM)(tp:Nat->Stmt)(mt:Nat->Nat->Stmt):Prop where
 cf:c.fns=F.map fun r=>(r.nm,r.id)
 cm:c.mts=M.map fun r=>(r.nm,r.cl,r.id)
 ci:c.cls.all (fun y=>M.any fun r=>decide (r.cl=y.1)&&decide (r.nm="__init__")&&Nat.beq r.id y.2)=true
 nd:(F.map (·.id)++M.map (·.id)).Nodup
 sF:F.all (fun r=>scB r.N (r.N.take r.k) (i6 (tp r.i))&&decide (r.m.ar=(r.N.take r.k).length)&&decide (r.m.n=r.N.length))=true
 sM:M.all (fun r=>scB r.N (r.N.take r.k) (i6 (mt r.i r.j))&&decide (r.m.ar=(r.N.take r.k).length)&&decide (r.m.n=r.N.length))=true
 oF:YF tp c F
 oM:YM mt c M
 bF:BF tp F
 bM:BM mt M
theorem aA8(I:TabIn K c F M tp mt)(X:TabTx c F M tp mt)(r:RF)(hr:r∈F):∃f fd,DefOk K c (r.d tp) r.m f fd/\PySem.W.nsIn K mainGlobals r.nm=some (some (.ref f))/\aj4 F M r.id=some r.m:=by
 obtain⟨f,fd,a,q⟩:=I.qF.get r hr;have s:=List.all_eq_true.mp X.sF r hr;simp only[Bool.and_eq_true,decide_eq_true_eq] at s;have o:=X.oF.get r hr;refine⟨f,fd,⟨q,q.binds (X.bF.get r hr),aM2 s.1.1,o,s.1.2,s.2⟩,a,?_⟩;unfold aj4;rw[ak5 (f:=(·.id)) (List.nodup_append.mp X.nd).1 r hr]
theorem aA7(I:TabIn K c F M tp mt)(X:TabTx c F M tp mt)(r:RM)(hr:r∈M):∃C f fd,DefOk K c (r.d mt) r.m f fd/\PySem.W.nsIn K mainGlobals r.cl=some (some (.ref C))/\Meth K C r.nm f/\aj4 F M r.id=some r.m:=by
 obtain⟨C,f,fd,a,q1,q⟩:=I.qM.get r hr;have s:=List.all_eq_true.mp X.sM r hr;simp only[Bool.and_eq_true,decide_eq_true_eq] at s;have o:=X.oM.get r hr;refine⟨C,f,fd,⟨q,q.binds (X.bM.get r hr),aM2 s.1.1,o,s.1.2,s.2⟩,a,q1,?_⟩;have nd:=List.nodup_append.mp X.nd;unfold aj4;rw[be9 (f:=fun r:RF=>r.id) (g:=fun r:RM=>r.id) (r:=r) (fun z=>nd.2.2 _ z _ (List.mem_map.mpr ⟨r,hr,rfl⟩) rfl),ak5 (f:=fun r:RM=>r.id) nd.2.1 r hr]
 rfl
theorem bi0(I:TabIn K c F M tp mt)(Y:TabTx c F M tp mt)(X:K.In h₀)(G:h₀.Ns mainGlobals mg)(con:∀x d,c.con.lookup x=some d->∃v u,mg x=some u/\RelV v u/\∀ρ H,b7 K ρ H d v)(gdcs:∀x kvs,c.gd.lookup x=some kvs->∃A vs,mg x=some (.ref A)/\ai7 K w.params A vs/\Y6 K kvs vs):TabOk w K mg c (aj4 F M):=by
 refine⟨fun x i hx=>?_,fun x i hx=>?_,fun x y i C hx hC=>?_,fun f y C hx hC=>?_,con,fun x hx=>?_,fun x hx=>?_,fun x y C C' hx hy hC hC'=>bs0 I.xm hx hy hC hC',gdcs⟩
 ·have hm:=PySem.mem_of_lookup hx;rw[Y.cf] at hm;obtain⟨r,hr,e⟩:=List.mem_map.mp hm;cases e;obtain⟨f,fd,O,a,t⟩:=aA8 I Y r hr;exact⟨_,_,f,fd,t,O,PySem.W.mg_of X G a⟩
 ·have hm:=PySem.mem_of_lookup hx;have h1:=List.all_eq_true.mp Y.ci _ hm;obtain⟨r,hr,e⟩:=List.any_eq_true.mp h1;simp only[Bool.and_eq_true,decide_eq_true_eq] at e;obtain⟨⟨e1,e2⟩,e3⟩:=e;have e3:=Nat.eq_of_beq_eq_true e3;obtain⟨C,f,fd,O,a,q,t⟩:=aA7 I Y r hr;obtain⟨C',a',hc,mk,kp⟩:=I.qC.get _ hm;rw[e1] at a;cases a.symm.trans a';rw[e2] at q;rw[e3] at t;exact⟨C,_,_,f,fd,t,O,PySem.W.mg_of X G a,a,hc,⟨mk,q.at_,q.fn,kp⟩⟩
 ·rw[Y.cm] at hx;obtain⟨r,hr,e⟩:=List.mem_map.mp hx;cases e;obtain⟨C',f,fd,O,a,q,t⟩:=aA7 I Y r hr;cases a.symm.trans hC;exact⟨_,_,f,fd,t,O,q⟩
 ·obtain⟨C',a,q⟩:=I.qA.get _ hx;cases a.symm.trans hC;exact q
 ·exact PySem.W.mg_none_of X G (I.qB.get x (by simpa using hx))
 ·obtain⟨C,a,q⟩:=I.qX.get x (by simpa using hx);exact⟨_,PySem.W.mg_of X G a,a,fun base kin gns=>⟨_,_,_,_,aO1 kin gns a q,PySem.F.excBase_ValueError⟩⟩
end
end M

namespace M
open PySem L2
local macro_rules | `(tactic| walk_at "w1") => `(tactic| first
 | with_reducible refine aK2 ?_ | with_reducible refine a34 ?_ | with_reducible refine a33 ?_ | with_reducible refine bu1 ?_ | with_reducible refine bh1 ?_ | with_reducible refine w_unp ?_ | with_reducible refine a77 ?_ | with_reducible refine bg7 ?_ | with_reducible refine a36 ?_ | with_reducible refine w5 ?_ | with_reducible refine w_retn ?_
 |(with_reducible refine w_var (d:=?_) ?_ ?_;rotate_left;· with_unfolding_all rfl)|with_reducible refine w_lit ?_|with_reducible refine aj0 ?_|with_reducible refine aD6 ?_|with_reducible refine bD4 ?_|with_reducible refine bg8 ?_|with_reducible refine a80 ?_|with_reducible refine w_and ?_|with_reducible refine w_or ?_|with_reducible refine w_not ?_|with_reducible refine w_ite ?_
 | with_reducible refine aK3 ?_ | with_reducible refine bh0 ?_ | with_reducible refine a79 ?_ | with_reducible refine a35 ?_ | with_reducible refine V2 ?_
 | with_reducible refine bg6 ?_ | with_reducible refine bu0 ?_ | with_reducible refine bg5 ?_ | with_reducible refine a32 ?_ | with_reducible refine a31 ?_
 | with_reducible refine bD1 ?_ | with_reducible refine bD0 ?_ | with_reducible refine bu3 ?_ | with_reducible refine bJ8 ?_ | with_reducible refine bJ9 ?_ | with_reducible refine bK0 ?_ | with_reducible refine bK1 ?_ | with_reducible refine bC5 ?_ | with_reducible refine a69 ?_ | with_reducible refine bC6 ?_ | with_reducible refine bB5 ?_ | with_reducible refine bC4 ?_ | with_reducible refine bC1 ?_ | with_reducible refine bB9 ?_ | with_reducible refine bC0 ?_ | with_reducible refine bB7 ?_ | with_reducible refine bB6 ?_ | with_reducible refine bB8 ?_ | with_reducible refine ae1 ?_ | with_reducible refine bC3 ?_ | with_reducible refine bC2 ?_ | with_reducible refine c_inT ?_ | with_reducible refine c_inR ?_ | with_reducible refine aI8 ?_
 | with_reducible refine bD7 ?_ | with_reducible refine bf9 ?_ | with_reducible refine br4 ?_ | with_reducible refine ift ?_ | with_reducible refine Y0 ?_ | with_reducible refine bI8 ?_ | with_reducible refine bI7 ?_
 | with_reducible refine bz0 ?_ | with_reducible refine sl00_t ?_ | with_reducible refine bj8 ?_ | with_reducible refine bk0 ?_ | with_reducible refine rev_t ?_ | with_reducible refine by8 ?_ | with_reducible refine a37 ?_)
local macro_rules | `(tactic| walk_at "w2") => `(tactic| repeat (first | walk_at "w1" | with_reducible refine aF5 (by simp) ?_ | with_reducible refine aF7 (by simp) ?_ | with_reducible refine D7 (a7 (by assumption)) (by with_unfolding_all rfl) ?_ | with_reducible refine o6 (a7 (by assumption)) ?_ | with_reducible refine aq6 (by unfold ae4; decide) ?_))
local macro_rules | `(tactic| walk_at "w3") => `(tactic| repeat (first | walk_at "w1" | with_reducible refine aF5 (by simp) ?_ | with_reducible refine aF7 (by simp) ?_ | with_reducible refine D7 (a7 (by assumption)) (by with_unfolding_all rfl) ?_ | with_reducible refine o6 (a7 (by assumption)) ?_ | with_reducible refine aq6 (by unfold ae4; decide) ?_ | with_reducible refine And.intro (show List.length _ <= 1000 from by simp) ?_ | with_reducible refine aj3 (by with_unfolding_all rfl) ?_ | with_reducible refine A1 ?_ | with_reducible refine aH5 (by with_unfolding_all rfl) ?_))
local macro_rules | `(tactic| walk_at "w5") => `(tactic| repeat (first | walk_at "w1" | with_reducible refine a78 ?_ | with_reducible refine bt9 ?_ | with_reducible refine bg9 ?_ | with_reducible refine bB4 ?_ | with_reducible refine t_int ?_ | with_reducible refine t_non ?_ | with_reducible refine max2 ?_ | with_reducible refine min2 ?_ | with_reducible refine bz7 ?_ | with_reducible refine dnew ?_ | with_reducible refine g_in ?_ | with_reducible refine bA3 ?_ | with_reducible refine aF5 (by simp) ?_ | with_reducible refine aF7 (by simp) ?_ | with_reducible refine D7 (a7 (by assumption)) (by with_unfolding_all rfl) ?_ | with_reducible refine o6 (a7 (by assumption)) ?_ | with_reducible refine aq6 (by unfold ae4; decide) ?_ | with_reducible refine And.intro (show List.length _ <= 1000 from by simp) ?_ | with_reducible refine aj3 (by with_unfolding_all rfl) ?_ | with_reducible refine A1 ?_ | with_reducible refine aH5 (by with_unfolding_all rfl) ?_ | with_reducible refine And.intro (u5 (by assumption)) ?_ | with_reducible refine And.intro (mk_pop (by assumption)) ?_ | with_reducible refine And.intro (mk_d (by assumption)) ?_ | with_reducible refine N9 (by decide) ?_ | with_reducible refine a_divL (by decide) (by decide) ?_ | with_reducible refine i_n ?_))
noncomputable def E3:MDef:=⟨2,5,(.seq (.ifs (.and_ (.tst (.prim (.cmp .Lt) (.cons (.prim .ix (.cons (.var 0) (.cons (.lit (.int 2)) .nil))) (.cons (.var 1) .nil)))) (.tst (.prim (.cmp .Lt) (.cons (.prim .ix (.cons (.var 0) (.cons (.lit (.int 1)) .nil))) (.cons (.prim .len (.cons (.prim .ix (.cons (.var 0) (.cons (.lit (.int 0)) .nil))) .nil)) .nil))))) (.seq (.set 2 (.prim .ix (.cons (.prim .ix (.cons (.var 0) (.cons (.lit (.int 0)) .nil))) (.cons (.prim .ix (.cons (.var 0) (.cons (.lit (.int 1)) .nil))) .nil)))) (.seq (.setix (.var 0) (.lit (.int 1)) (.prim (.bin .Add) (.cons (.prim .ix (.cons (.var 0) (.cons (.lit (.int 1)) .nil))) (.cons (.lit (.int 1)) .nil)))) (.seq (.setix (.var 0) (.lit (.int 2)) (.lit (.int 0))) (.seq (.ifs (.tst (.prim (.cmp .GtE) (.cons (.var 2) (.cons (.prim (.bin .Pow) (.cons (.lit (.int 10)) (.cons (.lit (.int 18)) .nil))) .nil)))) (.seq (.setix (.var 0) (.lit (.int 2)) (.var 2)) .pass) (.seq (.setix (.var 0) (.lit (.int 3)) (.prim (.bin .Mod) (.cons (.prim (.bin .Add) (.cons (.prim (.bin .Add) (.cons (.prim (.bin .Mult) (.cons (.prim .ix (.cons (.var 0) (.cons (.lit (.int 3)) .nil))) (.cons (.lit (.int 48271)) .nil))) (.cons (.prim (.bin .Mult) (.cons (.prim (.bin .Mod) (.cons (.var 2) (.cons (.lit (.int 2147483629)) .nil))) (.cons (.lit (.int 69621)) .nil))) .nil))) (.cons (.lit (.int 12345)) .nil))) (.cons (.lit (.int 2147483647)) .nil)))) .pass)) .pass)))) .pass) (.seq (.ifs (.tst (.prim (.cmp .GtE) (.cons (.prim .ix (.cons (.var 0) (.cons (.lit (.int 2)) .nil))) (.cons (.var 1) .nil)))) (.seq (.set 3 (.prim (.bin .Mod) (.cons (.prim .ix (.cons (.var 0) (.cons (.lit (.int 2)) .nil))) (.cons (.var 1) .nil)))) (.seq (.setix (.var 0) (.lit (.int 2)) (.prim (.bin .FloorDiv) (.cons (.prim .ix (.cons (.var 0) (.cons (.lit (.int 2)) .nil))) (.cons (.var 1) .nil)))) (.seq (.ret (.var 3)) .pass))) .pass) (.seq (.set 4 (.prim .ix (.cons (.var 0) (.cons (.lit (.int 3)) .nil)))) (.seq (.setix (.var 0) (.lit (.int 3)) (.prim (.bin .Mod) (.cons (.prim (.bin .Add) (.cons (.prim (.bin .Add) (.cons (.prim (.bin .Mult) (.cons (.prim (.bin .Mod) (.cons (.prim (.bin .Mult) (.cons (.var 4) (.cons (.var 4) .nil))) (.cons (.lit (.int 2147483629)) .nil))) (.cons (.lit (.int 5)) .nil))) (.cons (.prim (.bin .Mult) (.cons (.var 4) (.cons (.lit (.int 16811)) .nil))) .nil))) (.cons (.lit (.int 2531011)) .nil))) (.cons (.lit (.int 2147483647)) .nil)))) (.seq (.ret (.prim (.bin .Mod) (.cons (.prim (.bin .Add) (.cons (.prim (.bin .FloorDiv) (.cons (.prim .ix (.cons (.var 0) (.cons (.lit (.int 3)) .nil))) (.cons (.lit (.int 59)) .nil))) (.cons (.prim (.bin .Mult) (.cons (.prim (.bin .Mod) (.cons (.prim .ix (.cons (.var 0) (.cons (.lit (.int 3)) .nil))) (.cons (.lit (.int 8191)) .nil))) (.cons (.lit (.int 31)) .nil))) .nil))) (.cons (.var 1) .nil)))) .pass)))))⟩
noncomputable def ad6:MDef:=⟨1,2,(.seq (.set 1 (.call 4 (.cons (.var 0) (.cons (.prim (.bin .Pow) (.cons (.lit (.int 10)) (.cons (.lit (.int 9)) .nil))) .nil)))) (.seq (.ifs (.tst (.prim (.cmp .Eq) (.cons (.call 4 (.cons (.var 0) (.cons (.lit (.int 2)) .nil))) (.cons (.lit (.int 0)) .nil)))) (.seq (.set 1 (.prim (.bin .Add) (.cons (.var 1) (.cons (.prim (.bin .Pow) (.cons (.lit (.int 10)) (.cons (.lit (.int 25)) .nil))) .nil)))) .pass) .pass) (.seq (.ifs (.tst (.prim (.cmp .Eq) (.cons (.call 4 (.cons (.var 0) (.cons (.lit (.int 2)) .nil))) (.cons (.lit (.int 0)) .nil)))) (.seq (.ret (.prim (.bin .Sub) (.cons (.prim (.un .USub) (.cons (.lit (.int 1)) .nil)) (.cons (.var 1) .nil)))) .pass) .pass) (.seq (.ret (.var 1)) .pass))))⟩
structure d6(g:G)(d:Nat):Prop where
 ex:∃(s:Nat) (p b r:Int) (xs:List Int),g[d]?=some (.lst [.ref s,.int p,.int b,.int r])/\g[s]?=some (.lst (xs.map .int))/\s<d/\0<=p/\0<=b/\0<=r/\r<2147483647
structure Gr(d:Nat)(g g':G):Prop where
 len:g.length<=g'.length
 old:∀i,i≠d->i<g.length->g'[i]?=g[i]?
theorem Gr.refl(d:Nat)(g:G):Gr d g g:=⟨Nat.le_refl _,fun _ _ _=>rfl⟩
theorem Gr.trans{d:Nat}{g g1 g2:G}(a:Gr d g g1)(b:Gr d g1 g2):Gr d g g2:=⟨Nat.le_trans a.len b.len,fun i h1 h2=>(b.old i h1 (Nat.lt_of_lt_of_le h2 a.len)).trans (a.old i h1 h2)⟩
theorem Gr.set(d:Nat)(g:G)(o:O):Gr d g (g.set d o):=⟨by simp,fun i h1 h2=>List.getElem?_set_ne (Ne.symm h1)⟩
theorem Gr.snoc(d:Nat)(g:G)(o:O):Gr d g (g++[o]):=⟨by simp,fun i h1 h2=>List.getElem?_append_left h2⟩
theorem Gr.at{d:Nat}{g g':G}(h:Gr d g g'){i:Nat}{o:O}(hi:i≠d)(e:g[i]?=some o):g'[i]?=some o:=(h.old i hi (List.getElem?_eq_some_iff.mp e).1).trans e
theorem d0{g:G}{i:Nat}{o:O}(h:g[i]?=some o):i<g.length:=(List.getElem?_eq_some_iff.mp h).1
theorem d6.lt{g:G}{d:Nat}(h:d6 g d):d<g.length:=let ⟨_,_,_,_,_,e,_⟩:=h.ex;d0 e
theorem d6.snoc{g:G}{d:Nat}(h:d6 g d)(o:O):d6 (g++[o]) d:=by
 obtain⟨s,p,b,r,xs,e1,e2,q⟩:=h.ex;exact⟨s,p,b,r,xs,by rw[List.getElem?_append_left (d0 e1)];exact e1,by rw[List.getElem?_append_left (d0 e2)];exact e2,q⟩
noncomputable def Z1:MS->MS
 |.seq _ b=>b
 |x=>x
theorem bs7{i j:Int}(h1:-(2 ^ 64)<i)(h2:i<2 ^ 64):ae5 i j:=.inl ⟨h1,h2⟩
theorem Y2{i j:Int}(h1:-(2 ^ 64)<j)(h2:j<2 ^ 64):ae5 i j:=.inr ⟨h1,h2⟩
theorem aM7{P:Sig}{d:Nat}{n:Int}{g:G}{Q:KD}{E:KX}{N:Ends}{c2:Option D}(hN:N.rt=Q)(D0:d6 g d)(hn:0<n)(hn2:n<1073741824)(h:∀r g',0<=r->r<n->d6 g' d->Gr d g g'->Q (.int r) g'):wpS P (Z1 E3.body) N [some (.ref d),some (.int n),c2,none,none] g E:=by
 obtain⟨s,p,b,r,xs,e1,e2,hsd,hp,hb,hr,hr2⟩:=D0.ex;have hlt:=d0 e1;subst hN;dsimp[E3,Z1];walk_at "w2";refine if2 (fun c=>?_) (fun c=>?_)
 ·walk_at "w2";refine N9 hn ?_;walk_at "w2";refine a73 ⟨hn,hn2⟩ ?_;walk_at "w2";refine G7 e1 (by with_unfolding_all rfl) ?_;walk_at "w2";refine h _ _ (Int.emod_nonneg _ (by omega)) (Int.emod_lt_of_pos _ hn) ⟨s,p,b / n,r,xs,?_,?_,hsd,hp,Int.ediv_nonneg hb (by omega),hr,hr2⟩ (Gr.set d g _)
  ·rw[List.getElem?_set_self hlt];rfl
  ·rw[List.getElem?_set_ne (Nat.ne_of_gt hsd)];exact e2
 ·walk_at "w2";have r64:-(2 ^ 64)<r/\r<2 ^ 64:=⟨by omega,by omega⟩
  refine aa9 (bs7 r64.1 r64.2) ?_;walk_at "w2";refine N9 (by decide) ?_;walk_at "w2";refine aa9 (Y2 (by decide) (by decide)) ?_;walk_at "w2";refine aa9 (Y2 (by decide) (by decide)) ?_;walk_at "w2";refine N9 (by decide) ?_;walk_at "w2";refine G7 e1 (by with_unfolding_all rfl) ?_;generalize hr':(r*r % 2147483629*5+r*16811+2531011) % 2147483647=r';have q0:0<=r':=by rw[<- hr'];exact Int.emod_nonneg _ (by decide)
  have q1:r'<2147483647:=by rw[<- hr'];exact Int.emod_lt_of_pos _ (by decide)
  have e1':(g.set d (.lst [.ref s,.int p,.int b,.int r']))[d]?=some (.lst [.ref s,.int p,.int b,.int r']):=List.getElem?_set_self hlt;show wpS P _ _ _ (g.set d (.lst [.ref s,.int p,.int b,.int r'])) E;walk_at "w2";refine a73 ⟨by decide,by decide⟩ ?_;walk_at "w2";refine N9 (by decide) ?_;walk_at "w2";refine aa9 (Y2 (by decide) (by decide)) ?_;walk_at "w2";refine N9 hn ?_;walk_at "w2";refine h _ _ (Int.emod_nonneg _ (by omega)) (Int.emod_lt_of_pos _ hn) ⟨s,p,b,r',xs,e1',?_,hsd,hp,hb,q0,q1⟩ (Gr.set d g _);rw[List.getElem?_set_ne (Nat.ne_of_gt hsd)];exact e2
theorem i4{T:Nat->Option MDef}(hT:T 4=some E3){k d:Nat}{n:Int}{g:G}{Q:KD}{E:KX}(D0:d6 g d)(hn:0<n)(hn2:n<1073741824)(h:∀r g',0<=r->r<n->d6 g' d->Gr d g g'->Q (.int r) g'):a9 T (k+1) 4 [.ref d,.int n] g Q E:=by
 obtain⟨s,p,b,r,xs,e1,e2,hsd,hp,hb,hr,hr2⟩:=D0.ex;have hlt:=d0 e1;refine call_of hT rfl ?_;have tail:∀(g':G) (c2:Option D),d6 g' d->Gr d g g'->wpS (a9 T k) (Z1 E3.body) ⟨fun _ g'=>Q .non g',Q,fun _ _=>False,fun _ _=>False⟩ [some (.ref d),some (.int n),c2,none,none] g' E :=
  fun g' c2 D1 gr=>aM7 rfl D1 hn hn2 fun r g2 a b c e=>h r g2 a b c (gr.trans e)
 dsimp[E3,b5,List.replicate];walk_at "w2";refine if2 (fun c=>?_) (fun c=>?_)
 ·walk_at "w2";refine if2 (fun c'=>?_) (fun c'=>?_)
  ·walk_at "w2";have hp':p.toNat<xs.length:=by
    rw[List.length_map] at c';omega
   have ea:atI (xs.map D.int) p=some (.int xs[p.toNat]):=by
    have:=Q7 (xs:=xs.map D.int) (j:=p.toNat) (v:=.int xs[p.toNat]) (by rw[List.getElem?_map,List.getElem?_eq_getElem hp'];rfl)
    rwa [show((p.toNat:Nat):Int)=p by omega] at this
   refine D7 (a7 e2) ea ?_;generalize xs[p.toNat]=cell;walk_at "w2";refine G7 e1 (by with_unfolding_all rfl) ?_;have f1:(g.set d (.lst [.ref s,.int (p+1),.int b,.int r]))[d]?=some (.lst [.ref s,.int (p+1),.int b,.int r]):=List.getElem?_set_self hlt;show wpS (a9 T k) _ _ _ (g.set d (.lst [.ref s,.int (p+1),.int b,.int r])) E;walk_at "w2";refine G7 f1 (by with_unfolding_all rfl) ?_;rw[List.set_set];have f2:(g.set d (.lst [.ref s,.int (p+1),.int 0,.int r]))[d]?=some (.lst [.ref s,.int (p+1),.int 0,.int r]):=List.getElem?_set_self hlt;show wpS (a9 T k) _ _ _ (g.set d (.lst [.ref s,.int (p+1),.int 0,.int r])) E;walk_at "w2";refine if2 (fun c2=>?_) (fun c2=>?_)
   ·walk_at "w2";refine G7 f2 (by with_unfolding_all rfl) ?_;rw[List.set_set];refine tail _ _ ⟨s,p+1,cell,r,xs,List.getElem?_set_self hlt,by rw[List.getElem?_set_ne (Nat.ne_of_gt hsd)];exact e2,hsd,by omega,?_,hr,hr2⟩ (Gr.set d g _);have:(10:Int) ^ (18:Int).toNat<=cell:=c2;have h10:(0:Int)<=10 ^ (18:Int).toNat:=by decide
    omega
   ·walk_at "w2";refine aa9 (Y2 (by decide) (by decide)) ?_;walk_at "w2";refine N9 (by decide) ?_;walk_at "w2";refine aa9 (Y2 (by decide) (by decide)) ?_;walk_at "w2";refine N9 (by decide) ?_;walk_at "w2";refine G7 f2 (by with_unfolding_all rfl) ?_;rw[List.set_set];exact tail _ _ ⟨s,p+1,0,_,xs,List.getElem?_set_self hlt,by rw[List.getElem?_set_ne (Nat.ne_of_gt hsd)];exact e2,hsd,by omega,by decide,Int.emod_nonneg _ (by decide),Int.emod_lt_of_pos _ (by decide)⟩ (Gr.set d g _)
  ·walk_at "w1";exact tail _ _ D0 (Gr.refl _ _)
 ·walk_at "w1";walk_at "w1";exact tail _ _ D0 (Gr.refl _ _)
theorem aR6{T:Nat->Option MDef}(hT:T 4=some E3)(hT5:T 5=some ad6){k d:Nat}{g:G}{Q:KD}{E:KX}(D0:d6 g d)(h:∀r g',d6 g' d->Gr d g g'->Q (.int r) g'):a9 T (k+2) 5 [.ref d] g Q E:=by
 refine call_of hT5 rfl ?_;dsimp[ad6,b5,List.replicate];walk_at "w2";refine i4 hT D0 (by decide) (by decide) fun r1 g1 _ _ D1 G1=>?_;walk_at "w2";refine i4 hT D1 (by decide) (by decide) fun r2 g2 _ _ D2 G2=>?_;walk_at "w2";have G12:=G1.trans G2;have last:∀(x:Int),wpS (a9 T (k+1)) (Z1 (Z1 ad6.body)) ⟨fun _ g'=>Q .non g',Q,fun _ _=>False,fun _ _=>False⟩ [some (.ref d),some (.int x)] g2 E:=fun x=>by
  dsimp[ad6,Z1];walk_at "w2";refine i4 hT D2 (by decide) (by decide) fun r3 g3 _ _ D3 G3=>?_;walk_at "w2";refine if2 (fun c=>?_) (fun c=>?_)
  ·walk_at "w2";exact h _ _ D3 (G12.trans G3)
  ·walk_at "w2";exact h _ _ D3 (G12.trans G3)
 refine if2 (fun c=>?_) (fun c=>?_)
 ·refine aK2 ?_;refine a33 ?_;refine aj0 ?_;walk_at "w1";refine aj0 ?_;walk_at "w1";walk_at "w1";refine aq6 (by unfold ae4;decide) ?_;walk_at "w1";exact last _
 ·exact last _
noncomputable def X4:MDef:=⟨1,1,(.seq (.ret (.and_ (.prim .isin (.cons (.var 0) (.cons (.lit (.ty "int")) .nil))) (.not_ (.prim .isin (.cons (.var 0) (.cons (.lit (.ty "bool")) .nil)))))) .pass)⟩
noncomputable def O1:MDef:=⟨3,3,(.seq (.ret (.and_ (.call 38 (.cons (.var 0) .nil)) (.chain .LtE .LtE (.var 1) (.var 0) (.var 2)))) .pass)⟩
structure NF(T:Nat->Option MDef):Prop where
 nf:T 1=some O1
 is:T 38=some X4
noncomputable def ap7:MDef:=⟨1,1,(.seq (.ret (.prim .lst (.cons (.prim .list (.cons (.prim (.slc false true) (.cons (.var 0) (.cons (.lit (.int 63)) .nil))) .nil)) (.cons (.lit (.int 0)) (.cons (.lit (.int 0)) (.cons (.lit (.int 29)) .nil)))))) .pass)⟩
noncomputable def aj8:MDef:=⟨1,1,(.seq (.ret (.and_ (.prim .isin (.cons (.var 0) (.cons (.lit (.ty "int")) .nil))) (.not_ (.prim .isin (.cons (.var 0) (.cons (.lit (.ty "bool")) .nil)))))) .pass)⟩
noncomputable def p8:MDef:=⟨2,2,(.seq (.ifs (.tst (.prim (.cmp .Is) (.cons (.var 1) (.cons (.lit .non) .nil)))) (.seq (.ret (.prim (.cmp .Is) (.cons (.var 0) (.cons (.lit .non) .nil)))) .pass) .pass) (.seq (.ifs (.tst (.prim .isin (.cons (.var 1) (.cons (.lit (.ty "bool")) .nil)))) (.seq (.ret (.and_ (.prim .isin (.cons (.var 0) (.cons (.lit (.ty "bool")) .nil))) (.prim (.cmp .Eq) (.cons (.var 0) (.cons (.var 1) .nil))))) .pass) .pass) (.seq (.ifs (.tst (.prim .isin (.cons (.var 1) (.cons (.lit (.ty "int")) .nil)))) (.seq (.ret (.and_ (.call 6 (.cons (.var 0) .nil)) (.prim (.cmp .Eq) (.cons (.var 0) (.cons (.var 1) .nil))))) .pass) .pass) (.seq (.ifs (.tst (.prim .isin (.cons (.var 1) (.cons (.lit (.ty "str")) .nil)))) (.seq (.ret (.and_ (.prim .isin (.cons (.var 0) (.cons (.lit (.ty "str")) .nil))) (.prim (.cmp .Eq) (.cons (.var 0) (.cons (.var 1) .nil))))) .pass) .pass) (.seq (.ifs (.or_ (.tst (.prim (.cmp .NotEq) (.cons (.prim .isin (.cons (.var 1) (.cons (.lit (.ty "tuple")) .nil))) (.cons (.prim .isin (.cons (.var 0) (.cons (.lit (.ty "tuple")) .nil))) .nil)))) (.tst (.prim (.cmp .NotEq) (.cons (.prim .isin (.cons (.var 1) (.cons (.lit (.ty "list")) .nil))) (.cons (.prim .isin (.cons (.var 0) (.cons (.lit (.ty "list")) .nil))) .nil))))) (.seq (.ret (.lit (.bl false))) .pass) .pass) (.seq (.ifs (.tst (.prim (.cmp .NotEq) (.cons (.prim .len (.cons (.var 0) .nil)) (.cons (.prim .len (.cons (.var 1) .nil)) .nil)))) (.seq (.ret (.lit (.bl false))) .pass) .pass) (.seq (.ret (.prim .all (.cons (.comp [1,0] 4 (.one 3) (.itR1 (.prim .len (.cons (.var 1) .nil))) .no (.call 7 (.cons (.prim .ix (.cons (.var 1) (.cons (.var 3) .nil))) (.cons (.prim .ix (.cons (.var 0) (.cons (.var 3) .nil))) .nil)))) .nil))) .pass)))))))⟩
section
variable{T:Nat->Option MDef}{k d:Nat}{g:G}{Q:KD}{E:KX}
theorem av2(h1:NF T){i:Int}(h:Q (.bl true) g):a9 T (k+1) 38 [.int i] g Q E:=by
 refine call_of h1.is rfl ?_;dsimp[X4,b5,List.replicate];walk_at "w2";refine isi (c:="int") (b:=true) (by decide) rfl ?_;walk_at "w2";refine isi (c:="bool") (b:=false) (by decide) rfl ?_;walk_at "w2";exact h
theorem x9(h1:NF T){i l m:Int}(h:Q (.bl (decide (l<=i)&&decide (i<=m))) g):a9 T (k+2) 1 [.int i,.int l,.int m] g Q E:=by
 refine call_of h1.nf rfl ?_;dsimp[O1,b5,List.replicate];walk_at "w2";refine av2 h1 ?_;walk_at "w2";refine if2 (fun c=>?_) (fun c=>?_)
 ·rw[decide_eq_true c] at h;walk_at "w2";exact h
 ·rw[decide_eq_false c] at h;exact h
theorem bc3(h3:T 3=some ap7){a:Nat}{ns:List Int}(hg:g[a]?=some (.fro (ns.map .int)))(h:∀d g',d6 g' d->g.length<=d->(∀i,i<g.length->g'[i]?=g[i]?)->Q (.ref d) g'):a9 T (k+1) 3 [.ref a] g Q E:=by
 refine call_of h3 rfl ?_;dsimp[ap7,b5,List.replicate];walk_at "w2";refine bk1 (aQ4 hg) ?_;walk_at "w2";refine a56 (l:=cut (ns.map D.int) none (some 63)) (a7 (by simp)) ?_;walk_at "w2";have ec:cut (ns.map D.int) none (some 63)=(cut ns none (some 63)).map D.int:=by
  unfold cut;simp[List.map_take,List.map_drop]
 refine h _ _ ⟨g.length+1,0,0,29,cut ns none (some 63),?_,?_,?_,by decide,by decide,by decide,by decide⟩ (by simp) (fun i hi=>?_)
 ·simp
 ·rw[<- ec];simp
 ·simp
 ·simp[List.getElem?_append,hi,Nat.lt_of_lt_of_le hi (by omega:g.length<=g.length+1),Nat.lt_of_lt_of_le hi (by omega:g.length<=g.length+1+1)]
end
theorem M9{α:Type}{l:List α}{r:Int}(h0:0<=r)(h1:r<l.length):∃v,atI l r=some v/\v∈l:=by
 have hi:r.toNat<l.length:=by omega
 refine⟨l[r.toNat],?_,List.getElem_mem hi⟩;have:=Q7 (xs:=l) (j:=r.toNat) (v:=l[r.toNat]) (List.getElem?_eq_getElem hi)
 rwa [show((r.toNat:Nat):Int)=r by omega] at this
section
variable{T:Nat->Option MDef}{k d:Nat}{g:G}{Q:KD}{E:KX}
theorem aC0(h7:T 7=some p8){a b:Bool}(h:Q (.bl (a==b)) g):a9 T (k+1) 7 [.bl a,.bl b] g Q E:=by
 refine call_of h7 rfl ?_;dsimp[p8,b5,List.replicate];walk_at "w2";walk_at "w2";refine isi (c:="bool") (b:=true) (by decide) rfl ?_;walk_at "w2";refine isi (c:="bool") (b:=true) (by decide) rfl ?_;walk_at "w2";exact h
end
section
variable{T:Nat->Option MDef}{k d:Nat}{g:G}{Q:KD}{E:KX}
end
theorem d6.as5{g:G}{d x:Nat}{o:O}(h:d6 g d)(hx:d<x):d6 (g.set x o) d:=by
 obtain⟨s,p,b,r,xs,e1,e2,hs,q⟩:=h.ex;exact⟨s,p,b,r,xs,by rw[List.getElem?_set_ne (by omega)];exact e1,by rw[List.getElem?_set_ne (by omega)];exact e2,hs,q⟩
theorem c5{g:G}{o:O}:(g++[o])[g.length]?=some o:=by simp
theorem D8{g:G}{i:Nat}{o o':O}(h:g[i]?=some o):(g++[o'])[i]?=some o:=by rw[List.getElem?_append_left (d0 h)];exact h
theorem get_set{g:G}{i:Nat}{o o':O}(h:g[i]?=some o):(g.set i o')[i]?=some o':=List.getElem?_set_self (d0 h)
theorem a6{g:G}{i j:Nat}{o o':O}(h:g[i]?=some o)(hn:j≠i):(g.set j o')[i]?=some o:=by rw[List.getElem?_set_ne hn];exact h
section
variable{T:Nat->Option MDef}{k d:Nat}{g:G}{Q:KD}{E:KX}
end
section
variable{T:Nat->Option MDef}{k d:Nat}{g:G}{Q:KD}{E:KX}
end
section
variable{T:Nat->Option MDef}{k d:Nat}{g:G}{Q:KD}{E:KX}
end
section
variable{T:Nat->Option MDef}{k d:Nat}{g:G}{Q:KD}{E:KX}
end
section
variable{T:Nat->Option MDef}{k d:Nat}{g:G}{Q:KD}{E:KX}
end
section
variable{T:Nat->Option MDef}{k d:Nat}{g:G}{Q:KD}{E:KX}
end
noncomputable def I9:MDef:=⟨1,1,(.seq (.ifs (.tst (.prim (.cmp .NotIn) (.cons (.var 0) (.cons (.lit (.tup [(.str "lower"),(.str "upper")])) .nil)))) (.seq (.raise "BadSide" (.cons (.lit (.str "a side is lower or upper")) .nil)) .pass) .pass) .pass)⟩
structure Ex(g g':G):Prop where
 len:g.length<=g'.length
 old:∀i,i<g.length->g'[i]?=g[i]?
theorem Ex.refl(g:G):Ex g g:=⟨Nat.le_refl _,fun _ _=>rfl⟩
theorem Ex.trans{g g1 g2:G}(a:Ex g g1)(b:Ex g1 g2):Ex g g2:=⟨Nat.le_trans a.len b.len,fun i h=>(b.old i (Nat.lt_of_lt_of_le h a.len)).trans (a.old i h)⟩
theorem Ex.snoc(g:G)(o:O):Ex g (g++[o]):=⟨by simp,fun i h=>List.getElem?_append_left h⟩
theorem Ex.at{g g':G}(h:Ex g g'){i:Nat}{o:O}(e:g[i]?=some o):g'[i]?=some o:=(h.old i (d0 e)).trans e
theorem Ex.gr{g g':G}(h:Ex g g')(d:Nat):Gr d g g':=⟨h.len,fun i _ h2=>h.old i h2⟩
theorem Ex.draw{g g':G}{d:Nat}(h:Ex g g')(D0:d6 g d):d6 g' d:=by
 obtain⟨s,p,b,r,xs,e1,e2,q⟩:=D0.ex;exact⟨s,p,b,r,xs,h.at e1,h.at e2,q⟩
inductive t8(g:G):Nat->D->D->Prop
 |non {n:Nat}:t8 g n .non .non
 |bl {n:Nat} (b:Bool):t8 g n (.bl b) (.bl b)
 |int {n:Nat} (i:Int):t8 g n (.int i) (.int i)
 |str {n:Nat} (x:Str):t8 g n (.str x) (.str x)
 |tup {n:Nat} {l m:List D} (hl:l.length=m.length) (h:∀(i:Nat) x y,l[i]?=some x->m[i]?=some y->t8 g n x y) (hz:m.length<=1000):t8 g (n+1) (.tup l) (.tup m)
 |lst {n a b:Nat} {l m:List D} (ha:g[a]?=some (.lst l)) (hb:g[b]?=some (.lst m)) (hl:l.length=m.length) (h:∀(i:Nat) x y,l[i]?=some x->m[i]?=some y->t8 g n x y) (hz:m.length<=1000):t8 g (n+1) (.ref a) (.ref b)
theorem t8.ex{g g':G}(e:Ex g g'){n:Nat}{x y:D}(h:t8 g n x y):t8 g' n x y:=by
 induction h with
 |non=>exact .non
 |bl b=>exact .bl b
 |int i=>exact .int i
 |str x=>exact .str x
 |tup hl h hz ih=>exact .tup hl ih hz
 |lst ha hb hl h hz ih=>exact .lst (e.at ha) (e.at hb) hl ih hz
section
variable{T:Nat->Option MDef}{k d:Nat}{g:G}{Q:KD}{E:KX}
theorem aO6(h6:T 6=some aj8){i:Int}(h:Q (.bl true) g):a9 T (k+1) 6 [.int i] g Q E:=by
 refine call_of h6 rfl ?_;dsimp[aj8,b5,List.replicate];walk_at "w5";refine isi (c:="int") (b:=true) (by decide) rfl ?_;walk_at "w5";refine isi (c:="bool") (b:=false) (by decide) rfl ?_;walk_at "w5";exact h
noncomputable def aC1:MS:=match p8.body with
 |.seq _ (.seq _ (.seq _ (.seq _ (.seq _ b))))=>b
 |x=>x
theorem an2(h6:T 6=some aj8)(h7:T 7=some p8):∀(n:Nat) {k:Nat} {g:G} {x y:D} {Q:KD} {E:KX},t8 g n x y->(∀g',Ex g g'->Q (.bl true) g')->a9 T (k+n+2) 7 [x,y] g Q E:=by
 have seqs:∀(n:Nat),(∀{k:Nat} {g:G} {x y:D} {Q:KD} {E:KX},t8 g n x y->(∀g',Ex g g'->Q (.bl true) g')->a9 T (k+n+2) 7 [x,y] g Q E) ->
   ∀{k:Nat} {g:G} {x y:D} {l m:List D} {Q:KD} {E:KX},(∀g',Ex g g'->u7 g' x=some l)->(∀g',Ex g g'->u7 g' y=some m)->l.length=m.length->m.length<=1000->(∀(i:Nat) x y,l[i]?=some x->m[i]?=some y->t8 g n x y)->(∀g',Ex g g'->Q (.bl true) g') ->
   wpS (a9 T (k+n+2)) aC1 ⟨fun _ g'=>Q .non g',Q,fun _ _=>False,fun _ _=>False⟩ [some x,some y] g E:=by
  intro n ih k g x y l m Q E hx hy hl hz hs hQ;have len:∀(z:D) (l:List D) (g':G) (Q':KD),u7 g' z=some l->Q' (.int l.length) g'->prP .len [z] g' Q':=fun z l g' Q' e q=>⟨_,_,⟨rfl,.inl ⟨z,l,rfl,e,rfl⟩⟩,q⟩
  dsimp[aC1,p8];refine a34 (a36 (a31 (aj0 (aD6 (w_var rfl (len _ _ _ _ (hx g (Ex.refl g)) ?_))))));refine aD6 (w_var rfl (len _ _ _ _ (hy g (Ex.refl g)) ?_));refine a69 ?_;rw[hl,decide_eq_true rfl];walk_at "w5";refine P2 (c9 T _) (br7 (c9 T _) ?_);refine aD6 (w_var rfl (len _ _ _ _ (hy g (Ex.refl g)) ?_));refine⟨_,rfl,by omega,by omega,n0 0 m.length,fun i ys σ g'=>∃z w,ys=List.replicate i (.bl true)/\σ=[some y,some x,z,w]/\Ex g g',by rw[P5];exact hz,fun i ys σ g' p=>⟨X9,?_⟩,⟨none,none,rfl,rfl,Ex.refl g⟩,fun i z ys σ g' hz p=>?_,fun ys σ g' p=>?_⟩
  ·obtain⟨z,w,rfl,_⟩:=p;simp
  ·obtain⟨z,w,rfl,rfl,e⟩:=p;obtain⟨hi,rfl⟩:=Z0 hz;have h1:l[i]?=some l[i]:=List.getElem?_eq_getElem (by omega);have h2:m[i]?=some m[i]:=List.getElem?_eq_getElem hi;have a1:atI l (0+(i:Int))=some l[i]:=by rw[Int.zero_add];exact Q7 h1
   have a2:atI m (0+(i:Int))=some m[i]:=by rw[Int.zero_add];exact Q7 h2
   show wpT _ _ _ _ _ _;refine a32 (ift (aK3 (V2 (aj0 (w_var rfl (w_var rfl ⟨_,_,⟨rfl,.inl ⟨_,l,_,rfl,hx g' e,a1⟩⟩,?_⟩))))));refine V2 (aj0 (w_var rfl (w_var rfl ⟨_,_,⟨rfl,.inl ⟨_,m,_,rfl,hy g' e,a2⟩⟩,?_⟩)));refine a35 (ih ((hs i _ _ h1 h2).ex e) fun g2 e2=>?_);exact⟨_,_,by rw[List.replicate_succ'],rfl,e.trans e2⟩
  ·obtain⟨z,w,rfl,rfl,e⟩:=p;refine bC9 (a7 c5) (v:=true) ?_ (hQ _ (e.trans (Ex.snoc _ _)));have:List.replicate (n0 0 m.length).length (D.bl true)=(List.replicate (n0 0 m.length).length true).map D.bl:=by simp
   rw[this,aS9];simp
 intro n
 induction n with
 |zero =>
  intro k g x y Q E h hQ;have h0:=hQ g (Ex.refl g);cases h with
  |non =>
   refine call_of h7 rfl ?_;dsimp[p8,b5,List.replicate];walk_at "w5";exact h0
  |bl b=>exact aC0 h7 (by simpa using h0)
  |int i =>
   refine call_of h7 rfl ?_;dsimp[p8,b5,List.replicate];walk_at "w5"
   try show wpS _ _ _ _ _ _
   walk_at "w5";refine isi (c:="bool") (b:=false) (by decide) rfl ?_;walk_at "w5";refine isi (c:="int") (b:=true) (by decide) rfl ?_;walk_at "w5";refine aO6 h6 ?_;walk_at "w5";simpa using h0
  |str x =>
   refine call_of h7 rfl ?_;dsimp[p8,b5,List.replicate];walk_at "w5"
   try show wpS _ _ _ _ _ _
   walk_at "w5";refine isi (c:="bool") (b:=false) (by decide) rfl ?_;walk_at "w5";refine isi (c:="int") (b:=false) (by decide) rfl ?_;walk_at "w5";refine isi (c:="str") (b:=true) (by decide) rfl ?_;walk_at "w5";refine isi (c:="str") (b:=true) (by decide) rfl ?_;walk_at "w5";simpa using h0
 |succ n ih =>
  intro k g x y Q E h hQ;have h0:=hQ g (Ex.refl g);cases h with
  |non =>
   refine call_of h7 rfl ?_;dsimp[p8,b5,List.replicate];walk_at "w5";exact h0
  |bl b=>exact aC0 h7 (by simpa using h0)
  |int i =>
   refine call_of h7 rfl ?_;dsimp[p8,b5,List.replicate];walk_at "w5"
   try show wpS _ _ _ _ _ _
   walk_at "w5";refine isi (c:="bool") (b:=false) (by decide) rfl ?_;walk_at "w5";refine isi (c:="int") (b:=true) (by decide) rfl ?_;walk_at "w5";refine aO6 h6 ?_;walk_at "w5";simpa using h0
  |str x =>
   refine call_of h7 rfl ?_;dsimp[p8,b5,List.replicate];walk_at "w5"
   try show wpS _ _ _ _ _ _
   walk_at "w5";refine isi (c:="bool") (b:=false) (by decide) rfl ?_;walk_at "w5";refine isi (c:="int") (b:=false) (by decide) rfl ?_;walk_at "w5";refine isi (c:="str") (b:=true) (by decide) rfl ?_;walk_at "w5";refine isi (c:="str") (b:=true) (by decide) rfl ?_;walk_at "w5";simpa using h0
  |@tup _ l m hl hs hz =>
   refine call_of h7 rfl ?_;have body:=seqs n ih (k:=k) (x:=.tup l) (y:=.tup m) (E:=E) (fun _ _=>rfl) (fun _ _=>rfl) hl hz hs hQ;dsimp[p8,b5,List.replicate];walk_at "w5"
   try show wpS _ _ _ _ _ _
   walk_at "w5";refine isi (c:="bool") (b:=false) (by decide) rfl ?_;walk_at "w5";refine isi (c:="int") (b:=false) (by decide) rfl ?_;walk_at "w5";refine isi (c:="str") (b:=false) (by decide) rfl ?_;walk_at "w5";refine isi (c:="tuple") (b:=true) (by decide) rfl ?_;walk_at "w5";refine isi (c:="tuple") (b:=true) (by decide) rfl ?_;walk_at "w5";refine ifF rfl ?_;walk_at "w5";refine isi (c:="list") (b:=false) (by decide) rfl ?_;walk_at "w5";refine isi (c:="list") (b:=false) (by decide) rfl ?_;walk_at "w5";refine ifF rfl (w5 ?_);exact body
  |@lst _ a b l m ha hb hl hs hz =>
   refine call_of h7 rfl ?_;have body:=seqs n ih (k:=k) (x:=.ref a) (y:=.ref b) (E:=E) (fun g' e=>a7 (e.at ha)) (fun g' e=>a7 (e.at hb)) hl hz hs hQ;have ta:∀c,ad8 g (.ref a) c=some (c=="list"):=fun c=>by simp only[ad8,ha]
   have tb:∀c,ad8 g (.ref b) c=some (c=="list"):=fun c=>by simp only[ad8,hb]
   dsimp[p8,b5,List.replicate];walk_at "w5"
   try show wpS _ _ _ _ _ _
   walk_at "w5";refine isi (c:="bool") (b:=false) (by decide) (tb _) ?_;walk_at "w5";refine isi (c:="int") (b:=false) (by decide) (tb _) ?_;walk_at "w5";refine isi (c:="str") (b:=false) (by decide) (tb _) ?_;walk_at "w5";refine isi (c:="tuple") (b:=false) (by decide) (tb _) ?_;walk_at "w5";refine isi (c:="tuple") (b:=false) (by decide) (ta _) ?_;walk_at "w5";refine ifF rfl ?_;walk_at "w5";refine isi (c:="list") (b:=true) (by decide) (tb _) ?_;walk_at "w5";refine isi (c:="list") (b:=true) (by decide) (ta _) ?_;walk_at "w5";refine ifF rfl (w5 ?_);exact body
end
section
variable{T:Nat->Option MDef}{k d:Nat}{g:G}{Q:KD}{E:KX}
theorem aZ9{g:G}{x:Str}{kb:Bool->Prop}(hx:PyData.strOk x=true)(h:kb (decide (x="lower")||decide (x="upper"))):inP g (.str x) (.tup [.str "lower",.str "upper"]) kb:=by
 refine⟨_,.inr ⟨_,[.str "lower",.str "upper"],.str x,rfl,rfl,rfl,by simp only[PyData.canLayAll0,PyData.canLay0,Bool.and_true];decide +kernel,by simp only[PyData.canLay0];exact hx,rfl⟩,?_⟩;have e:∀y:Str,PyData.eqv (.str y) (.str x)=decide (x=y):=fun y=>by
  simp only[PyData.eqv];rw[Bool.eq_iff_iff,beq_iff_eq,decide_eq_true_iff];exact eq_comm
 simp only[List.any_cons,List.any_nil,Bool.or_false,e];exact h
theorem ap0(h40:T 40=some I9){x:Str}(ho:PyData.strOk x=true)(h1:x="lower"\/x="upper"->Q .non g)(h3:x≠"lower"->x≠"upper"->E ⟨"BadSide"⟩ g):a9 T (k+1) 40 [.str x] g Q E:=by
 refine call_of h40 rfl ?_;dsimp[I9,b5,List.replicate];walk_at "w5";refine J6 (aZ9 ho ?_);walk_at "w5";by_cases e:x="lower"\/x="upper"
 ·refine ifF (by rw[Bool.not_eq_false',Bool.or_eq_true,decide_eq_true_iff,decide_eq_true_iff];exact e) ?_;walk_at "w5";exact h1 e
 ·refine ifT (by rw[Bool.not_eq_true',Bool.or_eq_false_iff,decide_eq_false_iff_not,decide_eq_false_iff_not];exact not_or.mp e) ?_;walk_at "w5";exact h3 (fun z=>e (.inl z)) (fun z=>e (.inr z))
end
noncomputable def ap6:MDef:=⟨1,1,(.seq (.ifs (.tst (.prim (.cmp .Eq) (.cons (.call 4 (.cons (.var 0) (.cons (.lit (.int 14)) .nil))) (.cons (.lit (.int 9)) .nil)))) (.seq (.ret (.prim .ix (.cons (.prim .lst (.cons (.lit (.str "")) (.cons (.lit (.str "Lower")) (.cons (.lit (.str "both")) (.cons (.lit (.str "upper ")) .nil))))) (.cons (.call 4 (.cons (.var 0) (.cons (.lit (.int 4)) .nil))) .nil)))) .pass) .pass) (.seq (.ret (.prim .ix (.cons (.prim .lst (.cons (.lit (.str "lower")) (.cons (.lit (.str "upper")) .nil))) (.cons (.call 4 (.cons (.var 0) (.cons (.lit (.int 2)) .nil))) .nil)))) .pass))⟩
section
variable{T:Nat->Option MDef}{k d:Nat}{g:G}{Q:KD}{E:KX}
theorem aA0(h4:T 4=some E3)(h29:T 29=some ap6)(D0:d6 g d)(h:∀x g',PyData.strOk x=true->d6 g' d->Gr d g g'->Q (.str x) g'):a9 T (k+2) 29 [.ref d] g Q E:=by
 refine call_of h29 rfl ?_;dsimp[ap6,b5,List.replicate];walk_at "w5";refine i4 h4 D0 (by decide) (by decide) fun r g1 _ _ D1 G1=>?_;walk_at "w5";refine if2 (fun c=>?_) (fun c=>?_)
 ·walk_at "w5";refine i4 h4 (D1.snoc _) (by decide) (by decide) fun r g2 r0 r1 D2 G2=>?_;have e2:=G2.at (i:=g1.length) (by have:=D1.lt;omega) (o:=.lst (([("":Str),("Lower":Str),("both":Str),("upper ":Str)]:List Str).map D.str)) (by simp);obtain⟨v,hv,hm⟩:=M9 (l:=([("":Str),("Lower":Str),("both":Str),("upper ":Str)]:List Str).map D.str) r0 (by simpa using r1);obtain⟨x,hx,rfl⟩:=List.mem_map.mp hm;refine D7 (a7 e2) hv ?_;walk_at "w5";refine h x g2 ?_ D2 (G1.trans ((Gr.snoc _ _ _).trans G2));simp only[List.mem_cons,List.mem_nil_iff,or_false] at hx;rcases hx with rfl|rfl|rfl|rfl<;>decide +kernel
 ·walk_at "w5";refine i4 h4 (D1.snoc _) (by decide) (by decide) fun r g2 r0 r1 D2 G2=>?_;have e2:=G2.at (i:=g1.length) (by have:=D1.lt;omega) (o:=.lst (([("lower":Str),("upper":Str)]:List Str).map D.str)) (by simp);obtain⟨v,hv,hm⟩:=M9 (l:=([("lower":Str),("upper":Str)]:List Str).map D.str) r0 (by simpa using r1);obtain⟨x,hx,rfl⟩:=List.mem_map.mp hm;refine D7 (a7 e2) hv ?_;walk_at "w5";refine h x g2 ?_ D2 (G1.trans ((Gr.snoc _ _ _).trans G2));simp only[List.mem_cons,List.mem_nil_iff,or_false] at hx;rcases hx with rfl|rfl<;>decide +kernel
end
theorem an5{g:G}{a:Nat}{x:Str}{kb:Bool->Prop}(ha:g[a]?=some (.lst [.str "lower",.str "upper"]))(hx:PyData.strOk x=true)(h:kb (decide (x="lower")||decide (x="upper"))):inP g (.str x) (.ref a) kb:=by
 refine⟨_,.inr ⟨_,[.str "lower",.str "upper"],.str x,a7 ha,rfl,rfl,by simp only[PyData.canLayAll0,PyData.canLay0,Bool.and_true];decide +kernel,by simp only[PyData.canLay0];exact hx,rfl⟩,?_⟩;have e:∀y:Str,PyData.eqv (.str y) (.str x)=decide (x=y):=fun y=>by
  simp only[PyData.eqv];rw[Bool.eq_iff_iff,beq_iff_eq,decide_eq_true_iff];exact eq_comm
 simp only[List.any_cons,List.any_nil,Bool.or_false,e];exact h
noncomputable def L9:MDef:=⟨1,1,(.seq (.ifs (.not_ (.tst (.call 1 (.cons (.var 0) (.cons (.lit (.int 1)) (.cons (.lit (.int 9)) .nil)))))) (.seq (.raise "BadAnvils" (.cons (.lit (.str "there are from one to nine anvils")) .nil)) .pass) .pass) .pass)⟩
noncomputable def X5:MDef:=⟨2,2,(.seq (.ifs (.not_ (.tst (.call 1 (.cons (.var 1) (.cons (.lit (.int 1)) (.cons (.prim .len (.cons (.var 0) .nil)) .nil)))))) (.seq (.raise "NoDie" (.cons (.lit (.str "no such die was cut")) .nil)) .pass) .pass) .pass)⟩
noncomputable def ap8:MDef:=⟨2,2,(.seq (.ifs (.tst (.prim (.cmp .Eq) (.cons (.call 4 (.cons (.var 0) (.cons (.lit (.int 12)) .nil))) (.cons (.lit (.int 7)) .nil)))) (.seq (.ret (.call 5 (.cons (.var 0) .nil))) .pass) .pass) (.seq (.ret (.prim (.bin .Sub) (.cons (.call 4 (.cons (.var 0) (.cons (.prim (.bin .Add) (.cons (.var 1) (.cons (.lit (.int 4)) .nil))) .nil))) (.cons (.lit (.int 2)) .nil)))) .pass))⟩
noncomputable def ag0:MDef:=⟨1,1,(.seq (.ret (.dct (.cons (.lit (.str "seats")) (.cons (.prim (.bin .Mult) (.cons (.prim .lst (.cons (.lit .non) .nil)) (.cons (.var 0) .nil))) (.cons (.lit (.str "lower")) (.cons (.prim .lst .nil) (.cons (.lit (.str "upper")) (.cons (.prim .lst .nil) (.cons (.lit (.str "gone")) (.cons (.prim .lst .nil) (.cons (.lit (.str "year")) (.cons (.lit (.int 0)) (.cons (.lit (.str "coins")) (.cons (.prim .lst .nil) .nil)))))))))))))) .pass)⟩
noncomputable def aq1:MDef:=⟨2,2,(.seq (.ifs (.tst (.prim (.cmp .NotIn) (.cons (.var 1) (.cons (.prim .lst (.cons (.lit (.str "lower")) (.cons (.lit (.str "upper")) .nil))) .nil)))) (.seq (.ret (.prim .tup (.cons (.lit (.str "BadSide")) (.cons (.lit .non) .nil)))) .pass) .pass) (.seq (.ifs (.tst (.prim (.cmp .Gt) (.cons (.prim .len (.cons (.prim .ix (.cons (.var 0) (.cons (.var 1) .nil))) .nil)) (.cons (.lit (.int 98)) .nil)))) (.seq (.ret (.prim .tup (.cons (.lit (.str "Full")) (.cons (.lit .non) .nil)))) .pass) .pass) (.seq (.expr (.meth .append (.prim .ix (.cons (.var 0) (.cons (.var 1) .nil))) (.cons (.prim .tup .nil) .nil))) (.seq (.ret (.prim .tup (.cons (.lit (.str "")) (.cons (.prim .len (.cons (.prim .ix (.cons (.var 0) (.cons (.var 1) .nil))) .nil)) .nil)))) .pass))))⟩
noncomputable def X0:MDef:=⟨2,2,(.seq (.expr (.call 42 (.cons (.var 1) .nil))) (.seq (.setf "bench" ["Mint"] (.var 0) (.prim (.bin .Mult) (.cons (.prim .tup (.cons (.lit .non) .nil)) (.cons (.var 1) .nil)))) (.seq (.setf "laid_off" ["Mint"] (.var 0) (.prim .tup .nil)) (.seq (.setf "lower_wear" ["Mint"] (.var 0) (.prim .tup .nil)) (.seq (.setf "upper_wear" ["Mint"] (.var 0) (.prim .tup .nil)) (.seq (.setf "present" ["Mint"] (.var 0) (.lit (.int 0))) (.seq (.setf "output" ["Mint"] (.var 0) (.prim .tup .nil)) .pass)))))))⟩
noncomputable def O2:MDef:=⟨2,2,(.seq (.expr (.call 40 (.cons (.var 1) .nil))) (.seq (.ifs (.tst (.prim (.cmp .Eq) (.cons (.var 1) (.cons (.lit (.str "lower")) .nil)))) (.seq (.ret (.prim (.fld "lower_wear") (.cons (.var 0) .nil))) .pass) .pass) (.seq (.ret (.prim (.fld "upper_wear") (.cons (.var 0) .nil))) .pass)))⟩
noncomputable def L7:MDef:=⟨3,3,(.seq (.ifs (.tst (.prim (.cmp .Eq) (.cons (.var 1) (.cons (.lit (.str "lower")) .nil)))) (.seq (.setf "lower_wear" ["Mint"] (.var 0) (.var 2)) .pass) (.seq (.setf "upper_wear" ["Mint"] (.var 0) (.var 2)) .pass)) .pass)⟩
noncomputable def ad4:MDef:=⟨2,3,(.seq (.set 2 (.methc "wear_of" [("Mint",52)] (.var 0) (.cons (.var 1) .nil))) (.seq (.ifs (.tst (.prim (.cmp .Eq) (.cons (.prim .len (.cons (.var 2) .nil)) (.cons (.lit (.int 99)) .nil)))) (.seq (.raise "Full" (.cons (.lit (.str "no more dies of that side are cut")) .nil)) .pass) .pass) (.seq (.expr (.methc "put_wear" [("Mint",53)] (.var 0) (.cons (.var 1) (.cons (.prim (.bin .Add) (.cons (.var 2) (.cons (.prim .tup (.cons (.prim .tup .nil) .nil)) .nil))) .nil)))) (.seq (.ret (.prim (.bin .Add) (.cons (.prim .len (.cons (.var 2) .nil)) (.cons (.lit (.int 1)) .nil)))) .pass))))⟩
noncomputable def O5:MDef:=⟨1,1,(.seq (.ret (.prim .list (.cons (.prim (.fld "bench") (.cons (.var 0) .nil)) .nil))) .pass)⟩
noncomputable def am9:MDef:=⟨2,2,(.seq (.ret (.prim .len (.cons (.methc "wear_of" [("Mint",52)] (.var 0) (.cons (.var 1) .nil)) .nil))) .pass)⟩
noncomputable def S8:MDef:=⟨3,4,(.seq (.set 3 (.methc "wear_of" [("Mint",52)] (.var 0) (.cons (.var 1) .nil))) (.seq (.expr (.call 43 (.cons (.var 3) (.cons (.var 2) .nil)))) (.seq (.ret (.prim .ix (.cons (.var 3) (.cons (.prim (.bin .Sub) (.cons (.var 2) (.cons (.lit (.int 1)) .nil))) .nil)))) .pass)))⟩
noncomputable def S7:MDef:=⟨2,2,(.seq (.expr (.call 43 (.cons (.prim (.fld "lower_wear") (.cons (.var 0) .nil)) (.cons (.var 1) .nil)))) (.seq (.ifs (.tst (.prim (.cmp .In) (.cons (.var 1) (.cons (.prim (.fld "bench") (.cons (.var 0) .nil)) .nil)))) (.seq (.ret (.lit (.str "fixed"))) .pass) .pass) (.seq (.ifs (.tst (.prim (.cmp .In) (.cons (.var 1) (.cons (.prim (.fld "laid_off") (.cons (.var 0) .nil)) .nil)))) (.seq (.ret (.lit (.str "gone"))) .pass) .pass) (.seq (.ret (.lit (.str "new"))) .pass))))⟩
noncomputable def am8:MDef:=⟨1,1,(.seq (.ret (.prim (.fld "present") (.cons (.var 0) .nil))) .pass)⟩
noncomputable def ab8:MDef:=⟨1,1,(.seq (.ret (.prim .len (.cons (.prim (.fld "output") (.cons (.var 0) .nil)) .nil))) .pass)⟩
noncomputable def an0:MDef:=⟨2,2,(.seq (.ifs (.not_ (.tst (.call 1 (.cons (.var 1) (.cons (.lit (.int 0)) (.cons (.prim (.bin .Sub) (.cons (.prim .len (.cons (.prim (.fld "output") (.cons (.var 0) .nil)) .nil)) (.cons (.lit (.int 1)) .nil))) .nil)))))) (.seq (.raise "NoCoin" (.cons (.lit (.str "no coin has that number")) .nil)) .pass) .pass) (.seq (.ret (.prim .ix (.cons (.prim (.fld "output") (.cons (.var 0) .nil)) (.cons (.var 1) .nil)))) .pass))⟩
noncomputable abbrev unw(a:Nat):D:=.tup (List.replicate a (.tup []))
noncomputable def aG5(be la:D)(a b:Nat):O:=.ins "Mint" [("bench",be),("laid_off",la),("lower_wear",unw a),("upper_wear",unw b),("present",.int 0),("output",.tup [])]
noncomputable abbrev aG6(n a b:Nat):O:=aG5 (.tup (List.replicate n .non)) (.tup []) a b
theorem w9{f:Str}{v:D}{fs:List (Str×D)}{n:Nat}(h:fs.length<n):(n8 f v fs).length<n+1:=by
 induction fs generalizing n with
 |nil=>simp[n8];omega
 |cons p r ih =>
  obtain⟨y,z⟩:=p;simp only[n8];split
  ·simp at h ⊢;omega
  ·have:=ih (n:=n-1) (by simp at h;omega);simp at h ⊢;omega
structure TM(T:Nat->Option MDef):Prop where
 nf:NF T
 h40:T 40=some I9
 h42:T 42=some L9
 h43:T 43=some X5
 h51:T 51=some X0
 h52:T 52=some O2
 h53:T 53=some L7
 h54:T 54=some ad4
 h60:T 60=some O5
 h61:T 61=some am9
 h62:T 62=some S8
 h63:T 63=some S7
 h64:T 64=some am8
 h65:T 65=some ab8
 h66:T 66=some an0
section
variable{T:Nat->Option MDef}{k d:Nat}{g:G}{Q:KD}{E:KX}{m n a b:Nat}{x:Str}{be la:D}
theorem ah8(hT:TM T){v:Int}(h1:1<=v/\v<=9->Q .non g)(h2:¬(1<=v/\v<=9)->E ⟨"BadAnvils"⟩ g):a9 T (k+3) 42 [.int v] g Q E:=by
 refine call_of hT.h42 rfl ?_;dsimp[L9,b5,List.replicate];walk_at "w5";refine x9 hT.nf ?_;walk_at "w5";by_cases hv:1<=v/\v<=9
 ·rw[decide_eq_true hv.1,decide_eq_true hv.2];walk_at "w5";exact h1 hv
 ·have:(decide (1<=v)&&decide (v<=9))=false:=by
   rw[Bool.and_eq_false_iff,decide_eq_false_iff_not,decide_eq_false_iff_not];exact Classical.not_and_iff_not_or_not.mp hv
  rw[this];walk_at "w5";exact h2 hv
theorem aC5(hT:TM T){v:Int}(hm:g[m]?=some (.ins "Mint" []))(h1:∀n:Nat,v=n->1<=n->n<=9->Q .non (g.set m (aG6 n 0 0)))(h2:¬(1<=v/\v<=9)->E ⟨"BadAnvils"⟩ g):a9 T (k+4) 51 [.ref m,.int v] g Q E:=by
 refine call_of hT.h51 rfl ?_;dsimp[X0,b5,List.replicate];walk_at "w5";refine ah8 hT (fun hv=>?_) h2;walk_at "w5";refine bt0 (by simp) hv.1 (by omega) (by simp;omega) ?_;walk_at "w5";refine l7 hm (by simp) (by simp) ?_;walk_at "w5";refine l7 (get_set hm) (by simp) (by repeat (first|(simp;done)|refine w9 ?_)) ?_;rw[List.set_set];walk_at "w5";refine l7 (get_set hm) (by simp) (by repeat (first|(simp;done)|refine w9 ?_)) ?_;rw[List.set_set];walk_at "w5";refine l7 (get_set hm) (by simp) (by repeat (first|(simp;done)|refine w9 ?_)) ?_;rw[List.set_set];walk_at "w5";refine l7 (get_set hm) (by simp) (by repeat (first|(simp;done)|refine w9 ?_)) ?_;rw[List.set_set];walk_at "w5";refine l7 (get_set hm) (by simp) (by repeat (first|(simp;done)|refine w9 ?_)) ?_;rw[List.set_set];walk_at "w5";obtain⟨n,rfl⟩:∃n:Nat,v=n:=⟨v.toNat,by omega⟩
 have:=h1 n rfl (by omega) (by omega);have e:(List.replicate (Int.toNat (n:Int)) [D.non]).flatten=List.replicate n .non:=by
  rw[Int.toNat_natCast,List.flatten_replicate_singleton]
 rw[e];exact this
theorem Y3(hT:TM T){l:List D}{v:Int}(h1:1<=v/\v<=l.length->Q .non g)(h2:¬(1<=v/\v<=l.length)->E ⟨"NoDie"⟩ g):a9 T (k+3) 43 [.tup l,.int v] g Q E:=by
 refine call_of hT.h43 rfl ?_;dsimp[X5,b5,List.replicate];walk_at "w5";refine x9 hT.nf ?_;walk_at "w5";by_cases hv:1<=v/\v<=l.length
 ·rw[decide_eq_true hv.1,decide_eq_true hv.2];walk_at "w5";exact h1 hv
 ·have:(decide (1<=v)&&decide (v<=(l.length:Int)))=false:=by
   rw[Bool.and_eq_false_iff,decide_eq_false_iff_not,decide_eq_false_iff_not];exact Classical.not_and_iff_not_or_not.mp hv
  rw[this];walk_at "w5";exact h2 hv
end
noncomputable def G8:MDef:=⟨3,3,(.seq (.ret (.prim (.bin .Add) (.cons (.prim (.bin .Add) (.cons (.prim (.slc false true) (.cons (.var 0) (.cons (.var 1) .nil))) (.cons (.prim .tup (.cons (.var 2) .nil)) .nil))) (.cons (.prim (.slc true false) (.cons (.var 0) (.cons (.prim (.bin .Add) (.cons (.var 1) (.cons (.lit (.int 1)) .nil))) .nil))) .nil)))) .pass)⟩
noncomputable def ad3:MDef:=⟨2,4,(.seq (.set 2 (.methc "state" [("Mint",63)] (.var 0) (.cons (.var 1) .nil))) (.seq (.ifs (.tst (.prim (.cmp .Eq) (.cons (.var 2) (.cons (.lit (.str "fixed")) .nil)))) (.seq (.raise "Fixed" (.cons (.lit (.str "the die is on an anvil")) .nil)) .pass) .pass) (.seq (.ifs (.tst (.prim (.cmp .Eq) (.cons (.var 2) (.cons (.lit (.str "gone")) .nil)))) (.seq (.raise "Gone" (.cons (.lit (.str "the die was laid off")) .nil)) .pass) .pass) (.seq (.ifs (.tst (.prim (.cmp .NotIn) (.cons (.lit .non) (.cons (.prim (.fld "bench") (.cons (.var 0) .nil)) .nil)))) (.seq (.raise "NoAnvil" (.cons (.lit (.str "no anvil is free")) .nil)) .pass) .pass) (.seq (.set 3 (.meth .index (.prim (.fld "bench") (.cons (.var 0) .nil)) (.cons (.lit .non) .nil))) (.seq (.setf "bench" ["Mint"] (.var 0) (.call 177 (.cons (.prim (.fld "bench") (.cons (.var 0) .nil)) (.cons (.var 3) (.cons (.var 1) .nil))))) (.seq (.ret (.var 3)) .pass)))))))⟩
noncomputable def O4:MDef:=⟨2,3,(.seq (.ifs (.tst (.prim (.cmp .NotEq) (.cons (.methc "state" [("Mint",63)] (.var 0) (.cons (.var 1) .nil)) (.cons (.lit (.str "fixed")) .nil)))) (.seq (.raise "NotFixed" (.cons (.lit (.str "the die is on no anvil")) .nil)) .pass) .pass) (.seq (.set 2 (.meth .index (.prim (.fld "bench") (.cons (.var 0) .nil)) (.cons (.var 1) .nil))) (.seq (.setf "bench" ["Mint"] (.var 0) (.call 177 (.cons (.prim (.fld "bench") (.cons (.var 0) .nil)) (.cons (.var 2) (.cons (.lit .non) .nil))))) (.seq (.augf "laid_off" ["Mint"] (.var 0) (.prim .tup (.cons (.var 1) .nil))) (.seq (.ret (.var 2)) .pass)))))⟩
noncomputable def i5(x:D):Prop:=x=.non\/∃i,x=.int i
noncomputable def eqS(y z:D):Bool:=eqV (toV z) (toV y)
noncomputable def pyS:D->PyData
 |.int i=>.int i
 |_=>.none
theorem aA4{g:G}{x:D}(h:i5 x){n:Nat}:rd g n x=some (pyS x):=by
 rcases h with rfl|⟨i,rfl⟩<;>cases n<;>rfl
theorem as6{x:D}(h:i5 x):(pyS x).canLay0=true:=by
 rcases h with rfl|⟨i,rfl⟩<;>simp[pyS,PyData.canLay0]
theorem aU6{x y:D}(hx:i5 x)(hy:i5 y):PyData.eqv (pyS x) (pyS y)=eqS y x:=by
 rcases hx with rfl|⟨i,rfl⟩<;>rcases hy with rfl|⟨j,rfl⟩<;>simp[pyS,PyData.eqv,eqS,eqV,toV]
theorem aU5{g:G}{l:List D}(h:∀x∈l,i5 x):rds g l=some (l.map pyS):=by
 unfold rds
 induction l with
 |nil=>rfl
 |cons x r ih =>
  rw[List.mapM_cons,aA4 (h x (by simp)),ih fun z hz=>h z (by simp[hz])]
  rfl
theorem aL8{l:List D}(h:∀x∈l,i5 x):PyData.canLayAll0 (l.map pyS)=true:=by
 induction l with
 |nil=>rfl
 |cons x r ih =>
  rw[List.map_cons];simp only[PyData.canLayAll0,as6 (h x (by simp)),ih fun z hz=>h z (by simp[hz])]
  rfl
theorem m7{g:G}{x y:D}{l:List D}{kb:Bool->Prop}(hi:u7 g x=some l)(hl:∀z∈l,i5 z)(hy:i5 y)(h:kb (l.any (eqS y))):inP g y x kb:=by
 refine⟨_,.inr ⟨l,l.map pyS,pyS y,hi,aU5 hl,aA4 hy,aL8 hl,as6 hy,rfl⟩,?_⟩;have e:((l.map pyS).any fun q=>PyData.eqv q (pyS y))=l.any (eqS y):=by
  rw[List.any_map];clear h hi
  induction l with
  |nil=>rfl
  |cons z r ih =>
   rw[List.any_cons,List.any_cons,ih fun w hw=>hl w (by simp[hw])];show(PyData.eqv (pyS z) (pyS y)||_)=_;rw[aU6 (hl z (by simp)) hy]
 rw[e];exact h
theorem K2{y z:D}(hy:i5 y)(hz:i5 z):eqS y z=true↔z=y:=by
 rcases hy with rfl|⟨i,rfl⟩<;>rcases hz with rfl|⟨j,rfl⟩<;>simp[eqS,eqV,toV]
theorem am4{x:D}(h:i5 x):aa3 x=true:=by rcases h with rfl|⟨i,rfl⟩<;>rfl
theorem a04{l:List D}{y:D}(hl:∀z∈l,i5 z)(hy:i5 y)(h:l.any (eqS y)=true):∃n,F9 l y n/\n<l.length/\l[n]?=some y:=by
 have hall:l.all aa3=true:=List.all_eq_true.mpr fun x hx=>am4 (hl x hx)
 suffices ∃n,n<l.length/\l[n]?=some y/\∀(m:Nat) z,m<n->l[m]?=some z->eqV (toV z) (toV y)=false by
  obtain⟨n,h1,h2,h3⟩:=this;exact⟨n,⟨hall,am4 hy,⟨y,h2,(K2 hy hy).mpr rfl⟩,h3⟩,h1,h2⟩
 clear hall
 induction l with
 |nil=>simp at h
 |cons x r ih =>
  cases e:eqS y x with
  |true =>
   have:=(K2 hy (hl x (by simp))).mp e;subst this;exact⟨0,by simp,rfl,fun m z hm=>absurd hm (by omega)⟩
  |false =>
   rw[List.any_cons,e,Bool.false_or] at h;obtain⟨n,h1,h2,h3⟩:=ih (fun z hz=>hl z (by simp[hz])) h;refine⟨n+1,by simpa using h1,by simpa using h2,fun m z hm hz=>?_⟩;cases m with
   |zero=>cases hz;exact e
   |succ m=>exact h3 m z (by omega) (by simpa using hz)
theorem a66{α:Type}{l:List α}{n:Nat}:cut l (some (n:Int)) none=l.drop n:=by
 have:¬((n:Int)<0):=by omega
 unfold cut HT.sIx;simp[this];by_cases h:n<=l.length
 ·rw[Nat.min_eq_left h,List.take_of_length_le (by simp)]
 ·rw[Nat.min_eq_right (by omega),List.drop_eq_nil_of_le (Nat.le_refl _),List.drop_eq_nil_of_le (by omega)];simp
theorem bB3{α:Type}{l:List α}{n:Nat}:cut l none (some (n:Int))=l.take n:=by
 have:¬((n:Int)<0):=by omega
 unfold cut HT.sIx;simp[this]
section
variable{T:Nat->Option MDef}{k d:Nat}{g:G}{Q:KD}{E:KX}{m a:Nat}{bl:List D}{go:List Int}
theorem G0(h177:T 177=some G8){l:List D}{n:Nat}{x:D}(hn:n<l.length)(hz:l.length<=1000)(h:Q (.tup (l.set n x)) g):a9 T (k+1) 177 [.tup l,.int n,x] g Q E:=by
 refine call_of h177 rfl ?_;dsimp[G8,b5,List.replicate];walk_at "w5";rw[bB3];refine aJ1 (by simp;omega) ?_;walk_at "w5";rw[show((n:Int)+1)=((n+1:Nat):Int) by omega,a66];refine aJ1 (by simp;omega) ?_;have e:l.take n++[x]++l.drop (n+1)=l.set n x:=by
  rw[List.set_eq_take_append_cons_drop,if_pos hn];simp
 rw[e];exact h
theorem A8{go:List Int}:∀z∈go.map D.int,i5 z:=fun z hz=>by
 obtain⟨i,_,rfl⟩:=List.mem_map.mp hz;exact .inr ⟨i,rfl⟩
end
noncomputable def aq0:MDef:=⟨2,3,(.seq (.ifs (.not_ (.tst (.chain .LtE .LtE (.lit (.int 1)) (.var 1) (.prim .len (.cons (.prim .ix (.cons (.var 0) (.cons (.lit (.str "lower")) .nil))) .nil))))) (.seq (.ret (.prim .tup (.cons (.lit (.str "NoDie")) (.cons (.lit .non) .nil)))) .pass) .pass) (.seq (.ifs (.tst (.prim (.cmp .In) (.cons (.var 1) (.cons (.prim .ix (.cons (.var 0) (.cons (.lit (.str "seats")) .nil))) .nil)))) (.seq (.ret (.prim .tup (.cons (.lit (.str "Fixed")) (.cons (.lit .non) .nil)))) .pass) .pass) (.seq (.ifs (.tst (.prim (.cmp .In) (.cons (.var 1) (.cons (.prim .ix (.cons (.var 0) (.cons (.lit (.str "gone")) .nil))) .nil)))) (.seq (.ret (.prim .tup (.cons (.lit (.str "Gone")) (.cons (.lit .non) .nil)))) .pass) .pass) (.seq (.ifs (.tst (.prim (.cmp .NotIn) (.cons (.lit .non) (.cons (.prim .ix (.cons (.var 0) (.cons (.lit (.str "seats")) .nil))) .nil)))) (.seq (.ret (.prim .tup (.cons (.lit (.str "NoAnvil")) (.cons (.lit .non) .nil)))) .pass) .pass) (.seq (.set 2 (.meth .index (.prim .ix (.cons (.var 0) (.cons (.lit (.str "seats")) .nil))) (.cons (.lit .non) .nil))) (.seq (.setix (.prim .ix (.cons (.var 0) (.cons (.lit (.str "seats")) .nil))) (.var 2) (.var 1)) (.seq (.ret (.prim .tup (.cons (.lit (.str "")) (.cons (.var 2) .nil)))) .pass)))))))⟩
noncomputable def ap9:MDef:=⟨2,3,(.seq (.ifs (.not_ (.tst (.chain .LtE .LtE (.lit (.int 1)) (.var 1) (.prim .len (.cons (.prim .ix (.cons (.var 0) (.cons (.lit (.str "lower")) .nil))) .nil))))) (.seq (.ret (.prim .tup (.cons (.lit (.str "NoDie")) (.cons (.lit .non) .nil)))) .pass) .pass) (.seq (.ifs (.tst (.prim (.cmp .NotIn) (.cons (.var 1) (.cons (.prim .ix (.cons (.var 0) (.cons (.lit (.str "seats")) .nil))) .nil)))) (.seq (.ret (.prim .tup (.cons (.lit (.str "NotFixed")) (.cons (.lit .non) .nil)))) .pass) .pass) (.seq (.set 2 (.meth .index (.prim .ix (.cons (.var 0) (.cons (.lit (.str "seats")) .nil))) (.cons (.var 1) .nil))) (.seq (.setix (.prim .ix (.cons (.var 0) (.cons (.lit (.str "seats")) .nil))) (.var 2) (.lit .non)) (.seq (.expr (.meth .append (.prim .ix (.cons (.var 0) (.cons (.lit (.str "gone")) .nil))) (.cons (.var 1) .nil))) (.seq (.ret (.prim .tup (.cons (.lit (.str "")) (.cons (.var 2) .nil)))) .pass))))))⟩
theorem av8{l:List D}{y:D}{n n':Nat}(h:F9 l y n)(h':F9 l y n'):n=n':=by
 obtain⟨_,_,⟨z,hz,ez⟩,hn⟩:=h;obtain⟨_,_,⟨z',hz',ez'⟩,hn'⟩:=h';rcases Nat.lt_trichotomy n n' with c|c|c
 ·rw[hn' n z c hz] at ez;cases ez
 ·exact c
 ·rw[hn n' z' c hz'] at ez';cases ez'
theorem K7{l:List D}{n:Nat}{x:D}(h:∀z∈l,i5 z)(hx:i5 x):∀z∈l.set n x,i5 z:=fun z hz=>by
 rcases List.mem_or_eq_of_mem_set hz with hz|rfl
 ·exact h z hz
 ·exact hx
noncomputable def ab3(l:List D):Prop:=∀(i j:Nat) (v:Int),l[i]?=some (.int v)->l[j]?=some (.int v)->i=j
theorem E1{l:List D}{v:Int}(h:∀z∈l,i5 z):l.any (eqS (.int v))=true↔∃i:Nat,l[i]?=some (.int v):=by
 rw[List.any_eq_true];constructor
 ·rintro⟨z,hz,e⟩;rw[(K2 (.inr ⟨v,rfl⟩) (h z hz))] at e;subst e;exact List.getElem?_of_mem hz
 ·rintro⟨i,hi⟩;exact⟨_,List.mem_of_getElem? hi,(K2 (.inr ⟨v,rfl⟩) (.inr ⟨v,rfl⟩)).mpr rfl⟩
theorem a05{l:List D}{n:Nat}{v:Int}(h:∀z∈l,i5 z)(hd:ab3 l)(hn:l.any (eqS (.int v))=false):ab3 (l.set n (.int v)):=by
 have no:∀i:Nat,l[i]?≠some (.int v):=fun i hi=>by
  rw[(E1 h).mpr ⟨i,hi⟩] at hn;cases hn
 intro i j w hi hj;by_cases ei:n=i<;>by_cases ej:n=j
 ·omega
 ·subst ei;rw[List.getElem?_set_ne ej] at hj;rw[List.getElem?_set] at hi;split at hi
  ·split at hi
   ·cases hi;exact absurd hj (no j)
   ·cases hi
  ·contradiction
 ·subst ej;rw[List.getElem?_set_ne ei] at hi;rw[List.getElem?_set] at hj;split at hj
  ·split at hj
   ·cases hj;exact absurd hi (no i)
   ·cases hj
  ·contradiction
 ·rw[List.getElem?_set_ne ei] at hi;rw[List.getElem?_set_ne ej] at hj;exact hd i j w hi hj
theorem B8{l:List D}{n i:Nat}{x y:D}(h:(l.set n x)[i]?=some y):(i=n/\y=x)\/l[i]?=some y:=by
 by_cases e:n=i
 ·subst e;rw[List.getElem?_set] at h;split at h
  ·split at h
   ·cases h;exact .inl ⟨rfl,rfl⟩
   ·cases h
  ·contradiction
 ·rw[List.getElem?_set_ne e] at h;exact .inr h
theorem a06{l:List D}{n:Nat}(hd:ab3 l):ab3 (l.set n .non):=fun i j v hi hj=>by
 rcases B8 hi with⟨_,z⟩|hi
 ·cases z
 ·rcases B8 hj with⟨_,z⟩|hj
  ·cases z
  ·exact hd i j v hi hj
theorem az6{l:List D}{n:Nat}{w:Int}(h:∀z∈l,i5 z)(e:(l.set n .non).any (eqS (.int w))=true):l.any (eqS (.int w))=true:=by
 obtain⟨i,hi⟩:=(E1 (K7 h (.inl rfl))).mp e;rcases B8 hi with⟨_,z⟩|hi
 ·cases z
 ·exact(E1 h).mpr ⟨i,hi⟩
theorem az7{l:List D}{n:Nat}{v w:Int}(h:∀z∈l,i5 z)(e:(l.set n (.int v)).any (eqS (.int w))=true):w=v\/l.any (eqS (.int w))=true:=by
 obtain⟨i,hi⟩:=(E1 (K7 h (.inr ⟨v,rfl⟩))).mp e;rcases B8 hi with⟨_,z⟩|hi
 ·cases z;exact .inl rfl
 ·exact .inr ((E1 h).mpr ⟨i,hi⟩)
theorem aX7{l:List D}{n:Nat}{v:Int}(h:∀z∈l,i5 z)(hd:ab3 l)(hn:l[n]?=some (.int v)):(l.set n .non).any (eqS (.int v))=false:=by
 cases e:(l.set n .non).any (eqS (.int v)) with
 |false=>rfl
 |true =>
  obtain⟨i,hi⟩:=(E1 (K7 h (.inl rfl))).mp e;rcases B8 hi with⟨_,z⟩|hi'
  ·cases z
  ·have:i=n:=hd i n v hi' hn;subst this;rw[List.getElem?_set_self (List.getElem?_eq_some_iff.mp hn).1] at hi;cases hi
theorem ak0{n k:Nat}(h:k<n):ixN n (k:Int)=some k:=by
 unfold ixN;rw[if_pos (by omega),if_pos (by omega),Int.toNat_natCast]
section
variable{T:Nat->Option MDef}{k d:Nat}{g:G}{Q:KD}{E:KX}{m q a:Nat}{bl cl:List D}{go co:List Int}
end
structure MSt where
 bl:List D
 go:List Int
 lo:List (List Int)
 up:List (List Int)
 yr:Int
 co:List D
noncomputable abbrev mk(l:List Int):D:=.tup (l.map .int)
noncomputable abbrev mks(l:List (List Int)):List D:=l.map mk
noncomputable def b8(s:MSt):O:=.ins "Mint" [("bench",.tup s.bl),("laid_off",.tup (s.go.map .int)),("lower_wear",.tup (mks s.lo)),("upper_wear",.tup (mks s.up)),("present",.int s.yr),("output",.tup s.co)]
noncomputable def MSt.side(s:MSt)(x:Str):List (List Int):=if x="lower" then s.lo else s.up
noncomputable def MSt.put(s:MSt)(x:Str)(w:List (List Int)):MSt:=if x="lower" then{ s with lo:=w } else{ s with up:=w }
theorem A6{s:MSt}:s.side "lower"=s.lo:=by unfold MSt.side;rw[if_pos rfl]
theorem A5{s:MSt}:s.side "upper"=s.up:=by unfold MSt.side;rw[if_neg (by decide)]
noncomputable abbrev u9(x:Str):Prop:=x="lower"\/x="upper"
noncomputable def S0:List Int:=[0,1,2,3,4,5,6,7]
noncomputable def markL(l:List Int)(k:Int):List Int:=S0.filter fun i=>decide (i=k\/i∈l)
noncomputable abbrev Rs:=Str×D×MSt
noncomputable def m8(s:MSt)(x:Str):Rs:=if u9 x then(if(s.side x).length<99 then("",.int ((s.side x).length+1),s.put x (s.side x++[[]])) else("Full",.non,s)) else("BadSide",.non,s)
noncomputable abbrev p7(s:MSt)(v:Int):Bool:=s.bl.any (eqS (.int v))
noncomputable abbrev B7(s:MSt)(v:Int):Bool:=(s.go.map D.int).any (eqS (.int v))
noncomputable abbrev plN(l:List D)(y:D):Nat:=l.findIdx (eqS y)
noncomputable def j2(s:MSt)(v:Int):Rs:=if 1<=v/\v<=s.lo.length then(if p7 s v=true then("Fixed",.non,s) else if B7 s v=true then("Gone",.non,s) else if s.bl.any (eqS .non)=true then("",.int (plN s.bl .non),{ s with bl:=s.bl.set (plN s.bl .non) (.int v) }) else("NoAnvil",.non,s)) else("NoDie",.non,s)
noncomputable def m5(s:MSt)(v:Int):Rs:=if 1<=v/\v<=s.lo.length then(if p7 s v=true then("",.int (plN s.bl (.int v)),{ s with bl:=s.bl.set (plN s.bl (.int v)) .non,go:=s.go++[v] }) else("NotFixed",.non,s)) else("NoDie",.non,s)
noncomputable abbrev at1(l:List (List Int))(v:Int):List Int:=l.getD (v-1).toNat []
noncomputable def d7(s:MSt)(x:Str)(v k:Int):Rs:=if u9 x then(if 1<=v/\v<=(s.side x).length then(if x="lower"/\B7 s v=true then("Gone",.non,s) else if 0<=k/\k<=7 then(if k∈at1 (s.side x) v then("Marked",.non,s) else("",.non,s.put x ((s.side x).set (v-1).toNat (markL (at1 (s.side x) v) k)))) else("BadSpot",.non,s)) else("NoDie",.non,s)) else("BadSide",.non,s)
noncomputable def E7(s:MSt)(a b:Int):D:=.tup [.int a,mk (at1 s.lo a),.int b,mk (at1 s.up b),.int s.yr]
noncomputable def d5(s:MSt)(a b:Int):Rs:=if(1<=a/\a<=s.lo.length)/\(1<=b/\b<=s.up.length) then(if p7 s a=true then(if s.co.length<200 then("",.int s.co.length,{ s with co:=s.co++[E7 s a b] }) else("Full",.non,s)) else("NotFixed",.non,s)) else("NoDie",.non,s)
noncomputable def l6(s:MSt)(n:Int):Rs:=if s.yr+1<=n/\n<=9999 then("",.non,{ s with yr:=n }) else("BadYear",.non,s)
noncomputable def Mk(l:List Int):Prop:=(∀k∈l,ST.Spot k)/\l.length<=8
noncomputable def bD2(c:D):Prop:=∃a l b m y,c=.tup [.int a,mk l,.int b,mk m,.int y]/\l.length<=8/\m.length<=8
structure WS(s:MSt):Prop where
 se:∀z∈s.bl,i5 z
 di:ab3 s.bl
 dj:∀v,p7 s v=true->B7 s v=false
 bn:s.bl.length<=9
 gn:s.go.Nodup
 gb:∀v∈s.go,1<=v/\v<=s.lo.length
 ln:s.lo.length<=99
 un:s.up.length<=99
 lm:∀l∈s.lo,Mk l
 um:∀l∈s.up,Mk l
 y0:0<=s.yr
 cn:s.co.length<=200
 cs:∀c∈s.co,bD2 c
theorem aM4:S0.Pairwise (· < ·):=by unfold S0;decide
theorem au3{k:Int}:k∈S0↔ST.Spot k:=by
 unfold S0 ST.Spot;simp only[List.mem_cons,List.mem_nil_iff,or_false];omega
theorem aP6{l:List Int}{k i:Int}(hl:∀j∈l,ST.Spot j)(hk:ST.Spot k):i∈markL l k↔i=k\/i∈l:=by
 unfold markL;rw[List.mem_filter,decide_eq_true_iff,au3];constructor
 ·exact fun h=>h.2
 ·rintro(rfl|h)
  ·exact⟨hk,.inl rfl⟩
  ·exact⟨hl i h,.inr h⟩
theorem au4{l:List Int}{k:Int}:Mk (markL l k):=by
 unfold markL;refine⟨fun i hi=>au3.mp (List.mem_filter.mp hi).1,?_⟩;exact Nat.le_trans (List.length_filter_le _ _) (by decide)
theorem aU2{l:List Int}{k:Int}(hl:∀j∈l,ST.Spot j)(hk:ST.Spot k):B3 (l++[k])=markL l k:=by
 have h1:(markL l k).Pairwise (· < ·):=aM4.sublist List.filter_sublist;refine V9 ?_ (af1 _) (h1.imp fun h=>Int.le_of_lt h);refine(R8 _).trans ?_;refine(List.perm_ext_iff_of_nodup (ST.N4 _ _ List.nodup_nil) (h1.imp fun h=>Int.ne_of_lt h)).mpr fun i=>?_;rw[ST.y9,aP6 hl hk];simp[or_comm]
theorem aR1{s:MSt}(W:WS s):s.go.length<=99:=by
 have hp:s.go.Perm (((List.range 99).map fun n:Nat=>(n:Int)+1).filter (·∈s.go)):=by
  refine(List.perm_ext_iff_of_nodup W.gn ?_).mpr fun v=>?_
  ·exact List.Nodup.sublist List.filter_sublist (by decide)
  ·rw[List.mem_filter];constructor
   ·intro hv;refine⟨?_,by simpa using hv⟩;have:=W.gb v hv;have:=W.ln;rw[List.mem_map];exact⟨(v-1).toNat,List.mem_range.mpr (by omega),by omega⟩
   ·rintro⟨_,hv⟩;simpa using hv
 rw[hp.length_eq];exact Nat.le_trans (List.length_filter_le _ _) (by simp)
theorem F0{l:List D}{y:D}(hl:∀z∈l,i5 z)(hy:i5 y)(h:l.any (eqS y)=true):F9 l y (plN l y)/\plN l y<l.length/\l[plN l y]?=some y:=by
 obtain⟨n,W,hn,e⟩:=a04 hl hy h;have:plN l y=n:=by
  have hlt:plN l y<l.length:=List.findIdx_lt_length_of_exists (by simpa[List.any_eq_true] using h);have h1:eqS y l[plN l y]=true:=List.findIdx_getElem (w:=hlt);refine av8 ⟨W.1,W.2.1,⟨_,List.getElem?_eq_getElem hlt,h1⟩,fun m z hm hz=>?_⟩ W;have:=List.not_of_lt_findIdx hm;obtain⟨hm',rfl⟩:=List.getElem?_eq_some_iff.mp hz;simpa[eqS] using this
 rw[this];exact⟨W,hn,e⟩
theorem bt7{s:MSt}{x:Str}(W:WS s):WS (m8 s x).2.2:=by
 unfold m8;split
 ·rename_i hx;split
  ·rename_i hl;rcases hx with rfl|rfl
   ·rw[A6] at hl ⊢;unfold MSt.put;rw[if_pos rfl];refine⟨W.se,W.di,W.dj,W.bn,W.gn,fun v hv=>?_,?_,W.un,fun l h=>?_,W.um,W.y0,W.cn,W.cs⟩
    ·have:=W.gb v hv;rw[List.length_append];simp;omega
    ·rw[List.length_append];simp;omega
    ·rcases List.mem_append.mp h with h|h
     ·exact W.lm l h
     ·simp at h;subst h;exact⟨fun k hk=>by simp at hk,by simp⟩
   ·rw[A5] at hl ⊢;unfold MSt.put;rw[if_neg (by decide)];refine⟨W.se,W.di,W.dj,W.bn,W.gn,W.gb,W.ln,?_,W.lm,fun l h=>?_,W.y0,W.cn,W.cs⟩
    ·rw[List.length_append];simp;omega
    ·rcases List.mem_append.mp h with h|h
     ·exact W.um l h
     ·simp at h;subst h;exact⟨fun k hk=>by simp at hk,by simp⟩
  ·exact W
 ·exact W
theorem bt6{s:MSt}{v:Int}(W:WS s):WS (j2 s v).2.2:=by
 unfold j2
 repeat' split
 all_goals first|exact W|skip
 rename_i hv e1 e2 e3;have e1':p7 s v=false:=by simpa using e1
 have e2':B7 s v=false:=by simpa using e2
 refine⟨K7 W.se (.inr ⟨v,rfl⟩),a05 W.se W.di e1',fun w hw=>?_,by rw[List.length_set];exact W.bn,W.gn,W.gb,W.ln,W.un,W.lm,W.um,W.y0,W.cn,W.cs⟩;rcases az7 W.se hw with rfl|hw
 ·exact e2'
 ·exact W.dj w hw
theorem bt5{s:MSt}{v:Int}(W:WS s):WS (m5 s v).2.2:=by
 unfold m5
 repeat' split
 all_goals first|exact W|skip
 rename_i hv e1;obtain⟨F,hn,e⟩:=F0 W.se (.inr ⟨v,rfl⟩) e1;have hg:=W.dj v e1;have hgm:v∉s.go:=fun hv=>by
  have:B7 s v=true:=List.any_eq_true.mpr ⟨.int v,List.mem_map.mpr ⟨v,hv,rfl⟩,(K2 (.inr ⟨v,rfl⟩) (.inr ⟨v,rfl⟩)).mpr rfl⟩;rw[hg] at this;cases this
 refine⟨K7 W.se (.inl rfl),a06 W.di,fun w hw=>?_,by rw[List.length_set];exact W.bn,?_,?_,W.ln,W.un,W.lm,W.um,W.y0,W.cn,W.cs⟩
 ·have hb:=W.dj w (az6 W.se hw);show((s.go++[v]).map D.int).any (eqS (.int w))=false;rw[List.map_append,List.any_append];show(B7 s w||_)=false;rw[hb,Bool.false_or];cases e5:(List.map D.int [v]).any (eqS (.int w)) with
  |false=>rfl
  |true =>
   rw[List.map_cons,List.map_nil,List.any_cons,List.any_nil,Bool.or_false] at e5;have:=(K2 (.inr ⟨w,rfl⟩) (.inr ⟨v,rfl⟩)).mp e5;cases this;have h1:p7 { s with bl:=s.bl.set (plN s.bl (.int v)) .non,go:=s.go++[v] } v=false:=aX7 W.se W.di e;rw[h1] at hw;cases hw
 ·show(s.go++[v]).Nodup;rw[List.nodup_append];exact⟨W.gn,by simp,fun a ha b hb=>by simp at hb;subst hb;exact fun z=>hgm (z▸ha)⟩
 ·intro w hw;rcases List.mem_append.mp hw with hw|hw
  ·exact W.gb w hw
  ·simp at hw;subst hw;exact hv
theorem bg3{s:MSt}{x:Str}{v k:Int}(W:WS s):WS (d7 s x v k).2.2:=by
 unfold d7
 repeat' split
 all_goals first|exact W|skip
 rename_i hx hv e1 hk e2;rcases hx with rfl|rfl
 ·unfold MSt.put;rw[if_pos rfl,A6];refine⟨W.se,W.di,W.dj,W.bn,W.gn,by simpa using W.gb,by simpa using W.ln,W.un,fun l h=>?_,W.um,W.y0,W.cn,W.cs⟩;rcases List.mem_or_eq_of_mem_set h with h|rfl
  ·exact W.lm l h
  ·exact au4
 ·unfold MSt.put;rw[if_neg (by decide),A5];refine⟨W.se,W.di,W.dj,W.bn,W.gn,W.gb,W.ln,by simpa using W.un,W.lm,fun l h=>?_,W.y0,W.cn,W.cs⟩;rcases List.mem_or_eq_of_mem_set h with h|rfl
  ·exact W.um l h
  ·exact au4
theorem aa8{l:List (List Int)}{v:Int}(hv:1<=v/\v<=l.length):l[(v-1).toNat]?=some (at1 l v)/\at1 l v∈l:=by
 have h:(v-1).toNat<l.length:=by omega
 have e:l[(v-1).toNat]?=some (at1 l v):=by
  rw[List.getElem?_eq_getElem h,at1,List.getD_eq_getElem?_getD,List.getElem?_eq_getElem h]
  rfl
 exact⟨e,List.mem_of_getElem? e⟩
theorem aT0{s:MSt}{a b:Int}(W:WS s):WS (d5 s a b).2.2:=by
 unfold d5
 repeat' split
 all_goals first|exact W|skip
 rename_i hv e1 hl;refine⟨W.se,W.di,W.dj,W.bn,W.gn,W.gb,W.ln,W.un,W.lm,W.um,W.y0,by simp;omega,fun c hc=>?_⟩;rcases List.mem_append.mp hc with hc|hc
 ·exact W.cs c hc
 ·simp at hc;subst hc;exact⟨_,_,_,_,_,rfl,(W.lm _ (aa8 hv.1).2).2,(W.um _ (aa8 hv.2).2).2⟩
theorem bg2{s:MSt}{n:Int}(W:WS s):WS (l6 s n).2.2:=by
 unfold l6;split
 ·rename_i h;exact⟨W.se,W.di,W.dj,W.bn,W.gn,W.gb,W.ln,W.un,W.lm,W.um,by have:=W.y0;show 0<=n;omega,W.cn,W.cs⟩
 ·exact W
noncomputable def aH1:MDef:=⟨2,2,(.seq (.ret (.prim .tuple (.cons (.prim .sun (.cons (.var 0) (.cons (.var 1) .nil))) .nil))) .pass)⟩
noncomputable def F7:MDef:=⟨4,5,(.seq (.set 4 (.methc "marks" [("Mint",62)] (.var 0) (.cons (.var 1) (.cons (.var 2) .nil)))) (.seq (.ifs (.and_ (.tst (.prim (.cmp .Eq) (.cons (.var 1) (.cons (.lit (.str "lower")) .nil)))) (.tst (.prim (.cmp .In) (.cons (.var 2) (.cons (.prim (.fld "laid_off") (.cons (.var 0) .nil)) .nil))))) (.seq (.raise "Gone" (.cons (.lit (.str "the die was laid off")) .nil)) .pass) .pass) (.seq (.ifs (.not_ (.tst (.call 1 (.cons (.var 3) (.cons (.lit (.int 0)) (.cons (.lit (.int 7)) .nil)))))) (.seq (.raise "BadSpot" (.cons (.lit (.str "a die has no such spot")) .nil)) .pass) .pass) (.seq (.ifs (.tst (.prim (.cmp .In) (.cons (.var 3) (.cons (.var 4) .nil)))) (.seq (.raise "Marked" (.cons (.lit (.str "the die has that mark")) .nil)) .pass) .pass) (.seq (.expr (.methc "put_wear" [("Mint",53)] (.var 0) (.cons (.var 1) (.cons (.call 177 (.cons (.methc "wear_of" [("Mint",52)] (.var 0) (.cons (.var 1) .nil)) (.cons (.prim (.bin .Sub) (.cons (.var 2) (.cons (.lit (.int 1)) .nil))) (.cons (.call 16 (.cons (.var 4) (.cons (.prim .tup (.cons (.var 3) .nil)) .nil))) .nil)))) .nil)))) .pass)))))⟩
noncomputable def O3:MDef:=⟨3,4,(.seq (.set 3 (.prim .tup (.cons (.var 1) (.cons (.methc "marks" [("Mint",62)] (.var 0) (.cons (.lit (.str "lower")) (.cons (.var 1) .nil))) (.cons (.var 2) (.cons (.methc "marks" [("Mint",62)] (.var 0) (.cons (.lit (.str "upper")) (.cons (.var 2) .nil))) (.cons (.prim (.fld "present") (.cons (.var 0) .nil)) .nil))))))) (.seq (.ifs (.tst (.prim (.cmp .NotIn) (.cons (.var 1) (.cons (.prim (.fld "bench") (.cons (.var 0) .nil)) .nil)))) (.seq (.raise "NotFixed" (.cons (.lit (.str "the lower die is on no anvil")) .nil)) .pass) .pass) (.seq (.ifs (.tst (.prim (.cmp .Eq) (.cons (.prim .len (.cons (.prim (.fld "output") (.cons (.var 0) .nil)) .nil)) (.cons (.lit (.int 200)) .nil)))) (.seq (.raise "Full" (.cons (.lit (.str "no more coins are struck")) .nil)) .pass) .pass) (.seq (.augf "output" ["Mint"] (.var 0) (.prim .tup (.cons (.var 3) .nil))) (.seq (.ret (.prim (.bin .Sub) (.cons (.prim .len (.cons (.prim (.fld "output") (.cons (.var 0) .nil)) .nil)) (.cons (.lit (.int 1)) .nil)))) .pass)))))⟩
noncomputable def C9:MDef:=⟨2,2,(.seq (.ifs (.not_ (.tst (.call 1 (.cons (.var 1) (.cons (.prim (.bin .Add) (.cons (.prim (.fld "present") (.cons (.var 0) .nil)) (.cons (.lit (.int 1)) .nil))) (.cons (.lit (.int 9999)) .nil)))))) (.seq (.raise "BadYear" (.cons (.lit (.str "no such year can begin")) .nil)) .pass) .pass) (.seq (.setf "present" ["Mint"] (.var 0) (.var 1)) .pass))⟩
structure TQ(T:Nat->Option MDef):Prop where
 tm:TM T
 h16:T 16=some aH1
 h55:T 55=some ad3
 h56:T 56=some O4
 h57:T 57=some F7
 h58:T 58=some O3
 h59:T 59=some C9
 h177:T 177=some G8
section
variable{T:Nat->Option MDef}{k d:Nat}{g:G}{Q:KD}{E:KX}{m:Nat}{s:MSt}{x:Str}
theorem bf8(hT:TQ T){l:List Int}{i:Int}(hl:Mk l)(hi:ST.Spot i)(h:∀g',Ex g g'->Q (mk (markL l i)) g'):a9 T (k+1) 16 [mk l,.tup [.int i]] g Q E:=by
 refine call_of hT.h16 rfl ?_;dsimp[aH1,b5,List.replicate];walk_at "w5";refine bx6 (ns:=l) (ms:=[i]) hl.1 (fun k hk=>by simp at hk;subst hk;exact hi) (by have:=hl.2;simp;omega) ?_;rw[aU2 hl.1 hi];refine a38 (a7 c5) ?_;walk_at "w5";exact h _ (Ex.snoc _ _)
theorem ac3(hT:TQ T)(hm:g[m]?=some (b8 s))(ho:PyData.strOk x=true)(h1:u9 x->Q (.tup (mks (s.side x))) g)(h3:¬u9 x->E ⟨"BadSide"⟩ g):a9 T (k+2) 52 [.ref m,.str x] g Q E:=by
 refine call_of hT.tm.h52 rfl ?_;dsimp[O2,b5,List.replicate];walk_at "w5";refine ap0 hT.tm.h40 ho (fun hx=>?_) (fun z1 z2=>h3 (fun z=>z.elim z1 z2));walk_at "w5";refine if2 (fun c=>?_) (fun c=>?_)
 ·walk_at "w5";have:=h1 hx;rw[c,A6] at this;exact i7 hm rfl this
 ·walk_at "w5";have:=h1 hx;rw[hx.resolve_left c,A5] at this;exact i7 hm rfl this
theorem aB1(hT:TQ T)(hm:g[m]?=some (b8 s)){w:List (List Int)}(h:Q .non (g.set m (b8 (s.put x w)))):a9 T (k+1) 53 [.ref m,.str x,.tup (mks w)] g Q E:=by
 refine call_of hT.tm.h53 rfl ?_;dsimp[L7,b5,List.replicate];walk_at "w5";refine if2 (fun c=>?_) (fun c=>?_)
 ·walk_at "w5";refine l7 hm (by simp) (by simp) ?_;walk_at "w5";unfold MSt.put at h;rw[if_pos c] at h;exact h
 ·walk_at "w5";refine l7 hm (by simp) (by simp) ?_;walk_at "w5";unfold MSt.put at h;rw[if_neg c] at h;exact h
theorem bf4(hT:TQ T)(hm:g[m]?=some (b8 s))(W:WS s)(ho:PyData.strOk x=true)(h1:(m8 s x).1=""->Q (m8 s x).2.1 (g.set m (b8 (m8 s x).2.2)))(h2:(m8 s x).1≠""->E ⟨(m8 s x).1⟩ g):a9 T (k+3) 54 [.ref m,.str x] g Q E:=by
 refine call_of hT.tm.h54 rfl ?_;dsimp[ad4,b5,List.replicate];walk_at "w5";refine e7 hm rfl rfl ?_;walk_at "w5";refine ac3 (k:=k) hT hm ho (fun hx=>?_) (fun hx=>?_)
 ·have hl:(s.side x).length<=99:=by
   rcases hx with rfl|rfl
   ·rw[A6];exact W.ln
   ·rw[A5];exact W.un
  walk_at "w5";rw[List.length_map];refine if2 (fun c=>?_) (fun c=>?_)
  ·have e:m8 s x=(("Full",.non,s):Rs):=by unfold m8;rw[if_pos hx,if_neg (by omega)]
   rw[e] at h2;walk_at "w5";exact h2 (by dsimp only;decide)
  ·have e:m8 s x=(("",.int ((s.side x).length+1),s.put x (s.side x++[[]])):Rs):=by unfold m8;rw[if_pos hx,if_pos (by omega)]
   rw[e] at h1;walk_at "w5";refine e7 hm rfl rfl ?_;walk_at "w5";refine aJ1 (by simp;omega) ?_;have e2:mks (s.side x)++[D.tup []]=mks (s.side x++[[]]):=by rw[mks,mks,List.map_append];rfl
   rw[e2];walk_at "w5";refine aB1 hT hm ?_;walk_at "w5";rw[List.length_map];exact h1 rfl
 ·have e:m8 s x=(("BadSide",.non,s):Rs):=by unfold m8;rw[if_neg hx]
  rw[e] at h2;exact h2 (by dsimp only;decide)
theorem ai4{l:List (List Int)}{v:Int}(hv:1<=v/\v<=l.length):atI (mks l) (v-1)=some (mk (at1 l v)):=by
 have h:=(aa8 hv).1;have:=Q7 (xs:=mks l) (j:=(v-1).toNat) (v:=mk (at1 l v)) (by rw[List.getElem?_map,h];rfl)
 rwa [show(((v-1).toNat:Nat):Int)=v-1 by omega] at this
theorem W4(hT:TQ T)(hm:g[m]?=some (b8 s))(ho:PyData.strOk x=true){v:Int}(h1:u9 x->1<=v/\v<=(s.side x).length->Q (mk (at1 (s.side x) v)) g)(h2:u9 x->¬(1<=v/\v<=(s.side x).length)->E ⟨"NoDie"⟩ g)(h3:¬u9 x->E ⟨"BadSide"⟩ g):a9 T (k+4) 62 [.ref m,.str x,.int v] g Q E:=by
 refine call_of hT.tm.h62 rfl ?_;dsimp[S8,b5,List.replicate];walk_at "w5";refine e7 hm rfl rfl ?_;walk_at "w5";refine ac3 (k:=k+1) hT hm ho (fun hx=>?_) h3;walk_at "w5";refine Y3 hT.tm (fun hv=>?_) (fun hv=>?_)
 ·rw[List.length_map] at hv;walk_at "w5";refine aH5 (ai4 hv) ?_;walk_at "w5";exact h1 hx hv
 ·rw[List.length_map] at hv;exact h2 hx hv
theorem am2(hT:TQ T)(hm:g[m]?=some (b8 s))(W:WS s){v:Int}(h0:¬(1<=v/\v<=s.lo.length)->E ⟨"NoDie"⟩ g)(h1:1<=v/\v<=s.lo.length->p7 s v=true->Q (.str "fixed") g)(h2:1<=v/\v<=s.lo.length->p7 s v=false->B7 s v=true->Q (.str "gone") g)(h3:1<=v/\v<=s.lo.length->p7 s v=false->B7 s v=false->Q (.str "new") g) :
  a9 T (k+4) 63 [.ref m,.int v] g Q E:=by
 refine call_of hT.tm.h63 rfl ?_;dsimp[S7,b5,List.replicate];walk_at "w5";refine i7 hm rfl ?_;walk_at "w5";refine Y3 hT.tm (fun hv=>?_) (fun z=>h0 (fun y=>z ⟨y.1,by rw[List.length_map];exact y.2⟩));rw[List.length_map] at hv;walk_at "w5";refine i7 hm rfl ?_;walk_at "w5";refine U4 (m7 (l:=s.bl) rfl W.se (.inr ⟨v,rfl⟩) ?_);walk_at "w5";cases e1:p7 s v with
 |true =>
  refine ifT e1 ?_;walk_at "w5";exact h1 hv e1
 |false =>
  refine ifF e1 ?_;walk_at "w5";refine i7 hm rfl ?_;walk_at "w5";refine U4 (m7 (l:=s.go.map D.int) rfl A8 (.inr ⟨v,rfl⟩) ?_);walk_at "w5";cases e2:B7 s v with
  |true =>
   refine ifT e2 ?_;walk_at "w5";exact h2 hv e1 e2
  |false =>
   refine ifF e2 ?_;walk_at "w5";exact h3 hv e1 e2
theorem ftt{b:Bool}(h:b=false):¬b=true:=by rw[h];decide
theorem be8(hT:TQ T)(hm:g[m]?=some (b8 s))(W:WS s){v:Int}(h1:(j2 s v).1=""->Q (j2 s v).2.1 (g.set m (b8 (j2 s v).2.2)))(h2:(j2 s v).1≠""->E ⟨(j2 s v).1⟩ g):a9 T (k+5) 55 [.ref m,.int v] g Q E:=by
 refine call_of hT.h55 rfl ?_;dsimp[ad3,b5,List.replicate];walk_at "w5";refine e7 hm rfl rfl ?_;walk_at "w5";refine am2 (k:=k) hT hm W (fun hv=>?_) (fun hv e1=>?_) (fun hv e1 e2=>?_) (fun hv e1 e2=>?_)
 ·have e:j2 s v=(("NoDie",.non,s):Rs):=by unfold j2;rw[if_neg hv]
  rw[e] at h2;exact h2 (by dsimp only;decide)
 ·have e:j2 s v=(("Fixed",.non,s):Rs):=by unfold j2;rw[if_pos hv,if_pos e1]
  rw[e] at h2;walk_at "w5";refine ifT (by decide +kernel) ?_;walk_at "w5";exact h2 (by dsimp only;decide)
 ·have e:j2 s v=(("Gone",.non,s):Rs):=by unfold j2;rw[if_pos hv,if_neg (ftt e1),if_pos e2]
  rw[e] at h2;walk_at "w5";refine ifF (by decide +kernel) ?_;walk_at "w5";refine ifT (by decide +kernel) ?_;walk_at "w5";exact h2 (by dsimp only;decide)
 ·walk_at "w5";refine ifF (by decide +kernel) ?_;walk_at "w5";refine ifF (by decide +kernel) ?_;walk_at "w5";refine i7 hm rfl ?_;walk_at "w5";refine J6 (m7 (l:=s.bl) rfl W.se (.inl rfl) ?_);walk_at "w5";cases e3:s.bl.any (eqS .non) with
  |false =>
   have e:j2 s v=(("NoAnvil",.non,s):Rs):=by unfold j2;rw[if_pos hv,if_neg (ftt e1),if_neg (ftt e2),if_neg (ftt e3)]
   rw[e] at h2;refine ifT rfl ?_;walk_at "w5";exact h2 (by dsimp only;decide)
  |true =>
   have e:j2 s v=(("",.int (plN s.bl .non),{ s with bl:=s.bl.set (plN s.bl .non) (.int v) }):Rs):=by unfold j2;rw[if_pos hv,if_neg (ftt e1),if_neg (ftt e2),if_pos e3]
   rw[e] at h1;refine ifF rfl ?_;obtain⟨F,hn,_⟩:=F0 W.se (.inl rfl) e3;have bn:=W.bn;walk_at "w5";refine i7 hm rfl ?_;refine⟨aP3,?_⟩;walk_at "w5";refine a54 F (by omega) ?_;walk_at "w5";refine i7 hm rfl ?_;walk_at "w5";refine G0 (k:=k+3) hT.h177 hn (by omega) ?_;walk_at "w5";refine l7 hm (by simp) (by simp) ?_;walk_at "w5";exact h1 rfl
theorem bc9(hT:TQ T)(hm:g[m]?=some (b8 s))(W:WS s){v:Int}(h1:(m5 s v).1=""->Q (m5 s v).2.1 (g.set m (b8 (m5 s v).2.2)))(h2:(m5 s v).1≠""->E ⟨(m5 s v).1⟩ g):a9 T (k+5) 56 [.ref m,.int v] g Q E:=by
 refine call_of hT.h56 rfl ?_;dsimp[O4,b5,List.replicate];walk_at "w5";refine e7 hm rfl rfl ?_;walk_at "w5";have no:1<=v/\v<=s.lo.length->p7 s v=false->E ⟨"NotFixed"⟩ g:=fun hv e1=>by
  have e:m5 s v=(("NotFixed",.non,s):Rs):=by unfold m5;rw[if_pos hv,if_neg (ftt e1)]
  rw[e] at h2;exact h2 (by dsimp only;decide)
 refine am2 (k:=k) hT hm W (fun hv=>?_) (fun hv e1=>?_) (fun hv e1 e2=>?_) (fun hv e1 e2=>?_)
 ·have e:m5 s v=(("NoDie",.non,s):Rs):=by unfold m5;rw[if_neg hv]
  rw[e] at h2;exact h2 (by dsimp only;decide)
 ·have e:m5 s v=(("",.int (plN s.bl (.int v)),{ s with bl:=s.bl.set (plN s.bl (.int v)) .non,go:=s.go++[v] }):Rs):=by unfold m5;rw[if_pos hv,if_pos e1]
  rw[e] at h1;obtain⟨F,hn,_⟩:=F0 W.se (.inr ⟨v,rfl⟩) e1;have bn:=W.bn;have gl:=aR1 W;walk_at "w5";refine ifF (by decide +kernel) ?_;walk_at "w5";refine i7 hm rfl ?_;refine⟨aP3,?_⟩;walk_at "w5";refine a54 F (by omega) ?_;walk_at "w5";refine i7 hm rfl ?_;walk_at "w5";refine G0 (k:=k+3) hT.h177 hn (by omega) ?_;walk_at "w5";refine l7 hm (by simp) (by simp) ?_;have e2:(O.ins "Mint" (n8 "bench" (.tup (s.bl.set (plN s.bl (.int v)) .non)) [("bench",.tup s.bl),("laid_off",.tup (s.go.map .int)),("lower_wear",.tup (mks s.lo)),("upper_wear",.tup (mks s.up)),("present",.int s.yr),("output",.tup s.co)]))=b8 { s with bl:=s.bl.set (plN s.bl (.int v)) .non }:=rfl;rw[e2];have hm2:(g.set m (b8 { s with bl:=s.bl.set (plN s.bl (.int v)) .non }))[m]?=some (b8 { s with bl:=s.bl.set (plN s.bl (.int v)) .non }):=get_set hm;walk_at "w5";refine aK4 ?_;walk_at "w5";refine⟨m,_,_,_,rfl,hm2,by simp,rfl,?_⟩;walk_at "w5";refine aQ7 (by simp;omega) ?_;refine⟨_,hm2,by simp,?_⟩;rw[List.set_set];have e3:(O.ins "Mint" (n8 "laid_off" (.tup (s.go.map .int++[.int v])) [("bench",.tup (s.bl.set (plN s.bl (.int v)) .non)),("laid_off",.tup (s.go.map .int)),("lower_wear",.tup (mks s.lo)),("upper_wear",.tup (mks s.up)),("present",.int s.yr),("output",.tup s.co)]))=b8 { s with bl:=s.bl.set (plN s.bl (.int v)) .non,go:=s.go++[v] }:=by
   unfold b8;rw[List.map_append]
   rfl
  rw[e3];walk_at "w5";exact h1 rfl
 ·walk_at "w5";refine ifT (by decide +kernel) ?_;walk_at "w5";exact no hv e1
 ·walk_at "w5";refine ifT (by decide +kernel) ?_;walk_at "w5";exact no hv e1
theorem aA1{s:MSt}(W:WS s)(hx:u9 x){v:Int}(hv:1<=v/\v<=(s.side x).length):Mk (at1 (s.side x) v):=by
 have h:=(aa8 hv).2;rcases hx with rfl|rfl
 ·rw[A6] at h ⊢;exact W.lm _ h
 ·rw[A5] at h ⊢;exact W.um _ h
theorem ac8{s:MSt}(W:WS s):(s.side x).length<=99:=by
 unfold MSt.side;split
 ·exact W.ln
 ·exact W.un
theorem aa1{g:G}{y:D}{l:List Int}{v:Int}{kb:Bool->Prop}(hi:u7 g y=some (l.map .int))(h:kb (decide (v∈l))):inP g (.int v) y kb:=by
 refine m7 hi A8 (.inr ⟨v,rfl⟩) ?_;have e:(l.map D.int).any (eqS (.int v))=decide (v∈l):=by
  rw[Bool.eq_iff_iff,E1 A8,decide_eq_true_iff];constructor
  ·rintro⟨i,hi⟩;rw[List.getElem?_map,Option.map_eq_some_iff] at hi;obtain⟨a,h1,h2⟩:=hi;cases h2;exact List.mem_of_getElem? h1
  ·intro hm;obtain⟨i,hi⟩:=List.getElem?_of_mem hm;exact⟨i,by rw[List.getElem?_map,hi];rfl⟩
 rw[e];exact h
theorem aY5(hT:TQ T)(hm:g[m]?=some (b8 s))(W:WS s)(ho:PyData.strOk x=true){v j:Int}(h1:(d7 s x v j).1=""->∀g',Ex g g'->Q .non (g'.set m (b8 (d7 s x v j).2.2)))(h2:(d7 s x v j).1≠""->E ⟨(d7 s x v j).1⟩ g):a9 T (k+5) 57 [.ref m,.str x,.int v,.int j] g Q E:=by
 refine call_of hT.h57 rfl ?_;dsimp[F7,b5,List.replicate];walk_at "w5";refine e7 hm rfl rfl ?_;walk_at "w5";refine W4 (k:=k) hT hm ho (fun hx hv=>?_) (fun hx hv=>?_) (fun hx=>?_)
 ·have mkl:=aA1 W hx hv;have sl:=ac8 (x:=x) W;have fin:∀(N:Ends),¬(x="lower"/\B7 s v=true)->(∀(g':G) σ,(∀g1:G,Ex g g1->g'=g1.set m (b8 (d7 s x v j).2.2)->(d7 s x v j).1=""->N.nx σ g'))->wpS (a9 T (k+4)) (match F7.body with|.seq _ (.seq _ b)=>b|x=>x) N [some (.ref m),some (.str x),some (.int v),some (.int j),some (mk (at1 (s.side x) v))] g E:=by
   intro N hgo hN;dsimp[F7];walk_at "w5";refine x9 hT.tm.nf ?_;walk_at "w5";by_cases hj:0<=j/\j<=7
   ·rw[decide_eq_true hj.1,decide_eq_true hj.2];refine ifF rfl ?_;walk_at "w5";refine U4 (aa1 (l:=at1 (s.side x) v) rfl ?_);walk_at "w5";by_cases hq:j∈at1 (s.side x) v
    ·have e:d7 s x v j=(("Marked",.non,s):Rs):=by unfold d7;rw[if_pos hx,if_pos hv,if_neg hgo,if_pos hj,if_pos hq]
     rw[e] at h2;rw[decide_eq_true hq];refine ift ?_;walk_at "w5";exact h2 (by dsimp only;decide)
    ·have e:d7 s x v j=(("",.non,s.put x ((s.side x).set (v-1).toNat (markL (at1 (s.side x) v) j))):Rs):=by unfold d7;rw[if_pos hx,if_pos hv,if_neg hgo,if_pos hj,if_neg hq]
     rw[e] at hN;rw[decide_eq_false hq];refine Y0 ?_;walk_at "w5";refine e7 hm rfl rfl ?_;walk_at "w5";refine e7 hm rfl rfl ?_;walk_at "w5";refine ac3 (k:=k+2) hT hm ho (fun _=>?_) (fun z=>absurd hx z);walk_at "w5";refine bf8 (k:=k+3) hT mkl ⟨hj.1,by omega⟩ fun g1 e1=>?_;walk_at "w5";have hvn:v-1=(((v-1).toNat:Nat):Int):=by omega
     rw[hvn];refine G0 (k:=k+3) hT.h177 (by rw[List.length_map];omega) (by rw[List.length_map];omega) ?_;have es:(mks (s.side x)).set (v-1).toNat (mk (markL (at1 (s.side x) v) j))=mks ((s.side x).set (v-1).toNat (markL (at1 (s.side x) v) j)):=by rw[mks,mks,List.map_set]
     rw[es];walk_at "w5";refine aB1 (k:=k+3) hT (e1.at hm) ?_;walk_at "w5";exact hN _ _ g1 e1 rfl rfl
   ·have e:d7 s x v j=(("BadSpot",.non,s):Rs):=by unfold d7;rw[if_pos hx,if_pos hv,if_neg hgo,if_neg hj]
    rw[e] at h2;have:(decide (0<=j)&&decide (j<=7))=false:=by
     rw[Bool.and_eq_false_iff,decide_eq_false_iff_not,decide_eq_false_iff_not];exact Classical.not_and_iff_not_or_not.mp hj
    rw[this];refine ifT rfl ?_;walk_at "w5";exact h2 (by dsimp only;decide)
  walk_at "w5";refine if2 (fun hlo=>?_) (fun hlo=>?_)
  ·walk_at "w5";refine i7 hm rfl ?_;walk_at "w5";refine U4 (m7 (l:=s.go.map D.int) rfl A8 (.inr ⟨v,rfl⟩) ?_);walk_at "w5";cases e2:B7 s v with
   |true =>
    have e:d7 s x v j=(("Gone",.non,s):Rs):=by unfold d7;rw[if_pos hx,if_pos hv,if_pos ⟨hlo,e2⟩]
    rw[e] at h2;refine ifT e2 ?_;walk_at "w5";exact h2 (by dsimp only;decide)
   |false =>
    refine ifF e2 ?_;refine w5 ?_;exact fin _ (fun z=>ftt e2 z.2) (fun g' σ g1 e1 eg er=>by subst eg;exact h1 er g1 e1)
  ·try refine Y0 ?_
   try with_reducible refine w5 ?_
   exact fin _ (fun z=>hlo z.1) (fun g' σ g1 e1 eg er=>by subst eg;exact h1 er g1 e1)
 ·have e:d7 s x v j=(("NoDie",.non,s):Rs):=by unfold d7;rw[if_pos hx,if_neg hv]
  rw[e] at h2;exact h2 (by dsimp only;decide)
 ·have e:d7 s x v j=(("BadSide",.non,s):Rs):=by unfold d7;rw[if_neg hx]
  rw[e] at h2;exact h2 (by dsimp only;decide)
theorem aE5(hT:TQ T)(hm:g[m]?=some (b8 s))(W:WS s){a b:Int}(h1:(d5 s a b).1=""->Q (d5 s a b).2.1 (g.set m (b8 (d5 s a b).2.2)))(h2:(d5 s a b).1≠""->E ⟨(d5 s a b).1⟩ g):a9 T (k+5) 58 [.ref m,.int a,.int b] g Q E:=by
 refine call_of hT.h58 rfl ?_;dsimp[O3,b5,List.replicate];have no:¬((1<=a/\a<=s.lo.length)/\(1<=b/\b<=s.up.length))->E ⟨"NoDie"⟩ g:=fun hv=>by
  have e:d5 s a b=(("NoDie",.non,s):Rs):=by unfold d5;rw[if_neg hv]
  rw[e] at h2;exact h2 (by dsimp only;decide)
 walk_at "w5";refine e7 hm rfl rfl ?_;walk_at "w5";refine W4 (k:=k) hT hm (by decide +kernel) (fun _ ha=>?_) (fun _ ha=>no (fun z=>ha (by rw[A6];exact z.1))) (fun z=>absurd (.inl rfl) z);rw[A6] at ha ⊢;walk_at "w5";refine e7 hm rfl rfl ?_;walk_at "w5";refine W4 (k:=k) hT hm (by decide +kernel) (fun _ hb=>?_) (fun _ hb=>no (fun z=>hb (by rw[A5];exact z.2))) (fun z=>absurd (.inr rfl) z);rw[A5] at hb ⊢;walk_at "w5";refine i7 hm rfl ?_;walk_at "w5";refine i7 hm rfl ?_;walk_at "w5";refine J6 (m7 (l:=s.bl) rfl W.se (.inr ⟨a,rfl⟩) ?_);walk_at "w5";cases e1:p7 s a with
 |false =>
  have e:d5 s a b=(("NotFixed",.non,s):Rs):=by unfold d5;rw[if_pos ⟨ha,hb⟩,if_neg (ftt e1)]
  rw[e] at h2;refine ifT (show(!p7 s a)=true by rw[e1];rfl) ?_;walk_at "w5";exact h2 (by dsimp only;decide)
 |true =>
  refine ifF (show(!p7 s a)=false by rw[e1];rfl) ?_;have cn:=W.cn;walk_at "w5";refine i7 hm rfl ?_;walk_at "w5";refine if2 (fun hl=>?_) (fun hl=>?_)
  ·have e:d5 s a b=(("Full",.non,s):Rs):=by unfold d5;rw[if_pos ⟨ha,hb⟩,if_pos e1,if_neg (by omega)]
   rw[e] at h2;walk_at "w5";exact h2 (by dsimp only;decide)
  ·have e:d5 s a b=(("",.int s.co.length,{ s with co:=s.co++[E7 s a b] }):Rs):=by unfold d5;rw[if_pos ⟨ha,hb⟩,if_pos e1,if_pos (by omega)]
   rw[e] at h1;walk_at "w5";refine aK4 ?_;walk_at "w5";refine⟨m,_,_,_,rfl,hm,by simp,rfl,?_⟩;walk_at "w5";refine aQ7 (by simp;omega) ?_;refine⟨_,hm,by simp,?_⟩;have e3:(O.ins "Mint" (n8 "output" (.tup (s.co++[.tup [.int a,mk (at1 s.lo a),.int b,mk (at1 s.up b),.int s.yr]])) [("bench",.tup s.bl),("laid_off",.tup (s.go.map .int)),("lower_wear",.tup (mks s.lo)),("upper_wear",.tup (mks s.up)),("present",.int s.yr),("output",.tup s.co)]))=b8 { s with co:=s.co++[E7 s a b] }:=rfl;rw[e3];have hm2:(g.set m (b8 { s with co:=s.co++[E7 s a b] }))[m]?=some (b8 { s with co:=s.co++[E7 s a b] }):=get_set hm;walk_at "w5";refine i7 hm2 rfl ?_;walk_at "w5";have:=h1 rfl;rw[show((s.co++[E7 s a b]).length:Int)-1=s.co.length by rw[List.length_append];simp];exact this
theorem aT1(hT:TQ T)(hm:g[m]?=some (b8 s)){n:Int}(h1:(l6 s n).1=""->Q .non (g.set m (b8 (l6 s n).2.2)))(h2:(l6 s n).1≠""->E ⟨(l6 s n).1⟩ g):a9 T (k+3) 59 [.ref m,.int n] g Q E:=by
 refine call_of hT.h59 rfl ?_;dsimp[C9,b5,List.replicate];walk_at "w5";refine i7 hm rfl ?_;walk_at "w5";refine x9 hT.tm.nf ?_;walk_at "w5";by_cases hv:s.yr+1<=n/\n<=9999
 ·have e:l6 s n=(("",.non,{ s with yr:=n }):Rs):=by unfold l6;rw[if_pos hv]
  rw[e] at h1;rw[decide_eq_true hv.1,decide_eq_true hv.2];refine ifF rfl ?_;walk_at "w5";refine l7 hm (by simp) (by simp) ?_;walk_at "w5";exact h1 rfl
 ·have e:l6 s n=(("BadYear",.non,s):Rs):=by unfold l6;rw[if_neg hv]
  rw[e] at h2;have:(decide (s.yr+1<=n)&&decide (n<=9999))=false:=by
   rw[Bool.and_eq_false_iff,decide_eq_false_iff_not,decide_eq_false_iff_not];exact Classical.not_and_iff_not_or_not.mp hv
  rw[this];refine ifT rfl ?_;walk_at "w5";exact h2 (by dsimp only;decide)
theorem aJ5(hT:TQ T)(hm:g[m]?=some (b8 s))(h:Q (.ref g.length) (g++[.lst s.bl])):a9 T (k+1) 60 [.ref m] g Q E:=by
 refine call_of hT.tm.h60 rfl ?_;dsimp[O5,b5,List.replicate];walk_at "w5";refine i7 hm rfl ?_;walk_at "w5";exact h
end
noncomputable def Q3:MDef:=⟨4,5,(.seq (.ifs (.tst (.prim (.cmp .NotIn) (.cons (.var 1) (.cons (.prim .lst (.cons (.lit (.str "lower")) (.cons (.lit (.str "upper")) .nil))) .nil)))) (.seq (.ret (.prim .tup (.cons (.lit (.str "BadSide")) (.cons (.lit .non) .nil)))) .pass) .pass) (.seq (.ifs (.not_ (.tst (.chain .LtE .LtE (.lit (.int 1)) (.var 2) (.prim .len (.cons (.prim .ix (.cons (.var 0) (.cons (.var 1) .nil))) .nil))))) (.seq (.ret (.prim .tup (.cons (.lit (.str "NoDie")) (.cons (.lit .non) .nil)))) .pass) .pass) (.seq (.ifs (.and_ (.tst (.prim (.cmp .Eq) (.cons (.var 1) (.cons (.lit (.str "lower")) .nil)))) (.tst (.prim (.cmp .In) (.cons (.var 2) (.cons (.prim .ix (.cons (.var 0) (.cons (.lit (.str "gone")) .nil))) .nil))))) (.seq (.ret (.prim .tup (.cons (.lit (.str "Gone")) (.cons (.lit .non) .nil)))) .pass) .pass) (.seq (.ifs (.not_ (.tst (.chain .LtE .LtE (.lit (.int 0)) (.var 3) (.lit (.int 7))))) (.seq (.ret (.prim .tup (.cons (.lit (.str "BadSpot")) (.cons (.lit .non) .nil)))) .pass) .pass) (.seq (.set 4 (.prim .ix (.cons (.prim .ix (.cons (.var 0) (.cons (.var 1) .nil))) (.cons (.prim (.bin .Sub) (.cons (.var 2) (.cons (.lit (.int 1)) .nil))) .nil)))) (.seq (.ifs (.tst (.prim (.cmp .In) (.cons (.var 3) (.cons (.var 4) .nil)))) (.seq (.ret (.prim .tup (.cons (.lit (.str "Marked")) (.cons (.lit .non) .nil)))) .pass) .pass) (.seq (.setix (.prim .ix (.cons (.var 0) (.cons (.var 1) .nil))) (.prim (.bin .Sub) (.cons (.var 2) (.cons (.lit (.int 1)) .nil))) (.prim .tuple (.cons (.comp [4,3] 4 (.one 3) (.itR1 (.lit (.int 8))) (.or_ (.tst (.prim (.cmp .Eq) (.cons (.var 3) (.cons (.var 1) .nil)))) (.tst (.prim (.cmp .In) (.cons (.var 3) (.cons (.var 0) .nil))))) (.var 3)) .nil))) (.seq (.ret (.prim .tup (.cons (.lit (.str "")) (.cons (.lit .non) .nil)))) .pass))))))))⟩
noncomputable def S9:MDef:=⟨3,3,(.seq (.ifs (.or_ (.not_ (.tst (.chain .LtE .LtE (.lit (.int 1)) (.var 1) (.prim .len (.cons (.prim .ix (.cons (.var 0) (.cons (.lit (.str "lower")) .nil))) .nil))))) (.not_ (.tst (.chain .LtE .LtE (.lit (.int 1)) (.var 2) (.prim .len (.cons (.prim .ix (.cons (.var 0) (.cons (.lit (.str "upper")) .nil))) .nil)))))) (.seq (.ret (.prim .tup (.cons (.lit (.str "NoDie")) (.cons (.lit .non) .nil)))) .pass) .pass) (.seq (.ifs (.tst (.prim (.cmp .NotIn) (.cons (.var 1) (.cons (.prim .ix (.cons (.var 0) (.cons (.lit (.str "seats")) .nil))) .nil)))) (.seq (.ret (.prim .tup (.cons (.lit (.str "NotFixed")) (.cons (.lit .non) .nil)))) .pass) .pass) (.seq (.ifs (.tst (.prim (.cmp .Gt) (.cons (.prim .len (.cons (.prim .ix (.cons (.var 0) (.cons (.lit (.str "coins")) .nil))) .nil)) (.cons (.lit (.int 199)) .nil)))) (.seq (.ret (.prim .tup (.cons (.lit (.str "Full")) (.cons (.lit .non) .nil)))) .pass) .pass) (.seq (.expr (.meth .append (.prim .ix (.cons (.var 0) (.cons (.lit (.str "coins")) .nil))) (.cons (.prim .tup (.cons (.var 1) (.cons (.prim .ix (.cons (.prim .ix (.cons (.var 0) (.cons (.lit (.str "lower")) .nil))) (.cons (.prim (.bin .Sub) (.cons (.var 1) (.cons (.lit (.int 1)) .nil))) .nil))) (.cons (.var 2) (.cons (.prim .ix (.cons (.prim .ix (.cons (.var 0) (.cons (.lit (.str "upper")) .nil))) (.cons (.prim (.bin .Sub) (.cons (.var 2) (.cons (.lit (.int 1)) .nil))) .nil))) (.cons (.prim .ix (.cons (.var 0) (.cons (.lit (.str "year")) .nil))) .nil)))))) .nil))) (.seq (.ret (.prim .tup (.cons (.lit (.str "")) (.cons (.prim (.bin .Sub) (.cons (.prim .len (.cons (.prim .ix (.cons (.var 0) (.cons (.lit (.str "coins")) .nil))) .nil)) (.cons (.lit (.int 1)) .nil))) .nil)))) .pass)))))⟩
noncomputable def mKv(q:Nat)(y:Int):List (Key×D):=[(.inr "seats",.ref (q+2)),(.inr "lower",.ref (q+3)),(.inr "upper",.ref (q+4)),(.inr "gone",.ref (q+5)),(.inr "year",.int y),(.inr "coins",.ref (q+6))]
structure MD(g:G)(q:Nat)(t:MSt):Prop where
 dic:g[q]?=some (.dic (mKv q t.yr))
 seats:g[q+2]?=some (.lst t.bl)
 lower:g[q+3]?=some (.lst (mks t.lo))
 upper:g[q+4]?=some (.lst (mks t.up))
 gone:g[q+5]?=some (.lst (t.go.map .int))
 coins:g[q+6]?=some (.lst t.co)
structure Kq(q:Nat)(g g':G):Prop where
 len:g.length<=g'.length
 old:∀i,(i<q\/q+7<=i)->i<g.length->g'[i]?=g[i]?
theorem Kq.at{q:Nat}{g g':G}(h:Kq q g g'){i:Nat}{o:O}(hi:i<q\/q+7<=i)(e:g[i]?=some o):g'[i]?=some o:=(h.old i hi (d0 e)).trans e
theorem Kq.refl{q:Nat}{g:G}:Kq q g g:=⟨Nat.le_refl _,fun _ _ _=>rfl⟩
theorem Kq.trans{q:Nat}{g g1 g2:G}(a:Kq q g g1)(b:Kq q g1 g2):Kq q g g2:=⟨Nat.le_trans a.len b.len,fun i h hi=>(b.old i h (Nat.lt_of_lt_of_le hi a.len)).trans (a.old i h hi)⟩
theorem Kq.ex{q:Nat}{g g':G}(h:Ex g g'):Kq q g g':=⟨h.len,fun i _ hi=>h.old i hi⟩
theorem Kq.set{q i:Nat}{g:G}{o:O}(h:q<=i/\i<q+7):Kq q g (g.set i o):=⟨by simp,fun j hj _=>by rw[List.getElem?_set_ne (by omega)]⟩
theorem Kq.draw{q d:Nat}{g g':G}(h:Kq q g g')(hd:d<q)(D0:d6 g d):d6 g' d:=by
 obtain⟨s,p,b,r,xs,h1,h2,h3,h4⟩:=D0.ex;exact⟨s,p,b,r,xs,h.at (by omega) h1,h.at (by omega) h2,h3,h4⟩
theorem MD.ex{g g':G}{q:Nat}{t:MSt}(h:MD g q t)(x:Ex g g'):MD g' q t:=⟨x.at h.dic,x.at h.seats,x.at h.lower,x.at h.upper,x.at h.gone,x.at h.coins⟩
theorem MD.gr{g g':G}{q d:Nat}{t:MSt}(h:MD g q t)(x:Gr d g g')(hd:d<q):MD g' q t:=⟨x.at (by omega) h.dic,x.at (by omega) h.seats,x.at (by omega) h.lower,x.at (by omega) h.upper,x.at (by omega) h.gone,x.at (by omega) h.coins⟩
theorem MD.bk5{g:G}{q:Nat}{t:MSt}(h:MD g q t)(w:List D):MD (g.set (q+2) (.lst w)) q { t with bl:=w }:=⟨a6 h.dic (by omega),get_set h.seats,a6 h.lower (by omega),a6 h.upper (by omega),a6 h.gone (by omega),a6 h.coins (by omega)⟩
theorem MD.bF8{g:G}{q:Nat}{t:MSt}(h:MD g q t)(w:List (List Int)):MD (g.set (q+3) (.lst (mks w))) q { t with lo:=w }:=⟨a6 h.dic (by omega),a6 h.seats (by omega),get_set h.lower,a6 h.upper (by omega),a6 h.gone (by omega),a6 h.coins (by omega)⟩
theorem MD.bF6{g:G}{q:Nat}{t:MSt}(h:MD g q t)(w:List (List Int)):MD (g.set (q+4) (.lst (mks w))) q { t with up:=w }:=⟨a6 h.dic (by omega),a6 h.seats (by omega),a6 h.lower (by omega),get_set h.upper,a6 h.gone (by omega),a6 h.coins (by omega)⟩
theorem MD.setG{g:G}{q:Nat}{t:MSt}(h:MD g q t)(w:List Int):MD (g.set (q+5) (.lst (w.map .int))) q { t with go:=w }:=⟨a6 h.dic (by omega),a6 h.seats (by omega),a6 h.lower (by omega),a6 h.upper (by omega),get_set h.gone,a6 h.coins (by omega)⟩
theorem MD.setC{g:G}{q:Nat}{t:MSt}(h:MD g q t)(w:List D):MD (g.set (q+6) (.lst w)) q { t with co:=w }:=⟨a6 h.dic (by omega),a6 h.seats (by omega),a6 h.lower (by omega),a6 h.upper (by omega),a6 h.gone (by omega),get_set h.coins⟩
theorem MD.bF5{g:G}{q:Nat}{t:MSt}(h:MD g q t)(n:Int):MD (g.set q (.dic (mKv q n))) q { t with yr:=n }:=⟨get_set h.dic,a6 h.seats (by omega),a6 h.lower (by omega),a6 h.upper (by omega),a6 h.gone (by omega),a6 h.coins (by omega)⟩
theorem kvS{q:Nat}{y:Int}:B0 (mKv q y) (.inr "seats")=some (.ref (q+2)):=rfl
theorem kvL{q:Nat}{y:Int}:B0 (mKv q y) (.inr "lower")=some (.ref (q+3)):=rfl
theorem kvU{q:Nat}{y:Int}:B0 (mKv q y) (.inr "upper")=some (.ref (q+4)):=rfl
theorem kvG{q:Nat}{y:Int}:B0 (mKv q y) (.inr "gone")=some (.ref (q+5)):=rfl
theorem kvY{q:Nat}{y:Int}:B0 (mKv q y) (.inr "year")=some (.int y):=rfl
theorem kvC{q:Nat}{y:Int}:B0 (mKv q y) (.inr "coins")=some (.ref (q+6)):=rfl
theorem MD.side{g:G}{q:Nat}{t:MSt}{x:Str}(h:MD g q t)(hx:u9 x):∃r,(r=q+3\/r=q+4)/\B0 (mKv q t.yr) (.inr x)=some (.ref r)/\g[r]?=some (.lst (mks (t.side x)))/\∀w,MD (g.set r (.lst (mks w))) q (t.put x w):=by
 rcases hx with rfl|rfl
 ·refine⟨q+3,.inl rfl,kvL,by rw[A6];exact h.lower,fun w=>?_⟩;unfold MSt.put;rw[if_pos rfl];exact h.bF8 w
 ·refine⟨q+4,.inr rfl,kvU,by rw[A5];exact h.upper,fun w=>?_⟩;unfold MSt.put;rw[if_neg (by decide)];exact h.bF6 w
section
variable{T:Nat->Option MDef}{k d:Nat}{g:G}{Q:KD}{E:KX}{q:Nat}{s:MSt}{x:Str}
noncomputable abbrev al5(q:Nat)(g:G)(r:Rs)(Q:KD):Prop:=∀g',Kq q g g'->MD g' q r.2.2->Q (.tup [.str r.1,r.2.1]) g'
theorem aY4(h46:T 46=some aq1)(M0:MD g q s)(W:WS s)(ho:PyData.strOk x=true)(h:al5 q g (m8 s x) Q):a9 T (k+1) 46 [.ref q,.str x] g Q E:=by
 refine call_of h46 rfl ?_;dsimp[aq1,b5,List.replicate];walk_at "w5";have e1:Ex g (g++[O.lst [.str "lower",.str "upper"]]):=Ex.snoc _ _;refine J6 (an5 c5 ho ?_);have M1:=M0.ex e1;have k1:=Kq.ex (q:=q) e1;have sl:=ac8 (x:=x) W;generalize g++[O.lst [.str "lower",.str "upper"]]=g1 at *;walk_at "w5";by_cases hx:u9 x
 ·refine ifF (by rw[Bool.not_eq_false',Bool.or_eq_true,decide_eq_true_iff,decide_eq_true_iff];exact hx) ?_;obtain⟨r,hr,hkv,hrl,hset⟩:=M1.side hx;walk_at "w5";refine j0 M1.dic rfl hkv ?_;refine o6 (a7 hrl) ?_;walk_at "w5";rw[List.length_map];refine if2 (fun c=>?_) (fun c=>?_)
  ·have e:m8 s x=(("Full",.non,s):Rs):=by unfold m8;rw[if_pos hx,if_neg (by omega)]
   rw[e] at h;walk_at "w5";exact h _ k1 M1
  ·have e:m8 s x=(("",.int ((s.side x).length+1),s.put x (s.side x++[[]])):Rs):=by unfold m8;rw[if_pos hx,if_pos (by omega)]
   rw[e] at h;walk_at "w5";refine j0 M1.dic rfl hkv ?_;refine⟨u5 hrl,?_⟩;walk_at "w5";refine B5 hrl (by simp;omega) ?_;have e2:mks (s.side x)++[D.tup []]=mks (s.side x++[[]]):=by rw[mks,mks,List.map_append];rfl
   rw[e2];have M2:=hset (s.side x++[[]]);have hr2:(g1.set r (.lst (mks (s.side x++[[]]))))[r]?=some (.lst (mks (s.side x++[[]]))):=get_set hrl;have hd2:(g1.set r (.lst (mks (s.side x++[[]]))))[q]?=some (.dic (mKv q s.yr)):=a6 M1.dic (by omega);walk_at "w5";refine j0 hd2 rfl hkv ?_;refine o6 (a7 hr2) ?_;walk_at "w5";rw[List.length_map,List.length_append];have:=h _ (k1.trans (Kq.set (i:=r) (by omega))) M2;exact this
 ·refine ifT (by rw[Bool.not_eq_true',Bool.or_eq_false_iff,decide_eq_false_iff_not,decide_eq_false_iff_not];exact not_or.mp hx) ?_;have e:m8 s x=(("BadSide",.non,s):Rs):=by unfold m8;rw[if_neg hx]
  rw[e] at h;walk_at "w5";exact h _ k1 M1
theorem aY3(hi:T 178=some aq0)(M0:MD g q s)(W:WS s){v:Int}(h:al5 q g (j2 s v) Q):a9 T (k+1) 178 [.ref q,.int v] g Q E:=by
 refine call_of hi rfl ?_;dsimp[aq0,b5,List.replicate];walk_at "w5";have no:¬(1<=v/\v<=s.lo.length)->Q (.tup [.str "NoDie",.non]) g:=fun hv=>by
  have e:j2 s v=(("NoDie",.non,s):Rs):=by unfold j2;rw[if_neg hv]
  rw[e] at h;exact h _ Kq.refl M0
 by_cases hv1:1<=v
 ·rw[decide_eq_true hv1];walk_at "w5";refine j0 M0.dic rfl kvL ?_;refine o6 (a7 M0.lower) ?_;walk_at "w5";rw[List.length_map];by_cases hv2:v<=(s.lo.length:Int)
  ·rw[decide_eq_true hv2];walk_at "w5";refine j0 M0.dic rfl kvS ?_;refine U4 (m7 (l:=s.bl) (a7 M0.seats) W.se (.inr ⟨v,rfl⟩) ?_);walk_at "w5";cases e1:p7 s v with
   |true =>
    have e:j2 s v=(("Fixed",.non,s):Rs):=by unfold j2;rw[if_pos ⟨hv1,hv2⟩,if_pos e1]
    rw[e] at h;refine ifT e1 ?_;walk_at "w5";exact h _ Kq.refl M0
   |false =>
    refine ifF e1 ?_;walk_at "w5";refine j0 M0.dic rfl kvG ?_;refine U4 (m7 (l:=s.go.map D.int) (a7 M0.gone) A8 (.inr ⟨v,rfl⟩) ?_);walk_at "w5";cases e2:B7 s v with
    |true =>
     have e:j2 s v=(("Gone",.non,s):Rs):=by unfold j2;rw[if_pos ⟨hv1,hv2⟩,if_neg (ftt e1),if_pos e2]
     rw[e] at h;refine ifT e2 ?_;walk_at "w5";exact h _ Kq.refl M0
    |false =>
     refine ifF e2 ?_;walk_at "w5";refine j0 M0.dic rfl kvS ?_;refine J6 (m7 (l:=s.bl) (a7 M0.seats) W.se (.inl rfl) ?_);walk_at "w5";cases e3:s.bl.any (eqS .non) with
     |false =>
      have e:j2 s v=(("NoAnvil",.non,s):Rs):=by unfold j2;rw[if_pos ⟨hv1,hv2⟩,if_neg (ftt e1),if_neg (ftt e2),if_neg (ftt e3)]
      rw[e] at h;refine ifT rfl ?_;walk_at "w5";exact h _ Kq.refl M0
     |true =>
      have e:j2 s v=(("",.int (plN s.bl .non),{ s with bl:=s.bl.set (plN s.bl .non) (.int v) }):Rs):=by unfold j2;rw[if_pos ⟨hv1,hv2⟩,if_neg (ftt e1),if_neg (ftt e2),if_pos e3]
      rw[e] at h;refine ifF rfl ?_;obtain⟨F,hn,_⟩:=F0 W.se (.inl rfl) e3;have bn:=W.bn;walk_at "w5";refine j0 M0.dic rfl kvS ?_;refine⟨aP4 (a7 M0.seats),?_⟩;walk_at "w5";refine a55 (a7 M0.seats) F (by omega) ?_;walk_at "w5";refine j0 M0.dic rfl kvS ?_;walk_at "w5";refine G7 M0.seats (ak0 hn) ?_;walk_at "w5";exact h _ (Kq.set (i:=q+2) (by omega)) (M0.bk5 _)
  ·rw[decide_eq_false hv2];walk_at "w5";exact no fun z=>hv2 z.2
 ·rw[decide_eq_false hv1];walk_at "w5";exact no fun z=>hv1 z.1
theorem aY2(hi:T 179=some ap9)(M0:MD g q s)(W:WS s){v:Int}(h:al5 q g (m5 s v) Q):a9 T (k+1) 179 [.ref q,.int v] g Q E:=by
 refine call_of hi rfl ?_;dsimp[ap9,b5,List.replicate];walk_at "w5";have no:¬(1<=v/\v<=s.lo.length)->Q (.tup [.str "NoDie",.non]) g:=fun hv=>by
  have e:m5 s v=(("NoDie",.non,s):Rs):=by unfold m5;rw[if_neg hv]
  rw[e] at h;exact h _ Kq.refl M0
 by_cases hv1:1<=v
 ·rw[decide_eq_true hv1];walk_at "w5";refine j0 M0.dic rfl kvL ?_;refine o6 (a7 M0.lower) ?_;walk_at "w5";rw[List.length_map];by_cases hv2:v<=(s.lo.length:Int)
  ·rw[decide_eq_true hv2];walk_at "w5";refine j0 M0.dic rfl kvS ?_;refine J6 (m7 (l:=s.bl) (a7 M0.seats) W.se (.inr ⟨v,rfl⟩) ?_);walk_at "w5";cases e1:p7 s v with
   |false =>
    have e:m5 s v=(("NotFixed",.non,s):Rs):=by unfold m5;rw[if_pos ⟨hv1,hv2⟩,if_neg (ftt e1)]
    rw[e] at h;refine ifT (show(!p7 s v)=true by rw[e1];rfl) ?_;walk_at "w5";exact h _ Kq.refl M0
   |true =>
    have e:m5 s v=(("",.int (plN s.bl (.int v)),{ s with bl:=s.bl.set (plN s.bl (.int v)) .non,go:=s.go++[v] }):Rs):=by unfold m5;rw[if_pos ⟨hv1,hv2⟩,if_pos e1]
    rw[e] at h;refine ifF (show(!p7 s v)=false by rw[e1];rfl) ?_;obtain⟨F,hn,_⟩:=F0 W.se (.inr ⟨v,rfl⟩) e1;have bn:=W.bn;have gl:=aR1 W;walk_at "w5";refine j0 M0.dic rfl kvS ?_;refine⟨aP4 (a7 M0.seats),?_⟩;walk_at "w5";refine a55 (a7 M0.seats) F (by omega) ?_;walk_at "w5";refine j0 M0.dic rfl kvS ?_;walk_at "w5";refine G7 M0.seats (ak0 hn) ?_;have M1:=M0.bk5 (s.bl.set (plN s.bl (.int v)) .non);walk_at "w5";refine j0 M1.dic rfl kvG ?_;refine⟨u5 M1.gone,?_⟩;walk_at "w5";refine B5 M1.gone (by simp;omega) ?_;have M2:=M1.setG (s.go++[v]);rw[List.map_append] at M2;walk_at "w5";exact h _ ((Kq.set (i:=q+2) (by omega)).trans (Kq.set (i:=q+5) (by omega))) M2
  ·rw[decide_eq_false hv2];walk_at "w5";exact no fun z=>hv2 z.2
 ·rw[decide_eq_false hv1];walk_at "w5";exact no fun z=>hv1 z.1
theorem a94{l:List (List Int)}{v:Int}{w:List Int}:(mks l).set (v-1).toNat (mk w)=mks (l.set (v-1).toNat w):=by rw[mks,mks,List.map_set]
theorem bz5{n:Nat}{v:Int}(hv:1<=v/\v<=n):ixN n (v-1)=some (v-1).toNat:=by
 have:=ak0 (n:=n) (k:=(v-1).toNat) (by omega)
 rwa [show(((v-1).toNat:Nat):Int)=v-1 by omega] at this
theorem aP2(hi:T 181=some Q3)(M0:MD g q s)(W:WS s)(ho:PyData.strOk x=true){v j:Int}(h:al5 q g (d7 s x v j) Q):a9 T (k+1) 181 [.ref q,.str x,.int v,.int j] g Q E:=by
 refine call_of hi rfl ?_;dsimp[Q3,b5,List.replicate];walk_at "w5";have e1:Ex g (g++[O.lst [.str "lower",.str "upper"]]):=Ex.snoc _ _;refine J6 (an5 c5 ho ?_);have M1:=M0.ex e1;have k1:=Kq.ex (q:=q) e1;have sl:=ac8 (x:=x) W;generalize g++[O.lst [.str "lower",.str "upper"]]=g1 at *;walk_at "w5";by_cases hx:u9 x
 ·refine ifF (by rw[Bool.not_eq_false',Bool.or_eq_true,decide_eq_true_iff,decide_eq_true_iff];exact hx) ?_;obtain⟨r,hr,hkv,hrl,hset⟩:=M1.side hx;have no:¬(1<=v/\v<=(s.side x).length)->Q (.tup [.str "NoDie",.non]) g1:=fun hv=>by
   have e:d7 s x v j=(("NoDie",.non,s):Rs):=by unfold d7;rw[if_pos hx,if_neg hv]
   rw[e] at h;exact h _ k1 M1
  walk_at "w5";by_cases hv1:1<=v
  ·rw[decide_eq_true hv1];walk_at "w5";refine j0 M1.dic rfl hkv ?_;refine o6 (a7 hrl) ?_;walk_at "w5";rw[List.length_map];by_cases hv2:v<=((s.side x).length:Int)
   ·rw[decide_eq_true hv2];have hv:1<=v/\v<=(s.side x).length:=⟨hv1,hv2⟩
    have mkl:=aA1 W hx hv;have fin:∀(N:Ends),N.rt=Q->¬(x="lower"/\B7 s v=true)->wpS (a9 T k) (match Q3.body with|.seq _ (.seq _ (.seq _ b))=>b|x=>x) N [some (.ref q),some (.str x),some (.int v),some (.int j),none] g1 E:=by
     intro N hN hgo;dsimp[Q3];have bad:¬(0<=j/\j<=7)->N.rt (.tup [.str "BadSpot",.non]) g1:=fun hj=>by
      have e:d7 s x v j=(("BadSpot",.non,s):Rs):=by unfold d7;rw[if_pos hx,if_pos hv,if_neg hgo,if_neg hj]
      rw[e] at h;rw[hN];exact h _ k1 M1
     walk_at "w5";by_cases hj1:0<=j
     ·rw[decide_eq_true hj1];walk_at "w5";by_cases hj2:j<=7
      ·rw[decide_eq_true hj2];walk_at "w5";refine j0 M1.dic rfl hkv ?_;walk_at "w5";refine D7 (a7 hrl) (ai4 hv) ?_;walk_at "w5";refine U4 (aa1 (l:=at1 (s.side x) v) rfl ?_);walk_at "w5";by_cases hq:j∈at1 (s.side x) v
       ·have e:d7 s x v j=(("Marked",.non,s):Rs):=by unfold d7;rw[if_pos hx,if_pos hv,if_neg hgo,if_pos ⟨hj1,hj2⟩,if_pos hq]
        rw[e] at h;rw[decide_eq_true hq];refine ift ?_;walk_at "w5";rw[hN];exact h _ k1 M1
       ·have e:d7 s x v j=(("",.non,s.put x ((s.side x).set (v-1).toNat (markL (at1 (s.side x) v) j))):Rs):=by unfold d7;rw[if_pos hx,if_pos hv,if_neg hgo,if_pos ⟨hj1,hj2⟩,if_neg hq]
        rw[e] at h;rw[decide_eq_false hq];refine Y0 ?_;walk_at "w5";refine aD8 (c9 T _) ?_;walk_at "w5";refine⟨8,rfl,by omega,fun i ys σ g2=>∃z2 z3,ys=((S0.take i).filter fun i=>decide (i=j\/i∈at1 (s.side x) v)).map .int/\σ=[some (mk (at1 (s.side x) v)),some (.int j),z2,z3]/\g2=g1,⟨none,none,rfl,rfl,rfl⟩,fun i ys σ g2 p=>?_,fun i ys σ g2 hi p=>?_,fun ys σ g2 p=>?_⟩
        ·obtain⟨_,_,rfl,_⟩:=p;rw[List.length_map];exact Nat.le_trans (List.length_filter_le _ _) (by rw[List.length_take];omega)
        ·obtain⟨z2,z3,rfl,rfl,rfl⟩:=p;refine A1 ?_
         try show wpT _ _ _ _ _ _
         have tk:S0.take (i+1)=S0.take i++[(i:Int)]:=by
          have:i=0\/i=1\/i=2\/i=3\/i=4\/i=5\/i=6\/i=7:=by omega
          rcases this with rfl|rfl|rfl|rfl|rfl|rfl|rfl|rfl<;>rfl
         walk_at "w5";by_cases hij:(i:Int)=j
         ·rw[decide_eq_true hij];walk_at "w5";refine⟨_,_,?_,rfl,rfl⟩;rw[tk,List.filter_append,List.map_append,show List.filter (fun i=>decide (i=j\/i∈at1 (s.side x) v)) [(i:Int)]=[(i:Int)] by rw[List.filter_cons,if_pos (decide_eq_true (Or.inl hij))];rfl]
          rfl
         ·rw[decide_eq_false hij];walk_at "w5";refine U4 (aa1 (l:=at1 (s.side x) v) rfl ?_);walk_at "w5";by_cases him:(i:Int)∈at1 (s.side x) v
          ·rw[decide_eq_true him];walk_at "w5";refine⟨_,_,?_,rfl,rfl⟩;rw[tk,List.filter_append,List.map_append,show List.filter (fun i=>decide (i=j\/i∈at1 (s.side x) v)) [(i:Int)]=[(i:Int)] by rw[List.filter_cons,if_pos (decide_eq_true (Or.inr him))];rfl]
           rfl
          ·rw[decide_eq_false him];walk_at "w5";refine⟨_,_,?_,rfl,rfl⟩;rw[tk,List.filter_append,List.map_append,show List.filter (fun i=>decide (i=j\/i∈at1 (s.side x) v)) [(i:Int)]=[] by rw[List.filter_cons,if_neg (by rw[decide_eq_true_iff];exact not_or.mpr ⟨hij,him⟩)];rfl];simp
        ·obtain⟨z2,z3,rfl,rfl,rfl⟩:=p;have e2:(S0.take 8).filter (fun i=>decide (i=j\/i∈at1 (s.side x) v))=markL (at1 (s.side x) v) j:=rfl;rw[e2];have e3:Ex g2 (g2++[O.lst ((markL (at1 (s.side x) v) j).map .int)]):=Ex.snoc _ _;refine a38 (a7 c5) ?_;have M3:=M1.ex e3;obtain⟨r',hr',hkv',hrl',hset'⟩:=M3.side hx;generalize g2++[O.lst ((markL (at1 (s.side x) v) j).map .int)]=g3 at *;walk_at "w5";refine j0 M3.dic rfl hkv' ?_;walk_at "w5";refine G7 hrl' (by rw[List.length_map];exact bz5 hv) ?_;have es:=a94 (l:=s.side x) (v:=v) (w:=markL (at1 (s.side x) v) j);rw[show D.tup ((markL (at1 (s.side x) v) j).map .int)=mk (markL (at1 (s.side x) v) j) from rfl,es];walk_at "w5";rw[hN];exact h _ (k1.trans ((Kq.ex e3).trans (Kq.set (i:=r') (by omega)))) (hset' _)
      ·rw[decide_eq_false hj2];walk_at "w5";exact bad fun z=>hj2 z.2
     ·rw[decide_eq_false hj1];walk_at "w5";exact bad fun z=>hj1 z.1
    walk_at "w5";refine if2 (fun hlo=>?_) (fun hlo=>?_)
    ·walk_at "w5";refine j0 M1.dic rfl kvG ?_;refine U4 (m7 (l:=s.go.map D.int) (a7 M1.gone) A8 (.inr ⟨v,rfl⟩) ?_);walk_at "w5";cases e2:B7 s v with
     |true =>
      have e:d7 s x v j=(("Gone",.non,s):Rs):=by unfold d7;rw[if_pos hx,if_pos hv,if_pos ⟨hlo,e2⟩]
      rw[e] at h;refine ifT e2 ?_;walk_at "w5";exact h _ k1 M1
     |false =>
      refine ifF e2 ?_;refine w5 ?_;exact fin _ rfl (fun z=>ftt e2 z.2)
    ·try refine Y0 ?_
     try with_reducible refine w5 ?_
     exact fin _ rfl (fun z=>hlo z.1)
   ·rw[decide_eq_false hv2];walk_at "w5";exact no fun z=>hv2 z.2
  ·rw[decide_eq_false hv1];walk_at "w5";exact no fun z=>hv1 z.1
 ·refine ifT (by rw[Bool.not_eq_true',Bool.or_eq_false_iff,decide_eq_false_iff_not,decide_eq_false_iff_not];exact not_or.mp hx) ?_;have e:d7 s x v j=(("BadSide",.non,s):Rs):=by unfold d7;rw[if_neg hx]
  rw[e] at h;walk_at "w5";exact h _ k1 M1
theorem ay2(hi:T 182=some S9)(M0:MD g q s)(W:WS s){a b:Int}(h:al5 q g (d5 s a b) Q):a9 T (k+1) 182 [.ref q,.int a,.int b] g Q E:=by
 refine call_of hi rfl ?_;dsimp[S9,b5,List.replicate];have no:¬((1<=a/\a<=s.lo.length)/\(1<=b/\b<=s.up.length))->Q (.tup [.str "NoDie",.non]) g:=fun hv=>by
  have e:d5 s a b=(("NoDie",.non,s):Rs):=by unfold d5;rw[if_neg hv]
  rw[e] at h;exact h _ Kq.refl M0
 walk_at "w5";by_cases ha1:1<=a
 ·rw[decide_eq_true ha1];walk_at "w5";refine j0 M0.dic rfl kvL ?_;refine o6 (a7 M0.lower) ?_;walk_at "w5";rw[List.length_map];by_cases ha2:a<=(s.lo.length:Int)
  ·rw[decide_eq_true ha2];walk_at "w5";by_cases hb1:1<=b
   ·rw[decide_eq_true hb1];walk_at "w5";refine j0 M0.dic rfl kvU ?_;refine o6 (a7 M0.upper) ?_;walk_at "w5";rw[List.length_map];by_cases hb2:b<=(s.up.length:Int)
    ·rw[decide_eq_true hb2];have ha:1<=a/\a<=s.lo.length:=⟨ha1,ha2⟩
     have hb:1<=b/\b<=s.up.length:=⟨hb1,hb2⟩
     walk_at "w5";refine j0 M0.dic rfl kvS ?_;refine J6 (m7 (l:=s.bl) (a7 M0.seats) W.se (.inr ⟨a,rfl⟩) ?_);walk_at "w5";cases e1:p7 s a with
     |false =>
      have e:d5 s a b=(("NotFixed",.non,s):Rs):=by unfold d5;rw[if_pos ⟨ha,hb⟩,if_neg (ftt e1)]
      rw[e] at h;refine ifT (show(!p7 s a)=true by rw[e1];rfl) ?_;walk_at "w5";exact h _ Kq.refl M0
     |true =>
      refine ifF (show(!p7 s a)=false by rw[e1];rfl) ?_;have cn:=W.cn;walk_at "w5";refine j0 M0.dic rfl kvC ?_;refine o6 (a7 M0.coins) ?_;walk_at "w5";refine if2 (fun hl=>?_) (fun hl=>?_)
      ·have e:d5 s a b=(("Full",.non,s):Rs):=by unfold d5;rw[if_pos ⟨ha,hb⟩,if_pos e1,if_neg (by omega)]
       rw[e] at h;walk_at "w5";exact h _ Kq.refl M0
      ·have e:d5 s a b=(("",.int s.co.length,{ s with co:=s.co++[E7 s a b] }):Rs):=by unfold d5;rw[if_pos ⟨ha,hb⟩,if_pos e1,if_pos (by omega)]
       rw[e] at h;walk_at "w5";refine j0 M0.dic rfl kvC ?_;refine⟨u5 M0.coins,?_⟩;walk_at "w5";refine j0 M0.dic rfl kvL ?_;walk_at "w5";refine D7 (a7 M0.lower) (ai4 ha) ?_;walk_at "w5";refine j0 M0.dic rfl kvU ?_;walk_at "w5";refine D7 (a7 M0.upper) (ai4 hb) ?_;walk_at "w5";refine j0 M0.dic rfl kvY ?_;walk_at "w5";refine B5 M0.coins (by omega) ?_;have M1:=M0.setC (s.co++[E7 s a b]);have e3:s.co++[D.tup [.int a,mk (at1 s.lo a),.int b,mk (at1 s.up b),.int s.yr]]=s.co++[E7 s a b]:=rfl;rw[e3];walk_at "w5";refine j0 M1.dic rfl kvC ?_;refine o6 (a7 M1.coins) ?_;walk_at "w5";have:=h _ (Kq.set (i:=q+6) (by omega)) M1;dsimp only;rw[show((s.co++[E7 s a b]).length:Int)-1=s.co.length by rw[List.length_append];simp];exact this
    ·rw[decide_eq_false hb2];walk_at "w5";exact no fun z=>hb2 z.2.2
   ·rw[decide_eq_false hb1];walk_at "w5";exact no fun z=>hb1 z.2.1
  ·rw[decide_eq_false ha2];walk_at "w5";exact no fun z=>ha2 z.1.2
 ·rw[decide_eq_false ha1];walk_at "w5";exact no fun z=>ha1 z.1.1
end
noncomputable def aY9:MDef:=⟨2,3,(.seq (.set 2 (.prim .ix (.cons (.var 1) (.cons (.lit (.int 0)) .nil)))) (.seq (.ifs (.tst (.prim (.cmp .Eq) (.cons (.var 2) (.cons (.lit (.str "cut")) .nil)))) (.seq (.ret (.call 46 (.cons (.var 0) (.cons (.prim .ix (.cons (.var 1) (.cons (.lit (.int 1)) .nil))) .nil)))) .pass) .pass) (.seq (.ifs (.tst (.prim (.cmp .Eq) (.cons (.var 2) (.cons (.lit (.str "fix")) .nil)))) (.seq (.ret (.call 178 (.cons (.var 0) (.cons (.prim .ix (.cons (.var 1) (.cons (.lit (.int 1)) .nil))) .nil)))) .pass) .pass) (.seq (.ifs (.tst (.prim (.cmp .Eq) (.cons (.var 2) (.cons (.lit (.str "off")) .nil)))) (.seq (.ret (.call 179 (.cons (.var 0) (.cons (.prim .ix (.cons (.var 1) (.cons (.lit (.int 1)) .nil))) .nil)))) .pass) .pass) (.seq (.ifs (.tst (.prim (.cmp .Eq) (.cons (.var 2) (.cons (.lit (.str "mark")) .nil)))) (.seq (.ret (.call 181 (.cons (.var 0) (.cons (.prim .ix (.cons (.var 1) (.cons (.lit (.int 1)) .nil))) (.cons (.prim .ix (.cons (.var 1) (.cons (.lit (.int 2)) .nil))) (.cons (.prim .ix (.cons (.var 1) (.cons (.lit (.int 3)) .nil))) .nil)))))) .pass) .pass) (.seq (.ifs (.tst (.prim (.cmp .Eq) (.cons (.var 2) (.cons (.lit (.str "strike")) .nil)))) (.seq (.ret (.call 182 (.cons (.var 0) (.cons (.prim .ix (.cons (.var 1) (.cons (.lit (.int 1)) .nil))) (.cons (.prim .ix (.cons (.var 1) (.cons (.lit (.int 2)) .nil))) .nil))))) .pass) .pass) (.seq (.ifs (.or_ (.not_ (.tst (.chain .LtE .LtE (.lit (.int 1)) (.prim .ix (.cons (.var 1) (.cons (.lit (.int 1)) .nil))) (.lit (.int 9999))))) (.tst (.prim (.cmp .LtE) (.cons (.prim .ix (.cons (.var 1) (.cons (.lit (.int 1)) .nil))) (.cons (.prim .ix (.cons (.var 0) (.cons (.lit (.str "year")) .nil))) .nil))))) (.seq (.ret (.prim .tup (.cons (.lit (.str "BadYear")) (.cons (.lit .non) .nil)))) .pass) .pass) (.seq (.setix (.var 0) (.lit (.str "year")) (.prim .ix (.cons (.var 1) (.cons (.lit (.int 1)) .nil)))) (.seq (.ret (.prim .tup (.cons (.lit (.str "")) (.cons (.lit .non) .nil)))) .pass)))))))))⟩
noncomputable def Z5:MDef:=⟨2,3,(.seq (.set 2 (.prim .ix (.cons (.var 1) (.cons (.lit (.int 0)) .nil)))) (.seq (.ifs (.tst (.prim (.cmp .Eq) (.cons (.var 2) (.cons (.lit (.str "cut")) .nil)))) (.seq (.ret (.methc "cut" [("Mint",54)] (.var 0) (.cons (.prim .ix (.cons (.var 1) (.cons (.lit (.int 1)) .nil))) .nil))) .pass) .pass) (.seq (.ifs (.tst (.prim (.cmp .Eq) (.cons (.var 2) (.cons (.lit (.str "fix")) .nil)))) (.seq (.ret (.methc "fix" [("Mint",55)] (.var 0) (.cons (.prim .ix (.cons (.var 1) (.cons (.lit (.int 1)) .nil))) .nil))) .pass) .pass) (.seq (.ifs (.tst (.prim (.cmp .Eq) (.cons (.var 2) (.cons (.lit (.str "off")) .nil)))) (.seq (.ret (.methc "lay_off" [("Mint",56)] (.var 0) (.cons (.prim .ix (.cons (.var 1) (.cons (.lit (.int 1)) .nil))) .nil))) .pass) .pass) (.seq (.ifs (.tst (.prim (.cmp .Eq) (.cons (.var 2) (.cons (.lit (.str "mark")) .nil)))) (.seq (.ret (.methc "mark" [("Mint",57)] (.var 0) (.cons (.prim .ix (.cons (.var 1) (.cons (.lit (.int 1)) .nil))) (.cons (.prim .ix (.cons (.var 1) (.cons (.lit (.int 2)) .nil))) (.cons (.prim .ix (.cons (.var 1) (.cons (.lit (.int 3)) .nil))) .nil))))) .pass) .pass) (.seq (.ifs (.tst (.prim (.cmp .Eq) (.cons (.var 2) (.cons (.lit (.str "strike")) .nil)))) (.seq (.ret (.methc "strike" [("Mint",58)] (.var 0) (.cons (.prim .ix (.cons (.var 1) (.cons (.lit (.int 1)) .nil))) (.cons (.prim .ix (.cons (.var 1) (.cons (.lit (.int 2)) .nil))) .nil)))) .pass) .pass) (.seq (.ret (.methc "begin_year" [("Mint",59)] (.var 0) (.cons (.prim .ix (.cons (.var 1) (.cons (.lit (.int 1)) .nil))) .nil))) .pass)))))))⟩
inductive Dd where
 |cut (x:Str)|fix (v:Int)|off (v:Int)|mark (x:Str) (v j:Int)|strike (a b:Int)|year (n:Int)
noncomputable def Dd.d:Dd->D
 |.cut x=>.tup [.str "cut",.str x]
 |.fix v=>.tup [.str "fix",.int v]
 |.off v=>.tup [.str "off",.int v]
 |.mark x v j=>.tup [.str "mark",.str x,.int v,.int j]
 |.strike a b=>.tup [.str "strike",.int a,.int b]
 |.year n=>.tup [.str "year",.int n]
noncomputable def Dd.ok:Dd->Prop
 |.cut x=>PyData.strOk x=true
 |.mark x _ _=>PyData.strOk x=true
 |_=>True
noncomputable def doS(s:MSt):Dd->Rs
 |.cut x=>m8 s x
 |.fix v=>j2 s v
 |.off v=>m5 s v
 |.mark x v j=>d7 s x v j
 |.strike a b=>d5 s a b
 |.year n=>l6 s n
theorem a74{s:MSt}{dd:Dd}(W:WS s):WS (doS s dd).2.2:=by
 cases dd
 ·exact bt7 W
 ·exact bt6 W
 ·exact bt5 W
 ·exact bg3 W
 ·exact aT0 W
 ·exact bg2 W
theorem aY6{s:MSt}{x:Str}{v j:Int}:(d7 s x v j).2.1=.non:=by unfold d7;(repeat' split)<;>rfl
theorem aT2{s:MSt}{n:Int}:(l6 s n).2.1=.non:=by unfold l6;(repeat' split)<;>rfl
noncomputable def aS0:List Str:=["NotFixed","BadSpot","Marked","BadYear","Full","BadSide","NoDie","Fixed","Gone","NoAnvil"]
theorem bf1{s:MSt}{dd:Dd}:(doS s dd).1=""\/((doS s dd).1∈aS0/\(doS s dd).2=(D.non,s)):=by
 cases dd<;>(simp only[doS];first|unfold m8|unfold j2|unfold m5|unfold d7|unfold d5|unfold l6)<;>(repeat' split)<;>first|exact .inl rfl|exact .inr ⟨by simp[aS0],rfl⟩
theorem aC9{s:MSt}{dd:Dd}:i5 (doS s dd).2.1:=by
 cases dd<;>(simp only[doS];first|unfold m8|unfold j2|unfold m5|unfold d7|unfold d5|unfold l6)<;>(repeat' split)<;>first|exact .inl rfl|exact .inr ⟨_,rfl⟩
structure TR(T:Nat->Option MDef):Prop where
 tq:TQ T
 h46:T 46=some aq1
 h178:T 178=some aq0
 h179:T 179=some ap9
 h181:T 181=some Q3
 h182:T 182=some S9
 h183:T 183=some aY9
section
variable{T:Nat->Option MDef}{k d:Nat}{g:G}{Q:KD}{E:KX}{m q:Nat}{s:MSt}{x:Str}{dd:Dd}
theorem aG4{f:Nat}(hT:TQ T)(h184:T f=some Z5)(hm:g[m]?=some (b8 s))(W:WS s)(ho:dd.ok)(h1:(doS s dd).1=""->∀g',Ex g g'->Q (doS s dd).2.1 (g'.set m (b8 (doS s dd).2.2)))(h2:(doS s dd).1≠""->E ⟨(doS s dd).1⟩ g):a9 T (k+6) f [.ref m,dd.d] g Q E:=by
 refine call_of h184 rfl ?_;cases dd<;>dsimp[Z5,b5,List.replicate,Dd.d,doS] at h1 h2 ⊢
 ·walk_at "w5";refine ifT (by decide +kernel) ?_;walk_at "w5";refine e7 hm rfl rfl ?_;walk_at "w5";exact bf4 (k:=k+2) hT hm W ho (fun e=>h1 e g (Ex.refl _)) h2
 ·walk_at "w5";refine ifF (by decide +kernel) ?_;walk_at "w5";refine ifT (by decide +kernel) ?_;walk_at "w5";refine e7 hm rfl rfl ?_;walk_at "w5";exact be8 (k:=k) hT hm W (fun e=>h1 e g (Ex.refl _)) h2
 ·walk_at "w5";refine ifF (by decide +kernel) ?_;walk_at "w5";refine ifF (by decide +kernel) ?_;walk_at "w5";refine ifT (by decide +kernel) ?_;walk_at "w5";refine e7 hm rfl rfl ?_;walk_at "w5";exact bc9 (k:=k) hT hm W (fun e=>h1 e g (Ex.refl _)) h2
 ·walk_at "w5";refine ifF (by decide +kernel) ?_;walk_at "w5";refine ifF (by decide +kernel) ?_;walk_at "w5";refine ifF (by decide +kernel) ?_;walk_at "w5";refine ifT (by decide +kernel) ?_;walk_at "w5";refine e7 hm rfl rfl ?_;walk_at "w5";rw[aY6] at h1;exact aY5 (k:=k) hT hm W ho h1 h2
 ·walk_at "w5";refine ifF (by decide +kernel) ?_;walk_at "w5";refine ifF (by decide +kernel) ?_;walk_at "w5";refine ifF (by decide +kernel) ?_;walk_at "w5";refine ifF (by decide +kernel) ?_;walk_at "w5";refine ifT (by decide +kernel) ?_;walk_at "w5";refine e7 hm rfl rfl ?_;walk_at "w5";exact aE5 (k:=k) hT hm W (fun e=>h1 e g (Ex.refl _)) h2
 ·walk_at "w5";refine ifF (by decide +kernel) ?_;walk_at "w5";refine ifF (by decide +kernel) ?_;walk_at "w5";refine ifF (by decide +kernel) ?_;walk_at "w5";refine ifF (by decide +kernel) ?_;walk_at "w5";refine ifF (by decide +kernel) ?_;walk_at "w5";refine e7 hm rfl rfl ?_;walk_at "w5";rw[aT2] at h1;exact aT1 (k:=k+2) hT hm (fun e=>h1 e g (Ex.refl _)) h2
theorem bd6(hT:TR T)(M0:MD g q s)(W:WS s)(ho:dd.ok)(h:al5 q g (doS s dd) Q):a9 T (k+2) 183 [.ref q,dd.d] g Q E:=by
 refine call_of hT.h183 rfl ?_;cases dd<;>dsimp[aY9,b5,List.replicate,Dd.d,doS] at h ⊢
 ·walk_at "w5";refine ifT (by decide +kernel) ?_;walk_at "w5";exact aY4 (k:=k) hT.h46 M0 W ho h
 ·walk_at "w5";refine ifF (by decide +kernel) ?_;walk_at "w5";refine ifT (by decide +kernel) ?_;walk_at "w5";exact aY3 (k:=k) hT.h178 M0 W h
 ·walk_at "w5";refine ifF (by decide +kernel) ?_;walk_at "w5";refine ifF (by decide +kernel) ?_;walk_at "w5";refine ifT (by decide +kernel) ?_;walk_at "w5";exact aY2 (k:=k) hT.h179 M0 W h
 ·walk_at "w5";refine ifF (by decide +kernel) ?_;walk_at "w5";refine ifF (by decide +kernel) ?_;walk_at "w5";refine ifF (by decide +kernel) ?_;walk_at "w5";refine ifT (by decide +kernel) ?_;walk_at "w5";exact aP2 (k:=k) hT.h181 M0 W ho h
 ·walk_at "w5";refine ifF (by decide +kernel) ?_;walk_at "w5";refine ifF (by decide +kernel) ?_;walk_at "w5";refine ifF (by decide +kernel) ?_;walk_at "w5";refine ifF (by decide +kernel) ?_;walk_at "w5";refine ifT (by decide +kernel) ?_;walk_at "w5";exact ay2 (k:=k) hT.h182 M0 W h
 ·rename_i n;have no:¬(s.yr+1<=n/\n<=9999)->Q (.tup [.str "BadYear",.non]) g:=fun hv=>by
   have e:l6 s n=(("BadYear",.non,s):Rs):=by unfold l6;rw[if_neg hv]
   rw[e] at h;exact h _ Kq.refl M0
  have y0:=W.y0;walk_at "w5";refine ifF (by decide +kernel) ?_;walk_at "w5";refine ifF (by decide +kernel) ?_;walk_at "w5";refine ifF (by decide +kernel) ?_;walk_at "w5";refine ifF (by decide +kernel) ?_;walk_at "w5";refine ifF (by decide +kernel) ?_;walk_at "w5";by_cases h1:1<=n
  ·rw[decide_eq_true h1];walk_at "w5";by_cases h2:n<=9999
   ·rw[decide_eq_true h2];walk_at "w5";refine j0 M0.dic rfl kvY ?_;walk_at "w5";refine if2 (fun c=>?_) (fun c=>?_)
    ·walk_at "w5";exact no (by omega)
    ·have e:l6 s n=(("",.non,{ s with yr:=n }):Rs):=by unfold l6;rw[if_pos (by omega)]
     rw[e] at h;walk_at "w5";refine a46 M0.dic rfl (by simp[mKv]) ?_;have e2:(O.dic (putD (mKv q s.yr) (.inr "year") (.int n)))=.dic (mKv q n):=rfl;rw[e2];walk_at "w5";exact h _ (Kq.set (i:=q) (by omega)) (M0.bF5 n)
   ·rw[decide_eq_false h2];walk_at "w5";exact no (by omega)
  ·rw[decide_eq_false h1];walk_at "w5";exact no (by omega)
theorem aF0{n:Nat}{y:D}(h:i5 y):t8 g n y y:=by
 rcases h with rfl|⟨i,rfl⟩
 ·exact .non
 ·exact .int _
end
noncomputable def W8:MDef:=⟨2,2,(.seq (.ifs (.or_ (.tst (.prim (.cmp .Eq) (.cons (.prim .len (.cons (.var 1) .nil)) (.cons (.lit (.int 0)) .nil)))) (.tst (.prim (.cmp .Eq) (.cons (.call 4 (.cons (.var 0) (.cons (.lit (.int 10)) .nil))) (.cons (.lit (.int 4)) .nil))))) (.seq (.ret (.call 36 (.cons (.var 0) (.cons (.prim (.bin .Add) (.cons (.lit (.int 3)) (.cons (.prim .len (.cons (.var 1) .nil)) .nil))) .nil)))) .pass) .pass) (.seq (.ret (.prim .ix (.cons (.var 1) (.cons (.call 4 (.cons (.var 0) (.cons (.prim .len (.cons (.var 1) .nil)) .nil))) .nil)))) .pass))⟩
noncomputable def E6:MDef:=⟨2,9,(.seq (.set 2 (.call 4 (.cons (.var 0) (.cons (.lit (.int 20)) .nil)))) (.seq (.set 3 (.comp [] 2 (.one 1) (.itE (.prim .ix (.cons (.var 1) (.cons (.lit (.str "seats")) .nil)))) (.tst (.prim (.cmp .IsNot) (.cons (.var 1) (.cons (.lit .non) .nil)))) (.var 1))) (.seq (.set 4 (.comp [3] 3 (.one 2) (.itR2 (.lit (.int 1)) (.prim (.bin .Add) (.cons (.prim .len (.cons (.prim .ix (.cons (.var 1) (.cons (.lit (.str "lower")) .nil))) .nil)) (.cons (.lit (.int 1)) .nil)))) (.tst (.prim (.cmp .NotIn) (.cons (.var 2) (.cons (.var 0) .nil)))) (.var 2))) (.seq (.set 5 (.prim .lrng2 (.cons (.lit (.int 1)) (.cons (.prim (.bin .Add) (.cons (.prim .len (.cons (.prim .ix (.cons (.var 1) (.cons (.lit (.str "upper")) .nil))) .nil)) (.cons (.lit (.int 1)) .nil))) .nil)))) (.seq (.ifs (.or_ (.tst (.prim (.cmp .Lt) (.cons (.var 2) (.cons (.lit (.int 2)) .nil)))) (.and_ (.tst (.prim (.cmp .Eq) (.cons (.prim .len (.cons (.var 5) .nil)) (.cons (.lit (.int 0)) .nil)))) (.tst (.prim (.cmp .Lt) (.cons (.var 2) (.cons (.lit (.int 6)) .nil)))))) (.seq (.ret (.prim .tup (.cons (.lit (.str "cut")) (.cons (.ite (.tst (.prim (.cmp .Eq) (.cons (.prim .len (.cons (.var 5) .nil)) (.cons (.lit (.int 0)) .nil)))) (.lit (.str "upper")) (.call 29 (.cons (.var 0) .nil))) .nil)))) .pass) .pass) (.seq (.ifs (.or_ (.tst (.prim (.cmp .Lt) (.cons (.var 2) (.cons (.lit (.int 5)) .nil)))) (.tst (.prim (.cmp .Eq) (.cons (.prim .len (.cons (.var 3) .nil)) (.cons (.lit (.int 0)) .nil))))) (.seq (.ifs (.or_ (.tst (.prim (.cmp .Eq) (.cons (.prim .len (.cons (.var 4) .nil)) (.cons (.lit (.int 0)) .nil)))) (.tst (.prim (.cmp .Eq) (.cons (.call 4 (.cons (.var 0) (.cons (.lit (.int 4)) .nil))) (.cons (.lit (.int 0)) .nil))))) (.seq (.ret (.prim .tup (.cons (.lit (.str "cut")) (.cons (.lit (.str "lower")) .nil)))) .pass) .pass) (.seq (.ret (.prim .tup (.cons (.lit (.str "fix")) (.cons (.call 37 (.cons (.var 0) (.cons (.prim (.bin .Add) (.cons (.var 4) (.cons (.prim (.bin .Mult) (.cons (.var 3) (.cons (.prim .int (.cons (.prim (.cmp .Eq) (.cons (.call 4 (.cons (.var 0) (.cons (.lit (.int 5)) .nil))) (.cons (.lit (.int 0)) .nil))) .nil)) .nil))) .nil))) .nil))) .nil)))) .pass)) .pass) (.seq (.ifs (.tst (.prim (.cmp .Lt) (.cons (.var 2) (.cons (.lit (.int 6)) .nil)))) (.seq (.ret (.prim .tup (.cons (.lit (.str "off")) (.cons (.call 37 (.cons (.var 0) (.cons (.var 3) .nil))) .nil)))) .pass) .pass) (.seq (.ifs (.tst (.prim (.cmp .Lt) (.cons (.var 2) (.cons (.lit (.int 10)) .nil)))) (.seq (.set 6 (.call 29 (.cons (.var 0) .nil))) (.seq (.ret (.prim .tup (.cons (.lit (.str "mark")) (.cons (.var 6) (.cons (.call 37 (.cons (.var 0) (.cons (.ite (.tst (.prim (.cmp .Eq) (.cons (.var 6) (.cons (.lit (.str "lower")) .nil)))) (.var 3) (.var 5)) .nil))) (.cons (.prim (.bin .Sub) (.cons (.call 4 (.cons (.var 0) (.cons (.lit (.int 10)) .nil))) (.cons (.lit (.int 1)) .nil))) .nil)))))) .pass)) .pass) (.seq (.ifs (.tst (.prim (.cmp .Lt) (.cons (.var 2) (.cons (.lit (.int 18)) .nil)))) (.seq (.ret (.prim .tup (.cons (.lit (.str "strike")) (.cons (.call 37 (.cons (.var 0) (.cons (.var 3) .nil))) (.cons (.call 37 (.cons (.var 0) (.cons (.var 5) .nil))) .nil))))) .pass) .pass) (.seq (.set 7 (.prim .ix (.cons (.var 1) (.cons (.lit (.str "year")) .nil)))) (.seq (.set 8 (.prim .lst (.cons (.prim (.bin .Add) (.cons (.var 7) (.cons (.lit (.int 1)) .nil))) (.cons (.prim (.bin .Add) (.cons (.var 7) (.cons (.lit (.int 7)) .nil))) (.cons (.prim (.bin .Add) (.cons (.var 7) (.cons (.lit (.int 1)) .nil))) (.cons (.var 7) (.cons (.prim (.bin .Sub) (.cons (.var 7) (.cons (.lit (.int 3)) .nil))) (.cons (.lit (.int 1350)) (.cons (.lit (.int 1412)) (.cons (.lit (.int 9999)) (.cons (.lit (.int 10000)) (.cons (.call 5 (.cons (.var 0) .nil)) .nil)))))))))))) (.seq (.ret (.prim .tup (.cons (.lit (.str "year")) (.cons (.prim .ix (.cons (.var 8) (.cons (.call 4 (.cons (.var 0) (.cons (.lit (.int 10)) .nil))) .nil))) .nil)))) .pass))))))))))))⟩
theorem aV7{a:Int}{n:Nat}:∃ns:List Int,n0 a n=ns.map .int/\ns.length=n:=⟨(List.range n).map fun k:Nat=>a+k,by unfold n0;rw[List.map_map];rfl,by simp⟩
structure TV(T:Nat->Option MDef):Prop where
 h4:T 4=some E3
 h5:T 5=some ad6
 h29:T 29=some ap6
 h36:T 36=some ap8
 h37:T 37=some W8
 h188:T 188=some E6
section
variable{T:Nat->Option MDef}{k d:Nat}{g:G}{Q:KD}{E:KX}{m q:Nat}{s:MSt}{x:Str}
theorem at8(h4:T 4=some E3)(h5:T 5=some ad6)(h36:T 36=some ap8){j:Int}(hj:0<=j/\j<=1000)(D0:d6 g d)(h:∀(v:Int) g',d6 g' d->Gr d g g'->Q (.int v) g'):a9 T (k+3) 36 [.ref d,.int j] g Q E:=by
 refine call_of h36 rfl ?_;dsimp[ap8,b5,List.replicate];walk_at "w5";refine i4 h4 D0 (by decide) (by decide) fun r g1 _ _ D1 G1=>?_;walk_at "w5";refine if2 (fun _=>?_) (fun _=>?_)
 ·walk_at "w5";exact aR6 h4 h5 D1 fun f g2 D2 G2=>h _ _ D2 (G1.trans G2)
 ·walk_at "w5";refine i4 h4 D1 (by omega) (by omega) fun r g2 _ _ D2 G2=>?_;walk_at "w5";exact h _ _ D2 (G1.trans G2)
theorem B4(hT:TV T){i:Nat}{ns:List Int}(hi:g[i]?=some (.lst (ns.map .int)))(hd:d<i)(hz:ns.length<=900)(D0:d6 g d)(h:∀(v:Int) g',d6 g' d->Gr d g g'->Q (.int v) g'):a9 T (k+4) 37 [.ref d,.ref i] g Q E:=by
 refine call_of hT.h37 rfl ?_;dsimp[W8,b5,List.replicate];walk_at "w5";rw[List.length_map];refine if2 (fun c=>?_) (fun c=>?_)
 ·walk_at "w5";refine at8 (k:=k) hT.h4 hT.h5 hT.h36 (by rw[List.length_map];omega) D0 fun v g2 D2 G2=>?_;exact h v g2 D2 G2
 ·walk_at "w5";refine i4 hT.h4 D0 (by decide) (by decide) fun r g1 _ _ D1 G1=>?_;have hi1:=G1.at (by omega) hi;walk_at "w5";refine if2 (fun _=>?_) (fun _=>?_)
  ·walk_at "w5";refine at8 (k:=k) hT.h4 hT.h5 hT.h36 (by rw[List.length_map];omega) D1 fun v g2 D2 G2=>?_;exact h v g2 D2 (G1.trans G2)
  ·walk_at "w5";rw[List.length_map];refine i4 hT.h4 D1 (by omega) (by omega) fun r2 g2 r0 r1 D2 G2=>?_;obtain⟨y,hy,hm⟩:=M9 (l:=ns.map D.int) r0 (by rw[List.length_map];exact r1);obtain⟨v,_,rfl⟩:=List.mem_map.mp hm;refine D7 (a7 (G2.at (by omega) hi1)) hy ?_;walk_at "w5";exact h v g2 D2 (G1.trans G2)
noncomputable abbrev aP9:MS:=match E6.body with|.seq _ (.seq _ (.seq _ (.seq _ (.seq (.ifs _ a _) _))))=>a|x=>x
noncomputable abbrev L8:MS:=match E6.body with|.seq _ (.seq _ (.seq _ (.seq _ (.seq _ b))))=>b|x=>x
noncomputable abbrev aP8:MS:=match L8 with|.seq _ c=>c|x=>x
noncomputable abbrev ag1:MS:=match L8 with|.seq (.ifs _ i _) _=>i|x=>x
noncomputable abbrev aP7:MS:=match ag1 with|.seq _ j=>j|x=>x
structure DC(g:G)(d q o p u:Nat)(s:MSt)(on idl ups:List Int):Prop where
 dr:d6 g d
 md:MD g q s
 ho:g[o]?=some (.lst (on.map .int))
 hp:g[p]?=some (.lst (idl.map .int))
 hu:g[u]?=some (.lst (ups.map .int))
 dq:d<q
 lo:d<o
 lp:d<p
 lu:d<u
 n1:on.length<=9
 n2:idl.length<=99
 n3:ups.length<=99
theorem DC.gr{g':G}{o p u:Nat}{on idl ups:List Int}(h:DC g d q o p u s on idl ups)(x:Gr d g g')(D:d6 g' d):DC g' d q o p u s on idl ups:=by
 have h1:=h.lo;have h2:=h.lp;have h3:=h.lu;exact⟨D,h.md.gr x h.dq,x.at (by omega) h.ho,x.at (by omega) h.hp,x.at (by omega) h.hu,h.dq,h1,h2,h3,h.n1,h.n2,h.n3⟩
theorem a65(hT:TV T){o p u:Nat}{on idl ups:List Int}{r:Int}(C:DC g d q o p u s on idl ups){N:Ends}(hN:N.rt=Q)(h:∀(dd:Dd) g',dd.ok->d6 g' d->Gr d g g'->Q dd.d g') :
  wpS (a9 T (k+4)) aP9 N [some (.ref d),some (.ref q),some (.int r),some (.ref o),some (.ref p),some (.ref u),none,none,none] g E:=by
 dsimp[aP9,E6];walk_at "w5";refine o6 (a7 C.hu) ?_;walk_at "w5";refine if2 (fun c=>?_) (fun c=>?_)
 ·walk_at "w5";rw[hN];exact h (.cut "upper") _ (by show PyData.strOk _=true;decide +kernel) C.dr (Gr.refl _ _)
 ·walk_at "w5";refine aA0 (k:=k+2) hT.h4 hT.h29 C.dr fun x g1 ho D1 G1=>?_;walk_at "w5";rw[hN];exact h (.cut x) _ ho D1 G1
theorem bB0(hT:TV T){o p u:Nat}{on idl ups:List Int}{r:Int}(C:DC g d q o p u s on idl ups){N:Ends}(hN:N.rt=Q)(h:∀(dd:Dd) g',dd.ok->d6 g' d->Gr d g g'->Q dd.d g') :
  wpS (a9 T (k+4)) aP7 N [some (.ref d),some (.ref q),some (.int r),some (.ref o),some (.ref p),some (.ref u),none,none,none] g E:=by
 have n1:=C.n1;have n2:=C.n2;dsimp[aP7,ag1,L8,E6];walk_at "w5";refine i4 hT.h4 C.dr (by decide) (by decide) fun r1 g1 _ _ D1 G1=>?_;have C1:=C.gr G1 D1;walk_at "w5";obtain⟨w,hw,hw1⟩:∃w:Int,(if decide (r1=0)=true then(1:Int) else 0)=w/\(w=0\/w=1):=by
  refine⟨_,rfl,?_⟩;split
  ·exact .inr rfl
  ·exact .inl rfl
 rw[hw];obtain⟨ns,en,hnl⟩:∃ns:List Int,(List.replicate w.toNat (on.map D.int)).flatten=ns.map .int/\ns.length<=9:=by
  rcases hw1 with rfl|rfl
  ·exact⟨[],rfl,by simp⟩
  ·exact⟨on,by show(List.replicate 1 _).flatten=_;simp,n1⟩
 refine a70 C1.ho (by omega) (by omega) (by rw[List.length_map];rcases hw1 with rfl|rfl<;>(simp;try omega)) ?_;rw[en];have e2:Ex g1 (g1++[O.lst (ns.map .int)]):=Ex.snoc _ _;have D2:=D1.snoc (O.lst (ns.map .int));have C2:=C1.gr (e2.gr d) D2;refine bC8 C2.hp c5 (by simp;omega) ?_;have l2:d<(g1++[O.lst (ns.map .int)]).length:=D2.lt;have x2:=G1.trans (e2.gr d);generalize g1++[O.lst (ns.map .int)]=g2 at *;have D3:=D2.snoc (O.lst (idl.map .int++ns.map .int));have e3:Ex g2 (g2++[O.lst (idl.map .int++ns.map .int)]):=Ex.snoc _ _;have h3:(g2++[O.lst (idl.map .int++ns.map .int)])[g2.length]?=some (.lst ((idl++ns).map .int)):=by rw[List.map_append];exact c5
 generalize g2++[O.lst (idl.map .int++ns.map .int)]=g3 at *;walk_at "w5";refine B4 (k:=k) hT h3 l2 (by simp;omega) D3 fun v g4 D4 G4=>?_;walk_at "w5";rw[hN];exact h (.fix v) _ trivial D4 (x2.trans ((e3.gr d).trans G4))
theorem a63(hT:TV T){o p u:Nat}{on idl ups:List Int}{r:Int}(C:DC g d q o p u s on idl ups){N:Ends}(hN:N.rt=Q)(h:∀(dd:Dd) g',dd.ok->d6 g' d->Gr d g g'->Q dd.d g') :
  wpS (a9 T (k+4)) ag1 N [some (.ref d),some (.ref q),some (.int r),some (.ref o),some (.ref p),some (.ref u),none,none,none] g E:=by
 have lw:∀g',d6 g' d->Gr d g g'->Q (.tup [.str "cut",.str "lower"]) g':=fun g' D G=>h (.cut "lower") g' (by show PyData.strOk _=true;decide +kernel) D G;dsimp[ag1,L8,E6];walk_at "w5";refine o6 (a7 C.hp) ?_;walk_at "w5";refine if2 (fun c=>?_) (fun c=>?_)
 ·walk_at "w5";rw[hN];exact lw _ C.dr (Gr.refl _ _)
 ·walk_at "w5";refine i4 hT.h4 C.dr (by decide) (by decide) fun r1 g1 _ _ D1 G1=>?_;walk_at "w5";refine if2 (fun c=>?_) (fun c=>?_)
  ·walk_at "w5";rw[hN];exact lw _ D1 G1
  ·try with_reducible refine w5 ?_
   exact bB0 hT (C.gr G1 D1) hN fun dd g' ok D G=>h dd g' ok D (G1.trans G)
theorem bB1(hT:TV T){o p u:Nat}{on idl ups:List Int}{r:Int}(C:DC g d q o p u s on idl ups){N:Ends}(hN:N.rt=Q)(h:∀(dd:Dd) g',dd.ok->d6 g' d->Gr d g g'->Q dd.d g') :
  wpS (a9 T (k+4)) aP8 N [some (.ref d),some (.ref q),some (.int r),some (.ref o),some (.ref p),some (.ref u),none,none,none] g E:=by
 have n1:=C.n1;have n3:=C.n3;dsimp[aP8,L8,E6];walk_at "w5";refine if2 (fun c=>?_) (fun c=>?_)
 ·walk_at "w5";refine B4 (k:=k) hT C.ho C.lo (by omega) C.dr fun v g1 D1 G1=>?_;walk_at "w5";rw[hN];exact h (.off v) _ trivial D1 G1
 ·walk_at "w5";refine if2 (fun c=>?_) (fun c=>?_)
  ·walk_at "w5";refine aA0 (k:=k+2) hT.h4 hT.h29 C.dr fun x g1 ho D1 G1=>?_;have C1:=C.gr G1 D1;have fin:∀(i:Nat) (ns:List Int) (Q':KD) (E':KX),g1[i]?=some (.lst (ns.map .int))->d<i->ns.length<=99->(∀v g2,d6 g2 d->Gr d g g2->Q' (.int v) g2)->a9 T (k+4) 37 [.ref d,.ref i] g1 Q' E':=fun i ns Q' E' hi hd hz q=>B4 (k:=k) hT hi hd (by omega) D1 fun v g2 D2 G2=>q v g2 D2 (G1.trans G2);walk_at "w5";refine if2 (fun c=>?_) (fun c=>?_)
   ·walk_at "w5";refine fin _ _ _ _ C1.ho C1.lo (by omega) fun v g2 D2 G2=>?_;walk_at "w5";refine i4 hT.h4 D2 (by decide) (by decide) fun r3 g3 _ _ D3 G3=>?_;walk_at "w5";rw[hN];exact h (.mark x v (r3-1)) _ ho D3 (G2.trans G3)
   ·walk_at "w5";refine fin _ _ _ _ C1.hu C1.lu (by omega) fun v g2 D2 G2=>?_;walk_at "w5";refine i4 hT.h4 D2 (by decide) (by decide) fun r3 g3 _ _ D3 G3=>?_;walk_at "w5";rw[hN];exact h (.mark x v (r3-1)) _ ho D3 (G2.trans G3)
  ·walk_at "w5";refine if2 (fun c=>?_) (fun c=>?_)
   ·walk_at "w5";refine B4 (k:=k) hT C.ho C.lo (by omega) C.dr fun v g1 D1 G1=>?_;have C1:=C.gr G1 D1;walk_at "w5";refine B4 (k:=k) hT C1.hu C1.lu (by omega) D1 fun w g2 D2 G2=>?_;walk_at "w5";rw[hN];exact h (.strike v w) _ trivial D2 (G1.trans G2)
   ·walk_at "w5";refine j0 C.md.dic rfl kvY ?_;walk_at "w5";refine aR6 hT.h4 hT.h5 C.dr fun f g1 D1 G1=>?_;walk_at "w5";have e2:∀l:List Int,Ex g1 (g1++[O.lst (l.map .int)]):=fun l=>Ex.snoc _ _;obtain⟨l,el,hl⟩:∃l:List Int,[D.int (s.yr+1),.int (s.yr+7),.int (s.yr+1),.int s.yr,.int (s.yr-3),.int 1350,.int 1412,.int 9999,.int 10000,.int f]=l.map .int/\l.length=10:=⟨[s.yr+1,s.yr+7,s.yr+1,s.yr,s.yr-3,1350,1412,9999,10000,f],rfl,rfl⟩
    rw[el];refine i4 hT.h4 (D1.snoc _) (by decide) (by decide) fun r3 g3 r30 r31 D3 G3=>?_;have h3:=G3.at (i:=g1.length) (by have:=D1.lt;omega) (o:=.lst (l.map .int)) c5;obtain⟨y,hy,hm⟩:=M9 (l:=l.map D.int) r30 (by rw[List.length_map,hl];exact r31);obtain⟨n,_,rfl⟩:=List.mem_map.mp hm;refine D7 (a7 h3) hy ?_;walk_at "w5";rw[hN];exact h (.year n) _ trivial D3 ((G1.trans (Gr.snoc _ _ _)).trans G3)
theorem a64(hT:TV T){o p u:Nat}{on idl ups:List Int}{r:Int}(C:DC g d q o p u s on idl ups){N:Ends}(hN:N.rt=Q)(h:∀(dd:Dd) g',dd.ok->d6 g' d->Gr d g g'->Q dd.d g') :
  wpS (a9 T (k+4)) L8 N [some (.ref d),some (.ref q),some (.int r),some (.ref o),some (.ref p),some (.ref u),none,none,none] g E:=by
 dsimp[L8,E6];walk_at "w5";refine if2 (fun c=>?_) (fun c=>?_)
 ·try refine ift ?_
  exact a63 hT C hN h
 ·walk_at "w5";refine o6 (a7 C.ho) ?_;walk_at "w5";refine if2 (fun c=>?_) (fun c=>?_)
  ·exact a63 hT C hN h
  ·try with_reducible refine w5 ?_
   exact bB1 hT C hN h
theorem bf2(hT:TV T)(M0:MD g q s)(W:WS s)(D0:d6 g d)(hdq:d<q)(h:∀(dd:Dd) g',dd.ok->d6 g' d->Gr d g g'->Q dd.d g'):a9 T (k+5) 188 [.ref d,.ref q] g Q E:=by
 have ln:=W.ln;have un:=W.un;have bn:=W.bn;refine call_of hT.h188 rfl ?_;dsimp[E6,b5,List.replicate];walk_at "w5";refine i4 hT.h4 D0 (by decide) (by decide) fun r g1 r0 r1 D1 G1=>?_;have M1:=M0.gr G1 hdq;walk_at "w5";refine P2 (c9 T _) (i_l (c9 T _) ?_);walk_at "w5";refine j0 M1.dic rfl kvS ?_;refine⟨q+2,_,rfl,a7 M1.seats,s.bl,fun i ys σ g'=>∃ns:List Int,ys=ns.map .int/\ns.length<=i/\g'=g1/\∃z0 z1,σ=[z0,z1],by omega,fun i ys σ g' p=>?_,⟨[],rfl,by simp,rfl,none,none,rfl⟩,fun i y ys σ g' hy p=>?_,fun ys σ g' p=>?_⟩
 ·obtain⟨ns,rfl,h1,rfl,_⟩:=p;exact⟨X8 (a7 M1.seats),by rw[List.length_map];exact h1⟩
 ·obtain⟨ns,rfl,h1,rfl,z0,z1,rfl⟩:=p;refine A1 ?_
  try show wpT _ _ _ _ _ _
  rcases W.se y (List.mem_of_getElem? hy) with rfl|⟨v,rfl⟩
  ·walk_at "w5";exact⟨ns,rfl,by omega,rfl,_,_,rfl⟩
  ·walk_at "w5";exact⟨ns++[v],by rw[List.map_append];rfl,by rw[List.length_append];simp;omega,rfl,_,_,rfl⟩
 obtain⟨on,rfl,hon,rfl,_⟩:=p;have G2:=G1.trans (Gr.snoc d g' (O.lst (on.map .int)));have D2:=D1.snoc (O.lst (on.map .int));have M2:=M1.ex (Ex.snoc _ (O.lst (on.map .int)));have a2:(g'++[O.lst (on.map .int)])[g'.length]?=some (.lst (on.map .int)):=c5;have l2:d<g'.length:=D1.lt;generalize g'.length=o at *;generalize g'++[O.lst (on.map .int)]=g2 at *;clear M1 D1 G1;walk_at "w5";refine P2 (c9 T _) (bI9 (c9 T _) ?_);walk_at "w5";refine j0 M2.dic rfl kvL ?_;refine o6 (a7 M2.lower) ?_;walk_at "w5";rw[List.length_map];refine⟨1,(s.lo.length:Int)+1,rfl,rfl,by omega,n0 1 s.lo.length,fun i ys σ g3=>∃ns:List Int,ys=ns.map .int/\ns.length<=i/\g3=g2/\∃z1 z2,σ=[some (.ref o),z1,z2],by rw[P5];omega,fun i ys σ g3 p=>?_,⟨[],rfl,by simp,rfl,none,none,rfl⟩,fun i y ys σ g3 hy p=>?_,fun ys σ g3 p=>?_⟩
 ·obtain⟨ns,rfl,h1,rfl,_⟩:=p;rw[show((s.lo.length:Int)+1-1).toNat=s.lo.length by omega];exact⟨X9,by rw[List.length_map];exact h1⟩
 ·obtain⟨ns,rfl,h1,rfl,z1,z2,rfl⟩:=p;obtain⟨hi,rfl⟩:=Z0 hy;refine A1 ?_
  try show wpT _ _ _ _ _ _
  walk_at "w5";refine J6 (aa1 (l:=on) (a7 a2) ?_);walk_at "w5";by_cases hm:(1+(i:Int))∈on
  ·rw[decide_eq_true hm];refine Y0 ?_;exact⟨ns,rfl,by omega,rfl,_,_,rfl⟩
  ·rw[decide_eq_false hm];refine ift ?_;walk_at "w5";exact⟨ns++[1+(i:Int)],by rw[List.map_append];rfl,by rw[List.length_append];simp;omega,rfl,_,_,rfl⟩
 obtain⟨idl,rfl,hidl,rfl,_⟩:=p;rw[P5] at hidl;have G3:=G2.trans (Gr.snoc d g3 (O.lst (idl.map .int)));have D3:=D2.snoc (O.lst (idl.map .int));have M3:=M2.ex (Ex.snoc _ (O.lst (idl.map .int)));have a3:(g3++[O.lst (idl.map .int)])[o]?=some (.lst (on.map .int)):=(Ex.snoc _ _).at a2;have b3:(g3++[O.lst (idl.map .int)])[g3.length]?=some (.lst (idl.map .int)):=c5;have l3:d<g3.length:=D2.lt;generalize g3.length=p at *;generalize g3++[O.lst (idl.map .int)]=g4 at *;clear M2 D2 G2 a2;walk_at "w5";refine j0 M3.dic rfl kvU ?_;refine o6 (a7 M3.upper) ?_;walk_at "w5";rw[List.length_map];refine lr2 (by omega) ?_;rw[show((s.up.length:Int)+1-1).toNat=s.up.length by omega];obtain⟨ups,eu,hul⟩:=aV7 (a:=1) (n:=s.up.length);rw[eu];have G4:=G3.trans (Gr.snoc d g4 (O.lst (ups.map .int)));have D4:=D3.snoc (O.lst (ups.map .int));have M4:=M3.ex (Ex.snoc _ (O.lst (ups.map .int)));have a4:(g4++[O.lst (ups.map .int)])[o]?=some (.lst (on.map .int)):=(Ex.snoc _ _).at a3;have b4:(g4++[O.lst (ups.map .int)])[p]?=some (.lst (idl.map .int)):=(Ex.snoc _ _).at b3;have c4:(g4++[O.lst (ups.map .int)])[g4.length]?=some (.lst (ups.map .int)):=c5;have l4:d<g4.length:=D3.lt;generalize g4.length=u at *;generalize g4++[O.lst (ups.map .int)]=g5 at *;clear M3 D3 G3 a3 b3;have C:DC g5 d q o p u s on idl ups:=⟨D4,M4,a4,b4,c4,hdq,l2,l3,l4,by omega,by omega,by omega⟩
 have h':∀(dd:Dd) g',dd.ok->d6 g' d->Gr d g5 g'->Q dd.d g':=fun dd g' ok D G=>h dd g' ok D (G4.trans G);walk_at "w5";refine if2 (fun c=>?_) (fun c=>?_)
 ·try refine ift ?_
  exact a65 hT C rfl h'
 ·walk_at "w5";refine if2 (fun c=>?_) (fun c=>?_)
  ·walk_at "w5";refine if2 (fun c=>?_) (fun c=>?_)
   ·exact a65 hT C rfl h'
   ·try with_reducible refine w5 ?_
    exact a64 hT C rfl h'
  ·try refine Y0 ?_
   try with_reducible refine w5 ?_
   exact a64 hT C rfl h'
end
noncomputable def s0(n:Nat):MSt:=⟨List.replicate n .non,[],[],[],0,[]⟩
theorem bt8{n:Nat}(h:n<=9):WS (s0 n):=by
 refine⟨fun z hz=>.inl (List.eq_of_mem_replicate hz),fun i j v hi=>?_,fun v _=>rfl,by unfold s0;simpa using h,by unfold s0;simp,fun v hv=>?_,by unfold s0;simp,by unfold s0;simp,fun l hl=>?_,fun l hl=>?_,Int.le_refl 0,by unfold s0;simp,fun c hc=>?_⟩
 ·have:=List.eq_of_mem_replicate (List.mem_of_getElem? hi);cases this
 ·unfold s0 at hv;simp at hv
 ·unfold s0 at hl;simp at hl
 ·unfold s0 at hl;simp at hl
 ·unfold s0 at hc;simp at hc
section
variable{T:Nat->Option MDef}{k d:Nat}{g:G}{Q:KD}{E:KX}{m n q:Nat}{s:MSt}{x:Str}{dd:Dd}
theorem T6{g l:List O}{i:Nat}:(g++l)[g.length+i]?=l[i]?:=by rw[List.getElem?_append_right (by omega)];congr 1;omega
theorem aP1(h45:T 45=some ag0)(hn:n<=9)(h:∀g',Ex g g'->MD g' g.length (s0 n)->Q (.ref g.length) g'):a9 T (k+1) 45 [.int n] g Q E:=by
 refine call_of h45 rfl ?_;dsimp[ag0,b5,List.replicate];walk_at "w5";refine bu2 ?_;walk_at "w5";refine a70 c5 (by omega) (by omega) (by simp;omega) ?_;walk_at "w5";rw[show(List.replicate (Int.toNat (n:Int)) [D.non]).flatten=List.replicate n .non by rw[Int.toNat_natCast,List.flatten_replicate_singleton]];simp only[List.append_assoc,List.cons_append,List.nil_append,List.length_append,List.length_cons,List.length_nil,Nat.zero_add,Nat.add_assoc,Nat.reduceAdd];have eg:∀(o:O) (r:List O),List.set (g++(O.dic []::r)) g.length o=g++(o::r):=fun o r=>by
  rw[List.set_append_right _ _ (Nat.le_refl _),Nat.sub_self]
  rfl
 refine⟨mKv g.length 0,rfl,by simp,by simp,?_⟩;rw[eg];exact h _ ⟨by simp,fun i hi=>List.getElem?_append_left hi⟩ ⟨by simp[s0],T6,T6,T6,T6,T6⟩
theorem bd5(hT:TM T)(hn:1<=n/\n<=9)(h:Q .non (g++[b8 (s0 n)])):a9 T (k+4) 51 [.ref g.length,.int n] (g++[.ins "Mint" []]) Q E:=by
 refine aC5 (k:=k) hT c5 (fun n' e1 n1 n9=>?_) (fun hv=>absurd ⟨by omega,by omega⟩ hv);obtain rfl:n=n':=by omega
 have es:(g++[O.ins "Mint" []]).set g.length (aG6 n 0 0)=g++[b8 (s0 n)]:=by simp[s0,b8,aG5]
 rw[es];exact h
end
section
variable{T:Nat->Option MDef}{k d:Nat}{g g':G}{Q:KD}{E:KX}{m n q:Nat}{s:MSt}{x:Str}{dd:Dd}
end
noncomputable def Q4:MDef:=⟨1,3,(.seq (.set 1 (.prim .dcopy (.cons (.var 0) .nil))) (.seq (.for_ (.one 2) (.itE (.prim .lst (.cons (.lit (.str "seats")) (.cons (.lit (.str "lower")) (.cons (.lit (.str "upper")) (.cons (.lit (.str "gone")) (.cons (.lit (.str "coins")) .nil))))))) (.seq (.setix (.var 1) (.var 2) (.prim .list (.cons (.prim .ix (.cons (.var 0) (.cons (.var 2) .nil))) .nil))) .pass)) (.seq (.ret (.var 1)) .pass)))⟩
noncomputable def S6:MDef:=⟨2,2,(.seq (.ret (.and_ (.prim (.cmp .Eq) (.cons (.prim (.cmp .Eq) (.cons (.prim .ix (.cons (.var 0) (.cons (.lit (.int 0)) .nil))) (.cons (.lit (.str "")) .nil))) (.cons (.prim (.cmp .Eq) (.cons (.prim .ix (.cons (.var 1) (.cons (.lit (.int 0)) .nil))) (.cons (.lit (.str "")) .nil))) .nil))) (.call 7 (.cons (.prim .ix (.cons (.var 0) (.cons (.lit (.int 1)) .nil))) (.cons (.prim .ix (.cons (.var 1) (.cons (.lit (.int 1)) .nil))) .nil))))) .pass)⟩
noncomputable def N5:MDef:=⟨1,2,(.seq (.set 1 (.make "Mint" 51 (.cons (.prim .len (.cons (.prim (.fld "bench") (.cons (.var 0) .nil)) .nil)) .nil))) (.seq (.setf "bench" ["Mint"] (.var 1) (.prim (.fld "bench") (.cons (.var 0) .nil))) (.seq (.setf "laid_off" ["Mint"] (.var 1) (.prim (.fld "laid_off") (.cons (.var 0) .nil))) (.seq (.setf "lower_wear" ["Mint"] (.var 1) (.prim (.fld "lower_wear") (.cons (.var 0) .nil))) (.seq (.setf "upper_wear" ["Mint"] (.var 1) (.prim (.fld "upper_wear") (.cons (.var 0) .nil))) (.seq (.setf "present" ["Mint"] (.var 1) (.prim (.fld "present") (.cons (.var 0) .nil))) (.seq (.setf "output" ["Mint"] (.var 1) (.prim (.fld "output") (.cons (.var 0) .nil))) (.seq (.ret (.var 1)) .pass))))))))⟩
section
variable{T:Nat->Option MDef}{k d:Nat}{g g':G}{Q:KD}{E:KX}{m n q c:Nat}{s:MSt}{dd:Dd}
theorem a61:(doS s dd).2.2.bl.length=s.bl.length:=by
 cases dd<;>(simp only[doS];first|unfold m8|unfold j2|unfold m5|unfold d7|unfold d5|unfold l6)<;>(repeat' split)<;>first|rfl|(simp;done)|(unfold MSt.put;split<;>rfl)
theorem a81(hT:TQ T)(h68:T 68=some N5)(hm:g[m]?=some (b8 s))(hb:1<=s.bl.length/\s.bl.length<=9)(h:Q (.ref g.length) (g++[b8 s])):a9 T (k+5) 68 [.ref m] g Q E:=by
 refine call_of h68 rfl ?_;dsimp[N5,b5,List.replicate];walk_at "w5";refine i7 hm rfl ?_;walk_at "w5";refine bd5 (k:=k) hT.tm hb ?_;refine⟨rfl,?_⟩;have e1:Ex g (g++[b8 (s0 s.bl.length)]):=Ex.snoc _ _;have m1:=e1.at hm;have n1:(g++[b8 (s0 s.bl.length)])[g.length]?=some (b8 (s0 s.bl.length)):=c5;have ne:m≠g.length:=Nat.ne_of_lt (d0 hm);have fin:(g++[b8 (s0 s.bl.length)]).set g.length (b8 s)=g++[b8 s]:=by simp
 generalize g++[b8 (s0 s.bl.length)]=g1 at *;have m2:∀o:O,(g1.set g.length o)[m]?=some (b8 s):=fun o=>a6 m1 (Ne.symm ne);walk_at "w5";refine i7 m1 rfl ?_;walk_at "w5";refine l7 n1 (by simp) (by simp) ?_;walk_at "w5";refine i7 (m2 _) rfl ?_;walk_at "w5";refine l7 (get_set n1) (by simp) (by repeat (first|(simp;done)|refine w9 ?_)) ?_;rw[List.set_set];walk_at "w5";refine i7 (m2 _) rfl ?_;walk_at "w5";refine l7 (get_set n1) (by simp) (by repeat (first|(simp;done)|refine w9 ?_)) ?_;rw[List.set_set];walk_at "w5";refine i7 (m2 _) rfl ?_;walk_at "w5";refine l7 (get_set n1) (by simp) (by repeat (first|(simp;done)|refine w9 ?_)) ?_;rw[List.set_set];walk_at "w5";refine i7 (m2 _) rfl ?_;walk_at "w5";refine l7 (get_set n1) (by simp) (by repeat (first|(simp;done)|refine w9 ?_)) ?_;rw[List.set_set];walk_at "w5";refine i7 (m2 _) rfl ?_;walk_at "w5";refine l7 (get_set n1) (by simp) (by repeat (first|(simp;done)|refine w9 ?_)) ?_;rw[List.set_set];walk_at "w5";have e2:(O.ins "Mint" [("bench",.tup s.bl),("laid_off",.tup (s.go.map .int)),("lower_wear",.tup (mks s.lo)),("upper_wear",.tup (mks s.up)),("present",.int s.yr),("output",.tup s.co)])=b8 s:=rfl;have:=h;rw[<- fin] at this;exact this
theorem bf5(h192:T 192=some Q4)(M0:MD g q s)(h:∀g',Ex g g'->MD g' g.length s->Q (.ref g.length) g'):a9 T (k+1) 192 [.ref q] g Q E:=by
 refine call_of h192 rfl ?_;dsimp[Q4,b5,List.replicate];walk_at "w5";refine bc2 M0.dic ?_;walk_at "w5";refine ap2 (c9 T _) (i_l (c9 T _) ?_);walk_at "w5";have e0:Ex g (g++[O.dic (mKv q s.yr)]++[O.lst [.str "seats",.str "lower",.str "upper",.str "gone",.str "coins"]]):=(Ex.snoc _ _).trans (Ex.snoc _ _);have hw:(g++[O.dic (mKv q s.yr)]++[O.lst [.str "seats",.str "lower",.str "upper",.str "gone",.str "coins"]])[g.length+1]?=some (.lst [.str "seats",.str "lower",.str "upper",.str "gone",.str "coins"]):=by simp
 have hd:(g++[O.dic (mKv q s.yr)]++[O.lst [.str "seats",.str "lower",.str "upper",.str "gone",.str "coins"]])[g.length]?=some (.dic (mKv q s.yr)):=by simp
 have hl:(g++[O.dic (mKv q s.yr)]).length=g.length+1:=by simp
 have hl2:(g++[O.dic (mKv q s.yr)]++[O.lst [.str "seats",.str "lower",.str "upper",.str "gone",.str "coins"]]).length=g.length+2:=by simp
 rw[hl];generalize g++[O.dic (mKv q s.yr)]++[O.lst [.str "seats",.str "lower",.str "upper",.str "gone",.str "coins"]]=g1 at *;have ql:q+6<g.length:=d0 M0.coins;refine ⟨g.length + 1,_,rfl,a7 hw,[.str "seats",.str "lower",.str "upper",.str "gone",.str "coins"],fun i σ g'=>∃ z2,σ=[some (.ref q),some (.ref g.length),z2]/\g'.length=g.length + 2 + i/\(∀ j,j < g.length->g'[j]?=g[j]?)/\g'[g.length + 1]?=some (.lst [.str "seats",.str "lower",.str "upper",.str "gone",.str "coins"]) /\
   g'[g.length]?=some (.dic [(.inr "seats",.ref (if 0<i then g.length+2 else q+2)),(.inr "lower",.ref (if 1<i then g.length+3 else q+3)),(.inr "upper",.ref (if 2<i then g.length+4 else q+4)),(.inr "gone",.ref (if 3<i then g.length+5 else q+5)),(.inr "year",.int s.yr),(.inr "coins",.ref (if 4<i then g.length+6 else q+6))]) /\
   (0<i->g'[g.length+2]?=some (.lst s.bl))/\(1<i->g'[g.length+3]?=some (.lst (mks s.lo)))/\(2<i->g'[g.length+4]?=some (.lst (mks s.up)))/\(3<i->g'[g.length+5]?=some (.lst (s.go.map .int)))/\(4<i->g'[g.length+6]?=some (.lst s.co)),
  fun i σ g' p=>X8 (a7 p.choose_spec.2.2.2.1),⟨none,rfl,by omega,fun j hj=>e0.old j hj,hw,hd,fun z=>absurd z (by omega),fun z=>absurd z (by omega),fun z=>absurd z (by omega),fun z=>absurd z (by omega),fun z=>absurd z (by omega)⟩,fun i y σ g' hy p=>?_,fun σ g' p=>?_⟩
 ·obtain⟨z2,rfl,gl,old,gw,gd,c0,c1,c2,c3,c4⟩:=p;have hq:g'[q]?=some (.dic (mKv q s.yr)):=by rw[old q (by omega)];exact M0.dic
  have step:∀ (w:Str) (r:Nat) (l:List D),y=.str w->B0 (mKv q s.yr) (.inr w)=some (.ref r)->r < g.length->g[r]?=some (.lst l)->(∀ N:Ends,(∀ g2,g2=(g' ++ [O.lst l]).set g.length (.dic (putD [(.inr "seats",.ref (if 0 < i then g.length + 2 else q + 2)),(.inr "lower",.ref (if 1 < i then g.length + 3 else q + 3)),(.inr "upper",.ref (if 2 < i then g.length + 4 else q + 4)),(.inr "gone",.ref (if 3 < i then g.length + 5 else q + 5)),(.inr "year",.int s.yr),(.inr "coins",.ref (if 4 < i then g.length + 6 else q + 6))] (.inr w) (.ref (g.length + 2 + i))))->N.nx [some (.ref q),some (.ref g.length),some (.str w)] g2) ->
    wpS (a9 T k) (match Q4.body with | .seq _ (.seq (.for_ _ _ b) _)=>b | x=>x) N [some (.ref q),some (.ref g.length),some (.str w)] g' E):=by
   intro w r l ey hkv hr hl N hN;dsimp[Q4];walk_at "w5";refine j0 hq rfl hkv ?_;walk_at "w5";refine a56 (a7 (by rw[old r hr];exact hl)) ?_;walk_at "w5";refine a46 (List.getElem?_append_left (by omega) |>.trans gd) rfl (by simp) ?_;rw[gl];walk_at "w5";exact hN _ rfl
  have gp:∀(o:O) (l:List D) (j:Nat),j≠g.length->j<g'.length->((g'++[O.lst l]).set g.length o)[j]?=g'[j]?:=fun o l j h1 h2=>by
   rw[List.getElem?_set_ne (Ne.symm h1),List.getElem?_append_left h2]
  have gn:∀(o:O) (l:List D),((g'++[O.lst l]).set g.length o)[g.length+2+i]?=some (.lst l):=fun o l=>by
   rw[List.getElem?_set_ne (by omega),<- gl];exact c5
  have gs:∀(o:O) (l:List D),((g'++[O.lst l]).set g.length o)[g.length]?=some o:=fun o l=>by
   rw[List.getElem?_set_self (by simp;omega)]
  refine A1 ?_;have hi:i<5:=(List.getElem?_eq_some_iff.mp hy).1
  match i,hy,hi with
  |0,hy,_ =>
   cases hy;refine step "seats" (q+2) s.bl rfl kvS (by omega) M0.seats _ fun g2 e=>?_;subst e;exact⟨_,rfl,by simp;omega,fun j hj=>by rw[gp _ _ j (by omega) (by omega)];exact old j hj,by rw[gp _ _ _ (by omega) (by omega)];exact gw,gs _ _,fun _=>gn _ _,fun z=>absurd z (by omega),fun z=>absurd z (by omega),fun z=>absurd z (by omega),fun z=>absurd z (by omega)⟩
  |1,hy,_ =>
   cases hy;refine step "lower" (q+3) (mks s.lo) rfl kvL (by omega) M0.lower _ fun g2 e=>?_;subst e;exact⟨_,rfl,by simp;omega,fun j hj=>by rw[gp _ _ j (by omega) (by omega)];exact old j hj,by rw[gp _ _ _ (by omega) (by omega)];exact gw,gs _ _,fun _=>by rw[gp _ _ _ (by omega) (by omega)];exact c0 (by omega),fun _=>gn _ _,fun z=>absurd z (by omega),fun z=>absurd z (by omega),fun z=>absurd z (by omega)⟩
  |2,hy,_ =>
   cases hy;refine step "upper" (q+4) (mks s.up) rfl kvU (by omega) M0.upper _ fun g2 e=>?_;subst e;exact⟨_,rfl,by simp;omega,fun j hj=>by rw[gp _ _ j (by omega) (by omega)];exact old j hj,by rw[gp _ _ _ (by omega) (by omega)];exact gw,gs _ _,fun _=>by rw[gp _ _ _ (by omega) (by omega)];exact c0 (by omega),fun _=>by rw[gp _ _ _ (by omega) (by omega)];exact c1 (by omega),fun _=>gn _ _,fun z=>absurd z (by omega),fun z=>absurd z (by omega)⟩
  |3,hy,_ =>
   cases hy;refine step "gone" (q+5) (s.go.map .int) rfl kvG (by omega) M0.gone _ fun g2 e=>?_;subst e;exact⟨_,rfl,by simp;omega,fun j hj=>by rw[gp _ _ j (by omega) (by omega)];exact old j hj,by rw[gp _ _ _ (by omega) (by omega)];exact gw,gs _ _,fun _=>by rw[gp _ _ _ (by omega) (by omega)];exact c0 (by omega),fun _=>by rw[gp _ _ _ (by omega) (by omega)];exact c1 (by omega),fun _=>by rw[gp _ _ _ (by omega) (by omega)];exact c2 (by omega),fun _=>gn _ _,fun z=>absurd z (by omega)⟩
  |4,hy,_ =>
   cases hy;refine step "coins" (q+6) s.co rfl kvC (by omega) M0.coins _ fun g2 e=>?_;subst e;exact⟨_,rfl,by simp;omega,fun j hj=>by rw[gp _ _ j (by omega) (by omega)];exact old j hj,by rw[gp _ _ _ (by omega) (by omega)];exact gw,gs _ _,fun _=>by rw[gp _ _ _ (by omega) (by omega)];exact c0 (by omega),fun _=>by rw[gp _ _ _ (by omega) (by omega)];exact c1 (by omega),fun _=>by rw[gp _ _ _ (by omega) (by omega)];exact c2 (by omega),fun _=>by rw[gp _ _ _ (by omega) (by omega)];exact c3 (by omega),fun _=>gn _ _⟩
 ·obtain⟨z2,rfl,gl,old,gw,gd,c0,c1,c2,c3,c4⟩:=p
  try show wpS _ _ _ _ _ _
  walk_at "w5";refine h g' ⟨by omega,old⟩ ⟨gd,c0 (by decide),c1 (by decide),c2 (by decide),c3 (by decide),c4 (by decide)⟩
noncomputable def okW(r:Rs):Str:=if r.1="" then "" else "refused"
theorem aA5(h6:T 6=some aj8)(h7:T 7=some p8)(h191:T 191=some S6){r:Rs}{j:Nat}(hj:g[j]?=some (.lst [.str (okW r),r.2.1]))(hs:i5 r.2.1)(h:∀g',Ex g g'->Q (.bl true) g'):a9 T (k+3) 191 [.ref j,.tup [.str r.1,r.2.1]] g Q E:=by
 refine call_of h191 rfl ?_;dsimp[S6,b5,List.replicate];walk_at "w5";have ew:decide (okW r="")=decide (r.1=""):=by
  unfold okW;split
  ·rename_i e;rw[decide_eq_true rfl,decide_eq_true e]
  ·rename_i e;rw[decide_eq_false e];decide +kernel
 refine ifT (by rw[ew];simp) ?_;walk_at "w5";exact an2 h6 h7 0 (k:=k) (aF0 hs) h
end
noncomputable def T1:MDef:=⟨1,1,(.seq (.ifs (.or_ (.tst (.prim (.cmp .Eq) (.cons (.prim .len (.cons (.var 0) .nil)) (.cons (.lit (.int 0)) .nil)))) (.or_ (.tst (.prim .gnin (.cons (.lit (.tup [(.tup [(.str "cut"),(.tup [(.str "side")])]),(.tup [(.str "fix"),(.tup [(.str "number")])]),(.tup [(.str "off"),(.tup [(.str "number")])]),(.tup [(.str "mark"),(.tup [(.str "side"),(.str "number"),(.str "number")])]),(.tup [(.str "strike"),(.tup [(.str "number"),(.str "number")])]),(.tup [(.str "year"),(.tup [(.str "number")])])])) (.cons (.prim .ix (.cons (.var 0) (.cons (.lit (.int 0)) .nil))) .nil)))) (.tst (.prim (.cmp .NotEq) (.cons (.prim (.bin .Sub) (.cons (.prim .len (.cons (.var 0) .nil)) (.cons (.lit (.int 1)) .nil))) (.cons (.prim .len (.cons (.prim .gget (.cons (.lit (.tup [(.tup [(.str "cut"),(.tup [(.str "side")])]),(.tup [(.str "fix"),(.tup [(.str "number")])]),(.tup [(.str "off"),(.tup [(.str "number")])]),(.tup [(.str "mark"),(.tup [(.str "side"),(.str "number"),(.str "number")])]),(.tup [(.str "strike"),(.tup [(.str "number"),(.str "number")])]),(.tup [(.str "year"),(.tup [(.str "number")])])])) (.cons (.prim .ix (.cons (.var 0) (.cons (.lit (.int 0)) .nil))) .nil))) .nil)) .nil)))))) (.seq (.raise "BadDeed" (.cons (.lit (.str "it is no deed")) .nil)) .pass) .pass) .pass)⟩
noncomputable def O7:MDef:=⟨2,2,(.seq (.setf "mints" ["Ledger"] (.var 0) (.prim .lst (.cons (.make "Mint" 51 (.cons (.var 1) .nil)) .nil))) (.seq (.setf "done" ["Ledger"] (.var 0) (.prim .lst .nil)) (.seq (.setf "undone" ["Ledger"] (.var 0) (.prim .lst .nil)) .pass)))⟩
noncomputable def O8:MDef:=⟨2,4,(.seq (.set 2 (.methc "mint" [("Ledger",249)] (.var 0) .nil)) (.seq (.set 3 (.call 239 (.cons (.var 2) (.cons (.var 1) .nil)))) (.seq (.expr (.meth .append (.prim (.fld "mints") (.cons (.var 0) .nil)) (.cons (.var 2) .nil))) (.seq (.expr (.meth .append (.prim (.fld "done") (.cons (.var 0) .nil)) (.cons (.var 1) .nil))) (.seq (.ret (.var 3)) .pass)))))⟩
noncomputable def X2:MDef:=⟨2,3,(.seq (.expr (.call 238 (.cons (.var 1) .nil))) (.seq (.set 2 (.methc "go_on" [("Ledger",244)] (.var 0) (.cons (.prim .tuple (.cons (.var 1) .nil)) .nil))) (.seq (.setf "undone" ["Ledger"] (.var 0) (.prim .lst .nil)) (.seq (.ret (.var 2)) .pass))))⟩
noncomputable def E5:MDef:=⟨1,2,(.seq (.ifs (.not_ (.tst (.prim (.fld "done") (.cons (.var 0) .nil)))) (.seq (.raise "Nothing" (.cons (.lit (.str "no deed is left to take back")) .nil)) .pass) .pass) (.seq (.set 1 (.meth .pop0 (.prim (.fld "done") (.cons (.var 0) .nil)) .nil)) (.seq (.expr (.meth .pop0 (.prim (.fld "mints") (.cons (.var 0) .nil)) .nil)) (.seq (.expr (.meth .append (.prim (.fld "undone") (.cons (.var 0) .nil)) (.cons (.var 1) .nil))) (.seq (.ret (.var 1)) .pass)))))⟩
noncomputable def B6:MDef:=⟨1,2,(.seq (.ifs (.not_ (.tst (.prim (.fld "undone") (.cons (.var 0) .nil)))) (.seq (.raise "Nothing" (.cons (.lit (.str "no deed is left to do again")) .nil)) .pass) .pass) (.seq (.set 1 (.meth .pop0 (.prim (.fld "undone") (.cons (.var 0) .nil)) .nil)) (.seq (.expr (.methc "go_on" [("Ledger",244)] (.var 0) (.cons (.var 1) .nil))) (.seq (.ret (.var 1)) .pass))))⟩
noncomputable def X3:MDef:=⟨1,1,(.seq (.ret (.prim .list (.cons (.prim (.fld "done") (.cons (.var 0) .nil)) .nil))) .pass)⟩
noncomputable def O6:MDef:=⟨1,1,(.seq (.ret (.methc "twin" [("Mint",68),("Ledger",251)] (.prim .ix (.cons (.prim (.fld "mints") (.cons (.var 0) .nil)) (.cons (.prim (.un .USub) (.cons (.lit (.int 1)) .nil)) .nil))) .nil)) .pass)⟩
noncomputable def E4:MDef:=⟨1,3,(.seq (.set 1 (.prim .lst (.cons (.prim .fstr (.cons (.lit (.str "mint ")) (.cons (.prim .fv (.cons (.prim .len (.cons (.methc "anvils" [("Mint",60)] (.methc "mint" [("Ledger",249)] (.var 0) .nil) .nil) .nil)) .nil)) .nil))) .nil))) (.seq (.for_ (.one 2) (.itE (.prim (.fld "done") (.cons (.var 0) .nil))) (.seq (.expr (.meth .append (.var 1) (.cons (.meth .join (.lit (.str " ")) (.cons (.comp [] 2 (.one 1) (.itE (.var 2)) .no (.prim .str (.cons (.var 1) .nil))) .nil)) .nil))) .pass)) (.seq (.ret (.meth .join (.lit (.str "\n")) (.cons (.var 1) .nil))) .pass)))⟩
noncomputable def ay6:MDef:=⟨1,2,(.seq (.set 1 (.make "Ledger" 243 (.cons (.prim .len (.cons (.methc "anvils" [("Mint",60)] (.methc "mint" [("Ledger",249)] (.var 0) .nil) .nil) .nil)) .nil))) (.seq (.setf "mints" ["Ledger"] (.var 1) (.prim .list (.cons (.prim (.fld "mints") (.cons (.var 0) .nil)) .nil))) (.seq (.setf "done" ["Ledger"] (.var 1) (.prim .list (.cons (.prim (.fld "done") (.cons (.var 0) .nil)) .nil))) (.seq (.setf "undone" ["Ledger"] (.var 1) (.prim .list (.cons (.prim (.fld "undone") (.cons (.var 0) .nil)) .nil))) (.seq (.ret (.var 1)) .pass)))))⟩
noncomputable def H9:MDef:=⟨2,2,(.seq (.R0 (.seq (.ret (.prim .lst (.cons (.lit (.str "")) (.cons (.methc "do" [("Ledger",245)] (.var 0) (.cons (.var 1) .nil)) .nil)))) .pass) [("MintError",(.prim .lst (.cons (.lit (.str "refused")) (.cons (.lit .non) .nil))))]) .pass)⟩
noncomputable abbrev bd7:MDef:=Z5
noncomputable abbrev ad7(p q u:Nat):O:=.ins "Ledger" [("mints",.ref p),("done",.ref q),("undone",.ref u)]
structure Led(g:G)(r p q u:Nat)(ms:List (Nat×MSt))(ds us:List Dd):Prop where
 ob:g[r]?=some (ad7 p q u)
 mi:g[p]?=some (.lst (ms.map fun t=>.ref t.1))
 dn:g[q]?=some (.lst (ds.map Dd.d))
 ud:g[u]?=some (.lst (us.map Dd.d))
 st:∀t∈ms,g[t.1]?=some (b8 t.2)/\WS t.2/\1<=t.2.bl.length
 pq:p≠q
 pu:p≠u
 qu:q≠u
noncomputable def ai6(r p q u:Nat)(ms:List (Nat×MSt))(x:Nat):Prop:=x=r\/x=p\/x=q\/x=u\/∃t∈ms,x=t.1
structure TL(T:Nat->Option MDef):Prop where
 h238:T 238=some T1
 h239:T 239=some Z5
 h243:T 243=some O7
 h244:T 244=some O8
 h245:T 245=some X2
 h248:T 248=some X3
 h249:T 249=some O6
 h68:T 68=some N5
structure Fr(S:Nat->Prop)(g g':G):Prop where
 len:g.length<=g'.length
 old:∀i,¬S i->i<g.length->g'[i]?=g[i]?
section
variable{T:Nat->Option MDef}{k d:Nat}{g g' g1:G}{Q:KD}{E:KX}{m n r p q u:Nat}{s:MSt}{dd:Dd}{ms:List (Nat×MSt)}{ds us:List Dd}{S:Nat->Prop}
theorem Fr.at(h:Fr S g g'){i:Nat}{o:O}(hi:¬S i)(e:g[i]?=some o):g'[i]?=some o:=(h.old i hi (d0 e)).trans e
theorem Fr.ex(h:Ex g g'):Fr S g g':=⟨h.len,fun i _ hl=>h.old i hl⟩
theorem Fr.trans(a:Fr S g g1)(b:Fr S g1 g'):Fr S g g':=⟨Nat.le_trans a.len b.len,fun i h hl=>(b.old i h (Nat.lt_of_lt_of_le hl a.len)).trans (a.old i h hl)⟩
theorem Fr.set{i:Nat}{o:O}(hi:S i):Fr S g (g.set i o):=⟨by simp,fun j hj _=>List.getElem?_set_ne fun z=>hj (by rw[<- z];exact hi)⟩
theorem Fr.aI2{i:Nat}{o:O}(e:Ex g g1)(hi:g.length<=i):Ex g (g1.set i o):=⟨by simp[e.len],fun j hj=>by rw[List.getElem?_set_ne (by omega)];exact e.old j hj⟩
theorem Led.keep(h:Led g r p q u ms ds us)(k:∀x o,ai6 r p q u ms x->g[x]?=some o->g'[x]?=some o):Led g' r p q u ms ds us :=
 ⟨k _ _ (.inl rfl) h.ob,k _ _ (.inr (.inl rfl)) h.mi,k _ _ (.inr (.inr (.inl rfl))) h.dn,k _ _ (.inr (.inr (.inr (.inl rfl)))) h.ud,fun t ht=>⟨k _ _ (.inr (.inr (.inr (.inr ⟨t,ht,rfl⟩)))) (h.st t ht).1,(h.st t ht).2⟩,h.pq,h.pu,h.qu⟩
theorem Led.ex(h:Led g r p q u ms ds us)(e:Ex g g'):Led g' r p q u ms ds us:=h.keep fun x o _ e1=>e.at e1
theorem Led.lt(h:Led g r p q u ms ds us){x:Nat}(hx:ai6 r p q u ms x):x<g.length:=by
 rcases hx with rfl|rfl|rfl|rfl|⟨t,ht,rfl⟩
 ·exact d0 h.ob
 ·exact d0 h.mi
 ·exact d0 h.dn
 ·exact d0 h.ud
 ·exact d0 (h.st t ht).1
theorem aZ4(hL:TL T)(hT:TM T){v:Int}(h1:∀n:Nat,v=n->1<=n->n<=9->Q .non (g++[ad7 (g.length+2) (g.length+3) (g.length+4),b8 (s0 n),.lst [.ref (g.length+1)],.lst [],.lst []]))(h2:¬(1<=v/\v<=9)->∀g',Ex g g'->E ⟨"BadAnvils"⟩ g'):a9 T (k+5) 243 [.ref g.length,.int v] (g++[.ins "Ledger" []]) Q E:=by
 refine call_of hL.h243 rfl ?_;dsimp[O7,b5,List.replicate];walk_at "w5";refine aC5 (k:=k) hT c5 (fun n e1 n1 n9=>?_) (fun hv=>h2 hv _ ((Ex.snoc _ _).trans (Ex.snoc _ _)));refine⟨rfl,?_⟩;have es:(g++[O.ins "Ledger" []]++[O.ins "Mint" []]).set (g++[O.ins "Ledger" []]).length (aG6 n 0 0)=g++[O.ins "Ledger" [],b8 (s0 n)]:=by simp[s0,b8,aG5]
 rw[es];walk_at "w5";have e0:∀(o:O) (l:List O),(g++(o::l))[g.length]?=some o:=fun o l=>by simp
 have e1':∀(o o':O) (l:List O),(g++(o::l)).set g.length o'=g++(o'::l):=fun o o' l=>by simp
 simp only[List.append_assoc,List.cons_append,List.nil_append,List.length_append,List.length_cons,List.length_nil,Nat.zero_add,Nat.add_assoc,Nat.reduceAdd];refine l7 (e0 _ _) (by simp) (by simp) ?_;rw[e1'];walk_at "w5";simp only[List.append_assoc,List.cons_append,List.nil_append,List.length_append,List.length_cons,List.length_nil,Nat.zero_add,Nat.add_assoc,Nat.reduceAdd];refine l7 (e0 _ _) (by simp) (by simp[n8]) ?_;rw[e1'];walk_at "w5";simp only[List.append_assoc,List.cons_append,List.nil_append,List.length_append,List.length_cons,List.length_nil,Nat.zero_add,Nat.add_assoc,Nat.reduceAdd];refine l7 (e0 _ _) (by simp) (by repeat (first|(simp;done)|refine w9 ?_)) ?_;rw[e1'];walk_at "w5";exact h1 n e1 n1 n9
theorem bd9(hn:1<=n/\n<=9):Led (g++[ad7 (g.length+2) (g.length+3) (g.length+4),b8 (s0 n),.lst [.ref (g.length+1)],.lst [],.lst []]) g.length (g.length+2) (g.length+3) (g.length+4) [(g.length+1,s0 n)] [] []:=by
 refine⟨by simp,T6,T6,T6,fun t ht=>?_,by omega,by omega,by omega⟩;cases List.mem_singleton.mp ht;exact⟨T6,bt8 hn.2,by unfold s0;simpa using hn.1⟩
theorem aD2{α:Type}{l:List α}{x:α}:atI (l++[x]) (-1)=some x:=by
 simp[atI,ixN,seqIndex?];rw[if_pos (by omega)];show(l++[x])[(-1+((l.length:Int)+1)).toNat]?=some x;rw[show(-1+((l.length:Int)+1)).toNat=l.length by omega];simp
theorem au8(hL:TL T)(hT:TQ T)(h0:Led g r p q u (ms++[(m,s)]) ds us)(h:Q (.ref g.length) (g++[b8 s])):a9 T (k+6) 249 [.ref r] g Q E:=by
 obtain⟨h1,h2,h3⟩:=h0.st (m,s) (by simp);refine call_of hL.h249 rfl ?_;dsimp[O6,b5,List.replicate];walk_at "w5";refine i7 h0.ob rfl ?_;walk_at "w5";refine D7 (a7 h0.mi) (d:=.ref m) (by rw[List.map_append];exact aD2) ?_;walk_at "w5";refine e7 h1 rfl rfl ?_;walk_at "w5";exact a81 (k:=k) hT hL.h68 h1 ⟨h3,h2.bn⟩ h
theorem aQ0(hL:TL T)(hT:TQ T)(h0:Led g r p q u (ms++[(m,s)]) ds us)(hz:ms.length<5000/\ds.length<5000)(ok:dd.ok)(h1:(doS s dd).1=""->∀g',Fr (fun x=>x=p\/x=q) g g'->Led g' r p q u (ms++[(m,s)]++[(g.length,(doS s dd).2.2)]) (ds++[dd]) us->Q (doS s dd).2.1 g')(h2:(doS s dd).1≠""->∀g',Ex g g'->E ⟨(doS s dd).1⟩ g'):a9 T (k+7) 244 [.ref r,dd.d] g Q E:=by
 obtain⟨l1,l2,l3⟩:=h0.st (m,s) (by simp);refine call_of hL.h244 rfl ?_;dsimp[O8,b5,List.replicate];walk_at "w5";refine e7 h0.ob rfl rfl ?_;walk_at "w5";refine au8 (k:=k) hL hT h0 ?_;walk_at "w5";refine aG4 (k:=k) hT hL.h239 c5 l2 ok (fun e g2 e2=>?_) (fun e=>h2 e _ (Ex.snoc _ _));have x2:Ex g (g2.set g.length (b8 (doS s dd).2.2)):=Fr.aI2 ((Ex.snoc _ _).trans e2) (Nat.le_refl _);have n2:(g2.set g.length (b8 (doS s dd).2.2))[g.length]?=some (b8 (doS s dd).2.2):=get_set (e2.at c5);generalize g2.set g.length (b8 (doS s dd).2.2)=g3 at *;have L3:=h0.ex x2;have ne:p≠r:=fun z=>by have:=L3.ob;rw[<- z,L3.mi] at this;cases this
 have ne2:q≠r:=fun z=>by have:=L3.ob;rw[<- z,L3.dn] at this;cases this
 have pl:=d0 h0.mi;have ql:=d0 h0.dn;walk_at "w5";refine i7 L3.ob rfl ?_;walk_at "w5";refine⟨u5 L3.mi,?_⟩;walk_at "w5";refine B5 L3.mi (by simp;omega) ?_;walk_at "w5";refine i7 (a6 L3.ob ne) rfl ?_;walk_at "w5";refine⟨u5 (a6 L3.dn L3.pq),?_⟩;walk_at "w5";refine B5 (a6 L3.dn L3.pq) (by simp;omega) ?_;walk_at "w5";refine h1 e _ ((Fr.ex x2).trans ((Fr.set (.inl rfl)).trans (Fr.set (.inr rfl)))) ⟨a6 (a6 L3.ob ne) ne2,a6 (by rw[List.map_append (l₁:=ms++[(m,s)])];exact get_set L3.mi) (Ne.symm L3.pq),by rw[List.map_append (l₁:=ds)];exact get_set (a6 L3.dn L3.pq),a6 (a6 L3.ud L3.pu) L3.qu,fun t ht=>?_,L3.pq,L3.pu,L3.qu⟩;have np:∀{x:Nat} {s:MSt},g3[x]?=some (b8 s)->p≠x/\q≠x:=fun e=>⟨fun z=>(by rw[<- z,L3.mi] at e;cases e),fun z=>(by rw[<- z,L3.dn] at e;cases e)⟩
 rcases List.mem_append.mp ht with ht|ht
 ·have:=L3.st t ht;exact⟨a6 (a6 this.1 (np this.1).1) (np this.1).2,this.2⟩
 ·cases List.mem_singleton.mp ht;exact⟨a6 (a6 n2 (np n2).1) (np n2).2,a74 l2,by rw[a61];exact l3⟩
theorem a14(hL:TL T)(h:Q .non g):a9 T (k+1) 238 [dd.d] g Q E:=by
 refine call_of hL.h238 rfl ?_;cases dd <;> dsimp [T1,b5,List.replicate,Dd.d] <;> walk_at "w5" <;> (refine ifF rfl ?_;walk_at "w5";refine ifF (by decide +kernel) ?_;walk_at "w5";first
  |refine aq3 (v:=.tup [.str "side"]) rfl ?_
  |refine aq3 (v:=.tup [.str "number"]) rfl ?_
  |refine aq3 (v:=.tup [.str "number",.str "number"]) rfl ?_
  | refine aq3 (v:=.tup [.str "side",.str "number",.str "number"]) rfl ?_) <;> (walk_at "w5";refine ifF rfl ?_;walk_at "w5";exact h)
theorem bq4(hL:TL T)(hT:TQ T)(h0:Led g r p q u (ms++[(m,s)]) ds us)(hz:ms.length<5000/\ds.length<5000)(ok:dd.ok)(h1:(doS s dd).1=""->∀g' u',Fr (fun x=>x=p\/x=q\/x=r) g g'->g.length<u'->Led g' r p q u' (ms++[(m,s)]++[(g.length,(doS s dd).2.2)]) (ds++[dd]) []->Q (doS s dd).2.1 g')(h2:(doS s dd).1≠""->∀g',Ex g g'->E ⟨(doS s dd).1⟩ g'):a9 T (k+8) 245 [.ref r,dd.d] g Q E:=by
 refine call_of hL.h245 rfl ?_;dsimp[X2,b5,List.replicate];walk_at "w5";refine a14 (k:=k+6) hL ?_;walk_at "w5";refine e7 h0.ob rfl rfl ?_;walk_at "w5";have et:∀{Q:KD},Q dd.d g->prP .tuple [dd.d] g Q:=fun h=>by cases dd<;>exact a37 h
 refine et ?_;walk_at "w5";refine aQ0 (k:=k) hL hT h0 hz ok (fun e g2 F2 L2=>?_) h2;have gl:g.length<g2.length:=d0 (L2.st (g.length,(doS s dd).2.2) (by simp)).1;walk_at "w5";have x3:Ex g2 (g2++[O.lst []]):=Ex.snoc _ _;have n3:(g2++[O.lst []])[g2.length]?=some (.lst []):=c5;have L3:=L2.ex x3;have c3:∀x,ai6 r p q u (ms++[(m,s)]++[(g.length,(doS s dd).2.2)]) x->x<g2.length:=fun x hx=>L2.lt hx;generalize g2++[O.lst []]=g3 at *;refine l7 L3.ob (by simp) (by simp) ?_;walk_at "w5";have nr:∀{x:Nat} {o:O},g3[x]?=some o->(∀p q u,o≠ad7 p q u)->r≠x:=fun e h z=>by rw[<- z,L3.ob] at e;exact h _ _ _ (Option.some.inj e).symm
 have hp:=c3 p (.inr (.inl rfl));have hq:=c3 q (.inr (.inr (.inl rfl)));refine h1 e _ g2.length (⟨by have:=F2.len;have:=x3.len;simp;omega,fun i hi hl=>?_⟩) gl ⟨get_set L3.ob,a6 L3.mi (nr L3.mi (by intro _ _ _ z;cases z)),a6 L3.dn (nr L3.dn (by intro _ _ _ z;cases z)),a6 n3 (nr n3 (by intro _ _ _ z;cases z)),fun t ht=>?_,L3.pq,by omega,by omega⟩
 ·rw[List.getElem?_set_ne (fun z=>hi (.inr (.inr z.symm))),x3.old i (by have:=F2.len;omega)];exact F2.old i (fun z=>hi (by rcases z with z|z;exact .inl z;exact .inr (.inl z))) hl
 ·have:=L3.st t ht;exact⟨a6 this.1 (nr this.1 (by intro _ _ _ z;cases z)),this.2⟩
theorem bq5(hL:TL T)(hT:TQ T)(h240:T 240=some H9)(h0:Led g r p q u (ms++[(m,s)]) ds us)(hz:ms.length<5000/\ds.length<5000)(ok:dd.ok)(h1:(doS s dd).1=""->∀g' u' j,Fr (fun x=>x=p\/x=q\/x=r) g g'->g.length<u'->Led g' r p q u' (ms++[(m,s)]++[(g.length,(doS s dd).2.2)]) (ds++[dd]) []->g'[j]?=some (.lst [.str (okW (doS s dd)),(doS s dd).2.1])->g.length<=j->Q (.ref j) g')(h2:(doS s dd).1≠""->∀g' j,Ex g g'->g'[j]?=some (.lst [.str (okW (doS s dd)),(doS s dd).2.1])->g.length<=j->Q (.ref j) g'):a9 T (k+9) 240 [.ref r,dd.d] g Q E:=by
 refine call_of h240 rfl ?_;dsimp[H9,b5,List.replicate];walk_at "w5";refine e7 h0.ob rfl rfl ?_;walk_at "w5";refine bq4 (k:=k) hL hT h0 hz ok (fun e g2 u2 F2 hu L2=>?_) (fun e g2 e2=>?_)
 ·walk_at "w5";exact h1 e _ u2 _ (F2.trans (Fr.ex (Ex.snoc _ _))) hu (L2.ex (Ex.snoc _ _)) (by unfold okW;rw[if_pos e];exact c5) (Nat.le_trans F2.len (Nat.le_refl _))
 ·obtain⟨_,h3⟩:=(bf1 (s:=s) (dd:=dd)).resolve_left e;refine bA1 ?_;walk_at "w5";exact h2 e _ _ (e2.trans (Ex.snoc _ _)) (by unfold okW;rw[if_neg e,h3];exact c5) e2.len
end
noncomputable abbrev nT(i:Int):Str:=Str.ofString (toString i)
theorem ag2{i:Int}(h:0<=i/\i<=9999):i.natAbs.log2<14:=by
 by_cases z:i.natAbs=0
 ·rw[z];decide
 ·exact(Nat.log2_lt z).mpr (show i.natAbs<2 ^ 14 by omega)
theorem at9{i:Int}(h:0<=i/\i<=9999):(nT i).length<=15:=by rw[PySem.ofString_length];exact PySem.int_text_length_le (k:=14) (by decide) (ag2 h)
noncomputable def Dd.l:Dd->List D
 |.cut x=>[.str "cut",.str x]
 |.fix v=>[.str "fix",.int v]
 |.off v=>[.str "off",.int v]
 |.mark x v j=>[.str "mark",.str x,.int v,.int j]
 |.strike a b=>[.str "strike",.int a,.int b]
 |.year n=>[.str "year",.int n]
theorem Dd.d_l(dd:Dd):dd.d=.tup dd.l:=by cases dd<;>rfl
theorem Dd.a57(dd:Dd):dd.l.length<=4:=by cases dd<;>simp[Dd.l]
noncomputable def txt:D->Str
 |.str x=>x
 |.int i=>nT i
 |_=>""
noncomputable def al8(x:D):Prop:=(∃y,x=.str y/\y.length<=10)\/∃i,x=.int i/\0<=i/\i<=9999
noncomputable def Dd.fit(dd:Dd):Prop:=∀x∈dd.l,al8 x
theorem al8.len{x:D}(h:al8 x):(txt x).length<=15:=by
 rcases h with⟨y,rfl,h⟩|⟨i,rfl,h⟩
 ·exact Nat.le_trans h (by decide)
 ·exact at9 h
theorem as3{x:Str}(h:u9 x):al8 (.str x):=by
 rcases h with rfl|rfl
 ·exact .inl ⟨_,rfl,by decide +kernel⟩
 ·exact .inl ⟨_,rfl,by decide +kernel⟩
theorem br9{s:MSt}{dd:Dd}(W:WS s)(e:(doS s dd).1=""):dd.fit:=by
 have hl:=W.ln;have hu:=W.un;have hy:=W.y0;intro x hx;cases dd with
 |cut y =>
  simp only[doS] at e;unfold m8 at e;split at e
  ·rename_i hs;simp only[Dd.l,List.mem_cons,List.mem_nil_iff,or_false] at hx;rcases hx with rfl|rfl
   ·exact .inl ⟨_,rfl,by decide +kernel⟩
   ·exact as3 hs
  ·exact absurd e (by dsimp only;decide +kernel)
 |fix v =>
  simp only[doS] at e;unfold j2 at e;split at e
  ·rename_i hv;simp only[Dd.l,List.mem_cons,List.mem_nil_iff,or_false] at hx;rcases hx with rfl|rfl
   ·exact .inl ⟨_,rfl,by decide +kernel⟩
   ·exact .inr ⟨_,rfl,by omega,by omega⟩
  ·exact absurd e (by dsimp only;decide +kernel)
 |off v =>
  simp only[doS] at e;unfold m5 at e;split at e
  ·rename_i hv;simp only[Dd.l,List.mem_cons,List.mem_nil_iff,or_false] at hx;rcases hx with rfl|rfl
   ·exact .inl ⟨_,rfl,by decide +kernel⟩
   ·exact .inr ⟨_,rfl,by omega,by omega⟩
  ·exact absurd e (by dsimp only;decide +kernel)
 |mark y v j =>
  simp only[doS] at e;unfold d7 at e;split at e
  ·rename_i hs;have hz:(s.side y).length<=99:=by unfold MSt.side;split<;>assumption
   split at e
   ·rename_i hv;split at e
    ·exact absurd e (by dsimp only;decide +kernel)
    ·split at e
     ·rename_i hj;simp only[Dd.l,List.mem_cons,List.mem_nil_iff,or_false] at hx;rcases hx with rfl|rfl|rfl|rfl
      ·exact .inl ⟨_,rfl,by decide +kernel⟩
      ·exact as3 hs
      ·exact .inr ⟨_,rfl,by omega,by omega⟩
      ·exact .inr ⟨_,rfl,by omega,by omega⟩
     ·exact absurd e (by dsimp only;decide +kernel)
   ·exact absurd e (by dsimp only;decide +kernel)
  ·exact absurd e (by dsimp only;decide +kernel)
 |strike a b =>
  simp only[doS] at e;unfold d5 at e;split at e
  ·rename_i hv;simp only[Dd.l,List.mem_cons,List.mem_nil_iff,or_false] at hx;rcases hx with rfl|rfl|rfl
   ·exact .inl ⟨_,rfl,by decide +kernel⟩
   ·exact .inr ⟨_,rfl,by omega,by omega⟩
   ·exact .inr ⟨_,rfl,by omega,by omega⟩
  ·exact absurd e (by dsimp only;decide +kernel)
 |year n =>
  simp only[doS] at e;unfold l6 at e;split at e
  ·rename_i hv;simp only[Dd.l,List.mem_cons,List.mem_nil_iff,or_false] at hx;rcases hx with rfl|rfl
   ·exact .inl ⟨_,rfl,by decide +kernel⟩
   ·exact .inr ⟨_,rfl,by omega,by omega⟩
  ·exact absurd e (by dsimp only;decide +kernel)
theorem ag4{sep:Str}{B:Nat}{ys:List Str}(h:∀y∈ys,y.length<=B):v7 sep ys<=(B+sep.length)*ys.length:=by
 have:∀(ys:List Str) (n:Nat),(∀y∈ys,y.length<=B)->ys.foldl (fun n y=>n+y.length+sep.length) n<=n+(B+sep.length)*ys.length:=by
  intro ys
  induction ys with
  |nil=>intro n _;simp
  |cons y r ih =>
   intro n h;rw[List.foldl_cons];have h1:=ih (n+y.length+sep.length) fun z hz=>h z (by simp[hz]);have h2:=h y (by simp);rw[List.length_cons,Nat.mul_add,Nat.mul_one];omega
 have:=this ys 0 h;unfold v7;omega
noncomputable def K9(dd:Dd):Str:=Builtin.Str.glued " " (dd.l.map txt)
noncomputable def a39(n:Nat)(ds:List Dd):Str:=Builtin.Str.glued "\n" ((("mint ":Str)++nT n)::ds.map K9)
theorem aA6{dd:Dd}(h:dd.fit):v7 " " (dd.l.map txt)<=64/\(K9 dd).length<=64:=by
 have h1:v7 " " (dd.l.map txt)<=(15+(" ":Str).length)*(dd.l.map txt).length:=ag4 fun y hy=>by
  obtain⟨x,hx,rfl⟩:=List.mem_map.mp hy;exact(h x hx).len
 have h2:(" ":Str).length=1:=by decide +kernel
 have h3:=dd.a57;rw[h2,List.length_map] at h1;have h4:=an7 " " (dd.l.map txt);unfold K9;omega
theorem text_len{n:Nat}{ds:List Dd}(hn:n<=9)(h:∀dd∈ds,dd.fit)(hz:ds.length<=1000):v7 "\n" ((("mint ":Str)++nT n)::ds.map K9)<=100000:=by
 have h1:v7 "\n" ((("mint ":Str)++nT n)::ds.map K9)<=(64+("\n":Str).length)*((("mint ":Str)++nT n)::ds.map K9).length:=ag4 fun y hy=>by
  rcases List.mem_cons.mp hy with rfl|hy
  ·have:=at9 (i:=(n:Int)) (by omega);have h5:("mint ":Str).length=5:=by decide +kernel
   rw[strLen_append,h5];omega
  ·obtain⟨dd,hd,rfl⟩:=List.mem_map.mp hy;exact(aA6 (h dd hd)).2
 have h2:("\n":Str).length=1:=by decide +kernel
 rw[h2,List.length_cons,List.length_map] at h1;omega
section
variable{T:Nat->Option MDef}{k d:Nat}{g g' g1:G}{Q:KD}{E:KX}{m n r p q u:Nat}{s:MSt}{dd:Dd}{ms:List (Nat×MSt)}{ds us:List Dd}
theorem bv8{x:D}(h:al8 x){Q:KD}(hq:Q (.str (txt x)) g):prP .str [x] g Q:=by
 rcases h with⟨y,rfl,h⟩|⟨i,rfl,h⟩
 ·exact bo4 hq
 ·exact aF6 (Nat.lt_of_lt_of_le (ag2 h) (by decide)) hq
theorem bA4{i:Int}(hi:0<=i/\i<=9999)(h:Q (.str (nT i)) g):prP .fv [.int i] g Q:=⟨_,_,⟨rfl,.inl ⟨i,rfl,Nat.lt_of_lt_of_le (ag2 hi) (by decide),rfl⟩⟩,h⟩
theorem aM3{f:ME}(hf:dd.fit){σ:S}{z:ME}(hz:∀{Q:KD},Q dd.d g->wpE (a9 T k) z σ g Q E)(he:∀{x:D} {w:Option D} {Q:KD},al8 x->Q (.str (txt x)) g->wpE (a9 T k) f [w,some x] g Q NoX)(h:Q (.str (K9 dd)) (g++[.lst ((dd.l.map txt).map .str)])):wpE (a9 T k) (.meth .join (.lit (.str " ")) (.cons (.comp [] 2 (.one 1) (.itE z) .no f) .nil)) σ g Q E:=by
 walk_at "w5";refine⟨au0,?_⟩;walk_at "w5";refine aD7 (c9 T _) (hz ?_);have:=dd.a57;refine⟨dd.l,dd.d_l,by omega,fun i ys σ g'=>∃z w,ys=(((dd.l.take i).map txt).map D.str)/\σ=[z,w]/\g'=g,⟨none,none,rfl,rfl,rfl⟩,fun i ys σ g' p=>?_,fun i y ys σ g' hy p=>?_,fun ys σ g' p=>?_⟩
 ·obtain⟨z,w,rfl,rfl,rfl⟩:=p;simp;omega
 ·obtain⟨z,w,rfl,rfl,rfl⟩:=p;refine A1 ?_
  try show wpT _ _ _ _ _ _
  walk_at "w5";refine he (hf y (List.mem_of_getElem? hy)) ?_;refine⟨_,_,?_,rfl,rfl⟩;rw[List.take_succ,hy];simp
 ·obtain⟨z,w,rfl,rfl,rfl⟩:=p;rw[List.take_length];walk_at "w5";refine au6 (ys:=dd.l.map txt) (a7 c5) (Nat.le_trans (aA6 hf).1 (by decide)) ?_;exact h
theorem aZ3(hL:TL T)(hT:TQ T)(h250:T 250=some E4)(h0:Led g r p q u (ms++[(m,s)]) ds us)(hf:∀dd∈ds,dd.fit)(hz:ds.length<=1000)(h:∀g',Ex g g'->Q (.str (a39 s.bl.length ds)) g'):a9 T (k+7) 250 [.ref r] g Q E:=by
 obtain⟨_,h2,h3⟩:=h0.st (m,s) (by simp);have bn:s.bl.length<=9:=h2.bn;refine call_of h250 rfl ?_;dsimp[E4,b5,List.replicate];walk_at "w5";refine e7 h0.ob rfl rfl ?_;walk_at "w5";refine au8 (k:=k) hL hT h0 ?_;walk_at "w5";refine e7 c5 rfl rfl ?_;walk_at "w5";refine aJ5 (k:=k+5) hT c5 ?_;have x1:Ex g (g++[b8 s]++[.lst s.bl]):=(Ex.snoc _ _).trans (Ex.snoc _ _);have b1:(g++[b8 s]++[.lst s.bl])[(g++[b8 s]).length]?=some (.lst s.bl):=c5;generalize g++[b8 s]++[.lst s.bl]=g1 at *;walk_at "w5";refine bA4 (by omega) ?_;walk_at "w5";refine bo5 (x:="mint "++nT s.bl.length) (by show some ("mint "++(nT s.bl.length++Str.empty))=some _;rw[az8]) ?_;walk_at "w5";have x2:Ex g (g1++[.lst [.str ("mint "++nT s.bl.length)]]):=x1.trans (Ex.snoc _ _);have b2:(g1++[.lst [.str ("mint "++nT s.bl.length)]])[g1.length]?=some (.lst [.str ("mint "++nT s.bl.length)]):=c5;have gl:=x1.len;generalize g1++[.lst [.str ("mint "++nT s.bl.length)]]=g2 at *;generalize g1.length=b at *;refine ap2 (c9 T _) (i_l (c9 T _) ?_);walk_at "w5";refine i7 (h0.ex x2).ob rfl ?_;refine⟨q,_,rfl,a7 (h0.ex x2).dn,ds.map Dd.d,fun i σ g'=>∃z,σ=[some (.ref r),some (.ref b),z]/\Ex g g'/\g'[b]?=some (.lst (.str ("mint "++nT s.bl.length)::((ds.take i).map K9).map .str)),fun i σ g' p=>X8 (a7 (h0.ex p.choose_spec.2.1).dn),⟨none,rfl,x2,b2⟩,fun i y σ g' hy p=>?_,fun σ g' p=>?_⟩
 ·obtain⟨z,rfl,x3,b3⟩:=p;rw[List.getElem?_map,Option.map_eq_some_iff] at hy;obtain⟨dd,hd,rfl⟩:=hy;refine A1 ?_
  try show wpS _ _ _ _ _ _
  walk_at "w5"
  try refine⟨u5 b3,?_⟩
  try refine V2 ?_
  refine aM3 (k:=k+6) (hf dd (List.mem_of_getElem? hd)) (fun h=>w_var rfl h) (fun hx hq=>?_) ?_
  ·walk_at "w5";exact bv8 hx hq
  ·walk_at "w5";refine B5 (D8 b3) (by simp;omega) ?_;walk_at "w5";refine⟨_,rfl,Fr.aI2 (x3.trans (Ex.snoc _ _)) gl,?_⟩;rw[get_set (D8 b3),List.take_succ,hd];simp
 ·obtain⟨z,rfl,x3,b3⟩:=p;rw[List.length_map,List.take_length] at b3
  try show wpS _ _ _ _ _ _
  walk_at "w5";refine⟨au0,?_⟩;walk_at "w5";refine au6 (ys:=("mint "++nT s.bl.length)::ds.map K9) (a7 b3) (text_len bn hf hz) ?_;walk_at "w5";exact h _ x3
theorem aZ5(h246:T 246=some E5){t:Nat×MSt}(h0:Led g r p q u (ms++[t]) (ds++[dd]) us)(hz:us.length<=5000)(h:∀g',Fr (fun x=>x=p\/x=q\/x=u) g g'->Led g' r p q u ms ds (us++[dd])->Q dd.d g'):a9 T (k+1) 246 [.ref r] g Q E:=by
 have nr:∀{x:Nat} {l:List D},g[x]?=some (.lst l)->x≠r:=fun e z=>by rw[z,h0.ob] at e;cases e
 have nm:∀{x y:Nat} {l:List D} {s:MSt},g[x]?=some (.lst l)->g[y]?=some (b8 s)->x≠y:=fun e1 e2 z=>by rw[z,e2] at e1;cases e1
 have dn:=h0.dn;have mi:=h0.mi;rw[List.map_append] at dn mi;refine call_of h246 rfl ?_;dsimp[E5,b5,List.replicate];walk_at "w5";refine i7 h0.ob rfl ?_;walk_at "w5";refine a40 (a7 dn) ?_;refine ifF (by simp) ?_;walk_at "w5";refine i7 h0.ob rfl ?_;walk_at "w5";refine⟨Q1 dn,?_⟩;walk_at "w5";refine W5 dn ?_;walk_at "w5";refine i7 (a6 h0.ob (nr dn)) rfl ?_;walk_at "w5";refine⟨Q1 (a6 mi (Ne.symm h0.pq)),?_⟩;walk_at "w5";refine W5 (a6 mi (Ne.symm h0.pq)) ?_;walk_at "w5";refine i7 (a6 (a6 h0.ob (nr dn)) (nr mi)) rfl ?_;walk_at "w5";have ud:=a6 (a6 h0.ud h0.qu (o':=.lst (ds.map Dd.d))) h0.pu (o':=.lst (ms.map fun t=>.ref t.1));refine⟨u5 ud,?_⟩;walk_at "w5";refine B5 ud (by simp;omega) ?_;walk_at "w5";refine h _ (((Fr.set (.inr (.inl rfl))).trans (Fr.set (.inl rfl))).trans (Fr.set (.inr (.inr rfl)))) ⟨a6 (a6 (a6 h0.ob (nr dn)) (nr mi)) (nr h0.ud),a6 (get_set (a6 mi (Ne.symm h0.pq))) (Ne.symm h0.pu),a6 (a6 (get_set dn) h0.pq) (Ne.symm h0.qu),by rw[List.map_append (l₁:=us)];exact get_set ud,fun t ht=>?_,h0.pq,h0.pu,h0.qu⟩;have:=h0.st t (by simp[ht]);exact⟨a6 (a6 (a6 this.1 (nm dn this.1)) (nm mi this.1)) (nm h0.ud this.1),this.2⟩
theorem aQ1(hL:TL T)(hT:TQ T)(h247:T 247=some B6)(h0:Led g r p q u (ms++[(m,s)]) ds (us++[dd]))(hz:ms.length<5000/\ds.length<5000)(ok:dd.ok)(e:(doS s dd).1="")(h:∀g',Fr (fun x=>x=p\/x=q\/x=u) g g'->Led g' r p q u (ms++[(m,s)]++[(g.length,(doS s dd).2.2)]) (ds++[dd]) us->Q dd.d g'):a9 T (k+8) 247 [.ref r] g Q E:=by
 have nr:∀{x:Nat} {l:List D},g[x]?=some (.lst l)->x≠r:=fun e z=>by rw[z,h0.ob] at e;cases e
 have nm:∀{x y:Nat} {l:List D} {s:MSt},g[x]?=some (.lst l)->g[y]?=some (b8 s)->x≠y:=fun e1 e2 z=>by rw[z,e2] at e1;cases e1
 have ud:=h0.ud;rw[List.map_append] at ud;refine call_of h247 rfl ?_;dsimp[B6,b5,List.replicate];walk_at "w5";refine i7 h0.ob rfl ?_;walk_at "w5";refine a40 (a7 ud) ?_;refine ifF (by simp) ?_;walk_at "w5";refine i7 h0.ob rfl ?_;walk_at "w5";refine⟨Q1 ud,?_⟩;walk_at "w5";refine W5 ud ?_;have L1:Led (g.set u (.lst (us.map Dd.d))) r p q u (ms++[(m,s)]) ds us:=⟨a6 h0.ob (nr ud),a6 h0.mi (Ne.symm h0.pu),a6 h0.dn (Ne.symm h0.qu),get_set ud,fun t ht=>⟨a6 (h0.st t ht).1 (nm ud (h0.st t ht).1),(h0.st t ht).2⟩,h0.pq,h0.pu,h0.qu⟩
 have F1:Fr (fun x=>x=p\/x=q\/x=u) g (g.set u (.lst (us.map Dd.d))):=Fr.set (.inr (.inr rfl));have l1:(g.set u (.lst (us.map Dd.d))).length=g.length:=by simp
 generalize g.set u (.lst (us.map Dd.d))=g1 at *;walk_at "w5";refine e7 L1.ob rfl rfl ?_;walk_at "w5";refine aQ0 (k:=k) hL hT L1 hz ok (fun _ g2 F2 L2=>?_) (fun z=>absurd e z);walk_at "w5";rw[l1] at L2;exact h _ (F1.trans ⟨F2.len,fun i hi hl=>F2.old i (fun z=>hi (by rcases z with z|z;exact .inl z;exact .inr (.inl z))) hl⟩) L2
end
structure Ent where
 dd:Dd
 mi:Nat
 mo:Nat
 st:MSt
noncomputable def f6(t:Ent):D:=.tup [t.dd.d,.ref t.mo]
noncomputable def Ent.key(t:Ent):Dd×MSt:=(t.dd,t.st)
noncomputable def t6:MSt->List (Dd×MSt)->MSt
 |s,[]=>s
 |_,t::r=>t6 t.2 r
noncomputable def Chn:MSt->List (Dd×MSt)->Prop
 |_,[]=>True
 |s,t::r=>((doS s t.1).1=""/\(doS s t.1).2.2=t.2/\t.1.ok)/\Chn t.2 r
theorem T3:∀{s:MSt} {l:List (Dd×MSt)} {t:Dd×MSt},t6 s (l++[t])=t.2
 |_,[],_=>rfl
 |_,x::r,t=>T3 (s:=x.2) (l:=r) (t:=t)
theorem Chn.app:∀{s:MSt} {l m:List (Dd×MSt)},Chn s (l++m)↔Chn s l/\Chn (t6 s l) m
 |_,[],_=>⟨fun h=>⟨trivial,h⟩,fun h=>h.2⟩
 |_,t::r,m=>⟨fun h=>⟨⟨h.1,(Chn.app.mp h.2).1⟩,(Chn.app.mp h.2).2⟩,fun h=>⟨h.1.1,Chn.app.mpr ⟨h.1.2,h.2⟩⟩⟩
theorem Chn.fit:∀{s:MSt} {l:List (Dd×MSt)},WS s->Chn s l->∀t∈l,t.1.fit
 |_,[],_,_=>fun t h=>by simp at h
 |s,x::r,W,h=>fun t ht=>by
  rcases List.mem_cons.mp ht with rfl|ht
  ·exact br9 W h.1.1
  ·exact Chn.fit (by rw[<- h.1.2.1];exact a74 W) h.2 t ht
theorem Chn.bl:∀{s:MSt} {l:List (Dd×MSt)},Chn s l->(t6 s l).bl.length=s.bl.length
 |_,[],_=>rfl
 |s,x::r,h=>by
  have h1:=Chn.bl h.2;rw[<- h.1.2.1,a61] at h1;rw[<- h1];show(t6 x.2 r).bl.length=_;rw[h.1.2.1]
noncomputable def Vs(r p q u a b x:Nat):Prop:=x=r\/x=p\/x=q\/x=u\/x=a\/x=b
structure Hw(g:G)(d n r p q u a b m0 c0:Nat)(H U:List Ent):Prop where
 L:Led g r p q u ((m0,s0 n)::H.map fun t=>(t.mi,t.st)) (H.map Ent.dd) (U.map Ent.dd)
 la:g[a]?=some (.lst (.tup [.non,.ref c0]::H.map f6))
 lb:g[b]?=some (.lst (U.map f6))
 mo:∀t∈H++U,MD g t.mo t.st
 mz:MD g c0 (s0 n)
 ch:Chn (s0 n) ((H++U.reverse).map Ent.key)
 ab:a≠b
 al:a≠p/\a≠q/\a≠u
 bl:b≠p/\b≠q/\b≠u
 sm:∀t∈H++U,∀x,t.mo<=x->x<t.mo+7->¬Vs r p q u a b x
 sz:∀x,c0<=x->x<c0+7->¬Vs r p q u a b x
 lo:∀x,Vs r p q u a b x\/x=m0\/(∃t∈H,x=t.mi)\/(c0<=x/\x<c0+7)\/(∃t∈H++U,t.mo<=x/\x<t.mo+7)->d<x
section
variable{T:Nat->Option MDef}{k d:Nat}{g g' g1:G}{Q:KD}{E:KX}{n r p q u a b m0 c0:Nat}{s:MSt}{dd:Dd}{H U:List Ent}{S:Nat->Prop}
theorem MD.frS{q:Nat}(M:MD g q s)(F:Fr S g g')(h:∀x,q<=x->x<q+7->¬S x):MD g' q s :=
 ⟨F.at (h _ (by omega) (by omega)) M.dic,F.at (h _ (by omega) (by omega)) M.seats,F.at (h _ (by omega) (by omega)) M.lower,F.at (h _ (by omega) (by omega)) M.upper,F.at (h _ (by omega) (by omega)) M.gone,F.at (h _ (by omega) (by omega)) M.coins⟩
theorem d6.frS(D:d6 g d)(F:Fr S g g')(h:∀x,x<=d->¬S x):d6 g' d:=by
 obtain⟨u,v,w,x,xs,e1,e2,e3,e4⟩:=D.ex;exact⟨u,v,w,x,xs,F.at (h _ (Nat.le_refl _)) e1,F.at (h _ (by omega)) e2,e3,e4⟩
theorem Hw.fr(h:Hw g d n r p q u a b m0 c0 H U)(F:Fr S g g')(hS:∀x,S x->x<=d\/g.length<=x):Hw g' d n r p q u a b m0 c0 H U:=by
 have no:∀x,x<g.length->(Vs r p q u a b x\/x=m0\/(∃t∈H,x=t.mi)\/(c0<=x/\x<c0+7)\/(∃t∈H++U,t.mo<=x/\x<t.mo+7))->¬S x:=fun x hx hc hs=>by
  have h1:=h.lo x hc;have h2:=hS x hs;omega
 refine⟨h.L.keep fun x o hx e=>F.at (no x (d0 e) ?_) e,F.at (no a (d0 h.la) (.inl (.inr (.inr (.inr (.inr (.inl rfl))))))) h.la,F.at (no b (d0 h.lb) (.inl (.inr (.inr (.inr (.inr (.inr rfl))))))) h.lb,fun t ht=>(h.mo t ht).frS F fun x h1 h2=>?_,h.mz.frS F fun x h1 h2=>?_,h.ch,h.ab,h.al,h.bl,h.sm,h.sz,h.lo⟩
 ·rcases hx with z|z|z|z|⟨t,ht,rfl⟩
  ·exact .inl (.inl z)
  ·exact .inl (.inr (.inl z))
  ·exact .inl (.inr (.inr (.inl z)))
  ·exact .inl (.inr (.inr (.inr (.inl z))))
  ·rcases List.mem_cons.mp ht with rfl|ht
   ·exact .inr (.inl rfl)
   ·obtain⟨y,hy,rfl⟩:=List.mem_map.mp ht;exact .inr (.inr (.inl ⟨y,hy,rfl⟩))
 ·have:=d0 (h.mo t ht).coins;exact no x (by omega) (.inr (.inr (.inr (.inr ⟨t,ht,h1,h2⟩))))
 ·have:=d0 h.mz.coins;exact no x (by omega) (.inr (.inr (.inr (.inl ⟨h1,h2⟩))))
theorem bA6(G1:Gr d g g'):Fr (fun x=>x=d) g g':=⟨G1.len,fun i hi hl=>G1.old i hi hl⟩
theorem Hw.ex(h:Hw g d n r p q u a b m0 c0 H U)(e:Ex g g'):Hw g' d n r p q u a b m0 c0 H U:=h.fr (S:=fun _=>False) (.ex e) fun x z=>z.elim
theorem Hw.gr(h:Hw g d n r p q u a b m0 c0 H U)(e:Gr d g g'):Hw g' d n r p q u a b m0 c0 H U:=h.fr (bA6 e) fun x z=>.inl (by omega)
theorem Hw.top(h:Hw g d n r p q u a b m0 c0 H U):∃ms m,(m0,s0 n)::(H.map fun t=>(t.mi,t.st))=ms++[(m,t6 (s0 n) (H.map Ent.key))]/\ms.length=H.length:=by
 rcases List.eq_nil_or_concat H with rfl|⟨H',t,rfl⟩
 ·exact⟨[],m0,rfl,rfl⟩
 ·refine⟨(m0,s0 n)::H'.map fun t=>(t.mi,t.st),t.mi,?_,by simp⟩;rw[List.concat_eq_append,List.map_append,List.map_append,List.map_singleton,List.map_singleton,T3]
  rfl
theorem Hw.aH2(h:Hw g d n r p q u a b m0 c0 H U):∃ms m,Led g r p q u (ms++[(m,t6 (s0 n) (H.map Ent.key))]) (H.map Ent.dd) (U.map Ent.dd)/\ms.length=H.length/\(m0,s0 n)::(H.map fun t=>(t.mi,t.st))=ms++[(m,t6 (s0 n) (H.map Ent.key))]:=by
 obtain⟨ms,m,e,hl⟩:=h.top;exact⟨ms,m,e▸h.L,hl,e⟩
theorem Hw.cH(h:Hw g d n r p q u a b m0 c0 H U):Chn (s0 n) (H.map Ent.key):=by
 have:=h.ch;rw[List.map_append] at this;exact(Chn.app.mp this).1
theorem Hw.ws(h:Hw g d n r p q u a b m0 c0 H U):WS (t6 (s0 n) (H.map Ent.key))/\1<=n/\n<=9:=by
 obtain⟨ms,m,L,_⟩:=h.aH2;have h1:=L.st (m,t6 (s0 n) (H.map Ent.key)) (by simp);have h2:=h.L.st (m0,s0 n) (by simp);have e:(s0 n).bl.length=n:=by unfold s0;simp
 have h3:=h2.2.1.bn;have h4:=h2.2.2;rw[e] at h3;dsimp only at h4;rw[e] at h4;exact⟨h1.2.1,h4,h3⟩
theorem Hw.fits(h:Hw g d n r p q u a b m0 c0 H U):∀dd∈H.map Ent.dd,dd.fit:=fun dd hd=>by
 obtain⟨t,ht,rfl⟩:=List.mem_map.mp hd;exact Chn.fit (bt8 h.ws.2.2) h.cH t.key (List.mem_map.mpr ⟨t,ht,rfl⟩)
theorem Hw.last(h:Hw g d n r p q u a b m0 c0 H U):∃l x c,.tup [.non,.ref c0]::H.map f6=l++[.tup [x,.ref c]]/\MD g c (t6 (s0 n) (H.map Ent.key))/\d<c:=by
 rcases List.eq_nil_or_concat H with rfl|⟨H',t,rfl⟩
 ·exact⟨[],.non,c0,rfl,h.mz,h.lo c0 (.inr (.inr (.inr (.inl ⟨Nat.le_refl _,by omega⟩))))⟩
 ·refine⟨.tup [.non,.ref c0]::H'.map f6,t.dd.d,t.mo,by simp[f6],?_,h.lo _ (.inr (.inr (.inr (.inr ⟨t,by simp,Nat.le_refl _,by omega⟩))))⟩;rw[List.concat_eq_append,List.map_append,List.map_singleton,T3];exact h.mo t (by simp)
theorem Hw.back{t:Ent}(h:Hw g d n r p q u a b m0 c0 (H++[t]) U)(F:Fr (fun x=>x=p\/x=q\/x=u) g g')(L:Led g' r p q u ((m0,s0 n)::H.map fun t=>(t.mi,t.st)) (H.map Ent.dd) ((U++[t]).map Ent.dd)) :
  Hw ((g'.set a (.lst (.tup [.non,.ref c0]::H.map f6))).set b (.lst (U.map f6++[f6 t]))) d n r p q u a b m0 c0 H (U++[t]):=by
 have la':=F.at (by have:=h.al;omega) h.la;have lb':=F.at (by have:=h.bl;omega) h.lb;have F2:Fr (Vs r p q u a b) g ((g'.set a (.lst (.tup [.non,.ref c0]::H.map f6))).set b (.lst (U.map f6++[f6 t]))):=by
  refine Fr.trans ?_ ((Fr.set (.inr (.inr (.inr (.inr (.inl rfl)))))).trans (Fr.set (.inr (.inr (.inr (.inr (.inr rfl)))))));exact⟨F.len,fun i hi hl=>F.old i (fun z=>hi (by rcases z with z|z|z;exact .inr (.inl z);exact .inr (.inr (.inl z));exact .inr (.inr (.inr (.inl z))))) hl⟩
 have na:∀{x:Nat} {ms:List (Nat×MSt)} {ds us:List Dd} {o:O},Led g' r p q u ms ds us->ai6 r p q u ms x->g'[x]?=some o->x≠a/\x≠b:=fun{x ms ds us o} L hx e=>by
  rcases hx with rfl|rfl|rfl|rfl|⟨t,ht,rfl⟩
  ·exact⟨fun z=>(by have:=L.ob;rw[z,la'] at this;cases this),fun z=>(by have:=L.ob;rw[z,lb'] at this;cases this)⟩
  ·exact⟨Ne.symm h.al.1,Ne.symm h.bl.1⟩
  ·exact⟨Ne.symm h.al.2.1,Ne.symm h.bl.2.1⟩
  ·exact⟨Ne.symm h.al.2.2,Ne.symm h.bl.2.2⟩
  ·have e1:=(L.st t ht).1;exact⟨fun z=>(by rw[z,la'] at e1;cases e1),fun z=>(by rw[z,lb'] at e1;cases e1)⟩
 refine⟨L.keep fun x o hx e=>a6 (a6 e (Ne.symm (na L hx e).1)) (Ne.symm (na L hx e).2),a6 (get_set la') (Ne.symm h.ab),?_,fun y hy=>(h.mo y (by simp at hy ⊢;rcases hy with z|z|z<;>simp[z])).frS F2 (h.sm y (by simp at hy ⊢;rcases hy with z|z|z<;>simp[z])),h.mz.frS F2 h.sz,?_,h.ab,h.al,h.bl,fun y hy=>h.sm y (by simp at hy ⊢;rcases hy with z|z|z<;>simp[z]),h.sz,fun x hx=>h.lo x ?_⟩
 ·rw[List.map_append];exact get_set (a6 lb' h.ab)
 ·have:=h.ch;simpa using this
 ·rcases hx with z|z|⟨y,hy,z⟩|z|⟨y,hy,z⟩
  ·exact .inl z
  ·exact .inr (.inl z)
  ·exact .inr (.inr (.inl ⟨y,by simp[hy],z⟩))
  ·exact .inr (.inr (.inr (.inl z)))
  ·exact .inr (.inr (.inr (.inr ⟨y,by simp at hy ⊢;rcases hy with w|w|w<;>simp[w],z⟩)))
theorem Hw.again{t:Ent}(h:Hw g d n r p q u a b m0 c0 H (U++[t]))(F:Fr (fun x=>x=p\/x=q\/x=u) g g')(L:Led g' r p q u ((m0,s0 n)::(H++[{ t with mi:=g.length }]).map fun(t:Ent)=>(t.mi,t.st)) ((H++[t]).map Ent.dd) (U.map Ent.dd)) :
  Hw ((g'.set b (.lst (U.map f6))).set a (.lst (.tup [.non,.ref c0]::H.map f6++[f6 t]))) d n r p q u a b m0 c0 (H++[{ t with mi:=g.length }]) U:=by
 have la':=F.at (by have:=h.al;omega) h.la;have lb':=F.at (by have:=h.bl;omega) h.lb;have F2:Fr (Vs r p q u a b) g ((g'.set b (.lst (U.map f6))).set a (.lst (.tup [.non,.ref c0]::H.map f6++[f6 t]))):=by
  refine Fr.trans ?_ ((Fr.set (.inr (.inr (.inr (.inr (.inr rfl)))))).trans (Fr.set (.inr (.inr (.inr (.inr (.inl rfl)))))));exact⟨F.len,fun i hi hl=>F.old i (fun z=>hi (by rcases z with z|z|z;exact .inr (.inl z);exact .inr (.inr (.inl z));exact .inr (.inr (.inr (.inl z))))) hl⟩
 have na:∀{x:Nat} {ms:List (Nat×MSt)} {ds us:List Dd} {o:O},Led g' r p q u ms ds us->ai6 r p q u ms x->g'[x]?=some o->x≠a/\x≠b:=fun{x ms ds us o} L hx e=>by
  rcases hx with rfl|rfl|rfl|rfl|⟨t,ht,rfl⟩
  ·exact⟨fun z=>(by have:=L.ob;rw[z,la'] at this;cases this),fun z=>(by have:=L.ob;rw[z,lb'] at this;cases this)⟩
  ·exact⟨Ne.symm h.al.1,Ne.symm h.bl.1⟩
  ·exact⟨Ne.symm h.al.2.1,Ne.symm h.bl.2.1⟩
  ·exact⟨Ne.symm h.al.2.2,Ne.symm h.bl.2.2⟩
  ·have e1:=(L.st t ht).1;exact⟨fun z=>(by rw[z,la'] at e1;cases e1),fun z=>(by rw[z,lb'] at e1;cases e1)⟩
 have L':Led g' r p q u ((m0,s0 n)::(H++[{ t with mi:=g.length }]).map fun(t:Ent)=>(t.mi,t.st)) ((H++[{ t with mi:=g.length }]).map Ent.dd) (U.map Ent.dd):=by
  rw[List.map_append (f:=Ent.dd)] at L ⊢;exact L
 have cs:∀y∈H++[{ t with mi:=g.length }]++U,∃z∈H++(U++[t]),z.mo=y.mo/\z.st=y.st/\(y∈H->z=y):=fun y hy=>by
  simp at hy;rcases hy with w|rfl|w
  ·exact⟨y,by simp[w],rfl,rfl,fun _=>rfl⟩
  ·by_cases c:({ t with mi:=g.length }:Ent)∈H
   ·exact⟨_,by simp[c],rfl,rfl,fun _=>rfl⟩
   ·exact⟨t,by simp,rfl,rfl,fun z=>absurd z c⟩
  ·exact⟨y,by simp[w],rfl,rfl,fun _=>rfl⟩
 refine⟨L'.keep fun x o hx e=>a6 (a6 e (Ne.symm (na L' hx e).2)) (Ne.symm (na L' hx e).1),?_,a6 (get_set lb') h.ab,fun y hy=>?_,h.mz.frS F2 h.sz,?_,h.ab,h.al,h.bl,fun y hy=>?_,h.sz,fun x hx=>?_⟩
 ·have:=get_set (o':=O.lst (.tup [.non,.ref c0]::H.map f6++[f6 t])) (a6 (o':=O.lst (U.map f6)) la' (Ne.symm h.ab));rw[this];simp[f6]
 ·obtain⟨z,hz,e1,e2,_⟩:=cs y hy;rw[<- e1,<- e2];exact(h.mo z hz).frS F2 (h.sm z hz)
 ·have:=h.ch;simpa[Ent.key] using this
 ·obtain⟨z,hz,e1,e2,_⟩:=cs y hy;rw[<- e1];exact h.sm z hz
 ·have dl:d<g.length:=by
   have:=h.lo a (.inl (.inr (.inr (.inr (.inr (.inl rfl))))));have:=d0 h.la;omega
  rcases hx with z|z|⟨y,hy,z⟩|z|⟨y,hy,z⟩
  ·exact h.lo x (.inl z)
  ·exact h.lo x (.inr (.inl z))
  ·rcases List.mem_append.mp hy with hy|hy
   ·exact h.lo x (.inr (.inr (.inl ⟨y,hy,z⟩)))
   ·cases List.mem_singleton.mp hy;dsimp only at z;omega
  ·exact h.lo x (.inr (.inr (.inr (.inl z))))
  ·obtain⟨y',hy',e1,e2,_⟩:=cs y hy;rw[<- e1] at z;exact h.lo x (.inr (.inr (.inr (.inr ⟨y',hy',z⟩))))
end
noncomputable def by7:MDef:=⟨1,1,(.seq (.whil (.tst (.lit (.bl true))) (.seq .pass .pass)) .pass)⟩
noncomputable def ap5:MDef:=⟨2,4,(.seq (.set 2 (.prim .lst (.cons (.prim (.bin .Add) (.cons (.lit (.str "mint ")) (.cons (.prim .str (.cons (.var 0) .nil)) .nil))) .nil))) (.seq (.for_ (.one 3) (.itE (.var 1)) (.seq (.expr (.meth .append (.var 2) (.cons (.meth .join (.lit (.str " ")) (.cons (.comp [] 2 (.one 1) (.itE (.var 3)) .no (.ite (.tst (.prim .isin (.cons (.var 1) (.cons (.lit (.ty "str")) .nil)))) (.var 1) (.prim .str (.cons (.var 1) .nil)))) .nil)) .nil))) .pass)) (.seq (.ret (.meth .join (.lit (.str "\n")) (.cons (.var 2) .nil))) .pass)))⟩
noncomputable def ad5:MDef:=⟨1,11,(.seq (.set 1 (.call 3 (.cons (.var 0) .nil))) (.seq (.set 2 (.prim (.bin .Add) (.cons (.lit (.int 1)) (.cons (.call 4 (.cons (.var 1) (.cons (.prim .ix (.cons (.prim .tup (.cons (.lit (.int 3)) (.cons (.lit (.int 9)) .nil))) (.cons (.call 4 (.cons (.var 1) (.cons (.lit (.int 2)) .nil))) .nil))) .nil))) .nil)))) (.seq (.set 3 (.make "Ledger" 243 (.cons (.var 2) .nil))) (.seq (.set 4 (.prim .lst (.cons (.prim .tup (.cons (.lit .non) (.cons (.call 45 (.cons (.var 2) .nil)) .nil))) .nil))) (.seq (.set 5 (.prim .lst .nil)) (.seq (.for_ (.one 6) (.itR1 (.prim (.bin .Add) (.cons (.lit (.int 10)) (.cons (.call 4 (.cons (.var 1) (.cons (.lit (.int 31)) .nil))) .nil)))) (.seq (.set 7 (.call 4 (.cons (.var 1) (.cons (.lit (.int 8)) .nil)))) (.seq (.ifs (.and_ (.tst (.prim (.cmp .Eq) (.cons (.var 7) (.cons (.lit (.int 0)) .nil)))) (.tst (.prim (.cmp .Gt) (.cons (.prim .len (.cons (.var 4) .nil)) (.cons (.lit (.int 1)) .nil))))) (.seq (.expr (.methc "back" [("Ledger",246)] (.var 3) .nil)) (.seq (.expr (.meth .append (.var 5) (.cons (.meth .pop0 (.var 4) .nil) .nil))) .pass)) (.seq (.ifs (.and_ (.tst (.prim (.cmp .Eq) (.cons (.var 7) (.cons (.lit (.int 1)) .nil)))) (.tst (.prim (.cmp .Gt) (.cons (.prim .len (.cons (.var 5) .nil)) (.cons (.lit (.int 0)) .nil))))) (.seq (.expr (.methc "again" [("Ledger",247)] (.var 3) .nil)) (.seq (.expr (.meth .append (.var 4) (.cons (.meth .pop0 (.var 5) .nil) .nil))) .pass)) (.seq (.set 8 (.call 192 (.cons (.prim .ix (.cons (.prim .ix (.cons (.var 4) (.cons (.prim (.un .USub) (.cons (.lit (.int 1)) .nil)) .nil))) (.cons (.lit (.int 1)) .nil))) .nil))) (.seq (.set 9 (.call 188 (.cons (.var 1) (.cons (.var 8) .nil)))) (.seq (.set 10 (.call 183 (.cons (.var 8) (.cons (.var 9) .nil)))) (.seq (.ifs (.not_ (.tst (.call 191 (.cons (.call 240 (.cons (.var 3) (.cons (.var 9) .nil))) (.cons (.var 10) .nil))))) (.seq (.ret (.lit (.bl false))) .pass) .pass) (.seq (.ifs (.tst (.prim (.cmp .Eq) (.cons (.prim .ix (.cons (.var 10) (.cons (.lit (.int 0)) .nil))) (.cons (.lit (.str "")) .nil)))) (.seq (.expr (.meth .append (.var 4) (.cons (.prim .tup (.cons (.var 9) (.cons (.var 8) .nil))) .nil))) (.seq (.set 5 (.prim .lst .nil)) .pass)) .pass) .pass)))))) .pass)) (.seq (.ifs (.not_ (.tst (.call 7 (.cons (.methc "text" [("Ledger",250)] (.var 3) .nil) (.cons (.call 257 (.cons (.var 2) (.cons (.comp [] 3 (.many [1,2]) (.itE (.prim (.slc true false) (.cons (.var 4) (.cons (.lit (.int 1)) .nil)))) .no (.var 1)) .nil))) .nil))))) (.seq (.ret (.lit (.bl false))) .pass) .pass) .pass)))) (.seq (.ret (.lit (.bl true))) .pass)))))))⟩
noncomputable def ay5:MDef:=⟨2,2,(.seq (.expr (.call 41 (.cons (.lit (.int 0)) .nil))) .pass)⟩
structure T50(T:Nat->Option MDef):Prop where
 tr:TR T
 tv:TV T
 tl:TL T
 h3:T 3=some ap7
 h6:T 6=some aj8
 h7:T 7=some p8
 h11:T 11=some ad5
 h45:T 45=some ag0
 h191:T 191=some S6
 h192:T 192=some Q4
 h240:T 240=some H9
 h246:T 246=some E5
 h247:T 247=some B6
 h250:T 250=some E4
 h257:T 257=some ap5
section
variable{T:Nat->Option MDef}{k d:Nat}{g g' g1 g3 g4 g5:G}{Q:KD}{E:KX}{n r p q u a b m0 c0:Nat}{s s':MSt}{dd:Dd}{H U:List Ent}{S:Nat->Prop}
theorem Hw.did(h:Hw g d n r p q u a b m0 c0 H U){c u':Nat}(F3:Fr (fun x=>x=d) g g3)(hc:g.length<=c)(M3:MD g3 c s')(F4:Fr (fun x=>x=p\/x=q\/x=r) g3 g4)(hu:g3.length<u')(L4:Led g4 r p q u' ((m0,s0 n)::(H.map fun t=>(t.mi,t.st))++[(g3.length,s')]) (H.map Ent.dd++[dd]) [])(e5:Ex g4 g5)(ok:dd.ok)(e1:(doS (t6 (s0 n) (H.map Ent.key)) dd).1="")(e2:(doS (t6 (s0 n) (H.map Ent.key)) dd).2.2=s') :
  Hw (g5.set a (.lst (.tup [.non,.ref c0]::H.map f6++[.tup [dd.d,.ref c]]))++[.lst []]) d n r p q u' a g5.length m0 c0 (H++[⟨dd,g3.length,c,s'⟩]) []:=by
 have cl:=d0 M3.coins;have al:=d0 h.la;have f3:=F3.len;have f4:=F4.len;have f5:=e5.len;have ud:=d0 L4.ud;have vr:=d0 h.L.ob;have vp:=d0 h.L.mi;have vq:=d0 h.L.dn;have da:d<a:=h.lo a (.inl (.inr (.inr (.inr (.inr (.inl rfl))))));have a4:g4[a]?=some (.lst (.tup [.non,.ref c0] :: H.map f6)):=F4.at (by
  have h1:=h.al;have h2:a≠r:=fun z=>by have:=h.L.ob;rw[<- z,h.la] at this;cases this
  omega) (F3.at (by omega) h.la)
 have a5:=e5.at a4;have nr:r≠a:=fun z=>by have:=h.L.ob;rw[z,h.la] at this;cases this
 have old:∀x o,¬Vs r p q u a b x->d<x->g[x]?=some o->(g5.set a (.lst (.tup [.non,.ref c0]::H.map f6++[.tup [dd.d,.ref c]]))++[.lst []])[x]?=some o:=fun x o hv hd e=>by
  unfold Vs at hv;exact D8 (a6 (e5.at (F4.at (by omega) (F3.at (by omega) e))) (by omega))
 have oldM:∀{y:Nat} {st:MSt},MD g y st->(∀x,y<=x->x<y+7->¬Vs r p q u a b x)->d<y->MD (g5.set a (.lst (.tup [.non,.ref c0]::H.map f6++[.tup [dd.d,.ref c]]))++[.lst []]) y st:=fun M hv hd =>
  ⟨old _ _ (hv _ (by omega) (by omega)) (by omega) M.dic,old _ _ (hv _ (by omega) (by omega)) (by omega) M.seats,old _ _ (hv _ (by omega) (by omega)) (by omega) M.lower,old _ _ (hv _ (by omega) (by omega)) (by omega) M.upper,old _ _ (hv _ (by omega) (by omega)) (by omega) M.gone,old _ _ (hv _ (by omega) (by omega)) (by omega) M.coins⟩
 have nv:∀x,x<g.length->¬Vs r p q u a b x->¬Vs r p q u' a g5.length x:=fun x hx hv z=>by
  unfold Vs at hv z;omega
 have hal:=h.al;refine⟨?_,?_,by rw[show g5.length=(g5.set a (.lst (.tup [.non,.ref c0]::H.map f6++[.tup [dd.d,.ref c]]))).length by simp];exact c5,fun t ht=>?_,oldM h.mz h.sz (h.lo c0 (.inr (.inr (.inr (.inl ⟨Nat.le_refl _,by omega⟩))))),?_,by omega,⟨hal.1,hal.2.1,by omega⟩,⟨by omega,by omega,by omega⟩,fun t ht x h1 h2=>?_,fun x h1 h2=>nv x (by have:=d0 h.mz.coins;omega) (h.sz x h1 h2),fun x hx=>?_⟩
 ·have L5:Led g4 r p q u' ((m0,s0 n)::(H++([⟨dd,g3.length,c,s'⟩]:List Ent)).map fun(t:Ent)=>(t.mi,t.st)) ((H++([⟨dd,g3.length,c,s'⟩]:List Ent)).map Ent.dd) (([]:List Ent).map Ent.dd):=by
   rw[List.map_append,List.map_append];exact L4
  refine L5.keep fun x o hx e=>D8 (a6 (e5.at e) fun z=>?_);subst z;rcases hx with z|z|z|z|⟨t,ht,z⟩
  ·exact nr z.symm
  ·exact hal.1 z
  ·exact hal.2.1 z
  ·omega
  ·have:=(L5.st t ht).1;rw[<- z,a4] at this;cases this
 ·rw[List.map_append];exact D8 (get_set a5)
 ·simp at ht;rcases ht with ht|rfl
  ·exact oldM (h.mo t (by simp[ht])) (h.sm t (by simp[ht])) (h.lo _ (.inr (.inr (.inr (.inr ⟨t,by simp[ht],Nat.le_refl _,by omega⟩)))))
  ·have F6:Fr (fun x=>x=p \/ x=q \/ x=r \/ x=a) g3 (g5.set a (.lst (.tup [.non,.ref c0] :: H.map f6 ++ [.tup [dd.d,.ref c]])) ++ [.lst []]):=⟨by simp;omega,fun i hi hl=>by
    rw[List.getElem?_append_left (by simp;omega),List.getElem?_set_ne (by omega),e5.old i (by omega)];exact F4.old i (by omega) hl⟩
   exact M3.frS F6 (by intro x h1 h2;omega)
 ·rw[List.reverse_nil,List.append_nil,List.map_append,Chn.app];exact⟨h.cH,⟨e1,e2,ok⟩,trivial⟩
 ·simp at ht;rcases ht with ht|rfl
  ·have:=d0 (h.mo t (by simp[ht])).coins;exact nv x (by omega) (h.sm t (by simp[ht]) x h1 h2)
  ·unfold Vs;dsimp only at h1 h2;omega
 ·have hr:=h.lo r (.inl (.inl rfl));have hp:=h.lo p (.inl (.inr (.inl rfl)));have hq:=h.lo q (.inl (.inr (.inr (.inl rfl))));rcases hx with z|z|⟨y,hy,z⟩|z|⟨y,hy,z⟩
  ·unfold Vs at z;omega
  ·exact h.lo x (.inr (.inl z))
  ·rcases List.mem_append.mp hy with hy|hy
   ·exact h.lo x (.inr (.inr (.inl ⟨y,hy,z⟩)))
   ·cases List.mem_singleton.mp hy;dsimp only at z;omega
  ·exact h.lo x (.inr (.inr (.inr (.inl z))))
  ·simp at hy;rcases hy with hy|rfl
   ·exact h.lo x (.inr (.inr (.inr (.inr ⟨y,by simp[hy],z⟩))))
   ·dsimp only at z;omega
theorem aZ0(h257:T 257=some ap5){e:Nat}{ds:List Dd}(he:g[e]?=some (.lst (ds.map Dd.d)))(hn:n<=9)(hf:∀dd∈ds,dd.fit)(hz:ds.length<=1000)(h:∀g',Ex g g'->Q (.str (a39 n ds)) g'):a9 T (k+1) 257 [.int n,.ref e] g Q E:=by
 refine call_of h257 rfl ?_;dsimp[ap5,b5,List.replicate];walk_at "w5";refine aF6 (Nat.lt_of_lt_of_le (ag2 (by omega)) (by decide)) ?_;have h6:(Str.ofString (toString (n:Int))).length<=15:=at9 (by omega);have h5:("mint ":Str).length=5:=by decide +kernel
 refine bC7 (by rw[h5];omega) ?_;walk_at "w5";have x2:Ex g (g++[.lst [.str ("mint "++nT n)]]):=Ex.snoc _ _;have b2:(g++[.lst [.str ("mint "++nT n)]])[g.length]?=some (.lst [.str ("mint "++nT n)]):=c5;generalize g++[.lst [.str ("mint "++nT n)]]=g2 at *;refine ap2 (c9 T _) (i_l (c9 T _) ?_);walk_at "w5";refine⟨e,_,rfl,a7 (x2.at he),ds.map Dd.d,fun i σ g'=>∃z,σ=[some (.int n),some (.ref e),some (.ref g.length),z]/\Ex g g'/\g'[g.length]?=some (.lst (.str ("mint "++nT n)::((ds.take i).map K9).map .str)),fun i σ g' p=>X8 (a7 (p.choose_spec.2.1.at he)),⟨none,rfl,x2,b2⟩,fun i y σ g' hy p=>?_,fun σ g' p=>?_⟩
 ·obtain⟨z,rfl,x3,b3⟩:=p;rw[List.getElem?_map,Option.map_eq_some_iff] at hy;obtain⟨dd,hd,rfl⟩:=hy;refine A1 ?_
  try show wpS _ _ _ _ _ _
  walk_at "w5"
  try refine⟨u5 b3,?_⟩
  try refine V2 ?_
  refine aM3 (k:=k) (hf dd (List.mem_of_getElem? hd)) (fun h=>w_var rfl h) (fun{x w Q} hx hq=>?_) ?_
  ·walk_at "w5";rcases hx with⟨y,rfl,_⟩|⟨j,rfl,hj⟩
   ·refine isi (b:=true) (by simp) rfl ?_;walk_at "w5";exact hq
   ·refine isi (b:=false) (by simp) rfl ?_;walk_at "w5";exact aF6 (Nat.lt_of_lt_of_le (ag2 hj) (by decide)) hq
  ·walk_at "w5";refine B5 (D8 b3) (by simp;omega) ?_;walk_at "w5";refine⟨_,rfl,Fr.aI2 (x3.trans (Ex.snoc _ _)) (Nat.le_refl _),?_⟩;rw[get_set (D8 b3),List.take_succ,hd];simp
 ·obtain⟨z,rfl,x3,b3⟩:=p;rw[List.length_map,List.take_length] at b3
  try show wpS _ _ _ _ _ _
  walk_at "w5";refine⟨au0,?_⟩;walk_at "w5";refine au6 (ys:=("mint "++nT n)::ds.map K9) (a7 b3) (text_len hn hf hz) ?_;walk_at "w5";exact h _ x3
end
noncomputable abbrev b50:MS:=match ad5.body with|.seq _ (.seq _ (.seq _ (.seq _ (.seq _ (.seq (.for_ _ _ b) _)))))=>b|x=>x
noncomputable abbrev aJ2:MS:=match b50 with|.seq _ (.seq _ b)=>b|x=>x
section
variable{T:Nat->Option MDef}{k d:Nat}{g g':G}{Q:KD}{E:KX}{n r p q u a b m0 c0:Nat}{s:MSt}{dd:Dd}{H U:List Ent}
theorem bh9(hT:T50 T)(W:Hw g d n r p q u a b m0 c0 H U)(hz:H.length<=900){N:Ends}{z6 z7 z8 z9 z10:Option D}(hN:∀g',Ex g g'->N.nx [some (.ref 0),some (.ref d),some (.int n),some (.ref r),some (.ref a),some (.ref b),z6,z7,z8,z9,z10] g') :
  wpS (a9 T (k+11)) aJ2 N [some (.ref 0),some (.ref d),some (.int n),some (.ref r),some (.ref a),some (.ref b),z6,z7,z8,z9,z10] g E:=by
 obtain⟨ms,m,L,hl,_⟩:=W.aH2;have ws:=W.ws;have bl:(t6 (s0 n) (H.map Ent.key)).bl.length=n:=by
  rw[W.cH.bl];unfold s0;simp
 dsimp[aJ2,b50,ad5];walk_at "w5";refine e7 L.ob rfl rfl ?_;walk_at "w5";refine aZ3 (k:=k+4) hT.tl hT.tr.tq hT.h250 L W.fits (by simp;omega) fun g1 e1=>?_;rw[bl];have W1:=W.ex e1;walk_at "w5";refine P2 (c9 T _) (i_l (c9 T _) ?_);walk_at "w5";refine bj9 (a7 W1.la) ?_;have ec:cut (D.tup [.non,.ref c0]::H.map f6) (some 1) none=H.map f6:=a66 (n:=1);rw[ec];refine⟨g1.length,_,rfl,a7 c5,H.map f6,fun i ys σ g'=>ys=(H.take i).map (fun t=>t.dd.d)/\g'=g1++[.lst (H.map f6)]/\∃z0 z1 z2,σ=[z0,z1,z2],by simp;omega,fun i ys σ g' p=>?_,⟨rfl,rfl,none,none,none,rfl⟩,fun i y ys σ g' hy p=>?_,fun ys σ g' p=>?_⟩
 ·obtain⟨rfl,rfl,_⟩:=p;exact⟨X8 (a7 c5),by simp;omega⟩
 ·obtain⟨rfl,rfl,z0,z1,z2,rfl⟩:=p;rw[List.getElem?_map,Option.map_eq_some_iff] at hy;obtain⟨t,ht,rfl⟩:=hy;refine aj3 rfl ?_
  try show wpT _ _ _ _ _ _
  walk_at "w5";refine⟨?_,rfl,_,_,_,rfl⟩;rw[List.take_succ,ht];simp
 ·obtain⟨rfl,rfl,z0,z1,z2,rfl⟩:=p;have e2:Ex g1 (g1++[.lst (H.map f6)]++[.lst ((H.take (H.map f6).length).map fun t=>t.dd.d)]):=(Ex.snoc _ _).trans (Ex.snoc _ _);have l2:(g1++[.lst (H.map f6)]++[.lst ((H.take (H.map f6).length).map fun t=>t.dd.d)])[(g1++[O.lst (H.map f6)]).length]?=some (.lst ((H.map Ent.dd).map Dd.d)):=by
   rw[List.length_map,List.take_length,List.map_map];exact c5
  generalize g1++[.lst (H.map f6)]++[.lst ((H.take (H.map f6).length).map fun t=>t.dd.d)]=g2 at *;walk_at "w5";refine aZ0 (k:=k+10) hT.h257 l2 ws.2.2 W.fits (by simp;omega) fun g3 e3=>?_;walk_at "w5";refine an2 hT.h6 hT.h7 0 (k:=k+9) (.str _) fun g4 e4=>?_;walk_at "w5";exact hN _ ((e1.trans e2).trans (e3.trans e4))
noncomputable abbrev a22:MS:=match b50 with|.seq _ (.seq (.ifs _ _ (.seq (.ifs _ _ c) _)) _)=>c|x=>x
theorem a82(hT:T50 T)(W:Hw g d n r p q u a b m0 c0 H U)(D0:d6 g d)(hz:H.length<=800){N:Ends}{z6 z7 z8 z9 z10:Option D}(hN:∀g' u' b' H' U' z8 z9 z10,d6 g' d->Hw g' d n r p q u' a b' m0 c0 H' U'->H'.length<=H.length+1->U'.length<=U.length->N.nx [some (.ref 0),some (.ref d),some (.int n),some (.ref r),some (.ref a),some (.ref b'),z6,z7,z8,z9,z10] g') :
  wpS (a9 T (k+11)) a22 N [some (.ref 0),some (.ref d),some (.int n),some (.ref r),some (.ref a),some (.ref b),z6,z7,z8,z9,z10] g E:=by
 obtain⟨l,x,c,el,M0,dc⟩:=W.last;have la:=W.la;rw[el] at la;have dl:=D0.lt;dsimp[a22,b50,ad5];walk_at "w5";refine D7 (a7 la) aD2 ?_;walk_at "w5";refine bf5 (k:=k+10) hT.h192 M0 fun g1 e1 M1=>?_;have l1:=e1.len;have q1:=d0 M1.coins;walk_at "w5";refine bf2 (k:=k+6) hT.tv M1 W.ws.1 (e1.draw D0) (by omega) fun dd g2 ok D2 G2=>?_;have l2:=G2.len;walk_at "w5";refine bd6 (k:=k+9) hT.tr (M1.gr G2 (by omega)) W.ws.1 ok fun g3 K3 M3=>?_;have l3:=K3.len;have F3:Fr (fun x=>x=d) g g3:=⟨by omega,fun i hi hl=>(K3.old i (.inl (by omega)) (by omega)).trans ((G2.old i hi (by omega)).trans (e1.old i hl))⟩
 have D3:d6 g3 d:=K3.draw (by omega) D2;have W3:=W.fr F3 (fun x z=>.inl (by omega));obtain⟨ms,m,L3,hl,es⟩:=W3.aH2;have da:d<a:=W.lo a (.inl (.inr (.inr (.inr (.inr (.inl rfl))))));have dr:d<r:=W.lo r (.inl (.inl rfl));have dp:d<p:=W.lo p (.inl (.inr (.inl rfl)));have dq:d<q:=W.lo q (.inl (.inr (.inr (.inl rfl))));walk_at "w5";refine bq5 (k:=k+2) hT.tl hT.tr.tq hT.h240 L3 (by simp;omega) ok (fun e g4 u' j F4 hu L4 f4 hj=>?_) (fun e g4 j e4 f4 hj=>?_)
 ·walk_at "w5";refine aA5 (k:=k+8) hT.h6 hT.h7 hT.h191 f4 aC9 fun g5 e5=>?_;have na:¬(a=p\/a=q\/a=r):=by
   have h1:=W.al;have h2:a≠r:=fun z=>by have:=W.L.ob;rw[<- z,W.la] at this;cases this
   omega
  have a5:=e5.at (F4.at na W3.la);rw[<- es] at L4;have W7:=W.did F3 (Nat.le_refl _) M3 F4 hu L4 e5 ok e rfl;have D5:=e5.draw (D3.frS F4 (by omega));walk_at "w5";refine ifT (by rw[e];rfl) ?_;walk_at "w5"
  try refine⟨u5 a5,?_⟩
  walk_at "w5";refine B5 a5 (by simp;omega) ?_;walk_at "w5";rw[List.length_set];exact hN _ _ _ _ _ _ _ _ ((D5.as5 (by omega)).snoc _) W7 (by simp) (by simp)
 ·walk_at "w5";refine aA5 (k:=k+8) hT.h6 hT.h7 hT.h191 f4 aC9 fun g5 e5=>?_;walk_at "w5";refine ifF (decide_eq_false e) ?_;walk_at "w5";exact hN _ _ _ _ _ _ _ _ ((e4.trans e5).draw D3) (W3.ex (e4.trans e5)) (by omega) (by omega)
theorem bh3(hT:T50 T)(W:Hw g d n r p q u a b m0 c0 H U)(D0:d6 g d)(hl1:H.length<=700)(hl2:U.length<=700){N:Ends}{z6 z7 z8 z9 z10:Option D}(hN:∀g' u' b' H' U' z7 z8 z9 z10,d6 g' d->Hw g' d n r p q u' a b' m0 c0 H' U'->H'.length<=H.length+1->U'.length<=U.length+1->N.nx [some (.ref 0),some (.ref d),some (.int n),some (.ref r),some (.ref a),some (.ref b'),z6,z7,z8,z9,z10] g') :
  wpS (a9 T (k+11)) b50 N [some (.ref 0),some (.ref d),some (.int n),some (.ref r),some (.ref a),some (.ref b),z6,z7,z8,z9,z10] g E:=by
 dsimp[b50,ad5];walk_at "w5";refine i4 hT.tv.h4 D0 (by decide) (by decide) fun r1 g1 _ _ D1 G1=>?_;have W1:=W.gr G1;walk_at "w5";have fin:∀(g':G) (u' b':Nat) (H' U':List Ent) (z8 z9 z10:Option D),d6 g' d->Hw g' d n r p q u' a b' m0 c0 H' U'->H'.length<=H.length+1->U'.length<=U.length+1->wpS (a9 T (k+11)) aJ2 N [some (.ref 0),some (.ref d),some (.int n),some (.ref r),some (.ref a),some (.ref b'),z6,some (.int r1),z8,z9,z10] g' E:=fun g' u' b' H' U' z8 z9 z10 D' W' h1 h2=>bh9 (k:=k) hT W' (by omega) fun g3 e3=>hN _ _ _ _ _ _ _ _ _ (e3.draw D') (W'.ex e3) h1 h2;have goC:∀N':Ends,(∀σ g,wpS (a9 T (k+11)) aJ2 N σ g E->N'.nx σ g)->wpS (a9 T (k+11)) a22 N' [some (.ref 0),some (.ref d),some (.int n),some (.ref r),some (.ref a),some (.ref b),z6,some (.int r1),z8,z9,z10] g1 E:=fun N' hN'=>a82 (k:=k) hT W1 D1 (by omega) fun g' u' b' H' U' z8 z9 z10 D' W' h1 h2=>hN' _ _ (fin _ _ _ _ _ _ _ _ D' W' h1 (by omega));refine if2 (fun c1=>?_) (fun c1=>?_)
 ·walk_at "w5";refine o6 (a7 W1.la) ?_;walk_at "w5";refine if2 (fun c2=>?_) (fun c2=>?_)
  ·rcases List.eq_nil_or_concat H with rfl|⟨H',t,rfl⟩
   ·simp at c2
   rw[List.concat_eq_append] at W1 hl1 fin;have e1:(m0,s0 n)::((H'++[t]).map fun t=>(t.mi,t.st))=((m0,s0 n)::H'.map fun t=>(t.mi,t.st))++[(t.mi,t.st)]:=by simp
   have L1:=W1.L;rw[e1,List.map_append (f:=Ent.dd)] at L1;walk_at "w5";refine e7 L1.ob rfl rfl ?_;walk_at "w5";refine aZ5 (k:=k+10) hT.h246 (t:=(t.mi,t.st)) L1 (by simp;omega) fun g2 F2 L2=>?_;have la2:=F2.at (by have:=W1.al;omega) W1.la;have lb2:=F2.at (by have:=W1.bl;omega) W1.lb;rw[List.map_append (f:=f6),<- List.cons_append] at la2;have lb3:=a6 lb2 W1.ab (o':=O.lst (.tup [.non,.ref c0]::H'.map f6));have W2:=W1.back F2 (by rw[List.map_append (f:=Ent.dd)];exact L2);have dd1:d6 g2 d:=D1.frS F2 (by have h1:=W1.lo p (.inl (.inr (.inl rfl)));have h2:=W1.lo q (.inl (.inr (.inr (.inl rfl))));have h3:=W1.lo u (.inl (.inr (.inr (.inr (.inl rfl)))));omega);have da:=W1.lo a (.inl (.inr (.inr (.inr (.inr (.inl rfl))))));have db:=W1.lo b (.inl (.inr (.inr (.inr (.inr (.inr rfl))))));walk_at "w5"
   try refine⟨u5 lb2,?_⟩
   walk_at "w5"
   try refine⟨Q1 la2,?_⟩
   walk_at "w5";refine W5 la2 ?_;walk_at "w5";refine B5 lb3 (by simp;omega) ?_;exact fin _ _ _ _ _ _ _ _ ((dd1.as5 (by omega)).as5 (by omega)) W2 (by simp;omega) (by simp)
  ·walk_at "w5";refine ifF (decide_eq_false (by omega)) ?_;refine ifF rfl ?_;exact goC _ fun σ g h=>h
 ·walk_at "w5";refine if2 (fun c2=>?_) (fun c2=>?_)
  ·walk_at "w5";refine o6 (a7 W1.lb) ?_;walk_at "w5";refine if2 (fun c3=>?_) (fun c3=>?_)
   ·rcases List.eq_nil_or_concat U with rfl|⟨U',t,rfl⟩
    ·simp at c3
    rw[List.concat_eq_append] at W1 hl2 fin;obtain⟨ms,m,L1,hl,es⟩:=W1.aH2;rw[List.map_append (f:=Ent.dd)] at L1;have hch:=W1.ch;rw[List.reverse_append,List.reverse_singleton,List.singleton_append,List.map_append,Chn.app] at hch;obtain⟨⟨k1,k2,k3⟩,_⟩:=hch.2;walk_at "w5";refine e7 L1.ob rfl rfl ?_;walk_at "w5";refine aQ1 (k:=k+3) hT.tl hT.tr.tq hT.h247 L1 (by simp;omega) k3 k1 fun g2 F2 L2=>?_;rw[<- es] at L2;have la2:=F2.at (by have:=W1.al;omega) W1.la;have lb2:=F2.at (by have:=W1.bl;omega) W1.lb;rw[List.map_append (f:=f6)] at lb2;have la3:=a6 la2 (Ne.symm W1.ab) (o':=O.lst (U'.map f6));have W2:=W1.again F2 (by
     rw[List.map_append,List.map_append,List.map_singleton,List.map_singleton,<- List.cons_append];rw[show(doS (t6 (s0 n) (H.map Ent.key)) t.dd).2.2=t.st from k2] at L2;exact L2)
    have dd1:d6 g2 d:=D1.frS F2 (by have h1:=W1.lo p (.inl (.inr (.inl rfl)));have h2:=W1.lo q (.inl (.inr (.inr (.inl rfl))));have h3:=W1.lo u (.inl (.inr (.inr (.inr (.inl rfl)))));omega);have da:=W1.lo a (.inl (.inr (.inr (.inr (.inr (.inl rfl))))));have db:=W1.lo b (.inl (.inr (.inr (.inr (.inr (.inr rfl))))));walk_at "w5"
    try refine⟨u5 la2,?_⟩
    walk_at "w5"
    try refine⟨Q1 lb2,?_⟩
    walk_at "w5";refine W5 lb2 ?_;walk_at "w5";refine B5 la3 (by simp;omega) ?_;exact fin _ _ _ _ _ _ _ _ ((dd1.as5 (by omega)).as5 (by omega)) W2 (by simp) (by simp;omega)
   ·exact goC _ fun σ g h=>h
  ·refine ifF rfl ?_;exact goC _ fun σ g h=>h
theorem aZ7(hT:T50 T){ns:List Int}:a9 T (k+12) 11 [.ref 0] [.fro (ns.map .int)] (fun d _=>d=.bl true) NoX:=by
 refine call_of hT.h11 rfl ?_;dsimp[ad5,b5,List.replicate];walk_at "w5";refine bc3 hT.h3 (a:=0) (ns:=ns) rfl fun d g D0 _ _=>?_;walk_at "w5";refine i4 hT.tv.h4 D0 (by decide) (by decide) fun r0 g1 r00 r01 D1 G1=>?_;walk_at "w5";obtain⟨v,hv,hm⟩:=M9 (l:=[3,9].map D.int) r00 (by simpa using r01);obtain⟨j,hj,rfl⟩:=List.mem_map.mp hm;have hj9:3<=j/\j<=9:=by simp at hj;omega
 refine aH5 hv ?_;walk_at "w5";refine i4 hT.tv.h4 D1 (by omega) (by omega) fun r2 g2 r20 r21 D2 G2=>?_;walk_at "w5";obtain⟨n,hn⟩:∃n:Nat,1+r2=n:=⟨(1+r2).toNat,by omega⟩
 rw[hn];have hn9:1<=n/\n<=9:=by omega
 refine aZ4 (k:=k+6) hT.tl hT.tr.tq.tm (fun n' e1 _ _=>?_) (fun hv=>absurd ⟨by omega,by omega⟩ hv);obtain rfl:n=n':=by omega
 refine⟨rfl,?_⟩;have dl:=D2.lt;have L3:=bd9 (g:=g2) hn9;have x3:Ex g2 (g2++[ad7 (g2.length+2) (g2.length+3) (g2.length+4),b8 (s0 n),.lst [.ref (g2.length+1)],.lst [],.lst []]):=⟨by simp,fun i hi=>List.getElem?_append_left hi⟩
 have D3:=x3.draw D2;have l3:(g2++[ad7 (g2.length+2) (g2.length+3) (g2.length+4),b8 (s0 n),.lst [.ref (g2.length+1)],.lst [],.lst []]).length=g2.length+5:=by simp
 generalize g2++[ad7 (g2.length+2) (g2.length+3) (g2.length+4),b8 (s0 n),.lst [.ref (g2.length+1)],.lst [],.lst []]=g3 at *;walk_at "w5";refine aP1 (k:=k+10) hT.h45 hn9.2 fun g4 x4 M4=>?_;have q4:=d0 M4.coins;walk_at "w5";have x5:Ex g4 (g4++[O.lst [.tup [.non,.ref g3.length]]]):=Ex.snoc _ _;have a5:(g4++[O.lst [.tup [.non,.ref g3.length]]])[g4.length]?=some (.lst (.tup [.non,.ref g3.length]::([]:List Ent).map f6)):=c5;have l5:(g4++[O.lst [.tup [.non,.ref g3.length]]]).length=g4.length+1:=by simp
 generalize g4++[O.lst [.tup [.non,.ref g3.length]]]=g5 at *;have x6:Ex g5 (g5++[O.lst []]):=Ex.snoc _ _;have b6:(g5++[O.lst []])[g5.length]?=some (.lst (([]:List Ent).map f6)):=c5;generalize g5++[O.lst []]=g6 at *;have W6:Hw g6 d n g2.length (g2.length+2) (g2.length+3) (g2.length+4) g4.length g5.length (g2.length+1) g3.length [] []:=by
  refine⟨L3.ex (x4.trans (x5.trans x6)),x6.at a5,b6,fun t ht=>by simp at ht,M4.ex (x5.trans x6),trivial,by omega,by omega,by omega,fun t ht=>by simp at ht,fun x h1 h2=>by unfold Vs;omega,fun x hx=>?_⟩;rcases hx with z|z|⟨y,hy,z⟩|z|⟨y,hy,z⟩
  ·unfold Vs at z;omega
  ·omega
  ·simp at hy
  ·omega
  ·simp at hy
 have D6:d6 g6 d:=(x4.trans (x5.trans x6)).draw D3;generalize g2.length+2=p at *;generalize g2.length+3=q at *;generalize g2.length+4=u at *;generalize g2.length+1=m0 at *;generalize g2.length=r at *;generalize g4.length=a at *;generalize g5.length=b at *;generalize g3.length=c0 at *;clear L3 x3 D3 x4 M4 x5 a5 x6 b6;refine ap2 (c9 T _) (br7 (c9 T _) ?_);walk_at "w5";refine i4 hT.tv.h4 D6 (by decide) (by decide) fun r9 g9 r90 r91 D9 G9=>?_;have W9:=W6.gr G9;walk_at "w5";refine⟨by omega,by omega,n0 0 (10+r9).toNat,fun i σ g=>d6 g d/\∃u b H U,Hw g d n r p q u a b m0 c0 H U/\H.length<=i/\U.length<=i/\∃z6 z7 z8 z9 z10,σ=[some (.ref 0),some (.ref d),some (.int n),some (.ref r),some (.ref a),some (.ref b),z6,z7,z8,z9,z10],fun i σ g p=>X9,⟨D9,_,_,[],[],W9,Nat.zero_le _,Nat.zero_le _,none,none,none,none,none,rfl⟩,fun i y σ g hy p=>?_,fun σ g p=>?_⟩
 ·obtain⟨D0,u,b,H,U,W,hl1,hl2,z6,z7,z8,z9,z10,rfl⟩:=p;obtain⟨hi,rfl⟩:=Z0 hy;refine A1 ?_;exact bh3 (k:=k) hT W D0 (by omega) (by omega) fun g' u' b' H' U' z7 z8 z9 z10 D' W' h1 h2=>⟨D',_,_,_,_,W',by omega,by omega,_,_,_,_,_,rfl⟩
 ·obtain⟨D0,u,b,H,U,W,hl1,hl2,z6,z7,z8,z9,z10,rfl⟩:=p
  try show wpS _ _ _ _ _ _
  walk_at "w5"
  rfl
end
end M

namespace Lk
open PySem L2 M
noncomputable def top(i:Nat):Stmt:=PySem.Challenge.pw_trussel_k50_ledgers_written.main.body.getD i (.Pass ⟨0,0,0,0⟩)
noncomputable def bf6:Stmt->List Stmt
 |.ClassDef (body:=b) ..=>b
 |_=>[]
noncomputable def bp7(i j:Nat):Stmt:=(bf6 (top i)).getD j (.Pass ⟨0,0,0,0⟩)
noncomputable def F:List RF:=[⟨41,"_wall",["k"],1,0,by7⟩,⟨38,"is_number",["thing"],1,19,X4⟩,⟨1,"number_from",["number","least","most"],3,20,O1⟩,⟨16,"both",["one","other"],2,21,aH1⟩,⟨40,"check_side",["side"],1,26,I9⟩,⟨177,"with_thing",["things","at","thing"],3,27,G8⟩,⟨42,"check_anvils",["anvils"],1,30,L9⟩,⟨43,"check_cut",["wear","die"],2,33,X5⟩,⟨238,"check_deed",["deed"],1,37,T1⟩,⟨239,"done_at",["mint","deed","word"],2,38,bd7⟩,⟨3,"_law_open",["_law_script"],1,41,ap7⟩,⟨4,"_law_pull",["_law_draw","_law_total_of","_law_cell","_law_got","_law_seed"],2,42,E3⟩,⟨5,"_law_far",["_law_draw","_law_number"],1,43,ad6⟩,⟨36,"_law_near",["_law_draw","_law_total_of"],2,44,ap8⟩,⟨6,"_law_num",["_law_found"],1,45,aj8⟩,⟨7,"_law_like",["_law_found","_law_due"],2,46,p8⟩,⟨45,"_law_model",["_law_anvils"],1,47,ag0⟩,⟨192,"_law_m_copy",["_law_m","_law_other","_law_word"],1,48,Q4⟩,⟨46,"_law_m_cut",["_law_m","_law_side_here"],2,49,aq1⟩,⟨178,"_law_m_fix",["_law_m","_law_die","_law_seat"],2,50,aq0⟩,⟨179,"_law_m_off",["_law_m","_law_die","_law_seat"],2,51,ap9⟩,⟨181,"_law_m_mark",["_law_m","_law_side_here","_law_die","_law_spot","_law_marks"],4,52,Q3⟩,⟨182,"_law_m_strike",["_law_m","_law_lower","_law_upper"],3,53,S9⟩,⟨183,"_law_m_do",["_law_m","_law_deed_here","_law_word"],2,54,aY9⟩,⟨37,"_law_number_of",["_law_draw","_law_numbers"],2,55,W8⟩,⟨29,"_law_side",["_law_draw"],1,56,ap6⟩,⟨188,"_law_deed",["_law_draw","_law_m","_law_turn","_law_on","_law_idle","_law_uppers","_law_side_here","_law_year","_law_years"],2,57,E6⟩,⟨191,"_law_same_end",["_law_found","_law_due"],2,58,S6⟩,⟨240,"_law_ledger_do",["_law_ledger","_law_deed_here"],2,59,H9⟩,⟨257,"_law_text",["_law_anvils","_law_deeds","_law_rows","_law_deed_here"],2,60,ap5⟩,⟨11,"law",["_law_script","_law_draw","_law_anvils","_law_ledger","_law_done","_law_undone","_law_turn","_law_way","_law_m","_law_deed_here","_law_due"],1,61,ad5⟩]
noncomputable def Ms:List RM:=[⟨51,"Mint","__init__","Mint.__init__",["self","anvils"],2,34,0,X0⟩,⟨52,"Mint","wear_of","Mint.wear_of",["self","side"],2,34,1,O2⟩,⟨53,"Mint","put_wear","Mint.put_wear",["self","side","wear"],3,34,2,L7⟩,⟨54,"Mint","cut","Mint.cut",["self","side","wear"],2,34,3,ad4⟩,⟨55,"Mint","fix","Mint.fix",["self","die","state","anvil"],2,34,4,ad3⟩,⟨56,"Mint","lay_off","Mint.lay_off",["self","die","anvil"],2,34,5,O4⟩,⟨57,"Mint","mark","Mint.mark",["self","side","die","spot","marks"],4,34,6,F7⟩,⟨58,"Mint","strike","Mint.strike",["self","lower","upper","coin"],3,34,7,O3⟩,⟨59,"Mint","begin_year","Mint.begin_year",["self","number"],2,34,8,C9⟩,⟨60,"Mint","anvils","Mint.anvils",["self"],1,34,9,O5⟩,⟨61,"Mint","dies","Mint.dies",["self","side"],2,34,10,am9⟩,⟨62,"Mint","marks","Mint.marks",["self","side","die","wear"],3,34,11,S8⟩,⟨63,"Mint","state","Mint.state",["self","die"],2,34,12,S7⟩,⟨64,"Mint","year","Mint.year",["self"],1,34,13,am8⟩,⟨65,"Mint","struck","Mint.struck",["self"],1,34,14,ab8⟩,⟨66,"Mint","coin","Mint.coin",["self","number"],2,34,15,an0⟩,⟨67,"Mint","hoard","Mint.hoard",["self","numbers"],2,34,16,ay5⟩,⟨68,"Mint","twin","Mint.twin",["self","other"],1,34,17,N5⟩,⟨243,"Ledger","__init__","Ledger.__init__",["self","anvils"],2,39,0,O7⟩,⟨244,"Ledger","go_on","Ledger.go_on",["self","deed","mint","given"],2,39,1,O8⟩,⟨245,"Ledger","do","Ledger.do",["self","deed","given"],2,39,2,X2⟩,⟨246,"Ledger","back","Ledger.back",["self","deed"],1,39,3,E5⟩,⟨247,"Ledger","again","Ledger.again",["self","deed"],1,39,4,B6⟩,⟨248,"Ledger","deeds","Ledger.deeds",["self"],1,39,5,X3⟩,⟨249,"Ledger","mint","Ledger.mint",["self"],1,39,6,O6⟩,⟨250,"Ledger","text","Ledger.text",["self","rows","deed"],1,39,7,E4⟩,⟨251,"Ledger","twin","Ledger.twin",["self","other"],1,39,8,ay6⟩]
noncomputable def con:List (Str×D):=[("LAST_SPOT",.int 7),("LAST_DIE",.int 99),("LAST_YEAR",.int 9999),("SIDES",.tup [(.str "lower"),(.str "upper")]),("MOST_ANVILS",.int 9),("MOST_STRUCK",.int 200)]
noncomputable def gd:List (Str×List D):=[("FORMS",[.tup [.str "cut",.tup [(.str "side")]],.tup [.str "fix",.tup [(.str "number")]],.tup [.str "off",.tup [(.str "number")]],.tup [.str "mark",.tup [(.str "side"),(.str "number"),(.str "number")]],.tup [.str "strike",.tup [(.str "number"),(.str "number")]],.tup [.str "year",.tup [(.str "number")]]])]
noncomputable def exc:List Str:=["BadAnvils","BadDeed","BadSide","BadSpot","BadYear","Fixed","Full","Gone","Marked","MintError","NoAnvil","NoCoin","NoDie","NotFixed","Nothing"]
noncomputable def c0:c6:=⟨[],[],true,F.map fun r=>(r.nm,r.id),con,["len","list","tuple","isinstance","all","range","int","bool","str","sorted","set","dict"],exc,gd,[("Mint",51),("Ledger",243)],Ms.map fun r=>(r.nm,r.cl,r.id),[("bench","Mint"),("laid_off","Mint"),("lower_wear","Mint"),("upper_wear","Mint"),("present","Mint"),("output","Mint"),("mints","Ledger"),("done","Ledger"),("undone","Ledger")],true,true⟩
noncomputable abbrev T:Nat->Option MDef:=aj4 F Ms
theorem tx:TabTx c0 F Ms top bp7:=by
 refine⟨rfl,rfl,by decide +kernel,by decide +kernel,by decide +kernel,by decide +kernel,?_,?_,?_,?_⟩
 all_goals
  repeat first
   |exact BF.nil
   |exact BM.nil
   |exact YF.nil
   |exact YM.nil
   |refine YF.cons (by kernel_rfl) ?_
   |refine YM.cons (by kernel_rfl) ?_
   |refine BF.cons (fun _ _ _ _ _ _ us hl=>(by rcases us with _|⟨_,_|⟨_,_|⟨_,_|⟨_,_|⟨_,_|⟨_,_|⟨_,_⟩⟩⟩⟩⟩⟩⟩<;>first|(simp at hl;done)|(exfalso;simp at hl;omega)|rfl)) ?_
   |refine BM.cons (fun _ _ _ _ _ _ us hl=>(by rcases us with _|⟨_,_|⟨_,_|⟨_,_|⟨_,_|⟨_,_|⟨_,_|⟨_,_⟩⟩⟩⟩⟩⟩⟩<;>first|(simp at hl;done)|(exfalso;simp at hl;omega)|rfl)) ?_
inductive al9:List DictEntry->List (Str×V)->Prop
 |nil:al9 [] []
 |cons {h:Int} {x:Str} {t:Tok} {u:Value} {v:V} {es:List DictEntry} {vs:List (Str×V)} (r:RelV v u) (q:al9 es vs):al9 (⟨h,.str x t,u⟩::es) ((x,v)::vs)
theorem al9.find{es vs}(x:Str)(h:al9 es vs):q8 (vs.lookup x) (findBy Value.isStrOf es.toArray x):=by
 induction h with
 |nil=>trivial
 |cons r q ih =>
  rename_i h y t u v es vs;unfold findBy at ih ⊢;rw[List.find?_toArray] at ih ⊢;rw[List.find?_cons,List.lookup_cons];by_cases e:x=y
  ·rw[show(x==y)=true from by simp[e],show Value.isStrOf x (.str y t)=true from by simp[Value.isStrOf,e]];exact r
  ·rw[show(x==y)=false from by simpa using e,show Value.isStrOf x (.str y t)=false from by simp[Value.isStrOf];exact fun z=>e (z.symm)];exact ih
theorem all_mk{l:PySem.W.OpenLaw}{w:World}{K:PySem.W.Frag}{h:Heap}{mg:Str->Option Value}{fa:Addr}{ca3 ga0 gv0_0 gv0_1 gv0_2 gv0_3 gv0_4 gv0_5:Addr}{t0 t1 t2 ct3_0 ct3_1 t4 t5 gt0_0 gt0_2 gt0_4 gt0_6 gt0_8 gt0_10 gu0_0_0 gu0_1_0 gu0_2_0 gu0_3_0 gu0_3_1 gu0_3_2 gu0_4_0 gu0_4_1 gu0_5_0:Tok}{csl3:Array (Option Value)}{cnn3:Nat}{gn0:Nat}{gh0_0 gh0_1 gh0_2 gh0_3 gh0_4 gh0_5:Int}{gw0_0:Array (Option Value)}{gm0_0:Nat}{gw0_1:Array (Option Value)}{gm0_1:Nat}{gw0_2:Array (Option Value)}{gm0_2:Nat}{gw0_3:Array (Option Value)}{gm0_3:Nat}{gw0_4:Array (Option Value)}{gm0_4:Nat}{gw0_5:Array (Option Value)}{gm0_5:Nat}(X:K.In h)(G:h.Ns mainGlobals mg)(hfa:mg "law"=some (.ref fa))(I:TabIn K c0 F Ms top bp7)(e0:PySem.W.nsIn K mainGlobals "LAST_SPOT"=some (some (Value.int 7 t0)))(e1:PySem.W.nsIn K mainGlobals "LAST_DIE"=some (some (Value.int 99 t1)))(e2:PySem.W.nsIn K mainGlobals "LAST_YEAR"=some (some (Value.int 9999 t2)))(e3:PySem.W.nsIn K mainGlobals "SIDES"=some (some (.ref ca3)))(ce3:K.lookup ca3=some ⟨.type "tuple",none,.seq #[Value.str "lower" ct3_0,Value.str "upper" ct3_1] cnn3,csl3⟩)(e4:PySem.W.nsIn K mainGlobals "MOST_ANVILS"=some (some (Value.int 9 t4)))(e5:PySem.W.nsIn K mainGlobals "MOST_STRUCK"=some (some (Value.int 200 t5)))(g0:PySem.W.nsIn K mainGlobals "FORMS"=some (some (.ref ga0)))(ge0:K.lookup ga0=some ⟨.type "dict",none,.dict #[⟨gh0_0,Value.str "cut" gt0_0,Value.ref gv0_0⟩,⟨gh0_1,Value.str "fix" gt0_2,Value.ref gv0_1⟩,⟨gh0_2,Value.str "off" gt0_4,Value.ref gv0_2⟩,⟨gh0_3,Value.str "mark" gt0_6,Value.ref gv0_3⟩,⟨gh0_4,Value.str "strike" gt0_8,Value.ref gv0_4⟩,⟨gh0_5,Value.str "year" gt0_10,Value.ref gv0_5⟩] gn0,#[]⟩)(gc0_0:K.lookup gv0_0=some ⟨.type "tuple",none,.seq #[Value.str "side" gu0_0_0] gm0_0,gw0_0⟩)(gc0_1:K.lookup gv0_1=some ⟨.type "tuple",none,.seq #[Value.str "number" gu0_1_0] gm0_1,gw0_1⟩)(gc0_2:K.lookup gv0_2=some ⟨.type "tuple",none,.seq #[Value.str "number" gu0_2_0] gm0_2,gw0_2⟩)(gc0_3:K.lookup gv0_3=some ⟨.type "tuple",none,.seq #[Value.str "side" gu0_3_0,Value.str "number" gu0_3_1,Value.str "number" gu0_3_2] gm0_3,gw0_3⟩)(gc0_4:K.lookup gv0_4=some ⟨.type "tuple",none,.seq #[Value.str "number" gu0_4_0,Value.str "number" gu0_4_1] gm0_4,gw0_4⟩)(gc0_5:K.lookup gv0_5=some ⟨.type "tuple",none,.seq #[Value.str "number" gu0_5_0] gm0_5,gw0_5⟩)(qgh0_0:gh0_0=PyData.keyHash w.params "cut")(qgh0_1:gh0_1=PyData.keyHash w.params "fix")(qgh0_2:gh0_2=PyData.keyHash w.params "off")(qgh0_3:gh0_3=PyData.keyHash w.params "mark")(qgh0_4:gh0_4=PyData.keyHash w.params "strike")(qgh0_5:gh0_5=PyData.keyHash w.params "year")(gs0:(ga0==sysModules)=false)
  : ∃fd:FuncData,(∀(s:Shared) (v:Value),BindsTo s fd ⟨[v],[]⟩ [("_law_script",v)])/\∀base:Heap,K.In base->base.Ns mainGlobals mg->FnOk l.prog w K mg base (CXE l.prog w) 80 fa fd ["_law_script"] (spD exc K 1 (a9 T 40 11)):=by
 have A:TabOk w K mg c0 T:=by
  refine bi0 I tx X G (fun x d hx=>?_) (fun x kvs hx=>?_)
  ·have hm:=PySem.mem_of_lookup hx;simp only[c0,con,List.mem_cons,List.mem_nil_iff,or_false] at hm;rcases hm with z|z|z|z|z|z
   ·cases z;exact⟨(.int 7),_,PySem.W.mg_of X G e0,⟨_,rfl⟩,fun _ _=>.int _⟩
   ·cases z;exact⟨(.int 99),_,PySem.W.mg_of X G e1,⟨_,rfl⟩,fun _ _=>.int _⟩
   ·cases z;exact⟨(.int 9999),_,PySem.W.mg_of X G e2,⟨_,rfl⟩,fun _ _=>.int _⟩
   ·cases z;exact⟨.ref ca3,_,PySem.W.mg_of X G e3,rfl,fun _ _=>.tup (vs:=[.str "lower",.str "upper"]) (.inr ⟨_,_,_,ce3,rfl,rfl,rfl,(by show 2<=sizeLine;decide),.cons ⟨_,rfl⟩ (.cons ⟨_,rfl⟩ (.nil))⟩) (.cons (.str _) (.cons (.str _) (.nil)))⟩
   ·cases z;exact⟨(.int 9),_,PySem.W.mg_of X G e4,⟨_,rfl⟩,fun _ _=>.int _⟩
   ·cases z;exact⟨(.int 200),_,PySem.W.mg_of X G e5,⟨_,rfl⟩,fun _ _=>.int _⟩
  ·have hm:=PySem.mem_of_lookup hx;simp only[c0,gd,List.mem_cons,List.mem_nil_iff,or_false] at hm;have z:=hm
   ·cases z;have er:al9 [⟨gh0_0,Value.str "cut" gt0_0,Value.ref gv0_0⟩,⟨gh0_1,Value.str "fix" gt0_2,Value.ref gv0_1⟩,⟨gh0_2,Value.str "off" gt0_4,Value.ref gv0_2⟩,⟨gh0_3,Value.str "mark" gt0_6,Value.ref gv0_3⟩,⟨gh0_4,Value.str "strike" gt0_8,Value.ref gv0_4⟩,⟨gh0_5,Value.str "year" gt0_10,Value.ref gv0_5⟩] [("cut",.ref gv0_0),("fix",.ref gv0_1),("off",.ref gv0_2),("mark",.ref gv0_3),("strike",.ref gv0_4),("year",.ref gv0_5)]:=.cons (v:=.ref gv0_0) rfl (.cons (v:=.ref gv0_1) rfl (.cons (v:=.ref gv0_2) rfl (.cons (v:=.ref gv0_3) rfl (.cons (v:=.ref gv0_4) rfl (.cons (v:=.ref gv0_5) rfl (.nil))))));exact⟨ga0,_,PySem.W.mg_of X G g0,⟨_,_,ge0,⟨⟨_,_,rfl,qgh0_0⟩,⟨⟨_,_,rfl,qgh0_1⟩,⟨⟨_,_,rfl,qgh0_2⟩,⟨⟨_,_,rfl,qgh0_3⟩,⟨⟨_,_,rfl,qgh0_4⟩,⟨⟨_,_,rfl,qgh0_5⟩,True.intro⟩⟩⟩⟩⟩⟩,gs0,fun x=>er.find x⟩,.cons (fun _ _=>.tup (vs:=[.str "side"]) (.inr ⟨_,_,_,gc0_0,rfl,rfl,rfl,(by show 1<=sizeLine;decide),.cons ⟨_,rfl⟩ (.nil)⟩) (.cons (.str _) (.nil))) (.cons (fun _ _=>.tup (vs:=[.str "number"]) (.inr ⟨_,_,_,gc0_1,rfl,rfl,rfl,(by show 1<=sizeLine;decide),.cons ⟨_,rfl⟩ (.nil)⟩) (.cons (.str _) (.nil))) (.cons (fun _ _=>.tup (vs:=[.str "number"]) (.inr ⟨_,_,_,gc0_2,rfl,rfl,rfl,(by show 1<=sizeLine;decide),.cons ⟨_,rfl⟩ (.nil)⟩) (.cons (.str _) (.nil))) (.cons (fun _ _=>.tup (vs:=[.str "side",.str "number",.str "number"]) (.inr ⟨_,_,_,gc0_3,rfl,rfl,rfl,(by show 3<=sizeLine;decide),.cons ⟨_,rfl⟩ (.cons ⟨_,rfl⟩ (.cons ⟨_,rfl⟩ (.nil)))⟩) (.cons (.str _) (.cons (.str _) (.cons (.str _) (.nil))))) (.cons (fun _ _=>.tup (vs:=[.str "number",.str "number"]) (.inr ⟨_,_,_,gc0_4,rfl,rfl,rfl,(by show 2<=sizeLine;decide),.cons ⟨_,rfl⟩ (.cons ⟨_,rfl⟩ (.nil))⟩) (.cons (.str _) (.cons (.str _) (.nil)))) (.cons (fun _ _=>.tup (vs:=[.str "number"]) (.inr ⟨_,_,_,gc0_5,rfl,rfl,rfl,(by show 1<=sizeLine;decide),.cons ⟨_,rfl⟩ (.nil)⟩) (.cons (.str _) (.nil))) (.nil))))))⟩
 obtain⟨f,fd,O,a,t⟩:=aA8 I tx _ (List.mem_of_getElem? (i:=30) rfl);cases hfa.symm.trans (PySem.W.mg_of X G a);obtain⟨oc,od,kV,doc,pm,an,cdv,ct,osl,rfl,lk,hcd⟩:=O.fn.ex;exact⟨_,fun s v=>.of_eq rfl,fun base kin gns=>bt4 kin gns A 40 11 _ _ fa _ rfl O⟩
theorem walk{l:PySem.W.OpenLaw}{q:Program}{loose:List Str}{XP:(Str->Option Value)->Heap->Prop}{YP:World->Heap->Prop}{d:DefRec}{K:Params->PySem.W.Frag}(hn:l.most=some 63)(hdf:d.params.defaults=[])(hY:∀(w:World) (h:Heap),YP w h->(K w.params).In h)(F:∀ (w:World) (mg:Str->Option Value) (fa:Addr) (h:Heap),(K w.params).In h->h.Ns mainGlobals mg->mg d.name=some (.ref fa) ->
   ∃ fd:FuncData,(∀ (s:Shared) (u:Value),BindsTo s fd ⟨[u],[]⟩ [("_law_script",u)])/\∀ base:Heap,(K w.params).In base->base.Ns mainGlobals mg->FnOk l.prog w (K w.params) mg base (CXE l.prog w) 80 fa fd ["_law_script"] (spD exc (K w.params) 1 (a9 T 40 11))) :
  PySem.W.WalkO q loose XP YP l.row.toRowW d [] (fun f vs=>PySem.call f vs) :=
 L2.a75 (n:=63) (k:=80) (x:="_law_script") (CX:=fun w=>CXE l.prog w) (sp:=fun w=>spD exc (K w.params) 1 (a9 T 40 11)) hn (by decide) hdf ⟨rfl,by decide,by decide⟩ hY F (fun w H a ns hl hO hS=>bq6 hO hS (aZ7 (k:=28) ⟨⟨⟨⟨⟨rfl,rfl⟩,rfl,rfl,rfl,rfl,rfl,rfl,rfl,rfl,rfl,rfl,rfl,rfl,rfl,rfl⟩,rfl,rfl,rfl,rfl,rfl,rfl,rfl⟩,rfl,rfl,rfl,rfl,rfl,rfl⟩,⟨rfl,rfl,rfl,rfl,rfl,rfl⟩,⟨rfl,rfl,rfl,rfl,rfl,rfl,rfl,rfl⟩,rfl,rfl,rfl,rfl,rfl,rfl,rfl,rfl,rfl,rfl,rfl,rfl⟩)) fun _ _ _ _ _ ⟨_,_,_,_,_,_,_,z⟩=>z
end Lk
open PySem PySem.W PyProof.Rows
set_option maxRecDepth 100000 in
set_option maxHeartbeats 0 in
theorem PySem.Challenge.cw_trussel_k50_ledgers_written_holds : PySem.Challenge.rw_trussel_k50_ledgers_written.Holds := by
 w_on;o_law;k_head;(case hw=>w_witness2)
 k_fill
 refine Lk.walk (l:=PySem.Challenge.rw_trussel_k50_ledgers_written) rfl rfl (fun w h Y=>PySem.W.kIn_of Y) ?F
 case F =>
  intro w mg fa h KX G hmg
  refine' Lk.all_mk KX G hmg ⟨?zz1,?zz2,?zz3,?zz4,?zz5,?zz6,?zz7⟩ ?_ ?_ ?_ ?_ ?_ ?_ ?_ ?_ ?_ ?_ ?_ ?_ ?_ ?_ ?_ ?_ ?_ ?_ ?_ ?_ ?_ ?_
  (case zz1=>repeat' first | (with_reducible show _=_;k_is) | exact M.PF.nil | apply M.PF.cons)
  (case zz2=>repeat' first | (with_reducible show _=_;k_is) | exact M.PM.nil | apply M.PM.cons)
  (case zz3=>repeat' first | (with_reducible show _=_;k_is) | exact M.PC.nil | apply M.PC.cons)
  (case zz4=>repeat' first | (with_reducible show _=_;k_is) | exact M.PA.nil | apply M.PA.cons)
  (case zz5=>repeat' first | (with_reducible show _=_;k_is) | exact M.PB.nil | apply M.PB.cons)
  (case zz6=>repeat' first | (with_reducible show _=_;first | (with_reducible show PySem.W.excIn _ _ _ _=true;k_exc) | k_is) | exact M.PX.nil | apply M.PX.cons)
  (case zz7=>kernel_rfl)
  all_goals try (with_reducible show _=_;k_is)
  all_goals try ((with_reducible show _=_);rfl)
#print axioms PySem.Challenge.cw_trussel_k50_ledgers_written_holds
