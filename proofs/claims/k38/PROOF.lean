import PyProof.Rows.All
import Wide.All
import OpenK.AllK
import Wide.FinOn
import Lean
import PyProof.EqAt
import PyProof.EqKinds
import PyProof.TupleCall
import PySem.Challenge.RW_trussel_k38_answers_of_mints_are_new
set_option Elab.async false
set_option linter.all false
set_option maxRecDepth 100000
set_option maxHeartbeats 4000000
namespace PySem.W.Fast
def tw2942213239691275453:=()
def tw7789057412529721247:=()
def tw11326231496836558657:=()
def tw5641435644264990021:=()
def tw291828727502894513:=()
def tw18234443186064588611:=()
def tw4665948733375070855:=()
def tw14043592011851627474:=()
def tw22412074731305422:=()
def tw13851361615324005171:=()
def tw16108144132648519688:=()
def tw10759319302222781619:=()
def tw2049302062967513801:=()
def tw2605153565474889368:=()
def tw15027486470295741336:=()
def tw6173718419588967789:=()
def tw4222372275262425265:=()
def tw11726284010908746355:=()
def tw12763151472890709810:=()
def tw1839736568270182319:=()
def tw15122794395307820684:=()
def tw445097969601700347:=()
def tw17402872659107106850:=()
def tw5946284455383200492:=()
def tw3871303532523653087:=()
def tw9286643065300613455:=()
def tw6184960280314800604:=()
def tw8008217912580941048:=()
def tw6296112970920744001:=()
def tw14193950571031196205:=()
def tw8542598316426574021:=()
def tw16208510347699342374:=()
def tw16357264020455037020:=()
def tw7720443960676085001:=()
def tw4084127661889712964:=()
def tw8760770000073249739:=()
def tw11405534330643084567:=()
def tw18256686126010969106:=()
def tw1879646588363786166:=()
def tw18316935633492012503:=()
def tw12002977780098746625:=()
def tw3825313721718557989:=()
def tw12962030412225912144:=()
def tw15643304445162333385:=()
def tw1627166329641180889:=()
def tw2692993468653072886:=()
def tw17482491900930260813:=()
def tw4131520381434586832:=()
def tw14549136917423194415:=()
def tw2276447199677488871:=()
def tw2887238190337345113:=()
def tw18076538037692210358:=()
def tw17451142069595787592:=()
def tw11413257537359995413:=()
def tw320522236773363549:=()
def tw15622825479164105564:=()
def tw8035046003048196918:=()
def tw6136246968683427690:=()
def tw8440718770320968139:=()
def tw4901228522913355402:=()
def tw12665993095436985421:=()
def tw6784603018578276550:=()
def tw11710557680642760662:=()
def tw15391840432476898483:=()
def tw1964157018407821674:=()
def tw43967699141969289:=()
def tw2696482423889702406:=()
def tw6635491268233772004:=()
def tw1765850624948422533:=()
def tw17095238070232060158:=()
def tw16516931471456272723:=()
def tw10130829425361353547:=()
def tw959281242893909031:=()
def tw573849274110559483:=()
def tw15540009716258810612:=()
def tw11946680766492039278:=()
def tw12532539128875218523:=()
def tw1743958498076533261:=()
def tw7096802282994341077:=()
def tw9746236105019752613:=()
def tw380261966105281413:=()
def tw10678685870873318812:=()
def tw2249804260410208076:=()
def tw7543089673411768434:=()
def tw9715279552142020082:=()
def tw3652582913997938917:=()
def tw16676568300001875612:=()
def tw6329205950232332219:=()
def tw9502481264425036102:=()
def tw11759778355840869020:=()
def tw18336234786061703131:=()
def tw5025224649703590913:=()
def tw16538387963512287565:=()
def tw13106664422768392520:=()
def tw8413059575904049527:=()
def tw15285400038231553724:=()
def tw7652371007617443105:=()
def tw9587979696359578677:=()
def tw10946553646379049966:=()
def tw4145944293139888703:=()
def tw1572588110756622431:=()
def tw11076595732863348323:=()
def tw154275572500032778:=()
def tw14046985555972623393:=()
def tw10905187404590816939:=()
def tw18399958682328688885:=()
def tw12269461231675344149:=()
def tw4034730615529804919:=()
def tw12108891987017559793:=()
def tw8363783180315705521:=()
def tw13572462136089917352:=()
def tw5982350945115352277:=()
def tw7515400910538683860:=()
def tw14557452355369983430:=()
def tw13941655311029678686:=()
def tw12099603287018689338:=()
def tw14160053125190589353:=()
def tw2702890294699859758:=()
def tw3922575732990265524:=()
def tw7689855665074970936:=()
def tw7092645793545881778:=()
def tw2245567976720154094:=()
def tw1131108792432056812:=()
def tw10370598491122471096:=()
def tw17856450033021566161:=()
def tw935925267684941368:=()
def tw8128221711674390254:=()
def tw12268143379442217230:=()
def tw7130670905087816129:=()
def tw14516156287573235501:=()
def tw38474701011661278:=()
def tw17112986946501368130:=()
def tw6034785711677277528:=()
def tw4747153568078601682:=()
def tw16956809283775585587:=()
def tw1320928383746872204:=()
def tw8050183185809463295:=()
def tw16843143955132418864:=()
def tw11875566152730569578:=()
def tw8034537313332649799:=()
def tw6638106772139711069:=()
def tw13514835455095470859:=()
def tw6159066687390760050:=()
def tw2959314854768370592:=()
def tw3538794315270777810:=()
def tw4159487705940948870:=()
def tw9521709673220584662:=()
def tw15920537931208587969:=()
def tw17165500878128280459:=()
def tw10421432061070582322:=()
def tw9203004279411424280:=()
def tw16660374458695501738:=()
def tw12310913969501917074:=()
def tw3258362977834365231:=()
def tw3637306914322955917:=()
def tw7880414421762454862:=()
def tw2862251716278235967:=()
def tw11750045380947619459:=()
def tw14075602768282344281:=()
def tw2054510767198475592:=()
def tw9347127846236722743:=()
def tw14432176452309330138:=()
def tw4100355152179456134:=()
def tw14567585885888201250:=()
def tw10751515349274341362:=()
def tw6022570328302584369:=()
def tw15095153853453637057:=()
def tw8067359160493943672:=()
def tw18075367679004418349:=()
def tw2660648832539293773:=()
def tw7605237224324860159:=()
def tw1783589749213534701:=()
def tw15530489591410491650:=()
def tw1775904873985893556:=()
def tw17203000124384149712:=()
def tw16676316423077806084:=()
def tw2836335141965550932:=()
def tw250501965549019614:=()
def tw3276389774691013828:=()
def tw6622660147813072190:=()
def tw1936860393945518830:=()
def tw9596629914190248573:=()
def tw7860080977963236303:=()
def tw13286121184364703546:=()
def tw17011001518256776578:=()
def tw1776426527420163821:=()
def tw5080882797971710160:=()
def tw14537327747765019336:=()
def tw8706331774519867070:=()
def tw7679357474490716114:=()
def tw11899736068608908020:=()
def tw11677403735144570312:=()
def tw16009675559220682317:=()
def tw12512361324905561760:=()
def tw3896876869202258346:=()
def tw15909237704272879119:=()
def tw16158035486274012579:=()
def tw804540849187957216:=()
def tw11341089099103943010:=()
def tw6705813582400744979:=()
def tw17929374452777234567:=()
def tw3747499279352872868:=()
def tw18236253487274069892:=()
def tw7406575695589641098:=()
def tw11569722820299016332:=()
def tw14299316076953247340:=()
def tw12750103087606795567:=()
def tw18042064089814980504:=()
def tw7279367240141665701:=()
def tw1722277764515840260:=()
def tw2780071474270127016:=()
def tw9683446803301724113:=()
def tw3067271866597050922:=()
def tw2687440919788576453:=()
def tw13760226508516424437:=()
def tw9970516990946831700:=()
def tw8588305824699361771:=()
def tw233785740900344800:=()
def tw17927969513148407860:=()
def tw11588569781790621763:=()
def tw14167343762206949980:=()
def tw9820591496988521006:=()
def tw5150335476764672921:=()
def tw10221465269042641682:=()
def tw5099804474844023229:=()
def tw12412258057434367084:=()
def tw14377260806208361924:=()
def tw13349941039512195310:=()
def tw14071467814582849667:=()
def tw17576430870802261122:=()
def tw5815137853580797709:=()
def tw15413784629138472332:=()
def tw11114344915649937430:=()
def tw11420661973371919920:=()
def tw9827612658664505461:=()
def tw17896776073662822503:=()
def tw15258301734617162636:=()
def tw1878540832291491766:=()
def tw6313831824788167803:=()
def tw17415180528588080094:=()
def tw18389249603409706003:=()
def tw5701192141598303012:=()
def tw9974580583635137314:=()
def tw11641682518979762153:=()
def tw13365240675465000990:=()
def tw12382064559386195980:=()
def tw11336684089777011069:=()
def tw13846615641527438183:=()
def tw10661673684295150948:=()
def tw10179181222707944528:=()
def tw16981707931625721716:=()
def tw10282699045541915688:=()
def tw3425961620286978741:=()
def tw13720020136315894268:=()
def tw9543095425962273580:=()
def tw9611920750144064566:=()
def tw2185864116844859511:=()
def tw16599540819953942855:=()
def tw7685677779341514160:=()
def tw14146870987488737424:=()
def tw9344502988554302010:=()
def tw14232028100550243704:=()
def tw1052929135347210017:=()
def tw2357157750294226195:=()
def tw5537873783318272365:=()
def tw2359868317474809311:=()
def tw16453123537405727877:=()
def tw14971607100219138837:=()
def tw3602420019252905755:=()
def tw17057256791933195512:=()
def tw12200848059658281271:=()
def tw13377360101150816107:=()
def tw12259613593485976028:=()
def tw9669628690867052230:=()
def tw18231200344959494846:=()
def tw4097750931826666049:=()
def tw13644426512024755473:=()
def tw12076278846613258110:=()
def tw7919167148765918420:=()
def tw10947522441152344473:=()
def tw9422697865938552589:=()
def tw3940140275726929403:=()
def tw14697768684254249841:=()
def tw14039728742170060287:=()
def tw10011659945247359221:=()
def tw11344717063679293780:=()
def tw17070279613528148525:=()
def tw7863542823383489675:=()
def tw11134955116546258130:=()
def tw12839074199653156651:=()
def tw7931641397468899613:=()
def tw15892885750513295356:=()
def tw12705842941755967677:=()
def tw17418176009310607336:=()
def tw13529906531163680398:=()
def tw4631305447232567411:=()
def tw9903708739120166584:=()
def tw17977027248682859905:=()
def tw6984029043327886296:=()
def tw14723567050371782744:=()
def tw17093757070717035142:=()
def tw1446467983496928096:=()
def tw6140475696214795995:=()
def tw9967479177924328020:=()
def tw10625862313130506267:=()
def tw391157335208063019:=()
def tw198492340240856280:=()
def tw7989054175614506668:=()
def tw2948220724883325572:=()
def tw15308943856583392267:=()
def tw14778801666985821375:=()
def tw8928389336776568237:=()
def tw16320261449473294499:=()
def tw16429503014226648113:=()
def tw5664199382469820986:=()
def tw5242547449866965137:=()
def tw9742874632407006340:=()
def tw16882303941129628885:=()
def tw5854944645471007395:=()
def tw767560925766124932:=()
def tw10267368541327274332:=()
def tw13091135716981354907:=()
def tw8794353525333116680:=()
def tw8394182370379244032:=()
def tw4499677477983145993:=()
def tw8132338931389860764:=()
def tw12780422194917282662:=()
def tw7275228360007477160:=()
def tw702055641010141939:=()
def tw16708698854391526618:=()
def tw4129314018682042869:=()
def tw12003938072434722334:=()
def tw10862977142959488677:=()
def tw10200453392978341279:=()
def tw144837360596538495:=()
def tw6517717146678729240:=()
def tw17011094703067202229:=()
def tw3662250981325460261:=()
def tw5104127764581010431:=()
def tw11038601703884681705:=()
def tw10196885848943549462:=()
def tw15869341836609951427:=()
def tw8585285913564255058:=()
def tw5813312827900918260:=()
def tw1693994639869046599:=()
def tw11256287397790760252:=()
def tw14838964090393952555:=()
def tw6455440829238999881:=()
def tw13606068700454887376:=()
def tw17577182757762212389:=()
def tw8289773111183881452:=()
def tw13756472064752116928:=()
def tw5647255391344157979:=()
def tw14255986118742186403:=()
def tw9109663422267254870:=()
def tw13502237076684562102:=()
def tw3448509942160898475:=()
def tw7283970894798552019:=()
def tw3734482957010608429:=()
def tw13691605932032126053:=()
def tw7401269995275168683:=()
def tw49043146833842011:=()
def tw6681647583402105890:=()
def tw267667770162798078:=()
def tw4622652439934189923:=()
def tw8301825772982223689:=()
def tw17244636791127910049:=()
def tw14033551999436862399:=()
def tw7733217321694971933:=()
def tw16585114733850305999:=()
def tw12330662464732179162:=()
def tw3120843638241824778:=()
def tw6660304050850297656:=()
def tw6334490472544858541:=()
def tw16495206561710645044:=()
def tw10595987422775455821:=()
def tw9367893991685504967:=()
def tw5320488747967639095:=()
def tw2310509146799206479:=()
def tw14340616017447744760:=()
def tw4974779619069386583:=()
def tw13641010584584554859:=()
def tw14721125853457247144:=()
def tw12276655823570143528:=()
def tw10041769797355526996:=()
def tw5795735454910697363:=()
def tw14747046562263099984:=()
def tw8347761401639307495:=()
def tw599531242596735488:=()
def tw1647716404607147250:=()
def tw18332686137504293568:=()
def tw16140459018526656667:=()
def tw10366645737457094988:=()
def tw1605534637199663844:=()
def tw17791091772702402688:=()
def tw17755585541479086445:=()
def tw11516102275933187100:=()
def tw18146809124070387646:=()
def tw4612453638007966246:=()
def tw13684159705352024328:=()
def tw8360367690966139750:=()
def tw18092137731873843785:=()
def tw7880736837976916859:=()
def tw1694963443982210734:=()
def tw1327905207151778290:=()
def tw16200640466552422327:=()
def tw4922229903156138099:=()
def tw18387367169731610813:=()
def tw16430574618666208880:=()
def tw1788137530849757075:=()
def tw17864008228698953735:=()
def tw15522336124230950608:=()
def tw17679590014105811381:=()
def tw12396767513676821333:=()
def tw9808349345070355202:=()
def tw7556642537740334678:=()
def tw1077795001793970861:=()
def tw5634776876653296329:=()
def tw8145178583018485687:=()
def tw3881668272315826296:=()
def tw8990231154074233781:=()
def tw17217969903756852973:=()
def tw3509153276409730252:=()
def tw11812606092045052122:=()
def tw6005347837544045091:=()
def tw12797483853890700737:=()
def tw11236412834919188691:=()
def tw13368706073709325596:=()
def tw7134565091425917359:=()
def tw11290395807224500340:=()
def tw715021650374278605:=()
def tw10241094433067054875:=()
def tw15617836584116590877:=()
def tw11030772390022965388:=()
def tw8952051734550509226:=()
def tw5247267225011380960:=()
def tw14776262927090377525:=()
def tw15610351028216828827:=()
def tw15084412468070574182:=()
def tw10450138261574718582:=()
def tw13773734360957282905:=()
def tw11648927492256794721:=()
def tw11990776441125846668:=()
def tw2708925306900946646:=()
def tw8690880400959305862:=()
def tw7106426426517000249:=()
def tw777139109742220507:=()
def tw8814780603509922741:=()
def tw10357201083774590915:=()
def tw2058716345150578011:=()
def tw11301095681234341195:=()
def tw15958011995636229587:=()
def tw8911975749470277954:=()
def tw8909606284099930626:=()
def tw3291310263614534905:=()
def tw16518355688570516015:=()
def tw14917368255043237837:=()
def tw14089748500928200961:=()
def tw10846573099515387258:=()
def tw9097525410361089707:=()
def tw2691488343801955395:=()
def tw16815138985765878604:=()
def tw433406698296294980:=()
def tw8009051299423030045:=()
def tw2157830653811129630:=()
def tw6634026061401898351:=()
def tw11004647049103741059:=()
def tw7713414442664493465:=()
def tw4335230496027935753:=()
def tw16056175902360501472:=()
def tw4390909917277558218:=()
def tw990523865693721456:=()
def tw3934623986442184109:=()
def tw10310716720587986536:=()
def tw6915258922663380284:=()
def tw4234781720181332410:=()
def tw6348506774503048874:=()
def tw16971254545462403924:=()
def tw11176229947291533881:=()
def tw6981680026906568672:=()
def tw12594028476522258290:=()
def tw7537772565684290373:=()
def tw14399933929244078242:=()
def tw13289396548483940990:=()
def tw12789854079411456577:=()
def tw14439245853301096125:=()
def tw11591208210607711392:=()
def tw4336144151932443161:=()
def tw12649463734243785120:=()
def tw14937518222963966335:=()
def tw14394908683963557049:=()
def tw10234028905043535241:=()
def tw14074486230123846956:=()
def tw13106937738924046284:=()
def tw4439988668619907007:=()
def tw8776305037278326484:=()
def tw977764797700335228:=()
def tw2870678636162400984:=()
def tw9496005395440356624:=()
def tw16310419527186629552:=()
def tw5478986361782572319:=()
def tw7116261362225112605:=()
def tw9996280390227301796:=()
def tw4232914599194556289:=()
def tw13926739534816751333:=()
def tw4007239649164478247:=()
def tw13224017617991870488:=()
def tw1164753953888623065:=()
def tw11650339346675541840:=()
def tw2147726079823876437:=()
def tw8190317326172298663:=()
def tw13482239280631114817:=()
def tw934917466347983835:=()
def tw4204634396718203294:=()
def tw12384421342149841732:=()
def tw6154390226908026886:=()
def tw6291570603217578509:=()
def tw10028432200372814782:=()
def tw17793490673779501121:=()
def tw15442863260636405861:=()
def tw3345480893636871186:=()
def tw9367117263855826221:=()
def tw10028280840787423674:=()
def tw1677493931082728547:=()
def tw5598271280593888936:=()
def tw2594676693938508465:=()
def tw6852851406243546791:=()
def tw6317300658585909052:=()
def tw5570768792389085662:=()
def tw13085038445339574630:=()
def tw2964227113498346504:=()
def tw15932248071187817345:=()
def tw17148181478985283466:=()
def tw10290996663859036978:=()
def tw5938642160497917712:=()
def tw10447426967150267732:=()
def tw18021054167359749847:=()
def tw16635399155760504417:=()
def tw5679243455647968186:=()
def tw5963732223977411868:=()
def tw12989580555682578593:=()
def tw3981320653055535127:=()
def tw3521006899755639738:=()
def tw5405745442975895862:=()
def tw8096650569433329559:=()
def tw3629888451368660907:=()
def tw11417419770006405938:=()
def tw17322047054279620749:=()
def tw4031767736307622111:=()
def tw12409041109432267324:=()
def tw91900112827377335:=()
def tw10200616026540946859:=()
def tw6394244131428482540:=()
def tw13445375150167964093:=()
def tw3293327215162899301:=()
def tw8993060195150403129:=()
def tw14955095241179873900:=()
def tw8216349016901233769:=()
def tw8465630289076007346:=()
def tw7399372777073633420:=()
def tw9863576317976996194:=()
def tw4679981586062470036:=()
def tw10041620370442358683:=()
def tw8348470923351007850:=()
def tw9768937032169328729:=()
def tw8529917864569244986:=()
def tw9818993340316524950:=()
def tw8590120959631632104:=()
def tw17324080587497970753:=()
def tw1277002939389772671:=()
def tw1017364123970941005:=()
def tw11736185946983459501:=()
def tw9335962152851493951:=()
def tw822516854471687130:=()
end PySem.W.Fast
namespace L2
open PySem PySem.Spec PyProof.Rows
noncomputable abbrev Key:=Sum Int Str
noncomputable def ad0:Key->Value->Bool
 | .inl k,v=>Value.isInt k v
 | .inr x,v=>Value.isStrOf x v
noncomputable def bN6 (w:World):Key->Int
 | .inl k=>hashInt k
 | .inr x=>hashStr w x
theorem s9:∀ {k:Key} {v:Value},ad0 k v=true->(∃ i t,k=Sum.inl i/\v=Value.int i t) \/ (∃ x t,k=Sum.inr x/\v=Value.str x t)
 | .inl i,v,h=>by
  obtain ⟨t,e⟩:=Value.isInt_shape (k:=i) (v:=v) h
  exact .inl ⟨i,t,rfl,e⟩
 | .inr x,v,h=>by
  obtain ⟨t,e⟩:=Value.isStrOf_shape (x:=x) (v:=v) h
  exact .inr ⟨x,t,rfl,e⟩
theorem aQ0 (i:Int) (t:Tok):ad0 (.inl i) (.int i t)=true:=by simp [ad0,Value.isInt]
theorem aP9 (x:Str) (t:Tok):ad0 (.inr x) (.str x t)=true:=by simp [ad0,Value.isStrOf]
theorem br7 (a b:Int):decide ((Sum.inl a:Key)=Sum.inl b)=(a == b):=by
 by_cases e:a=b
 ·subst e;simp
 ·have h:¬ (Sum.inl a:Key)=Sum.inl b:=fun q=>e (Sum.inl.inj q)
  rw [decide_eq_false h]
  exact (beq_eq_false_iff_ne.mpr e).symm
theorem br4 (a b:Str):decide ((Sum.inr a:Key)=Sum.inr b)=decide (a=b):=by
 by_cases e:a=b
 ·subst e;simp
 ·have h:¬ (Sum.inr a:Key)=Sum.inr b:=fun q=>e (Sum.inr.inj q)
  rw [decide_eq_false h,decide_eq_false e]
theorem br6 (a:Int) (b:Str):decide ((Sum.inl a:Key)=Sum.inr b)=false:=decide_eq_false (fun q=>nomatch q)
theorem br5 (a:Str) (b:Int):decide ((Sum.inr a:Key)=Sum.inl b)=false:=decide_eq_false (fun q=>nomatch q)
noncomputable def p9 (prog:Program) (w:World):PySem.KeyKind prog w Key where
 is:=ad0
 hash:=bN6 w
 inj:=fun v a b ha hb=>by
  rcases s9 ha with ⟨i,t,rfl,rfl⟩ | ⟨x,t,rfl,rfl⟩
  ·rcases s9 hb with ⟨j,u,rfl,e⟩ | ⟨y,u,rfl,e⟩
   ·injection e with e1 _;rw [e1]
   ·exact nomatch e
  ·rcases s9 hb with ⟨j,u,rfl,e⟩ | ⟨y,u,rfl,e⟩
   ·exact nomatch e
   ·injection e with e1 _;rw [e1]
 byValue:=fun k v h=>by
  rcases s9 h with ⟨i,t,rfl,rfl⟩ | ⟨x,t,rfl,rfl⟩ <;> rfl
 pyHash:=fun hv h=>by
  rcases s9 hv with ⟨i,t,rfl,rfl⟩ | ⟨x,t,rfl,rfl⟩
  ·exact wpAny_pyHash_int h
  ·exact wpAny_pyHash_str h
 eqBool:=fun hu hv h=>by
  rcases s9 hu with ⟨i,t,rfl,rfl⟩ | ⟨x,t,rfl,rfl⟩
  ·rcases s9 hv with ⟨j,u,rfl,rfl⟩ | ⟨y,u,rfl,rfl⟩
   ·rw [br7] at h;exact wpAny_eqBool_int h
   ·rw [br6] at h;exact SeqAt.EqAt.int_str i t y u _ _ _ _ h
  ·rcases s9 hv with ⟨j,u,rfl,rfl⟩ | ⟨y,u,rfl,rfl⟩
   ·rw [br5] at h;exact SeqAt.EqAt.str_int x t j u _ _ _ _ h
   ·rw [br4] at h;exact wpAny_eqBool_str h
 «strs»:=fun k x t v h=>by
  rcases s9 h with ⟨i,u,rfl,e⟩ | ⟨y,u,rfl,e⟩
  ·exact nomatch e
  ·injection e with e1 _
   subst e1
   cases v <;> rfl
theorem aA7 (prog:Program) (w:World) (i:Int) (t:Tok):(p9 prog w).is (.inl i) (.int i t)=true:=aQ0 i t
theorem aA6 (prog:Program) (w:World) (x:Str) (t:Tok):(p9 prog w).is (.inr x) (.str x t)=true:=aP9 x t
end L2
namespace L2
open PySem PySem.Spec PyProof.Rows
inductive V where
 | non | bl (b:Bool) | int (i:Int) | str (x:Str) | byt (b:Array UInt8) | flt (b:UInt64) | ref (a:Addr) | ty (n:String)
 deriving DecidableEq
noncomputable def RelV:V->Value->Prop
 | .non,u=>u=Value.none
 | .bl b,u=>u=Value.bool b
 | .int i,u=>∃ t,u=Value.int i t
 | .str x,u=>∃ t,u=Value.str x t
 | .byt b,u=>∃ t,u=Value.bytes b t
 | .flt b,u=>∃ t,u=Value.float b t
 | .ref a,u=>u=Value.ref a
 | .ty n,u=>u=Value.type n
noncomputable abbrev Vals:List V->List Value->Prop:=Paired RelV
theorem Vals.length {xs:List V} {us:List Value} (r:Vals xs us):xs.length=us.length:=Paired.length r
theorem Vals.get:∀ {xs:List V} {us:List Value} {i:Nat} {x:V},Vals xs us->xs[i]?=some x->∃ u,us[i]?=some u/\RelV x u
 | _,_,_,_,.nil,e=>by simp at e
 | _,_,0,_,.cons r _,e=>by simp at e;subst e;exact ⟨_,rfl,r⟩
 | _,_,i + 1,x,.cons _ t,e=>by
  obtain ⟨u,h1,h2⟩:=Vals.get (i:=i) (x:=x) t (by simpa using e)
  exact ⟨u,by simpa using h1,h2⟩
theorem Vals.set {x:V} {u:Value} (r:RelV x u):∀ {xs:List V} {us:List Value} (i:Nat),Vals xs us->Vals (xs.set i x) (us.set i u)
 | _,_,_,.nil=>.nil
 | _,_,0,.cons _ t=>.cons r t
 | _,_,i + 1,.cons q t=>.cons q (Vals.set r i t)
theorem Vals.append:∀ {xs ys:List V} {us ws:List Value},Vals xs us->Vals ys ws->Vals (xs ++ ys) (us ++ ws)
 | _,_,_,_,.nil,s=>s
 | _,_,_,_,.cons r t,s=>.cons r (Vals.append t s)
theorem Vals.take:∀ {xs:List V} {us:List Value} (n:Nat),Vals xs us->Vals (xs.take n) (us.take n)
 | _,_,0,_=>.nil
 | _,_,_ + 1,.nil=>.nil
 | _,_,n + 1,.cons r t=>.cons r (Vals.take n t)
theorem Vals.drop:∀ {xs:List V} {us:List Value} (n:Nat),Vals xs us->Vals (xs.drop n) (us.drop n)
 | _,_,0,r=>r
 | _,_,_ + 1,.nil=>.nil
 | _,_,n + 1,.cons _ t=>Vals.drop n t
noncomputable def A8:Option V->Option Value->Prop
 | some v,some u=>RelV v u
 | none,none=>True
 | _,_=>False
noncomputable def KV {κ:Type}:List (κ × V)->List (κ × Value)->Prop:=Paired fun (p:κ × V) (q:κ × Value)=>p.1=q.1/\RelV p.2 q.2
noncomputable def kV:Key->V
 | .inl i=>.int i
 | .inr x=>.str x
inductive HO where
 | lst (xs:List V)
 | tup (xs:List V)
 | dK (kvs:List (Key × V)) | dT (kvs:List (List Key × V))
 | set (S:Int->Bool) (n:Nat)
 | ins (C dx:Addr) (fs:List (Str × V))
 | own (x:Addr)
 | xd (fs:List (Str × V))
 | met (f x:Addr)
 | rng (lo hi:Int)
 | frz (o:Obj) (u:HO)
 | tbl (ps:Array Value)
 | ext (φ:Heap->Prop)
noncomputable abbrev Hp:=Addr->Option HO
noncomputable def upd (H:Hp) (a:Addr) (o:HO):Hp:=fun b=>if b=a then some o else H b
theorem o9 {H:Hp} {a:Addr} {o:HO}:upd H a o a=some o:=by unfold upd;rw [if_pos rfl]
theorem j6 {H:Hp} {a b:Addr} {o:HO} (h:b ≠ a):upd H a o b=H b:=by unfold upd;rw [if_neg h]
theorem bz8 {H:Hp} {a b:Addr} {o u:HO} (h:H a=some o) (h':H b=some u) (d:o ≠ u):a ≠ b:=by
 intro e;subst e;rw [h] at h';exact d (Option.some.inj h')
theorem p0 {H:Hp} {a b:Addr} {o:HO} (h:H a=some o) (h':H b=none):a ≠ b:=by
 intro e;subst e;rw [h] at h';cases h'
noncomputable def C6 (h:Heap) (a:Addr) (items:Array Value):Prop:=∃ o,h.get? a=some o/\o.cls=.type "tuple"/\(∃ n,o.data=.seq items n)/\o.dict=none
theorem C6.tup {h:Heap} {a:Addr} {items:Array Value} (x:C6 h a items):IsTup h a items:=let ⟨o,e,c,d,_⟩:=x;⟨o,e,c,d⟩
theorem C6.new (h:Heap) (items:Array Value):C6 (h.push { cls:=.type "tuple",data:=.seq items }) h.objs.size items:=⟨_,Heap.get?_push_size _ rfl,rfl,⟨_,rfl⟩,rfl⟩
section
variable (P:Program) (w:World)
noncomputable def l8 (H:Hp) (h:Heap) (a:Addr):HO->Prop
 | .lst xs=>xs.length <= sizeLine/\∃ (its:List Value) (n:Nat),Vals xs its/\h.get? a=some { cls:=.type "list",data:=.seq its.toArray n }
 | .tup xs=>xs.length <= sizeLine/\∃ its:List Value,Vals xs its/\C6 h a its.toArray
 | .dK kvs=>kvs.length <= sizeLine/\(a == sysModules)=false/\∃ vs,KV kvs vs/\h.DictOf (p9 P w) a vs
 | .dT kvs=>kvs.length <= sizeLine/\(a == sysModules)=false/\∃ xs:List (List Key × Addr × Value),
   Paired (fun (p:List Key × V) (q:List Key × Addr × Value)=>p.1=q.1/\H q.2.1=some (.tup (p.1.map kV))/\RelV p.2 q.2.2) kvs xs /\
   ∃ o es ep,h.get? a=some o/\o.ExactDict/\o.data=.dict es ep/\es.toList=xs.map (entryOfKey (tupleKind (p9 P w)))/\(xs.map (·.1)).Nodup
 | .set S n=>h.SetOf (intKind P w) a S n
 | .ins C dx fs=>H dx=some (.own a)/\fs.length <= 1000/\dx ≠ a/\h.get? a=some (PySem.W.instObj C dx) /\
   ∃ mA,h.Ns1 dx mA/\(∀ f,A8 (fs.lookup f) (mA f))/\PySem.Within mA (fs.map (·.1))
 | .own _=>∃ o,h.get? a=some o
 | .xd fs=>∃ mA,h.Ns1 a mA/\∀ f,A8 (fs.lookup f) (mA f)
 | .rng lo hi=>∃ t u v,h.get? a=some { cls:=.type "range",data:=.fields #[.int lo t,.int hi u,.int 1 v] }
 | .frz o u=>h.get? a=some o/\l8 H h a u
 | .tbl ps=>h.get? a=some { cls:=.none,data:=.fields ps }
 | .met f x=>h.get? a=some (PySem.W.methodObj (.ref f) (.ref x))
 | .ext φ=>φ h/\(∃ o,h.get? a=some o)/\∀ h1 h2:Heap,φ h1->(∀ o,h1.get? a=some o->h2.get? a=some o)->φ h2
noncomputable def HOk (H:Hp) (h:Heap):Prop:=∀ a o,H a=some o->l8 P w H h a o
end
section
variable {P:Program} {w:World} {H H':Hp} {h h':Heap} {a:Addr} {o:HO}
theorem l8.lt (x:l8 P w H h a o):a < h.objs.size:=by
 cases o with
 | lst xs=>obtain ⟨_,_,_,_,e⟩:=x;exact Heap.lt_size e
 | tup xs=>obtain ⟨_,_,_,p⟩:=x;exact p.tup.lt
 | dK kvs=>obtain ⟨_,_,_,_,o,_,_,e,_⟩:=x;exact Heap.lt_size e
 | dT kvs=>obtain ⟨_,_,_,_,o,_,_,e,_⟩:=x;exact Heap.lt_size e
 | set S n=>obtain ⟨o,_,_,_,e,_⟩:=x;exact Heap.lt_size e
 | ins C dx fs=>obtain ⟨_,_,_,e,_⟩:=x;exact Heap.lt_size e
 | own y=>obtain ⟨_,e⟩:=x;exact Heap.lt_size e
 | xd fs=>obtain ⟨_,⟨_,_,_,e,_⟩,_⟩:=x;exact Heap.lt_size e
 | rng lo hi=>obtain ⟨_,_,_,e⟩:=x;exact Heap.lt_size e
 | frz ob u=>obtain ⟨e,_⟩:=x;exact Heap.lt_size e
 | tbl ps=>exact Heap.lt_size (show h.get? a=some _ from x)
 | met f y=>exact Heap.lt_size (show h.get? a=some _ from x)
 | ext φ=>obtain ⟨_,⟨_,e⟩,_⟩:=x;exact Heap.lt_size e
theorem Paired.aY6 {α β:Type} {F G:α->β->Prop}:∀ {l₁:List α} {l₂:List β},Paired F l₁ l₂->(∀ a b,F a b->G a b)->Paired G l₁ l₂
 | _,_,.nil,_=>.nil
 | _,_,.cons r t,f=>.cons (f _ _ r) (Paired.aY6 t f)
theorem l8.Z6 (x:l8 P w H h a o) (k:∀ b u,(b=a \/ H b=some (.own a))->h.get? b=some u->h'.get? b=some u)
  (ho:∀ b,H b=some (.own a)->H' b=some (.own a)) (ht:∀ b xs,H b=some (.tup xs)->H' b=some (.tup xs)):l8 P w H' h' a o:=by
 induction o with
 | lst xs=>obtain ⟨z,its,n,r,e⟩:=x;exact ⟨z,its,n,r,k _ _ (.inl rfl) e⟩
 | tup xs=>obtain ⟨z,its,r,ob,e,c⟩:=x;exact ⟨z,its,r,ob,k _ _ (.inl rfl) e,c⟩
 | dK kvs=>obtain ⟨z,y,vs,r,ob,es,ep,e,c⟩:=x;exact ⟨z,y,vs,r,ob,es,ep,k _ _ (.inl rfl) e,c⟩
 | dT kvs =>
  obtain ⟨z,y,xs,r,ob,es,ep,e,c⟩:=x
  exact ⟨z,y,xs,Paired.aY6 r fun p q z=>⟨z.1,ht _ _ z.2.1,z.2.2⟩,ob,es,ep,k _ _ (.inl rfl) e,c⟩
 | set S n=>obtain ⟨ob,es,ep,t,e,c⟩:=x;exact ⟨ob,es,ep,t,k _ _ (.inl rfl) e,c⟩
 | ins C dx fs =>
  obtain ⟨d,z,ne,e,mA,⟨od,es,ep,e2,c⟩,r⟩:=x
  exact ⟨ho _ d,z,ne,k _ _ (.inl rfl) e,mA,⟨od,es,ep,k _ _ (.inr d) e2,c⟩,r⟩
 | own y=>obtain ⟨ob,e⟩:=x;exact ⟨ob,k _ _ (.inl rfl) e⟩
 | xd fs=>obtain ⟨mA,⟨od,es,ep,e,c⟩,r⟩:=x;exact ⟨mA,⟨od,es,ep,k _ _ (.inl rfl) e,c⟩,r⟩
 | rng lo hi=>obtain ⟨t,u,v,e⟩:=x;exact ⟨t,u,v,k _ _ (.inl rfl) e⟩
 | frz ob u ih=>obtain ⟨e,q⟩:=x;exact ⟨k _ _ (.inl rfl) e,ih q⟩
 | tbl ps =>
  have e:h.get? a=some { cls:=.none,data:=.fields ps }:=x
  show h'.get? a=some { cls:=.none,data:=.fields ps }
  exact k a _ (.inl rfl) e
 | met f y =>
  have e:h.get? a=some (PySem.W.methodObj (.ref f) (.ref y)):=x
  show h'.get? a=some (PySem.W.methodObj (.ref f) (.ref y))
  exact k a _ (.inl rfl) e
 | ext φ=>obtain ⟨p,⟨o,e⟩,st⟩:=x;exact ⟨st _ _ p fun o q=>k _ _ (.inl rfl) q,⟨o,k _ _ (.inl rfl) e⟩,st⟩
theorem HOk.lt (x:HOk P w H h) (e:H a=some o):a < h.objs.size:=(x a o e).lt
theorem HOk.fresh (x:HOk P w H h) (e:h.objs.size <= a):H a=none:=by
 cases q:H a with
 | none=>rfl
 | some u=>exact absurd (Nat.lt_of_lt_of_le (x.lt q) e) (Nat.lt_irrefl _)
theorem HOk.kept (x:HOk P w H h) (k:∀ b u,h.get? b=some u->h'.get? b=some u):HOk P w H h':=fun a o e =>
 (x a o e).Z6 (fun b u _ q=>k b u q) (fun _ q=>q) fun _ _ q=>q
theorem HOk.laid (x:HOk P w H h) (k:∀ b u,h.get? b=some u->h'.get? b=some u) (hp:h.objs.size <= a) (new:l8 P w (upd H a o) h' a o):HOk P w (upd H a o) h':=fun b u e=>by
 have hn:=x.fresh hp
 by_cases hb:b=a
 ·subst hb;rw [o9] at e;cases e;exact new
 ·rw [j6 hb] at e
  exact (x b u e).Z6 (fun c v _ q=>k c v q) (fun c q=>by rw [j6 (p0 q hn)];exact q) fun c xs q=>by rw [j6 (p0 q hn)];exact q
end
noncomputable def Rd (H:Hp) (a:Addr) (u:HO):Prop:=H a=some u \/ ∃ o,H a=some (.frz o u)
theorem Rd.ok {P:Program} {w:World} {H:Hp} {h:Heap} {a:Addr} {u:HO} (r:Rd H a u) (x:HOk P w H h):l8 P w H h a u:=by
 rcases r with r | ⟨o,r⟩
 ·exact x a u r
 ·obtain ⟨_,q⟩:=x a _ r
  exact q
noncomputable def Mut:Option HO->Prop
 | some (.lst _)=>True
 | some (.dK _)=>True
 | some (.dT _)=>True
 | some (.set _ _)=>True
 | some (.ins _ _ _)=>True
 | some (.ext _)=>True
 | _=>False
section
variable {P:Program} {w:World} {H:Hp} {h h':Heap} {x e:Addr} {o':HO}
theorem HOk.write (ok:HOk P w H h) (mu:Mut (H x)) (he:e=x \/ H e=some (.own x)) (k:∀ b u,b ≠ e->h.get? b=some u->h'.get? b=some u) (heo:∃ u,h'.get? e=some u)
  (new:l8 P w (upd H x o') h' x o'):HOk P w (upd H x o') h':=fun b u q=>by
 have nown:∀ c y,H c=some (.own y)->c ≠ x:=fun c y r z=>by subst z;rw [r] at mu;exact mu
 have ntup:∀ c xs,H c=some (.tup xs)->c ≠ x:=fun c xs r z=>by subst z;rw [r] at mu;exact mu
 by_cases hb:b=x
 ·subst hb;rw [o9] at q;cases q;exact new
 ·rw [j6 hb] at q
  by_cases hbe:b=e
  ·have q':H b=some (.own x):=by
    rcases he with z | z
    ·exact absurd (hbe.trans z) hb
    ·rw [hbe];exact z
   rw [q] at q';cases q'
   obtain ⟨v,hv⟩:=heo
   exact ⟨v,by rw [hbe];exact hv⟩
  ·refine (ok b u q).Z6 (fun c v hc r=>k c v ?_ r) (fun c r=>by rw [j6 (nown c b r)];exact r) fun c xs r=>by rw [j6 (ntup c xs r)];exact r
   rcases hc with rfl | hc
   ·exact hbe
   ·rintro rfl
    rcases he with z | z
    ·exact nown c b hc z
    ·rw [hc] at z;cases z;exact hb rfl
end
structure Un (fs ex:List Addr) (H H':Hp) (h h':Heap):Prop where
 keep:∀ b o,h.get? b=some o->H b=none->b ∉ fs->b ∉ ex->h'.get? b=some o
 slot:∀ b o,h.get? b=some o->H b=none->b ∈ fs->b ∉ ex->∃ sl,h'.get? b=some { o with slots:=sl }
 free:∀ b o,h.get? b=some o->H b=none->b ∉ ex->H' b=none
 there:∀ b o,h.get? b=some o->b ∉ ex->∃ o',h'.get? b=some o'
 tups:∀ b xs,H b=some (.tup xs)->H' b=some (.tup xs)
 frzs:∀ b o u,H b=some (.frz o u)->H' b=some (.frz o u)
 tbls:∀ b ps,H b=some (.tbl ps)->∃ more,H' b=some (.tbl (ps ++ more))
section
variable {fs fs' ex ex':List Addr} {H H1 H2:Hp} {h h1 h2 h':Heap} {a x e:Addr} {o:HO}
theorem Un.any (u:Un fs ex H H1 h h1) {b:Addr} {ob:Obj} (q:h.get? b=some ob) (n:H b=none) (hx:b ∉ ex):∃ sl,h1.get? b=some { ob with slots:=sl }:=by
 by_cases hb:b ∈ fs
 ·exact u.slot b ob q n hb hx
 ·exact ⟨ob.slots,u.keep b ob q n hb hx⟩
theorem Un.kept (k:∀ b u,h.get? b=some u->h'.get? b=some u):Un fs ex H H h h' :=
 ⟨fun b ob q _ _ _=>k b ob q,fun b ob q _ _ _=>⟨ob.slots,k b ob q⟩,fun _ _ _ n _=>n,fun b ob q _=>⟨ob,k b ob q⟩,fun _ _ q=>q,fun _ _ _ q=>q,fun _ ps q=>⟨#[],by rw [q];simp⟩⟩
theorem Un.refl:Un fs ex H H h h:=Un.kept fun _ _ q=>q
theorem Un.laid (k:∀ b u,h.get? b=some u->h'.get? b=some u) (hp:h.objs.size <= a) (hn:H a=none):Un fs ex H (upd H a o) h h' where
 keep:=fun b u q _ _ _=>k b u q
 slot:=fun b u q _ _ _=>⟨u.slots,k b u q⟩
 free:=fun b u q n _=>by rw [j6 (Nat.ne_of_lt (Nat.lt_of_lt_of_le (Heap.lt_size q) hp))];exact n
 there:=fun b u q _=>⟨u,k b u q⟩
 tups:=fun b xs q=>by rw [j6 (p0 q hn)];exact q
 frzs:=fun b u xs q=>by rw [j6 (p0 q hn)];exact q
 tbls:=fun b ps q=>⟨#[],by rw [j6 (p0 q hn),q];simp⟩
theorem Un.write (mu:Mut (H x)) (he:e=x \/ H e=some (.own x)) (k:∀ b u,b ≠ e->h.get? b=some u->h'.get? b=some u) (heo:∃ u,h'.get? e=some u):Un fs ex H (upd H x o) h h':=by
 have hx:∀ b,H b=none->b ≠ x:=fun b n z=>by subst z;rw [n] at mu;exact mu
 have hb:∀ b,H b=none->b ≠ e:=fun b n z=>by
  subst z
  rcases he with r | r
  ·exact hx b n r
  ·rw [n] at r;cases r
 have hm:∀ b u,H b=some u->¬ Mut (some u)->b ≠ x:=fun b u q nm z=>by subst z;rw [q] at mu;exact nm mu
 refine ⟨fun b u q n _ _=>k b u (hb b n) q,fun b u q n _ _=>⟨u.slots,k b u (hb b n) q⟩,fun b u q n _=>by rw [j6 (hx b n)];exact n,fun b u q _=>?_,
  fun b xs q=>by rw [j6 (hm b _ q fun z=>z)];exact q,fun b u xs q=>by rw [j6 (hm b _ q fun z=>z)];exact q,fun b ps q=>⟨#[],by rw [j6 (hm b _ q fun z=>z),q];simp⟩⟩
 by_cases hbe:b=e
 ·subst hbe;exact heo
 ·exact ⟨u,k b u hbe q⟩
end
noncomputable def trk (h:Heap) (H:Hp):List Addr:=(List.range h.objs.size).filter fun a=>(H a).isSome
noncomputable def Y2 (h:Heap) (H:Hp):Heap:=PySem.W.hideAll h (trk h H)
theorem aQ7 (h:Heap) (H:Hp):(Y2 h H).objs.size=h.objs.size:=PySem.W.hideAll_size _ _
theorem aZ5 {h:Heap} {H:Hp} {b:Addr} {o:Obj} (e:h.get? b=some o) (n:H b=none):(Y2 h H).get? b=some o :=
 PySem.W.hideAll_get _ e fun hm=>by
  have q:(H b).isSome=true:=(List.mem_filter.mp hm).2
  rw [n] at q;simp at q
theorem be6 {h:Heap} {H:Hp} {b:Addr} {o:Obj} (e:(Y2 h H).get? b=some o):h.get? b=some o/\H b=none:=by
 have e':h.get? b=some o:=PySem.W.of_hideAll (trk h H) e
 refine ⟨e',?_⟩
 cases q:H b with
 | none=>rfl
 | some x =>
  have hm:b ∈ trk h H:=List.mem_filter.mpr ⟨List.mem_range.mpr (Heap.lt_size e'),by simp [q]⟩
  have z:(Y2 h H).get? b=none:=PySem.W.hideAll_none (trk h H) hm
  rw [z] at e;cases e
end L2
namespace L2
open PySem PySem.Spec PyProof.Rows
structure Mod (K:PySem.W.Frag) (mg:Str->Option Value) (base:Heap):Prop where
 kin:K.In base
 glob:base.Ns mainGlobals mg
 blt:∃ mb,base.Ns builtinsNs mb/\∀ x:Str,x ≠ "__name__"->mb x=bootBuiltins x
 nolimit:base.NoLimit
structure Cx where
 prog:Program
 w:World
 K:PySem.W.Frag
 mg:Str->Option Value
 base:Heap
 A:Around
 N:List Str
 s₀:Shared
 H₀:Hp
 env:Env
 outer:List Env
 stack:List Env
 ex:List Addr
 fn:Str->Bool
 calm:Bool
 pn:List (Addr × Obj)
 xe:Value->Shared->Prop
noncomputable def frs (l:List Env):List Addr:=l.filterMap (·.frame)
noncomputable abbrev Cx.fs (X:Cx):List Addr:=frs X.outer
noncomputable def Vis (sc:Scope) (x:Str):Prop:=sc.names.lookup x=some .local \/ sc.names.lookup x=some .cell \/ sc.names.lookup x=some .free
noncomputable def Loc (sc:Scope) (x:Str):Prop:=sc.names.lookup x=some .local \/ sc.names.lookup x=some .cell
noncomputable def Look (env:Env) (h:Heap) (m:Str->Option Value) (x:Str) (u:Value):Prop :=
 (env.kindOf x=some .local/\m x=some u) \/ ((env.kindOf x=some .cell \/ env.kindOf x=some .free)/\∃ c,env.cells.lookup x=some c/\h.IsCell c (some u))
structure Cx.Ok (X:Cx):Prop where
 mod:Mod X.K X.mg X.base
 kind:X.env.scope.kind=.function
 glob:X.env.globals=mainGlobals
 blt:X.env.builtins=builtinsNs
 above:X.s₀.heap.objs.size <= X.env.locals
 inj:∀ x y c,X.env.cells.lookup x=some c->X.env.cells.lookup y=some c->x=y
 has:∀ x,(X.env.kindOf x=some .cell \/ X.env.kindOf x=some .free)->∃ c,X.env.cells.lookup x=some c
 cab:∀ x c,X.fn x=true->X.env.cells.lookup x=some c->X.s₀.heap.objs.size <= c
 hd:X.calm=true->X.A.handled=none
 frames:X.A.frames=some X.stack
 stk:X.stack=X.outer \/ (X.stack=X.env :: X.outer/\X.env.frame=some X.env.locals)
 exf:∀ b ∈ X.ex,b ≠ X.env.locals/\∀ x c,X.env.cells.lookup x=some c->c ≠ b
 bs:∀ b o,X.base.get? b=some o->X.s₀.heap.get? b=some o/\X.H₀ b=none
 bsz:X.base.objs.size <= X.s₀.heap.objs.size
 noex:∀ b o,X.base.get? b=some o->b ∉ X.ex
 exfs:∀ b ∈ X.ex,b ∉ X.fs
 L7:X.s₀.heap.FunFrames X.base X.outer
 frf:∀ b ∈ X.fs,X.H₀ b=none
structure Inv (X:Cx) (pins:List (Addr × Obj)) (σ:List (Option V)) (H:Hp) (s:Shared):Prop where
 ok:X.Ok
 os:s.os=X.s₀.os
 bare:AllBare s.gens
 base:Un X.fs X.ex X.H₀ H X.s₀.heap s.heap
 loc:∃ m,s.heap.Ns X.env.locals m/\∀ (i:Nat) (x:Str) (v:V),X.N[i]?=some x->σ[i]?=some (some v)->Vis X.env.scope x->∃ u,RelV v u/\Look X.env s.heap m x u
 cell:∀ x c,X.env.cells.lookup x=some c->∃ v,s.heap.IsCell c v
 free:H X.env.locals=none
 freeC:∀ x c,X.env.cells.lookup x=some c->H c=none
 pin:∀ p ∈ X.pn ++ pins,s.heap.get? p.1=some p.2/\H p.1=none/\p.1 ≠ X.env.locals/\p.1 ∉ X.fs/\∀ v,p.2.data ≠ .cell v
 hok:HOk X.prog X.w H s.heap
 len:σ.length=X.N.length
section
variable {X:Cx} {pins:List (Addr × Obj)} {σ:List (Option V)} {H H':Hp} {s:Shared} {h':Heap}
theorem Cx.Ok.bM6 (ok:X.Ok) {b:Addr} {o:Obj} (e:X.base.get? b=some o):b ∉ X.fs:=fun hb=>by
 have:=(ok.L7.mem hb).1
 rw [e] at this;cases this
theorem Inv.bs (I:Inv X pins σ H s):∀ b o,X.base.get? b=some o->s.heap.get? b=some o/\H b=none:=fun b o e =>
 ⟨I.base.keep b o (I.ok.bs b o e).1 (I.ok.bs b o e).2 (I.ok.bM6 e) (I.ok.noex b o e),I.base.free b o (I.ok.bs b o e).1 (I.ok.bs b o e).2 (I.ok.noex b o e)⟩
theorem Inv.bk (I:Inv X pins σ H s):∀ b o,X.base.get? b=some o->s.heap.get? b=some o:=fun b o e=>(I.bs b o e).1
theorem Inv.mod (I:Inv X pins σ H s):Mod X.K X.mg X.base:=I.ok.mod
theorem Inv.kIn (I:Inv X pins σ H s):X.K.In s.heap:=I.ok.mod.kin.keeps I.bk
theorem Inv.lt (I:Inv X pins σ H s):X.env.locals < s.heap.objs.size:=let ⟨_,hn,_⟩:=I.loc;hn.lt
theorem Inv.sz (I:Inv X pins σ H s):X.s₀.heap.objs.size <= s.heap.objs.size:=Nat.le_trans I.ok.above (Nat.le_of_lt I.lt)
theorem Inv.aX6 (I:Inv X pins σ H s) {a:Addr} (h:s.heap.objs.size <= a):a ∉ X.fs:=fun hb=>by
 obtain ⟨_,o,ho,_⟩:=I.ok.L7.mem hb
 exact absurd (Nat.lt_of_lt_of_le (Heap.lt_size ho) (Nat.le_trans I.sz h)) (Nat.lt_irrefl _)
theorem Inv.cne (I:Inv X pins σ H s):∀ x c,X.env.cells.lookup x=some c->c ≠ X.env.locals:=fun x c e z=>by
 obtain ⟨v,o,ho,hd⟩:=I.cell x c e
 obtain ⟨m,⟨o',es,ep,ho',hd',_⟩,_⟩:=I.loc
 rw [z,ho'] at ho;cases ho;rw [hd'] at hd;cases hd
theorem Inv.L7 (I:Inv X pins σ H s):s.heap.FunFrames X.base X.outer:=by
 have all:∀ (l:List Env),(∀ b ∈ frs l,b ∈ X.fs)->X.s₀.heap.FunFrames X.base l->s.heap.FunFrames X.base l:=by
  intro l
  induction l with
  | nil=>intro _ _;trivial
  | cons env r ih =>
   intro hs hl
   obtain ⟨hk,⟨L,o,hf,hn,ho,hd⟩,hr⟩:=hl
   have hL:L ∈ X.fs:=hs L (by unfold frs;rw [List.filterMap_cons,hf];exact List.mem_cons_self)
   obtain ⟨sl,e⟩:=I.base.slot L o ho (I.ok.frf L hL) hL fun z=>I.ok.exfs L z hL
   exact ⟨hk,⟨L,_,hf,hn,e,hd⟩,ih (fun b hb=>hs b (by unfold frs;rw [List.filterMap_cons,hf];exact List.mem_cons_of_mem _ hb)) hr⟩
 exact all X.outer (fun _ hb=>hb) I.ok.L7
theorem Inv.stack (I:Inv X pins σ H s):s.heap.FunFrames X.base X.stack:=by
 rcases I.ok.stk with e | ⟨e,hf⟩
 ·rw [e];exact I.L7
 ·rw [e]
  obtain ⟨m,hn,_⟩:=I.loc
  refine .cons (by rw [I.ok.kind];decide) hf hn ?_ I.L7
  exact Heap.get?_none_of_le (Nat.le_trans I.ok.bsz I.ok.above)
theorem Inv.S3 (I:Inv X pins σ H s):∀ b ∈ frs X.stack,b ∈ X.env.locals :: X.fs:=fun b hb=>by
 rcases I.ok.stk with e | ⟨e,hf⟩
 ·rw [e] at hb;exact List.mem_cons_of_mem _ hb
 ·rw [e] at hb
  unfold frs at hb
  rw [List.filterMap_cons,hf] at hb
  exact hb
theorem Inv.ab9 (I:Inv X pins σ H s):∀ b ∈ frs X.stack,H b=none:=fun b hb=>by
 rcases List.mem_cons.mp (I.S3 b hb) with e | hb
 ·rw [e];exact I.free
 ·obtain ⟨_,o,ho,_⟩:=I.ok.L7.mem hb
  exact I.base.free b o ho (I.ok.frf b hb) fun z=>I.ok.exfs b z hb
theorem Inv.step {g':Array GenState} {t':Nat} {d':Drawn} {ch:List Addr} (I:Inv X pins σ H s)
  (hch:∀ b ∈ ch,(b ∈ X.ex \/ X.s₀.heap.objs.size <= b)/\b ≠ X.env.locals/\(∀ x c,X.env.cells.lookup x=some c->c ≠ b)/\∀ p ∈ X.pn ++ pins,p.1 ≠ b)
  (keep:∀ b o,b ≠ X.env.locals->b ∉ X.fs->b ∉ ch->s.heap.get? b=some o->H b=none->h'.get? b=some o)
  (slot:∀ b o,b ≠ X.env.locals->b ∈ X.fs->b ∉ ch->s.heap.get? b=some o->H b=none->∃ sl,h'.get? b=some { o with slots:=sl }) (free:∀ b o,b ∉ ch->s.heap.get? b=some o->H b=none->H' b=none)
  (there:∀ b o,b ∉ ch->s.heap.get? b=some o->∃ o',h'.get? b=some o')
  (tups:∀ b xs,H b=some (.tup xs)->H' b=some (.tup xs)) (frzs:∀ b o u,H b=some (.frz o u)->H' b=some (.frz o u)) (tbls:∀ b ps,H b=some (.tbl ps)->∃ more,H' b=some (.tbl (ps ++ more)))
  (ns:∀ m,s.heap.Ns X.env.locals m->h'.Ns X.env.locals m) (hok:HOk X.prog X.w H' h') (hg:AllBare g') :
  Inv X pins σ H' { s with heap:=h',gens:=g',drawn:=d',toks:=t' }:=by
 have neL:∀ b o,X.s₀.heap.get? b=some o->b ≠ X.env.locals:=fun b o e=>Nat.ne_of_lt (Nat.lt_of_lt_of_le (Heap.lt_size e) I.ok.above)
 have neC:∀ b o,X.s₀.heap.get? b=some o->b ∉ X.ex->b ∉ ch:=fun b o e hx hb=>by
  rcases (hch b hb).1 with z | z
  ·exact hx z
  ·exact absurd (Nat.lt_of_lt_of_le (Heap.lt_size e) z) (Nat.lt_irrefl _)
 have cellK:∀ x c,X.env.cells.lookup x=some c->∀ v,s.heap.IsCell c v->h'.IsCell c v:=fun x c e v ⟨o,ho,hd⟩=>by
  have nch:c ∉ ch:=fun z=>(hch c z).2.2.1 x c e rfl
  by_cases hc:c ∈ X.fs
  ·obtain ⟨sl,q⟩:=slot c o (I.cne x c e) hc nch ho (I.freeC x c e)
   exact ⟨_,q,hd⟩
  ·exact ⟨o,keep c o (I.cne x c e) hc nch ho (I.freeC x c e),hd⟩
 refine ⟨I.ok,I.os,hg,⟨fun b o e n hb hx=>?_,fun b o e n hb hx=>?_,fun b o e n hx=>?_,fun b o e hx=>?_,fun b xs e=>tups b xs (I.base.tups b xs e),fun b o xs e=>frzs b o xs (I.base.frzs b o xs e),fun b ps e=>?_⟩,?_,fun x c e=>?_,?_,fun x c e=>?_,fun p hp=>?_,hok,I.len⟩
 ·exact keep b o (neL b o e) hb (neC b o e hx) (I.base.keep b o e n hb hx) (I.base.free b o e n hx)
 ·obtain ⟨sl,e1⟩:=I.base.slot b o e n hb hx
  obtain ⟨sl',e2⟩:=slot b _ (neL b o e) hb (neC b o e hx) e1 (I.base.free b o e n hx)
  exact ⟨sl',e2⟩
 ·obtain ⟨o',e1⟩:=I.base.there b o e hx
  exact free b o' (neC b o e hx) e1 (I.base.free b o e n hx)
 ·obtain ⟨o',e1⟩:=I.base.there b o e hx
  exact there b o' (neC b o e hx) e1
 ·obtain ⟨m1,e1⟩:=I.base.tbls b ps e
  obtain ⟨m2,e2⟩:=tbls b _ e1
  exact ⟨m1 ++ m2,by rw [e2,Array.append_assoc]⟩
 ·obtain ⟨m,hn,hl⟩:=I.loc
  refine ⟨m,ns m hn,fun i x v e1 e2 e3=>?_⟩
  obtain ⟨u,r,l⟩:=hl i x v e1 e2 e3
  refine ⟨u,r,?_⟩
  rcases l with l | ⟨k,c,e,z⟩
  ·exact .inl l
  ·exact .inr ⟨k,c,e,cellK x c e _ z⟩
 ·obtain ⟨v,z⟩:=I.cell x c e
  exact ⟨v,cellK x c e v z⟩
 ·obtain ⟨m,⟨o,_,_,ho,_⟩,_⟩:=I.loc
  exact free _ o (fun z=>(hch _ z).2.1 rfl) ho I.free
 ·obtain ⟨v,o,ho,hd⟩:=I.cell x c e
  exact free c o (fun z=>(hch c z).2.2.1 x c e rfl) ho (I.freeC x c e)
 ·obtain ⟨e,n,ne,nf,d⟩:=I.pin p hp
  have nch:p.1 ∉ ch:=fun z=>(hch p.1 z).2.2.2 p hp rfl
  exact ⟨keep p.1 p.2 ne nf nch e n,free p.1 p.2 nch e n,ne,nf,d⟩
theorem Inv.un {t':Nat} (I:Inv X pins σ H s) (u:Un X.fs [] H H' s.heap h') (hok:HOk X.prog X.w H' h'):Inv X pins σ H' { s with heap:=h',toks:=t' }:=by
 obtain ⟨m,⟨o,es,ep,ho,r⟩,_⟩:=id I.loc
 obtain ⟨sl,hL⟩:=u.any ho I.free (by simp)
 exact I.step (g':=s.gens) (d':=s.drawn) (ch:=[]) (fun _ z=>nomatch z) (fun b o _ hb _ e n=>u.keep b o e n hb (by simp)) (fun b o _ hb _ e n=>u.slot b o e n hb (by simp)) (fun b o _ e n=>u.free b o e n (by simp)) (fun b o _ e=>u.there b o e (by simp)) u.tups u.frzs u.tbls (fun m' hm=>by
  obtain ⟨o',es',ep',ho',r'⟩:=hm
  rw [ho] at ho';cases ho'
  exact ⟨_,es',ep',hL,r'⟩) hok I.bare
theorem Inv.call {g':Array GenState} {t':Nat} {d':Drawn} {ch:List Addr} (I:Inv X pins σ H s) (u:Un (frs X.stack) ch H H' s.heap h') (hok:HOk X.prog X.w H' h') (hg:AllBare g')
  (hch:∀ b ∈ ch,(b ∈ X.ex \/ X.s₀.heap.objs.size <= b)/\b ≠ X.env.locals/\(∀ x c,X.env.cells.lookup x=some c->c ≠ b)/\∀ p ∈ X.pn ++ pins,p.1 ≠ b) :
  Inv X pins σ H' { s with heap:=h',gens:=g',drawn:=d',toks:=t' }:=by
 obtain ⟨m,⟨o,es,ep,ho,r⟩,_⟩:=id I.loc
 obtain ⟨sl,hL⟩:=u.any ho I.free fun z=>(hch _ z).2.1 rfl
 exact I.step (ch:=ch) hch (fun b o hL hb hc e n=>u.keep b o e n (fun z=>(List.mem_cons.mp (I.S3 b z)).elim hL hb) hc) (fun b o _ _ hc e n=>u.any e n hc) (fun b o hc e n=>u.free b o e n hc) (fun b o hc e=>u.there b o e hc) u.tups u.frzs u.tbls (fun m' hm=>by
  obtain ⟨o',es',ep',ho',r'⟩:=hm
  rw [ho] at ho';cases ho'
  exact ⟨_,es',ep',hL,r'⟩) hok hg
theorem Inv.turned {t':Nat} {it:Addr} (I:Inv X pins σ H s) (k:∀ b o,b ≠ it->s.heap.get? b=some o->h'.get? b=some o) (hn:H it=none) (hL:it ≠ X.env.locals)
  (h1:it ∈ X.ex \/ X.s₀.heap.objs.size <= it) (h2:∀ x c,X.env.cells.lookup x=some c->c ≠ it) (h3:∀ p ∈ X.pn ++ pins,p.1 ≠ it):Inv X pins σ H { s with heap:=h',toks:=t' }:=by
 have nit:∀ b u,H b=some u->b ≠ it:=fun b u e z=>by rw [z,hn] at e;cases e
 refine I.step (g':=s.gens) (d':=s.drawn) (ch:=[it]) (fun b hb=>?_) (fun b o _ _ hc e _=>k b o (fun z=>hc (by simp [z])) e) (fun b o _ _ hc e _=>⟨o.slots,k b o (fun z=>hc (by simp [z])) e⟩) (fun _ _ _ _ n=>n)
  (fun b o hc e=>⟨o,k b o (fun z=>hc (by simp [z])) e⟩) (fun _ _ e=>e) (fun _ _ _ e=>e) (fun b ps e=>⟨#[],by rw [e];simp⟩) (fun m hm=>?_) (fun b u e=>?_) I.bare
 ·have e:b=it:=by simpa using hb
  subst e
  exact ⟨h1,hL,h2,h3⟩
 ·obtain ⟨o,es,ep,ho,r⟩:=hm
  exact ⟨o,es,ep,k _ o (Ne.symm hL) ho,r⟩
 ·refine (I.hok b u e).Z6 (fun c v hc q=>k c v ?_ q) (fun _ q=>q) fun _ _ q=>q
  rcases hc with z | z
  ·rw [z];exact nit b u e
  ·exact nit c _ z
theorem Inv.tok (I:Inv X pins σ H s) (t:Nat):Inv X pins σ H { s with toks:=t }:=I.un (h':=s.heap) (t':=t) Un.refl I.hok
theorem Inv.kept {t':Nat} (I:Inv X pins σ H s) (k:∀ b u,s.heap.get? b=some u->h'.get? b=some u):Inv X pins σ H { s with heap:=h',toks:=t' }:=I.un (Un.kept k) (I.hok.kept k)
theorem Inv.laid {a:Addr} {o:HO} {t':Nat} (I:Inv X pins σ H s) (k:∀ b u,s.heap.get? b=some u->h'.get? b=some u) (hp:s.heap.objs.size <= a) (new:l8 X.prog X.w (upd H a o) h' a o) :
  Inv X pins σ (upd H a o) { s with heap:=h',toks:=t' }:=I.un (Un.laid k hp (I.hok.fresh hp)) (I.hok.laid k hp new)
theorem Inv.write {x e:Addr} {o:HO} {t':Nat} (I:Inv X pins σ H s) (mu:Mut (H x)) (he:e=x \/ H e=some (.own x)) (k:∀ b u,b ≠ e->s.heap.get? b=some u->h'.get? b=some u) (heo:∃ u,h'.get? e=some u)
  (new:l8 X.prog X.w (upd H x o) h' x o):Inv X pins σ (upd H x o) { s with heap:=h',toks:=t' }:=I.un (Un.write mu he k heo) (I.hok.write mu he k heo new)
theorem Inv.weak {σ':List (Option V)} (I:Inv X pins σ H s) (hl:σ'.length=σ.length) (w:∀ (i:Nat) v,σ'[i]?=some (some v)->σ[i]?=some (some v)):Inv X pins σ' H s :=
 ⟨I.ok,I.os,I.bare,I.base,let ⟨m,hn,hl'⟩:=I.loc;⟨m,hn,fun i x v e1 e2 e3=>hl' i x v e1 (w i v e2) e3⟩,I.cell,I.free,I.freeC,I.pin,I.hok,hl.trans I.len⟩
theorem Inv.V2 {pins':List (Addr × Obj)} (I:Inv X pins σ H s) (h:∀ p ∈ pins',s.heap.get? p.1=some p.2/\H p.1=none/\p.1 ≠ X.env.locals/\p.1 ∉ X.fs/\∀ v,p.2.data ≠ .cell v):Inv X pins' σ H s :=
 ⟨I.ok,I.os,I.bare,I.base,I.loc,I.cell,I.free,I.freeC,fun p hp=>(List.mem_append.mp hp).elim (fun z=>I.pin p (List.mem_append_left _ z)) (h p),I.hok,I.len⟩
theorem aw2 {N:List Str} (hN:N.Nodup) {i j:Nat} {x:Str} (a:N[i]?=some x) (b:N[j]?=some x):i=j:=by
 obtain ⟨h1,e1⟩:=List.getElem?_eq_some_iff.mp a
 obtain ⟨h2,e2⟩:=List.getElem?_eq_some_iff.mp b
 exact (List.getElem_inj hN).mp (e1.trans e2.symm)
theorem ap6 {M:Model} {A:Around} {E:Value->Shared->Prop} {i:Nat} {x:Str} {v:V} {u:Value} {Q:Unit->Shared->Prop} (I:Inv X pins σ H s) (hN:X.N.Nodup) (hi:X.N[i]?=some x) (hx:Loc X.env.scope x) (r:RelV v u)
  (h:∀ s',Inv X pins (σ.set i (some v)) H s'->(∃ a,Heap.SameBut a s.heap s'.heap/\(a=X.env.locals \/ X.env.cells.lookup x=some a))->Q () s') (hf:X.fn x=true \/ X.env.scope.names.lookup x=some .local:=by first | exact .inl rfl | exact .inr rfl | assumption):wpAny M A (storeName X.env x u) Q E s:=by
 obtain ⟨m,hn,hl⟩:=id I.loc
 have hcls:(X.env.scope.kind == .class || (X.env.scope.kind == .module && X.env.locals != X.env.globals))=false:=by rw [I.ok.kind];rfl
 have hiσ:i < σ.length:=by rw [I.len];exact (List.getElem?_eq_some_iff.mp hi).1
 have cne:=I.cne
 have tracked:∀ {a:Addr} {h':Heap},(∃ o,s.heap.get? a=some o/\H a=none)->Heap.SameBut a s.heap h'->HOk X.prog X.w H h':=fun {a h'} ha hs b ob e=>by
  obtain ⟨_,_,hfree⟩:=ha
  refine (I.hok b ob e).Z6 (fun c w' hc q=>(hs.2 c ?_).trans q) (fun _ q=>q) fun _ _ q=>q
  rintro rfl
  rcases hc with rfl | hc
  ·rw [hfree] at e;cases e
  ·rw [hfree] at hc;cases hc
 rcases hx with hk | hk
 ·refine wpAny_storeName_local hk hn (fun h' hn' hs=>?_) hcls
  obtain ⟨oL,_,_,hoL,_⟩:=id hn
  refine h _ ⟨I.ok,I.os,I.bare,⟨fun b o e n hb hx=>?_,fun b o e n hb hx=>?_,I.base.free,fun b o e hx=>?_,I.base.tups,I.base.frzs,I.base.tbls⟩,⟨_,hn',fun j y v' e1 e2 e3=>?_⟩,fun y c e=>?_,I.free,I.freeC,fun p hp=>?_,tracked ⟨oL,hoL,I.free⟩ hs,by simpa using I.len⟩ ⟨_,hs,.inl rfl⟩
  ·exact (hs.2 b (Nat.ne_of_lt (Nat.lt_of_lt_of_le (Heap.lt_size e) I.ok.above))).trans (I.base.keep b o e n hb hx)
  ·obtain ⟨sl,e1⟩:=I.base.slot b o e n hb hx
   exact ⟨sl,(hs.2 b (Nat.ne_of_lt (Nat.lt_of_lt_of_le (Heap.lt_size e) I.ok.above))).trans e1⟩
  ·obtain ⟨o',e1⟩:=I.base.there b o e hx
   exact ⟨o',(hs.2 b (Nat.ne_of_lt (Nat.lt_of_lt_of_le (Heap.lt_size e) I.ok.above))).trans e1⟩
  ·by_cases hj:j=i
   ·subst hj
    rw [hi] at e1;cases e1
    rw [List.getElem?_set_self hiσ] at e2
    cases e2
    exact ⟨u,r,.inl ⟨hk,by simp⟩⟩
   ·rw [List.getElem?_set_ne (Ne.symm hj)] at e2
    obtain ⟨u',r',q⟩:=hl j y v' e1 e2 e3
    refine ⟨u',r',?_⟩
    rcases q with ⟨k,e⟩ | ⟨k,c,e,z⟩
    ·refine .inl ⟨k,?_⟩
     have:y ≠ x:=fun e=>hj (aw2 hN e1 (e ▸ hi))
     simp [this,e]
    ·exact .inr ⟨k,c,e,z.sameBut hs (cne y c e)⟩
  ·obtain ⟨w',z⟩:=I.cell y c e
   exact ⟨w',z.sameBut hs (cne y c e)⟩
  ·obtain ⟨e,n,ne,nf,d⟩:=I.pin p hp
   exact ⟨(hs.2 p.1 ne).trans e,n,ne,nf,d⟩
 ·have hfn:X.fn x=true:=by
   rcases hf with z | z
   ·exact z
   ·rw [z] at hk;cases hk
  obtain ⟨c,hc⟩:=I.ok.has x (.inl hk)
  obtain ⟨w',z⟩:=I.cell x c hc
  refine wpAny_storeName_cell I.ok.kind hk hc z (fun h' hc' hs=>?_)
  obtain ⟨oc,hoc,hocd⟩:=id z
  refine h { s with heap:=h' } ⟨I.ok,I.os,I.bare,⟨fun b o e n hb hx=>?_,fun b o e n hb hx=>?_,I.base.free,fun b o e hx=>?_,I.base.tups,I.base.frzs,I.base.tbls⟩,⟨m,hn.sameBut hs (Ne.symm (cne x c hc)),fun j y v' e1 e2 e3=>?_⟩,fun y c' e=>?_,I.free,I.freeC,fun p hp=>?_,tracked ⟨oc,hoc,I.freeC x c hc⟩ hs,by simpa using I.len⟩ ⟨c,hs,.inr hc⟩
  ·exact (hs.2 b (Nat.ne_of_lt (Nat.lt_of_lt_of_le (Heap.lt_size e) (I.ok.cab x c hfn hc)))).trans (I.base.keep b o e n hb hx)
  ·obtain ⟨sl,e1⟩:=I.base.slot b o e n hb hx
   exact ⟨sl,(hs.2 b (Nat.ne_of_lt (Nat.lt_of_lt_of_le (Heap.lt_size e) (I.ok.cab x c hfn hc)))).trans e1⟩
  ·obtain ⟨o',e1⟩:=I.base.there b o e hx
   exact ⟨o',(hs.2 b (Nat.ne_of_lt (Nat.lt_of_lt_of_le (Heap.lt_size e) (I.ok.cab x c hfn hc)))).trans e1⟩
  ·by_cases hj:j=i
   ·subst hj
    rw [hi] at e1;cases e1
    rw [List.getElem?_set_self hiσ] at e2
    cases e2
    exact ⟨u,r,.inr ⟨.inl hk,c,hc,hc'⟩⟩
   ·rw [List.getElem?_set_ne (Ne.symm hj)] at e2
    obtain ⟨u',r',q⟩:=hl j y v' e1 e2 e3
    refine ⟨u',r',?_⟩
    rcases q with q | ⟨k,c',e,z'⟩
    ·exact .inl q
    ·refine .inr ⟨k,c',e,z'.sameBut hs ?_⟩
     rintro rfl
     exact hj (aw2 hN e1 (I.ok.inj _ _ _ e hc ▸ hi))
  ·by_cases hcc:c'=c
   ·subst hcc;exact ⟨_,hc'⟩
   ·obtain ⟨w2,z2⟩:=I.cell y c' e
    exact ⟨w2,z2.sameBut hs hcc⟩
  ·obtain ⟨e,n,ne,nf,d⟩:=I.pin p hp
   refine ⟨(hs.2 p.1 ?_).trans e,n,ne,nf,d⟩
   intro q
   rw [q,hoc] at e
   have q':oc=p.2:=Option.some.inj e
   exact d w' (by rw [<- q'];exact hocd)
theorem W5 {M:Model} {A:Around} {E:Value->Shared->Prop} {i:Nat} {x:Str} {v:V} {u:Value} {Q:Unit->Shared->Prop} (I:Inv X pins σ H s) (hN:X.N.Nodup) (hi:X.N[i]?=some x) (hx:Loc X.env.scope x) (r:RelV v u)
  (h:∀ s',Inv X pins (σ.set i (some v)) H s'->Q () s') (hf:X.fn x=true \/ X.env.scope.names.lookup x=some .local:=by first | exact .inl rfl | exact .inr rfl | assumption):wpAny M A (storeName X.env x u) Q E s :=
 ap6 I hN hi hx r (fun s' I' _=>h s' I') hf
theorem Inv.aJ3 {s':Shared} {ch:List Addr} (I:Inv X pins σ H s) (ho:s'.os=s.os) (u:Un (frs X.stack) ch H H' s.heap s'.heap) (hok:HOk X.prog X.w H' s'.heap) (hg:AllBare s'.gens)
  (hch:∀ b ∈ ch,(b ∈ X.ex \/ X.s₀.heap.objs.size <= b)/\b ≠ X.env.locals/\(∀ x c,X.env.cells.lookup x=some c->c ≠ b)/\∀ p ∈ X.pn ++ pins,p.1 ≠ b):Inv X pins σ H' s':=by
 obtain ⟨h',g',d',t',o'⟩:=s'
 have e:o'=s.os:=ho
 subst e
 exact I.call (g':=g') (t':=t') (d':=d') u hok hg hch
end
noncomputable abbrev XK:=Value->Option Addr->Hp->Prop
noncomputable abbrev St:=List (Option V)
noncomputable abbrev VK:=V->Hp->Prop
noncomputable abbrev TE:=St->Hp->VK->Prop
noncomputable abbrev TT:=St->Hp->(Bool->Hp->Prop)->Prop
noncomputable abbrev TA:=St->Hp->(List V->Hp->Prop)->Prop
structure Ends where
 nx:St->Hp->Prop
 rt:VK
 bk:St->Hp->Prop:=fun _ _=>False
 ct:St->Hp->Prop:=fun _ _=>False
noncomputable abbrev TS:=Ends->St->Hp->Prop
noncomputable def EP (X:Cx) (pins:List (Addr × Obj)) (σ:St) (Q:VK) (u:Value) (s':Shared):Prop:=∃ v H',Inv X pins σ H' s'/\RelV v u/\Q v H'
noncomputable def TP (X:Cx) (pins:List (Addr × Obj)) (σ:St) (Q:Bool->Hp->Prop) (b:Bool) (s':Shared):Prop:=∃ H',Inv X pins σ H' s'/\Q b H'
noncomputable def AP (X:Cx) (pins:List (Addr × Obj)) (σ:St) (Q:List V->Hp->Prop) (us:List Value) (s':Shared):Prop:=∃ vs H',Inv X pins σ H' s'/\Vals vs us/\Q vs H'
noncomputable def SP (X:Cx) (pins:List (Addr × Obj)) (D:Ends) (f:Flow) (s':Shared):Prop :=
 match f with
 | .next=>∃ σ' H',Inv X pins σ' H' s'/\D.nx σ' H'
 | .brk=>∃ σ' H',Inv X pins σ' H' s'/\D.bk σ' H'
 | .cont=>∃ σ' H',Inv X pins σ' H' s'/\D.ct σ' H'
 | .ret u=>∃ v σ' H',Inv X pins σ' H' s'/\RelV v u/\D.rt v H'
noncomputable def PE (X:Cx) (e:Expr) (t:TE):Prop :=
 ∀ (pins:List (Addr × Obj)) (s:Shared) (σ:St) (H:Hp) (Q:VK),Inv X pins σ H s->t σ H Q->wpAny (model X.prog X.w) X.A (eval e X.env) (EP X pins σ Q) X.xe s
noncomputable def PT (X:Cx) (e:Expr) (t:TT):Prop :=
 ∀ (pins:List (Addr × Obj)) (s:Shared) (σ:St) (H:Hp) (Q:Bool->Hp->Prop),Inv X pins σ H s->t σ H Q->wpAny (model X.prog X.w) X.A (isTrue e X.env (eval e X.env)) (TP X pins σ Q) X.xe s
noncomputable def PW (X:Cx) (e:Expr) (t:TT):Prop :=
 ∀ (whole:Sem Value) (pins:List (Addr × Obj)) (s:Shared) (σ:St) (H:Hp) (Q:Bool->Hp->Prop),Inv X pins σ H s->t σ H Q->wpAny (model X.prog X.w) X.A (isTrue e X.env whole) (TP X pins σ Q) X.xe s
theorem PW.pt {X:Cx} {e:Expr} {t:TT} (h:PW X e t):PT X e t:=h _
noncomputable def PA (X:Cx) (es:List Expr) (t:TA):Prop :=
 ∀ (pos:Pos) (pins:List (Addr × Obj)) (s:Shared) (σ:St) (H:Hp) (Q:List V->Hp->Prop),Inv X pins σ H s->t σ H Q->wpAny (model X.prog X.w) X.A (spliced (backTo pos (starEach es X.env))) (AP X pins σ Q) X.xe s
noncomputable def PS (X:Cx) (st:Stmt) (t:TS):Prop :=
 ∀ (pins:List (Addr × Obj)) (s:Shared) (σ:St) (H:Hp) (D:Ends),Inv X pins σ H s->t D σ H->wpAny (model X.prog X.w) X.A (exec st X.env) (SP X pins D) X.xe s
noncomputable def PSs (X:Cx) (st:List Stmt) (t:TS):Prop :=
 ∀ (pins:List (Addr × Obj)) (s:Shared) (σ:St) (H:Hp) (D:Ends),Inv X pins σ H s->t D σ H->wpAny (model X.prog X.w) X.A (execs st X.env) (SP X pins D) X.xe s
theorem thn {α:Type} {t:Sem α} {Q Q':α->Shared->Prop} {M:Model} {A:Around} {E:Value->Shared->Prop} {s:Shared} (h:wpAny M A t Q E s) (hQ:∀ a s,Q a s->Q' a s):wpAny M A t Q' E s:=wpAny_mono h hQ fun _ _ x=>x
end L2
namespace L2
open PySem PySem.Spec PyProof.Rows
section
variable {X:Cx}
noncomputable def bG0 (i:Nat):TE:=fun σ H Q=>∃ v,σ[i]?=some (some v)/\Q v H
noncomputable def tC (v:V):TE:=fun _ H Q=>Q v H
theorem av9 {i:Nat} {x:Str} {pos:Pos} (hN:X.N[i]?=some x) (hv:Vis X.env.scope x) (hd:(x == ("__debug__":Str))=false:=by decide) (hcd:(x == ("__classdict__":Str))=false:=by decide):PE X (.Name x pos) (bG0 i):=by
 intro pins s σ H Q I h
 obtain ⟨v,e,h⟩:=h
 obtain ⟨m,hn,hl⟩:=I.loc
 obtain ⟨u,r,l⟩:=hl i x v hN e hv
 have fin:EP X pins σ Q u s:=⟨v,H,I,r,h⟩
 rcases l with ⟨hk,hm⟩ | ⟨hk,c,hc,hcell⟩
 ·exact wpAny_Name (wpAny_loadName_local I.ok.kind hk hn hm fin) hd
 ·rcases hk with hk | hk
  ·exact wpAny_Name (wpAny_loadName_cell I.ok.kind hk hc hcell fin) hd
  ·exact wpAny_Name (wpAny_loadName_free I.ok.kind hk hc hcell fin hcd) hd
theorem bp0 {i j pos}:PE X (.Constant (.int i) j pos) (tC (.int i)):=fun _ _ _ H _ I h=>wpAny_Constant_int ⟨.int i,H,I.tok _,⟨_,rfl⟩,h⟩
theorem bz0 {b j pos}:PE X (.Constant (.bool b) j pos) (tC (.bl b)):=fun _ _ _ H _ I h=>Constant_bool ⟨.bl b,H,I,rfl,h⟩
theorem bo8 {j pos}:PE X (.Constant .none j pos) (tC .non):=fun _ _ _ H _ I h=>Constant_none ⟨.non,H,I,rfl,h⟩
theorem bo4 {x j pos}:PE X (.Constant (.str x) j pos) (tC (.str x)):=fun _ _ _ H _ I h=>Calls.Constant_str ⟨.str x,H,I.tok _,⟨_,rfl⟩,h⟩
noncomputable def Gl (X:Cx) (x:Str):Prop:=X.env.kindOf x=some .globalImplicit
theorem R8 {E:Value->Shared->Prop} {pins:List (Addr × Obj)} {s:Shared} {σ:St} {H:Hp} {x:Str} {u:Value} {pos:Pos} {Q:Value->Shared->Prop} (I:Inv X pins σ H s) (hg:Gl X x) (hm:X.mg x=some u) (h:Q u s)
  (hd:(x == ("__debug__":Str))=false:=by decide):wpAny (model X.prog X.w) X.A (eval (.Name x pos) X.env) Q E s :=
 Calls.Name_function_global I.ok.kind hg (Calls.loadGlobal_global (by rw [I.ok.glob];exact I.mod.glob.keeps I.bk) hm h) hd
theorem T3 {E:Value->Shared->Prop} {pins:List (Addr × Obj)} {s:Shared} {σ:St} {H:Hp} {x:Str} {u:Value} {pos:Pos} {Q:Value->Shared->Prop} (I:Inv X pins σ H s) (hg:Gl X x) (hm:X.mg x=none) (hv:bootBuiltins x=some u) (h:Q u s)
  (hn:x ≠ "__name__":=by decide) (hd:(x == ("__debug__":Str))=false:=by decide):wpAny (model X.prog X.w) X.A (eval (.Name x pos) X.env) Q E s:=by
 obtain ⟨mb,h1,h2⟩:=I.mod.blt
 exact Calls.Name_function_global I.ok.kind hg (Calls.loadGlobal_builtin (by rw [I.ok.glob];exact I.mod.glob.keeps I.bk) hm (by rw [I.ok.blt];exact h1.keeps I.bk) ((h2 x hn).trans hv) h) hd
theorem bd3 {x:Str} {v:V} {u:Value} {pos:Pos} (hg:Gl X x) (hm:X.mg x=some u) (r:RelV v u) (hd:(x == ("__debug__":Str))=false:=by decide):PE X (.Name x pos) (tC v) :=
 fun _ _ _ H _ I h=>R8 I hg hm ⟨v,H,I,r,h⟩ hd
theorem bd7 {x:Str} {v:V} {u:Value} {pos:Pos} (hg:Gl X x) (hm:X.mg x=none) (hv:bootBuiltins x=some u) (r:RelV v u) (hn:x ≠ "__name__":=by decide) (hd:(x == ("__debug__":Str))=false:=by decide):PE X (.Name x pos) (tC v) :=
 fun _ _ _ H _ I h=>T3 I hg hm hv ⟨v,H,I,r,h⟩ hn hd
variable {a b:Expr} {ta tb:TE} {pos:Pos}
variable {tA tB':TT} {rest:List Expr}
noncomputable def bH2 (t u:TT):TT:=fun σ H Q=>t σ H fun c H1=>if c=true then u σ H1 Q else Q false H1
noncomputable def tOr (t u:TT):TT:=fun σ H Q=>t σ H fun c H1=>if c=true then Q true H1 else u σ H1 Q
noncomputable def bG6 (t:TT):TT:=fun σ H Q=>t σ H fun c H1=>Q (!c) H1
theorem bc1 (ha:PT X a tA):PW X (.BoolOp .And [a] pos) tA:=by
 intro wh pins s σ H Q I h
 refine isTrue_and (thn (ha pins s σ H Q I h) fun c s1 e=>?_)
 cases c with
 | true=>exact isTrue_and_nil e
 | false=>exact e
theorem bn2 (ha:PT X a tA):PW X (.BoolOp .Or [a] pos) tA:=by
 intro wh pins s σ H Q I h
 refine isTrue_or (thn (ha pins s σ H Q I h) fun c s1 e=>?_)
 cases c with
 | false=>exact isTrue_or_nil e
 | true=>exact e
theorem bn3 (ha:PT X a tA) (hb:PW X (.BoolOp .And (b :: rest) pos) tB'):PW X (.BoolOp .And (a :: b :: rest) pos) (bH2 tA tB'):=by
 intro wh pins s σ H Q I h
 refine isTrue_and (thn (ha pins s σ H _ I h) fun c s1 ⟨H1,I1,q1⟩=>?_)
 cases c with
 | true=>exact hb wh pins s1 σ H1 Q I1 q1
 | false=>exact ⟨H1,I1,q1⟩
theorem by2 (ha:PT X a tA) (hb:PW X (.BoolOp .Or (b :: rest) pos) tB'):PW X (.BoolOp .Or (a :: b :: rest) pos) (tOr tA tB'):=by
 intro wh pins s σ H Q I h
 refine isTrue_or (thn (ha pins s σ H _ I h) fun c s1 ⟨H1,I1,q1⟩=>?_)
 cases c with
 | true=>exact ⟨H1,I1,q1⟩
 | false=>exact hb wh pins s1 σ H1 Q I1 q1
theorem bn4 (ha:PT X a tA):PT X (.UnaryOp .Not a pos) (bG6 tA):=by
 intro pins s σ H Q I h
 exact isTrue_not (ha pins s σ H (fun c H1=>Q (!c) H1) I h)
noncomputable def bw1 (ta tb:TE):TE:=fun σ H Q=>ta σ H fun x H1=>∃ c,x=.bl c/\if c=true then tb σ H1 Q else Q (.bl false) H1
noncomputable def bG5 (ta tb:TE):TE:=fun σ H Q=>ta σ H fun x H1=>∃ c,x=.bl c/\if c=true then Q (.bl true) H1 else tb σ H1 Q
noncomputable def bv6 (ta:TE):TE:=fun σ H Q=>ta σ H fun x H1=>∃ c,x=.bl c/\Q (.bl (!c)) H1
theorem bo6 {op} {t:TE} (h:PE X a t):PE X (.BoolOp op [a] pos) t:=fun pins s σ H Q I hw=>BoolOp_one (h pins s σ H Q I hw)
theorem bp3 (ha:PE X a ta) (hb:PE X (.BoolOp .And (b :: rest) pos) tb):PE X (.BoolOp .And (a :: b :: rest) pos) (bw1 ta tb):=by
 intro pins s σ H Q I h
 refine BoolOp_and (thn (ha pins s σ H _ I h) fun v s1 ⟨x,H1,I1,r1,q1⟩=>?_)
 obtain ⟨c,rfl,q1⟩:=q1
 cases r1
 refine wpAny_truthy_bool ?_
 cases c with
 | true=>exact hb pins s1 σ H1 Q I1 q1
 | false=>exact ⟨.bl false,H1,I1,rfl,q1⟩
theorem by7 (ha:PE X a ta) (hb:PE X (.BoolOp .Or (b :: rest) pos) tb):PE X (.BoolOp .Or (a :: b :: rest) pos) (bG5 ta tb):=by
 intro pins s σ H Q I h
 refine BoolOp_or (thn (ha pins s σ H _ I h) fun v s1 ⟨x,H1,I1,r1,q1⟩=>?_)
 obtain ⟨c,rfl,q1⟩:=q1
 cases r1
 refine wpAny_truthy_bool ?_
 cases c with
 | false=>exact hb pins s1 σ H1 Q I1 q1
 | true=>exact ⟨.bl true,H1,I1,rfl,q1⟩
theorem bo7 (ha:PE X a ta):PE X (.UnaryOp .Not a pos) (bv6 ta):=by
 intro pins s σ H Q I h
 refine UnaryOp_ (thn (ha pins s σ H _ I h) fun v s1 ⟨x,H1,I1,r1,q1⟩=>?_)
 obtain ⟨c,rfl,q1⟩:=q1
 cases r1
 exact not_of (wpAny_truthy_bool ⟨.bl (!c),H1,I1,rfl,q1⟩)
noncomputable def tIf (t:TT) (ta tb:TE):TE:=fun σ H Q=>t σ H fun c H1=>if c=true then ta σ H1 Q else tb σ H1 Q
theorem aW9 {c:Expr} (hc:PT X c tA) (ha:PE X a ta) (hb:PE X b tb):PE X (.IfExp c a b pos) (tIf tA ta tb):=by
 intro pins s σ H Q I h
 refine wpAny_IfExp (thn (hc pins s σ H _ I h) fun d s1 ⟨H1,I1,q1⟩=>?_)
 cases d with
 | true=>exact ha pins s1 σ H1 Q I1 q1
 | false=>exact hb pins s1 σ H1 Q I1 q1
end
end L2
namespace L2
open PySem PySem.Spec PyProof.Rows
noncomputable def SqL (K:PySem.W.Frag) (H:Hp) (a:Addr) (xs:List V):Prop :=
 Rd H a (.lst xs) \/
  ∃ (o:Obj) (its:Array Value) (n:Nat),K.lookup a=some o/\o.cls=.type "list"/\o.dict=none/\o.data=.seq its n/\its.size <= sizeLine/\Vals xs its.toList
noncomputable def SqT (K:PySem.W.Frag) (H:Hp) (a:Addr) (xs:List V):Prop :=
 Rd H a (.tup xs) \/
  ∃ (o:Obj) (its:Array Value) (n:Nat),K.lookup a=some o/\o.cls=.type "tuple"/\o.data=.seq its n/\its.size <= sizeLine/\Vals xs its.toList
noncomputable def bS8:Value->Option V
 | .none=>some .non
 | .bool b=>some (.bl b)
 | .int i _=>some (.int i)
 | .str x _=>some (.str x)
 | .bytes b _=>some (.byt b)
 | .float b _=>some (.flt b)
 | .ref a=>some (.ref a)
 | .type n=>some (.ty n)
 | _=>none
theorem RelV.abs {x:V} {u:Value} (r:RelV x u):bS8 u=some x:=by
 cases x with
 | non=>cases r;rfl
 | bl _=>cases r;rfl
 | int _=>obtain ⟨t,rfl⟩:=r;rfl
 | str _=>obtain ⟨t,rfl⟩:=r;rfl
 | byt _=>obtain ⟨t,rfl⟩:=r;rfl
 | flt _=>obtain ⟨t,rfl⟩:=r;rfl
 | ref _=>cases r;rfl
 | ty _=>cases r;rfl
theorem RelV.inj {x y:V} {u:Value} (r:RelV x u) (q:RelV y u):x=y:=Option.some.inj (r.abs.symm.trans q.abs)
theorem Vals.inj:∀ {xs ys:List V} {us:List Value},Vals xs us->Vals ys us->xs=ys
 | _,_,_,.nil,.nil=>rfl
 | _,_,_,.cons r t,.cons r' t'=>by rw [r.inj r',Vals.inj t t']
section
variable {X:Cx} {pins:List (Addr × Obj)} {σ:St} {H:Hp} {s:Shared} {a:Addr} {xs ys:List V}
theorem SqL.of {K:PySem.W.Frag} (h:H a=some (.lst xs)):SqL K H a xs:=.inl (.inl h)
theorem Inv.list (I:Inv X pins σ H s) (h:SqL X.K H a xs):∃ its:List Value,Vals xs its/\PlainL s.heap a its.toArray/\xs.length <= sizeLine:=by
 rcases h with h | ⟨o,its,n,hk,hc,hd,hs,hz,r⟩
 ·obtain ⟨z,its,n,r,e⟩:=h.ok I.hok
  exact ⟨its,r,⟨_,n,e,rfl,rfl,rfl⟩,z⟩
 ·refine ⟨its.toList,r,⟨o,n,I.kIn a o hk,hc,hd,by simpa using hs⟩,?_⟩
  have e:=r.length
  simp only [Array.length_toList] at e
  omega
theorem Inv.tuple (I:Inv X pins σ H s) (h:SqT X.K H a xs):∃ its:List Value,Vals xs its/\IsTup s.heap a its.toArray/\xs.length <= sizeLine:=by
 rcases h with h | ⟨o,its,n,hk,hc,hs,hz,r⟩
 ·obtain ⟨z,its,r,p⟩:=h.ok I.hok
  exact ⟨its,r,p.tup,z⟩
 ·refine ⟨its.toList,r,⟨o,I.kIn a o hk,hc,n,by simpa using hs⟩,?_⟩
  have e:=r.length
  simp only [Array.length_toList] at e
  omega
theorem Inv.aY8 (I:Inv X pins σ H s) (h:SqL X.K H a xs) (h':SqL X.K H a ys):xs=ys:=by
 obtain ⟨its,r,⟨o,n,e,_,_,d⟩,_⟩:=I.list h
 obtain ⟨its',r',⟨o',n',e',_,_,d'⟩,_⟩:=I.list h'
 rw [e] at e';cases e'
 rw [d] at d'
 injection d' with d1 _
 have:its=its':=by simpa using congrArg Array.toList d1
 subst this
 exact r.inj r'
theorem Inv.aL4 (I:Inv X pins σ H s) (h:SqT X.K H a xs) (h':SqT X.K H a ys):xs=ys:=by
 obtain ⟨its,r,⟨o,e,_,n,d⟩,_⟩:=I.tuple h
 obtain ⟨its',r',⟨o',e',_,n',d'⟩,_⟩:=I.tuple h'
 rw [e] at e';cases e'
 rw [d] at d'
 injection d' with d1 _
 have:its=its':=by simpa using congrArg Array.toList d1
 subst this
 exact r.inj r'
end
section
variable {X:Cx} {pins:List (Addr × Obj)} {σ:St} {H:Hp} {s:Shared} {E:Value->Shared->Prop}
end
section
variable {X:Cx} {st:Stmt} {rest:List Stmt} {t u:TS} {e:Expr} {te:TE} {pos:Pos}
noncomputable def a28:TS:=fun D σ H=>D.nx σ H
noncomputable def bG2 (t u:TS):TS:=fun D σ H=>t { D with nx:=u D } σ H
theorem bc5:PSs X [] a28:=fun _ _ σ H _ I h=>wpAny_execs_nil ⟨σ,H,I,h⟩
theorem aV9 (h1:PS X st t) (h2:PSs X rest u):PSs X (st :: rest) (bG2 t u):=by
 intro pins s σ H D I h
 refine wpAny_execs_cons (thn (h1 pins s σ H { D with nx:=u D } I h) fun f s1 q=>?_)
 cases f with
 | next =>
  obtain ⟨σ',H',I',q⟩:=q
  exact h2 pins s1 σ' H' D I' q
 | ret v=>exact q
 | brk=>exact q
 | cont=>exact q
theorem bc7:PS X (.Pass pos) a28:=fun _ _ σ H _ I h=>wpAny_Pass ⟨σ,H,I,h⟩
theorem Inv.quiet {pins:List (Addr × Obj)} {σ:St} {H:Hp} {s:Shared} (I:Inv X pins σ H s):interactive X.env=false:=by simp [interactive,I.ok.kind]
noncomputable def bv7 (te:TE):TS:=fun D σ H=>te σ H fun _ H1=>D.nx σ H1
theorem bc8 (he:PE X e te) (hs:swapsWith e none pos.line X.env=pure false:=by rfl):PS X (.Expr e pos) (bv7 te):=by
 intro pins s σ H D I h
 exact wpAny_Expr_any (thn (he pins s σ H _ I h) fun v s1 ⟨x,H1,I1,r1,q1⟩=>⟨σ,H1,I1,q1⟩) I.quiet hs
noncomputable def bG3 (te:TE):TS:=fun D σ H=>te σ H D.rt
theorem bn6 (he:PE X e te):PS X (.Return (some e) pos) (bG3 te):=by
 intro pins s σ H D I h
 exact wpAny_Return_some (thn (he pins s σ H _ I h) fun v s1 ⟨x,H1,I1,r1,q1⟩=>⟨x,σ,H1,I1,r1,q1⟩)
noncomputable def bv4:TS:=fun D _ H=>D.rt .non H
theorem bc6:PS X (.Return none pos) bv4:=fun _ _ σ H _ I h=>wpAny_Return_none ⟨.non,σ,H,I,rfl,h⟩
noncomputable def bG8 (c:TT) (t u:TS):TS:=fun D σ H=>c σ H fun b H1=>if b=true then t D σ H1 else u D σ H1
theorem by3 {c:Expr} {a b:List Stmt} {tc:TT} (hc:PT X c tc) (ha:PSs X a t) (hb:PSs X b u):PS X (.If c a b pos) (bG8 tc t u):=by
 intro pins s σ H D I h
 refine wpAny_If (thn (hc pins s σ H _ I h) fun d s1 ⟨H1,I1,q1⟩=>?_)
 cases d with
 | true=>exact ha pins s1 σ H1 D I1 q1
 | false=>exact hb pins s1 σ H1 D I1 q1
end
noncomputable abbrev TG:=V->St->Hp->(St->Hp->Prop)->Prop
noncomputable abbrev TGs:=List V->St->Hp->(St->Hp->Prop)->Prop
noncomputable def PG (X:Cx) (target:Expr) (t:TG):Prop :=
 ∀ (pins:List (Addr × Obj)) (s:Shared) (σ:St) (H:Hp) (v:V) (u:Value) (Q:St->Hp->Prop),Inv X pins σ H s->RelV v u->t v σ H Q ->
  wpAny (model X.prog X.w) X.A (assign target X.env u) (fun _ s'=>∃ σ' H',Inv X pins σ' H' s'/\Q σ' H') X.xe s
noncomputable def PGs (X:Cx) (ts:List Expr) (t:TGs):Prop :=
 ∀ (pins:List (Addr × Obj)) (s:Shared) (σ:St) (H:Hp) (vs:List V) (us:List Value) (Q:St->Hp->Prop),Inv X pins σ H s->Vals vs us->t vs σ H Q ->
  wpAny (model X.prog X.w) X.A (assignInOrder ((assignEach ts X.env).map (·.2)) us) (fun _ s'=>∃ σ' H',Inv X pins σ' H' s'/\Q σ' H') X.xe s
noncomputable abbrev a17:=V->V->V->Hp->(Hp->Prop)->Prop
noncomputable def a18 (X:Cx) (t:a17):Prop :=
 ∀ (pins:List (Addr × Obj)) (s:Shared) (σ:St) (H:Hp) (o i v:V) (ov iv u:Value) (Q:Hp->Prop),Inv X pins σ H s->RelV o ov->RelV i iv->RelV v u->t o i v H Q ->
  wpAny (model X.prog X.w) X.A (setItem ov iv u) (fun _ s'=>∃ H',Inv X pins σ H' s'/\Q H') X.xe s
section
variable {X:Cx} {pos:Pos}
noncomputable def ad4 (i:Nat):TG:=fun v σ H Q=>Q (σ.set i (some v)) H
theorem aC7 {i:Nat} {x:Str} (hN:X.N.Nodup) (hi:X.N[i]?=some x) (hx:Loc X.env.scope x) (hf:X.fn x=true \/ X.env.scope.names.lookup x=some .local:=by first | exact .inl rfl | exact .inr rfl | assumption):PG X (.Name x pos) (ad4 i):=by
 intro pins s σ H v u Q I r h
 exact wpAny_assign_Name (W5 I hN hi hx r (fun s' I'=>⟨_,H,I',h⟩) hf)
noncomputable def bs7:TGs:=fun vs σ H Q=>vs=[]/\Q σ H
noncomputable def a76 (t:TG) (u:TGs):TGs:=fun vs σ H Q=>∃ v r,vs=v :: r/\t v σ H fun σ' H'=>u r σ' H' Q
theorem bd1:PGs X [] bs7:=by
 intro pins s σ H vs us Q I r h
 obtain ⟨e,h⟩:=h
 subst e
 cases r
 exact assignInOrder_nil ⟨σ,H,I,h⟩
theorem aW5 {e:Expr} {es:List Expr} {t:TG} {u:TGs} (h1:PG X e t) (h2:PGs X es u)
  (hs:(assignEach (e :: es) X.env).map (·.2)=assign e X.env :: (assignEach es X.env).map (·.2):=by rfl):PGs X (e :: es) (a76 t u):=by
 intro pins s σ H vs us Q I r h
 obtain ⟨v,vr,e1,h⟩:=h
 subst e1
 cases r with
 | cons r rr =>
  rw [hs]
  refine assignInOrder_cons (thn (h1 pins s σ H _ _ _ I r h) fun _ s1 ⟨σ1,H1,I1,q1⟩=>?_)
  exact h2 pins s1 σ1 H1 _ _ Q I1 rr q1
noncomputable def bO2 (K:PySem.W.Frag) (n:Nat) (t:TGs):TG:=fun v σ H Q=>∃ a xs,v=.ref a/\SqT K H a xs/\xs.length=n/\t xs σ H Q
theorem bo1 {es:List Expr} {k:Nat} {t:TGs} {n:Nat} (hc:X.calm=true) (h:PGs X es t)
  (hn:(assignEach es X.env).length=n:=by rfl) (hst:(assignEach es X.env).findIdx? (·.1)=none:=by rfl):PG X (.Tuple es k pos) (bO2 X.K n t):=by
 intro pins s σ H v u Q I r hw
 obtain ⟨a,xs,e1,hq,hl,hw⟩:=hw
 subst e1
 cases r
 obtain ⟨its,rv,ht,hz⟩:=I.tuple hq
 refine assign_Tuple_tuple (I.ok.hd hc) ht (by simp [hn,<- hl,rv.length]) hst fun h' hx=>?_
 have I1:Inv X pins σ H { s with heap:=h' }:=I.kept (t':=s.toks) fun b o e=>hx b o (Nat.ne_of_lt (Heap.lt_size e)) e
 exact h pins _ σ H xs _ Q I1 (by simpa using rv) hw
noncomputable def bO3 (to ti:TE) (t:a17):TG:=fun v σ H Q=>to σ H fun o H1=>ti σ H1 fun i H2=>t o i v H2 fun H3=>Q σ H3
theorem bo2 {o i:Expr} {to ti:TE} {t:a17} (ho:PE X o to) (hi:PE X i ti) (hs:a18 X t)
  (ha:∀ v,assign (.Subscript o i pos) X.env v=(do
   let ov <- holding [v] (eval o X.env)
   let iv <- holding [v,ov] (eval i X.env)
   standAt pos
   holding [v,ov,iv] (setItem ov iv v)
   release [v,ov,iv] []):=by intro _;rfl):PG X (.Subscript o i pos) (bO3 to ti t):=by
 intro pins s σ H v u Q I r h
 rw [ha]
 refine wpAny_bind (wpAny_holding (thn (ho pins s σ H _ I h) fun ov s1 ⟨x,H1,I1,r1,q1⟩=>?_))
 refine wpAny_bind (wpAny_holding (thn (hi pins s1 σ H1 _ I1 q1) fun iv s2 ⟨y,H2,I2,r2,q2⟩=>?_))
 refine wpAny_bind (wpAny_standAt (wpAny_bind (wpAny_holding (thn (hs pins s2 σ H2 x y v ov iv u _ I2 r1 r2 r q2) fun _ s3 ⟨H3,I3,q3⟩=>?_))))
 exact wpAny_release ⟨σ,H3,I3,q3⟩
noncomputable def au3 (te:TE) (g:TG):TS:=fun D σ H=>te σ H fun x H1=>g x σ H1 D.nx
theorem aN2 {tg e:Expr} {te:TE} {g:TG} (he:PE X e te) (hg:PG X tg g) (hs:swapsWithSole [tg] e pos.line X.env=pure false:=by rfl) (hw:swappedStores [tg] e X.env=pure none:=by rfl)
  (h1:(assignEach [tg] X.env).map (·.2)=[assign tg X.env]:=by rfl):PS X (.Assign [tg] e pos) (au3 te g):=by
 intro pins s σ H D I h
 refine wpAny_Assign_stores (thn (he pins s σ H _ I h) fun v s1 ⟨x,H1,I1,r1,q1⟩=>?_) hs hw
 rw [h1]
 exact thn (hg pins s1 σ H1 x v _ I1 r1 q1) fun _ s2 q=>q
theorem aN0 {i:Nat} {x:Str} {e:Expr} {te:TE} {pos':Pos} (hN:X.N.Nodup) (hi:X.N[i]?=some x) (hx:Loc X.env.scope x) (he:PE X e te) (hs:swapsWith e (some (.Name x pos')) pos.line X.env=pure false:=by rfl) (hf:X.fn x=true \/ X.env.scope.names.lookup x=some .local:=by first | exact .inl rfl | exact .inr rfl | assumption) :
  PS X (.Assign [.Name x pos'] e pos) (au3 te (ad4 i)):=by
 intro pins s σ H D I h
 refine wpAny_Assign_Name (thn (he pins s σ H _ I h) fun v s1 ⟨y,H1,I1,r1,q1⟩=>?_) hs
 exact W5 I1 hN hi hx r1 (fun s2 I2=>⟨_,H1,I2,q1⟩) hf
noncomputable def bG4 (i j:Nat) (ta:TA):TS:=fun D σ H=>ta σ H fun vs H1=>∃ v w,vs=[v,w]/\D.nx ((σ.set i (some v)).set j (some w)) H1
theorem bn7 {i j:Nat} {x y:Str} {a b:Expr} {ta:TA} {px py pt:Pos} {kt k2 pt2} (hc:X.calm=true) (hN:X.N.Nodup) (hi:X.N[i]?=some x) (hj:X.N[j]?=some y) (hij:i ≠ j)
  (hx:X.env.scope.names.lookup x=some .local) (hy:X.env.scope.names.lookup y=some .local) (ha:PA X [a,b] ta)
  (hw:swappedStores [.Tuple [.Name x px,.Name y py] kt pt] (.Tuple [a,b] k2 pt2) X.env=pure (some [x,y]))
  (hs:swapsWithSole [.Tuple [.Name x px,.Name y py] kt pt] (.Tuple [a,b] k2 pt2) pos.line X.env=pure false:=by rfl) :
  PS X (.Assign [.Tuple [.Name x px,.Name y py] kt pt] (.Tuple [a,b] k2 pt2) pos) (bG4 i j ta):=by
 intro pins s σ H D I h
 rw [exec_Assign_arm]
 refine wpAny_bind (wpAny_standAt ?_)
 rw [hs]
 refine wpAny_bind (wpAny_pure ?_)
 rw [if_neg (by decide)]
 refine wpAny_bind (Tuple_ (thn (ha _ pins s σ H _ I h) fun us s1 ⟨vs,H1,I1,r1,q1⟩=>?_))
 obtain ⟨v,w,e1,q1⟩:=q1
 subst e1
 obtain ⟨u1,u2,rfl,rv,rw'⟩:∃ u1 u2,us=[u1,u2]/\RelV v u1/\RelV w u2:=by
  cases r1 with
  | cons p q =>
   cases q with
   | cons p' q' =>
    cases q'
    exact ⟨_,_,rfl,p,p'⟩
 refine wpAny_newObj_type ?_ (by show 2 <= sizeLine;decide)
 have I2:Inv X pins σ H1 { s1 with heap:=s1.heap.push { cls:=.type "tuple",data:=.seq [u1,u2].toArray } }:=I1.kept (t':=s1.toks) fun b o e=>Heap.get?_push_of_some _ e
 rw [hw]
 refine wpAny_bind (wpAny_pure ?_)
 show wpAny (model X.prog X.w) X.A (do rule "assign.swapped-stores";let items <- unpackItems (.ref s1.heap.objs.size) 2 none;assignInOrder [fun v=>bindName X.env y v,fun v=>bindName X.env x v] items.reverse;pure Flow.next) _ _ _
 refine wpAny_bind (wpAny_rule (wpAny_bind (unpackItems_tuple (items:=#[u1,u2]) (I.ok.hd hc) (IsTup.new s1.heap _) fun h' hx'=>?_)))
 have I3:=I2.kept (h':=h') (t':=s1.toks) fun b o e=>hx' b o (Nat.ne_of_lt (Heap.lt_size e)) e
 show wpAny _ _ (assignInOrder [fun v=>bindName X.env y v,fun v=>bindName X.env x v] [u2,u1] >>= fun _=>pure Flow.next) _ _ _
 refine wpAny_bind (assignInOrder_cons (wpAny_bindName (W5 I3 hN hj (.inl hy) rw' (fun s2 I4=>?_) (.inr hy))))
 refine assignInOrder_cons (wpAny_bindName (W5 I4 hN hi (.inl hx) rv (fun s3 I5=>assignInOrder_nil (wpAny_pure ?_)) (.inr hx)))
 rw [List.set_comm _ _ (Ne.symm hij)] at I5
 exact ⟨_,H1,I5,q1⟩
end
section
variable {X:Cx} {pos:Pos}
noncomputable def bj1 (c:TT) (tb:TS):TS:=fun D σ H=>∃ W:Nat->St->Hp->Prop,(∃ m,W m σ H)/\∀ m σ H,W m σ H ->
 c σ H fun b H1=>if b=true then ∃ N:St->Hp->Prop,(∀ σ' H',N σ' H'->∃ m',m' < m/\W m' σ' H')/\tb { D with nx:=N,ct:=N,bk:=D.nx } σ H1 else D.nx σ H1
theorem aW0 {c:Expr} {body:List Stmt} {tc:TT} {tb:TS} (hp:PassesOwn (model X.prog X.w) X.A X.env X.xe) (hc:PT X c tc) (hb:PSs X body tb):PS X (.While c body [] pos) (bj1 tc tb):=by
 intro pins s σ H D I h
 obtain ⟨W,⟨m0,w0⟩,turn⟩:=h
 refine wpAny_While (codeAny_whileLoop (fun n s'=>∃ σ' H',Inv X pins σ' H' s'/\W n σ' H') ?_ m0 ⟨σ,H,I,w0⟩)
 rintro n s1 ⟨σ1,H1,I1,w1⟩
 refine wpAny_passesOwn hp (thn (hc pins s1 σ1 H1 _ I1 (turn n σ1 H1 w1)) fun b s2 ⟨H2,I2,q2⟩=>?_)
 cases b with
 | true =>
  obtain ⟨N,hN,q2⟩:=q2
  rw [if_pos rfl]
  refine wpAny_passesOwn hp (thn (hb pins s2 σ1 H2 _ I2 q2) fun f s3 q3=>?_)
  cases f with
  | next =>
   obtain ⟨σ3,H3,I3,n3⟩:=q3
   obtain ⟨m',hm,w3⟩:=hN σ3 H3 n3
   exact ⟨m',hm,σ3,H3,I3,w3⟩
  | cont =>
   obtain ⟨σ3,H3,I3,n3⟩:=q3
   obtain ⟨m',hm,w3⟩:=hN σ3 H3 n3
   exact ⟨m',hm,σ3,H3,I3,w3⟩
  | brk=>exact q3
  | ret v=>exact q3
 | false =>
  rw [if_neg Bool.false_ne_true]
  exact wpAny_execs_nil ⟨σ1,H2,I2,q2⟩
end
structure It where
 go:Nat->Hp->Prop
 yld:Nat->Hp->V->Hp->Prop
 stop:Nat->Hp->Prop
noncomputable def K1 (X:Cx) (pins:List (Addr × Obj)) (H:Hp) (b:Addr):Prop :=
 H b=none/\b ≠ X.env.locals/\b ∉ X.fs/\(b ∈ X.ex \/ X.s₀.heap.objs.size <= b)/\(∀ x c,X.env.cells.lookup x=some c->c ≠ b)/\∀ p ∈ X.pn ++ pins,p.1 ≠ b
theorem Inv.ao2 {X:Cx} {pins:List (Addr × Obj)} {σ:St} {H H':Hp} {s:Shared} {b:Addr} (I:Inv X pins σ H s) (hb:s.heap.objs.size <= b) (hn:H' b=none):K1 X pins H' b:=by
 refine ⟨hn,Nat.ne_of_gt (Nat.lt_of_lt_of_le I.lt hb),I.aX6 hb,.inr (Nat.le_trans I.sz hb),fun x c e z=>?_,fun p hp z=>?_⟩
 ·obtain ⟨v,q⟩:=I.cell x c e
  exact absurd (Nat.lt_of_lt_of_le q.lt (by rw [z];exact hb)) (Nat.lt_irrefl _)
 ·exact absurd (Nat.lt_of_lt_of_le (Heap.lt_size (I.pin p hp).1) (by rw [z];exact hb)) (Nat.lt_irrefl _)
structure Turn (P:Program) (w:World) (K:PySem.W.Frag) (tg:Expr) (J:It) (fp:List Addr) (it:Addr) (tn:Nat->Heap->Prop):Prop where
 mem:it ∈ fp
 obj:∀ i h,tn i h->∀ b ∈ fp,∃ o,h.get? b=some o/\∀ v,o.data ≠ .cell v
 keep:∀ i h h',tn i h->(∀ b ∈ fp,∀ o,h.get? b=some o->h'.get? b=some o)->tn i h'
 item:∀ (X:Cx),X.prog=P->X.w=w->X.K=K->X.calm=true->∀ (i:Nat) (pins:List (Addr × Obj)) (s:Shared) (σ:St) (H:Hp) (E:Value->Shared->Prop),Inv X pins σ H s->(∀ b ∈ fp,K1 X pins H b)->tn i s.heap->J.go i H ->
  wpAny (model P w) X.A (pyNext (.ref it)) (fun r s1=>∃ u,r=some u /\
   wpAny (model P w) X.A (letOwnedTupleGo tg (.ref it) u) (fun _ s2=>∃ x H',Inv X pins σ H' s2/\RelV x u/\J.yld i H x H'/\tn (i + 1) s2.heap/\∀ b ∈ fp,H' b=none) E s1) E s
 done:∀ (X:Cx),X.prog=P->X.w=w->X.K=K->X.calm=true->∀ (i:Nat) (pins:List (Addr × Obj)) (s:Shared) (σ:St) (H:Hp) (E:Value->Shared->Prop),Inv X pins σ H s->(∀ b ∈ fp,K1 X pins H b)->tn i s.heap->J.stop i H ->
  wpAny (model P w) X.A (pyNext (.ref it)) (fun r s1=>r=none/\Inv X pins σ H s1) E s
 self:∀ (A:Around) (i:Nat) (s:Shared) (Q:Value->Shared->Prop) (E:Value->Shared->Prop),tn i s.heap->Q (.ref it) s->wpAny (model P w) A (pyIter (.ref it)) Q E s
noncomputable abbrev TI:=St->Hp->(It->Hp->Prop)->Prop
noncomputable def PIE (X:Cx) (pins:List (Addr × Obj)) (σ:St) (tg:Expr) (R:It->Hp->Prop) (itv:Value) (s2:Shared):Prop :=
 ∃ (it:Addr) (fp:List Addr) (tn:Nat->Heap->Prop) (J:It) (H':Hp),itv=.ref it/\Inv X pins σ H' s2/\Turn X.prog X.w X.K tg J fp it tn/\tn 0 s2.heap/\(∀ b ∈ fp,K1 X pins H' b)/\R J H'
noncomputable def PI (X:Cx) (tg iter:Expr) (wi:TI):Prop :=
 ∀ (pins:List (Addr × Obj)) (s:Shared) (σ:St) (H:Hp) (R:It->Hp->Prop),Inv X pins σ H s->wi σ H R ->
  wpAny (model X.prog X.w) X.A (eval iter X.env) (fun v s1=>wpAny (model X.prog X.w) X.A (pyIter v) (PIE X pins σ tg R) X.xe s1) X.xe s
theorem aI5 {M:Model} {A:Around} {E:Value->Shared->Prop} {s:Shared} {tg:Expr} {it:Addr} {u:Value} {o:Obj} {n:String} {vs:Array Value} {Q:Unit->Shared->Prop} (ho:s.heap.get? it=some o) (hc:o.cls=.type n) (hd:o.data=.fields vs)
    (hn:["enumerate","zip","dict_itemiterator","dict_reverseitemiterator","odict_iterator","itertools.zip_longest","itertools.pairwise"].contains n=false) (hQ:Q () s):wpAny M A (letOwnedTupleGo tg (.ref it) u) Q E s:=by
  unfold letOwnedTupleGo
  cases tg <;> first
    | exact wpAny_pure hQ
    | (cases u <;> first
        | exact wpAny_pure hQ
        | (refine wpAny_bind (wpAny_load ho ?_)
           rw [hc,hd]
           show wpAny M A (if (["enumerate","zip","dict_itemiterator","dict_reverseitemiterator","odict_iterator","itertools.zip_longest","itertools.pairwise"].contains n && vs[0]? == some (rawInt _))=true then _ else _) Q E s
           rw [if_neg (by intro h;rw [hn,Bool.false_and] at h;cases h)]
           exact wpAny_pure hQ))
noncomputable def Itl (K:PySem.W.Frag) (a:Addr):It :=
 ⟨fun i H=>∃ xs x,SqL K H a xs/\xs[i]?=some x,fun i H x H'=>H'=H/\∀ xs,SqL K H a xs->xs[i]?=some x,fun i H=>∃ xs,SqL K H a xs/\xs.length <= i⟩
noncomputable def Itt (K:PySem.W.Frag) (a:Addr):It :=
 ⟨fun i H=>∃ xs x,SqT K H a xs/\xs[i]?=some x,fun i H x H'=>H'=H/\∀ xs,SqT K H a xs->xs[i]?=some x,fun i H=>∃ xs,SqT K H a xs/\xs.length <= i⟩
noncomputable def Itr (lo:Int) (n:Nat):It:=⟨fun i _=>i < n,fun i H x H'=>H'=H/\x=.int (lo + i),fun i _=>n <= i⟩
theorem aL2 {P:Program} {w:World} {K:PySem.W.Frag} {tg:Expr} (a it:Addr):Turn P w K tg (Itl K a) [it] it (fun i h=>h.IsListIter it a i) where
 mem:=by simp
 obj:=fun i h st b hb=>by
  have e:b=it:=by simpa using hb
  subst e
  obtain ⟨o,e,c,d⟩:=st
  exact ⟨o,e,fun v z=>by rw [d] at z;cases z⟩
 keep:=fun i h h' st k=>st.at fun o e=>k it (by simp) o e
 item:=by
  intro X hP hw hK hc i pins s σ H E I hf st hg
  subst hP hw hK
  obtain ⟨xs,x,hq,hx⟩:=hg
  obtain ⟨its,rv,p,hz⟩:=I.list hq
  obtain ⟨u,hu,ru⟩:=rv.get hx
  obtain ⟨f0,f1,f2,f3,f4,f5⟩:=hf it (by simp)
  refine wpAny_pyNext_list_item st p.isList (x:=u) (by simpa using hu) fun h' st' sb=>?_
  have I1:Inv X pins σ H { s with heap:=h' }:=I.turned (t':=s.toks) (fun b o hb e=>(sb.2 b hb).trans e) f0 f1 f3 f4 f5
  obtain ⟨o,e,c,d⟩:=id st'
  exact ⟨u,rfl,aI5 (s:={ s with heap:=h' }) e c d (by decide) ⟨x,H,I1,ru,⟨rfl,fun ys hy=>by rw [I.aY8 hy hq];exact hx⟩,st',fun b hb=>(hf b hb).1⟩⟩
 done:=by
  intro X hP hw hK hc i pins s σ H E I hf st hg
  subst hP hw hK
  obtain ⟨xs,hq,hx⟩:=hg
  obtain ⟨its,rv,p,hz⟩:=I.list hq
  obtain ⟨f0,f1,f2,f3,f4,f5⟩:=hf it (by simp)
  have hl:=rv.length
  exact wpAny_pyNext_list_end (I.ok.hd hc) st p.isList (by simp;omega) fun h' eb=>⟨rfl,I.turned (t':=s.toks) (fun b o hb e=>eb b o hb e) f0 f1 f3 f4 f5⟩
 self:=fun _ _ _ _ _ st h=>wpAny_pyIter_listiter st h
theorem aF0 {P:Program} {w:World} {K:PySem.W.Frag} {tg:Expr} (a it:Addr):Turn P w K tg (Itt K a) [it] it (fun i h=>h.IsTupleIter it a i) where
 mem:=by simp
 obj:=fun i h st b hb=>by
  have e:b=it:=by simpa using hb
  subst e
  obtain ⟨o,e,c,d⟩:=st
  exact ⟨o,e,fun v z=>by rw [d] at z;cases z⟩
 keep:=fun i h h' st k=>st.at fun o e=>k it (by simp) o e
 item:=by
  intro X hP hw hK hc i pins s σ H E I hf st hg
  subst hP hw hK
  obtain ⟨xs,x,hq,hx⟩:=hg
  obtain ⟨its,rv,p,hz⟩:=I.tuple hq
  obtain ⟨u,hu,ru⟩:=rv.get hx
  obtain ⟨f0,f1,f2,f3,f4,f5⟩:=hf it (by simp)
  refine wpAny_pyNext_tuple_item st (show s.heap.IsTuple a its.toArray from p) (x:=u) (by simpa using hu) fun h' st' sb=>?_
  have I1:Inv X pins σ H { s with heap:=h' }:=I.turned (t':=s.toks) (fun b o hb e=>(sb.2 b hb).trans e) f0 f1 f3 f4 f5
  obtain ⟨o,e,c,d⟩:=id st'
  exact ⟨u,rfl,aI5 (s:={ s with heap:=h' }) e c d (by decide) ⟨x,H,I1,ru,⟨rfl,fun ys hy=>by rw [I.aL4 hy hq];exact hx⟩,st',fun b hb=>(hf b hb).1⟩⟩
 done:=by
  intro X hP hw hK hc i pins s σ H E I hf st hg
  subst hP hw hK
  obtain ⟨xs,hq,hx⟩:=hg
  obtain ⟨its,rv,p,hz⟩:=I.tuple hq
  obtain ⟨f0,f1,f2,f3,f4,f5⟩:=hf it (by simp)
  have hl:=rv.length
  exact wpAny_pyNext_tuple_end (I.ok.hd hc) st (show s.heap.IsTuple a its.toArray from p) (by simp;omega) fun h' eb=>⟨rfl,I.turned (t':=s.toks) (fun b o hb e=>eb b o hb e) f0 f1 f3 f4 f5⟩
 self:=fun _ _ _ _ _ st h=>wpAny_pyIter_tupleiter st h
theorem aF1 {P:Program} {w:World} {K:PySem.W.Frag} {tg:Expr} (it:Addr) (lo:Int) (n:Nat):Turn P w K tg (Itr lo n) [it] it (fun i h=>IsRangeIter h it (lo + (i:Nat) * 1) ((n:Int) - (i:Nat)) 1) where
 mem:=by simp
 obj:=fun i h st b hb=>by
  have e:b=it:=by simpa using hb
  subst e
  exact ⟨_,st,fun v z=>by
   have z':Data.fields _=Data.cell v:=z
   cases z'⟩
 keep:=fun i h h' st k=>k it (by simp) _ st
 item:=by
  intro X hP hw hK hc i pins s σ H E I hf st hg
  subst hP hw hK
  obtain ⟨f0,f1,f2,f3,f4,f5⟩:=hf it (by simp)
  have W:=Walks.range (prog:=X.prog) (w:=X.w) (I.ok.hd hc) it lo 1 n
  refine W.item i s _ _ hg st fun v h' tk hv st' kk=>?_
  obtain ⟨t,rfl⟩:=hv
  have I1:Inv X pins σ H { s with heap:=h',toks:=tk }:=I.turned (fun b o hb e=>kk b o (by simpa using hb) e) f0 f1 f3 f4 f5
  refine ⟨_,rfl,aI5 (s:={ s with heap:=h',toks:=tk }) (n:="range_iterator") st' rfl rfl (by decide) ⟨.int (lo + i),H,I1,⟨t,?_⟩,⟨rfl,rfl⟩,st',fun b hb=>(hf b hb).1⟩⟩
  rw [Int.mul_one]
 done:=by
  intro X hP hw hK hc i pins s σ H E I hf st hg
  subst hP hw hK
  obtain ⟨f0,f1,f2,f3,f4,f5⟩:=hf it (by simp)
  exact wpAny_pyNext_range_end (I.ok.hd hc) st (by have:n <= i:=hg;omega) fun h' eb=>⟨rfl,I.turned (t':=s.toks) (fun b o hb e=>eb b o hb e) f0 f1 f3 f4 f5⟩
 self:=fun _ _ _ _ _ st h=>wpAny_pyIter_rangeiter st h
end L2
namespace L2
open PySem PySem.Spec PyProof.Rows
section
variable {X:Cx} {tg:Expr}
theorem av7 {pins:List (Addr × Obj)} {σ:St} {H:Hp} {s:Shared} {R:It->Hp->Prop} {E:Value->Shared->Prop} {lo hi:Int} {t u v:Tok} {tk:Nat} (I:Inv X pins σ H s) (h1:-(2 ^ 62) <= lo) (h2:lo < 2 ^ 62) (h3:-(2 ^ 62) <= hi) (h4:hi < 2 ^ 62)
  (q:R (Itr lo (hi - lo).toNat) H):wpAny (model X.prog X.w) X.A (pyIter (.ref s.heap.objs.size)) (PIE X pins σ tg R) E { s with heap:=s.heap.push { cls:=.type "range",data:=.fields #[.int lo t,.int hi u,.int 1 v] },toks:=tk }:=by
 refine wpAny_pyIter_range (IsRange.new ..) (small_one h1 h2 h3 h4) ?_
 have I1:Inv X pins σ H { s with heap:=s.heap.push { cls:=.type "range",data:=.fields #[.int lo t,.int hi u,.int 1 v] },toks:=tk }:=I.kept fun b o e=>Heap.get?_push_of_some _ e
 refine ⟨(s.heap.push { cls:=.type "range",data:=.fields #[.int lo t,.int hi u,.int 1 v] }).objs.size,[(s.heap.push { cls:=.type "range",data:=.fields #[.int lo t,.int hi u,.int 1 v] }).objs.size],_,_,H,rfl,
  I1.kept (t':=tk) fun b o e=>Heap.get?_push_of_some _ e,aF1 _ lo (hi - lo).toNat,?_,fun b hb=>?_,q⟩
 ·have e1:lo + ((0:Nat):Int) * 1=lo:=by simp
  have e2:(((hi - lo).toNat:Nat):Int) - ((0:Nat):Int)=Builtin.Range.rangeSize lo hi 1:=by rw [rangeSize_one];split <;> omega
  show IsRangeIter _ _ (lo + ((0:Nat):Int) * 1) ((((hi - lo).toNat:Nat):Int) - ((0:Nat):Int)) 1
  rw [e1,e2]
  exact Heap.get?_push_size _ rfl
 ·have e:b=(s.heap.push { cls:=.type "range",data:=.fields #[.int lo t,.int hi u,.int 1 v] }).objs.size:=by simpa using hb
  subst e
  exact I1.ao2 (Nat.le_refl _) (I1.hok.fresh (Nat.le_refl _))
noncomputable def bB3 (ta:TA):TI:=fun σ H R=>ta σ H fun vs H1=>∃ j:Int,vs=[.int j]/\-(2 ^ 62) <= j/\j < 2 ^ 62/\R (Itr 0 j.toNat) H1
noncomputable def bB2 (ta:TA):TI:=fun σ H R=>ta σ H fun vs H1=>∃ i j:Int,vs=[.int i,.int j]/\(-(2 ^ 62) <= i/\i < 2 ^ 62/\-(2 ^ 62) <= j/\j < 2 ^ 62)/\R (Itr i (j - i).toNat) H1
theorem aN6 {a:Expr} {ta:TA} {p pos:Pos} (hg:Gl X "range") (hm:X.mg "range"=none) (ha:PA X [a] ta) (hs:starEach [a] X.env=[(false,eval a X.env)]:=by rfl):PI X tg (.Call (.Name "range" p) [a] [] pos) (bB3 ta):=by
 intro pins s σ H R I h
 refine Call_ (T3 I hg hm boot_range (PyProof.Rows.callWith_type1 (thn (ha pos pins s σ H _ I h) fun us s1 ⟨vs,H1,I1,r1,q1⟩=>?_) hs rfl))
 obtain ⟨j,e,q1,q2,q⟩:=q1
 subst e
 cases r1 with
 | cons r rr =>
  cases rr
  obtain ⟨t,rfl⟩:=r
  exact call_range_1 (av7 I1 (by omega) (by omega) q1 q2 (by simpa using q))
theorem aN5 {a b:Expr} {ta:TA} {p pos:Pos} (hg:Gl X "range") (hm:X.mg "range"=none) (ha:PA X [a,b] ta) (hs:starEach [a,b] X.env=[(false,eval a X.env),(false,eval b X.env)]:=by rfl) (hs2:starEach [b] X.env=[(false,eval b X.env)]:=by rfl) :
  PI X tg (.Call (.Name "range" p) [a,b] [] pos) (bB2 ta):=by
 intro pins s σ H R I h
 refine Call_ (T3 I hg hm boot_range (PyProof.Rows.callWith_type1 (thn (ha pos pins s σ H _ I h) fun us s1 ⟨vs,H1,I1,r1,q1⟩=>?_) (by rw [hs,hs2]) (by rw [hs2];rfl)))
 obtain ⟨i,j,e,⟨q1,q2,q3,q4⟩,q⟩:=q1
 subst e
 cases r1 with
 | cons r rr =>
  cases rr with
  | cons r' rr =>
   cases rr
   obtain ⟨t,rfl⟩:=r
   obtain ⟨t',rfl⟩:=r'
   exact call_range_2 (av7 I1 q1 q2 q3 q4 q)
noncomputable def bG9 (wi:TI) (g:TG) (tb:TS):TS:=fun D σ H=>wi σ H fun J H1=>∃ W:Nat->Nat->St->Hp->Prop,(∃ m,W 0 m σ H1)/\∀ i m σ H,W i m σ H ->
 (J.stop i H/\D.nx σ H) \/ (J.go i H/\∃ N:St->Hp->Prop,(∀ σ' H',N σ' H'->∃ m',m' < m/\W (i + 1) m' σ' H')/\∀ x H',J.yld i H x H'->g x σ H' fun σ2 H2=>tb { D with nx:=N,ct:=N,bk:=D.nx } σ2 H2)
noncomputable def aa2 (fp:List Addr) (h:Heap):List (Addr × Obj):=fp.filterMap fun b=>(h.get? b).map fun o=>(b,o)
theorem X5 {fp:List Addr} {h:Heap} {b:Addr} {o:Obj} (hb:b ∈ fp) (e:h.get? b=some o):(b,o) ∈ aa2 fp h:=List.mem_filterMap.mpr ⟨b,hb,by rw [e];rfl⟩
theorem aO3 {fp:List Addr} {h:Heap} {p:Addr × Obj} (hp:p ∈ aa2 fp h):p.1 ∈ fp/\h.get? p.1=some p.2:=by
 obtain ⟨b,hb,e⟩:=List.mem_filterMap.mp hp
 cases q:h.get? b with
 | none=>rw [q] at e;cases e
 | some o =>
  rw [q] at e
  have e':(b,o)=p:=Option.some.inj e
  subst e'
  exact ⟨hb,q⟩
theorem Inv.pinned {pins:List (Addr × Obj)} {σ:St} {H:Hp} {s:Shared} {fp:List Addr} (I:Inv X pins σ H s) (hf:∀ b ∈ fp,K1 X pins H b) (ho:∀ b ∈ fp,∃ o,s.heap.get? b=some o/\∀ v,o.data ≠ .cell v):Inv X (pins ++ aa2 fp s.heap) σ H s :=
 I.V2 fun p hp=>(List.mem_append.mp hp).elim (fun z=>I.pin p (List.mem_append_right _ z)) fun z=>by
  obtain ⟨hb,e⟩:=aO3 z
  obtain ⟨f0,f1,f2,_⟩:=hf p.1 hb
  obtain ⟨o,e',d⟩:=ho p.1 hb
  rw [e] at e';cases e'
  exact ⟨e,f0,f1,f2,d⟩
theorem Inv.af7 {pins pl:List (Addr × Obj)} {σ:St} {H:Hp} {s:Shared} (I:Inv X (pins ++ pl) σ H s):Inv X pins σ H s:=I.V2 fun p hp=>I.pin p (List.mem_append_right _ (List.mem_append_left _ hp))
theorem bn8 {iter:Expr} {body:List Stmt} {wi:TI} {g:TG} {tb:TS} {pos:Pos} (hp:PassesOwn (model X.prog X.w) X.A X.env X.xe) (hc:X.calm=true) (hi:PI X tg iter wi) (hg:PG X tg g) (hb:PSs X body tb)
  (hs:∀ x,foldedSetIterable iter X.env x=pure x:=by intro _;rfl):PS X (.For tg iter body [] pos) (bG9 wi g tb):=by
 intro pins s σ H D I h
 refine wpAny_For (thn (hi pins s σ H _ I h) fun v s1 h1=>thn h1 fun itv s2 h2=>?_) hs
 obtain ⟨it,fp,tn,J,H2,e,I2,T,st2,f2,W,⟨m0,w0⟩,turn⟩:=h2
 subst e
 have stat:∀ {H':Hp},(∀ b ∈ fp,H' b=none)->∀ b ∈ fp,K1 X pins H' b:=fun hn b hb=>⟨hn b hb,(f2 b hb).2⟩
 refine codeAny_forLoop_any (fun n s'=>∃ i σ' H',Inv X pins σ' H' s'/\tn i s'.heap/\(∀ b ∈ fp,H' b=none)/\W i n σ' H') ?_ m0 ⟨0,σ,H2,I2,st2,fun b hb=>(f2 b hb).1,w0⟩
 rintro n s3 ⟨i,σ3,H3,I3,st3,fr3,w3⟩
 rcases turn i n σ3 H3 w3 with ⟨stop,qn⟩ | ⟨go,N,hN,step⟩
 ·refine wpAny_passesOwn hp (thn (T.done X rfl rfl rfl hc i pins s3 σ3 H3 X.xe I3 (stat fr3) st3 stop) fun r s4 ⟨hr,I4⟩=>?_)
  subst hr
  exact wpAny_execs_nil ⟨σ3,H3,I4,qn⟩
 ·refine wpAny_passesOwn hp (thn (T.item X rfl rfl rfl hc i pins s3 σ3 H3 X.xe I3 (stat fr3) st3 go) fun r s4 ⟨u,hr,h4⟩=>?_)
  subst hr
  refine wpAny_passesOwn hp (thn h4 fun _ s5 ⟨x,H5,I5,r5,y5,st5,fr5⟩=>?_)
  have I5':=I5.pinned (stat fr5) (T.obj _ _ st5)
  refine wpAny_passesOwn hp (thn (hg _ s5 σ3 H5 x u _ I5' r5 (step x H5 y5)) fun _ s6 ⟨σ6,H6,I6,q6⟩=>?_)
  refine wpAny_passesOwn hp (thn (hb _ s6 σ6 H6 _ I6 q6) fun f s7 q7=>?_)
  have again:∀ {σ7:St} {H7:Hp},Inv X (pins ++ aa2 fp s5.heap) σ7 H7 s7->N σ7 H7->∃ m,m < n/\∃ i σ' H',Inv X pins σ' H' s7/\tn i s7.heap/\(∀ b ∈ fp,H' b=none)/\W i m σ' H':=fun {σ7 H7} I7 n7=>by
   obtain ⟨m',hm,w7⟩:=hN σ7 H7 n7
   refine ⟨m',hm,i + 1,σ7,H7,I7.af7,T.keep _ _ _ st5 fun b hb o e=>(I7.pin (b,o) (List.mem_append_right _ (List.mem_append_right _ (X5 hb e)))).1,fun b hb=>?_,w7⟩
   obtain ⟨o,e,d⟩:=T.obj _ _ st5 b hb
   exact (I7.pin (b,o) (List.mem_append_right _ (List.mem_append_right _ (X5 hb e)))).2.1
  cases f with
  | next=>obtain ⟨σ7,H7,I7,n7⟩:=q7;exact again I7 n7
  | cont=>obtain ⟨σ7,H7,I7,n7⟩:=q7;exact again I7 n7
  | brk=>obtain ⟨σ7,H7,I7,q7⟩:=q7;exact ⟨σ7,H7,I7.af7,q7⟩
  | ret v=>obtain ⟨x7,σ7,H7,I7,r7,q7⟩:=q7;exact ⟨x7,σ7,H7,I7.af7,r7,q7⟩
end
end L2
namespace L2
open PySem PySem.Spec PyProof.Rows
noncomputable abbrev R2:=V->V->Hp->VK->Prop
noncomputable def OpR (X:Cx) (f:Value->Value->Sem Value) (r:R2):Prop :=
 ∀ (pins:List (Addr × Obj)) (s:Shared) (σ:St) (H:Hp) (x y:V) (v u:Value) (Q:VK),Inv X pins σ H s->RelV x v->RelV y u->r x y H Q ->
  wpAny (model X.prog X.w) X.A (f v u) (EP X pins σ Q) X.xe s
noncomputable def UnR (X:Cx) (f:Value->Sem Value) (r:V->Hp->VK->Prop):Prop :=
 ∀ (pins:List (Addr × Obj)) (s:Shared) (σ:St) (H:Hp) (x:V) (v:Value) (Q:VK),Inv X pins σ H s->RelV x v->r x H Q ->
  wpAny (model X.prog X.w) X.A (f v) (EP X pins σ Q) X.xe s
noncomputable def t6 (X:Cx) (f:Value) (r:List V->Hp->VK->Prop):Prop :=
 ∀ (pins:List (Addr × Obj)) (s:Shared) (σ:St) (H:Hp) (xs:List V) (us:List Value) (Q:VK),Inv X pins σ H s->Vals xs us->r xs H Q ->
  wpAny (model X.prog X.w) X.A (call f us) (EP X pins σ Q) X.xe s
noncomputable def bT0 (X:Cx) (r:V->Hp->(Bool->Hp->Prop)->Prop):Prop :=
 ∀ (pins:List (Addr × Obj)) (s:Shared) (σ:St) (H:Hp) (x:V) (v:Value) (Q:Bool->Hp->Prop),Inv X pins σ H s->RelV x v->r x H Q ->
  wpAny (model X.prog X.w) X.A (truthy v) (TP X pins σ Q) X.xe s
noncomputable def tOp (r:R2) (ta tb:TE):TE:=fun σ H Q=>ta σ H fun x H1=>tb σ H1 fun y H2=>r x y H2 Q
noncomputable def tUn (r:V->Hp->VK->Prop) (ta:TE):TE:=fun σ H Q=>ta σ H fun x H1=>r x H1 Q
noncomputable def rI (C:Int->Int->Prop) (g:Int->Int->V):R2:=fun x y H Q=>∃ i j,x=.int i/\y=.int j/\C i j/\Q (g i j) H
noncomputable def rI0 (g:Int->Int->V):R2:=fun x y H Q=>∃ i j,x=.int i/\y=.int j/\Q (g i j) H
noncomputable def rU (g:Int->V):V->Hp->VK->Prop:=fun x H Q=>∃ i,x=.int i/\Q (g i) H
section
variable {X:Cx} {a b c:Expr} {ta tb tc:TE} {pos:Pos}
theorem a10 (ha:PE X a ta) (hb:PE X b tb) {pins:List (Addr × Obj)} {s:Shared} {σ:St} {H:Hp} {R:V->V->Hp->Prop} (I:Inv X pins σ H s)
  (h:ta σ H fun x H1=>tb σ H1 fun y H2=>R x y H2) {Q:Value->Shared->Prop} {f:Value->Value->Sem Value}
  (hf:∀ v u s2 x y H2,Inv X pins σ H2 s2->RelV x v->RelV y u->R x y H2->wpAny (model X.prog X.w) X.A (f v u) Q X.xe s2) :
  wpAny (model X.prog X.w) X.A (eval a X.env) (fun v s₁=>wpAny (model X.prog X.w) X.A (eval b X.env) (fun u s₂=>wpAny (model X.prog X.w) X.A (f v u) Q X.xe s₂) X.xe s₁) X.xe s:=by
 refine thn (ha pins s σ H _ I h) fun v s1 ⟨x,H1,I1,r1,q1⟩=>?_
 refine thn (hb pins s1 σ H1 _ I1 q1) fun u s2 ⟨y,H2,I2,r2,q2⟩=>?_
 exact hf v u s2 x y H2 I2 r1 r2 q2
theorem a69 {op:Operator} {r:R2} (ho:OpR X (binaryOp op) r) (ha:PE X a ta) (hb:PE X b tb):PE X (.BinOp a op b pos) (tOp r ta tb):=by
 intro pins s σ H Q I h
 exact wpAny_BinOp (a10 ha hb I h fun v u s2 x y H2 I2 rx ry q=>ho pins s2 σ H2 x y v u Q I2 rx ry q)
theorem by6 {op:UnaryOp} {r:V->Hp->VK->Prop} (ho:UnR X (unaryOp op) r) (ha:PE X a ta):PE X (.UnaryOp op a pos) (tUn r ta):=by
 intro pins s σ H Q I h
 exact UnaryOp_ (thn (ha pins s σ H _ I h) fun v s1 ⟨x,H1,I1,r1,q1⟩=>ho pins s1 σ H1 x v Q I1 r1 q1)
theorem opI {f:Value->Value->Sem Value} {C:Int->Int->Prop} {g:Int->Int->Int}
  (rule:∀ (i j:Int) (t u:Tok) (s:Shared) (Q:Value->Shared->Prop) (E:Value->Shared->Prop),C i j->Q (.int (g i j) s.toks) { s with toks:=s.toks + 1 }->wpAny (model X.prog X.w) X.A (f (.int i t) (.int j u)) Q E s) :
  OpR X f (rI C fun i j=>.int (g i j)):=by
 intro pins s σ H x y v u Q I rx ry h
 obtain ⟨i,j,rfl,rfl,hc,q⟩:=h
 obtain ⟨t,rfl⟩:=rx
 obtain ⟨t',rfl⟩:=ry
 exact rule i j t t' s _ _ hc ⟨.int (g i j),H,I.tok _,⟨_,rfl⟩,q⟩
theorem bq3 {f:Value->Value->Sem Value} {g:Int->Int->Int}
  (rule:∀ (i j:Int) (t u:Tok) (s:Shared) (Q:Value->Shared->Prop) (E:Value->Shared->Prop),Q (.int (g i j) s.toks) { s with toks:=s.toks + 1 }->wpAny (model X.prog X.w) X.A (f (.int i t) (.int j u)) Q E s) :
  OpR X f (rI0 fun i j=>.int (g i j)):=by
 intro pins s σ H x y v u Q I rx ry h
 obtain ⟨i,j,rfl,rfl,q⟩:=h
 obtain ⟨t,rfl⟩:=rx
 obtain ⟨t',rfl⟩:=ry
 exact rule i j t t' s _ _ ⟨.int (g i j),H,I.tok _,⟨_,rfl⟩,q⟩
theorem aH0 {f:Value->Value->Sem Value} {g:Int->Int->Bool}
  (rule:∀ (i j:Int) (t u:Tok) (s:Shared) (Q:Value->Shared->Prop) (E:Value->Shared->Prop),Q (.bool (g i j)) s->wpAny (model X.prog X.w) X.A (f (.int i t) (.int j u)) Q E s) :
  OpR X f (rI0 fun i j=>.bl (g i j)):=by
 intro pins s σ H x y v u Q I rx ry h
 obtain ⟨i,j,rfl,rfl,q⟩:=h
 obtain ⟨t,rfl⟩:=rx
 obtain ⟨t',rfl⟩:=ry
 exact rule i j t t' s _ _ ⟨.bl (g i j),H,I,rfl,q⟩
noncomputable def a20 (i j:Int):Prop:=0 < j/\j < 1073741824
noncomputable def ai4 (i j:Int):Prop:=0 <= j/\j <= 1000000/\i.natAbs < 2 ^ 64
noncomputable def ai5 (i j:Int):Prop:=(-(2 ^ 64) < i/\i < 2 ^ 64) \/ (-(2 ^ 64) < j/\j < 2 ^ 64)
theorem ai5.ok {i j:Int} (h:ai5 i j):IntMulOk i j:=by
 rcases h with ⟨h1,h2⟩ | ⟨h1,h2⟩
 ·exact .of_left (intBits_le_64 h1 h2)
 ·exact .of_right (intBits_le_64 h1 h2)
theorem bq2:OpR X (binaryOp .Add) (rI0 fun i j=>.int (i + j)):=bq3 fun _ _ _ _ _ _ _ q=>add_int q
theorem bp4:OpR X (binaryOp .Sub) (rI0 fun i j=>.int (i - j)):=bq3 fun _ _ _ _ _ _ _ q=>sub_int q
theorem bp7:OpR X (binaryOp .Mult) (rI ai5 fun i j=>.int (i * j)):=opI fun _ _ _ _ _ _ _ hc q=>mul_int q hc.ok
theorem be2:OpR X (binaryOp .FloorDiv) (rI a20 fun i j=>.int (i / j)):=opI fun i j _ _ _ _ _ hc q=>by
 have h1:(0:Int) < j:=hc.1
 have h2:j < 1073741824:=hc.2
 exact floordiv_int (by omega) (by rw [Int.fdiv_eq_ediv_of_nonneg i (by omega)];exact q) (.inl (PyProof.noPylong_small (by omega)))
theorem bp8:OpR X (binaryOp .Mod) (rI (fun _ j=>0 < j) fun i j=>.int (i % j)):=opI fun i j _ _ _ _ _ hc q=>by
 have h1:(0:Int) < j:=hc
 exact mod_int' (by omega) (by rw [Int.fmod_eq_emod_of_nonneg i (by omega)];exact q)
theorem bp6:OpR X (binaryOp .Pow) (rI ai4 fun i j=>.int (i ^ j.toNat)):=opI fun _ _ _ _ _ _ _ hc q=>pow_int_small hc.1 hc.2.1 hc.2.2 q
theorem unI {f:Value->Sem Value} {g:Int->Int}
  (rule:∀ (i:Int) (t:Tok) (s:Shared) (Q:Value->Shared->Prop) (E:Value->Shared->Prop),Q (.int (g i) s.toks) { s with toks:=s.toks + 1 }->wpAny (model X.prog X.w) X.A (f (.int i t)) Q E s) :
  UnR X f (rU fun i=>.int (g i)):=by
 intro pins s σ H x v Q I rx h
 obtain ⟨i,rfl,q⟩:=h
 obtain ⟨t,rfl⟩:=rx
 exact rule i t s _ _ ⟨.int (g i),H,I.tok _,⟨_,rfl⟩,q⟩
theorem bi4:UnR X (unaryOp .USub) (rU fun i=>.int (-i)):=unI fun _ _ _ _ _ q=>neg_int q
end
noncomputable def bm4:V->V->Bool
 | .non,.non=>true | .non,.int _=>true | .int _,.non=>true | .non,.bl _=>true | .bl _,.non=>true | .non,.str _=>true | .str _,.non=>true
 | .int _,.int _=>true | .bl _,.bl _=>true | .str _,.str _=>true | .byt _,.byt _=>true
 | .int _,.str _=>true | .str _,.int _=>true | .bl _,.str _=>true | .str _,.bl _=>true
 | _,_=>false
noncomputable def rEq:R2:=fun x y H Q=>bm4 x y=true/\Q (.bl (decide (x=y))) H
noncomputable def rNe:R2:=fun x y H Q=>bm4 x y=true/\Q (.bl (!decide (x=y))) H
theorem ad8 {i j:Int}:decide (V.int i=V.int j)=(i == j):=by
 rw [Bool.eq_iff_iff]
 simp
theorem al0 {i j:Bool}:decide (V.bl i=V.bl j)=(i == j):=by
 rw [Bool.eq_iff_iff]
 simp
theorem ad7 {i j:Str}:decide (V.str i=V.str j)=(i == j):=by
 rw [Bool.eq_iff_iff]
 simp
theorem aE0 {i j:Array UInt8}:decide (V.byt i=V.byt j)=(i.toList == j.toList):=by
 rw [Bool.eq_iff_iff]
 cases i
 cases j
 simp
section
variable {X:Cx} {a b c:Expr} {ta tb tc:TE} {pos:Pos}
theorem j2 {pins:List (Addr × Obj)} {σ:St} {H:Hp} {s:Shared} {Q:VK} {k k':Bool} (I:Inv X pins σ H s) (q:Q (.bl k) H) (e:k=k'):EP X pins σ Q (.bool k') s:=by
 subst e
 exact ⟨.bl k,H,I,rfl,q⟩
theorem aG8:OpR X (compareOp .Eq) rEq:=by
 intro pins s σ H x y v u Q I rx ry h
 obtain ⟨hs,q⟩:=h
 cases x with
 | non =>
  cases rx
  cases y with
  | non=>cases ry;exact PySem.EqNone.eq_none_none (j2 I q (by simp))
  | bl j=>cases ry;exact PySem.EqNone.eq_none_bool (j2 I q (by simp))
  | int j=>obtain ⟨t',rfl⟩:=ry;exact PySem.EqNone.eq_none_int (j2 I q (by simp))
  | str j=>obtain ⟨t',rfl⟩:=ry;exact PySem.EqNone.eq_none_str (j2 I q (by simp))
  | _=>exact absurd (show false=true from hs) Bool.false_ne_true
 | bl i =>
  cases rx
  cases y with
  | non=>cases ry;exact PySem.EqNone.eq_bool_none (j2 I q (by simp))
  | bl j=>cases ry;exact eq_bool (j2 I q al0)
  | str j=>obtain ⟨t',rfl⟩:=ry;exact PySem.EqMixed.eq_bool_str (j2 I q (by simp))
  | _=>exact absurd (show false=true from hs) Bool.false_ne_true
 | int i =>
  obtain ⟨t,rfl⟩:=rx
  cases y with
  | non=>cases ry;exact PySem.EqNone.eq_int_none (j2 I q (by simp))
  | int j=>obtain ⟨t',rfl⟩:=ry;exact eq_int (j2 I q ad8)
  | str j=>obtain ⟨t',rfl⟩:=ry;exact PySem.EqMixed.eq_int_str (j2 I q (by simp))
  | _=>exact absurd (show false=true from hs) Bool.false_ne_true
 | str i =>
  obtain ⟨t,rfl⟩:=rx
  cases y with
  | non=>cases ry;exact PySem.EqNone.eq_str_none (j2 I q (by simp))
  | bl j=>cases ry;exact PySem.EqMixed.eq_str_bool (j2 I q (by simp))
  | int j=>obtain ⟨t',rfl⟩:=ry;exact PySem.EqMixed.eq_str_int (j2 I q (by simp))
  | str j=>obtain ⟨t',rfl⟩:=ry;exact eq_str (j2 I q ad7)
  | _=>exact absurd (show false=true from hs) Bool.false_ne_true
 | byt i =>
  obtain ⟨t,rfl⟩:=rx
  cases y with
  | byt j=>obtain ⟨t',rfl⟩:=ry;exact PySem.W.eq_bytes (j2 I q aE0)
  | _=>exact absurd (show false=true from hs) Bool.false_ne_true
 | _=>cases y <;> exact absurd (show false=true from hs) Bool.false_ne_true
theorem aG7:OpR X (compareOp .NotEq) rNe:=by
 intro pins s σ H x y v u Q I rx ry h
 obtain ⟨hs,q⟩:=h
 cases x with
 | non =>
  cases rx
  cases y with
  | non=>cases ry;exact PySem.EqNone.ne_none_none (j2 I q (by simp))
  | bl j=>cases ry;exact PySem.EqNone.ne_none_bool (j2 I q (by simp))
  | int j=>obtain ⟨t',rfl⟩:=ry;exact PySem.EqNone.ne_none_int (j2 I q (by simp))
  | str j=>obtain ⟨t',rfl⟩:=ry;exact PySem.EqNone.ne_none_str (j2 I q (by simp))
  | _=>exact absurd (show false=true from hs) Bool.false_ne_true
 | bl i =>
  cases rx
  cases y with
  | non=>cases ry;exact PySem.EqNone.ne_bool_none (j2 I q (by simp))
  | bl j=>cases ry;exact ne_bool (j2 I q (congrArg not al0))
  | str j=>obtain ⟨t',rfl⟩:=ry;exact PySem.EqMixed.ne_bool_str (j2 I q (by simp))
  | _=>exact absurd (show false=true from hs) Bool.false_ne_true
 | int i =>
  obtain ⟨t,rfl⟩:=rx
  cases y with
  | non=>cases ry;exact PySem.EqNone.ne_int_none (j2 I q (by simp))
  | int j=>obtain ⟨t',rfl⟩:=ry;exact ne_int (j2 I q (congrArg not ad8))
  | str j=>obtain ⟨t',rfl⟩:=ry;exact PySem.EqMixed.ne_int_str (j2 I q (by simp))
  | _=>exact absurd (show false=true from hs) Bool.false_ne_true
 | str i =>
  obtain ⟨t,rfl⟩:=rx
  cases y with
  | non=>cases ry;exact PySem.EqNone.ne_str_none (j2 I q (by simp))
  | bl j=>cases ry;exact PySem.EqMixed.ne_str_bool (j2 I q (by simp))
  | int j=>obtain ⟨t',rfl⟩:=ry;exact PySem.EqMixed.ne_str_int (j2 I q (by simp))
  | str j=>obtain ⟨t',rfl⟩:=ry;exact ne_str (j2 I q (congrArg not ad7))
  | _=>exact absurd (show false=true from hs) Bool.false_ne_true
 | byt i =>
  obtain ⟨t,rfl⟩:=rx
  cases y with
  | byt j=>obtain ⟨t',rfl⟩:=ry;exact PySem.W.ne_bytes (j2 I q (congrArg not aE0))
  | _=>exact absurd (show false=true from hs) Bool.false_ne_true
 | _=>cases y <;> exact absurd (show false=true from hs) Bool.false_ne_true
theorem bz3:OpR X (compareOp .Lt) (rI0 fun i j=>.bl (decide (i < j))):=aH0 fun _ _ _ _ _ _ _ q=>lt_int q
theorem bz4:OpR X (compareOp .LtE) (rI0 fun i j=>.bl (decide (i <= j))):=aH0 fun _ _ _ _ _ _ _ q=>le_int q
theorem bz5:OpR X (compareOp .Gt) (rI0 fun i j=>.bl (decide (j < i))):=aH0 fun _ _ _ _ _ _ _ q=>gt_int q
theorem bz6:OpR X (compareOp .GtE) (rI0 fun i j=>.bl (decide (j <= i))):=aH0 fun _ _ _ _ _ _ _ q=>ge_int q
theorem bp9:OpR X (compareOp .Is) (fun x y H Q=>y=.non/\Q (.bl (decide (x=.non))) H):=by
 intro pins s σ H x y v u Q I rx ry h
 obtain ⟨rfl,q⟩:=h
 cases ry
 refine is_none_gen (j2 I q ?_)
 cases x <;> first
  | (cases rx;rfl)
  | (obtain ⟨t,rfl⟩:=rx;rfl)
theorem be1:OpR X (compareOp .IsNot) (fun x y H Q=>y=.non/\Q (.bl (!decide (x=.non))) H):=by
 intro pins s σ H x y v u Q I rx ry h
 obtain ⟨rfl,q⟩:=h
 cases ry
 refine isnot_none_gen (j2 I q ?_)
 cases x <;> first
  | (cases rx;rfl)
  | (obtain ⟨t,rfl⟩:=rx;rfl)
theorem bd5 {op:CmpOp} {r:R2} (ho:OpR X (compareOp op) r) (ha:PE X a ta) (hb:PE X b tb) (hm:behindInMarks op b=false):PE X (.Compare a [op] [b] pos) (tOp r ta tb):=by
 intro pins s σ H Q I h
 exact wpAny_Compare1 (a10 ha hb I h fun v u s2 x y H2 I2 rx ry q=>ho pins s2 σ H2 x y v u Q I2 rx ry q) hm
noncomputable def aF2 (t:TE):TT:=fun σ H Q=>t σ H fun x H'=>∃ k,x=.bl k/\Q k H'
theorem bc4 {op:CmpOp} {r:R2} (ho:OpR X (compareOp op) r) (ha:PE X a ta) (hb:PE X b tb) (hm:behindInMarks op b=false):PT X (.Compare a [op] [b] pos) (aF2 (tOp r ta tb)):=by
 intro pins s σ H Q I h
 refine wpAny_isTrue_Compare1 (thn (ha pins s σ H _ I h) fun v s1 ⟨x,H1,I1,r1,q1⟩=>thn (hb pins s1 σ H1 _ I1 q1) fun u s2 ⟨y,H2,I2,r2,q2⟩ =>
  thn (ho pins s2 σ H2 x y v u _ I2 r1 r2 q2) fun c s3 ⟨z,H3,I3,r3,k,e,q3⟩=>?_) hm
 subst e
 cases r3
 exact wpAny_truthy_bool ⟨H3,I3,q3⟩
noncomputable def au2 (r r':R2) (ta tb tc:TE):TE:=fun σ H Q=>ta σ H fun x H1=>tb σ H1 fun y H2=>r x y H2 fun z H3=>∃ k,z=.bl k /\
 (if k=true then tc σ H3 fun w' H4=>r' y w' H4 Q else Q (.bl false) H3)
theorem aX1 {op op':CmpOp} {r r':R2} (ho:OpR X (compareOp op) r) (ho':OpR X (compareOp op') r') (ha:PE X a ta) (hb:PE X b tb) (hc:PE X c tc)
  (hm:lastMarks [op,op'] [b,c]=false:=by with_unfolding_all rfl):PE X (.Compare a [op,op'] [b,c] pos) (au2 r r' ta tb tc):=by
 intro pins s σ H Q I h
 refine Compare_chain (thn (ha pins s σ H _ I h) fun v s1 ⟨x,H1,I1,r1,q1⟩=>chain_link (thn (hb pins s1 σ H1 _ I1 q1) fun u s2 ⟨y,H2,I2,r2,q2⟩ =>
  thn (ho pins s2 σ H2 x y v u _ I2 r1 r2 q2) fun d s3 ⟨z,H3,I3,r3,k,e,q3⟩=>?_)) hm
 subst e
 cases r3
 refine wpAny_truthy_bool ?_
 cases k with
 | false=>exact ite_ff ⟨.bl false,H3,I3,rfl,q3⟩
 | true=>exact ite_tt (chain_last (thn (hc pins s3 σ H3 _ I3 q3) fun w' s4 ⟨z',H4,I4,r4,q4⟩=>ho' pins s4 σ H4 y z' u w' Q I4 r2 r4 q4))
theorem aV8 {op op':CmpOp} {r r':R2} (ho:OpR X (compareOp op) r) (ho':OpR X (compareOp op') r') (ha:PE X a ta) (hb:PE X b tb) (hc:PE X c tc)
  (hm:lastMarks [op,op'] [b,c]=false:=by with_unfolding_all rfl):PT X (.Compare a [op,op'] [b,c] pos) (aF2 (au2 r r' ta tb tc)):=by
 intro pins s σ H Q I h
 refine isTrue_chain (thn (ha pins s σ H _ I h) fun v s1 ⟨x,H1,I1,r1,q1⟩=>test_link (thn (hb pins s1 σ H1 _ I1 q1) fun u s2 ⟨y,H2,I2,r2,q2⟩ =>
  thn (ho pins s2 σ H2 x y v u _ I2 r1 r2 q2) fun d s3 ⟨z,H3,I3,r3,k,e,q3⟩=>?_)) hm
 subst e
 cases r3
 refine wpAny_truthy_bool ?_
 cases k with
 | false =>
  obtain ⟨k',e',q'⟩:=q3
  cases e'
  exact ite_ff ⟨H3,I3,q'⟩
 | true =>
  refine ite_tt (test_last (thn (hc pins s3 σ H3 _ I3 q3) fun w' s4 ⟨z',H4,I4,r4,q4⟩=>thn (ho' pins s4 σ H4 y z' u w' _ I4 r2 r4 q4) fun d' s5 ⟨z2,H5,I5,r5,k2,e2,q5⟩=>?_))
  subst e2
  cases r5
  exact wpAny_truthy_bool ⟨H5,I5,q5⟩
noncomputable def a15 (K:PySem.W.Frag) (x:V) (H:Hp) (k:Bool):Prop :=
 match x with
 | .non=>k=false
 | .bl b=>k=b
 | .int i=>k=(i != 0)
 | .str y=>y.length <= sizeLine/\k=((y.length:Int) != 0)
 | .byt y=>y.size <= sizeLine/\k=((y.size:Int) != 0)
 | .ref p=>(∃ xs,SqL K H p xs/\k=!xs.isEmpty) \/ (∃ xs,SqT K H p xs/\k=!xs.isEmpty) \/ ∃ kvs,H p=some (.dK kvs)/\k=!kvs.isEmpty
 | _=>False
theorem aI4 {κ:Type} {kvs:List (κ × V)} {vs:List (κ × Value)} (r:KV kvs vs):(!vs.isEmpty)=!kvs.isEmpty:=by
 cases r <;> rfl
theorem ak3 {xs:List V} {its:List Value} (r:Vals xs its):(!its.toArray.isEmpty)=!xs.isEmpty:=by
 cases r <;> simp
theorem T2:(sizeLine:Nat) < 2 ^ 63:=by rw [sizeLine_eq];decide
theorem bi7:bT0 X (fun x H Q=>∃ k,a15 X.K x H k/\Q k H):=by
 intro pins s σ H x v Q I rx h
 obtain ⟨k,e,q⟩:=h
 have hl:=T2
 have hs:sizeLine=16777216:=sizeLine_eq
 cases x with
 | non =>
  cases rx
  have e':k=false:=e
  subst e'
  exact truthy_none ⟨H,I,q⟩
 | bl b =>
  cases rx
  have e':k=b:=e
  subst e'
  exact wpAny_truthy_bool ⟨H,I,q⟩
 | int i =>
  obtain ⟨t,rfl⟩:=rx
  have e':k=(i != 0):=e
  subst e'
  exact PySem.P.truthy_int ⟨H,I,q⟩
 | str y =>
  obtain ⟨t,rfl⟩:=rx
  obtain ⟨hy,e'⟩:y.length <= sizeLine/\k=((y.length:Int) != 0):=e
  subst e'
  exact PySem.P.truthy_str (by omega) ⟨H,I.tok _,q⟩
 | byt y =>
  obtain ⟨t,rfl⟩:=rx
  obtain ⟨hy,e'⟩:y.size <= sizeLine/\k=((y.size:Int) != 0):=e
  subst e'
  exact PySem.W.truthy_bytes (by omega) ⟨H,I.tok _,q⟩
 | ref p =>
  cases rx
  have e':(∃ xs,SqL X.K H p xs/\k=!xs.isEmpty) \/ (∃ xs,SqT X.K H p xs/\k=!xs.isEmpty) \/ ∃ kvs,H p=some (.dK kvs)/\k=!kvs.isEmpty:=e
  rcases e' with ⟨xs,hx,e'⟩ | ⟨xs,hx,e'⟩ | ⟨kvs,hx,e'⟩
  ·subst e'
   obtain ⟨its,r,pl,hz⟩:=I.list hx
   have hlen:=r.length
   exact wpAny_truthy_list pl.isList (by simp only [List.size_toArray];omega) ⟨H,I.tok _,by rw [ak3 r];exact q⟩
  ·subst e'
   obtain ⟨its,r,pl,hz⟩:=I.tuple hx
   have hlen:=r.length
   exact truthy_tuple pl (by simp only [List.size_toArray];omega) ⟨H,I.tok _,by rw [ak3 r];exact q⟩
  ·subst e'
   obtain ⟨hz,hS,vs,r,m⟩:kvs.length <= sizeLine/\(p == sysModules)=false/\∃ vs,KV kvs vs/\s.heap.DictOf (p9 X.prog X.w) p vs:=I.hok p _ hx
   have hlen:kvs.length=vs.length:=Paired.length r
   exact wpAny_truthy_dict hS m (by omega) ⟨H,I.tok _,by rw [aI4 r];exact q⟩
 | _=>exact (show False from e).elim
theorem aV7 (ha:PE X a ta) (he:∀ whole,isTrue a X.env whole=(do let v <- whole;standAt a.pos;holding [v] (truthy v))) :
  PT X a (fun σ H Q=>ta σ H fun x H'=>∃ k,a15 X.K x H' k/\Q k H'):=by
 intro pins s σ H Q I h
 exact isTrue_plain (thn (ha pins s σ H _ I h) fun v s1 ⟨x,H1,I1,r1,q1⟩=>bi7 pins s1 σ H1 x v Q I1 r1 q1) (he _)
theorem aG9:OpR X (binaryOp .Add) (fun x y H Q=>∃ i j,x=.str i/\y=.str j/\i.length + j.length <= sizeLine/\Q (.str (i ++ j)) H):=by
 intro pins s σ H x y v u Q I rx ry h
 obtain ⟨i,j,rfl,rfl,hz,q⟩:=h
 obtain ⟨t,rfl⟩:=rx
 obtain ⟨t',rfl⟩:=ry
 exact add_str (fun t' tk=>⟨.str (i ++ j),H,I.tok _,⟨_,rfl⟩,q⟩) hz
theorem vals1 {x:V} {us:List Value} (r:Vals [x] us):∃ u,us=[u]/\RelV x u:=by
 cases r with
 | cons r1 r2=>cases r2;exact ⟨_,rfl,r1⟩
theorem vals2 {x y:V} {us:List Value} (r:Vals [x,y] us):∃ u w',us=[u,w']/\RelV x u/\RelV y w':=by
 cases r with
 | cons r1 r2 =>
  cases r2 with
  | cons r3 r4=>cases r4;exact ⟨_,_,rfl,r1,r3⟩
theorem ar3:t6 X (.type "int") (fun xs H Q=>(∃ i,xs=[.int i]/\Q (.int i) H) \/ ∃ k,xs=[.bl k]/\Q (.int (if k then 1 else 0)) H):=by
 intro pins s σ H xs us Q I r h
 rcases h with ⟨i,rfl,q⟩ | ⟨k,rfl,q⟩
 ·obtain ⟨u,rfl,t,rfl⟩:=vals1 r
  exact call_int_int ⟨.int i,H,I,⟨_,rfl⟩,q⟩
 ·obtain ⟨u,rfl,r1⟩:=vals1 r
  cases r1
  exact call_int_bool ⟨.int (if k then 1 else 0),H,I.tok _,⟨_,rfl⟩,q⟩
end
end L2
namespace L2
open PySem PySem.Spec PyProof.Rows
structure ai1 (h:Heap) (x dx C:Addr) (mA:Str->Option Value):Prop where
 obj:h.get? x=some (PySem.W.instObj C dx)
 ns:h.Ns1 dx mA
 ne:dx ≠ x
theorem aq2 {h:Heap} {dx:Addr} {mA:Str->Option Value} (n:h.Ns1 dx mA):∃ od,h.get? dx=some od/\∀ name,PySem.W.lookIn name od=some (mA name):=by
 obtain ⟨o,es,ep,ho,hd,hk,_,hm⟩:=n
 refine ⟨o,ho,fun name=>?_⟩
 have e:=hm name
 unfold nsFind findBy at e
 rw [<- Array.find?_toList] at e
 unfold PySem.W.lookIn
 rw [hd]
 dsimp only
 split
 ·rename_i y q
  rw [q] at e
  exact congrArg some e
 ·rename_i q
  rw [q] at e
  have a:es.toList.any (·.refKey)=false:=by
   rw [List.any_eq_false]
   intro y hy
   obtain ⟨z,t,hkey⟩:=hk y (Array.mem_toList_iff.mp hy)
   simp [DictEntry.refKey,hkey]
  have a':¬ es.toList.any (·.refKey)=true:=by rw [a];exact Bool.false_ne_true
  rw [if_neg a']
  exact congrArg some e
theorem ai1.look {h:Heap} {x dx C:Addr} {mA:Str->Option Value} (I:ai1 h x dx C mA):∃ od,PySem.W.InstAt h x (PySem.W.instObj C dx) C (some od)/\∀ name,PySem.W.lookIn name od=some (mA name) :=
 let ⟨od,ho,hl⟩:=aq2 I.ns
 ⟨od,⟨I.obj,rfl,rfl,ho⟩,hl⟩
section
variable {prog:Program} {w:World} {A:Around} {E:Value->Shared->Prop} {s:Shared} {K:PySem.W.Frag} {x dx C f:Addr} {mA:Str->Option Value} {name:Str} {v:Value}
theorem get_map {expr:Bool} {Q:Value->Shared->Prop} (X:K.In s.heap) (I:ai1 s.heap x dx C mA) (hg:PySem.W.plainGet K C name=true) (hh:PySem.W.hasDictIn K C=true)
  (ha:PySem.W.findIn K (.ref C) name=some none) (hv:mA name=some v) (hv':PySem.W.handedIn v=true) (h:Q v { s with toks:=s.toks + 1 }) :
  wpAny (model prog w) A (getAttr (.ref x) name expr) Q E s:=by
 obtain ⟨od,J,hl⟩:=I.look
 exact PySem.W.get_value X J (PySem.W.plainGet_of hg).1 (PySem.W.findObj_own hh ha rfl (by rw [hl,hv])) hv' h
theorem aZ6 {pl:Sem Bool} {Q:Value × List Value->Shared->Prop} (X:K.In s.heap) (I:ai1 s.heap x dx C mA) (hg:PySem.W.plainGet K C name=true)
  (hf:PySem.W.findIn K (.ref C) name=some (some (.ref f))) (ht:PySem.W.isFn K (.ref f)=true) (hv:mA name=none) (h:Q (.ref f,[.ref x]) s) :
  wpAny (model prog w) A (getMethod (.ref x) name pl) Q E s:=by
 obtain ⟨od,J,hl⟩:=I.look
 exact PySem.W.method_fn X J (PySem.W.plainGet_of hg).1 (PySem.W.plainGet_of hg).2 hf (beq_iff_eq.mp ht) (by show (PySem.W.lookIn name od).map (·.isSome)=some false;rw [hl,hv];rfl) h
theorem bb0 {ns:List Str} {Q:Unit->Shared->Prop} (X:K.In s.heap) (I:ai1 s.heap x dx C mA)
  (hs:PySem.W.findIn K (.ref C) "__setattr__"=some (some (.builtin "object.__setattr__"))) (hp:PySem.W.plainOver K C=true) (ht:PySem.W.takerIn K C name=some none) (hh:PySem.W.hasDictIn K C=true)
  (hw:PySem.Within mA ns) (hsz:ns.length <= sizeLine)
  (h:∀ h',ai1 h' x dx C (fun y=>if y=name then some v else mA y)->Heap.SameBut dx s.heap h'->Q () { s with heap:=h',toks:=s.toks + 2 }) :
  wpAny (model prog w) A (setAttr (.ref x) name v) Q E s:=by
 obtain ⟨od,J,hl⟩:=I.look
 refine PySem.W.set_plain X J hs (PySem.W.osa_open (s:={ s with toks:=s.toks + 1 }) (r:=none) X J hp ht fun b=>?_)
 obtain ⟨cd,hc,hd'⟩:=PySem.W.any_some hh
 have hx:s.heap.get? x=some ⟨.ref C,some dx,.plain,#[]⟩:=I.obj
 refine wpAny_bind (wpAny_pure (wpAny_bind (wpAny_bind (wpAny_loadPart hx (wpAny_bind (PySem.W.Looks.here (s:={ s with toks:=s.toks + 1 }) (PySem.W.looks_clsIn X hc) ?_))))))
 rw [hd']
 refine wpAny_pure (a:=some dx) (wpAny_bind (wpAny_pure (wpAny_bind ?_)))
 refine wpAny_nsSet1 (s:={ s with toks:=s.toks + 1 }) I.ns fun h' hn2 hs2=>?_
 obtain ⟨oD,esD,epD,hoD,hdD,hcD⟩:=hn2.count (PySem.Within.cons name v hw)
 refine wpAny_bind (wpAny_lookBehind hoD (by rw [hdD];exact pastItsLine_dict (Nat.le_trans hcD (by rw [List.length_cons];omega))) ?_)
 exact wpAny_pure (h _ ⟨(hs2.2 _ (Ne.symm I.ne)).trans I.obj,hn2,I.ne⟩ hs2)
theorem aY7 {R:Result->Shared->Prop} {vs:List Value} {kw:List (Str × Value)} (X:K.In s.heap) (hm:PySem.W.makesIn K C=true)
  (hi:PySem.W.findIn K (.ref C) "__init__"=some (some (.ref f))) (hf:PySem.W.typeIn K (.ref f)=some (.type "function"))
  (h:codeAny (model prog w) (A.under (.builtin "type.__call__" ⟨.ref C :: vs,kw⟩)) (.call (.ref f) ⟨.ref (s.heap.objs.size + 1) :: vs,kw⟩) (PySem.W.InitBack (s.heap.objs.size + 1) R)
   { s with heap:=(s.heap.push PySem.W.emptyDict).push (PySem.W.instObj C s.heap.objs.size) }) :
  codeAny (model prog w) A (.call (.ref C) ⟨vs,kw⟩) R s:=by
 obtain ⟨hh,g,d,t,os⟩:=s
 exact PySem.W.make_core (PySem.W.makes_of X hm) (PySem.W.looks_findIn X hi) (fun self=>PySem.W.bind_fn X self hf) (.inl rfl) h
end
noncomputable def q8 (f:Str) (v:V):List (Str × V)->List (Str × V)
 | []=>[(f,v)]
 | (g,x) :: r=>if g=f then (g,v) :: r else (g,x) :: q8 f v r
theorem af0 (f g:Str) (v:V):∀ fs:List (Str × V),(q8 f v fs).lookup g=if g=f then some v else fs.lookup g
 | []=>by
  show List.lookup g [(f,v)]=_
  by_cases h:g=f
  ·have hb:(g == f)=true:=beq_iff_eq.mpr h
   simp only [List.lookup,hb,if_pos h]
  ·have hb:(g == f)=false:=beq_eq_false_iff_ne.mpr h
   simp only [List.lookup,hb,if_neg h]
 | (k,x) :: r=>by
  have ih:=af0 f g v r
  rw [show q8 f v ((k,x) :: r)=(if k=f then (k,v) :: r else (k,x) :: q8 f v r) from rfl]
  by_cases hk:k=f
  ·rw [if_pos hk]
   by_cases h:g=k
   ·have hb:(g == k)=true:=beq_iff_eq.mpr h
    simp only [List.lookup,hb,if_pos (h.trans hk)]
   ·have hb:(g == k)=false:=beq_eq_false_iff_ne.mpr h
    simp only [List.lookup,hb,if_neg (fun e:g=f=>h (e.trans hk.symm))]
  ·rw [if_neg hk]
   by_cases h:g=k
   ·have hb:(g == k)=true:=beq_iff_eq.mpr h
    simp only [List.lookup,hb,if_neg (fun e:g=f=>hk (h.symm.trans e))]
   ·have hb:(g == k)=false:=beq_eq_false_iff_ne.mpr h
    simp only [List.lookup,hb]
    exact ih
theorem aa5 (f:Str) (v:V):∀ fs:List (Str × V),f ∈ (q8 f v fs).map (·.1)/\∀ g,g ∈ fs.map (·.1)->g ∈ (q8 f v fs).map (·.1)
 | []=>⟨by simp [q8],fun g h=>by simp at h⟩
 | (k,x) :: r=>by
  obtain ⟨i1,i2⟩:=aa5 f v r
  rw [show q8 f v ((k,x) :: r)=(if k=f then (k,v) :: r else (k,x) :: q8 f v r) from rfl]
  by_cases hk:k=f
  ·rw [if_pos hk]
   subst hk
   exact ⟨by simp,fun g h=>by simpa using h⟩
  ·rw [if_neg hk]
   refine ⟨?_,fun g h=>?_⟩
   ·rw [List.map_cons]
    exact List.mem_cons_of_mem _ i1
   ·rw [List.map_cons] at h ⊢
    rcases List.mem_cons.mp h with e | e
    ·exact List.mem_cons.mpr (.inl e)
    ·exact List.mem_cons_of_mem _ (i2 g e)
theorem af1 (f:Str) (v:V):∀ fs:List (Str × V),(q8 f v fs).length <= fs.length + 1
 | []=>by simp [q8]
 | (k,x) :: r=>by
  have ih:=af1 f v r
  rw [show q8 f v ((k,x) :: r)=(if k=f then (k,v) :: r else (k,x) :: q8 f v r) from rfl]
  by_cases hk:k=f
  ·rw [if_pos hk,List.length_cons,List.length_cons];omega
  ·rw [if_neg hk,List.length_cons,List.length_cons];omega
theorem A8.some_of {v:V} {o:Option Value} (r:A8 (some v) o):∃ u,o=some u/\RelV v u:=by
 cases o with
 | none=>exact (show False from r).elim
 | some u=>exact ⟨u,rfl,r⟩
theorem A8.none_of {o:Option Value} (r:A8 none o):o=none:=by
 cases o with
 | none=>rfl
 | some u=>exact (show False from r).elim
theorem aQ9 {v:V} {u:Value} (r:RelV v u):PySem.W.handedIn u=true:=by
 cases v with
 | non=>cases (show u=Value.none from r);rfl
 | bl b=>cases (show u=Value.bool b from r);rfl
 | int i=>obtain ⟨t,e⟩:=(show ∃ t,u=Value.int i t from r);cases e;rfl
 | str x=>obtain ⟨t,e⟩:=(show ∃ t,u=Value.str x t from r);cases e;rfl
 | byt b=>obtain ⟨t,e⟩:=(show ∃ t,u=Value.bytes b t from r);cases e;rfl
 | flt b=>obtain ⟨t,e⟩:=(show ∃ t,u=Value.float b t from r);cases e;rfl
 | ref a=>cases (show u=Value.ref a from r);rfl
 | ty n=>cases (show u=Value.type n from r);rfl
section
variable {P:Program} {w:World} {H H':Hp} {h h':Heap} {a C dx:Addr} {fs fs':List (Str × V)}
theorem ad2 (hok:HOk P w H h) (e:H a=some (.ins C dx fs)):∃ mA,ai1 h a dx C mA/\(∀ f,A8 (fs.lookup f) (mA f))/\PySem.Within mA (fs.map (·.1))/\fs.length <= 1000/\H dx=some (.own a):=by
 obtain ⟨d,z,ne,ob,mA,n,r,q⟩:=(show l8 P w H h a (.ins C dx fs) from hok a _ e)
 exact ⟨mA,⟨ob,n,ne⟩,r,q,z,d⟩
end
structure Cls (K:PySem.W.Frag) (C:Addr):Prop where
 pg:PySem.W.plainGet K C Str.empty=true
 hd:PySem.W.hasDictIn K C=true
 po:PySem.W.plainOver K C=true
 sa:PySem.W.findIn K (.ref C) "__setattr__"=some (some (.builtin "object.__setattr__"))
theorem Cls.get {K:PySem.W.Frag} {C:Addr} (c:Cls K C) (f:Str):PySem.W.plainGet K C f=true:=c.pg
noncomputable def t9 (K:PySem.W.Frag) (C:Addr) (f:Str):Prop:=PySem.W.findIn K (.ref C) f=some none
theorem t9.bv3 {K:PySem.W.Frag} {C:Addr} {f:Str} (n:t9 K C f):PySem.W.takerIn K C f=some none:=by
 unfold PySem.W.takerIn
 rw [show PySem.W.findIn K (.ref C) f=some none from n]
 rfl
structure Meth (K:PySem.W.Frag) (C:Addr) (m:Str) (f:Addr):Prop where
 at_:PySem.W.findIn K (.ref C) m=some (some (.ref f))
 fn:PySem.W.isFn K (.ref f)=true
 kp:PySem.W.keepIn K (.ref f)=true
section
variable {X:Cx} {pins:List (Addr × Obj)} {σ:St} {H:Hp} {s:Shared} {a C dx:Addr} {fs:List (Str × V)} {f:Str} {v:V} {A:Around} {E:Value->Shared->Prop}
theorem ak7 {b:Bool} {Q:Value->Shared->Prop} (I:Inv X pins σ H s) (e:H a=some (.ins C dx fs)) (c:Cls X.K C) (n:t9 X.K C f) (l:fs.lookup f=some v)
  (h:∀ u s',Inv X pins σ H s'->RelV v u->Q u s'):wpAny (model X.prog X.w) A (getAttr (.ref a) f b) Q E s:=by
 obtain ⟨mA,O,r,_,_,_⟩:=ad2 I.hok e
 obtain ⟨u,hu,ru⟩:=A8.some_of (v:=v) (o:=mA f) (by rw [<- l];exact r f)
 exact get_map I.kIn O (c.get f) c.hd n hu (aQ9 ru) (h u _ (I.tok _) ru)
theorem ak6 {m:Str} {g:Addr} {pl:Sem Bool} {Q:Value × List Value->Shared->Prop} (I:Inv X pins σ H s) (e:H a=some (.ins C dx fs)) (c:Cls X.K C) (k:Meth X.K C m g) (l:fs.lookup m=none)
  (h:Q (.ref g,[.ref a]) s):wpAny (model X.prog X.w) A (getMethod (.ref a) m pl) Q E s:=by
 obtain ⟨mA,O,r,_,_,_⟩:=ad2 I.hok e
 have hn:mA m=none:=A8.none_of (by rw [<- l];exact r m)
 exact aZ6 I.kIn O (c.get m) k.at_ k.fn hn h
theorem aj2 {y:V} {u:Value} {Q:Unit->Shared->Prop} (I:Inv X pins σ H s) (e:H a=some (.ins C dx fs)) (c:Cls X.K C) (n:t9 X.K C f) (hl:fs.length < 1000) (ry:RelV y u)
  (h:∀ s',Inv X pins σ (upd H a (.ins C dx (q8 f y fs))) s'->Q () s'):wpAny (model X.prog X.w) A (setAttr (.ref a) f u) Q E s:=by
 obtain ⟨mA,O,r,wi,_,ho⟩:=ad2 I.hok e
 have hz:(fs.map (·.1)).length <= sizeLine:=by rw [List.length_map,sizeLine_eq];omega
 refine bb0 I.kIn O c.sa c.po n.bv3 c.hd wi hz fun h' O' sb=>h _ ?_
 have hd:∃ o,h'.get? dx=some o:=let ⟨o,_,_,e',_⟩:=O'.ns;⟨o,e'⟩
 refine I.write (x:=a) (e:=dx) (by rw [e];exact True.intro) (.inr ho) (fun b q hb z=>(sb.2 b hb).trans z) hd ?_
 refine ⟨by rw [j6 O.ne];exact ho,?_,O.ne,O'.obj,_,O'.ns,fun g=>?_,fun g hg=>?_⟩
 ·have:=af1 f y fs;omega
 ·show A8 ((q8 f y fs).lookup g) (if g=f then some u else mA g)
  rw [af0]
  by_cases q:g=f
  ·rw [if_pos q,if_pos q];exact ry
  ·rw [if_neg q,if_neg q];exact r g
 ·by_cases q:g=f
  ·rw [q];exact (aa5 f y fs).1
  ·refine (aa5 f y fs).2 g (wi g fun z=>hg ?_)
   show (if g=f then some u else mA g)=none
   rw [if_neg q];exact z
theorem Inv.made (I:Inv X pins σ H s):Inv X pins σ (upd (upd H s.heap.objs.size (.own (s.heap.objs.size + 1))) (s.heap.objs.size + 1) (.ins C s.heap.objs.size []))
  { s with heap:=(s.heap.push PySem.W.emptyDict).push (PySem.W.instObj C s.heap.objs.size) }:=by
 have e1:(s.heap.push PySem.W.emptyDict).get? s.heap.objs.size=some PySem.W.emptyDict:=Heap.get?_push_size s.heap rfl
 have e2:((s.heap.push PySem.W.emptyDict).push (PySem.W.instObj C s.heap.objs.size)).get? (s.heap.objs.size + 1)=some (PySem.W.instObj C s.heap.objs.size):=by
  have:=Heap.get?_push_size (s.heap.push PySem.W.emptyDict) (o:=PySem.W.instObj C s.heap.objs.size) rfl
  rwa [Heap.size_push] at this
 have e3:(s.heap.push PySem.W.emptyDict).Ns s.heap.objs.size (fun _=>none):=⟨PySem.W.emptyDict,#[],_,e1,rfl,(fun e he=>absurd he (by simp)),fun _=>rfl⟩
 have I1:=I.laid (a:=s.heap.objs.size) (o:=.own (s.heap.objs.size + 1)) (h':=s.heap.push PySem.W.emptyDict) (t':=s.toks) (fun b u q=>Heap.get?_push_of_some _ q) (Nat.le_refl _) ⟨_,e1⟩
 refine I1.laid (a:=s.heap.objs.size + 1) (o:=.ins C s.heap.objs.size []) (t':=s.toks) (fun b u q=>Heap.get?_push_of_some _ q) (Nat.le_of_eq (Heap.size_push _ _)) ?_
 have ne:s.heap.objs.size ≠ s.heap.objs.size + 1:=Nat.ne_of_lt (Nat.lt_succ_self _)
 refine ⟨by rw [j6 ne,o9],Nat.zero_le _,ne,e2,fun _=>none,(Heap.Ns1.of_empty e3).at fun o q=>Heap.get?_push_of_some _ q,fun _=>True.intro,fun y hy=>absurd rfl hy⟩
theorem bh1 {prog:Program} {w:World} {env:Env} {e:Expr} {f:Str} {pos:Pos} {s:Shared} {Q:Value->Shared->Prop} (hb:attributeBase e f env (eval e env)=eval e env)
  (h:wpAny (model prog w) A (eval e env) (fun o s₁=>wpAny (model prog w) A (getAttr o f true) Q E s₁) E s):wpAny (model prog w) A (eval (.Attribute e f pos) env) Q E s :=
 Attribute_any_ h (by rw [arm_eval_Attribute,hb])
end
noncomputable def bH0 (K:PySem.W.Frag) (ta:TE) (f:Str):TE:=fun σ H Q=>ta σ H fun x H1=>∃ a C dx fs v,x=.ref a/\H1 a=some (.ins C dx fs)/\Cls K C/\t9 K C f/\fs.lookup f=some v/\Q v H1
noncomputable def bL2 (K:PySem.W.Frag) (ta tv:TE) (f:Str):TS:=fun D σ H=>tv σ H fun y H1=>ta σ H1 fun x H2=>∃ a C dx fs,x=.ref a/\H2 a=some (.ins C dx fs)/\Cls K C/\t9 K C f/\fs.length < 1000 /\
 D.nx σ (upd H2 a (.ins C dx (q8 f y fs)))
noncomputable def a19 (X:Cx) (op:Operator) (rd:V->V->Hp->VK->Prop):Prop :=
 ∀ (pins:List (Addr × Obj)) (s:Shared) (σ:St) (H:Hp) (x y:V) (u v:Value) (Q:VK),Inv X pins σ H s->RelV x u->RelV y v->rd x y H Q->wpAny (model X.prog X.w) X.A (inplaceOp op u v) (EP X pins σ Q) X.xe s
noncomputable def bb6 (K:PySem.W.Frag) (ta tv:TE) (rd:V->V->Hp->VK->Prop) (f:Str):TS:=fun D σ H=>ta σ H fun x H1=>∃ a C dx fs v,x=.ref a/\H1 a=some (.ins C dx fs)/\Cls K C/\t9 K C f/\fs.lookup f=some v /\
 tv σ H1 fun y H2=>rd v y H2 fun z H3=>∃ dx' fs',H3 a=some (.ins C dx' fs')/\fs'.length < 1000/\D.nx σ (upd H3 a (.ins C dx' (q8 f z fs')))
section
variable {X:Cx} {o e value:Expr} {f:Str} {pos pos' tpos:Pos} {ta tv:TE}
theorem bp1 (he:PE X e ta) (hb:attributeBase e f X.env (eval e X.env)=eval e X.env):PE X (.Attribute e f pos) (bH0 X.K ta f):=by
 intro pins s σ H Q I h
 refine bh1 hb (thn (he pins s σ H _ I h) fun u s1 ⟨x,H1,I1,rx,a,C,dx,fs,v,ex,ea,c,n,l,q⟩=>?_)
 subst ex
 obtain rfl:u=Value.ref a:=rx
 exact ak7 I1 ea c n l fun u' s2 I2 ru=>⟨v,H1,I2,ru,q⟩
theorem bn9 (ha:PE X o ta) (hv:PE X value tv) (hs:swapsWith value (some (.Attribute o f pos')) pos.line X.env=pure false):PS X (.Assign [.Attribute o f pos'] value pos) (bL2 X.K ta tv f):=by
 intro pins s σ H D I h
 refine plainObj_wpAny_Assign_Attribute (thn (hv pins s σ H _ I h) fun u s1 ⟨y,H1,I1,ry,q⟩=>thn (ha pins s1 σ H1 _ I1 q) fun ov s2 ⟨x,H2,I2,rx,a,C,dx,fs,ex,ea,c,n,l,q2⟩=>?_) hs
 subst ex
 obtain rfl:ov=Value.ref a:=rx
 exact aj2 I2 ea c n l ry fun s3 I3=>⟨σ,_,I3,q2⟩
theorem aN1 {op:Operator} {rd:V->V->Hp->VK->Prop} (ha:PE X o ta) (hv:PE X value tv) (hop:a19 X op rd):PS X (.AugAssign (.Attribute o f tpos) op value pos) (bb6 X.K ta tv rd f):=by
 intro pins s σ H D I h
 refine wpAny_AugAssign_AttributeAny (thn (ha pins s σ H _ I h) fun ov s1 ⟨x,H1,I1,rx,a,C,dx,fs,v,ex,ea,c,n,l,q⟩=>?_)
 subst ex
 obtain rfl:ov=Value.ref a:=rx
 refine ak7 I1 ea c n l fun u s2 I2 ru=>thn (hv pins s2 σ H1 _ I2 q) fun w3 s3 ⟨y,H2,I3,ry,q3⟩=>thn (hop pins s3 σ H2 v y u w3 _ I3 ru ry q3) fun w4 s4 ⟨z,H3,I4,rz,dx',fs',ea',l',q4⟩=>?_
 exact aj2 I4 ea' c n l' rz fun s5 I5=>⟨σ,_,I5,q4⟩
noncomputable def bM3:V->V->Hp->VK->Prop:=fun x y H Q=>∃ i j,x=.int i/\y=.int j/\Q (.int (i + j)) H
theorem bs3:a19 X .Add bM3:=by
 rintro pins s σ H x y u v Q I rx ry ⟨i,j,rfl,rfl,q⟩
 obtain ⟨t,rfl⟩:=(show ∃ t,u=Value.int i t from rx)
 obtain ⟨t',rfl⟩:=(show ∃ t',v=Value.int j t' from ry)
 exact PyProof.Rows.iadd_int ⟨.int (i + j),H,I.tok _,⟨_,rfl⟩,q⟩
end
section
variable {X:Cx} {pins:List (Addr × Obj)} {σ:St} {H:Hp} {s:Shared} {A:Around} {E:Value->Shared->Prop} {Q:Value->Shared->Prop} {c:Value} {b:Bool}
inductive TyOf (K:PySem.W.Frag) (H:Hp):V->Value->Prop where
 | non:TyOf K H .non (.type "NoneType")
 | bl (x:Bool):TyOf K H (.bl x) (.type "bool")
 | int (i:Int):TyOf K H (.int i) (.type "int")
 | str (x:Str):TyOf K H (.str x) (.type "str")
 | flt (x:UInt64):TyOf K H (.flt x) (.type "float")
 | lst {a:Addr} {xs:List V} (e:H a=some (.lst xs)):TyOf K H (.ref a) (.type "list")
 | frz {a:Addr} {o:Obj} {xs:List V} (e:H a=some (.frz o (.lst xs))):TyOf K H (.ref a) (.type "list")
 | tup {a:Addr} {xs:List V} (e:H a=some (.tup xs)):TyOf K H (.ref a) (.type "tuple")
 | dK {a:Addr} {kvs:List (Key × V)} (e:H a=some (.dK kvs)):TyOf K H (.ref a) (.type "dict")
 | dT {a:Addr} {kvs:List (List Key × V)} (e:H a=some (.dT kvs)):TyOf K H (.ref a) (.type "dict")
 | ins {a C dx:Addr} {fs:List (Str × V)} (e:H a=some (.ins C dx fs)) (cl:Cls K C) (ha:PySem.W.findIn K (.ref C) "__class__"=some (some (.builtin "object.__class__")))
   (hn:PySem.W.specialIn K (.builtin "object.__class__") "__get__"=some (some (.builtin "getset_descriptor.__get__"))) (htk:PySem.W.takesIn K (.builtin "object.__class__")=some true)
   (hm:PySem.W.mroIn K C (.type "object")=some true):TyOf K H (.ref a) (.ref C)
theorem aQ2 {x:V} {u t:Value} (I:Inv X pins σ H s) (rx:RelV x u) (ty:TyOf X.K H x t) (e:PySem.W.kitOne X.K t c=some b) (h:∀ tk,Q (.bool b) { s with toks:=tk }) :
  wpAny (model X.prog X.w) A (call (.builtin "isinstance") [u,c]) Q E s:=by
 cases ty with
 | non=>cases (show u=Value.none from rx);exact PySem.W.kia_one PySem.W.kitx_none I.kIn True.intro e (fun z=>nomatch z) h
 | bl y=>cases (show u=Value.bool y from rx);exact PySem.W.kia_one PySem.W.kitx_bool I.kIn True.intro e (fun z=>nomatch z) h
 | int i=>obtain ⟨t,q⟩:=(show ∃ t,u=Value.int i t from rx);cases q;exact PySem.W.kia_one PySem.W.kitx_int I.kIn True.intro e (fun z=>nomatch z) h
 | str y=>obtain ⟨t,q⟩:=(show ∃ t,u=Value.str y t from rx);cases q;exact PySem.W.kia_one PySem.W.kitx_str I.kIn True.intro e (fun z=>nomatch z) h
 | flt y=>obtain ⟨t,q⟩:=(show ∃ t,u=Value.float y t from rx);cases q;exact PySem.W.kia_one PySem.W.kitx_float I.kIn True.intro e (fun z=>nomatch z) h
 | @lst a xs ea =>
  cases (show u=Value.ref a from rx)
  obtain ⟨_,_,n,_,h1⟩:=(show l8 X.prog X.w H s.heap a (.lst xs) from I.hok a _ ea)
  exact PySem.W.kia_one PySem.W.kitx_list I.kIn ⟨_,h1,rfl⟩ e (fun z=>nomatch z) h
 | @frz a ob xs ea =>
  cases (show u=Value.ref a from rx)
  obtain ⟨_,_,_,n,_,h1⟩:=(show l8 X.prog X.w H s.heap a (.frz ob (.lst xs)) from I.hok a _ ea)
  exact PySem.W.kia_one PySem.W.kitx_list I.kIn ⟨_,h1,rfl⟩ e (fun z=>nomatch z) h
 | @tup a xs ea =>
  cases (show u=Value.ref a from rx)
  obtain ⟨_,_,_,p⟩:=(show l8 X.prog X.w H s.heap a (.tup xs) from I.hok a _ ea)
  obtain ⟨o,h1,h2,_⟩:=p
  exact PySem.W.kia_one PySem.W.kitx_tuple I.kIn ⟨o,h1,h2⟩ e (fun z=>nomatch z) h
 | @dK a kvs ea =>
  cases (show u=Value.ref a from rx)
  obtain ⟨_,_,vs,_,p⟩:=(show l8 X.prog X.w H s.heap a (.dK kvs) from I.hok a _ ea)
  obtain ⟨o,es,ep,h1,h2,_⟩:=p
  exact PySem.W.kia_one PySem.W.kitx_dict I.kIn ⟨o,h1,h2.1⟩ e (fun z=>nomatch z) h
 | @dT a kvs ea =>
  cases (show u=Value.ref a from rx)
  obtain ⟨_,_,xs,_,o,es,ep,h1,h2,_⟩:=(show l8 X.prog X.w H s.heap a (.dT kvs) from I.hok a _ ea)
  exact PySem.W.kia_one PySem.W.kitx_dict I.kIn ⟨o,h1,h2.1⟩ e (fun z=>nomatch z) h
 | @ins a C dx fs ea cl ha hn htk hm =>
  cases (show u=Value.ref a from rx)
  obtain ⟨mA,O,_⟩:=ad2 I.hok ea
  obtain ⟨od,J,_⟩:=O.look
  exact PySem.W.kia_one (PySem.W.kitx_own (cl.get _) cl.hd ha hn htk hm) I.kIn J e (fun z=>nomatch z) h
end
end L2
namespace L2
open PySem PySem.Spec PyProof.Rows
structure p8 (k:Nat) (A:Around):Prop where
 hd:A.handled=none
 dp:A.depth + 3 * k + 5 < recursionLimit
 un:A.units + 16 * k + 200 < cLine
theorem p8.mono {j k:Nat} {A:Around} (r:p8 k A) (h:j <= k):p8 j A:=⟨r.hd,by have:=r.dp;omega,by have:=r.un;omega⟩
theorem p8.deeper {k:Nat} {A:Around} (r:p8 (k + 1) A) (env:Env):p8 k (A.deeper env) :=
 ⟨r.hd,by have:=r.dp;show A.depth + 1 + 3 * k + 5 < _;omega,by have:=r.un;show A.units + 3 + 16 * k + 200 < _;omega⟩
theorem aH6 {A:Around} {C:Addr} {us:List Value} {kw:List (Str × Value)}:(A.under (.builtin "type.__call__" ⟨.ref C :: us,kw⟩)).depth=A.depth + 1:=by
 first | rfl | simp [Around.under,Code.weight,Code.isCreation,Code.isGuard,Code.isCaller,Code.frames,Code.isFrame,guardIds]
theorem aH5 {A:Around} {C:Addr} {us:List Value} {kw:List (Str × Value)}:(A.under (.builtin "type.__call__" ⟨.ref C :: us,kw⟩)).units=A.units + 1:=by
 first | rfl | simp [Around.under,Code.cUnits,Code.frames,Code.isFrame]
theorem p8.make {k:Nat} {A:Around} (r:p8 (k + 1) A) (C:Addr) (us:List Value) (kw:List (Str × Value)):p8 k (A.under (.builtin "type.__call__" ⟨.ref C :: us,kw⟩)) :=
 ⟨r.hd,by have:=r.dp;rw [aH6];omega,by have:=r.un;rw [aH5];omega⟩
theorem p8.depth {k:Nat} {A:Around} (r:p8 k A):A.depth < recursionLimit:=by have:=r.dp;omega
noncomputable def bj3:TA:=fun _ H Q=>Q [] H
noncomputable def bv9 (ta:TE) (tr:TA):TA:=fun σ H Q=>ta σ H fun x H1=>tr σ H1 fun xs H2=>Q (x :: xs) H2
section
variable {X:Cx} {e:Expr} {es:List Expr} {te:TE} {t:TA} {pos:Pos}
theorem V3:PA X [] bj3:=fun _ _ _ _ H Q I h=>Calls.spliced_nil ⟨[],H,I,.nil,h⟩
theorem R6 (ha:PE X e te) (hr:PA X es t) (hs:starEach (e :: es) X.env=(false,eval e X.env) :: starEach es X.env:=by rfl):PA X (e :: es) (bv9 te t):=by
 intro pos pins s σ H Q I h
 rw [hs]
 show wpAny _ _ (spliced ((false,eval e X.env) :: backTo pos (starEach es X.env))) _ _ s
 refine Calls.spliced_cons (thn (ha pins s σ H _ I h) fun u s1 ⟨x,H1,I1,r1,q1⟩=>?_)
 exact thn (hr pos pins s1 σ H1 _ I1 q1) fun us s2 ⟨xs,H2,I2,r2,q2⟩=>⟨x :: xs,H2,I2,.cons r1 r2,q2⟩
noncomputable def bG1 (t:TA):TE:=fun σ H Q=>t σ H fun xs H1=>xs.length <= sizeLine/\∀ p,H1 p=none->Q (.ref p) (upd H1 p (.tup xs))
noncomputable def bG7 (t:TA):TE:=fun σ H Q=>t σ H fun xs H1=>xs.length <= sizeLine/\∀ p,H1 p=none->Q (.ref p) (upd H1 p (.lst xs))
theorem bo3 {x1} (h:PA X es t):PE X (.Tuple es x1 pos) (bG1 t):=by
 intro pins s σ H Q I hq
 refine wpAny_Tuple_spliced (thn (h pos pins s σ H _ I hq) fun us s1 ⟨xs,H1,I1,r,z,q⟩=>⟨by rw [<- r.length];exact z,?_⟩)
 have hf:H1 s1.heap.objs.size=none:=I1.hok.fresh (Nat.le_refl _)
 refine ⟨.ref s1.heap.objs.size,upd H1 s1.heap.objs.size (.tup xs),I1.laid (t':=s1.toks) (fun b u e=>Heap.get?_push_of_some _ e) (Nat.le_refl _) ?_,rfl,q _ hf⟩
 exact ⟨z,us,r,⟨_,Heap.get?_push_size _ rfl,rfl,⟨_,rfl⟩,rfl⟩⟩
theorem bo9 (h:PA X es t):PE X (.List es pos) (bG7 t):=by
 intro pins s σ H Q I hq
 refine wpAny_List_spliced (thn (h pos pins s σ H _ I hq) fun us s1 ⟨xs,H1,I1,r,z,q⟩=>⟨by rw [<- r.length];exact z,?_⟩)
 have hf:H1 s1.heap.objs.size=none:=I1.hok.fresh (Nat.le_refl _)
 refine ⟨.ref s1.heap.objs.size,upd H1 s1.heap.objs.size (.lst xs),I1.laid (t':=s1.toks) (fun b u e=>Heap.get?_push_of_some _ e) (Nat.le_refl _) ?_,rfl,q _ hf⟩
 exact ⟨z,us,0,r,Heap.get?_push_size _ rfl⟩
end
noncomputable abbrev Sp:=List V->Hp->VK->XK->Prop
noncomputable abbrev CXT:=List Env->Hp->Shared->XK->Value->Shared->Prop
structure ai3 (P:Program) (w:World) (K:PySem.W.Frag) (mg:Str->Option Value) (base:Heap) (A:Around) (outer:List Env) (s:Shared) (H:Hp):Prop where
 frames:A.frames=some outer
 mod:Mod K mg base
 bs:∀ b o,base.get? b=some o->s.heap.get? b=some o/\H b=none
 bsz:base.objs.size <= s.heap.objs.size
 L7:s.heap.FunFrames base outer
 frf:∀ b ∈ frs outer,H b=none
 hok:HOk P w H s.heap
 bare:AllBare s.gens
noncomputable def CE (outer:List Env) (P:Program) (w:World) (H:Hp) (s:Shared) (Q:VK) (u:Value) (s':Shared):Prop :=
 ∃ v H',s'.os=s.os/\AllBare s'.gens/\Un (frs outer) [] H H' s.heap s'.heap/\HOk P w H' s'.heap/\RelV v u/\Q v H'
noncomputable def CR (CX:CXT) (outer:List Env) (P:Program) (w:World) (H:Hp) (s:Shared) (Q:VK) (E:XK) (r:Result) (s':Shared):Prop :=
 match r with
 | .ok (.ret u)=>CE outer P w H s Q u s'
 | .ok _=>False
 | .error e=>CX outer H s E e s'
structure FnOk (P:Program) (w:World) (K:PySem.W.Frag) (mg:Str->Option Value) (base:Heap) (CX:CXT) (k:Nat) (f:Addr) (fd:FuncData) (ps:List Str) (sp:Sp):Prop where
 len:∀ vs H Q E,sp vs H Q E->vs.length=ps.length
 run:∀ (A:Around) (outer:List Env) (s:Shared) (H:Hp) (args:Args) (us:List Value) (vs:List V) (Q:VK) (E:XK),p8 k A->ai3 P w K mg base A outer s H->BindsTo s fd args (ps.zip us)->Vals vs us->sp vs H Q E ->
  codeAny (model P w) A (.call (.ref f) args) (CR CX outer P w H s Q E) s
theorem ai3.make {P:Program} {w:World} {K:PySem.W.Frag} {mg:Str->Option Value} {base:Heap} {A:Around} {outer:List Env} {s:Shared} {H:Hp} (e:ai3 P w K mg base A outer s H) (C:Addr) (us:List Value) (kw:List (Str × Value)) :
  ai3 P w K mg base (A.under (.builtin "type.__call__" ⟨.ref C :: us,kw⟩)) outer s H:=⟨by first | exact e.frames | (simpa [Around.under,Code.envs,Code.isFrame,pushEnvs] using e.frames),e.mod,e.bs,e.bsz,e.L7,e.frf,e.hok,e.bare⟩
section
variable {X:Cx} {pins:List (Addr × Obj)} {σ:St} {H:Hp} {s s':Shared}
theorem Inv.bt0 (I:Inv X pins σ H s):ai3 X.prog X.w X.K X.mg X.base X.A X.stack s H :=
 ⟨I.ok.frames,I.ok.mod,I.bs,Nat.le_trans I.ok.bsz I.sz,I.stack,I.ab9,I.hok,I.bare⟩
theorem Inv.after {Q:VK} {u:Value} (I:Inv X pins σ H s) (h:CE X.stack X.prog X.w H s Q u s'):EP X pins σ Q u s':=by
 obtain ⟨v,H',os,bare,un,hok,r,q⟩:=h
 obtain ⟨hh,g,d,t,os'⟩:=s'
 obtain rfl:os'=s.os:=os
 exact ⟨v,H',I.call (h':=hh) (g':=g) (d':=d) (t':=t) (ch:=[]) un hok bare (fun b z=>absurd z (by simp)),r,q⟩
end
noncomputable def bw0 (sp:Sp) (dvs:List V) (E:XK) (t:TA):TE:=fun σ H Q=>t σ H fun vs H1=>sp (vs ++ dvs) H1 Q E
noncomputable def a30 (C:Addr) (sp:Sp) (dvs:List V) (E:XK) (t:TA):TE:=fun σ H Q=>t σ H fun vs H1=>∀ x dx,H1 x=none->H1 dx=none->dx ≠ x ->
 sp (.ref x :: (vs ++ dvs)) (upd (upd H1 dx (.own x)) x (.ins C dx [])) (fun v H2=>v=.non/\Q (.ref x) H2) E
noncomputable def Binds (K:PySem.W.Frag) (fd:FuncData) (ps:List Str) (ds:List Value):Prop :=
 ∀ (s:Shared) (us:List Value),K.In s.heap->(us ++ ds).length=ps.length->BindsTo s fd ⟨us,[]⟩ (ps.zip (us ++ ds))
theorem Binds.all {K:PySem.W.Frag} {fd:FuncData} {ps:List Str} (h:∀ us:List Value,us.length=ps.length->bindArgs fd ⟨us,[]⟩=pure (ps.zip us)):Binds K fd ps []:=fun s us _ hl=>by
 rw [List.append_nil] at hl ⊢
 exact .of_eq (h us hl)
noncomputable def Passes (CX:CXT) (X:Cx) (E:XK):Prop:=∀ (pins:List (Addr × Obj)) (σ:St) (H:Hp) (s:Shared) (e:Value) (s':Shared),Inv X pins σ H s->CX X.stack H s E e s'->X.xe e s'
section
variable {X:Cx} {CX:CXT} {k:Nat} {f C:Addr} {fd:FuncData} {ps:List Str} {sp:Sp} {dvs:List V} {ds:List Value} {E:XK} {x m:Str} {p pos apos:Pos} {e o:Expr} {es:List Expr} {ta:TE} {t:TA}
theorem av4 {pins:List (Addr × Obj)} {σ:St} {H:Hp} {s:Shared} {Q:VK} {us:List Value} {vs:List V} (F:FnOk X.prog X.w X.K X.mg X.base CX k f fd ps sp) (hr:p8 k X.A) (hb:Binds X.K fd ps ds) (hd:Vals dvs ds) (hx:Passes CX X E)
  (I:Inv X pins σ H s) (r:Vals vs us) (h:sp (vs ++ dvs) H Q E):wpAny (model X.prog X.w) X.A (call (.ref f) us) (EP X pins σ Q) X.xe s:=by
 have r2:Vals (vs ++ dvs) (us ++ ds):=r.append hd
 have hl:(us ++ ds).length=ps.length:=by rw [<- r2.length];exact F.len _ _ _ _ h
 refine wpAny_call (codeAny_mono (F.run X.A X.stack s H ⟨us,[]⟩ (us ++ ds) (vs ++ dvs) Q E hr I.bt0 (hb s us I.kIn hl) r2 h) fun r s' hq=>?_)
 cases r with
 | error e=>exact hx pins σ H s e s' I hq
 | ok fl =>
  cases fl with
  | ret u=>exact I.after hq
  | next=>exact False.elim hq
  | brk=>exact False.elim hq
  | cont=>exact False.elim hq
theorem bd6 (F:FnOk X.prog X.w X.K X.mg X.base CX k f fd ps sp) (hr:p8 k X.A) (hg:Gl X x) (hm:X.mg x=some (.ref f)) (hk:PySem.W.keepIn X.K (.ref f)=true) (hb:Binds X.K fd ps ds) (hd:Vals dvs ds) (hx:Passes CX X E)
  (ha:PA X (e :: es) t) (hdb:(x == ("__debug__":Str))=false:=by decide) (he:starEach (e :: es) X.env=(false,eval e X.env) :: starEach es X.env:=by rfl) (hpl:(backTo pos (starEach es X.env)).any (·.1)=false:=by rfl) :
  PE X (.Call (.Name x p) (e :: es) [] pos) (bw0 sp dvs E t):=by
 intro pins s σ H Q I h
 refine wpAny_Call_Name_kw (R8 I hg hm ?_ hdb)
 refine PySem.W.callWith_K (h₀:=X.base) I.ok.mod.kin hk (thn (ha pos pins s σ H _ I h) fun us s1 ⟨vs,H1,I1,r,q⟩=>⟨I1.kIn,?_⟩) he hpl
 exact av4 F hr hb hd hx I1 r q
structure Mk (K:PySem.W.Frag) (C f:Addr):Prop where
 makes:PySem.W.makesIn K C=true
 init:PySem.W.findIn K (.ref C) "__init__"=some (some (.ref f))
 fn:PySem.W.isFn K (.ref f)=true
 kp:PySem.W.keepIn K (.ref C)=true
theorem av3 {pins:List (Addr × Obj)} {σ:St} {H:Hp} {s:Shared} {Q:VK} {us:List Value} {vs:List V} (M:Mk X.K C f) (F:FnOk X.prog X.w X.K X.mg X.base CX k f fd ps sp) (hr:p8 (k + 1) X.A) (hb:Binds X.K fd ps ds) (hd:Vals dvs ds)
  (hx:Passes CX X E) (I:Inv X pins σ H s) (r:Vals vs us)
  (h:∀ x dx,H x=none->H dx=none->dx ≠ x->sp (.ref x :: (vs ++ dvs)) (upd (upd H dx (.own x)) x (.ins C dx [])) (fun v H2=>v=.non/\Q (.ref x) H2) E) :
  wpAny (model X.prog X.w) X.A (call (.ref C) us) (EP X pins σ Q) X.xe s:=by
 have hq:=h (s.heap.objs.size + 1) s.heap.objs.size (I.hok.fresh (Nat.le_succ _)) (I.hok.fresh (Nat.le_refl _)) (Nat.ne_of_lt (Nat.lt_succ_self _))
 have I2:=Inv.made (C:=C) I
 have r2:Vals (V.ref (s.heap.objs.size + 1) :: (vs ++ dvs)) (Value.ref (s.heap.objs.size + 1) :: (us ++ ds)):=.cons rfl (r.append hd)
 have hl:(Value.ref (s.heap.objs.size + 1) :: us ++ ds).length=ps.length:=by
  have e:=r2.length
  rw [F.len _ _ _ _ hq] at e
  exact e.symm
 refine wpAny_call (aY7 (f:=f) I.kIn M.makes M.init (beq_iff_eq.mp M.fn) (codeAny_mono (F.run _ X.stack _ _ ⟨Value.ref (s.heap.objs.size + 1) :: us,[]⟩ (Value.ref (s.heap.objs.size + 1) :: (us ++ ds)) _ _ E (hr.make C us [])
  (I2.bt0.make C us []) (hb _ (Value.ref (s.heap.objs.size + 1) :: us) I2.kIn hl) r2 hq) fun r s' hq'=>?_))
 cases r with
 | error e=>exact hx pins σ _ _ e s' I2 hq'
 | ok fl =>
  cases fl with
  | ret u =>
   obtain ⟨v,H',I3,rv,ev,q3⟩:=I2.after hq'
   subst ev
   exact ⟨rv,⟨V.ref (s.heap.objs.size + 1),H',I3,rfl,q3⟩⟩
  | next=>exact False.elim hq'
  | brk=>exact False.elim hq'
  | cont=>exact False.elim hq'
theorem bd2 (M:Mk X.K C f) (F:FnOk X.prog X.w X.K X.mg X.base CX k f fd ps sp) (hr:p8 (k + 1) X.A) (hg:Gl X x) (hm:X.mg x=some (.ref C)) (hb:Binds X.K fd ps ds) (hd:Vals dvs ds) (hx:Passes CX X E)
  (ha:PA X (e :: es) t) (hdb:(x == ("__debug__":Str))=false:=by decide) (he:starEach (e :: es) X.env=(false,eval e X.env) :: starEach es X.env:=by rfl) (hpl:(backTo pos (starEach es X.env)).any (·.1)=false:=by rfl) :
  PE X (.Call (.Name x p) (e :: es) [] pos) (a30 C sp dvs E t):=by
 intro pins s σ H Q I h
 refine wpAny_Call_Name_kw (R8 I hg hm ?_ hdb)
 refine PySem.W.callWith_K (h₀:=X.base) I.ok.mod.kin M.kp (thn (ha pos pins s σ H _ I h) fun us s1 ⟨vs,H1,I1,r,q⟩=>⟨I1.kIn,?_⟩) he hpl
 exact av3 M F hr hb hd hx I1 r q
theorem aW7 (M:Mk X.K C f) (F:FnOk X.prog X.w X.K X.mg X.base CX k f fd ps sp) (hr:p8 (k + 1) X.A) (hg:Gl X x) (hm:X.mg x=some (.ref C)) (hb:Binds X.K fd ps ds) (hd:Vals dvs ds) (hx:Passes CX X E)
  (hdb:(x == ("__debug__":Str))=false:=by decide):PE X (.Call (.Name x p) [] [] pos) (a30 C sp dvs E bj3):=by
 intro pins s σ H Q I h
 refine wpAny_Call_Name_kw (R8 I hg hm ?_ hdb)
 exact PySem.W.callWith_K0 I.kIn M.kp (av3 (us:=[]) M F hr hb hd hx I .nil h)
end
section
variable {X:Cx} {CX:CXT} {k:Nat} {f C:Addr} {fd:FuncData} {ps ks:List Str} {sp:Sp} {E:XK} {x m:Str} {p pos apos kpos:Pos} {e o:Expr} {es:List Expr} {kws:List Keyword} {te ta:TE} {t tk:TA} {nm:Option Str}
variable {g:List Value->List Value->List Value} {gV:List V->List V->List V}
end
structure FnScope (N P:List Str) (sc:Scope):Prop where
 kind:sc.kind=.function
 co:sc.isCoroutine=false
 gen:sc.isGenerator=false
 nd:N.Nodup
 pre:N.take P.length=P
 par:∀ x ∈ P,sc.names.lookup x=some .local \/ sc.names.lookup x=some .cell
 nofree:∀ y ∈ sc.names,y.2 ≠ .free
theorem ar4 {kindOf:Str->Option NameKind} {x:Str}:∀ {binds:List (Str × Value)} {m:Str->Option Value},(∀ v,(x,v) ∉ binds)->bindL kindOf binds m x=m x
 | [],_,_=>rfl
 | (n,v) :: r,m,h=>by
  unfold bindL
  rw [ar4 fun w hw=>h w (List.mem_cons_of_mem _ hw)]
  split
  ·have:x ≠ n:=by rintro rfl;exact h v List.mem_cons_self
   simp [this]
  ·rfl
theorem ar6 {kindOf:Str->Option NameKind} {x:Str}:∀ {binds:List (Str × Value)} {m:Str->Option Value},(∀ v,(x,v) ∉ binds)->bindC kindOf binds m x=m x
 | [],_,_=>rfl
 | (n,v) :: r,m,h=>by
  unfold bindC
  rw [ar6 fun w hw=>h w (List.mem_cons_of_mem _ hw)]
  split
  ·rfl
  ·have:x ≠ n:=by rintro rfl;exact h v List.mem_cons_self
   simp [this]
theorem ar5 {kindOf:Str->Option NameKind} {x:Str} {v:Value}:∀ {P:List Str} {vs:List Value} {i:Nat} {m:Str->Option Value},P.Nodup->P[i]?=some x->vs[i]?=some v->kindOf x=some .local ->
  bindL kindOf (P.zip vs) m x=some v
 | [],_,_,_,_,h,_,_=>by simp at h
 | _ :: _,[],_,_,_,_,h,_=>by simp at h
 | p :: P,w :: vs,0,m,nd,h1,h2,hk=>by
  simp at h1 h2;subst h1;subst h2
  show bindL kindOf ((p,w) :: P.zip vs) m p=_
  unfold bindL
  rw [ar4 fun v hv=>(List.nodup_cons.mp nd).1 (List.of_mem_zip hv).1,if_pos hk]
  simp
 | p :: P,w :: vs,i + 1,m,nd,h1,h2,hk=>by
  show bindL kindOf ((p,w) :: P.zip vs) m x=_
  unfold bindL
  exact ar5 (i:=i) (List.nodup_cons.mp nd).2 (by simpa using h1) (by simpa using h2) hk
theorem ar7 {kindOf:Str->Option NameKind} {x:Str} {v:Value}:∀ {P:List Str} {vs:List Value} {i:Nat} {m:Str->Option Value},P.Nodup->P[i]?=some x->vs[i]?=some v->kindOf x ≠ some .local ->
  bindC kindOf (P.zip vs) m x=some v
 | [],_,_,_,_,h,_,_=>by simp at h
 | _ :: _,[],_,_,_,_,h,_=>by simp at h
 | p :: P,w :: vs,0,m,nd,h1,h2,hk=>by
  simp at h1 h2;subst h1;subst h2
  show bindC kindOf ((p,w) :: P.zip vs) m p=_
  unfold bindC
  rw [ar6 fun v hv=>(List.nodup_cons.mp nd).1 (List.of_mem_zip hv).1,if_neg hk]
  simp
 | p :: P,w :: vs,i + 1,m,nd,h1,h2,hk=>by
  show bindC kindOf ((p,w) :: P.zip vs) m x=_
  unfold bindC
  exact ar7 (i:=i) (List.nodup_cons.mp nd).2 (by simpa using h1) (by simpa using h2) hk
noncomputable def start (N:List Str) (vs:List V):St:=vs.map some ++ List.replicate (N.length - vs.length) none
noncomputable def Y5 (CX:CXT) (P:Program) (w:World) (K:PySem.W.Frag) (mg:Str->Option Value) (base:Heap) (N:List Str) (qual:Str) (scope:Scope) (f:Addr) (cd:Value) (A:Around) (outer:List Env) (s:Shared) (H:Hp) (E:XK):Cx where
 prog:=P
 w:=w
 K:=K
 mg:=mg
 base:=base
 A:=A.deeper (envOfC qual scope s.heap.objs.size f cd)
 N:=N
 s₀:=s
 H₀:=H
 env:=envOfC qual scope s.heap.objs.size f cd
 outer:=outer
 stack:=envOfC qual scope s.heap.objs.size f cd :: outer
 ex:=[]
 calm:=true
 fn:=fun _=>true
 pn:=[]
 xe:=fun e s'=>wpAny (model P w) (A.deeper (envOfC qual scope s.heap.objs.size f cd)) (leaving (envOfC qual scope s.heap.objs.size f cd) e) (fun _ s''=>CX outer H s E e s'') (fun e' s''=>CX outer H s E e' s'') s'
theorem ah9 {sc:Scope} {n:Nat} {x:Str} (h:sc.names.lookup x=some .cell):∃ c,(cellsFrom n sc.names []).lookup x=some c:=by
 have q:=PySem.W.cellsFrom_some sc.names n [] (.inl h)
 exact Option.isSome_iff_exists.mp q
theorem aQ3 {CX:CXT} {P:Program} {w:World} {K:PySem.W.Frag} {mg:Str->Option Value} {base:Heap} {N ps:List Str} {qual:Str} {scope:Scope} {f:Addr} {cd:Value} {A:Around} {outer:List Env} {s s1:Shared} {H:Hp} {E:XK} {us:List Value} {vs:List V}
  (S:FnScope N ps scope) (hd:A.handled=none) (e0:ai3 P w K mg base A outer s H) (hl:vs.length=ps.length) (r:Vals vs us)
  (x:InCallC s s.heap.objs.size (bindL (envOfC qual scope s.heap.objs.size f cd).kindOf (ps.zip us) fun _=>none) (cellsFrom (s.heap.objs.size + 1) scope.names []) (bindC (envOfC qual scope s.heap.objs.size f cd).kindOf (ps.zip us) fun _=>none) s1) :
  Inv (Y5 CX P w K mg base N qual scope f cd A outer s H E) [] (start N vs) H s1:=by
 have hpl:ps.length <= N.length:=by have:=congrArg List.length S.pre;rw [List.length_take] at this;omega
 obtain ⟨h1,tk,rfl,hk⟩:=x.done
 have noA:∀ b:Addr,b ∉ (Y5 CX P w K mg base N qual scope f cd A outer s H E).ex:=fun b z=>absurd (show b ∈ ([]:List Addr) from z) (by simp)
 refine ⟨⟨e0.mod,S.kind,rfl,rfl,Nat.le_refl _,fun y z c h1 h2=>?_,fun y hy=>?_,fun y c _ h=>?_,fun _=>hd,Around.frames_deeper e0.frames,.inr ⟨rfl,rfl⟩,fun b z=>absurd z (noA b),e0.bs,e0.bsz,fun b _ _=>noA b,fun b z=>absurd z (noA b),e0.L7,e0.frf⟩,
  rfl,e0.bare,Un.kept hk,⟨_,x.toInCall.ns,fun i y v h1 h2 h3=>?_⟩,fun y c h=>⟨_,x.cell y c h⟩,e0.hok.fresh (Nat.le_refl _),fun y c h=>?_,fun p hp=>absurd (show p ∈ ([]:List (Addr × Obj)) from hp) (by simp),e0.hok.kept hk,?_⟩
 ·exact name_of_addr x.apart (PySem.mem_of_lookup h1) (PySem.mem_of_lookup h2)
 ·have hy:scope.names.lookup y=some .cell \/ scope.names.lookup y=some .free:=hy
  rcases hy with hy | hy
  ·exact ah9 hy
  ·exact absurd rfl (S.nofree _ (PySem.mem_of_lookup hy))
 ·exact Nat.le_of_lt (x.above y c (PySem.mem_of_lookup h))
 ·have hi:i < vs.length:=by
   unfold start at h2
   by_cases hi:i < vs.length
   ·exact hi
   ·rw [List.getElem?_append_right (by simpa using hi)] at h2
    rw [List.getElem?_replicate] at h2
    split at h2 <;> cases h2
  have ha:vs[i]?=some v:=by
   unfold start at h2
   rw [List.getElem?_append_left (by simpa using hi),List.getElem?_map] at h2
   cases e:vs[i]? with
   | none=>rw [e] at h2;cases h2
   | some a=>rw [e] at h2;cases h2;rfl
  obtain ⟨u,hu,rv⟩:=r.get ha
  have hp:ps[i]?=some y:=by
   rw [<- S.pre,List.getElem?_take_of_lt (by omega)];exact h1
  have ndP:ps.Nodup:=by rw [<- S.pre];exact S.nd.sublist (List.take_sublist _ _)
  refine ⟨u,rv,?_⟩
  rcases S.par y (List.mem_of_getElem? hp) with k | k
  ·exact .inl ⟨k,ar5 ndP hp hu k⟩
  ·obtain ⟨c,e⟩:=ah9 (n:=s.heap.objs.size + 1) k
   refine .inr ⟨.inl k,c,e,?_⟩
   have q:=x.cell y c e
   rw [ar7 ndP hp hu (by show scope.names.lookup y ≠ _;rw [k];decide)] at q
   exact q
 ·exact e0.hok.fresh (Nat.le_of_lt (x.above y c (PySem.mem_of_lookup h)))
 ·unfold start
  show _=N.length
  rw [List.length_append,List.length_map,List.length_replicate]
  omega
theorem bB8 {CX:CXT} {P:Program} {w:World} {K:PySem.W.Frag} {mg:Str->Option Value} {base:Heap} {k:Nat} {f:Addr} {name qual:Str} {params:Arguments} {body:List Stmt} {scope:Scope} {dV kV doc pm cdv ct oc:Value} {an od:Option Addr}
  {osl:Array (Option Value)} {N ps:List Str} {sp:Sp} (lk:K.lookup f=some ⟨oc,od,.func (PySem.W.fnOf name qual params body scope dV kV doc pm an cdv ct),osl⟩) (hcd:PySem.W.codeIn K cdv qual=true) (S:FnScope N ps scope)
  (len:∀ vs H Q E,sp vs H Q E->vs.length=ps.length)
  (hbody:∀ (A:Around) (outer:List Env) (s:Shared) (H:Hp) (vs:List V) (Q:VK) (E:XK),p8 k (A.deeper (envOfC qual scope s.heap.objs.size f cdv))->sp vs H Q E ->
   ∃ t,PSs (Y5 CX P w K mg base N qual scope f cdv A outer s H E) body t/\t { nx:=fun _ H'=>Q .non H',rt:=Q } (start N vs) H) :
  FnOk P w K mg base CX (k + 1) f (PySem.W.fnOf name qual params body scope dV kV doc pm an cdv ct) ps sp:=by
 refine ⟨len,fun A outer s H args us vs Q E hr e0 hb r hsp=>?_⟩
 have hl:=len _ _ _ _ hsp
 have KX:K.In s.heap:=e0.mod.kin.keeps fun b o e=>(e0.bs b o e).1
 have lim:s.heap.NoLimit:=e0.mod.nolimit.keeps fun b o e=>(e0.bs b o e).1
 have hkind:∀ y ∈ ps.zip us,scope.names.lookup y.1=some .local \/ (scope.names.lookup y.1=some .cell/\((cellsFrom (s.heap.objs.size + 1) scope.names []).lookup y.1).isSome=true):=fun ⟨n,v⟩ hy=>by
  rcases S.par n (List.of_mem_zip hy).1 with q | q
  ·exact .inl q
  ·exact .inr ⟨q,PySem.W.cellsFrom_some _ _ _ (.inl q)⟩
 refine codeAny_call_function hr.depth (KX _ _ lk) rfl S.co S.gen rfl (PySem.W.codeRec_of KX hcd) (hb _ _ _ _ ?_)
 refine wpAny_newFunctionEnv_cells S.kind hkind fun env he s1 x=>?_
 subst he
 refine ⟨lim.keeps x.toInCall.keep,codeAny_func ?_⟩
 obtain ⟨t,ht,hq⟩:=hbody A outer s H vs Q E (hr.deeper _) hsp
 have I:Inv (Y5 CX P w K mg base N qual scope f cdv A outer s H E) [] (start N vs) H s1:=aQ3 S hr.hd e0 hl r x
 refine wpAny_mono (ht [] s1 (start N vs) H _ I hq) (fun fl s' hs=>?_) fun e s' hs=>hs
 have fin:∀ {σ':St} {H':Hp} {v:V} {u:Value},Inv (Y5 CX P w K mg base N qual scope f cdv A outer s H E) [] σ' H' s'->RelV v u->Q v H'->CE outer P w H s Q u s' :=
  fun {σ' H' v u} J rv q=>⟨v,H',J.os,J.bare,J.base,J.hok,rv,q⟩
 cases fl with
 | ret u =>
  obtain ⟨v,σ',H',J,rv,q⟩:=hs
  exact fin J rv q
 | next =>
  obtain ⟨σ',H',J,q⟩:=hs
  exact fin (v:=V.non) (u:=Value.none) J rfl q
 | brk =>
  obtain ⟨_,_,_,q⟩:=hs
  exact False.elim q
 | cont =>
  obtain ⟨_,_,_,q⟩:=hs
  exact False.elim q
end L2
namespace L2
open PySem PySem.Spec PyProof.Rows
section
variable {X:Cx} {x:Str} {p pos:Pos} {e:Expr} {es:List Expr} {t:TA} {id T:String} {r:List V->Hp->VK->Prop}
noncomputable def tCB (r:List V->Hp->VK->Prop) (t:TA):TE:=fun σ H Q=>t σ H fun vs H1=>r vs H1 Q
theorem aw0 (hc:t6 X (.builtin id) r) (hg:Gl X x) (hm:X.mg x=none) (hv:bootBuiltins x=some (.builtin id)) (ha:PA X (e :: es) t) (hn:x ≠ "__name__":=by decide) (hdb:(x == ("__debug__":Str))=false:=by decide)
  (he:starEach (e :: es) X.env=(false,eval e X.env) :: starEach es X.env:=by rfl) (hpl:(backTo pos (starEach es X.env)).any (·.1)=false:=by rfl):PE X (.Call (.Name x p) (e :: es) [] pos) (tCB r t):=by
 intro pins s σ H Q I h
 refine wpAny_Call_Name_kw (T3 I hg hm hv ?_ hn hdb)
 exact PyProof.Rows.callWith_builtin1 (thn (ha pos pins s σ H _ I h) fun us s1 ⟨vs,H1,I1,r1,q1⟩=>hc pins s1 σ H1 vs us Q I1 r1 q1) he hpl
theorem N8 (hc:t6 X (.type T) r) (hg:Gl X x) (hm:X.mg x=none) (hv:bootBuiltins x=some (.type T)) (ha:PA X (e :: es) t) (hn:x ≠ "__name__":=by decide) (hdb:(x == ("__debug__":Str))=false:=by decide)
  (he:starEach (e :: es) X.env=(false,eval e X.env) :: starEach es X.env:=by rfl) (hpl:(backTo pos (starEach es X.env)).any (·.1)=false:=by rfl):PE X (.Call (.Name x p) (e :: es) [] pos) (tCB r t):=by
 intro pins s σ H Q I h
 refine wpAny_Call_Name_kw (T3 I hg hm hv ?_ hn hdb)
 exact PyProof.Rows.callWith_type1 (thn (ha pos pins s σ H _ I h) fun us s1 ⟨vs,H1,I1,r1,q1⟩=>hc pins s1 σ H1 vs us Q I1 r1 q1) he hpl
end
end L2

namespace HT
open PySem PyProof.Rows
section
open PySem.SeqAt
open PySem.AutoSeq1 (wpAny_loadPart')
open PySem.MeetsSeq PySem.MeetsSeq2 PySem.MeetsSeq3
end
section
variable {prog:Program} {w:World} {A:Around} {E:Value->Shared->Prop} {s:Shared}
theorem bg8 {t b:Addr} {vs ws:List Value} {Q:Value->Shared->Prop} (ht:IsTup s.heap t vs.toArray) (hb:IsTup s.heap b ws.toArray) (hv:vs ≠ [])
  (h1:ws=[]->Q (.ref t) s) (h2:ws ≠ []->Q (.ref s.heap.objs.size) { s with heap:=s.heap.push { cls:=.type "tuple",data:=.seq (vs ++ ws).toArray } })
  (hsz:vs.length + ws.length <= sizeLine):wpAny (model prog w) A (binaryOp .Add (.ref t) (.ref b)) Q E s:=by
 obtain ⟨⟨cls,dd,data,sl⟩,ho,hc,n,hd⟩:=id ht
 obtain ⟨⟨cls2,dd2,data2,sl2⟩,ho2,hc2,n2,hd2⟩:=id hb
 simp only at hc hd hc2 hd2
 subst hc hd hc2 hd2
 have e:vs.toArray ++ ws.toArray=(vs ++ ws).toArray:=by simp
 by_cases hw:ws=[]
 ·exact concat_meets ⟨_,ho,rfl⟩ ⟨_,ho2,rfl⟩ noFill_tuple_add seq_tuple_add PySem.F.slot_tuple_add PySem.F.entry_tuple_add (PySem.F.args_tuple_add_2 _ _)
   (tuple_addW1 t b vs.toArray ws.toArray n n2 dd dd2 sl sl2 (by simpa using hv) (by simp [hw])) ⟨ho,ho2,h1 hw⟩
 ·refine concat_meets ⟨_,ho,rfl⟩ ⟨_,ho2,rfl⟩ noFill_tuple_add seq_tuple_add PySem.F.slot_tuple_add PySem.F.entry_tuple_add (PySem.F.args_tuple_add_2 _ _)
   (tuple_addW2 t b vs.toArray ws.toArray n n2 dd dd2 sl sl2 (by simpa using hv) (by simpa using hw) (by rw [List.size_toArray,List.size_toArray];exact hsz)) ⟨ho,ho2,?_⟩
  rw [e]
  exact h2 hw
noncomputable def sIx (n d:Nat):Option Int->Nat
 | none=>d
 | some v=>if v < 0 then (v + (n:Int)).toNat else min v.toNat n
theorem bm5 (n d:Nat) (hd:d <= n) (o:Option Int):sIx n d o <= n:=by
 cases o with
 | none=>exact hd
 | some v =>
  show (if v < 0 then (v + (n:Int)).toNat else min v.toNat n) <= n
  by_cases hv:v < 0
  ·rw [if_pos hv];omega
  ·rw [if_neg hv];exact Nat.min_le_right _ _
theorem aE1 (v:Int) (n d:Nat):(if v < 0 then max (v + (n:Int)) 0 else min v (n:Int))=((sIx n d (some v):Nat):Int):=by
 show (if v < 0 then max (v + (n:Int)) 0 else min v (n:Int))=(((if v < 0 then (v + (n:Int)).toNat else min v.toNat n):Nat):Int)
 by_cases hv:v < 0
 ·simp only [if_pos hv];omega
 ·simp only [if_neg hv];omega
theorem aK2 (lo hi:Option Int) (n:Nat):Builtin.Slice.sliceAdjust lo hi 1 (n:Int)=(((sIx n 0 lo:Nat):Int),((sIx n n hi:Nat):Int)):=by
 have h1:¬ ((1:Int) < 0):=by omega
 unfold Builtin.Slice.sliceAdjust
 simp only [h1,if_false]
 refine Prod.ext ?_ ?_
 ·cases lo with
  | none=>rfl
  | some v=>exact aE1 v n 0
 ·cases hi with
  | none=>rfl
  | some v=>exact aE1 v n n
theorem aG2 (i j:Nat):Builtin.Slice.slicePlaces (i:Int) (j:Int) 1=j - i:=by
 unfold Builtin.Slice.slicePlaces
 have h1:(1:Int) > 0:=by omega
 simp only [h1,if_true,Int.ediv_one]
 split <;> omega
theorem aj0 {v:Value} {o:Option Int} {Q:Option Int->Shared->Prop} (p:IsPart v o) (h:Q o s):wpAny (model prog w) A (Builtin.Slice.slicePartIndex v) Q E s:=by
 cases p with
 | none=>exact slicePart_none h
 | int i t=>exact slicePart_int h
theorem S5 {sl:Addr} {vl vu:Value} {lo hi:Option Int} {n:Nat} {Q:Int × Int × Nat->Shared->Prop} (hs:s.heap.IsSliceOf sl vl vu .none) (pl:IsPart vl lo) (pu:IsPart vu hi)
  (h:Q (((sIx n 0 lo:Nat):Int),1,sIx n n hi - sIx n 0 lo) s):wpAny (model prog w) A (Builtin.Slice.sliceApplied (.ref sl) (pure (n:Int))) Q E s:=by
 obtain ⟨os,hos,hcs,hds⟩:=id hs
 unfold Builtin.Slice.sliceApplied Builtin.Slice.sliceFields
 refine wpAny_bind (wpAny_bind (wpAny_field hos hds (x:=vl) rfl (wpAny_bind (wpAny_field hos hds (x:=vu) rfl (wpAny_bind (wpAny_field hos hds (x:=.none) rfl (wpAny_pure ?_)))))))
 refine wpAny_bind (slicePart_none ?_)
 show wpAny _ _ (if ((1:Int) == 0)=true then _ else _) _ _ s
 rw [if_neg (by decide)]
 refine wpAny_bind (aj0 pl (wpAny_bind (aj0 pu (wpAny_bind (wpAny_pure ?_)))))
 show wpAny _ _ (match Builtin.Slice.sliceAdjust lo hi 1 (n:Int) with | (lo,hi)=>pure (lo,(1:Int),Builtin.Slice.slicePlaces lo hi 1)) _ _ s
 rw [aK2 lo hi n]
 show wpAny _ _ (pure (((sIx n 0 lo:Nat):Int),(1:Int),Builtin.Slice.slicePlaces ((sIx n 0 lo:Nat):Int) ((sIx n n hi:Nat):Int) 1)) _ _ s
 rw [aG2]
 exact wpAny_pure h
theorem aW4 (xs:Array Value) (i k:Nat):((List.range k).filterMap fun (m:Nat)=>xs[((i:Int) + (m:Int) * 1).toNat]?).toArray=((xs.toList.drop i).take k).toArray:=by
 have e:(fun (m:Nat)=>xs[((i:Int) + (m:Int) * 1).toNat]?)=fun m=>xs[i + m]?:=by
  funext m
  have:((i:Int) + (m:Int) * 1).toNat=i + m:=by omega
  rw [this]
 rw [e]
 have:=pick_run xs i k
 rw [List.filterMap_map] at this
 have e2:((fun x=>xs[x]?) ∘ fun x=>i + x)=fun m=>xs[i + m]?:=rfl
 rw [e2] at this
 rw [this]
theorem ae7 {t sl:Addr} {items:Array Value} {vl vu:Value} {lo hi:Option Int} {Q:Value->Shared->Prop} (ht:IsTup s.heap t items) (hs:s.heap.IsSliceOf sl vl vu .none) (pl:IsPart vl lo) (pu:IsPart vu hi)
  (hw:¬ (sIx items.size 0 lo=0/\sIx items.size items.size hi=items.size))
  (h:Q (.ref s.heap.objs.size) { s with heap:=s.heap.push { cls:=.type "tuple",data:=.seq ((items.toList.drop (sIx items.size 0 lo)).take (sIx items.size items.size hi - sIx items.size 0 lo)).toArray } })
  (hsz:items.size <= sizeLine):wpAny (model prog w) A (getItem (.ref t) (.ref sl)) Q E s:=by
 have htake:sizeOk (.seq ((items.toList.drop (sIx items.size 0 lo)).take (sIx items.size items.size hi - sIx items.size 0 lo)).toArray):=by
  show ((items.toList.drop (sIx items.size 0 lo)).take (sIx items.size items.size hi - sIx items.size 0 lo)).toArray.size <= sizeLine
  rw [List.size_toArray,List.length_take,List.length_drop,Array.length_toList]
  omega
 have hj:sIx items.size items.size hi <= items.size:=bm5 _ _ (Nat.le_refl _) hi
 obtain ⟨os,hos,hcs,hds⟩:=id hs
 have hTs:s.TypeIs (.ref sl) "slice":=⟨os,hos,hcs⟩
 unfold getItem
 try with_reducible refine wpAny_holding ?_
 first | refine wpAny_bind (wpAny_pure ?_) | skip
 refine wpAny_bind (wpAny_sequenceKey ht.typeIs (by decide) ?_)
 refine wpAny_bind (wpAny_callSpecial?_slot (name:=Str.ofString "__getitem__") ht.typeIs PyProof.Rows.slot_tuple_getitem
  (wpAny_call_entry PyProof.Rows.slot_tuple_getitem ht.typeIs entry_tuple_getitem ?_ (args_tuple_getitem _ _)))
 show wpAny _ _ (Builtin.Tuple.tupleItemsOf (.ref t) >>= _) _ _ s
 refine wpAny_bind (tupleItemsOf_ ht ?_)
 refine wpAny_bind (wpAny_typeOf hTs ?_)
 rw [if_pos (by decide)]
 refine wpAny_bind (S5 hs pl pu ?_)
 have hno:¬ ((((sIx items.size 0 lo:Nat):Int) == 0 && (1:Int) == 1 && (sIx items.size items.size hi - sIx items.size 0 lo) == items.size)=true):=by
  intro q
  rw [Bool.and_eq_true,Bool.and_eq_true] at q
  have q1:((sIx items.size 0 lo:Nat):Int)=0:=eq_of_beq q.1.1
  have q2:sIx items.size items.size hi - sIx items.size 0 lo=items.size:=eq_of_beq q.2
  exact hw ⟨by omega,by omega⟩
 show wpAny _ _ (if (((sIx items.size 0 lo:Nat):Int) == 0 && (1:Int) == 1 && (sIx items.size items.size hi - sIx items.size 0 lo) == items.size)=true then _ else _) _ _ s
 rw [if_neg hno,aW4]
 first
  | exact wpAny_bind (m:=Builtin.Tuple.tupleExact _) (wpAny_newObj_type (wpAny_pure ⟨_,rfl,wpAny_pure h⟩) htake)
  | exact wpAny_bind (m:=Builtin.Tuple.tupleExact _) (wpAny_newObj_type (wpAny_bind (wpAny_pure (wpAny_pure ⟨_,rfl,wpAny_pure h⟩))) htake)
  | exact wpAny_bind (wpAny_bind (m:=Builtin.Tuple.tupleExact _) (wpAny_newObj_type (wpAny_pure (wpAny_pure ⟨_,rfl,wpAny_pure h⟩)) htake))
  | exact wpAny_bind (wpAny_bind (m:=Builtin.Tuple.tupleExact _) (wpAny_newObj_type (wpAny_pure ⟨_,rfl,wpAny_pure h⟩) htake))
end
end HT
namespace L2
open PySem PySem.Spec PyProof.Rows
noncomputable abbrev TO:=St->Hp->(Option Int->Hp->Prop)->Prop
noncomputable def PO (X:Cx) (e:Option Expr) (t:TO):Prop :=
 ∀ (pins:List (Addr × Obj)) (s:Shared) (σ:St) (H:Hp) (Q:Option Int->Hp->Prop),Inv X pins σ H s->t σ H Q ->
  wpAny (model X.prog X.w) X.A (evalPart e X.env) (fun u s'=>∃ o H',Inv X pins σ H' s'/\IsPart u o/\Q o H') X.xe s
noncomputable def a97:TO:=fun _ H Q=>Q none H
noncomputable def bv5 (t:TE):TO:=fun σ H Q=>t σ H fun x H1=>∃ i,x=.int i/\Q (some i) H1
section
variable {X:Cx} {e:Expr} {te:TE} {lo hi:Option Expr} {tl th:TO} {pos p2:Pos}
theorem ac2:PO X none a97:=by
 intro pins s σ H Q I h
 rw [evalPart_none]
 exact wpAny_pure ⟨none,H,I,.none,h⟩
theorem aC6 (h:PE X e te):PO X (some e) (bv5 te):=by
 intro pins s σ H Q I hw
 rw [evalPart_some]
 refine thn (h pins s σ H _ I hw) fun u s1 ⟨x,H1,I1,r1,q1⟩=>?_
 obtain ⟨i,rfl,q⟩:=q1
 obtain ⟨t,rfl⟩:=r1
 exact ⟨some i,H1,I1,.int i t,q⟩
noncomputable def SlR (X:Cx) (r:V->Option Int->Option Int->Hp->VK->Prop):Prop :=
 ∀ (pins:List (Addr × Obj)) (s:Shared) (σ:St) (H:Hp) (x:V) (v vl vu:Value) (lo hi:Option Int) (sl:Addr) (Q:VK),Inv X pins σ H s->RelV x v->s.heap.IsSliceOf sl vl vu .none->IsPart vl lo->IsPart vu hi->r x lo hi H Q ->
  ∃ T id,typeLookup (.type T) "__getitem__"=pure (some (.builtin id))/\s.TypeIs v T/\wpAny (model X.prog X.w) X.A (getItem v (.ref sl)) (EP X pins σ Q) X.xe s
noncomputable def tSl (r:V->Option Int->Option Int->Hp->VK->Prop) (te:TE) (tl th:TO):TE:=fun σ H Q=>te σ H fun x H1=>tl σ H1 fun l H2=>th σ H2 fun u H3=>r x l u H3 Q
theorem ag2 {r:V->Option Int->Option Int->Hp->VK->Prop} (hr:SlR X r) (he:PE X e te) (hl:PO X lo tl) (hu:PO X hi th):PE X (.Subscript e (.Slice lo hi none p2) pos) (tSl r te tl th):=by
 intro pins s σ H Q I h
 refine Subscript_ (thn (he pins s σ H _ I h) fun v s1 ⟨x,H1,I1,r1,q1⟩=>?_)
 refine wpAny_Slice (thn (hl pins s1 σ H1 _ I1 q1) fun vl s2 ⟨l,H2,I2,pl,q2⟩=>thn (hu pins s2 σ H2 _ I2 q2) fun vu s3 ⟨u,H3,I3,pu,q3⟩=>?_)
 rw [evalPart_none]
 refine wpAny_pure ?_
 have I4:Inv X pins σ H3 { s3 with heap:=s3.heap.push { cls:=.type "slice",data:=.fields #[vl,vu,.none] } }:=I3.kept (t':=s3.toks) fun b ob q=>Heap.get?_push_of_some _ q
 obtain ⟨T,id,hT,ht,hg⟩:=hr pins { s3 with heap:=s3.heap.push { cls:=.type "slice",data:=.fields #[vl,vu,.none] } } σ H3 x v vl vu l u s3.heap.objs.size Q I4 r1 (Heap.IsSliceOf.new ..) pl pu q3
 show wpAny (model X.prog X.w) X.A (subscriptTail e (.Slice lo hi none p2) v (.ref s3.heap.objs.size)) (EP X pins σ Q) X.xe { s3 with heap:=s3.heap.push { cls:=.type "slice",data:=.fields #[vl,vu,.none] } }
 exact tail_any (ops:=[.ref s3.heap.objs.size,v]) ht hT hg (by with_unfolding_all rfl)
noncomputable def T5 (xs:List V) (lo hi:Option Int):List V:=(xs.drop (HT.sIx xs.length 0 lo)).take (HT.sIx xs.length xs.length hi - HT.sIx xs.length 0 lo)
theorem af4 (xs:List V) (lo hi:Option Int):(T5 xs lo hi).length <= xs.length:=by
 unfold T5
 rw [List.length_take,List.length_drop]
 omega
noncomputable def bL4 (K:PySem.W.Frag):V->Option Int->Option Int->Hp->VK->Prop:=fun x lo hi H Q=>∃ a xs,x=.ref a/\SqT K H a xs /\
 ¬ (HT.sIx xs.length 0 lo=0/\HT.sIx xs.length xs.length hi=xs.length)/\∀ p,H p=none->Q (.ref p) (upd H p (.tup (T5 xs lo hi)))
theorem bk5:SlR X (bL4 X.K):=by
 intro pins s σ H x v vl vu lo hi sl Q I rx hs pl pu h
 obtain ⟨a,xs,rfl,hx,hw,q⟩:=h
 cases rx
 obtain ⟨its,r,ht,hz⟩:=I.tuple hx
 have hlen:its.toArray.size=xs.length:=by rw [List.size_toArray];exact r.length.symm
 refine ⟨"tuple",_,PyProof.Rows.slot_tuple_getitem.lookup,ht.typeIs,?_⟩
 refine HT.ae7 ht hs pl pu (by rw [hlen];exact hw) ?_ (by rw [hlen];exact hz)
 rw [hlen]
 refine ⟨.ref s.heap.objs.size,_,I.laid (t':=s.toks) (o:=.tup (T5 xs lo hi)) (fun b ob q=>Heap.get?_push_of_some _ q) (Nat.le_refl _) ?_,rfl,q _ (I.hok.fresh (Nat.le_refl _))⟩
 exact ⟨Nat.le_trans (af4 xs lo hi) hz,_,(r.drop (HT.sIx xs.length 0 lo)).take (HT.sIx xs.length xs.length hi - HT.sIx xs.length 0 lo),C6.new _ _⟩
noncomputable def by1 (K:PySem.W.Frag):R2:=fun x y H Q=>∃ a b xs ys,x=.ref a/\y=.ref b/\SqT K H a xs/\SqT K H b ys/\xs ≠ []/\xs.length + ys.length <= sizeLine /\
 (ys=[]->Q (.ref a) H)/\(ys ≠ []->∀ p,H p=none->Q (.ref p) (upd H p (.tup (xs ++ ys))))
theorem Vals.R7 {xs:List V} {us:List Value} (r:Vals xs us):us=[] ↔ xs=[]:=by
 cases r with
 | nil=>simp
 | cons _ _=>simp
theorem be3:OpR X (binaryOp .Add) (by1 X.K):=by
 intro pins s σ H x y v u Q I rx ry h
 obtain ⟨a,b,xs,ys,rfl,rfl,ha,hb,hx,hz,q1,q2⟩:=h
 cases rx
 cases ry
 obtain ⟨its,r1,p1,_⟩:=I.tuple ha
 obtain ⟨its2,r2,p2,_⟩:=I.tuple hb
 refine HT.bg8 p1 p2 (fun z=>hx (r1.R7.mp z)) (fun z=>⟨.ref a,H,I,rfl,q1 (r2.R7.mp z)⟩) (fun z=>?_) (by rw [<- r1.length,<- r2.length];exact hz)
 refine ⟨.ref s.heap.objs.size,_,I.laid (t':=s.toks) (o:=.tup (xs ++ ys)) (fun b ob q=>Heap.get?_push_of_some _ q) (Nat.le_refl _) ?_,rfl,q2 (fun w=>z (r2.R7.mpr w)) _ (I.hok.fresh (Nat.le_refl _))⟩
 exact ⟨by rw [List.length_append];exact hz,_,r1.append r2,C6.new _ _⟩
end
end L2
namespace L2
open PySem PySem.Spec PyProof.Rows
noncomputable def ixN (n:Nat) (i:Int):Option Nat:=if 0 <= i then (if i < n then some i.toNat else none) else if -(n:Int) <= i then some (i + n).toNat else none
noncomputable def atI {α:Type} (xs:List α) (i:Int):Option α:=(ixN xs.length i).bind fun j=>xs[j]?
theorem aD7 {n:Nat} {i:Int} {j:Nat} (h:ixN n i=some j):seqIndex? i n=some j/\j < n/\-(n:Int) <= i/\i < n:=by
 unfold ixN at h
 by_cases h0:0 <= i
 ·rw [if_pos h0] at h
  by_cases h1:i < n
  ·rw [if_pos h1] at h
   have e:i.toNat=j:=Option.some.inj h
   exact ⟨by rw [seqIndex_of h0 h1,e],by omega,by omega,h1⟩
  ·rw [if_neg h1] at h;cases h
 ·rw [if_neg h0] at h
  by_cases h1:-(n:Int) <= i
  ·rw [if_pos h1] at h
   have e:(i + n).toNat=j:=Option.some.inj h
   exact ⟨by rw [seqIndex_neg (by omega) h1,e],by omega,h1,by omega⟩
  ·rw [if_neg h1] at h;cases h
theorem ao8 {α:Type} {xs:List α} {i:Int} {v:α} (h:atI xs i=some v):∃ j,seqIndex? i xs.length=some j/\xs[j]?=some v/\j < xs.length/\-(xs.length:Int) <= i/\i < xs.length:=by
 unfold atI at h
 cases e:ixN xs.length i with
 | none=>rw [e] at h;cases h
 | some j =>
  rw [e] at h
  obtain ⟨h1,h2,h3,h4⟩:=aD7 e
  exact ⟨j,h1,h,h2,h3,h4⟩
theorem S1 {α:Type} {xs:List α} {j:Nat} {v:α} (h:xs[j]?=some v):atI xs (j:Int)=some v:=by
 have hj:j < xs.length:=(List.getElem?_eq_some_iff.mp h).1
 have e:ixN xs.length (j:Int)=some j:=by
  unfold ixN
  rw [if_pos (by omega),if_pos (by omega)];simp
 unfold atI;rw [e];exact h
noncomputable def aE2 (b:Expr):Prop:=∀ o i,subscripted b false o i=operate [o,i] (getItem o i)
noncomputable def IxR (X:Cx) (r:R2):Prop :=
 ∀ (value slice:Expr) (pins:List (Addr × Obj)) (s:Shared) (σ:St) (H:Hp) (x y:V) (v u:Value) (Q:VK),Inv X pins σ H s->RelV x v->RelV y u->r x y H Q ->
  subscripted slice false v u=operate [v,u] (getItem v u)->wpAny (model X.prog X.w) X.A (subscriptTail value slice v u) (EP X pins σ Q) X.xe s
noncomputable def MtR (X:Cx) (id:String) (r:V->List V->Hp->VK->Prop):Prop :=
 ∀ (pins:List (Addr × Obj)) (s:Shared) (σ:St) (H:Hp) (x:V) (xs:List V) (v:Value) (us:List Value) (Q:VK),Inv X pins σ H s->RelV x v->Vals xs us->r x xs H Q ->
  wpAny (model X.prog X.w) X.A (call (.builtin id) (v :: us)) (EP X pins σ Q) X.xe s
section
variable {X:Cx} {a b:Expr} {ta tb:TE} {pos:Pos}
theorem by8 {r:R2} (hr:IxR X r) (ha:PE X a ta) (hb:PE X b tb) (hs:aE2 b):PE X (.Subscript a b pos) (tOp r ta tb):=by
 intro pins s σ H Q I h
 exact Subscript_ (a10 ha hb I h fun v u s2 x y H2 I2 rx ry q=>hr a b pins s2 σ H2 x y v u Q I2 rx ry q (hs _ _))
noncomputable def bM1 (K:PySem.W.Frag):R2:=fun x y H Q=>∃ p xs i v,x=.ref p/\y=.int i/\SqL K H p xs/\atI xs i=some v/\Q v H
noncomputable def bL9 (K:PySem.W.Frag):R2:=fun x y H Q=>∃ p xs i v,x=.ref p/\y=.int i/\SqT K H p xs/\atI xs i=some v/\Q v H
noncomputable def bM0:R2:=fun x y H Q=>∃ z i c,x=.str z/\y=.int i/\z.length <= sizeLine/\atI z.cps.toList i=some c/\Q (.str ⟨#[c]⟩) H
theorem bf3:IxR X (bM1 X.K):=by
 intro value slice pins s σ H x y v u Q I rx ry h hs
 obtain ⟨p,xs,i,z,rfl,rfl,hq,he,q⟩:=h
 cases rx
 obtain ⟨t,rfl⟩:=ry
 obtain ⟨its,r,pl,hz⟩:=I.list hq
 obtain ⟨j,h1,h2,h3,h4,h5⟩:=ao8 he
 obtain ⟨w,ew,rw'⟩:=r.get h2
 have hl:=r.length
 have hn:=T2
 have fin:EP X pins σ Q w s:=⟨z,H,I,rw',q⟩
 by_cases h0:0 <= i
 ·have hj:i.toNat=j:=by
   rw [seqIndex_of h0 h5] at h1
   exact Option.some.inj h1
  exact item_listR pl.isList h0 (by omega) (by rw [hj];simpa using ew) fin hs
 ·have hj:(i + (its.toArray.size:Int)).toNat=j:=by
   rw [seqIndex_neg (by omega) h4] at h1
   rw [List.size_toArray,<- hl]
   exact Option.some.inj h1
  exact subscriptTail_builtinR (x:=w) pl.isList.typeIs slot_list_getitem.lookup
   (wpAny_getItem_list_neg (Q:=fun r s'=>r=w/\EP X pins σ Q r s') pl.isList (by omega) (by rw [List.size_toArray] <;> omega) (by omega) (by rw [hj];simpa using ew) ⟨rfl,fin⟩) hs
theorem br8:IxR X (bL9 X.K):=by
 intro value slice pins s σ H x y v u Q I rx ry h hs
 obtain ⟨p,xs,i,z,rfl,rfl,hq,he,q⟩:=h
 cases rx
 obtain ⟨t,rfl⟩:=ry
 obtain ⟨its,r,pl,hz⟩:=I.tuple hq
 obtain ⟨j,h1,h2,h3,h4,h5⟩:=ao8 he
 obtain ⟨w,ew,rw'⟩:=r.get h2
 have hl:=r.length
 have hn:=T2
 have fin:EP X pins σ Q w s:=⟨z,H,I,rw',q⟩
 exact subscriptTail_builtinR (x:=w) pl.typeIs slot_tuple_getitem.lookup
  (getItem_tuple (j:=j) (Q:=fun r s'=>r=w/\EP X pins σ Q r s') pl (by omega) (by omega) (by rw [List.size_toArray,<- hl];exact h1) (by simpa using ew) ⟨rfl,fin⟩) hs
theorem br9:IxR X bM0:=by
 intro value slice pins s σ H x y v u Q I rx ry h hs
 obtain ⟨z,i,c,rfl,rfl,hz,he,q⟩:=h
 obtain ⟨t,rfl⟩:=rx
 obtain ⟨t',rfl⟩:=ry
 obtain ⟨j,h1,h2,h3,h4,h5⟩:=ao8 he
 have hl:z.cps.toList.length=z.length:=by simp [Str.length]
 rw [hl] at h1 h4 h5
 have hn:=T2
 exact tail_any (typeIs_str s z t) slot_str_getitem.lookup (getItem_str (c:=c) (by
  have e1:decide (i < -(2 ^ 63:Int))=false:=decide_eq_false (by omega)
  have e2:decide (i >= 2 ^ 63)=false:=decide_eq_false (by omega)
  rw [e1,e2,Bool.or_false]) (by rw [h1];simpa using h2) ⟨.str ⟨#[c]⟩,H,I.tok _,⟨_,rfl⟩,q⟩) hs
theorem aH4 (its:List Value) (n j:Nat) (u:Value):Obj.mapSeq (·.setIfInBounds j u) { cls:=.type "list",data:=.seq its.toArray n }={ cls:=.type "list",data:=.seq (its.set j u).toArray n }:=by
 simp [Obj.mapSeq]
theorem Inv.lst {pins:List (Addr × Obj)} {σ:St} {H:Hp} {s:Shared} {p:Addr} {xs:List V} (I:Inv X pins σ H s) (h:H p=some (.lst xs)) :
  ∃ (its:List Value) (n:Nat),Vals xs its/\s.heap.get? p=some { cls:=.type "list",data:=.seq its.toArray n }/\xs.length <= sizeLine:=by
 obtain ⟨z,its,n,r,e⟩:=I.hok p _ h
 exact ⟨its,n,r,e,z⟩
theorem Inv.bq7 {pins:List (Addr × Obj)} {σ:St} {H:Hp} {s:Shared} {p:Addr} {xs ys:List V} {its its':List Value} {n n':Nat} {f:Obj->Obj} (I:Inv X pins σ H s) (h:H p=some (.lst xs))
  (ho:s.heap.get? p=some { cls:=.type "list",data:=.seq its.toArray n }) (hf:f { cls:=.type "list",data:=.seq its.toArray n }={ cls:=.type "list",data:=.seq its'.toArray n' }) (r:Vals ys its') (hz:ys.length <= sizeLine) (t:Nat) :
  Inv X pins σ (upd H p (.lst ys)) { s with heap:=s.heap.update p f,toks:=t }:=by
 have e:(s.heap.update p f).get? p=some { cls:=.type "list",data:=.seq its'.toArray n' }:=by
  rw [Heap.get?_update_self f ho (by rw [hf] <;> rfl),hf]
 refine I.write (x:=p) (e:=p) (by rw [h];trivial) (.inl rfl) (fun b u hb q=>(Heap.get?_update_other _ _ (Ne.symm hb)).trans q) ⟨_,e⟩ ?_
 exact ⟨hz,its',n',r,e⟩
noncomputable def bx8:V->V->V->Hp->(Hp->Prop)->Prop:=fun o i v H Q=>∃ p xs k j,o=.ref p/\i=.int k/\H p=some (.lst xs)/\ixN xs.length k=some j/\Q (upd H p (.lst (xs.set j v)))
theorem set_list:a18 X bx8:=by
 intro pins s σ H o i v ov iv u Q I ro ri rv h
 obtain ⟨p,xs,k,j,rfl,rfl,hp,hj,q⟩:=h
 cases ro
 obtain ⟨t,rfl⟩:=ri
 obtain ⟨its,n,r,ho,hz⟩:=I.lst hp
 obtain ⟨h1,h2,h3,h4⟩:=aD7 hj
 have hl:=r.length
 have hn:=T2
 have I':Inv X pins σ (upd H p (.lst (xs.set j v))) { s with heap:=s.heap.update p (Obj.mapSeq (·.setIfInBounds j u)) } :=
  I.bq7 hp ho (aH4 its n j u) (r.set rv j) (by rw [List.length_set];exact hz) s.toks
 by_cases h0:0 <= k
 ·have hk:k.toNat=j:=by
   rw [seqIndex_of h0 h4] at h1
   exact Option.some.inj h1
  exact PySem.W.ki_setAt ho h0 (by omega) (by rw [List.size_toArray,<- hl];exact h4) (by rw [hk];exact ⟨_,I',q⟩)
 ·have hk:(k + (its.toArray.size:Int)).toNat=j:=by
   rw [seqIndex_neg (by omega) h3] at h1
   rw [List.size_toArray,<- hl]
   exact Option.some.inj h1
  exact PySem.W.ki_setBack ho (by omega) (by rw [List.size_toArray,<- hl];exact h3) (by omega) (by rw [hk];exact ⟨_,I',q⟩)
theorem au8 (lo hi:Option Int) (n:Nat):(sliceBounds lo hi none n).1=((HT.sIx n 0 lo:Nat):Int)/\(sliceBounds lo hi none n).2.1=((HT.sIx n n hi:Nat):Int)/\(sliceBounds lo hi none n).2.2=1:=by
 refine ⟨?_,?_,rfl⟩
 ·cases lo with
  | none=>simp [sliceBounds,HT.sIx]
  | some i =>
   simp only [sliceBounds,HT.sIx,Option.getD_none,show (1:Int) > 0 by decide,if_true]
   by_cases h:i < 0
   ·simp only [h,if_true] <;> omega
   ·simp only [h,if_false] <;> omega
 ·cases hi with
  | none=>simp [sliceBounds,HT.sIx]
  | some i =>
   simp only [sliceBounds,HT.sIx,Option.getD_none,show (1:Int) > 0 by decide,if_true]
   by_cases h:i < 0
   ·simp only [h,if_true] <;> omega
   ·simp only [h,if_false] <;> omega
theorem as0 (its:List Value) (lo hi:Option Int):slicePick its.toArray lo hi none=((its.drop (HT.sIx its.length 0 lo)).take (HT.sIx its.length its.length hi - HT.sIx its.length 0 lo)).toArray:=by
 obtain ⟨h1,h2,h3⟩:=au8 lo hi its.toArray.size
 unfold slicePick
 rw [h1,h2,h3]
 simp only [sliceRange_one,pick_run,List.size_toArray] <;> rfl
noncomputable def bL5 (K:PySem.W.Frag):V->Option Int->Option Int->Hp->VK->Prop:=fun x lo hi H Q=>∃ a xs,x=.ref a/\SqL K H a xs/\∀ p,H p=none->Q (.ref p) (upd H p (.lst (T5 xs lo hi)))
theorem ba5:SlR X (bL5 X.K):=by
 intro pins s σ H x v vl vu lo hi sl Q I rx hs pl pu h
 obtain ⟨a,xs,rfl,hx,q⟩:=h
 cases rx
 obtain ⟨its,r,ht,hz⟩:=I.list hx
 have hlen:=r.length
 refine ⟨"list",_,slot_list_getitem.lookup,ht.isList.typeIs,?_⟩
 refine wpAny_getItem_list_slice ht.isList hs pl pu .none (by simp) ?_ (by rw [List.size_toArray] <;> omega)
 rw [as0,<- hlen]
 refine ⟨.ref s.heap.objs.size,_,I.laid (t':=s.toks) (o:=.lst (T5 xs lo hi)) (fun b ob q=>Heap.get?_push_of_some _ q) (Nat.le_refl _) ?_,rfl,q _ (I.hok.fresh (Nat.le_refl _))⟩
 exact ⟨Nat.le_trans (af4 xs lo hi) hz,_,0,(r.drop (HT.sIx xs.length 0 lo)).take (HT.sIx xs.length xs.length hi - HT.sIx xs.length 0 lo),Heap.get?_push_size _ rfl⟩
noncomputable def J8:V->Bool
 | .non=>true
 | .bl _=>true
 | .int _=>true
 | .str _=>true
 | _=>false
noncomputable def eqV:V->V->Bool
 | .non,.non=>true
 | .bl a,.bl b=>a == b
 | .bl a,.int b=>(if a then 1 else 0) == b
 | .int a,.bl b=>a == (if b then 1 else 0)
 | .int a,.int b=>a == b
 | .str a,.str b=>a == b
 | _,_=>false
theorem bs9 {A:Around} {s:Shared} {y x:V} {u v:Value} (ry:RelV y u) (rx:RelV x v) (fy:J8 y=true) (fx:J8 x=true):SeqAt.EqAt A s u v (eqV y x):=by
 cases y with
 | non =>
  cases ry
  cases x with
  | non=>cases rx;exact SeqAt.EqAt.same _
  | bl b=>cases rx;exact SeqAt.EqAt.none_bool b
  | int b=>obtain ⟨t,rfl⟩:=rx;exact SeqAt.EqAt.none_int b t
  | str b=>obtain ⟨t,rfl⟩:=rx;exact SeqAt.EqAt.none_str b t
  | _=>exact absurd (show false=true from fx) Bool.false_ne_true
 | bl a =>
  cases ry
  cases x with
  | non=>cases rx;exact SeqAt.EqAt.bool_none a
  | bl b=>cases rx;exact SeqAt.EqAt.bool_bool a b
  | int b=>obtain ⟨t,rfl⟩:=rx;exact SeqAt.EqAt.bool_int a b t
  | str b=>obtain ⟨t,rfl⟩:=rx;exact SeqAt.EqAt.bool_str a b t
  | _=>exact absurd (show false=true from fx) Bool.false_ne_true
 | int a =>
  obtain ⟨t',rfl⟩:=ry
  cases x with
  | non=>cases rx;exact SeqAt.EqAt.int_none a t'
  | bl b=>cases rx;exact SeqAt.EqAt.int_bool a t' b
  | int b=>obtain ⟨t,rfl⟩:=rx;exact SeqAt.EqAt.int_int a t' b t
  | str b=>obtain ⟨t,rfl⟩:=rx;exact SeqAt.EqAt.int_str a t' b t
  | _=>exact absurd (show false=true from fx) Bool.false_ne_true
 | str a =>
  obtain ⟨t',rfl⟩:=ry
  cases x with
  | non=>cases rx;exact SeqAt.EqAt.str_none a t'
  | bl b=>cases rx;exact SeqAt.EqAt.str_bool a t' b
  | int b=>obtain ⟨t,rfl⟩:=rx;exact SeqAt.EqAt.str_int a t' b t
  | str b=>obtain ⟨t,rfl⟩:=rx;exact SeqAt.EqAt.str_str a t' b t
  | _=>exact absurd (show false=true from fx) Bool.false_ne_true
 | _=>exact absurd (show false=true from fy) Bool.false_ne_true
noncomputable def eqU (x:V) (u:Value):Bool:=match u with
 | .none=>eqV .non x
 | .bool b=>eqV (.bl b) x
 | .int i _=>eqV (.int i) x
 | .str z _=>eqV (.str z) x
 | _=>false
theorem ay1 {x y:V} {u:Value} (r:RelV y u) (f:J8 y=true):eqU x u=eqV y x:=by
 cases y with
 | non=>cases r;rfl
 | bl b=>cases r;rfl
 | int i=>obtain ⟨t,rfl⟩:=r;rfl
 | str z=>obtain ⟨t,rfl⟩:=r;rfl
 | _=>exact absurd (show false=true from f) Bool.false_ne_true
theorem ag5 {A:Around} {s:Shared} {x:V} {v:Value} (rx:RelV x v) (fx:J8 x=true):∀ {xs:List V} {us:List Value},Vals xs us->xs.all J8=true->∀ u ∈ us,SeqAt.EqAt A s u v (eqU x u)
 | _,_,.nil,_=>fun u hu=>by cases hu
 | y :: xs,u :: us,.cons r t,f=>fun u' hu=>by
  rw [List.all_cons,Bool.and_eq_true] at f
  rcases List.mem_cons.mp hu with rfl | hu
  ·rw [ay1 r f.1];exact bs9 r rx f.1 fx
  ·exact ag5 rx fx t f.2 u' hu
theorem az1:t6 X (.builtin "len") (fun xs H Q=>∃ p ys,xs=[.ref p]/\(SqL X.K H p ys \/ SqT X.K H p ys)/\Q (.int ys.length) H):=by
 intro pins s σ H xs us Q I r h
 obtain ⟨p,ys,rfl,hq,q⟩:=h
 obtain ⟨u,rfl,rx⟩:=vals1 r
 cases rx
 have hn:=T2
 rcases hq with hq | hq
 ·obtain ⟨its,r',pl,hz⟩:=I.list hq
  have hlen:=r'.length
  exact Calls.call_len_list pl.isList (by simp only [List.size_toArray] <;> omega) ⟨.int ys.length,H,I.tok _,⟨s.toks + 1,by rw [List.size_toArray,hlen]⟩,q⟩
 ·obtain ⟨its,r',pl,hz⟩:=I.tuple hq
  have hlen:=r'.length
  exact len_tuple pl (by simp only [List.size_toArray] <;> omega) ⟨.int ys.length,H,I.tok _,⟨s.toks + 1,by rw [List.size_toArray,hlen]⟩,q⟩
theorem az0:t6 X (.builtin "len") (fun xs H Q=>∃ z,xs=[.str z]/\z.length <= sizeLine/\Q (.int z.length) H):=by
 intro pins s σ H xs us Q I r h
 obtain ⟨z,rfl,hz,q⟩:=h
 obtain ⟨u,rfl,t,rfl⟩:=vals1 r
 have hn:=T2
 exact len_str (by omega) ⟨.int z.length,H,I.tok _,⟨_,rfl⟩,q⟩
theorem ay9:t6 X (.type "list") (fun xs H Q=>∃ p ys,xs=[.ref p]/\(SqL X.K H p ys \/ SqT X.K H p ys)/\∀ l,H l=none->Q (.ref l) (upd H l (.lst ys))):=by
 intro pins s σ H xs us Q I r h
 obtain ⟨p,ys,rfl,hq,q⟩:=h
 obtain ⟨u,rfl,rx⟩:=vals1 r
 cases rx
 have fin:∀ (its:List Value),Vals ys its->ys.length <= sizeLine->∀ (h':Heap) (c':Nat),(∀ b o',s.heap.get? b=some o'->h'.get? b=some o') ->
   h'.get? s.heap.objs.size=some { cls:=.type "list",dict:=none,data:=.seq its.toArray c',slots:=#[] }->EP X pins σ Q (.ref s.heap.objs.size) { s with heap:=h' }:=fun its r' hz h' c' kp e =>
  ⟨.ref s.heap.objs.size,_,I.laid (t':=s.toks) kp (Nat.le_refl _) (show l8 X.prog X.w _ h' _ (.lst ys) from ⟨hz,its,c',r',e⟩),rfl,q _ (I.hok.fresh (Nat.le_refl _))⟩
 rcases hq with hq | hq
 ·obtain ⟨its,r',pl,hz⟩:=I.list hq
  have hlen:=r'.length
  obtain ⟨o,ho,hc,n,hd⟩:=pl.isList
  exact call_list_seq p (.inl rfl) ho hc hd (fun h' c' kp e=>fin its r' hz h' c' kp e) (by simp only [List.size_toArray] <;> omega)
 ·obtain ⟨its,r',pl,hz⟩:=I.tuple hq
  have hlen:=r'.length
  obtain ⟨o,ho,hc,n,hd⟩:=pl
  exact call_list_seq p (.inr rfl) ho hc hd (fun h' c' kp e=>fin its r' hz h' c' kp e) (by simp only [List.size_toArray] <;> omega)
theorem as3:t6 X (.type "tuple") (fun xs H Q=>∃ p ys,xs=[.ref p]/\((SqL X.K H p ys/\∀ l,H l=none->Q (.ref l) (upd H l (.tup ys))) \/ (SqT X.K H p ys/\Q (.ref p) H))):=by
 intro pins s σ H xs us Q I r h
 obtain ⟨p,ys,rfl,h⟩:=h
 obtain ⟨u,rfl,rx⟩:=vals1 r
 cases rx
 rcases h with ⟨hq,q⟩ | ⟨hq,q⟩
 ·obtain ⟨its,r',pl,hz⟩:=I.list hq
  have hlen:=r'.length
  refine call_tuple_list pl.isList (fun h' kp=>?_) (by simp only [List.size_toArray] <;> omega)
  have I1:Inv X pins σ H { s with heap:=h' }:=I.kept (t':=s.toks) kp
  have I2:Inv X pins σ (upd H h'.objs.size (.tup ys)) { s with heap:=h'.push { cls:=.type "tuple",data:=.seq its.toArray } } :=
   I1.laid (t':=s.toks) (fun b o e=>Heap.get?_push_of_some _ e) (Nat.le_refl _) (show l8 X.prog X.w _ _ _ (.tup ys) from ⟨hz,its,r',C6.new _ _⟩)
  exact ⟨.ref h'.objs.size,_,I2,rfl,q _ (I1.hok.fresh (Nat.le_refl _))⟩
 ·obtain ⟨its,r',pl,hz⟩:=I.tuple hq
  exact call_tuple_same pl ⟨.ref p,H,I,rfl,q⟩
noncomputable def tyV (K:PySem.W.Frag) (T:String) (x:V) (H:Hp):Prop:=match x with
 | .str _=>T="str"
 | .int _=>T="int"
 | .ref p=>(T="list"/\∃ xs,SqL K H p xs) \/ (T="tuple"/\∃ o,K.lookup p=some o/\o.cls=.type "tuple"/\o.dict=none) \/
   (T="dict"/\((∃ kvs,H p=some (.dK kvs)) \/ ∃ kvs,H p=some (.dT kvs))) \/ (T="set"/\∃ S n,H p=some (.set S n))
 | _=>False
theorem aL1 {pins:List (Addr × Obj)} {σ:St} {H:Hp} {s:Shared} {T:String} {x:V} {v:Value} (I:Inv X pins σ H s) (r:RelV x v) (ty:tyV X.K T x H) :
  s.TypeIs v T/\∀ a,v=.ref a->∃ ob,s.heap.get? a=some ob/\ob.dict=none:=by
 cases x with
 | str z =>
  obtain ⟨t,rfl⟩:=r
  cases (show T="str" from ty)
  exact ⟨typeIs_str s z t,fun _ e=>nomatch e⟩
 | int i =>
  obtain ⟨t,rfl⟩:=r
  cases (show T="int" from ty)
  exact ⟨typeIs_int s i t,fun _ e=>nomatch e⟩
 | ref p =>
  cases r
  rcases ty with ⟨rfl,xs,hq⟩ | ⟨rfl,o,hk,hc,hd⟩ | ⟨rfl,hk⟩ | ⟨rfl,S,n,hk⟩
  ·obtain ⟨its,_,pl,_⟩:=I.list hq
   refine ⟨pl.isList.typeIs,fun a e=>?_⟩
   cases e
   obtain ⟨o,n,e,c,hd,_⟩:=pl
   exact ⟨o,e,hd⟩
  ·refine ⟨⟨o,I.kIn p o hk,hc⟩,fun a e=>?_⟩
   cases e
   exact ⟨o,I.kIn _ o hk,hd⟩
  ·have z:∃ o,s.heap.get? p=some o/\o.ExactDict:=by
    rcases hk with ⟨kvs,hk⟩ | ⟨kvs,hk⟩
    ·obtain ⟨_,_,_,_,o,_,_,e,ex,_⟩:=I.hok p _ hk
     exact ⟨o,e,ex⟩
    ·obtain ⟨_,_,_,_,o,_,_,e,ex,_⟩:=I.hok p _ hk
     exact ⟨o,e,ex⟩
   obtain ⟨o,e,ex⟩:=z
   refine ⟨⟨o,e,ex.1⟩,fun a e2=>?_⟩
   cases e2
   exact ⟨o,e,ex.2.1⟩
  ·obtain ⟨o,_,_,_,e,ex,_⟩:=I.hok p _ hk
   refine ⟨⟨o,e,ex.1⟩,fun a e2=>?_⟩
   cases e2
   exact ⟨o,e,ex.2.1⟩
 | _=>exact False.elim ty
noncomputable def bH1 (K:PySem.W.Frag) (T:String) (r:V->List V->Hp->VK->Prop) (to:TE):TE:=fun σ H Q=>to σ H fun x H1=>tyV K T x H1/\r x [] H1 Q
noncomputable def tBM (K:PySem.W.Frag) (T:String) (r:V->List V->Hp->VK->Prop) (to:TE) (t:TA):TE:=fun σ H Q=>to σ H fun x H1=>tyV K T x H1/\t σ H1 fun xs H2=>r x xs H2 Q
variable {o e:Expr} {es:List Expr} {to:TE} {t:TA} {name:Str} {apos cpos:Pos} {T id:String} {r:V->List V->Hp->VK->Prop}
theorem bp2 (pa:PlainAttrs T) (slot:Slot T name id) (hty:typeOf (.builtin id)=pure (.type "method_descriptor")) (hm:MtR X id r) (ho:PE X o to)
  (hbase:attributeBase o name X.env (eval o X.env)=eval o X.env:=by rfl) (hline:(apos.endLine == cpos.line)=true:=by rfl):PE X (.Call (.Attribute o name apos) [] [] cpos) (bH1 X.K T r to):=by
 intro pins s σ H Q I h
 refine wpAny_Call_method0_late hbase hline (thn (ho pins s σ H _ I h) fun v s1 ⟨x,H1,I1,r1,ty,q1⟩=>?_)
 obtain ⟨h1,h2⟩:=aL1 I1 r1 ty
 exact ⟨T,id,pa,slot,hty,h1,h2,Calls.callWith_builtin rfl (PySem.evalArgs_none (hm pins s1 σ H1 x [] v [] Q I1 r1 .nil q1))⟩
theorem by9 (pa:PlainAttrs T) (slot:Slot T name id) (hty:typeOf (.builtin id)=pure (.type "method_descriptor")) (hm:MtR X id r) (ho:PE X o to) (ha:PA X (e :: es) t)
  (hbase:attributeBase o name X.env (eval o X.env)=eval o X.env:=by rfl)
  (hfew:((backTo cpos (starEach (e :: es) X.env)).all (fun x=>!x.1) && (backToKw cpos (keywordEach [] X.env)).all (fun x=>x.1.isSome)
   && decide ((e :: es).length + ([]:List Keyword).length + (if ([]:List Keyword).isEmpty then 0 else 1) < 30))=true:=by rfl)
  (hline:(apos.endLine == cpos.line)=true:=by rfl) (hs:starEach (e :: es) X.env=(false,eval e X.env) :: starEach es X.env:=by rfl) (hplain:(backTo cpos (starEach es X.env)).any (·.1)=false:=by rfl) :
  PE X (.Call (.Attribute o name apos) (e :: es) [] cpos) (tBM X.K T r to t):=by
 intro pins s σ H Q I h
 refine wpAny_Call_method_late hbase hfew hline rfl (thn (ho pins s σ H _ I h) fun v s1 ⟨x,H1,I1,r1,ty,q1⟩=>?_)
 obtain ⟨h1,h2⟩:=aL1 I1 r1 ty
 refine ⟨T,id,pa,slot,hty,h1,h2,?_⟩
 have hA:=ha cpos pins s1 σ H1 _ I1 q1
 rw [hs] at hA ⊢
 refine Calls.callWith_builtin (by show (false || (backTo cpos (starEach es X.env)).any (·.1))=false;rw [hplain] <;> rfl) (Calls.evalArgs_plain ?_)
 exact thn hA fun us s2 ⟨vs,H2,I2,r2,q2⟩=>hm pins s2 σ H2 x vs v us Q I2 r1 r2 q2
end
end L2
namespace L2
open PySem PySem.Spec PyProof.Rows
noncomputable def MtM (X:Cx) (id:String) (r:V->List V->Hp->VK->Prop):Prop :=
 ∀ (pins:List (Addr × Obj)) (s:Shared) (σ:St) (H:Hp) (x:V) (xs:List V) (v:Value) (us:List Value) (Q:VK),Inv X pins σ H s->RelV x v->Vals xs us->r x xs H Q ->
  wpAny (model X.prog X.w) X.A (call (.builtin id) (v :: us)) (EP X pins σ Q) X.xe s
theorem Vals.one:∀ {x:V} {us:List Value},Vals [x] us->∃ u,us=[u]/\RelV x u
 | _,_,.cons r .nil=>⟨_,rfl,r⟩
theorem Vals.zero:∀ {us:List Value},Vals [] us->us=[]
 | _,.nil=>rfl
theorem Vals.dropLast {xs:List V} {us:List Value} (h:Vals xs us):Vals xs.dropLast us.dropLast:=by
 induction h with
 | nil=>exact .nil
 | cons r t ih =>
  cases t with
  | nil=>exact .nil
  | cons q t'=>exact .cons r ih
theorem Vals.eraseIdx:∀ {xs:List V} {us:List Value} (i:Nat),Vals xs us->Vals (xs.eraseIdx i) (us.eraseIdx i)
 | _,_,_,.nil=>.nil
 | _,_,0,.cons _ t=>t
 | _,_,i + 1,.cons r t=>.cons r (Vals.eraseIdx i t)
theorem Vals.reverse {xs:List V} {us:List Value} (h:Vals xs us):Vals xs.reverse us.reverse:=by
 induction h with
 | nil=>exact .nil
 | cons r t ih=>rw [List.reverse_cons,List.reverse_cons];exact Vals.append ih (.cons r .nil)
theorem Vals.rep {xs:List V} {us:List Value} (h:Vals xs us):∀ k:Nat,Vals (List.replicate k xs).flatten (List.replicate k us).flatten
 | 0=>.nil
 | k + 1=>by
  rw [List.replicate_succ,List.replicate_succ,List.flatten_cons,List.flatten_cons]
  exact Vals.append h (Vals.rep h k)
theorem aI9 {α:Type} (l:List α):l.eraseIdx (l.length - 1)=l.dropLast:=by
 induction l with
 | nil=>rfl
 | cons a r ih =>
  cases r with
  | nil=>rfl
  | cons b r =>
   have e:(a :: b :: r).length - 1=((b :: r).length - 1) + 1:=by
    have h1:(a :: b :: r).length=r.length + 2:=rfl
    have h2:(b :: r).length=r.length + 1:=rfl
    omega
   rw [e,List.eraseIdx_cons_succ,ih]
   all_goals rfl
theorem aq4 {α:Type}:∀ (l:List α) (i:Nat),(l.eraseIdx i).length <= l.length
 | [],_=>Nat.le_refl _
 | _ :: _,0=>Nat.le_succ _
 | _ :: r,i + 1=>Nat.succ_le_succ (aq4 r i)
theorem foldl_rep (its:List Value):∀ (k:Nat) (acc:List Value),
  List.foldl (fun x1 x2=>x1 ++ x2) acc.toArray (List.replicate k its.toArray)=(acc ++ (List.replicate k its).flatten).toArray
 | 0,acc=>by simp
 | k + 1,acc=>by
  have e:acc.toArray ++ its.toArray=(acc ++ its).toArray:=by simp
  have e2:(acc ++ its) ++ (List.replicate k its).flatten=acc ++ (List.replicate (k + 1) its).flatten:=by
   rw [List.replicate_succ,List.flatten_cons,List.append_assoc]
  rw [<- e2,<- foldl_rep its k (acc ++ its),<- e,List.replicate_succ,List.foldl_cons]
section
variable {X:Cx} {pins:List (Addr × Obj)} {σ:St} {H:Hp} {s:Shared} {l b:Addr} {xs ys zs:List V}
theorem Inv.aH9 {its its':List Value} {n:Nat} {f:Array Value->Array Value} {t':Nat} (I:Inv X pins σ H s) (hH:H l=some (.lst xs))
  (e:s.heap.get? l=some { cls:=.type "list",data:=.seq its.toArray n }) (hf:f its.toArray=its'.toArray) (hv:Vals ys its') (hz:ys.length <= sizeLine) :
  Inv X pins σ (upd H l (.lst ys)) { s with heap:=s.heap.update l (Obj.mapSeq f),toks:=t' }:=by
 have q:=PySem.IsL.update e f
 rw [hf] at q
 refine I.write (x:=l) (e:=l) (by rw [hH];exact trivial) (.inl rfl) (fun b' u hb hu=>(Heap.get?_update_other s.heap (Obj.mapSeq f) (Ne.symm hb)).trans hu) ⟨_,q⟩ ?_
 exact ⟨hz,its',_,hv,q⟩
theorem Inv.br0 {its:List Value} {t':Nat} (I:Inv X pins σ H s) (hv:Vals ys its) (hz:ys.length <= sizeLine) :
  Inv X pins σ (upd H s.heap.objs.size (.lst ys)) { s with heap:=s.heap.push { cls:=.type "list",data:=.seq its.toArray },toks:=t' } :=
 I.laid (fun _ _ q=>Heap.get?_push_of_some _ q) (Nat.le_refl _) ⟨hz,its,0,hv,Heap.get?_push_size _ rfl⟩
theorem Inv.fresh (I:Inv X pins σ H s):H s.heap.objs.size=none:=I.hok.fresh (Nat.le_refl _)
theorem Inv.ag6 (I:Inv X pins σ H s) (hH:H l=some (.lst xs)):xs.length <= sizeLine/\∃ (its:List Value) (n:Nat),Vals xs its/\xs.length=its.length/\s.heap.get? l=some { cls:=.type "list",data:=.seq its.toArray n }:=by
 obtain ⟨z,its,n,r,e⟩:=I.hok l _ hH
 exact ⟨z,its,n,r,r.length,e⟩
theorem aX5 {n:Nat} (h:n <= sizeLine):Builtin.List.listTooLong n=false:=by
 unfold Builtin.List.listTooLong
 exact decide_eq_false (by omega)
end
section
variable {X:Cx}
noncomputable def bb9:V->List V->Hp->VK->Prop:=fun x vs H Q=>∃ l xs y,x=.ref l/\vs=[y]/\H l=some (.lst xs)/\xs.length < sizeLine/\Q .non (upd H l (.lst (xs ++ [y])))
theorem aO8:MtM X "list.append" bb9:=by
 intro pins s σ H x vs v us Q I rx rv h
 obtain ⟨l,xs,y,rfl,rfl,hH,hz,q⟩:=h
 cases rx
 obtain ⟨u,rfl,ru⟩:=rv.one
 obtain ⟨z,its,n,r,hl,e⟩:=I.ag6 hH
 refine call_meets F.slot_list_append ⟨_,e,rfl⟩ F.entry_list_append (F.args_list_append_2 _ _) (PySem.list_append l its.toArray n u (by rw [List.size_toArray];omega)) ⟨e,?_⟩
 refine ⟨.non,_,I.aH9 (its':=its ++ [u]) hH e (by simp) (r.append (.cons ru .nil)) ?_,rfl,q⟩
 rw [List.length_append,List.length_singleton]
 omega
noncomputable def bL8:V->List V->Hp->VK->Prop:=fun x vs H Q=>∃ l xs y,x=.ref l/\vs=[]/\H l=some (.lst xs)/\xs[xs.length - 1]?=some y/\Q y (upd H l (.lst xs.dropLast))
theorem bq6:MtM X "list.pop" bL8:=by
 intro pins s σ H x vs v us Q I rx rv h
 obtain ⟨l,xs,y,rfl,rfl,hH,hy,q⟩:=h
 cases rx
 have hus:=rv.zero
 subst hus
 obtain ⟨z,its,n,r,hl,e⟩:=I.ag6 hH
 obtain ⟨u,hu,ru⟩:=r.get hy
 have hy':its.toArray[its.toArray.size - 1]?=some u:=by
  show its.toArray[its.length - 1]?=some u
  rw [<- Array.getElem?_toList,<- hl]
  exact hu
 refine call_meets F.slot_list_pop ⟨_,e,rfl⟩ F.entry_list_pop (F.args_list_pop_1 _) (MeetsSeq.list_pop_last l its.toArray n u hy' (by rw [List.size_toArray];omega)) ⟨e,?_⟩
 refine ⟨y,_,I.aH9 (its':=its.dropLast) hH e ?_ r.dropLast ?_,ru,q⟩
 ·show its.toArray.eraseIdxIfInBounds (its.toArray.size - 1)=its.dropLast.toArray
  rw [List.size_toArray,List.eraseIdxIfInBounds_toArray,aI9]
 ·rw [List.length_dropLast]
  omega
noncomputable def bm8:V->List V->Hp->VK->Prop:=fun x vs H Q=>∃ l xs i k y,x=.ref l/\vs=[.int i]/\H l=some (.lst xs)/\-(2 ^ 63) <= i/\i < 2 ^ 63/\seqIndex? i xs.length=some k/\xs[k]?=some y/\Q y (upd H l (.lst (xs.eraseIdx k)))
theorem aX9:MtM X "list.pop" bm8:=by
 intro pins s σ H x vs v us Q I rx rv h
 obtain ⟨l,xs,i,k,y,rfl,rfl,hH,h1,h2,hk,hy,q⟩:=h
 cases rx
 obtain ⟨u,rfl,ru⟩:=rv.one
 obtain ⟨t,rfl⟩:=ru
 obtain ⟨z,its,n,r,hl,e⟩:=I.ag6 hH
 obtain ⟨w,hw,rw'⟩:=r.get hy
 refine call_meets F.slot_list_pop ⟨_,e,rfl⟩ F.entry_list_pop (F.args_list_pop_2 _ _)
  (MeetsSeq.list_pop_at l its.toArray n i t k w (fitsIndex_both h1 h2) (by rw [List.size_toArray,<- hl];exact hk) (by rw [<- Array.getElem?_toList];exact hw) (by rw [List.size_toArray];omega)) ⟨e,?_⟩
 refine ⟨y,_,I.aH9 (its':=its.eraseIdx k) hH e ?_ (r.eraseIdx k) ?_,rw',q⟩
 ·show its.toArray.eraseIdxIfInBounds k=(its.eraseIdx k).toArray
  rw [List.eraseIdxIfInBounds_toArray]
 ·have:=aq4 xs k
  omega
noncomputable def bm9:V->List V->Hp->VK->Prop:=fun x vs H Q=>∃ l xs,x=.ref l/\vs=[]/\H l=some (.lst xs)/\Q .non (upd H l (.lst []))
theorem aY0:MtM X "list.clear" bm9:=by
 intro pins s σ H x vs v us Q I rx rv h
 obtain ⟨l,xs,rfl,rfl,hH,q⟩:=h
 cases rx
 have hus:=rv.zero
 subst hus
 obtain ⟨z,its,n,r,hl,e⟩:=I.ag6 hH
 refine call_meets F.slot_list_clear ⟨_,e,rfl⟩ F.entry_list_clear (F.args_list_clear_1 _) (AutoSeq1.list_clear_list_0 l its.toArray n (by rw [List.size_toArray];omega)) ⟨e,?_⟩
 exact ⟨.non,_,I.aH9 (its':=[]) (ys:=[]) hH e rfl .nil (Nat.zero_le _),rfl,q⟩
noncomputable def bM2:R2:=fun x y H Q=>∃ l b xs zs,x=.ref l/\y=.ref b/\H l=some (.lst xs)/\H b=some (.lst zs)/\xs.length + zs.length <= sizeLine/\∀ p,H p=none->Q (.ref p) (upd H p (.lst (xs ++ zs)))
theorem bq0:OpR X (binaryOp .Add) bM2:=by
 intro pins s σ H x y v u Q I rx ry h
 obtain ⟨l,b,xs,zs,rfl,rfl,hH,hB,hz,q⟩:=h
 cases rx
 cases ry
 obtain ⟨z,its,n,r,hl,e⟩:=I.ag6 hH
 obtain ⟨z2,its2,n2,r2,hl2,e2⟩:=I.ag6 hB
 refine PySem.P.add_list e e2 ?_ (by rw [List.size_toArray,List.size_toArray];omega)
 have ea:its.toArray ++ its2.toArray=(its ++ its2).toArray:=by simp
 rw [ea]
 exact ⟨.ref _,_,I.br0 (t':=s.toks) (r.append r2) (by rw [List.length_append];omega),rfl,q _ I.fresh⟩
noncomputable def bL7:R2:=fun x y H Q=>∃ l k xs,x=.ref l/\y=.int k/\H l=some (.lst xs)/\-(2 ^ 63) <= k/\k < 2 ^ 63/\xs.length * k.toNat <= sizeLine /\
 ∀ p,H p=none->Q (.ref p) (upd H p (.lst (List.replicate k.toNat xs).flatten))
theorem len_rep {α:Type} (xs:List α) (k:Nat):(List.replicate k xs).flatten.length=k * xs.length:=by
 induction k with
 | zero=>simp
 | succ k ih=>rw [List.replicate_succ,List.flatten_cons,List.length_append,ih,Nat.succ_mul,Nat.add_comm]
theorem bp5:OpR X (binaryOp .Mult) bL7:=by
 intro pins s σ H x y v u Q I rx ry h
 obtain ⟨l,k,xs,rfl,rfl,hH,h1,h2,hz,q⟩:=h
 cases rx
 obtain ⟨t,rfl⟩:=ry
 obtain ⟨z,its,n,r,hl,e⟩:=I.ag6 hH
 have hlen:its.toArray.size * k.toNat <= sizeLine:=by rw [List.size_toArray,<- hl];exact hz
 have hcap:¬ its.toArray.size * k.toNat > (2 ^ 63 - 1) / 8:=by
  have:(sizeLine:Nat) <= (2 ^ 63 - 1) / 8:=by decide
  omega
 have hfit:¬ (!Builtin.List.listFitsIndex k)=true:=by
  rw [fitsIndex_both h1 h2]
  exact Bool.false_ne_true
 have hlong:¬ Builtin.List.listTooLong (its.toArray.size * k.toNat)=true:=by
  rw [aX5 hlen]
  exact Bool.false_ne_true
 have hnew:List.foldl (fun x1 x2=>x1 ++ x2) #[] (List.replicate (if its.toArray.isEmpty=true then 0 else k.toNat) its.toArray)=(List.replicate k.toNat its).flatten.toArray:=by
  have f0:∀ m:Nat,List.foldl (fun x1 x2=>x1 ++ x2) #[] (List.replicate m its.toArray)=(List.replicate m its).flatten.toArray:=fun m=>by
   have:=foldl_rep its m []
   rw [List.nil_append] at this
   exact this
  rw [f0]
  cases its with
  | nil=>simp
  | cons a r'=>rw [if_neg (by simp)]
 refine wpAny_binaryOp_repeat_ref (T:="list") (U:="int") (by decide) ⟨_,e,rfl⟩ (fun s'=>typeIs_int s' k t) noFill_list_mul F.fills_int_mul F.slot_int_rmul repeat_list F.slot_int_index.lookup
  (call_meets F.slot_int_rmul (typeIs_int s k t) F.entry_int_rmul (F.args_int_rmul_2 _ _) (int___rmul___int_list k t l its.toArray n)
   ⟨e,rfl,⟨_,e,rfl⟩,call_meets F.slot_list_mul ⟨_,e,rfl⟩ F.entry_list_mul (F.args_list_mul_2 _ _) (AutoListH.list___mul___list_int_3 l its.toArray n k t hfit hcap hlong) ⟨e,?_⟩⟩)
 rw [hnew]
 exact ⟨.ref _,_,I.br0 (t':=s.toks) (r.rep k.toNat) (by rw [len_rep,Nat.mul_comm];exact hz),rfl,q _ I.fresh⟩
end
section
variable {prog:Program} {w:World} {A:Around} {E:Value->Shared->Prop} {s:Shared}
end
section
variable {X:Cx}
end
end L2

namespace L2
open PySem PySem.Spec PyProof.Rows
section
variable {κ:Type} [DecidableEq κ]
noncomputable def K3 (kvs:List (κ × V)) (k:κ):Option V:=(kvs.find? fun kv=>decide (kv.1=k)).map (·.2)
noncomputable def putK (kvs:List (κ × V)) (k:κ) (v:V):List (κ × V) :=
 if (kvs.any fun kv=>decide (kv.1=k))=true then kvs.map (fun kv=>if kv.1=k then (kv.1,v) else kv) else kvs ++ [(k,v)]
theorem af5 {p:κ × V} {r:List (κ × V)} {k:κ} (e:p.1=k):K3 (p :: r) k=some p.2:=by simp [K3,List.find?_cons,e]
theorem af6 {p:κ × V} {r:List (κ × V)} {k:κ} (e:¬ p.1=k):K3 (p :: r) k=K3 r k:=by simp [K3,List.find?_cons,e]
theorem at8 (k:κ):∀ kvs:List (κ × V),(kvs.any fun kv=>decide (kv.1=k))=(K3 kvs k).isSome
 | []=>rfl
 | p :: r=>by
  rw [List.any_cons]
  by_cases e:p.1=k
  ·simp only [af5 e,decide_eq_true e,Bool.true_or,Option.isSome_some]
  ·rw [af6 e,decide_eq_false e,Bool.false_or];exact at8 k r
theorem U6 (kvs:List (κ × V)) (k:κ) (v:V):(putK kvs k v).length <= kvs.length + 1:=by
 unfold putK
 split
 ·rw [List.length_map];omega
 ·rw [List.length_append,List.length_cons,List.length_nil];omega
theorem A8.P4 {o:Option V} {u:Option Value} (r:A8 o u):o.isSome=u.isSome:=by
 cases o with
 | none=>cases u with
  | none=>rfl
  | some _=>exact (show False from r).elim
 | some _=>cases u with
  | none=>exact (show False from r).elim
  | some _=>rfl
theorem A8.getD {o:Option V} {u:Option Value} {d:V} {d':Value} (r:A8 o u) (rd:RelV d d'):RelV (o.getD d) (u.getD d'):=by
 cases o with
 | none=>cases u with
  | none=>exact rd
  | some _=>exact (show False from r).elim
 | some _=>cases u with
  | none=>exact (show False from r).elim
  | some _=>exact r
theorem KV.val {kvs:List (κ × V)} {vs:List (κ × Value)} (r:KV kvs vs) (k:κ):A8 (K3 kvs k) (valueAt vs k):=by
 unfold KV at r
 induction r with
 | nil=>exact True.intro
 | @cons p q ps qs h t ih =>
  obtain ⟨h1,h2⟩:=h
  by_cases e:p.1=k
  ·have e':q.1=k:=h1.symm.trans e
   have b:valueAt (q :: qs) k=some q.2:=by simp [valueAt,List.find?_cons,e']
   rw [af5 e,b];exact h2
  ·have e':¬ q.1=k:=fun z=>e (h1.trans z)
   have b:valueAt (q :: qs) k=valueAt qs k:=by simp [valueAt,List.find?_cons,e']
   rw [af6 e,b];exact ih
theorem KV.any {kvs:List (κ × V)} {vs:List (κ × Value)} (r:KV kvs vs) (k:κ):(kvs.any fun kv=>decide (kv.1=k))=vs.any fun kv=>decide (kv.1=k):=by
 unfold KV at r
 induction r with
 | nil=>rfl
 | cons h t ih=>rw [List.any_cons,List.any_cons,ih,h.1]
theorem KV.aV5 {kvs:List (κ × V)} {vs:List (κ × Value)} (r:KV kvs vs) (k:κ) {y:V} {u:Value} (ry:RelV y u) :
  KV (kvs.map fun kv=>if kv.1=k then (kv.1,y) else kv) (vs.map fun kv=>if kv.1=k then (kv.1,u) else kv):=by
 unfold KV at r ⊢
 induction r with
 | nil=>exact .nil
 | @cons p q ps qs h t ih =>
  rw [List.map_cons,List.map_cons]
  refine .cons ?_ ih
  obtain ⟨h1,h2⟩:=h
  by_cases e:p.1=k
  ·rw [if_pos e,if_pos (h1.symm.trans e)];exact ⟨h1,ry⟩
  ·rw [if_neg e,if_neg (fun z=>e (h1.trans z))];exact ⟨h1,h2⟩
theorem KV.put {kvs:List (κ × V)} {vs:List (κ × Value)} (r:KV kvs vs) (k:κ) {y:V} {u:Value} (ry:RelV y u):KV (putK kvs k y) (stored vs k u):=by
 unfold putK stored
 rw [r.any k]
 by_cases e:(vs.any fun kv=>decide (kv.1=k))=true
 ·rw [if_pos e,if_pos e];exact r.aV5 k ry
 ·rw [if_neg e,if_neg e];exact Paired.snoc r ⟨rfl,ry⟩
theorem KV.length {kvs:List (κ × V)} {vs:List (κ × Value)} (r:KV kvs vs):kvs.length=vs.length:=Paired.length r
end
theorem ad1 {P:Program} {w:World} {k:Key} {u:Value} (r:RelV (kV k) u):(p9 P w).is k u=true:=by
 cases k with
 | inl i=>obtain ⟨t,e⟩:=(show ∃ t,u=Value.int i t from r);subst e;exact aA7 P w i t
 | inr x=>obtain ⟨t,e⟩:=(show ∃ t,u=Value.str x t from r);subst e;exact aA6 P w x t
theorem aq6 {P:Program} {w:World}:∀ {ks:List Key} {us:List Value},Vals (ks.map kV) us->ItemsAre (p9 P w) ks us
 | [],_,r=>by rw [List.map_nil] at r;cases r;exact .nil
 | k :: ks,_,r=>by
  rw [List.map_cons] at r
  cases r with
  | cons h t=>exact .cons (ad1 h) (aq6 t)
noncomputable abbrev KT (H:Hp):List (List Key × V)->List (List Key × Addr × Value)->Prop:=Paired fun p q=>p.1=q.1/\H q.2.1=some (.tup (p.1.map kV))/\RelV p.2 q.2.2
theorem KT.val {H:Hp} {kvs:List (List Key × V)} {xs:List (List Key × Addr × Value)} (r:KT H kvs xs) (k:List Key):A8 (K3 kvs k) ((atKey xs k).map (·.2)):=by
 induction r with
 | nil=>exact True.intro
 | @cons p q ps qs h t ih =>
  obtain ⟨h1,_,h2⟩:=h
  by_cases e:p.1=k
  ·have e':q.1=k:=h1.symm.trans e
   have b:atKey (q :: qs) k=some q.2:=by simp [atKey,List.find?_cons,e']
   rw [af5 e,b];exact h2
  ·have e':¬ q.1=k:=fun z=>e (h1.trans z)
   have b:atKey (q :: qs) k=atKey qs k:=by simp [atKey,List.find?_cons,e']
   rw [af6 e,b];exact ih
theorem KT.aV5 {H:Hp} {kvs:List (List Key × V)} {xs:List (List Key × Addr × Value)} (r:KT H kvs xs) (k:List Key) {y:V} {u:Value} (ry:RelV y u) :
  KT H (kvs.map fun kv=>if kv.1=k then (kv.1,y) else kv) (xs.map (putAt k u)):=by
 induction r with
 | nil=>exact .nil
 | @cons p q ps qs h t ih =>
  rw [List.map_cons,List.map_cons]
  refine .cons ?_ ih
  obtain ⟨h1,h2,h3⟩:=h
  unfold putAt
  by_cases e:p.1=k
  ·rw [if_pos e,if_pos (h1.symm.trans e)];exact ⟨h1,h2,ry⟩
  ·rw [if_neg e,if_neg (fun z=>e (h1.trans z))];exact ⟨h1,h2,h3⟩
theorem KT.put {H:Hp} {kvs:List (List Key × V)} {xs:List (List Key × Addr × Value)} (r:KT H kvs xs) (k:List Key) {b:Addr} {y:V} {u:Value} (hb:H b=some (.tup (k.map kV))) (ry:RelV y u) :
  KT H (putK kvs k y) (storedH xs k b u):=by
 have e:(kvs.any fun kv=>decide (kv.1=k))=(atKey xs k).isSome:=by
  rw [at8,(r.val k).P4,Option.isSome_map]
 unfold putK storedH
 rw [e]
 by_cases q:(atKey xs k).isSome=true
 ·rw [if_pos q,if_pos q];exact r.aV5 k ry
 ·rw [if_neg q,if_neg q];exact Paired.snoc r ⟨rfl,hb,ry⟩
theorem KT.keeps {H H':Hp} {kvs:List (List Key × V)} {xs:List (List Key × Addr × Value)} (r:KT H kvs xs) (ht:∀ b ys,H b=some (.tup ys)->H' b=some (.tup ys)):KT H' kvs xs :=
 Paired.aY6 r fun _ _ z=>⟨z.1,ht _ _ z.2.1,z.2.2⟩
section
variable {P:Program} {w:World} {H:Hp} {h:Heap} {a:Addr}
theorem a48 {u:HO} (ok:HOk P w H h) (e:Rd H a u):l8 P w H h a u:=e.ok ok
theorem ad6 {kvs:List (Key × V)} (ok:HOk P w H h) (e:Rd H a (.dK kvs)):kvs.length <= sizeLine/\(a == sysModules)=false/\∃ vs,KV kvs vs/\h.DictOf (p9 P w) a vs :=
 show l8 P w H h a (.dK kvs) from a48 ok e
theorem a78 {kvs:List (Key × V)} (ok:HOk P w H h) (e:H a=some (.dK kvs)):kvs.length <= sizeLine/\(a == sysModules)=false/\∃ vs,KV kvs vs/\h.DictOf (p9 P w) a vs:=ad6 ok (.inl e)
theorem aa6 {ks:List Key} (ok:HOk P w H h) (e:H a=some (.tup (ks.map kV))):(tupleKind (p9 P w)).is h ks a:=by
 obtain ⟨_,its,r,o,h1,h2,⟨n,h3⟩,_⟩:=(show l8 P w H h a (.tup (ks.map kV)) from ok a _ e)
 exact ⟨o,its.toArray,n,h1,h2,h3,by simpa using aq6 r⟩
theorem ak9 {kvs:List (List Key × V)} (ok:HOk P w H h) (e:Rd H a (.dT kvs)):kvs.length <= sizeLine/\(a == sysModules)=false /\
  ∃ xs,KT H kvs xs/\h.DictOfH (tupleKind (p9 P w)) a xs:=by
 obtain ⟨z,y,xs,r,o,es,ep,h1,h2,h3,h4,h5⟩:=(show l8 P w H h a (.dT kvs) from a48 ok e)
 refine ⟨z,y,xs,r,o,es,ep,h1,h2,h3,h4,fun x hx=>?_,h5⟩
 have all:∀ {l:List (List Key × V)} {m:List (List Key × Addr × Value)},KT H l m->∀ x ∈ m,(tupleKind (p9 P w)).is h x.1 x.2.1:=by
  intro l m q
  induction q with
  | nil=>intro x hx;exact nomatch hx
  | @cons p q ps qs hq t ih =>
   intro x hx
   rcases List.mem_cons.mp hx with e | hx
   ·subst e
    exact aa6 ok (by rw [<- hq.1];exact hq.2.1)
   ·exact ih x hx
 exact all r x hx
theorem bB9 {kvs:List (List Key × V)} (ok:HOk P w H h) (e:H a=some (.dT kvs)):kvs.length <= sizeLine/\(a == sysModules)=false /\
  ∃ xs,KT H kvs xs/\h.DictOfH (tupleKind (p9 P w)) a xs:=ak9 ok (.inl e)
end
noncomputable def U8 (H:Hp) (a:Addr) (y:V) (r:Option V):Prop :=
 (∃ kvs k,Rd H a (.dK kvs)/\y=kV k/\r=K3 kvs k) \/ ∃ kvs k b,Rd H a (.dT kvs)/\y=.ref b/\H b=some (.tup (k.map kV))/\r=K3 kvs k
noncomputable def aK6 (H:Hp) (a:Addr) (y v:V) (H':Hp):Prop :=
 (∃ kvs k,H a=some (.dK kvs)/\y=kV k/\kvs.length < sizeLine/\H'=upd H a (.dK (putK kvs k v))) \/
 ∃ kvs k b,H a=some (.dT kvs)/\y=.ref b/\H b=some (.tup (k.map kV))/\kvs.length < sizeLine/\H'=upd H a (.dT (putK kvs k v))
theorem U8.k {H:Hp} {a:Addr} {kvs:List (Key × V)} {k:Key} (e:H a=some (.dK kvs)):U8 H a (kV k) (K3 kvs k):=.inl ⟨kvs,k,.inl e,rfl,rfl⟩
theorem aK6.k {H:Hp} {a:Addr} {kvs:List (Key × V)} {k:Key} {v:V} (e:H a=some (.dK kvs)) (hl:kvs.length < sizeLine):aK6 H a (kV k) v (upd H a (.dK (putK kvs k v))):=.inl ⟨kvs,k,e,rfl,hl,rfl⟩
section
variable {X:Cx} {pins:List (Addr × Obj)} {σ:St} {H:Hp} {s:Shared} {a:Addr} {y v:V} {u r:Value} {o:Option V} {A:Around} {E:Value->Shared->Prop}
theorem Inv.big (I:Inv X pins σ H s):sysModules < s.heap.objs.size:=by
 have h:mainGlobals < s.heap.objs.size:=(I.mod.glob.keeps I.bk).lt
 exact Nat.lt_trans (by decide) h
theorem aR8 {Q:Value->Shared->Prop} (hu:A.units + 1 < cLine) (I:Inv X pins σ H s) (g:U8 H a y (some v)) (ry:RelV y u) (h:∀ w' s',Inv X pins σ H s'->RelV v w'->Q w' s') :
  wpAny (model X.prog X.w) A (getItem (.ref a) u) Q E s:=by
 rcases g with ⟨kvs,k,e,ey,l⟩ | ⟨kvs,k,b,e,ey,eb,l⟩
 ·subst ey
  obtain ⟨z,hd,vs,rel,dd⟩:=ad6 I.hok e
  obtain ⟨w',hw,rw'⟩:=A8.some_of (v:=v) (o:=valueAt vs k) (by rw [l];exact rel.val k)
  exact wpAny_getItem_of (ad1 ry) dd.mapOf hw (h w' _ (I.tok _) rw')
 ·subst ey
  cases (show u=Value.ref b from ry)
  obtain ⟨z,hd,xs,rel,dd⟩:=ak9 I.hok e
  obtain ⟨w',hw,rw'⟩:=A8.some_of (v:=v) (o:=(atKey xs k).map (·.2)) (by rw [l];exact rel.val k)
  obtain ⟨p,hp,hp2⟩:=Option.map_eq_some_iff.mp hw
  refine wpAny_getItem_heap (tupleKind_room_in1 hu) (aa6 I.hok eb) dd hp ?_
  rw [hp2]
  exact h w' _ (I.tok _) rw'
theorem bO7 {Q:Value->Shared->Prop} (hu:A.units + 1 < cLine) (I:Inv X pins σ H s) (g:U8 H a y o) (ry:RelV y u) (h:∀ s',Inv X pins σ H s'->Q (.bool o.isSome) s') :
  wpAny (model X.prog X.w) A (compareOp .In u (.ref a)) Q E s:=by
 rcases g with ⟨kvs,k,e,ey,l⟩ | ⟨kvs,k,b,e,ey,eb,l⟩
 ·subst ey
  obtain ⟨z,hd,vs,rel,dd⟩:=ad6 I.hok e
  refine wpAny_in_of (ad1 ry) hd dd.mapOf ?_
  rw [<- (rel.val k).P4,<- l]
  exact h _ (I.tok _)
 ·subst ey
  cases (show u=Value.ref b from ry)
  obtain ⟨z,hd,xs,rel,dd⟩:=ak9 I.hok e
  refine wpAny_in_heap (tupleKind_room_in1 hu) (aa6 I.hok eb) hd dd ?_
  have q:=(rel.val k).P4
  rw [Option.isSome_map] at q
  rw [<- q,<- l]
  exact h _ (I.tok _)
theorem bg5 {Q:Value->Shared->Prop} (hu:A.units + 1 < cLine) (I:Inv X pins σ H s) (g:U8 H a y o) (ry:RelV y u) (h:∀ s',Inv X pins σ H s'->Q (.bool (!o.isSome)) s') :
  wpAny (model X.prog X.w) A (compareOp .NotIn u (.ref a)) Q E s:=by
 rcases g with ⟨kvs,k,e,ey,l⟩ | ⟨kvs,k,b,e,ey,eb,l⟩
 ·subst ey
  obtain ⟨z,hd,vs,rel,dd⟩:=ad6 I.hok e
  refine wpAny_notIn_of (ad1 ry) hd dd.mapOf ?_
  rw [<- (rel.val k).P4,<- l]
  exact h _ (I.tok _)
 ·subst ey
  cases (show u=Value.ref b from ry)
  obtain ⟨z,hd,xs,rel,dd⟩:=ak9 I.hok e
  refine wpAny_notIn_heap (tupleKind_room_in1 hu) (aa6 I.hok eb) hd dd ?_
  have q:=(rel.val k).P4
  rw [Option.isSome_map] at q
  rw [<- q,<- l]
  exact h _ (I.tok _)
theorem ao5 {h':Heap} {t':Nat} {ob:HO} (I:Inv X pins σ H s) (mu:Mut (H a)) (hs:Heap.SameBut a s.heap h') (he:∃ q,h'.get? a=some q) (new:l8 X.prog X.w (upd H a ob) h' a ob) :
  Inv X pins σ (upd H a ob) { s with heap:=h',toks:=t' } :=
 I.write (x:=a) (e:=a) mu (.inl rfl) (fun b q hb z=>(hs.2 b hb).trans z) he new
theorem aR6 {P:Program} {w:World} {H':Hp} {h':Heap} {kvs:List (Key × V)} {vs:List (Key × Value)} (z:kvs.length <= sizeLine) (hd:(a == sysModules)=false) (rel:KV kvs vs) (dd:h'.DictOf (p9 P w) a vs) :
  l8 P w H' h' a (.dK kvs):=⟨z,hd,vs,rel,dd⟩
theorem aR7 {H':Hp} {Q:Unit->Shared->Prop} (hu:A.units + 1 < cLine) (I:Inv X pins σ H s) (g:aK6 H a y v H') (ry:RelV y u) (rv:RelV v r) (h:∀ s',Inv X pins σ H' s'->Q () s') :
  wpAny (model X.prog X.w) A (setItem (.ref a) u r) Q E s:=by
 rcases g with ⟨kvs,k,e,ey,l,eH⟩ | ⟨kvs,k,b,e,ey,eb,l,eH⟩
 ·subst ey eH
  obtain ⟨z,hd,vs,rel,dd⟩:=a78 I.hok e
  have hz:vs.length <= sizeLine:=by rw [<- rel.length];exact z
  have hl:(putK kvs k v).length <= sizeLine:=by have:=U6 kvs k v;omega
  refine wpAny_setItem_pairs (hsz:=hz) (ad1 ry) dd fun h' dd' hs=>h _ ?_
  have he:∃ q,h'.get? a=some q:=let ⟨q,_,_,hq,_⟩:=dd';⟨q,hq⟩
  exact ao5 I (by rw [e];exact True.intro) hs he (aR6 hl hd (rel.put k rv) dd')
 ·subst ey eH
  cases (show u=Value.ref b from ry)
  obtain ⟨z,hd,xs,rel,dd⟩:=bB9 I.hok e
  have hz:xs.length <= sizeLine:=by rw [<- Paired.length rel];exact z
  have hl:(putK kvs k v).length <= sizeLine:=by have:=U6 kvs k v;omega
  refine wpAny_setItem_heap (hsz:=hz) (tupleKind_room_in1 hu) (aa6 I.hok eb) dd fun h' dd' hs=>h _ ?_
  obtain ⟨q,es,ep,hq,h2,h3,h4,_,h5⟩:=dd'
  refine ao5 I (by rw [e];exact True.intro) hs ⟨q,hq⟩ ⟨hl,hd,_,(rel.put k eb rv).keeps fun c ys ec=>?_,q,es,ep,hq,h2,h3,h4,h5⟩
  rw [j6 (bz8 ec e (fun z=>nomatch z))]
  exact ec
end
section
variable {X:Cx} {pins:List (Addr × Obj)} {σ:St} {H:Hp} {s:Shared} {a:Addr} {kvs:List (Key × V)} {k:Key} {u:Value} {A:Around} {E:Value->Shared->Prop}
theorem bC3 {Q:Value->Shared->Prop} (I:Inv X pins σ H s) (e:Rd H a (.dK kvs)) (h:∀ t s',Inv X pins σ H s'->Q (.int kvs.length t) s'):wpAny (model X.prog X.w) A (call (.builtin "len") [.ref a]) Q E s:=by
 obtain ⟨z,hd,vs,rel,dd⟩:=ad6 I.hok e
 refine call_len_dict hd dd (by rw [<- rel.length];rw [sizeLine_eq] at z;omega) ?_
 rw [<- rel.length]
 exact h _ _ (I.tok _)
end
theorem aB1 {X:Cx} {pins:List (Addr × Obj)} {σ:St} {H:Hp} {s:Shared} {a:Addr} {y:V} {o:Option V} (I:Inv X pins σ H s) (g:U8 H a y o):s.TypeIs (.ref a) "dict":=by
 rcases g with ⟨kvs,k,e,_,_⟩ | ⟨kvs,k,b,e,_,_,_⟩
 ·obtain ⟨_,_,vs,_,dd⟩:=ad6 I.hok e
  exact dd.typeIs
 ·obtain ⟨_,_,xs,_,dd⟩:=ak9 I.hok e
  exact dd.typeIs
section
variable {X:Cx} {o i e value:Expr} {pos pos' tpos:Pos} {td ty tv:TE}
end
theorem ay3 {P:Program} {w:World} {H:Hp} (h:Heap) (hb:sysModules < h.objs.size):l8 P w H (h.push { cls:=.type "dict",data:=.dict #[] }) h.objs.size (.dK []) :=
 ⟨Nat.zero_le _,beq_eq_false_iff_ne.mpr (Ne.symm (Nat.ne_of_lt hb)),[],.nil,Heap.DictOf.new h⟩
noncomputable def bj6:TE:=fun _ H Q=>∀ p,H p=none->Q (.ref p) (upd H p (.dK []))
section
variable {X:Cx} {pos:Pos}
theorem aX0:PE X (.Dict [] [] pos) bj6:=fun pins s σ H Q I h =>
 wpAny_Dict_empty ⟨.ref s.heap.objs.size,_,I.laid (a:=s.heap.objs.size) (o:=.dK []) (t':=s.toks) (fun _ _ q=>Heap.get?_push_of_some _ q) (Nat.le_refl _) (ay3 s.heap I.big),rfl,h _ (I.hok.fresh (Nat.le_refl _))⟩
end
noncomputable def ai8:List (TE × TE)->St->Hp->(List (V × V)->Hp->Prop)->Prop
 | [],_,H,Q=>Q [] H
 | (tk,tv) :: r,σ,H,Q=>tk σ H fun x H1=>tv σ H1 fun y H2=>ai8 r σ H2 fun ps H3=>Q ((x,y) :: ps) H3
noncomputable abbrev VV:List (V × V)->List (Value × Value)->Prop:=Paired fun p q=>RelV p.1 q.1/\RelV p.2 q.2
noncomputable def PPs (X:Cx) (pos:Pos) (keys:List (Option Expr)) (values:List Expr) (trs:List (TE × TE)):Prop :=
 ∀ (pins:List (Addr × Obj)) (s:Shared) (σ:St) (H:Hp) (Q:List (V × V)->Hp->Prop),Inv X pins σ H s->ai8 trs σ H Q ->
  wpAny (model X.prog X.w) X.A (evalPairs (pairTrees keys values X.env pos)) (fun vs s'=>∃ ps H',Inv X pins σ H' s'/\VV ps vs/\Q ps H') X.xe s
theorem bc9 {X:Cx} {pos:Pos}:PPs X pos [] [] []:=fun pins s σ H Q I h=>pairTrees_nil_walk ⟨[],H,I,.nil,h⟩
theorem aW2 {X:Cx} {pos:Pos} {k v:Expr} {ks:List (Option Expr)} {vs:List Expr} {tk tv:TE} {trs:List (TE × TE)} (hk:PE X k tk) (hv:PE X v tv) (hr:PPs X pos ks vs trs) :
  PPs X pos (some k :: ks) (v :: vs) ((tk,tv) :: trs):=fun pins s σ H Q I h =>
 pairTrees_cons_walk (thn (hk pins s σ H _ I h) fun u s1 ⟨x,H1,I1,rx,q1⟩=>thn (hv pins s1 σ H1 _ I1 q1) fun w2 s2 ⟨y,H2,I2,ry,q2⟩ =>
  thn (hr pins s2 σ H2 _ I2 q2) fun ws s3 ⟨ps,H3,I3,rel,q3⟩=>⟨(x,y) :: ps,H3,I3,.cons ⟨rx,ry⟩ rel,q3⟩)
noncomputable def S7 (kvs more:List (Key × V)):List (Key × V):=more.foldl (fun acc kv=>putK acc kv.1 kv.2) kvs
theorem KV.merge:∀ {more:List (Key × V)} {rs:List (Key × Value)} {kvs:List (Key × V)} {vs:List (Key × Value)},KV more rs->KV kvs vs->KV (S7 kvs more) (merged vs rs):=by
 intro more rs kvs vs r
 unfold KV at r
 induction r generalizing kvs vs with
 | nil=>intro q;exact q
 | @cons p q ps qs h t ih =>
  intro r0
  have e:KV (putK kvs p.1 p.2) (stored vs q.1 q.2):=by
   have:=r0.put p.1 h.2
   rw [<- h.1];exact this
  exact ih e
theorem Z3:∀ (more kvs:List (Key × V)),(S7 kvs more).length <= kvs.length + more.length
 | [],kvs=>by show kvs.length <= kvs.length + 0;omega
 | p :: r,kvs=>by
  have h1:=Z3 r (putK kvs p.1 p.2)
  have h2:=U6 kvs p.1 p.2
  show (S7 (putK kvs p.1 p.2) r).length <= _
  rw [List.length_cons];omega
theorem al7 {P:Program} {w:World}:∀ {kvs:List (Key × V)} {ws:List (Value × Value)},VV (kvs.map fun kv=>(kV kv.1,kv.2)) ws->∃ rs,Carries (p9 P w) ws rs/\KV kvs rs
 | [],_,r=>by rw [List.map_nil] at r;cases r;exact ⟨[],True.intro,.nil⟩
 | p :: kvs,_,r=>by
  rw [List.map_cons] at r
  cases r with
  | @cons a b as bs h t =>
   obtain ⟨rs,c,q⟩:=al7 (P:=P) (w:=w) t
   obtain ⟨b1,b2⟩:=b
   exact ⟨(p.1,b2) :: rs,⟨ad1 h.1,rfl,c⟩,.cons ⟨rfl,h.2⟩ q⟩
noncomputable def bv8 (trs:List (TE × TE)):TE:=fun σ H Q=>∀ p,H p=none->ai8 trs σ (upd H p (.dK [])) fun ps H2=>H2 p=some (.dK [])/\∃ kvs:List (Key × V),ps=kvs.map (fun kv=>(kV kv.1,kv.2))/\kvs.length <= 15/\Q (.ref p) (upd H2 p (.dK (S7 [] kvs)))
theorem bd4 {X:Cx} {pos:Pos} {keys:List (Option Expr)} {values:List Expr} {trs:List (TE × TE)} (h:PPs X pos keys values trs) (hall:keys.all (·.isSome)=true) (hl:keys.length=values.length) (h0:keys ≠ [])
  (h15:keys.length <= 15):PE X (.Dict keys values pos) (bv8 trs):=by
 intro pins s σ H Q I q
 have hn:=I.hok.fresh (Nat.le_refl s.heap.objs.size)
 have I1:=I.laid (a:=s.heap.objs.size) (o:=.dK []) (h':=s.heap.push { cls:=.type "dict",data:=.dict #[] }) (t':=s.toks) (fun _ _ q=>Heap.get?_push_of_some _ q) (Nat.le_refl _) (ay3 s.heap I.big)
 refine wpAny_Dict_walk (knd:=p9 X.prog X.w) hall hl h0 h15 (thn (h pins _ σ _ _ I1 (q _ hn)) fun ws s2 ⟨ps,H2,I2,rel,e,kvs,ep,lk,q2⟩=>?_)
 subst ep
 obtain ⟨rs,c,rk⟩:=al7 (P:=X.prog) (w:=X.w) rel
 obtain ⟨z,hd,vs0,r0,dd⟩:=a78 I2.hok e
 cases r0
 refine ⟨rs,c,dd,fun h' dd' hs=>⟨.ref s.heap.objs.size,_,?_,rfl,q2⟩⟩
 have hz:(S7 [] kvs).length <= sizeLine:=by
  have h1:=Z3 kvs []
  rw [List.length_nil] at h1
  rw [sizeLine_eq];omega
 have he:∃ q,h'.get? s.heap.objs.size=some q:=let ⟨q,_,_,hq,_⟩:=dd';⟨q,hq⟩
 exact ao5 I2 (by rw [e];exact True.intro) hs he (aR6 hz hd (rk.merge .nil) dd')
section
variable {X:Cx} {pins:List (Addr × Obj)} {σ:St} {H:Hp} {s:Shared} {a:Addr} {y d:V} {u r:Value} {o:Option V} {A:Around} {E:Value->Shared->Prop}
end
section
variable {X:Cx} {o e f:Expr} {apos cpos:Pos} {td ty tx:TE}
end
section
variable {X:Cx} {pins:List (Addr × Obj)} {σ:St} {H:Hp} {s:Shared} {a:Addr} {kvs:List (Key × V)} {A:Around} {E:Value->Shared->Prop}
end
section
variable {X:Cx} {pins:List (Addr × Obj)} {σ:St} {H:Hp} {s:Shared} {a:Addr} {y:V} {u:Value} {A:Around} {E:Value->Shared->Prop}
end
end L2

namespace Att
open PySem PySem.W PySem.Calls PyProof.Rows
theorem ak5 {P:Params} {h:Heap}:∀ (ns:List Int) (vs:List Value),WellAll P h vs (ns.map WData.int)->IntsAre vs ns:=by
 intro ns
 induction ns with
 | nil =>
  intro vs w
  rw [List.map_nil] at w
  cases w
  exact .nil
 | cons n ns ih =>
  intro vs w
  rw [List.map_cons] at w
  cases w with
  | cons a b =>
   cases a
   exact .cons _ _ (ih _ b)
theorem aM6 {l:OpenLaw} {n:Nat} (hn:l.most=some n) {P:Params} {h:Heap} {args:List WData} {vals:List Value}
  (hpre:l.row.toRowW.claim.pre args=true) (hwl:WellAll P h vals args) :
  ∃ a vs ns,vals=[Value.ref a]/\args=[WData.list (ns.map WData.int)]/\h.get? a=some { cls:=.type "list",data:=.seq vs.toArray }/\IntsAre vs ns/\ns.length <= n:=by
 have hsh:WShape.hasAll [] args [.list .int]=true:=(pre_splitW hpre).1
 have hc:l.pre.holds [] { args:=args }=true:=(pre_splitW hpre).2
 obtain ⟨d,r,rfl,h1,h2⟩:=hasAllW_cons hsh
 obtain rfl:=hasAllW_nil h2
 obtain ⟨xs,rfl,h3⟩:=hasW_list h1
 obtain ⟨ns,rfl⟩:=items_int h3
 have hlen:ns.length <= n:=by
  unfold OpenLaw.pre at hc
  have h4:(WTm.not (.lt (.lit (.int (n:Int))) (.len (.arg 0)))).holds [] { args:=[.list (ns.map .int)] }=true:=by
   have h4:=(holds_andW hc).1
   rw [hn] at h4
   exact h4
  have h5:=condW_of h4 (w_not (w_lt w_lit (w_len_list (w_arg rfl))))
  rw [List.length_map] at h5
  refine Nat.le_of_not_lt fun q=>?_
  have q':(n:Int) < ((ns.length:Nat):Int):=by omega
  first
   | (rw [decide_eq_true q'] at h5;exact absurd h5 (by decide))
   | (simp at h5;omega)
 cases hwl with
 | cons w1 w2 =>
  cases w2
  cases w1 with
  | list ho hall=>exact ⟨_,_,ns,rfl,rfl,ho,ak5 ns _ hall,hlen⟩
theorem aN3 (l:OpenLaw) (args:List WData):l.row.toRowW.claim.post args (.bool true) args=true :=
 postW_of (r:=l.row.toRowW) (X:=(true == true))
  (show WShape.has [] (.bool true) .bool=true by first | rfl | decide | simp [WShape.has,WShape.arms,WShape.armsAll])
  (show (WTm.eq .res (.lit (.bool true))).value [] { args:=args,res:=some (.bool true),after:=args }=some (.bool (true == true)) from w_eq_bool (w_res rfl) w_lit) rfl
theorem aB4 {l:OpenLaw} {n:Nat} {q:Program} {loose:List Str} {XP:(Str->Option Value)->Heap->Prop} {YP:World->Heap->Prop} {d:DefRec}
  (hn:l.most=some n) (hdf:d.params.defaults=[])
  (call:∀ (w:World) (s₀ s₁:Shared) (mg mb:Str->Option Value) (fa:Addr) (o:Obj) (pm cd doc:Value) (a:Addr) (vs:List Value) (ns:List Int),
   Ground q loose [] XP w s₀ mg mb s₁.heap->YP w s₁.heap ->
   s₁.heap.get? fa=some o->o.data=.func (docDef d.name d.params d.body d.scope pm cd doc)->s₁.heap.CodeRec cd d.name->mg d.name=some (.ref fa) ->
   s₁.heap.get? a=some { cls:=.type "list",data:=.seq vs.toArray }->IntsAre vs ns->ns.length <= n->s₁.gens=#[] ->
   codeAny (model l.prog w) callerA (.call (.ref fa) ⟨[.ref a],[]⟩) (fun r s'=>r=.ok (.ret (.bool true))/\OldK s₁.heap s'.heap/\s'.os=s₁.os/\AllBare s'.gens) s₁) :
  WalkO q loose XP YP l.row.toRowW d [] (fun f vs=>PySem.call f vs):=by
 intro w s₀ s₁ mg mb G Y fa o pm cd doc dV kV ho hd hcd hD hmg hg args vals as hpre hlay hrd hwl hlo
 obtain rfl:dV=.none:=Dflts.none hD hdf
 obtain rfl:kV=.none:=Dflts.noKw hD
 obtain ⟨a,vs,ns,rfl,rfl,hobj,hints,hlen⟩:=aM6 hn hpre hwl
 refine enter_call (codeAny_mono (call w s₀ s₁ mg mb fa o pm cd doc a vs ns G Y ho (fd_plain hd) hcd hmg hobj hints hlen hg) fun r s' hq=>?_)
 obtain ⟨rfl,h2,h3,h4⟩:=hq
 exact ⟨.inl ⟨.bool true,.bool true,[],rfl,fun _=>rfl,.bool true,aN3 l _,fun _=>⟨List.Pairwise.nil,fun _ hm=>(nomatch hm)⟩⟩,h2,h3,h4⟩
section
variable {prog:Program} {w:World} {A:Around} {E:Value->Shared->Prop} {s:Shared} {K:Frag}
end
end Att
namespace L2
open PySem PySem.Spec PyProof.Rows
theorem ap5:∀ {vs:List Value} {ns:List Int},IntsAre vs ns->Vals (ns.map V.int) vs
 | _,_,.nil=>.nil
 | _,_,.cons n t h=>.cons ⟨t,rfl⟩ (ap5 h)
noncomputable def aK3 (H:Hp):Prop:=∀ b,H b=none \/ ∃ o xs,H b=some (.frz o (.lst xs))
theorem aZ0 {P:Program} {w:World} {K:PySem.W.Frag} {mg mb:Str->Option Value} {CX:CXT} {k:Nat} {fa a:Addr} {fd:FuncData} {x:Str} {sp:Sp} {s₁:Shared} {vs:List Value} {ns:List Int}
  (KX:K.In s₁.heap) (hns:s₁.heap.Ns mainGlobals mg) (hb:s₁.heap.Ns builtinsNs mb) (hbb:∀ x:Str,x ≠ "__name__"->mb x=bootBuiltins x) (hlim:s₁.heap.NoLimit) (hg:s₁.gens=#[])
  (ha:s₁.heap.get? a=some { cls:=.type "list",data:=.seq vs.toArray }) (hi:IntsAre vs ns) (hl:ns.length <= sizeLine) (hr:p8 k callerA)
  (F:∀ base:Heap,K.In base->base.Ns mainGlobals mg->FnOk P w K mg base CX k fa fd [x] sp) (hbind:∀ (s:Shared) (u:Value),BindsTo s fd ⟨[u],[]⟩ [(x,u)])
  (hsp:∀ H:Hp,aK3 H->SqL K H a (ns.map V.int)->sp [.ref a] H (fun v _=>v=.bl true) fun _ _ _=>False)
  (hCX:∀ H e s',CX [] H s₁ (fun _ _ _=>False) e s'->False) :
  codeAny (model P w) callerA (.call (.ref fa) ⟨[.ref a],[]⟩) (fun r s'=>r=.ok (.ret (.bool true))/\OldK s₁.heap s'.heap/\s'.os=s₁.os/\AllBare s'.gens) s₁:=by
 have rv:=ap5 hi
 have lenV:=hi.length
 have core:∀ H:Hp,aK3 H->SqL K H a (ns.map V.int)->HOk P w H s₁.heap->(∀ b,H b ≠ none->b=a)->(H a ≠ none->K.lookup a=none) ->
   codeAny (model P w) callerA (.call (.ref fa) ⟨[.ref a],[]⟩) (fun r s'=>r=.ok (.ret (.bool true))/\OldK s₁.heap s'.heap/\s'.os=s₁.os/\AllBare s'.gens) s₁:=by
  intro H hO hS hok hA hK
  have G5:∀ {b:Addr} {o:Obj},s₁.heap.get? b=some o->H b=none->(Y2 s₁.heap H).get? b=some o:=fun e n=>aZ5 e n
  have noA:∀ {b:Addr} {o:Obj} {es:Array DictEntry} {ep:Nat},s₁.heap.get? b=some o->o.data=.dict es ep->H b=none:=fun {b o es ep} e d=>by
   cases q:H b with
   | none=>rfl
   | some u =>
    have e':b=a:=hA b (by rw [q];simp)
    subst e'
    rw [ha] at e;cases e
    have d':Data.seq vs.toArray _=Data.dict es ep:=d
    cases d'
  have nsK:∀ {b:Addr} {m:Str->Option Value},s₁.heap.Ns b m->(Y2 s₁.heap H).Ns b m:=fun {b m} ⟨o,es,ep,e,d,r⟩=>⟨o,es,ep,G5 e (noA e d),d,r⟩
  have hKb:K.In (Y2 s₁.heap H):=fun b o e=>G5 (KX b o e) (by
   cases q:H b with
   | none=>rfl
   | some u =>
    have e':b=a:=hA b (by rw [q];simp)
    subst e'
    rw [hK (by rw [q];simp)] at e;cases e)
  have hM:Mod K mg (Y2 s₁.heap H):=⟨hKb,nsK hns,⟨mb,nsK hb,hbb⟩,let ⟨mc,h1,h2⟩:=hlim;⟨mc,nsK h1,h2⟩⟩
  have e0:ai3 P w K mg (Y2 s₁.heap H) callerA [] s₁ H:=⟨rfl,hM,fun b o e=>be6 e,Nat.le_of_eq (aQ7 _ _),trivial,fun b hb=>absurd (show b ∈ ([]:List Addr) from hb) (by simp),hok,.of_eq hg⟩
  refine codeAny_mono ((F _ hKb (nsK hns)).run callerA [] s₁ H ⟨[.ref a],[]⟩ [.ref a] [.ref a] _ _ hr e0 (hbind s₁ (.ref a)) (.cons rfl .nil) (hsp H hO hS)) fun r s' h=>?_
  cases r with
  | error e=>exact (hCX H e s' h).elim
  | ok fl =>
   cases fl with
   | next=>exact False.elim h
   | brk=>exact False.elim h
   | cont=>exact False.elim h
   | ret u =>
    obtain ⟨v,H',os,bare,un,hok',r',q⟩:=h
    have q':v=.bl true:=q
    subst q'
    obtain rfl:u=Value.bool true:=r'
    refine ⟨rfl,OldK.of_keep fun b o e=>?_,os,bare⟩
    cases q:H b with
    | none=>exact un.keep b o e q (by intro z;exact absurd (show b ∈ ([]:List Addr) from z) (by simp)) (by simp)
    | some u =>
     rcases hO b with z | ⟨ob,xs,z⟩
     ·rw [q] at z;cases z
     ·have z2:=un.frzs b ob _ z
      obtain ⟨e1,_⟩:=hok b _ z
      obtain ⟨e2,_⟩:=hok' b _ z2
      rw [e] at e1;cases e1
      exact e2
 cases hk:K.lookup a with
 | some o =>
  have e:=KX a o hk
  rw [ha] at e
  cases e
  refine core (fun _=>none) (fun _=>.inl rfl) (.inr ⟨_,vs.toArray,_,hk,rfl,rfl,rfl,by rw [List.size_toArray,lenV];exact hl,by simpa using rv⟩) (fun b u z=>by have z':(none:Option HO)=some u:=z;cases z') (fun b z=>absurd rfl z) fun z=>absurd rfl z
 | none =>
  refine core (fun b=>if b=a then some (.frz { cls:=.type "list",data:=.seq vs.toArray } (.lst (ns.map V.int))) else none) (fun b=>?_) (.inl (.inr ⟨{ cls:=.type "list",data:=.seq vs.toArray },if_pos rfl⟩)) (fun b u z=>?_) (fun b z=>?_) fun _=>hk
  ·by_cases hb:b=a
   ·exact .inr ⟨_,_,if_pos hb⟩
   ·exact .inl (if_neg hb)
  ·by_cases hb:b=a
   ·have z':=(if_pos hb).symm.trans z
    cases z'
    subst hb
    exact ⟨ha,by rw [List.length_map];exact hl,vs,_,rv,ha⟩
   ·have z':=(if_neg hb).symm.trans z
    cases z'
  ·by_cases hb:b=a
   ·exact hb
   ·exact absurd (if_neg hb) z
end L2
namespace L2
open PySem PySem.Spec PyProof.Rows
theorem a91 {l:PySem.W.OpenLaw} {n k:Nat} {q:Program} {loose:List Str} {XP:(Str->Option Value)->Heap->Prop} {YP:World->Heap->Prop} {d:DefRec} {K:Params->PySem.W.Frag} {CX:World->CXT} {sp:World->Sp} {x:Str}
  (hn:l.most=some n) (hn2:n <= sizeLine) (hdf:d.params.defaults=[]) (hr:p8 k callerA)
  (hY:∀ (w:World) (h:Heap),YP w h->(K w.params).In h)
  (F:∀ (w:World) (mg:Str->Option Value) (fa:Addr) (h:Heap),(K w.params).In h->h.Ns mainGlobals mg->mg d.name=some (.ref fa) ->
   ∃ fd:FuncData,(∀ (s:Shared) (u:Value),BindsTo s fd ⟨[u],[]⟩ [(x,u)]) /\
    ∀ base:Heap,(K w.params).In base->base.Ns mainGlobals mg->FnOk l.prog w (K w.params) mg base (CX w) k fa fd [x] (sp w))
  (hsp:∀ (w:World) (H:Hp) (a:Addr) (ns:List Int),ns.length <= n->aK3 H->SqL (K w.params) H a (ns.map V.int)->sp w [.ref a] H (fun v _=>v=.bl true) fun _ _ _=>False)
  (hCX:∀ (w:World) (H:Hp) (s:Shared) (e:Value) (s':Shared),CX w [] H s (fun _ _ _=>False) e s'->False) :
  PySem.W.WalkO q loose XP YP l.row.toRowW d [] (fun f vs=>PySem.call f vs):=by
 refine Att.aB4 hn hdf fun w s₀ s₁ mg mb fa o pm cd doc a vs ns G Y ho hd hcd hmg hobj hints hlen hg=>?_
 have KX:=hY w _ Y
 obtain ⟨fd,hb,hF⟩:=F w mg fa _ KX G.T.g hmg
 exact aZ0 KX G.T.g G.T.b G.T.builtins G.T.nolimit hg hobj hints (Nat.le_trans hlen hn2) hr hF hb (fun H hO hS=>hsp w H a ns hlen hO hS) fun H e s'=>hCX w H s₁ e s'
end L2
namespace L2
open PySem PySem.Spec PyProof.Rows
noncomputable def V9 (s:Stmt):Arguments:=match s with
 | .FunctionDef _ a _ _ _ _ _ _ _ _=>a
 | _=>{ posonlyargs:=[],args:=[],vararg:=none,kwonlyargs:=[],kw_defaults:=[],kwarg:=none,defaults:=[] }
noncomputable def c8 (s:Stmt):List Stmt:=match s with
 | .FunctionDef _ _ b _ _ _ _ _ _ _=>b
 | _=>[]
noncomputable def b0 (s:Stmt):Scope:=match s with
 | .FunctionDef _ _ _ _ _ _ sc _ _ _=>sc
 | _=>{ kind:=.function,names:=[],isGenerator:=false,isCoroutine:=false }
structure Fun (K:PySem.W.Frag) (x qual:Str) (st:Stmt) (f:Addr) (fd:FuncData):Prop where
 ex:∃ (oc:Value) (od:Option Addr) (kV doc pm:Value) (an:Option Addr) (cdv ct:Value) (osl:Array (Option Value)),
  fd=PySem.W.fnOf x qual (V9 st) (c8 st) (b0 st) .none kV doc pm an cdv ct/\K.lookup f=some ⟨oc,od,.func fd,osl⟩/\PySem.W.codeIn K cdv qual=true
 kp:PySem.W.keepIn K (.ref f)=true
section
variable {P:Program} {w:World} {K:PySem.W.Frag} {mg:Str->Option Value} {base:Heap}
theorem Fun.binds {x qual:Str} {st:Stmt} {f:Addr} {fd:FuncData} {ps:List Str} (F:Fun K x qual st f fd)
  (h:∀ (kV doc pm:Value) (an:Option Addr) (cdv ct:Value) (us:List Value),us.length=ps.length->bindArgs (PySem.W.fnOf x qual (V9 st) (c8 st) (b0 st) .none kV doc pm an cdv ct) ⟨us,[]⟩=pure (ps.zip us)):Binds K fd ps []:=by
 obtain ⟨oc,od,kV,doc,pm,an,cdv,ct,osl,rfl,lk,hcd⟩:=F.ex
 exact .all (h kV doc pm an cdv ct)
theorem f9 {x qual:Str} {st:Stmt} {f:Addr} {oc:Value} {od an:Option Addr} {osl:Array (Option Value)} {kV doc pm cdv ct:Value} (l:K.lookup f=some ⟨oc,od,.func (PySem.W.fnOf x qual (V9 st) (c8 st) (b0 st) .none kV doc pm an cdv ct),osl⟩)
  (c:PySem.W.codeIn K cdv qual=true) (k:PySem.W.keepIn K (.ref f)=true):Fun K x qual st f (PySem.W.fnOf x qual (V9 st) (c8 st) (b0 st) .none kV doc pm an cdv ct):=⟨⟨oc,od,kV,doc,pm,an,cdv,ct,osl,rfl,l,c⟩,k⟩
end
section
variable {X:Cx}
theorem aS2:t6 X (.builtin "len") (fun xs H Q=>∃ a kvs,xs=[V.ref a]/\H a=some (.dK kvs)/\Q (.int kvs.length) H):=by
 intro pins s σ H xs us Q I r h
 obtain ⟨a,kvs,rfl,ha,q⟩:=h
 obtain ⟨u,rfl,ru⟩:=vals1 r
 cases ru
 exact bC3 I (.inl ha) fun t s' I'=>⟨.int kvs.length,H,I',⟨t,rfl⟩,q⟩
end
section
variable {κ:Type} [DecidableEq κ]
end
end L2

namespace L2
open PySem PySem.Spec PyProof.Rows
section
variable {prog:Program} {w:World} {A:Around} {R:Result->Shared->Prop} {s:Shared}
theorem ay6 {elt target iter:Expr} {ifs:List Expr} {scope:Scope} {pos:Pos} {it acc:Value} {env:Env} (I:Nat->Shared->Prop)
  (turn:∀ n s,I n s->wpAny (model prog w) A (pyNext it) (fun r s₁=>match r with
   | none=>R (.ok .next) s₁
   | some v=>wpAny (model prog w) A (letOwnedTupleGo target it v) (fun _ s₁=>wpAny (model prog w) A (assign target env v) (fun _ s₂ =>
     wpAny (model prog w) A (forIn ifs true fun c r=>if r=true then do let ok <- isTrue c env (eval c env);pure (ForInStep.yield ok) else pure (ForInStep.yield r)) (fun ok s₃ =>
      if ok=true then wpAny (model prog w) A (eval elt env) (fun x s₄ =>
       wpAny (model prog w) A (call (.builtin "list.append") [acc,x]) (fun _ s₅=>∃ m,m < n/\I m s₅) (fun _ _=>False) s₄) (fun _ _=>False) s₃
      else ∃ m,m < n/\I m s₃) (fun _ _=>False) s₂) (fun _ _=>False) s₁) (fun _ _=>False) s₁) (fun _ _=>False) s)
  (n:Nat) (h:I n s) :
  codeAny (model prog w) A (.compLoop (.ListComp elt [⟨target,iter,ifs,0⟩] scope pos) 0 it acc env) R s:=by
 refine codeAny_loop rfl I (fun n s hI=>?_) n h
 show wpAny _ A ((compTurn (.ListComp elt [⟨target,iter,ifs,0⟩] scope pos) 0 it acc env).onRaise (fun x=>do noteFrame x env;theTreesLotGoes x)) _ _ s
 refine wpAny_noted ?_
 rw [compTurn_list]
 refine wpAny_bind (wpAny_standAt (wpAny_bind (wpAny_mono (turn n s hI) (fun r s₁ h₁=>?_) fun _ _ h'=>h'.elim)))
 cases r with
 | none=>exact wpAny_pure h₁
 | some v =>
  refine wpAny_bind (wpAny_mono h₁ (fun _ s₁ h₁=>?_) fun _ _ h'=>h'.elim)
  refine wpAny_bind (wpAny_mono h₁ (fun _ s₂ h₂=>wpAny_bind (wpAny_mono h₂ (fun ok s₃ h₃=>?_) fun _ _ h'=>h'.elim)) fun _ _ h'=>h'.elim)
  cases ok with
  | false=>exact wpAny_pure ⟨rfl,h₃⟩
  | true =>
   exact wpAny_bind (wpAny_bind (wpAny_mono h₃ (fun x s₄ h₄=>wpAny_bind (wpAny_mono h₄ (fun _ s₅ h₅=>wpAny_pure (wpAny_pure ⟨rfl,h₅⟩)) fun _ _ h'=>h'.elim)) fun _ _ h'=>h'.elim))
end
noncomputable def PTs (X:Cx) (es:List Expr) (t:TT):Prop :=
 ∀ (pins:List (Addr × Obj)) (s:Shared) (σ:St) (H:Hp) (Q:Bool->Hp->Prop),Inv X pins σ H s->t σ H Q ->
  wpAny (model X.prog X.w) X.A (forIn es true fun c r=>if r=true then do let ok <- isTrue c X.env (eval c X.env);pure (ForInStep.yield ok) else pure (ForInStep.yield r)) (TP X pins σ Q) X.xe s
noncomputable def bF9:TT:=fun _ H Q=>Q true H
section
variable {X:Cx}
theorem bc3:PTs X [] bF9:=fun pins s σ H Q I h=>wpAny_pure ⟨H,I,h⟩
theorem bc2 {c:Expr} {t:TT} (h:PT X c t):PTs X [c] t:=by
 intro pins s σ H Q I q
 simp only [List.forIn_cons,List.forIn_nil,if_true]
 exact wpAny_bind (wpAny_bind (wpAny_mono (h pins s σ H Q I q) (fun b s' hb=>wpAny_pure (wpAny_pure hb)) fun _ _ x=>x))
end
noncomputable def j7 (X:Cx) (pins:List (Addr × Obj)) (scope:Scope) (N':List Str) (cl:List (Str × Addr)) (C:Addr) (s:Shared) (H:Hp) (fp:List Addr):Cx where
 prog:=X.prog
 w:=X.w
 K:=X.K
 mg:=X.mg
 base:=X.base
 A:=X.A
 N:=N'
 s₀:=s
 H₀:=H
 env:=compEnvC scope cl C X.env
 outer:=X.stack
 stack:=X.stack
 ex:=fp
 calm:=true
 fn:=fun _=>false
 pn:=X.pn ++ pins
 xe:=fun _ _=>False
structure CompScope (X:Cx) (scope:Scope) (N':List Str) (i6:List Nat) (cl:List (Str × Addr)):Prop where
 kind:scope.kind=.function
 nocell:∀ y ∈ scope.names,y.2 ≠ .cell
 names:∀ y ∈ scope.names,y.2=.local->scope.names.lookup y.1=some .local
 clos:closureFor scope X.env=pure cl
 cin:∀ x c,cl.lookup x=some c->X.env.cells.lookup x=some c
 chas:∀ x,scope.names.lookup x=some .free->∃ c,cl.lookup x=some c
 nd:N'.Nodup
 cap:∀ (i j:Nat),i6[i]?=some j->∃ x,N'[i]?=some x/\X.N[j]?=some x/\scope.names.lookup x=some .free/\(X.env.kindOf x=some .cell \/ X.env.kindOf x=some .free)
 clen:i6.length <= N'.length
theorem B4 {env:Env}:∀ {names:List (Str × NameKind)} {x:Str},names.lookup x=some .free ->
  (names.map fun (n,k)=>if (k == NameKind.free && env.scope.kind == .function && env.kindOf n == some .cell) then (n,NameKind.cell) else (n,k)).lookup x=some .cell \/
  (names.map fun (n,k)=>if (k == NameKind.free && env.scope.kind == .function && env.kindOf n == some .cell) then (n,NameKind.cell) else (n,k)).lookup x=some .free
 | [],_,h=>by simp at h
 | (n,k) :: r,x,h=>by
  have ih:=@B4 env r x
  show List.lookup x ((if (k == NameKind.free && env.scope.kind == .function && env.kindOf n == some .cell)=true then (n,NameKind.cell) else (n,k)) :: _)=_ \/ List.lookup x ((if (k == NameKind.free && env.scope.kind == .function && env.kindOf n == some .cell)=true then (n,NameKind.cell) else (n,k)) :: _)=_
  cases hx:x == n with
  | true =>
   simp only [List.lookup_cons,hx] at h
   cases h
   by_cases hc:(NameKind.free == NameKind.free && env.scope.kind == .function && env.kindOf n == some .cell)=true
   ·rw [if_pos hc];simp [List.lookup_cons,hx]
   ·rw [if_neg hc];simp [List.lookup_cons,hx]
  | false =>
   simp only [List.lookup_cons,hx] at h
   by_cases hc:(k == NameKind.free && env.scope.kind == .function && env.kindOf n == some .cell)=true
   ·rw [if_pos hc];simp only [List.lookup_cons,hx];exact ih h
   ·rw [if_neg hc];simp only [List.lookup_cons,hx];exact ih h
theorem K2 {env:Env}:∀ {names:List (Str × NameKind)} {x:Str},((names.map fun (n,k)=>if (k == NameKind.free && env.scope.kind == .function && env.kindOf n == some .cell) then (n,NameKind.cell) else (n,k)).lookup x=some .cell \/
  (names.map fun (n,k)=>if (k == NameKind.free && env.scope.kind == .function && env.kindOf n == some .cell) then (n,NameKind.cell) else (n,k)).lookup x=some .free)->names.lookup x=some .free \/ names.lookup x=some .cell
 | [],_,h=>by simp at h
 | (n,k) :: r,x,h=>by
  have ih:=@K2 env r x
  rw [List.map_cons] at h
  cases hx:x == n with
  | true =>
   simp only [List.lookup_cons,hx]
   by_cases hc:(k == NameKind.free && env.scope.kind == .function && env.kindOf n == some .cell)=true
   ·left
    simp only [Bool.and_eq_true,beq_iff_eq] at hc
    rw [hc.1.1]
   ·simp only [if_neg hc,List.lookup_cons,hx] at h
    rcases h with h | h
    ·exact .inr h
    ·exact .inl h
  | false =>
   simp only [List.lookup_cons,hx]
   by_cases hc:(k == NameKind.free && env.scope.kind == .function && env.kindOf n == some .cell)=true
   ·simp only [if_pos hc,List.lookup_cons,hx] at h
    exact ih h
   ·simp only [if_neg hc,List.lookup_cons,hx] at h
    exact ih h
noncomputable def E7 (σ:St) (i6:List Nat) (n:Nat):St:=i6.map (fun j=>(σ[j]?).join) ++ List.replicate (n - i6.length) none
section
variable {X:Cx} {pins:List (Addr × Obj)} {σ:St} {H:Hp} {s:Shared}
theorem Inv.aJ2 {scope:Scope} {N':List Str} {i6:List Nat} {cl:List (Str × Addr)} {C:Addr} {h1:Heap} {fp:List Addr} {tk:Nat}
  (I:Inv X pins σ H s) (S:CompScope X scope N' i6 cl) (hc:X.calm=true) (hf:∀ b ∈ fp,K1 X pins H b) (ho:∀ b ∈ fp,∃ o,s.heap.get? b=some o)
  (hC:s.heap.objs.size <= C) (hn:∃ m,h1.Ns C m) (k:∀ b o,s.heap.get? b=some o->h1.get? b=some o) :
  Inv (j7 X pins scope N' cl C s H fp) [] (E7 σ i6 N'.length) H { s with heap:=h1,toks:=tk }:=by
 obtain ⟨m,hm⟩:=hn
 have hkf:(relabel scope X.env).kind=.function:=S.kind
 have noC:∀ b o,s.heap.get? b=some o->b ≠ C:=fun b o e z=>absurd (Heap.lt_size e) (by rw [z];exact Nat.not_lt.mpr hC)
 refine ⟨⟨I.mod,hkf,I.ok.glob,I.ok.blt,hC,?_,?_,?_,fun _=>I.ok.hd hc,I.ok.frames,.inl rfl,?_,I.bs,?_,?_,?_,I.stack,I.ab9⟩,rfl,I.bare,Un.kept k,⟨m,hm,?_⟩,?_,?_,?_,?_,I.hok.kept k,?_⟩
 ·exact fun x y c h1 h2=>I.ok.inj x y c (S.cin x c h1) (S.cin y c h2)
 ·intro x hx
  rcases K2 (env:=X.env) (names:=scope.names) hx with z | z
  ·exact S.chas x z
  ·exact absurd rfl (S.nocell _ (PySem.mem_of_lookup z))
 ·intro x c h
  cases h
 ·intro b hb
  obtain ⟨f0,f1,f2,f3,f4,f5⟩:=hf b hb
  obtain ⟨o,e⟩:=ho b hb
  exact ⟨noC b o e,fun x c h=>f4 x c (S.cin x c h)⟩
 ·exact Nat.le_trans I.ok.bsz I.sz
 ·intro b o e hb
  obtain ⟨f0,f1,f2,f3,f4,f5⟩:=hf b hb
  rcases f3 with f3 | f3
  ·exact I.ok.noex b o e f3
  ·exact absurd (Heap.lt_size (I.ok.bs b o e).1) (Nat.not_lt.mpr f3)
 ·intro b hb z
  obtain ⟨f0,f1,f2,f3,f4,f5⟩:=hf b hb
  rcases List.mem_cons.mp (I.S3 b z) with z | z
  ·exact f1 z
  ·exact f2 z
 ·intro i x v h1' h2 h3
  have hi:i < i6.length:=by
   unfold E7 at h2
   by_cases hi:i < i6.length
   ·exact hi
   ·rw [List.getElem?_append_right (by simpa using hi),List.getElem?_replicate] at h2
    split at h2 <;> cases h2
  obtain ⟨j,hj⟩:∃ j,i6[i]?=some j:=⟨_,List.getElem?_eq_getElem hi⟩
  have hs:σ[j]?=some (some v):=by
   unfold E7 at h2
   rw [List.getElem?_append_left (by simpa using hi),List.getElem?_map,hj] at h2
   simp only [Option.map_some] at h2
   cases e:σ[j]? with
   | none=>rw [e] at h2;cases h2
   | some a=>rw [e] at h2;exact congrArg some (Option.some.inj h2)
  obtain ⟨y,hy1,hy2,hy3,hy4⟩:=S.cap i j hj
  have ey:y=x:=by
   have h1'':N'[i]?=some x:=h1'
   rw [hy1] at h1'';exact Option.some.inj h1''
  subst ey
  obtain ⟨m0,hm0,hl⟩:=I.loc
  obtain ⟨u,ru,hu⟩:=hl j y v hy2 hs (by
   rcases hy4 with z | z
   ·exact .inr (.inl z)
   ·exact .inr (.inr z))
  refine ⟨u,ru,.inr ⟨B4 (env:=X.env) (names:=scope.names) hy3,?_⟩⟩
  rcases hu with ⟨z,_⟩ | ⟨_,c,hc1,hc2⟩
  ·rcases hy4 with z' | z' <;> (rw [z'] at z;cases z)
  ·obtain ⟨c',hc'⟩:=S.chas y hy3
   have e:=S.cin y c' hc'
   rw [hc1] at e
   cases e
   obtain ⟨o,e1,e2⟩:=hc2
   exact ⟨c,hc',o,k _ _ e1,e2⟩
 ·intro x c h
  obtain ⟨v,q⟩:=I.cell x c (S.cin x c h)
  obtain ⟨o,e1,e2⟩:=q
  exact ⟨v,o,k _ _ e1,e2⟩
 ·exact I.hok.fresh hC
 ·exact fun x c h=>I.freeC x c (S.cin x c h)
 ·intro p hp
  have hp':p ∈ X.pn ++ pins:=by simpa [j7] using hp
  obtain ⟨p1,p2,p3,p4,p5⟩:=I.pin p hp'
  refine ⟨k _ _ p1,p2,noC _ _ p1,fun z=>?_,p5⟩
  rcases List.mem_cons.mp (I.S3 _ z) with z | z
  ·exact p3 z
  ·exact p4 z
 ·unfold E7
  show _=N'.length
  rw [List.length_append,List.length_map,List.length_replicate]
  have:=S.clen
  omega
theorem Inv.a01 {scope:Scope} {N':List Str} {cl:List (Str × Addr)} {C:Addr} {fp:List Addr} {pins':List (Addr × Obj)} {σ':St} {H':Hp} {s':Shared}
  (I:Inv X pins σ H s) (hf:∀ b ∈ fp,K1 X pins H b) (J:Inv (j7 X pins scope N' cl C s H fp) pins' σ' H' s'):Inv X pins σ H' s' :=
 I.aJ3 (ch:=fp) J.os J.base J.hok J.bare fun b hb=>by
  obtain ⟨f0,f1,f2,f3,f4,f5⟩:=hf b hb
  exact ⟨f3,f1,f4,f5⟩
theorem Inv.bv1 {D:Addr} {ys:List V} {its:List Value} {n:Nat} (I:Inv X pins σ H s) (f:K1 X pins H D) (hs:X.s₀.heap.objs.size <= D) (hv:Vals ys its) (hz:ys.length <= sizeLine)
  (ho:s.heap.get? D=some { cls:=.type "list",data:=.seq its.toArray n }):Inv X pins σ (upd H D (.lst ys)) s:=by
 obtain ⟨f0,f1,f2,f3,f4,f5⟩:=f
 have hne:∀ b o,X.s₀.heap.get? b=some o->b ≠ D:=fun b o e z=>absurd (Heap.lt_size e) (by rw [z];exact Nat.not_lt.mpr hs)
 have tup:∀ b u,H b=some u->upd H D (.lst ys) b=some u:=fun b u e=>by rw [j6 (p0 e f0)];exact e
 refine ⟨I.ok,I.os,I.bare,⟨?_,?_,?_,I.base.there,?_,?_,?_⟩,I.loc,I.cell,?_,?_,?_,?_,I.len⟩
 ·exact fun b o e n1 n2 n3=>I.base.keep b o e n1 n2 n3
 ·exact fun b o e n1 n2 n3=>I.base.slot b o e n1 n2 n3
 ·exact fun b o e n1 n2=>by rw [j6 (hne b o e)];exact I.base.free b o e n1 n2
 ·exact fun b xs e=>tup _ _ (I.base.tups b xs e)
 ·exact fun b o u e=>tup _ _ (I.base.frzs b o u e)
 ·exact fun b ps e=>by
   obtain ⟨more,q⟩:=I.base.tbls b ps e
   exact ⟨more,tup _ _ q⟩
 ·rw [j6 f1.symm];exact I.free
 ·exact fun x c e=>by rw [j6 (f4 x c e)];exact I.freeC x c e
 ·intro p hp
  obtain ⟨p1,p2,p3⟩:=I.pin p hp
  exact ⟨p1,by rw [j6 (f5 p hp)];exact p2,p3⟩
 ·intro a o e
  by_cases ha:a=D
  ·subst ha
   rw [o9] at e
   cases e
   exact ⟨hz,its,n,hv,ho⟩
  ·rw [j6 ha] at e
   have q:=I.hok a o e
   refine q.Z6 (fun b u _ h=>h) (fun b hb=>tup _ _ hb) (fun b xs hb=>tup _ _ hb)
end
end L2

namespace L2
open PySem PySem.Spec PyProof.Rows
noncomputable def aF3 (wi:TI) (i6:List Nat) (n:Nat) (g:TG) (tc:TT) (te:TE):TE:=fun σ H Q=>wi σ H fun J H1=>∃ W:Nat->Nat->List V->St->Hp->Prop,(∃ m,W 0 m [] (E7 σ i6 n) H1)/\∀ i m ys σ H,W i m ys σ H ->
 (J.stop i H/\∀ p,H p=none->Q (.ref p) (upd H p (.lst ys))) \/
 (J.go i H/\ys.length < sizeLine/\∀ x H',J.yld i H x H'->g x σ H' fun σ2 H2=>tc σ2 H2 fun b H3 =>
  if b=true then te σ2 H3 fun y H4=>∃ m',m' < m/\W (i + 1) m' (ys ++ [y]) σ2 H4 else ∃ m',m' < m/\W (i + 1) m' ys σ2 H3)
noncomputable abbrev K7 (its:List Value) (n:Nat):Obj:={ cls:=.type "list",data:=.seq its.toArray n }
section
variable {X:Cx} {pins:List (Addr × Obj)} {σ:St} {H:Hp} {s:Shared}
theorem al1 {elt tg iter:Expr} {ifs:List Expr} {scope:Scope} {N':List Str} {i6:List Nat} {cl:List (Str × Addr)} {pos:Pos} {it:Addr} {fp:List Addr} {tn:Nat->Heap->Prop} {J:It}
  {g:TG} {tc:TT} {te:TE} {RR:Value->Addr->Result->Shared->Prop} {E:Value->Shared->Prop} {W:Nat->Nat->List V->St->Hp->Prop} {m0:Nat} {Q:VK}
  (S:CompScope X scope N' i6 cl) (hc:X.calm=true)
  (hg:∀ C s H,PG (j7 X pins scope N' cl C s H fp) tg g) (ht:∀ C s H,PTs (j7 X pins scope N' cl C s H fp) ifs tc) (he:∀ C s H,PE (j7 X pins scope N' cl C s H fp) elt te)
  (I:Inv X pins σ H s) (T:Turn X.prog X.w X.K tg J fp it tn) (st:tn 0 s.heap) (hf:∀ b ∈ fp,K1 X pins H b) (w0:W 0 m0 [] (E7 σ i6 N'.length) H)
  (turn:∀ i m ys σ H,W i m ys σ H->(J.stop i H/\∀ p,H p=none->Q (.ref p) (upd H p (.lst ys))) \/
   (J.go i H/\ys.length < sizeLine/\∀ x H',J.yld i H x H'->g x σ H' fun σ2 H2=>tc σ2 H2 fun b H3 =>
    if b=true then te σ2 H3 fun y H4=>∃ m',m' < m/\W (i + 1) m' (ys ++ [y]) σ2 H4 else ∃ m',m' < m/\W (i + 1) m' ys σ2 H3))
  (hRR:∀ D C s' H' m,Inv X pins σ H' s'->Q (.ref D) H'->s'.heap.Ns C m->H' C=none->s.heap.objs.size <= C->RR (.ref D) C (.ok .next) s') :
  wpAny (model X.prog X.w) X.A (newList []) (fun acc s₃=>wpAny (model X.prog X.w) X.A (newFunctionEnv scope X.env.globals cl [] X.env.qual none .none (some X.env)) (fun cenv s₄ =>
   codeAny (model X.prog X.w) X.A (.compStart (.ListComp elt [⟨tg,iter,ifs,0⟩] scope pos) 0 (.ref it) acc { cenv with scope:=relabel scope X.env }) (RR acc cenv.locals) s₄) E s₃) E s:=by
 refine wpAny_newObj_type (wpAny_newFunctionEnv S.nocell (by intro y hy;simp at hy) (fun h₁ hns₁ hsb₁=>?_) S.kind)
 dsimp only at hns₁ hsb₁ ⊢
 generalize hH2:s.heap.push { cls:=.type "list",dict:=none,data:=.seq ([]:List Value).toArray }=H2 at hns₁ hsb₁ ⊢
 generalize eD:s.heap.objs.size=D at *
 have hC:H2.objs.size=D + 1:=by rw [<- hH2,Heap.size_push,eD]
 generalize eC:H2.objs.size=C at *
 have hDC:D ≠ C:=by omega
 have lt:∀ b o,s.heap.get? b=some o->b < D:=fun b o e=>by rw [<- eD];exact Heap.lt_size e
 have leC:D <= C:=by omega
 have neC:∀ b o,s.heap.get? b=some o->b ≠ C:=fun b o e=>Nat.ne_of_lt (Nat.lt_of_lt_of_le (lt b o e) leC)
 have neD:∀ b o,s.heap.get? b=some o->b ≠ D:=fun b o e=>Nat.ne_of_lt (lt b o e)
 have old:∀ b o,s.heap.get? b=some o->h₁.get? b=some o:=fun b o e=>hsb₁.extBut b o (neC b o e) (Heap.get?_push_of_some _ (hH2 ▸ Heap.get?_push_of_some _ e))
 have hacc:h₁.get? D=some (K7 [] 0):=hsb₁.extBut _ _ hDC (Heap.get?_push_of_some _ (by rw [<- hH2,<- eD];exact Heap.get?_push_size _ rfl))
 have hobj:∀ b ∈ fp,∃ o,s.heap.get? b=some o:=fun b hb=>by
  obtain ⟨o,e,_⟩:=T.obj _ _ st b hb
  exact ⟨o,e⟩
 have hDf:D ∉ fp:=fun hm=>by
  obtain ⟨o,e⟩:=hobj D hm
  exact neD D o e rfl
 have X1:Inv (j7 X pins scope N' cl C s H fp) [] (E7 σ i6 N'.length) H { s with heap:=h₁,toks:=s.toks + ([]:List (Str × Value)).length } :=
  I.aJ2 S hc hf hobj (by rw [eD];omega) ⟨_,hns₁⟩ old
 have st1:tn 0 h₁:=T.keep _ _ _ st fun b _ o e=>old b o e
 have fpc:∀ {H':Hp},(∀ b ∈ fp,H' b=none)->∀ b ∈ fp,K1 (j7 X pins scope N' cl C s H fp) [] H' b:=fun hn b hb=>by
  obtain ⟨f0,f1,f2,f3,f4,f5⟩:=hf b hb
  obtain ⟨o,e⟩:=hobj b hb
  refine ⟨hn b hb,?_,?_,.inl hb,fun x c q=>f4 x c (S.cin x c q),fun p hp=>?_⟩
  ·exact neC b o e
  ·exact fun z=>by
    rcases List.mem_cons.mp (I.S3 b z) with z | z
    ·exact f1 z
    ·exact f2 z
  ·have hp':p ∈ X.pn ++ pins:=by simpa [j7] using hp
   exact f5 p hp'
 have fD:∀ {H':Hp},H' D=none->K1 (j7 X pins scope N' cl C s H fp) [] H' D:=fun hn=>by
  refine ⟨hn,hDC,fun z=>?_,.inr (by show s.heap.objs.size <= D;omega),fun x c q=>?_,fun p hp=>?_⟩
  ·exact absurd (I.aX6 (a:=D) (by omega)) fun hno=>by
    rcases List.mem_cons.mp (I.S3 D z) with z | z
    ·exact absurd I.lt (by rw [<- z,eD];exact Nat.lt_irrefl _)
    ·exact hno z
  ·obtain ⟨v,o,e,_⟩:=I.cell x c (S.cin x c q)
   exact neD c o e
  ·have hp':p ∈ X.pn ++ pins:=by simpa [j7] using hp
   exact neD _ _ (I.pin p hp').1
 have pinD:∀ {H':Hp} {s':Shared} {σ':St} {its:List Value} {n:Nat},Inv (j7 X pins scope N' cl C s H fp) [] σ' H' s'->H' D=none->s'.heap.get? D=some (K7 its n) ->
   Inv (j7 X pins scope N' cl C s H fp) [(D,K7 its n)] σ' H' s':=fun {H' s' σ' its n} J0 hn e=>J0.V2 fun p hp=>by
  have z:p=(D,K7 its n):=by simpa using hp
  subst z
  obtain ⟨f0,f1,f2,_⟩:=fD hn
  exact ⟨e,f0,f1,f2,fun v z=>nomatch z⟩
 have fpD:∀ {H':Hp} {its:List Value} {n:Nat},(∀ b ∈ fp,H' b=none)->∀ b ∈ fp,K1 (j7 X pins scope N' cl C s H fp) [(D,K7 its n)] H' b:=fun {H' its n} hn b hb=>by
  obtain ⟨f0,f1,f2,f3,f4,f5⟩:=fpc hn b hb
  refine ⟨f0,f1,f2,f3,f4,fun p hp=>?_⟩
  have hp':p ∈ (j7 X pins scope N' cl C s H fp).pn \/ p=(D,K7 its n):=by simpa using hp
  rcases hp' with z | z
  ·exact f5 p (List.mem_append_left _ z)
  ·subst z
   exact fun z=>hDf (by rw [show D=b from z];exact hb)
 have loop:∀ s₃:Shared,s₃={ s with heap:=h₁,toks:=s.toks + ([]:List (Str × Value)).length } ->
   codeAny (model X.prog X.w) X.A (.compLoop (.ListComp elt [⟨tg,iter,ifs,0⟩] scope pos) 0 (.ref it) (.ref D) (compEnvC scope cl C X.env)) (RR (.ref D) C) s₃:=by
  rintro s₃ rfl
  refine ay6 (fun n s'=>∃ i ys σ' H' its nn,Inv (j7 X pins scope N' cl C s H fp) [] σ' H' s'/\tn i s'.heap/\(∀ b ∈ fp,H' b=none)/\H' D=none/\Vals ys its/\ys.length <= sizeLine /\
   s'.heap.get? D=some (K7 its nn)/\W i n ys σ' H') ?_ m0 ⟨0,[],_,H,[],0,X1,st1,fun b hb=>(hf b hb).1,I.hok.fresh (by omega),.nil,Nat.zero_le _,hacc,w0⟩
  rintro n s3 ⟨i,ys,σ3,H3,its,nn,I3,st3,fr3,d3,v3,z3,o3,w3⟩
  have I3':=pinD I3 d3 o3
  rcases turn i n ys σ3 H3 w3 with ⟨stop,q⟩ | ⟨go,hz,step⟩
  ·refine thn (T.done (j7 X pins scope N' cl C s H fp) rfl rfl rfl rfl i _ s3 _ H3 _ I3' (fpD fr3) st3 stop) fun r s4 ⟨hr,I4⟩=>?_
   subst hr
   have o4:=(I4.pin (D,K7 its nn) (by simp)).1
   have J4:Inv X pins σ H3 s4:=I.a01 hf I4
   have fD4:K1 X pins H3 D:=by
    refine ⟨d3,Nat.ne_of_gt (by rw [<- eD];exact I.lt),I.aX6 (by omega),.inr (by have:=I.sz;omega),fun x c q=>?_,fun p hp=>?_⟩
    ·obtain ⟨v,o,e,_⟩:=I.cell x c q
     exact neD c o e
    ·exact neD _ _ (I.pin p hp).1
   obtain ⟨mC,hmC,_⟩:=I4.loc
   exact hRR D C s4 (upd H3 D (.lst ys)) mC (J4.bv1 fD4 (by have:=I.sz;omega) v3 z3 o4) (q D d3) hmC (by rw [j6 hDC.symm];exact I4.free) (by omega)
  ·refine thn (T.item (j7 X pins scope N' cl C s H fp) rfl rfl rfl rfl i _ s3 _ H3 _ I3' (fpD fr3) st3 go) fun r s4 ⟨u,hr,h4⟩=>?_
   subst hr
   refine thn h4 fun _ s5 ⟨x,H5,I5,r5,y5,st5,fr5⟩=>?_
   have o5:=I5.pin (D,K7 its nn) (by simp)
   have I5':=I5.pinned (fpD fr5) (T.obj _ _ st5)
   refine thn (hg C s H _ s5 _ H5 x u _ I5' r5 (step x H5 y5)) fun _ s6 ⟨σ6,H6,I6,q6⟩=>?_
   refine thn (ht C s H _ s6 σ6 H6 _ I6 q6) fun ok s7 ⟨H7,I7,q7⟩=>?_
   have back:∀ {σ8:St} {H8:Hp} {s8:Shared},Inv (j7 X pins scope N' cl C s H fp) ([(D,K7 its nn)] ++ aa2 fp s5.heap) σ8 H8 s8->(∀ b ∈ fp,H8 b=none)/\tn (i + 1) s8.heap/\H8 D=none/\s8.heap.get? D=some (K7 its nn) :=
    fun {σ8 H8 s8} I8=>by
     have pf:∀ b ∈ fp,∀ o,s5.heap.get? b=some o->s8.heap.get? b=some o/\H8 b=none:=fun b hb o e=>by
      have:=I8.pin (b,o) (List.mem_append_right _ (List.mem_append_right _ (X5 hb e)))
      exact ⟨this.1,this.2.1⟩
     have pd:=I8.pin (D,K7 its nn) (by simp)
     refine ⟨fun b hb=>?_,T.keep _ _ _ st5 fun b hb o e=>(pf b hb o e).1,pd.2.1,pd.1⟩
     obtain ⟨o,e,_⟩:=T.obj _ _ st5 b hb
     exact (pf b hb o e).2
   cases ok with
   | false =>
    obtain ⟨m',hm,w7⟩:=q7
    obtain ⟨b1,b2,b3,b4⟩:=back I7
    exact ⟨m',hm,i + 1,ys,σ6,H7,its,nn,I7.V2 fun p hp=>absurd hp (by simp),b2,b1,b3,v3,z3,b4,w7⟩
   | true =>
    refine thn (he C s H _ s7 σ6 H7 _ I7 q7) fun xv s8 ⟨y,H8,I8,r8,m',hm,w8⟩=>?_
    obtain ⟨b1,b2,b3,b4⟩:=back I8
    refine call_meets F.slot_list_append ⟨_,b4,rfl⟩ F.entry_list_append (F.args_list_append_2 _ _) (PySem.list_append D its.toArray nn xv (by rw [List.size_toArray];have:=v3.length;omega)) ⟨b4,?_⟩
    have q:∃ n',(s8.heap.update D (Obj.mapSeq (·.push xv))).get? D=some (K7 (its ++ [xv]) n'):=by
     have q0:=PySem.IsL.update b4 (·.push xv)
     have e0:its.toArray.push xv=(its ++ [xv]).toArray:=by simp
     rw [e0] at q0
     exact ⟨_,q0⟩
    obtain ⟨n',q⟩:=q
    have I8':Inv (j7 X pins scope N' cl C s H fp) [] σ6 H8 s8:=I8.V2 fun p hp=>absurd hp (by simp)
    obtain ⟨f0,f1,f2,f3,f4,f5⟩:=fD (H':=H8) b3
    have kp:∀ b o,b ≠ D->s8.heap.get? b=some o->(s8.heap.update D (Obj.mapSeq (·.push xv))).get? b=some o:=fun b' u hb hu=>(Heap.get?_update_other s8.heap (Obj.mapSeq (·.push xv)) (Ne.symm hb)).trans hu
    refine ⟨m',hm,i + 1,ys ++ [y],σ6,H8,its ++ [xv],n',I8'.turned (it:=D) (t':=s8.toks) kp f0 f1 f3 f4 f5,T.keep _ _ _ b2 fun b hb o e=>kp b o (fun z=>hDf (by rw [<- z];exact hb)) e,b1,b3,v3.append (.cons r8 .nil),?_,q,w8⟩
    rw [List.length_append,List.length_singleton]
    omega
 exact codeAny_compStart_list (loop _ rfl) (T.self _ 0 _ _ _ st1 (loop _ rfl))
theorem Inv.bA3 {C:Addr} {h':Heap} {s2:Shared} {H2:Hp} (I:Inv X pins σ H s) (hC:s2.heap.objs.size <= C) (I2:Inv X pins σ H2 s2) (hn:H C=none) (sb:Heap.SameBut C s.heap h'):Inv X pins σ H { s with heap:=h' }:=by
 have f:=I2.ao2 (b:=C) (H':=H) hC hn
 obtain ⟨f0,f1,f2,f3,f4,f5⟩:=f
 exact I.turned (t':=s.toks) (fun b o hb e=>sb.extBut b o hb e) f0 f1 f3 f4 f5
theorem aC8 {elt tg iter:Expr} {ifs:List Expr} {scope:Scope} {N':List Str} {i6:List Nat} {cl:List (Str × Addr)} {pos:Pos} {wi:TI} {g:TG} {tc:TT} {te:TE}
  (S:CompScope X scope N' i6 cl) (hc:X.calm=true) (hi:PI X tg iter wi)
  (hg:∀ pins C s H fp,PG (j7 X pins scope N' cl C s H fp) tg g) (ht:∀ pins C s H fp,PTs (j7 X pins scope N' cl C s H fp) ifs tc) (he:∀ pins C s H fp,PE (j7 X pins scope N' cl C s H fp) elt te)
  (hs:∀ x,foldedSetIterable iter X.env x=pure x):PE X (.ListComp elt [⟨tg,iter,ifs,0⟩] scope pos) (aF3 wi i6 N'.length g tc te):=by
 intro pins s σ H Q I h
 rw [eval_ListComp]
 refine wpAny_comprehension_free (use:=none) rfl hs S.clos S.kind S.names (thn (hi pins s σ H _ I h) fun xv s₁ h₁=>thn h₁ fun itv s₂ h₂=>?_)
 obtain ⟨it,fp,tn,J,H2,e,I2,T,st2,f2,W,⟨m0,w0⟩,turn⟩:=h₂
 subst e
 refine al1 (RR:=fun acc C=>compPost (model X.prog X.w) X.A X.xe none (EP X pins σ Q) acc C) S hc (fun C s H=>hg pins C s H fp) (fun C s H=>ht pins C s H fp) (fun C s H=>he pins C s H fp) I2 T st2 f2 w0 turn ?_
 intro D C s' H' m I' q hn hC hsz
 exact ⟨m,hn,fun h' sb=>⟨.ref D,H',I'.bA3 hsz I2 hC sb,rfl,q⟩⟩
theorem aA4 {elt tg iter:Expr} {ifs:List Expr} {scope:Scope} {N':List Str} {i6:List Nat} {cl:List (Str × Addr)} {pos spos px:Pos} {wi:TI} {g:TG} {tc:TT} {te:TE} {i:Nat} {x:Str}
  (S:CompScope X scope N' i6 cl) (hc:X.calm=true) (hi:PI X tg iter wi)
  (hg:∀ pins C s H fp,PG (j7 X pins scope N' cl C s H fp) tg g) (ht:∀ pins C s H fp,PTs (j7 X pins scope N' cl C s H fp) ifs tc) (he:∀ pins C s H fp,PE (j7 X pins scope N' cl C s H fp) elt te)
  (hs:∀ x,foldedSetIterable iter X.env x=pure x)
  (hN:X.N.Nodup) (hix:X.N[i]?=some x) (hx:Loc X.env.scope x) (hf:X.fn x=true \/ X.env.scope.names.lookup x=some .local) :
  PS X (.Assign [.Name x px] (.ListComp elt [⟨tg,iter,ifs,0⟩] scope pos) spos) (au3 (aF3 wi i6 N'.length g tc te) (ad4 i)):=by
 intro pins s σ H D I h
 have hsw:∃ b,swapsWith (.ListComp elt [⟨tg,iter,ifs,0⟩] scope pos) (some (.Name x px)) spos.line X.env=pure b:=⟨_,rfl⟩
 obtain ⟨b,hsw⟩:=hsw
 cases b with
 | false=>exact aN0 hN hix hx (aC8 S hc hi hg ht he hs) hsw hf pins s σ H D I h
 | true =>
  rw [exec_Assign_Name_used _ _ _ _ hsw]
  refine wpAny_bind (wpAny_standAt (wpAny_bind ?_))
  show wpAny _ X.A (do let _ <- comprehension (.ListComp elt [⟨tg,iter,ifs,0⟩] scope pos) scope X.env _ (newList []) false (eval iter X.env) (some (assign (.Name x px) X.env))) _ _ s
  refine wpAny_bind (wpAny_mono (wpAny_comprehension_free (use:=some (assign (.Name x px) X.env)) (Q:=fun _ s'=>SP X pins D .next s') rfl hs S.clos S.kind S.names
   (thn (hi pins s σ H _ I h) fun xv s₁ h₁=>thn h₁ fun itv s₂ h₂=>?_)) (fun _ s' hq=>wpAny_pure (wpAny_pure hq)) fun _ _ e=>e)
  obtain ⟨it,fp,tn,J,H2,e,I2,T,st2,f2,W,⟨m0,w0⟩,turn⟩:=h₂
  subst e
  refine al1 (Q:=fun v H1=>ad4 i v σ H1 D.nx) (RR:=fun acc C=>compPost (model X.prog X.w) X.A X.xe (some (assign (.Name x px) X.env)) (fun _ s'=>SP X pins D .next s') acc C) S hc (fun C s H=>hg pins C s H fp) (fun C s H=>ht pins C s H fp) (fun C s H=>he pins C s H fp) I2 T st2 f2 w0 turn ?_
  intro Dl C s' H' m I' q hn hC hsz
  show wpAny _ X.A (assign (.Name x px) X.env (.ref Dl)) _ _ _
  refine wpAny_assign_Name (ap6 I' hN hix hx (v:=.ref Dl) rfl (fun s3 I3 ⟨a,sb,ha⟩=>?_) hf)
  have hCL:C ≠ a:=by
   obtain ⟨f0,f1,f2,f3,f4,f5⟩:=I2.ao2 (b:=C) (H':=H') hsz hC
   rcases ha with z | z
   ·rw [z];exact f1
   ·exact fun z'=>f4 _ _ z z'.symm
  obtain ⟨f0,f1,f2,f3,f4,f5⟩:=I2.ao2 (b:=C) (H':=H') hsz hC
  refine ⟨m,hn.sameBut sb hCL,fun h3 sb3=>⟨_,H',I3.turned (t':=s3.toks) (fun b o hb e=>sb3.extBut b o hb e) f0 f1 f3 f4 f5,q⟩⟩
end
end L2

namespace HT
open PySem PyProof.Rows
section
variable {prog:Program} {w:World} {A:Around} {E:Value->Shared->Prop} {s:Shared}
theorem a07 {t b:Addr} {ws:List Value} {Q:Value->Shared->Prop} (ht:IsTup s.heap t #[]) (hb:IsTup s.heap b ws.toArray) (h1:Q (.ref b) s):wpAny (model prog w) A (binaryOp .Add (.ref t) (.ref b)) Q E s:=by
 obtain ⟨⟨cls,dd,data,sl⟩,ho,hc,n,hd⟩:=id ht
 obtain ⟨⟨cls2,dd2,data2,sl2⟩,ho2,hc2,n2,hd2⟩:=id hb
 simp only at hc hd hc2 hd2
 subst hc hd hc2 hd2
 exact concat_meets ⟨_,ho,rfl⟩ ⟨_,ho2,rfl⟩ noFill_tuple_add seq_tuple_add PySem.F.slot_tuple_add PySem.F.entry_tuple_add (PySem.F.args_tuple_add_2 _ _)
   (tuple_addW0 t b #[] ws.toArray n n2 dd dd2 sl sl2 rfl) ⟨ho,ho2,h1⟩
theorem Z5 {t sl:Addr} {items:Array Value} {vl vu:Value} {lo hi:Option Int} {Q:Value->Shared->Prop} (ht:IsTup s.heap t items) (hs:s.heap.IsSliceOf sl vl vu .none) (pl:IsPart vl lo) (pu:IsPart vu hi)
  (hw:sIx items.size 0 lo=0/\sIx items.size items.size hi=items.size) (h:Q (.ref t) s):wpAny (model prog w) A (getItem (.ref t) (.ref sl)) Q E s:=by
 obtain ⟨os,hos,hcs,hds⟩:=id hs
 have hTs:s.TypeIs (.ref sl) "slice":=⟨os,hos,hcs⟩
 unfold getItem
 try with_reducible refine wpAny_holding ?_
 first | refine wpAny_bind (wpAny_pure ?_) | skip
 refine wpAny_bind (wpAny_sequenceKey ht.typeIs (by decide) ?_)
 refine wpAny_bind (wpAny_callSpecial?_slot (name:=Str.ofString "__getitem__") ht.typeIs PyProof.Rows.slot_tuple_getitem
  (wpAny_call_entry PyProof.Rows.slot_tuple_getitem ht.typeIs entry_tuple_getitem ?_ (args_tuple_getitem _ _)))
 show wpAny _ _ (Builtin.Tuple.tupleItemsOf (.ref t) >>= _) _ _ s
 refine wpAny_bind (tupleItemsOf_ ht ?_)
 refine wpAny_bind (wpAny_typeOf hTs ?_)
 rw [if_pos (by decide)]
 refine wpAny_bind (S5 hs pl pu ?_)
 have hyes:((((sIx items.size 0 lo:Nat):Int) == 0 && (1:Int) == 1 && (sIx items.size items.size hi - sIx items.size 0 lo) == items.size)=true):=by
  rw [hw.1,hw.2]
  simp
 show wpAny _ _ (if (((sIx items.size 0 lo:Nat):Int) == 0 && (1:Int) == 1 && (sIx items.size items.size hi - sIx items.size 0 lo) == items.size)=true then _ else _) _ _ s
 rw [if_pos hyes]
 obtain ⟨o,ho,hc,_⟩:=id ht
 unfold Builtin.Tuple.tupleIsExact
 refine wpAny_bind (wpAny_bind (wpAny_typeOf ht.typeIs (wpAny_pure ?_)))
 rw [if_pos (by decide)]
 first
  | exact wpAny_bind (wpAny_rule (wpAny_bind (wpAny_pure ⟨_,rfl,wpAny_pure h⟩)))
  | exact wpAny_bind (wpAny_rule (wpAny_pure ⟨_,rfl,wpAny_pure h⟩))
  | exact wpAny_bind (wpAny_rule (wpAny_bind (wpAny_pure (wpAny_pure ⟨_,rfl,wpAny_pure h⟩))))
end
end HT
namespace L2
open PySem PySem.Spec PyProof.Rows
section
variable {X:Cx}
noncomputable def bn0 (K:PySem.W.Frag):R2:=fun x y H Q=>∃ a b xs ys,x=.ref a/\y=.ref b/\SqT K H a xs/\SqT K H b ys/\xs.length + ys.length <= sizeLine /\
 (xs=[]->Q (.ref b) H)/\(ys=[]->Q (.ref a) H)/\(∀ p,H p=none->Q (.ref p) (upd H p (.tup (xs ++ ys))))
theorem aX3:OpR X (binaryOp .Add) (bn0 X.K):=by
 intro pins s σ H x y v u Q I rx ry h
 obtain ⟨a,b,xs,ys,rfl,rfl,ha,hb,hz,q0,q1,q2⟩:=h
 by_cases hx:xs=[]
 ·subst hx
  cases rx
  cases ry
  obtain ⟨its,r1,p1,_⟩:=I.tuple ha
  obtain ⟨its2,r2,p2,_⟩:=I.tuple hb
  cases r1
  exact HT.a07 p1 p2 ⟨.ref b,H,I,rfl,q0 rfl⟩
 ·exact be3 pins s σ H _ _ v u Q I rx ry ⟨a,b,xs,ys,rfl,rfl,ha,hb,hx,hz,q1,fun _=>q2⟩
noncomputable def bx7 (K:PySem.W.Frag):V->Option Int->Option Int->Hp->VK->Prop:=fun x lo hi H Q=>∃ a xs,x=.ref a/\SqT K H a xs /\
 (T5 xs lo hi=xs->Q (.ref a) H)/\∀ p,H p=none->Q (.ref p) (upd H p (.tup (T5 xs lo hi)))
theorem ba4:SlR X (bx7 X.K):=by
 intro pins s σ H x v vl vu lo hi sl Q I rx hs pl pu h
 obtain ⟨a,xs,rfl,hx,q0,q⟩:=h
 by_cases hw:HT.sIx xs.length 0 lo=0/\HT.sIx xs.length xs.length hi=xs.length
 ·cases rx
  obtain ⟨its,r,ht,hz⟩:=I.tuple hx
  have hlen:its.toArray.size=xs.length:=by rw [List.size_toArray];exact r.length.symm
  refine ⟨"tuple",_,PyProof.Rows.slot_tuple_getitem.lookup,ht.typeIs,?_⟩
  exact HT.Z5 ht hs pl pu (by rw [hlen];exact hw) ⟨.ref a,H,I,rfl,q0 (by unfold T5;rw [hw.1,hw.2];simp)⟩
 ·exact bk5 pins s σ H _ v vl vu lo hi sl Q I rx hs pl pu ⟨a,xs,rfl,hx,hw,q⟩
theorem aB3:t6 X (.builtin "isinstance") (fun xs H Q=>∃ x t c b,xs=[x,.ty c]/\TyOf X.K H x t/\PySem.W.kitOne X.K t (.type c)=some b/\Q (.bl b) H):=by
 intro pins s σ H xs us Q I r h
 obtain ⟨x,t,c,b,rfl,hT,hk,q⟩:=h
 obtain ⟨u,w',rfl,ru,rw'⟩:=vals2 r
 cases (show w'=Value.type c from rw')
 exact aQ2 I ru hT hk fun tk=>⟨.bl b,H,I.tok tk,rfl,q⟩
theorem aS3 (hc:X.calm=true):t6 X (.builtin "all") (fun xs H Q=>∃ (a:Addr) (bs:List Bool),xs=[.ref a]/\SqL X.K H a (bs.map V.bl)/\Q (.bl (bs.all id)) H):=by
 intro pins s σ H xs us Q I r h
 obtain ⟨a,bs,rfl,ha,q⟩:=h
 obtain ⟨u,rfl,ru⟩:=vals1 r
 cases ru
 obtain ⟨its,rv,p,hz⟩:=I.list ha
 refine call_all_walk ?_
 refine wpAny_pyIter_list p.isList ?_
 have hne:a ≠ s.heap.objs.size:=by
  obtain ⟨o,e,_⟩:=id p.isList
  exact Nat.ne_of_lt (Heap.lt_size e)
 have hl:=rv.length
 rw [List.length_map] at hl
 refine ⟨s.heap.objs.size,_,_,_,_,_,fun i=>bs.getD i true,rfl,Walks.list (A:=X.A.in1) (I.ok.hd hc) _ a hne its.toArray,⟨⟨_,Heap.get?_push_size _ rfl,rfl,rfl⟩,?_⟩,?_,fun h' tk k=>?_⟩
 ·obtain ⟨o,e,q1⟩:=id p.isList
  exact ⟨o,Heap.get?_push_of_some _ e,q1⟩
 ·intro i v s' Q' E' hP hQ
  have hv:its[i]?=some v:=by simpa using hP
  have hi:i < bs.length:=by rw [hl];exact (List.getElem?_eq_some_iff.mp hv).1
  obtain ⟨u',hu',ru'⟩:=rv.get (i:=i) (x:=V.bl bs[i]) (by rw [List.getElem?_map,List.getElem?_eq_getElem hi];rfl)
  rw [hv] at hu'
  cases hu'
  cases (show v=Value.bool bs[i] from ru')
  refine wpAny_truthy_bool ?_
  have:bs.getD i true=bs[i]:=by simp [List.getD,hi]
  dsimp only at hQ
  rw [this] at hQ
  exact hQ
 ·have e1:(List.range its.toArray.size).all (fun i=>bs.getD i true)=bs.all id:=by
   rw [List.size_toArray,<- hl]
   rw [Bool.eq_iff_iff]
   simp only [List.all_eq_true,List.mem_range,id]
   constructor
   ·intro hh x hx
    obtain ⟨i,hi,rfl⟩:=List.mem_iff_getElem.mp hx
    have:=hh i hi
    simpa [List.getD,hi] using this
   ·intro hh i hi
    have:=hh bs[i] (List.getElem_mem hi)
    simpa [List.getD,hi] using this
  rw [e1]
  exact ⟨.bl (bs.all id),H,I.kept (t':=tk) fun b o e=>k b o (by
   intro hb
   have:b=s.heap.objs.size:=by simpa using hb
   exact absurd (Heap.lt_size e) (by rw [this];exact Nat.lt_irrefl _)) (Heap.get?_push_of_some _ e),rfl,q⟩
end
end L2

namespace HT
open PySem PyProof.Rows
section
variable {prog:Program} {w:World} {A:Around} {E:Value->Shared->Prop} {s:Shared}
theorem ag0 {sl:Addr} {n:Nat} {t:Tok} {Q:Int × Int × Nat->Shared->Prop} (hs:s.heap.IsSliceOf sl .none .none (.int (-1) t)) (h:Q ((n:Int) - 1,-1,n) s) :
  wpAny (model prog w) A (Builtin.Slice.sliceApplied (.ref sl) (pure (n:Int))) Q E s:=by
 obtain ⟨os,hos,hcs,hds⟩:=id hs
 unfold Builtin.Slice.sliceApplied Builtin.Slice.sliceFields
 refine wpAny_bind (wpAny_bind (wpAny_field hos hds (x:=.none) rfl (wpAny_bind (wpAny_field hos hds (x:=.none) rfl (wpAny_bind (wpAny_field hos hds (x:=.int (-1) t) rfl (wpAny_pure ?_)))))))
 refine wpAny_bind (slicePart_int ?_)
 show wpAny _ _ (if ((-1:Int) == 0)=true then _ else _) _ _ s
 rw [if_neg (by decide)]
 refine wpAny_bind (slicePart_none (wpAny_bind (slicePart_none (wpAny_bind (wpAny_pure ?_)))))
 show wpAny _ _ (match Builtin.Slice.sliceAdjust none none (-1) (n:Int) with | (lo,hi)=>pure (lo,(-1:Int),Builtin.Slice.slicePlaces lo hi (-1))) _ _ s
 have e1:Builtin.Slice.sliceAdjust none none (-1) (n:Int)=((n:Int) - 1,-1):=rfl
 rw [e1]
 show wpAny _ _ (pure ((n:Int) - 1,(-1:Int),Builtin.Slice.slicePlaces ((n:Int) - 1) (-1) (-1))) _ _ s
 have e2:Builtin.Slice.slicePlaces ((n:Int) - 1) (-1) (-1)=n:=by
  unfold Builtin.Slice.slicePlaces
  have h1:¬ ((-1:Int) > 0):=by omega
  simp only [h1,if_false]
  have h2:(-(-1:Int))=1:=by omega
  rw [h2]
  simp only [Int.ediv_one]
  split <;> omega
 rw [e2]
 exact wpAny_pure h
theorem av8 (xs:Array Value):((List.range xs.size).filterMap fun (m:Nat)=>xs[(((xs.size:Nat):Int) - 1 + (m:Int) * (-1)).toNat]?).toArray=xs.toList.reverse.toArray:=by
 congr 1
 apply List.ext_getElem?
 intro i
 have e:(List.range xs.size).filterMap (fun (m:Nat)=>xs[(((xs.size:Nat):Int) - 1 + (m:Int) * (-1)).toNat]?)=(List.range xs.size).map fun m=>xs.toList.reverse.getD m .none:=by
  have:∀ (l:List Nat),(∀ m ∈ l,m < xs.size)->l.filterMap (fun (m:Nat)=>xs[(((xs.size:Nat):Int) - 1 + (m:Int) * (-1)).toNat]?)=l.map fun m=>xs.toList.reverse.getD m .none:=by
   intro l hl
   induction l with
   | nil=>rfl
   | cons a r ih =>
    have ha:=hl a (by simp)
    have e1:(((xs.size:Nat):Int) - 1 + (a:Int) * (-1)).toNat=xs.size - 1 - a:=by omega
    have e2:xs[xs.size - 1 - a]?=some xs[xs.size - 1 - a]:=by simp
    have e3:xs.toList.reverse.getD a .none=xs[xs.size - 1 - a]:=by
     have hl:a < xs.toList.reverse.length:=by simpa using ha
     rw [List.getD_eq_getElem?_getD,List.getElem?_eq_getElem hl]
     simp [List.getElem_reverse]
    rw [List.filterMap_cons,e1,e2,List.map_cons,e3,ih fun m hm=>hl m (by simp [hm])]
  exact this _ fun m hm=>by simpa using hm
 rw [e]
 by_cases hi:i < xs.size
 ·rw [List.getElem?_map,List.getElem?_range hi]
  simp only [Option.map_some,List.getD_eq_getElem?_getD]
  rw [List.getElem?_eq_getElem (by simpa using hi)]
  rfl
 ·rw [List.getElem?_eq_none (by simpa using hi),List.getElem?_eq_none (by simpa using hi)]
theorem ae6 {t sl:Addr} {items:Array Value} {tk:Tok} {Q:Value->Shared->Prop} (ht:IsTup s.heap t items) (hs:s.heap.IsSliceOf sl .none .none (.int (-1) tk))
  (h:Q (.ref s.heap.objs.size) { s with heap:=s.heap.push { cls:=.type "tuple",data:=.seq items.toList.reverse.toArray } }) (hsz:items.size <= sizeLine):wpAny (model prog w) A (getItem (.ref t) (.ref sl)) Q E s:=by
 have htake:sizeOk (.seq items.toList.reverse.toArray):=by
  show items.toList.reverse.toArray.size <= sizeLine
  rw [List.size_toArray,List.length_reverse,Array.length_toList]
  exact hsz
 obtain ⟨os,hos,hcs,hds⟩:=id hs
 have hTs:s.TypeIs (.ref sl) "slice":=⟨os,hos,hcs⟩
 unfold getItem
 try with_reducible refine wpAny_holding ?_
 first | refine wpAny_bind (wpAny_pure ?_) | skip
 refine wpAny_bind (wpAny_sequenceKey ht.typeIs (by decide) ?_)
 refine wpAny_bind (wpAny_callSpecial?_slot (name:=Str.ofString "__getitem__") ht.typeIs PyProof.Rows.slot_tuple_getitem
  (wpAny_call_entry PyProof.Rows.slot_tuple_getitem ht.typeIs entry_tuple_getitem ?_ (args_tuple_getitem _ _)))
 show wpAny _ _ (Builtin.Tuple.tupleItemsOf (.ref t) >>= _) _ _ s
 refine wpAny_bind (tupleItemsOf_ ht ?_)
 refine wpAny_bind (wpAny_typeOf hTs ?_)
 rw [if_pos (by decide)]
 refine wpAny_bind (ag0 hs ?_)
 have hno:¬ ((((items.size:Nat):Int) - 1 == 0 && (-1:Int) == 1 && items.size == items.size)=true):=by
  intro q
  rw [Bool.and_eq_true,Bool.and_eq_true] at q
  exact absurd q.1.2 (by decide)
 show wpAny _ _ (if (((items.size:Nat):Int) - 1 == 0 && (-1:Int) == 1 && items.size == items.size)=true then _ else _) _ _ s
 rw [if_neg hno,av8]
 first
  | exact wpAny_bind (m:=Builtin.Tuple.tupleExact _) (wpAny_newObj_type (wpAny_pure ⟨_,rfl,wpAny_pure h⟩) htake)
  | exact wpAny_bind (m:=Builtin.Tuple.tupleExact _) (wpAny_newObj_type (wpAny_bind (wpAny_pure (wpAny_pure ⟨_,rfl,wpAny_pure h⟩))) htake)
  | exact wpAny_bind (wpAny_bind (m:=Builtin.Tuple.tupleExact _) (wpAny_newObj_type (wpAny_pure (wpAny_pure ⟨_,rfl,wpAny_pure h⟩)) htake))
  | exact wpAny_bind (wpAny_bind (m:=Builtin.Tuple.tupleExact _) (wpAny_newObj_type (wpAny_pure ⟨_,rfl,wpAny_pure h⟩) htake))
end
end HT
namespace L2
open PySem PySem.Spec PyProof.Rows
section
variable {X:Cx} {e st:Expr} {te ts:TE} {pos p2:Pos}
theorem ar9 (its:List Value):slicePick its.toArray none none (some (-1))=its.reverse.toArray:=by
 have h:=HT.av8 its.toArray
 unfold slicePick
 have e1:(sliceBounds none none (some (-1)) its.toArray.size).1=((its.toArray.size:Nat):Int) - 1:=rfl
 have e2:(sliceBounds none none (some (-1)) its.toArray.size).2.1=-1:=rfl
 have e3:(sliceBounds none none (some (-1)) its.toArray.size).2.2=-1:=rfl
 rw [e1,e2,e3]
 have e4:sliceRange (((its.toArray.size:Nat):Int) - 1) (-1) (-1)=(List.range its.toArray.size).map fun (m:Nat)=>(((its.toArray.size:Nat):Int) - 1 + (m:Int) * (-1)).toNat:=by
  unfold sliceRange
  have h1:¬ ((-1:Int) > 0):=by omega
  simp only [h1,if_false]
  have h2:(if ((its.toArray.size:Nat):Int) - 1 > -1 then (((its.toArray.size:Nat):Int) - 1 - -1 - -1 - 1) / (- -1) else 0).toNat=its.toArray.size:=by
   rw [show (- -1:Int)=1 from rfl,Int.ediv_one]
   split <;> omega
  rw [h2]
  congr 1
  funext m
  congr 1
  omega
 rw [e4,List.filterMap_map]
 rw [show its.reverse=its.toArray.toList.reverse from rfl,<- h]
 rfl
theorem bo5 (he:PE X e te) (hs:PE X st ts):PE X (.Subscript e (.Slice none none (some st) p2) pos) (fun σ H Q=>te σ H fun x H1=>ts σ H1 fun y H2=>y=.int (-1)/\∃ a xs,x=.ref a/\((SqT X.K H2 a xs/\∀ p,H2 p=none->Q (.ref p) (upd H2 p (.tup xs.reverse))) \/ (SqL X.K H2 a xs/\∀ p,H2 p=none->Q (.ref p) (upd H2 p (.lst xs.reverse))))):=by
 intro pins s σ H Q I h
 refine Subscript_ (thn (he pins s σ H _ I h) fun v s1 ⟨x,H1,I1,r1,q1⟩=>?_)
 refine wpAny_Slice ?_
 rw [evalPart_none]
 refine wpAny_pure ?_
 refine wpAny_pure ?_
 rw [evalPart_some]
 refine thn (hs pins s1 σ H1 _ I1 q1) fun u s2 ⟨y,H2,I2,r2,q2⟩=>?_
 obtain ⟨rfl,a,xs,rfl,q⟩:=q2
 obtain ⟨t,rfl⟩:=r2
 cases r1
 have I4:Inv X pins σ H2 { s2 with heap:=s2.heap.push { cls:=.type "slice",data:=.fields #[.none,.none,.int (-1) t] } }:=I2.kept (t':=s2.toks) fun b ob q=>Heap.get?_push_of_some _ q
 show wpAny (model X.prog X.w) X.A (subscriptTail e (.Slice none none (some st) p2) (.ref a) (.ref s2.heap.objs.size)) (EP X pins σ Q) X.xe { s2 with heap:=s2.heap.push { cls:=.type "slice",data:=.fields #[.none,.none,.int (-1) t] } }
 rcases q with ⟨hx,q⟩ | ⟨hx,q⟩
 ·obtain ⟨its,r,ht,hz⟩:=I4.tuple hx
  have hlen:its.toArray.size=xs.length:=by rw [List.size_toArray];exact r.length.symm
  refine tail_any (ops:=[.ref a,.ref s2.heap.objs.size]) ht.typeIs PyProof.Rows.slot_tuple_getitem.lookup (HT.ae6 ht (Heap.IsSliceOf.new ..) ?_ (by rw [hlen];exact hz)) (by with_unfolding_all rfl)
  have ee:its.toArray.toList.reverse.toArray=its.reverse.toArray:=by simp
  rw [ee]
  refine ⟨.ref _,_,I4.laid (t':=s2.toks) (o:=.tup xs.reverse) (fun b ob q=>Heap.get?_push_of_some _ q) (Nat.le_refl _) ?_,rfl,q _ (I4.hok.fresh (Nat.le_refl _))⟩
  exact ⟨by rw [List.length_reverse];exact hz,its.reverse,r.reverse,C6.new _ _⟩
 ·obtain ⟨its,r,ht,hz⟩:=I4.list hx
  have hlen:its.toArray.size=xs.length:=by rw [List.size_toArray];exact r.length.symm
  refine tail_any (ops:=[.ref a,.ref s2.heap.objs.size]) ht.isList.typeIs slot_list_getitem.lookup (wpAny_getItem_list_slice ht.isList (Heap.IsSliceOf.new ..) .none .none (.int (-1) t) (by simp) ?_ (by rw [hlen];exact hz)) (by with_unfolding_all rfl)
  rw [ar9]
  refine ⟨.ref _,_,I4.laid (t':=s2.toks) (o:=.lst xs.reverse) (fun b ob q=>Heap.get?_push_of_some _ q) (Nat.le_refl _) ?_,rfl,q _ (I4.hok.fresh (Nat.le_refl _))⟩
  exact ⟨by rw [List.length_reverse];exact hz,_,0,r.reverse,Heap.get?_push_size _ rfl⟩
end
end L2

namespace L2
open PySem PySem.Spec PyProof.Rows
theorem l8.get {P:Program} {w:World} {H:Hp} {h:Heap} {a:Addr}:∀ {o:HO},l8 P w H h a o->∃ ob,h.get? a=some ob
 | .lst _,x=>by obtain ⟨_,_,_,_,e⟩:=x;exact ⟨_,e⟩
 | .tup _,x=>by obtain ⟨_,_,_,o,e,_⟩:=x;exact ⟨o,e⟩
 | .dK _,x=>by obtain ⟨_,_,_,_,o,es,ep,e,_⟩:=x;exact ⟨o,e⟩
 | .dT _,x=>by obtain ⟨_,_,_,_,o,es,ep,e,_⟩:=x;exact ⟨o,e⟩
 | .set _ _,x=>by obtain ⟨o,es,ep,t,e,_⟩:=x;exact ⟨o,e⟩
 | .ins _ _ _,x=>by obtain ⟨_,_,_,e,_⟩:=x;exact ⟨_,e⟩
 | .own _,x=>x
 | .xd _,x=>by obtain ⟨mA,n,_⟩:=x;obtain ⟨od,e,_⟩:=aq2 n;exact ⟨od,e⟩
 | .rng _ _,x=>by obtain ⟨_,_,_,e⟩:=x;exact ⟨_,e⟩
 | .frz _ _,x=>⟨_,x.1⟩
 | .tbl _,x=>⟨_,x⟩
 | .met _ _,x=>⟨_,x⟩
 | .ext _,x=>x.2.1
noncomputable def aK5 (H':Hp) (h0:Heap) (l:List Env) (e:Value) (C:Addr) (h:Heap):Prop :=
 ∃ (ea:Addr) (a0:Value) (B:Heap),e=.ref ea/\Heap.FlyingW B l ea (.ref C) a0 h/\∀ b o,h.get? b=some o->b ∉ frs l->(H' b ≠ none \/ ∃ o0,h0.get? b=some o0)->B.get? b=some o
noncomputable def CXE (P:Program) (w:World):CXT:=fun outer H s E e s'=>∃ (C:Addr) (H':Hp),s'.os=s.os/\AllBare s'.gens/\Un (frs outer) [] H H' s.heap s'.heap/\HOk P w H' s'.heap/\aK5 H' s.heap outer e C s'.heap/\E (.ref C) none H'
section
variable {X:Cx} {pins:List (Addr × Obj)} {σ:St} {H:Hp} {s s':Shared} {E:XK} {e:Value}
theorem Inv.flew (I:Inv X pins σ H s) (h:CXE X.prog X.w X.stack H s E e s'):∃ C H',Inv X pins σ H' s'/\aK5 H' s.heap X.stack e C s'.heap/\E (.ref C) none H':=by
 obtain ⟨C,H',ho,hb,hu,hok,fl,hE⟩:=h
 exact ⟨C,H',I.aJ3 (ch:=[]) ho hu hok hb (by simp),fl,hE⟩
theorem Y3 (I:Inv X pins σ H s) {b:Addr} (hb:b ∈ frs X.stack):∃ o,s.heap.get? b=some o/\∀ vs,o.data ≠ .fields vs:=(I.stack.mem hb).2
theorem aJ1 {h'':Heap} {B:Heap} {ea C:Addr} {a0:Value} (I:Inv X pins σ H s) (hst:X.stack=X.env :: X.outer) (hex:X.ex=[]) (hf:X.env.frame=some X.env.locals)
  (inB:∀ b o,s.heap.get? b=some o->b ∉ frs X.stack->(H b ≠ none \/ ∃ o0,X.s₀.heap.get? b=some o0)->B.get? b=some o)
  (sl:∀ b ∈ frs X.stack,∀ o,s.heap.get? b=some o->∃ sl,h''.get? b=some { o with slots:=sl })
  (fw:Heap.FlyingW B X.outer ea (.ref C) a0 h'') (hE:E (.ref C) none H):CXE X.prog X.w X.outer X.H₀ X.s₀ E (.ref ea) { s with heap:=h'' }:=by
 have hsub:∀ b,b ∈ frs X.outer->b ∈ frs X.stack:=fun b hb=>by rw [hst];unfold frs at hb ⊢;rw [List.filterMap_cons,hf];exact List.mem_cons_of_mem _ hb
 have nost:∀ b o,X.s₀.heap.get? b=some o->b ∉ frs X.outer->b ∉ frs X.stack:=fun b o e hb z=>by
  rcases List.mem_cons.mp (I.S3 b z) with z | z
  ·exact absurd (Heap.lt_size e) (by rw [z];exact Nat.not_lt.mpr I.ok.above)
  ·exact hb z
 have trk:∀ b u,H b=some u->b ∉ frs X.stack:=fun b u e z=>by rw [I.ab9 b z] at e;cases e
 have kept:∀ b o,s.heap.get? b=some o->b ∉ frs X.stack->(H b ≠ none \/ ∃ o0,X.s₀.heap.get? b=some o0)->h''.get? b=some o:=fun b o e n q=>fw.1 b o (inB b o e n q)
 have nex:∀ b,b ∉ X.ex:=fun b=>by rw [hex];simp
 refine ⟨C,H,I.os,I.bare,⟨?_,?_,?_,?_,I.base.tups,I.base.frzs,I.base.tbls⟩,?_,⟨ea,a0,B,rfl,fw,?_⟩,hE⟩
 ·exact fun b o e n1 n2 _=>kept b o (I.base.keep b o e n1 n2 (nex b)) (nost b o e n2) (.inr ⟨o,e⟩)
 ·intro b o e n1 n2 _
  obtain ⟨sl1,e1⟩:=I.base.slot b o e n1 n2 (nex b)
  obtain ⟨sl2,e2⟩:=sl b (hsub b n2) _ e1
  exact ⟨sl2,e2⟩
 ·exact fun b o e n1 _=>I.base.free b o e n1 (nex b)
 ·intro b o e _
  obtain ⟨o1,e1⟩:=I.base.there b o e (nex b)
  by_cases hb:b ∈ frs X.stack
  ·obtain ⟨sl2,e2⟩:=sl b hb _ e1
   exact ⟨_,e2⟩
  ·exact ⟨o1,kept b o1 e1 hb (.inr ⟨o,e⟩)⟩
 ·intro a o e
  exact (I.hok a o e).Z6 (fun b u hb q=>by
   have hb':∃ v,H b=some v:=by
    rcases hb with rfl | hb
    ·exact ⟨o,e⟩
    ·exact ⟨_,hb⟩
   obtain ⟨v,hv⟩:=hb'
   exact kept b u q (trk b v hv) (.inl (by rw [hv];simp))) (fun b hb=>hb) (fun b xs hb=>hb)
 ·intro b o e n q
  rcases q with q | ⟨o0,q⟩
  ·obtain ⟨v,hv⟩:=Option.ne_none_iff_exists'.mp q
   obtain ⟨o1,e1⟩:=(I.hok b v hv).get
   have z:=inB b o1 e1 (trk b v hv) (.inl (by rw [hv];simp))
   have z':=fw.1 b o1 z
   have:o=o1:=by
    have e':h''.get? b=some o:=e
    rw [z'] at e';exact (Option.some.inj e').symm
   subst this
   exact z
  ·obtain ⟨o1,e1⟩:=I.base.there b o0 q (nex b)
   have z:=inB b o1 e1 (nost b o0 q n) (.inr ⟨o0,q⟩)
   have z':=fw.1 b o1 z
   have:o=o1:=by
    have e':h''.get? b=some o:=e
    rw [z'] at e';exact (Option.some.inj e').symm
   subst this
   exact z
theorem ax2 {h0:Heap} {C:Addr} {Ex:Value->Shared->Prop} (I:Inv X pins σ H s) (fl:aK5 H h0 X.stack e C s.heap) (h0k:∀ b o,X.s₀.heap.get? b=some o->∃ o',h0.get? b=some o') (hst:X.stack=X.env :: X.outer) (hex:X.ex=[])
  (hf:X.env.frame=some X.env.locals) (hE:E (.ref C) none H):wpAny (model X.prog X.w) X.A (leaving X.env e) (fun _ s''=>CXE X.prog X.w X.outer X.H₀ X.s₀ E e s'') Ex s:=by
 obtain ⟨ea,a0,B,rfl,fw,hB⟩:=fl
 have fw0:=fw
 rw [hst] at fw
 refine wpAny_leaves_onW (by rw [I.ok.frames,hst]) hf fw fun h'' fw' us=>?_
 refine aJ1 I hst hex hf (fun b o e n q=>hB b o e n (q.imp id fun ⟨o0,q⟩=>h0k b o0 q)) (fun b hb o e=>?_) fw' hE
 obtain ⟨o1,e1,nf⟩:=Y3 I hb
 rw [e] at e1;cases e1
 exact us b o e nf
theorem aI0 {h':Heap} {ea C:Addr} {vs:List Value} {Ex:Value->Shared->Prop} (I:Inv X pins σ H s) (hx:Heap.MadeExcOf s.heap h' ea (.ref C) vs) (hst:X.stack=X.env :: X.outer) (hex:X.ex=[])
  (hf:X.env.frame=some X.env.locals) (hE:E (.ref C) none H):wpAny (model X.prog X.w) X.A (leaving X.env (.ref ea)) (fun _ s''=>CXE X.prog X.w X.outer X.H₀ X.s₀ E (.ref ea) s'') Ex { s with heap:=h' }:=by
 have hfn:=I.stack
 rw [hst] at hfn
 have hin:∀ env ∈ (X.env :: X.outer),∀ b,env.frame=some b->b ∈ frs X.stack:=fun env he b hb=>by rw [hst];exact List.mem_filterMap.mpr ⟨env,he,hb⟩
 refine wpAny_leaves_madeW (s:={ s with heap:=h' }) (base:=PySem.W.hideAll s.heap (frs X.stack)) (h:=s.heap) (by rw [I.ok.frames,hst]) hf (fun b o q=>PySem.W.of_hideAll _ q) (PySem.W.funFrames_hide hfn hin) hx fun h'' t fw _ _ us=>?_
 refine (show CXE X.prog X.w X.outer X.H₀ X.s₀ E (.ref ea) { s with heap:=h'' } from aJ1 I hst hex hf (fun b o e n _=>PySem.W.hideAll_get _ e n) (fun b hb o e=>?_) fw hE)
 obtain ⟨o1,e1,nf⟩:=Y3 I hb
 rw [e] at e1;cases e1
 exact us b o (hx.keeps b o e) nf
theorem aT3 {l:List Env} {H H':Hp} {h0 h h1 B:Heap} {Pg:Program} {w:World} (u:Un (frs l) [] H H' h0 h) (ok:HOk Pg w H' h)
  (hB:∀ b o,h.get? b=some o->b ∉ frs l->(H' b ≠ none \/ ∃ o0,h0.get? b=some o0)->B.get? b=some o) (st:B.StaysIn h1) (us:h.UpToSlots h1)
  (hfr:∀ b ∈ frs l,H' b=none/\∃ o,h.get? b=some o/\∀ vs,o.data ≠ .fields vs):Un (frs l) [] H H' h0 h1/\HOk Pg w H' h1/\∀ b o,h1.get? b=some o->b ∉ frs l->(H' b ≠ none \/ ∃ o0,h0.get? b=some o0)->B.get? b=some o:=by
 have trk:∀ b u,H' b=some u->b ∉ frs l:=fun b u e z=>by rw [(hfr b z).1] at e;cases e
 have kept:∀ b o,h.get? b=some o->b ∉ frs l->(H' b ≠ none \/ ∃ o0,h0.get? b=some o0)->h1.get? b=some o:=fun b o e n q=>st b o (hB b o e n q)
 have fsl:∀ b ∈ frs l,∀ o,h.get? b=some o->∃ sl,h1.get? b=some { o with slots:=sl }:=fun b hb o e=>by
  obtain ⟨_,o1,e1,nf⟩:=hfr b hb
  rw [e] at e1;cases e1
  exact us b o e nf
 refine ⟨⟨?_,?_,u.free,?_,u.tups,u.frzs,u.tbls⟩,?_,?_⟩
 ·exact fun b o e n1 n2 n3=>kept b o (u.keep b o e n1 n2 n3) n2 (.inr ⟨o,e⟩)
 ·intro b o e n1 n2 n3
  obtain ⟨sl1,e1⟩:=u.slot b o e n1 n2 n3
  obtain ⟨sl2,e2⟩:=fsl b n2 _ e1
  exact ⟨sl2,e2⟩
 ·intro b o e n
  obtain ⟨o1,e1⟩:=u.there b o e n
  by_cases hb:b ∈ frs l
  ·obtain ⟨sl2,e2⟩:=fsl b hb _ e1
   exact ⟨_,e2⟩
  ·exact ⟨o1,kept b o1 e1 hb (.inr ⟨o,e⟩)⟩
 ·intro a o e
  exact (ok a o e).Z6 (fun b u hb q=>by
   have hb':∃ v,H' b=some v:=by
    rcases hb with rfl | hb
    ·exact ⟨o,e⟩
    ·exact ⟨_,hb⟩
   obtain ⟨v,hv⟩:=hb'
   exact kept b u q (trk b v hv) (.inl (by rw [hv];simp))) (fun b hb=>hb) (fun b xs hb=>hb)
 ·intro b o e n q
  have:∃ o1,h.get? b=some o1:=by
   rcases q with q | ⟨o0,q⟩
   ·obtain ⟨v,hv⟩:=Option.ne_none_iff_exists'.mp q
    exact (ok b v hv).get
   ·exact u.there b o0 q (by simp)
  obtain ⟨o1,e1⟩:=this
  have z:=hB b o1 e1 n q
  rw [st b o1 z] at e
  cases e
  exact z
section
variable {s':Shared}
structure Lies (X:Cx) (H H':Hp) (s:Shared) (B:Heap) (ea C:Addr) (a0:Value) (s':Shared):Prop where
 os:s'.os=s.os
 bare:AllBare s'.gens
 un:Un (frs X.stack) [] H H' s.heap s'.heap
 hok:HOk X.prog X.w H' s'.heap
 inB:∀ b o,s'.heap.get? b=some o->b ∉ frs X.stack->(H' b ≠ none \/ ∃ o0,s.heap.get? b=some o0)->B.get? b=some o
theorem Lies.inv {H':Hp} {B:Heap} {ea C:Addr} {a0:Value} (I:Inv X pins σ H s) (l:Lies X H H' s B ea C a0 s'):Inv X pins σ H' s':=I.aJ3 (ch:=[]) l.os l.un l.hok l.bare (by simp)
theorem leave_held {H':Hp} {B:Heap} {ea C:Addr} {a0:Value} {Ex:Value->Shared->Prop} (I:Inv X pins σ H s) (l:Lies X H H' s B ea C a0 s') (hh:Heap.HeldW B X.stack ea (.ref C) a0 X.env.locals s'.heap) (hst:X.stack=X.env :: X.outer) (hex:X.ex=[])
  (hf:X.env.frame=some X.env.locals) (hE:E (.ref C) none H'):wpAny (model X.prog X.w) X.A (leaving X.env (.ref ea)) (fun _ s''=>CXE X.prog X.w X.outer X.H₀ X.s₀ E (.ref ea) s'') Ex s':=by
 have J:=l.inv I
 have hh':=hh
 rw [hst] at hh'
 unfold leaving
 refine wpAny_bind (wpAny_noteFrame_againW hf hh'.2.2.2 ?_)
 refine wpAny_landsW hh' fun h'' fl us=>?_
 obtain ⟨k1,k2,⟨_,_,k3⟩,k4⟩:=fl
 refine aJ1 J hst hex hf (fun b o e n q=>l.inB b o e n (q.imp id fun ⟨o0,q⟩=>I.base.there b o0 q (by rw [hex];simp))) (fun b hb o e=>?_) ⟨k1,k2,k3,k4⟩ hE
 obtain ⟨o1,e1,nf⟩:=Y3 J hb
 rw [e] at e1;cases e1
 exact us b o e nf
end
noncomputable def ae2 (X:Cx) (Ξ:XK):Prop:=∀ (pins:List (Addr × Obj)) (σ:St) (H:Hp) (s:Shared) (h':Heap) (ea C:Addr) (vs:List Value),Inv X pins σ H s->Heap.MadeExcOf s.heap h' ea (.ref C) vs->Ξ (.ref C) none H->X.xe (.ref ea) { s with heap:=h' }
noncomputable def ab6 (X:Cx) (Ξ:XK):Prop:=∀ (pins:List (Addr × Obj)) (σ:St) (H H':Hp) (s s':Shared) (B:Heap) (ea C:Addr) (a0:Value),Inv X pins σ H s->Lies X H H' s B ea C a0 s'->Heap.HeldW B X.stack ea (.ref C) a0 X.env.locals s'.heap->Ξ (.ref C) none H'->X.xe (.ref ea) s'
noncomputable def bj2 (C:Addr) (Ξ:XK) (t:TA):TS:=fun _ σ H=>t σ H fun vs H1=>vs.length <= sizeLine/\Ξ (.ref C) none H1
theorem aW1 {x:Str} {C:Addr} {B newId initId:String} {bm:List Value} {np cpos pos:Pos} {e₀:Expr} {rest:List Expr} {t:TA} {Ξ:XK} (hc:X.calm=true) (O:OwnCls x C bm newId X.mg X.base) (FB:ExcBaseFacts B newId initId bm) (hg:Gl X x)
  (ha:PA X (e₀ :: rest) t) (hr:ae2 X Ξ) (he:starEach (e₀ :: rest) X.env=(false,eval e₀ X.env) :: starEach rest X.env) (hplain:(backTo cpos (starEach rest X.env)).any (·.1)=false) (hd:(x == ("__debug__":Str))=false) :
  PS X (.Raise (some (.Call (.Name x np) (e₀ :: rest) [] cpos)) none pos) (bj2 C Ξ t):=by
 intro pins s σ H D I h
 obtain ⟨tl,N,nm,q,bs,hdct,sn,sub,ab,col,dd,k0,k1,k2,k3,k5,mN,hC,hN,hni,T⟩:=O.obj
 refine wpAny_Raise_call_subT (C:=C) (nm:=nm) (q:=q) (N:=N) (bs:=bs) (bm:=tl) (hdct:=hdct) (sn:=sn) (sub:=sub) (ab:=ab) (col:=col) (dd:=dd) (k0:=k0) (k1:=k1) (k2:=k2) (k3:=k3) (k5:=k5)
  FB (mN:=mN) (T.hasType FB.hasBase) (I.ok.hd hc) (by rw [he];show (false || (backTo cpos (starEach rest X.env)).any (·.1))=false;rw [hplain];rfl) hni (R8 I hg O.bound ⟨rfl,?_⟩ hd)
 have h':=ha cpos pins s σ H _ I h
 rw [he] at h' ⊢
 refine Calls.evalArgs_plain (wpAny_mono h' (fun vs s₂ h₂=>?_) fun _ _ y=>y)
 obtain ⟨ws,H1,I1,rv,hz,hE⟩:=h₂
 exact ⟨rfl,by rw [<- rv.length];exact hz,I1.bk _ _ hC,hN.keeps I1.bk,T.keeps I1.bk,fun h2 ea hm=>hr pins σ H1 s₂ h2 ea C vs I1 hm hE⟩
noncomputable def T8 (X:Cx) (pins:List (Addr × Obj)) (xe:Value->Shared->Prop):Cx:={ X with pn:=X.pn ++ pins,xe:=xe }
noncomputable def B0 (X:Cx) (ea:Addr):Cx:={ X with A:=X.A.mark (some (.ref ea)),calm:=false,xe:=fun _ _=>False }
theorem Inv.bv2 {xe:Value->Shared->Prop} (I:Inv X pins σ H s):Inv (T8 X pins xe) [] σ H s :=
 ⟨⟨I.ok.mod,I.ok.kind,I.ok.glob,I.ok.blt,I.ok.above,I.ok.inj,I.ok.has,I.ok.cab,I.ok.hd,I.ok.frames,I.ok.stk,I.ok.exf,I.ok.bs,I.ok.bsz,I.ok.noex,I.ok.exfs,I.ok.L7,I.ok.frf⟩,I.os,I.bare,I.base,I.loc,I.cell,I.free,I.freeC,
  fun p hp=>I.pin p (by simpa [T8] using hp),I.hok,I.len⟩
theorem Inv.X3 {xe:Value->Shared->Prop} {pins':List (Addr × Obj)} (I:Inv (T8 X pins xe) pins' σ H s):Inv X pins σ H s :=
 ⟨⟨I.ok.mod,I.ok.kind,I.ok.glob,I.ok.blt,I.ok.above,I.ok.inj,I.ok.has,I.ok.cab,I.ok.hd,I.ok.frames,I.ok.stk,I.ok.exf,I.ok.bs,I.ok.bsz,I.ok.noex,I.ok.exfs,I.ok.L7,I.ok.frf⟩,I.os,I.bare,I.base,I.loc,I.cell,I.free,I.freeC,
  fun p hp=>I.pin p (List.mem_append_left _ hp),I.hok,I.len⟩
theorem Inv.aL6 {ea:Addr} (I:Inv X pins σ H s):Inv (B0 X ea) pins σ H s :=
 ⟨⟨I.ok.mod,I.ok.kind,I.ok.glob,I.ok.blt,I.ok.above,I.ok.inj,I.ok.has,I.ok.cab,fun z=>(by cases z),I.ok.frames,I.ok.stk,I.ok.exf,I.ok.bs,I.ok.bsz,I.ok.noex,I.ok.exfs,I.ok.L7,I.ok.frf⟩,I.os,I.bare,I.base,I.loc,I.cell,I.free,I.freeC,I.pin,I.hok,I.len⟩
theorem Inv.V5 {ea:Addr} (J:X.Ok) (I:Inv (B0 X ea) pins σ H s):Inv X pins σ H s :=
 ⟨J,I.os,I.bare,I.base,I.loc,I.cell,I.free,I.freeC,I.pin,I.hok,I.len⟩
theorem SP.X3 {xe:Value->Shared->Prop} {D:Ends} {f:Flow} (h:SP (T8 X pins xe) [] D f s):SP X pins D f s:=by
 cases f with
 | next=>obtain ⟨a,b,I,q⟩:=h;exact ⟨a,b,I.X3,q⟩
 | brk=>obtain ⟨a,b,I,q⟩:=h;exact ⟨a,b,I.X3,q⟩
 | cont=>obtain ⟨a,b,I,q⟩:=h;exact ⟨a,b,I.X3,q⟩
 | ret u=>obtain ⟨v,a,b,I,r,q⟩:=h;exact ⟨v,a,b,I.X3,r,q⟩
theorem SP.V5 {ea:Addr} {D:Ends} {f:Flow} (J:X.Ok) (h:SP (B0 X ea) pins D f s):SP X pins D f s:=by
 cases f with
 | next=>obtain ⟨a,b,I,q⟩:=h;exact ⟨a,b,I.V5 J,q⟩
 | brk=>obtain ⟨a,b,I,q⟩:=h;exact ⟨a,b,I.V5 J,q⟩
 | cont=>obtain ⟨a,b,I,q⟩:=h;exact ⟨a,b,I.V5 J,q⟩
 | ret u=>obtain ⟨v,a,b,I,r,q⟩:=h;exact ⟨v,a,b,I.V5 J,r,q⟩
noncomputable def Z0 (X:Cx) (D:Ends) (C:Addr) (H:Hp):List ExceptHandler->Prop
 | .ExceptHandler (some (.Name x _)) none (b₀ :: suite) _ :: rest=>Gl X x/\(x == ("__debug__":Str))=false/\∃ C' b,X.mg x=some (.ref C')/\PySem.W.exmOne X.K (.ref C) (.ref C')=some b /\
   (if b=true then ∃ t:TS,(∀ ea,PSs (B0 X ea) (b₀ :: suite) t)/\t D (List.replicate X.N.length none) H else Z0 X D C H rest)
 | []=>∃ Ξ:XK,ab6 X Ξ/\Ξ (.ref C) none H
 | _=>False
end
end L2

namespace L2
open PySem PySem.Spec PyProof.Rows
section
variable {X:Cx} {pins:List (Addr × Obj)} {σ:St} {H H':Hp} {s s':Shared} {e:Value} {D:Ends}
noncomputable def ab8 (X:Cx) (pins:List (Addr × Obj)) (D:Ends) (hs:List ExceptHandler):Value->Shared->Prop:=fun e s₁ =>
 wpAny (model X.prog X.w) X.A (noteFrame e X.env) (fun _ s₂=>wpAny (model X.prog X.w) X.A (setFlight e none) (fun _ s₃=>wpAny (model X.prog X.w) X.A (handleBy e X.env hs) (SP X pins D) X.xe s₃) X.xe s₂) X.xe s₁
theorem Lies.step {B h1:Heap} {ea C:Addr} {a0:Value} (I:Inv X pins σ H s) (l:Lies X H H' s B ea C a0 s') (st:B.StaysIn h1) (us:s'.heap.UpToSlots h1):Lies X H H' s B ea C a0 { s' with heap:=h1 }:=by
 have J:=l.inv I
 obtain ⟨u,ok,ib⟩:=aT3 l.un l.hok l.inB st us fun b hb=>⟨J.ab9 b hb,Y3 J hb⟩
 exact ⟨l.os,l.bare,u,ok,ib⟩
theorem aA9 {s:Shared} {B:Heap} {l:List Env} {ea L:Addr} {cls a0:Value} {A:Around} {M:Model} {E:Value->Shared->Prop} {Q:Unit->Shared->Prop} (fw:Heap.FlyingW B l ea cls a0 s.heap)
  (h:∀ h',Heap.HeldW B l ea cls a0 L h'->(∀ b o,s.heap.get? b=some o->(∀ vs,o.data ≠ .fields vs)->h'.get? b=some o)->Q () { s with heap:=h' }):wpAny M A (setFlight (.ref ea) (some L)) Q E s:=by
 obtain ⟨f1,f2,f3,oe,vs,T,oT,ts,he,hcls,hd,h1,hnT,hTe,hT,hdT,h3⟩:=fw
 have hsz3:3 < ts.size:=(Array.getElem?_eq_some_iff.mp h3).1
 have other:∀ b,b ≠ T->(s.heap.update T (Obj.mapFields (·.setIfInBounds 3 ((some L).elim Value.none fun f=>rawInt f)))).get? b=s.heap.get? b :=
  fun b hb=>Heap.get?_update_other _ _ (Ne.symm hb)
 have noRecord:∀ b o,s.heap.get? b=some o->(∀ vs,o.data ≠ .fields vs)->b ≠ T:=fun b o hb hnf q=>by
  rw [q,hT] at hb;injection hb with hb;subst hb;exact hnf ts hdT
 unfold setFlight
 refine wpAny_bind (wpAny_field he hd h1 ?_)
 rw [if_pos (show (Value.ref T != Value.none)=true from by simp)]
 refine wpAny_setField hT hdT hsz3 (h _ ⟨fun b o hbo=>(other b fun q=>by rw [q,hnT] at hbo;cases hbo).trans (f1 b o hbo),f2,
  f3.of_keeps fun b o hb hnf=>⟨o,(other b (noRecord b o hb hnf)).trans hb,rfl⟩,?_⟩ fun b o hb hnf=>(other b (noRecord b o hb hnf)).trans hb)
 exact ⟨oe,vs,T,_,_,(other ea (Ne.symm hTe)).trans he,hcls,hd,h1,hnT,hTe,Heap.get?_update_self _ hT (Obj.isFreed_of_fields (Obj.data_mapFields hdT _)),Obj.data_mapFields hdT _,by simp [hsz3]⟩
theorem aq8 {B:Heap} {ea C:Addr} {a0:Value} (hf:X.env.frame=some X.env.locals):∀ (hs:List ExceptHandler) (s':Shared),Inv X pins σ H s->Lies X H H' s B ea C a0 s'->Heap.FlyingW B X.stack ea (.ref C) a0 s'.heap->Z0 X D C H' hs ->
  wpAny (model X.prog X.w) X.A (handleBy (.ref ea) X.env hs) (SP X pins D) X.xe s'
 | [],s',I,l,fw,t=>by
  obtain ⟨Ξ,hh,hE⟩:=t
  refine wpAny_handleBy_nil ?_
  unfold PySem.passOn
  obtain ⟨f1,f2,f3,oe,vs,T,oT,ts,he,hcls,hd,h1,_⟩:=id fw
  refine wpAny_bind (wpAny_field he hd h1 ?_)
  rw [if_neg (by simp),hf]
  refine wpAny_bind (aA9 fw fun h2 held k=>wpAny_throw ?_)
  have l2:=l.step I held.1 (fun b o hb hn=>⟨o.slots,k b o hb hn⟩)
  exact hh pins σ H H' s _ B ea C a0 I l2 held hE
 | .ExceptHandler none _ _ _ :: _,_,_,_,_,t=>t.elim
 | .ExceptHandler (some e) nm bd pos :: rest,s',I,l,fw,t=>by
  cases e
  case Name x np =>
   cases nm with
   | some y=>exact t.elim
   | none =>
    cases bd with
    | nil=>exact t.elim
    | cons b₀ suite =>
     obtain ⟨hg,hdb,C',b,hm,hx,q⟩:=t
     have J:=l.inv I
     have JM:Inv (B0 X ea) pins σ H' s':=J.aL6
     have LT:PySem.W.Looks (model X.prog X.w) s'.heap (typeOf (.ref ea)) (.ref C):=fun A Q E s2 k q=>by
      obtain ⟨ob,ho,hc⟩:=fw.there
      exact wpAny_typeOf_ref (k _ _ ho) (by rw [hc];exact q)
     refine wpAny_handleBy_cons (codeAny_handlers_test ?_) (by intro z;cases z)
     refine R8 (X:=B0 X ea) JM hg hm ?_ hdb
     refine (PySem.W.exm_one (M:=model X.prog X.w) J.kIn LT hx).here ?_
     cases b with
     | false =>
      simp only [Bool.false_eq_true,if_false] at q
      exact aq8 hf rest s' I l fw q
     | true =>
      simp only [if_true] at q
      obtain ⟨t,ht,hq⟩:=q
      refine codeAny_handlers_suite ?_
      refine wpAny_setFlight_noneW fw.1 fw.2.2.1 fw.2.2.2.at fun h2 k1 k2 k3 k4=>?_
      have l2:=l.step I k1 (fun b o hb hn=>⟨o.slots,k4 b o hb hn⟩)
      have J2:=l2.inv I
      have J3:Inv (B0 X ea) pins (List.replicate X.N.length none) H' { s' with heap:=h2 }:=(J2.weak (by rw [List.length_replicate,J2.len]) fun i v z=>by
       rw [List.getElem?_replicate] at z;split at z <;> cases z).aL6
      refine wpAny_mono (ht ea pins _ _ H' D J3 hq) (fun f s2 hf=>hf.V5 I.ok) fun _ _ z=>z.elim
  all_goals exact t.elim
theorem aX2 {hs:List ExceptHandler} {Ξ:XK} (hst:X.stack=X.env :: X.outer) (hf:X.env.frame=some X.env.locals) (hT:∀ C H',Ξ (.ref C) none H'->Z0 X D C H' hs) :
  Passes (CXE X.prog X.w) (T8 X pins (ab8 X pins D hs)) Ξ:=by
 intro pins' σ H s e s' I0 h
 have I:Inv X pins σ H s:=I0.X3
 obtain ⟨C,H',ho,hb,hu,hok,⟨ea,a0,B,rfl,fw,hB⟩,hE⟩:=h
 have l:Lies X H H' s B ea C a0 s':=⟨ho,hb,hu,hok,hB⟩
 have fw:Heap.FlyingW B X.stack ea (.ref C) a0 s'.heap:=fw
 show ab8 X pins D hs (.ref ea) s'
 unfold ab8
 have fw':=fw
 rw [hst] at fw'
 refine wpAny_looks_onW (by rw [I.ok.frames,hst]) hf fw' fun h1 held us=>?_
 have l1:=l.step I held.1 us
 refine wpAny_landsW held fun h2 fl us2=>?_
 have l2:=l1.step I fl.1 us2
 rw [<- hst] at fl
 exact aq8 hf hs _ I l2 fl (hT C H' hE)
theorem bn5 {hs:List ExceptHandler} {h₀:ExceptHandler} {body:List Stmt} {pos:Pos} {t:Ends->TS} {Ξ:Ends->XK} (hst:X.stack=X.env :: X.outer) (hf:X.env.frame=some X.env.locals)
  (hb:∀ pins D,(∀ C H',Ξ D (.ref C) none H'->Z0 X D C H' (h₀ :: hs))->PSs (T8 X pins (ab8 X pins D (h₀ :: hs))) body (t D)) :
  PS X (.Try body (h₀ :: hs) [] [] pos) (fun D σ H=>(∀ C H',Ξ D (.ref C) none H'->Z0 X D C H' (h₀ :: hs))/\t D D σ H):=by
 intro pins s σ H D I ⟨hT,h⟩
 refine wpAny_Try_except (wpAny_mono (hb pins D hT [] s σ H D I.bv2 h) (fun f s1 q=>?_) fun e s1 q=>q)
 have q:=q.X3
 cases f with
 | next =>
  obtain ⟨σ',H',I',q⟩:=q
  exact thn (wpAny_execs_nil ⟨σ',H',I',q⟩) fun _ _ z=>z
 | brk=>exact q
 | cont=>exact q
 | ret u=>exact q
end
end L2

namespace L2
open PySem PySem.Spec PyProof.Rows
section
variable {X:Cx}
inductive PJs (X:Cx):List Expr->List TE->Prop
 | nil:PJs X [] []
 | cons {e:Expr} {t:TE} {es:List Expr} {ts:List TE} (h:PE X e t) (r:PJs X es ts):PJs X (e :: es) (t :: ts)
noncomputable def a31:List TE->St->Hp->Str->(Str->Hp->Prop)->Prop
 | [],_,H,acc,Q=>Q acc H
 | t :: ts,σ,H,acc,Q=>t σ H fun x H1=>∃ y,x=.str y/\(acc ++ y).length <= sizeLine/\a31 ts σ H1 (acc ++ y) Q
theorem aI3 {lo:Int} {acc:Array Value} {n:Nat} (h:ItemsOf (fun i v=>∃ t,v=.int (lo + i * 1) t) acc n):Vals ((List.range n).map fun (k:Nat)=>V.int (lo + k)) acc.toList:=by
 have hl:acc.toList.length=n:=by
  have:=h.1
  simpa using this
 have go:∀ (m:Nat) (l:List Value),l.length <= n->m + l.length=n->(∀ i v,l[i]?=some v->∃ t,v=Value.int (lo + ((m + i:Nat):Int)) t)->Vals ((List.range' m l.length).map fun (k:Nat)=>V.int (lo + k)) l:=by
  intro m l
  induction l generalizing m with
  | nil=>intro _ _ _;exact .nil
  | cons x r ih =>
   intro h1 h2 h3
   simp only [List.length_cons,List.range'_succ,List.map_cons]
   refine .cons ?_ (ih (m + 1) (by simp at h1;omega) (by simp at h2;omega) fun i v hv=>?_)
   ·obtain ⟨t,e⟩:=h3 0 x rfl
    exact ⟨t,by rw [e];simp⟩
   ·obtain ⟨t,e⟩:=h3 (i + 1) v (by simpa using hv)
    exact ⟨t,by rw [e,show m + (i + 1)=m + 1 + i by omega]⟩
 have:=go 0 acc.toList (by omega) (by omega) fun i v hv=>?_
 ·rw [hl,<- List.range_eq_range'] at this
  exact this
 ·have hi:i < n:=by
   have:=(List.getElem?_eq_some_iff.mp hv).1
   omega
  have:acc[i]?=some v:=by rw [<- Array.getElem?_toList];exact hv
  obtain ⟨t,e⟩:=h.2 i v this
  refine ⟨t,?_⟩
  rw [e]
  simp
theorem Z4 (hc:X.calm=true):t6 X (.type "list") (fun xs H Q=>∃ a lo hi,xs=[.ref a]/\H a=some (.rng lo hi)/\(-(2 ^ 62) <= lo/\lo < 2 ^ 62/\-(2 ^ 62) <= hi/\hi < 2 ^ 62/\hi - lo <= 100000)/\∀ p,H p=none->Q (.ref p) (upd H p (.lst ((List.range (hi - lo).toNat).map fun (k:Nat)=>V.int (lo + k))))):=by
 intro pins s σ H xs us Q I r h
 obtain ⟨a,lo,hi,rfl,ha,⟨h1,h2,h3,h4,h5⟩,q⟩:=h
 obtain ⟨t,u,v,ho⟩:=I.hok a _ ha
 cases r with
 | cons r rr =>
 cases rr
 cases r
 have hn:Builtin.Range.rangeSize lo hi 1=((hi - lo).toNat:Nat):=by rw [rangeSize_one];split <;> omega
 refine call_list_range (n:=(hi - lo).toNat) (I.ok.hd hc) ho (small_one h1 h2 h3 h4) hn (by omega) fun h' tk' acc c hk hS hi'=>?_
 have hp:H s.heap.objs.size=none:=I.hok.fresh (Nat.le_refl _)
 refine ⟨.ref _,_,I.laid (a:=s.heap.objs.size) (o:=.lst ((List.range (hi - lo).toNat).map fun (k:Nat)=>V.int (lo + k))) (t':=tk') hk (Nat.le_refl _) ⟨?_,acc.toList,c,aI3 hi',by simpa using hS⟩,rfl,q _ hp⟩
 rw [List.length_map,List.length_range]
 have:(hi - lo).toNat <= 100000:=by omega
 exact Nat.le_trans this (by decide)
theorem aN9 {a:Expr} {ta:TA} {p pos:Pos} (hg:Gl X "range") (hm:X.mg "range"=none) (ha:PA X [a] ta) (hs:starEach [a] X.env=[(false,eval a X.env)]):PE X (.Call (.Name "range" p) [a] [] pos) (fun σ H Q=>ta σ H fun vs H1=>∃ j:Int,vs=[.int j]/\∀ q,H1 q=none->Q (.ref q) (upd H1 q (.rng 0 j))):=by
 intro pins s σ H Q I h
 refine wpAny_Call_Name_kw (T3 I hg hm boot_range (PyProof.Rows.callWith_type1 (thn (ha pos pins s σ H _ I h) fun us s1 ⟨vs,H1,I1,r1,q1⟩=>?_) hs rfl))
 obtain ⟨j,e,q⟩:=q1
 subst e
 cases r1 with
 | cons r rr =>
  cases rr
  obtain ⟨t,rfl⟩:=r
  exact call_range_1 ⟨.ref s1.heap.objs.size,_,I1.laid (a:=s1.heap.objs.size) (o:=.rng 0 j) (fun b o e=>Heap.get?_push_of_some _ e) (Nat.le_refl _) ⟨_,_,_,Heap.get?_push_size _ rfl⟩,rfl,q _ (I1.hok.fresh (Nat.le_refl _))⟩
theorem aN8 {a b:Expr} {ta:TA} {p pos:Pos} (hg:Gl X "range") (hm:X.mg "range"=none) (ha:PA X [a,b] ta) (hs:starEach [a,b] X.env=[(false,eval a X.env),(false,eval b X.env)]) (hs2:starEach [b] X.env=[(false,eval b X.env)]):PE X (.Call (.Name "range" p) [a,b] [] pos) (fun σ H Q=>ta σ H fun vs H1=>∃ i j:Int,vs=[.int i,.int j]/\∀ q,H1 q=none->Q (.ref q) (upd H1 q (.rng i j))):=by
 intro pins s σ H Q I h
 refine wpAny_Call_Name_kw (T3 I hg hm boot_range (PyProof.Rows.callWith_type1 (thn (ha pos pins s σ H _ I h) fun us s1 ⟨vs,H1,I1,r1,q1⟩=>?_) (by rw [hs,hs2]) (by rw [hs2];rfl)))
 obtain ⟨i,j,e,q⟩:=q1
 subst e
 cases r1 with
 | cons r rr =>
  cases rr with
  | cons r' rr =>
   cases rr
   obtain ⟨t,rfl⟩:=r
   obtain ⟨t',rfl⟩:=r'
   exact call_range_2 ⟨.ref s1.heap.objs.size,_,I1.laid (a:=s1.heap.objs.size) (o:=.rng i j) (fun b o e=>Heap.get?_push_of_some _ e) (Nat.le_refl _) ⟨_,_,_,Heap.get?_push_size _ rfl⟩,rfl,q _ (I1.hok.fresh (Nat.le_refl _))⟩
noncomputable def a90 (K:PySem.W.Frag) (P:Params) (a:Addr) (kvs:List (Str × V)):Prop :=
 ∃ es n,K.lookup a=some ⟨.type "dict",none,.dict es n,#[]⟩/\PySem.W.KeysLit P es.toList/\(a == sysModules)=false/\∀ x,A8 (kvs.lookup x) (findBy Value.isStrOf es x)
theorem bf4 (hu:X.A.units + 1 < cLine):IxR X (fun x y H Q=>∃ a v,x=.ref a/\U8 H a y (some v)/\Q v H):=by
 intro value slice pins s σ H x y v u Q I rx ry h hs
 obtain ⟨a,d,rfl,g,q⟩:=h
 cases rx
 exact tail_any (aB1 I g) slot_dict_getitem.lookup (aR8 hu I g ry fun w' s3 I3 rw'=>⟨d,H,I3,rw',q⟩) hs
end
end L2

namespace ST
open PySem PyProof.Rows
noncomputable abbrev Ris (xs:Array Nat):Prop:=xs.toList.Pairwise (· < ·)
theorem Ris.lt {xs:Array Nat} (h:Ris xs) {i k:Nat} (hik:i < k) (hk:k < xs.size):xs.getD i 0 < xs.getD k 0:=by
 have:=List.pairwise_iff_getElem.mp h i k (by simpa using Nat.lt_trans hik hk) (by simpa using hk) hik
 simp only [Array.getElem_toList] at this
 rw [<- Array.getElem_eq_getD (h:=Nat.lt_trans hik hk),<- Array.getElem_eq_getD (h:=hk)]
 exact this
theorem Ris.le {xs:Array Nat} (h:Ris xs) {i k:Nat} (hik:i <= k) (hk:k < xs.size):xs.getD i 0 <= xs.getD k 0:=by
 rcases Nat.eq_or_lt_of_le hik with e | e
 ·rw [e];exact Nat.le_refl _
 ·exact Nat.le_of_lt (h.lt e hk)
theorem ao1 {xs:Array Nat} {j:Nat} (h:Ris xs):∀ (fuel lo hi:Nat),hi - lo <= fuel->lo <= hi->hi <= xs.size->(∀ i,i < lo->xs.getD i 0 < j)->(∀ i,hi <= i->i < xs.size->j <= xs.getD i 0) ->
  SetTable.below.go xs j fuel lo hi <= xs.size/\(∀ i,i < SetTable.below.go xs j fuel lo hi->xs.getD i 0 < j)/\∀ i,SetTable.below.go xs j fuel lo hi <= i->i < xs.size->j <= xs.getD i 0
 | 0,lo,hi,h1,h2,h3,h4,h5=>by
  unfold SetTable.below.go
  have:lo=hi:=by omega
  subst this
  exact ⟨h3,h4,h5⟩
 | fuel + 1,lo,hi,h1,h2,h3,h4,h5=>by
  unfold SetTable.below.go
  split
  ·rename_i hl
   have hm:(lo + hi) / 2 < xs.size:=by omega
   have em:xs.getD ((lo + hi) / 2) j=xs.getD ((lo + hi) / 2) 0:=by simp [Array.getD,hm]
   dsimp only
   rw [em]
   by_cases hc:xs.getD ((lo + hi) / 2) 0 < j
   ·rw [if_pos hc]
    exact ao1 h fuel _ hi (by omega) (by omega) h3 (fun i hi'=>Nat.lt_of_le_of_lt (h.le (by omega) hm) hc) h5
   ·rw [if_neg hc]
    exact ao1 h fuel lo _ (by omega) (by omega) (by omega) h4 fun i hi' hs=>Nat.le_trans (Nat.le_of_not_lt hc) (h.le hi' hs)
  ·have:lo=hi:=by omega
   subst this
   exact ⟨h3,h4,h5⟩
theorem Q9 {xs:Array Nat} (j:Nat) (h:Ris xs):SetTable.below xs j <= xs.size/\(∀ i,i < SetTable.below xs j->xs.getD i 0 < j)/\∀ i,SetTable.below xs j <= i->i < xs.size->j <= xs.getD i 0 :=
 ao1 h _ 0 _ (by omega) (by omega) (Nat.le_refl _) (fun i hi=>absurd hi (Nat.not_lt_zero _)) fun i h1 h2=>absurd h2 (by omega)
theorem below_at {xs:Array Nat} (h:Ris xs) {i:Nat} (hi:i < xs.size):SetTable.below xs (xs.getD i 0)=i:=by
 obtain ⟨h1,h2,h3⟩:=Q9 (xs.getD i 0) h
 rcases Nat.lt_trichotomy (SetTable.below xs (xs.getD i 0)) i with z | z | z
 ·exact absurd (h3 _ (Nat.le_refl _) (by omega)) (Nat.not_le_of_lt (h.lt z hi))
 ·exact z
 ·exact absurd (h2 i z) (Nat.lt_irrefl _)
theorem aJ6 {xs:Array Nat} (h:Ris xs) {i:Nat} (hi:i < xs.size):SetTable.below xs (xs.getD i 0 + 1)=i + 1:=by
 obtain ⟨h1,h2,h3⟩:=Q9 (xs.getD i 0 + 1) h
 rcases Nat.lt_trichotomy (SetTable.below xs (xs.getD i 0 + 1)) (i + 1) with z | z | z
 ·have:=h3 i (by omega) hi;omega
 ·exact z
 ·have:=h2 (i + 1) z
  have:=h.lt (Nat.lt_succ_self i) (k:=i + 1) (by omega)
  omega
theorem aJ5 {xs:Array Nat} (h:Ris xs):SetTable.below xs 0=0:=by
 obtain ⟨_,h2,_⟩:=Q9 0 h
 rcases Nat.eq_zero_or_pos (SetTable.below xs 0) with z | z
 ·exact z
 ·exact absurd (h2 0 z) (Nat.not_lt_zero _)
theorem getD_mem {xs:Array Nat} {i:Nat} (hi:i < xs.size):xs[i]?=some (xs.getD i 0):=by simp [Array.getD,hi]
theorem aF8 {t:SetTable} {j:Nat} (h:Ris t.place) (hs:t.slot j=.empty):j ∉ t.place.toList:=by
 intro hm
 obtain ⟨i,hi,e⟩:=List.mem_iff_getElem.mp hm
 have hi':i < t.place.size:=by simpa using hi
 have ej:t.place.getD i 0=j:=by rw [<- Array.getElem_eq_getD (h:=hi')];simpa using e
 have hb:=below_at h hi'
 rw [ej] at hb
 unfold SetTable.slot at hs
 dsimp only at hs
 rw [hb,getD_mem hi',ej] at hs
 simp at hs
theorem aG1 {xs:Array Nat} {j:Nat} (h:Ris xs) (hj:j ∉ xs.toList):Ris (SetTable.insertAt xs (SetTable.below xs j) j):=by
 obtain ⟨h1,h2,h3⟩:=Q9 j h
 show (SetTable.insertAt xs (SetTable.below xs j) j).toList.Pairwise (· < ·)
 rw [SetTable.toList_insertAt,List.pairwise_append]
 have tk:∀ a ∈ xs.toList.take (SetTable.below xs j),a < j:=fun a ha=>by
  obtain ⟨i,hi,e⟩:=List.mem_iff_getElem.mp ha
  rw [List.length_take] at hi
  rw [List.getElem_take] at e
  have hs:i < xs.size:=by simp at hi;omega
  have:=h2 i (by omega)
  rw [<- Array.getElem_eq_getD (h:=hs)] at this
  simp at e
  omega
 have dp:∀ b ∈ xs.toList.drop (SetTable.below xs j),j < b:=fun b hb=>by
  obtain ⟨i,hi,e⟩:=List.mem_iff_getElem.mp hb
  rw [List.length_drop] at hi
  rw [List.getElem_drop] at e
  have hs:SetTable.below xs j + i < xs.size:=by simp at hi;omega
  have:=h3 (SetTable.below xs j + i) (by omega) hs
  rw [<- Array.getElem_eq_getD (h:=hs)] at this
  have hne:b ≠ j:=fun z=>hj (by rw [<- z];exact List.mem_of_mem_drop hb)
  simp at e
  omega
 refine ⟨h.take,List.pairwise_cons.mpr ⟨dp,h.drop⟩,fun a ha b hb=>?_⟩
 have ha':=tk a ha
 rcases List.mem_cons.mp hb with z | z
 ·omega
 ·have:=dp b z;omega
theorem aM8 (n:Nat):Ris (Array.range n):=by
 show (Array.range n).toList.Pairwise (· < ·)
 rw [Array.toList_range]
 exact List.pairwise_lt_range
structure Well (L:Bool) (t:SetTable):Prop where
 ris:Ris t.place
 dum:t.dummies=#[]
 led:t.led=L
theorem aX7 {t:SetTable} (hd:t.dummies=#[]) (j:Nat):t.slot j ≠ .dummy:=by
 unfold SetTable.slot
 dsimp only
 split
 ·intro z;cases z
 ·rw [hd]
  split
  ·rename_i z;simp [SetTable.has] at z
  ·intro z;cases z
theorem ae8 {t:SetTable} (hd:t.dummies=#[]) {hashAt:Nat->Int} {h:Int}:∀ (fuel:Nat) (p:SetTable.Probe) {j:Nat} {dm:Option Nat},p.dummy=none->SetTable.probe.go t hashAt h fuel p=some (.empty j dm)->t.slot j=.empty/\dm=none
 | 0,p,j,dm,_,e=>by simp [SetTable.probe.go] at e
 | fuel + 1,p,j,dm,hp,e=>by
  unfold SetTable.probe.go at e
  have ad:∀ q:SetTable.Probe,q.dummy=none->(t.advance q).dummy=none:=fun q hq=>by
   unfold SetTable.advance
   split
   ·exact hq
   ·exact hq
  split at e
  ·rename_i hs
   cases e
   exact ⟨hs,hp⟩
  ·rename_i hs
   exact absurd hs (aX7 hd _)
  ·split at e
   ·cases e
   ·exact ae8 hd fuel _ (ad p hp) e
theorem aR1 {t:SetTable} (hd:t.dummies=#[]) {h:Int} {j:Nat} {wd:Bool} (e:t.freeSlot h=some (j,wd)):t.slot j=.empty/\wd=false:=by
 unfold SetTable.freeSlot at e
 split at e
 ·rename_i j' dm hp
  obtain ⟨h1,h2⟩:=ae8 hd _ _ rfl hp
  subst h2
  cases e
  exact ⟨h1,rfl⟩
 ·cases e
theorem G6 {L:Bool} {t:SetTable} (h:Well L t) (n:Nat):Well L (t.standIn n):=⟨aM8 n,rfl,h.led⟩
theorem aA8 {L:Bool} {t:SetTable} {es:Array (Int × Value)} {h:Int} {x:Value} (hw:Well L t):Well L (layNew t es h x).2.1/\(layNew t es h x).2.2.1=false:=by
 unfold layNew
 split
 ·rename_i slot wd e
  obtain ⟨h1,h2⟩:=aR1 hw.dum e
  refine ⟨?_,h2⟩
  have hd:SetTable.has t.dummies slot=false:=by rw [hw.dum];simp [SetTable.has]
  have w2:Well L (t.put slot).1:=⟨aG1 hw.ris (aF8 hw.ris h1),by simp only [SetTable.put,hd];exact hw.dum,hw.led⟩
  dsimp only
  unfold SetTable.orStandIn
  split
  ·exact w2
  ·exact G6 w2 _
 ·exact ⟨G6 hw _,rfl⟩
theorem aq5 {L:Bool} {mask finger moves:Nat} {led plain:Bool} {hashes:Array Int} {t:SetTable} {o:Array Nat} (hl:led=L) (e:SetTable.laid mask finger moves led plain hashes=some (t,o)):Well L t:=by
 unfold SetTable.laid at e
 cases ho:SetTable.layClean mask hashes with
 | none=>rw [ho] at e;cases e
 | some owner =>
  rw [ho] at e
  simp only [Option.bind_eq_bind,Option.bind_some,Option.pure_def,Option.some.injEq,Prod.mk.injEq] at e
  obtain ⟨rfl,_⟩:=e
  refine ⟨?_,rfl,hl⟩
  show (List.map _ _).toArray.toList.Pairwise (· < ·)
  rw [List.toList_toArray]
  have sub:((List.range (mask + 1)).filterMap fun j=>(owner.getD j none).map (j,·)).map (·.1) |>.Sublist (List.range (mask + 1)):=by
   generalize List.range (mask + 1)=l
   induction l with
   | nil=>simp
   | cons a r ih =>
    rw [List.filterMap_cons]
    cases owner.getD a none with
    | none=>exact ih.cons a
    | some k=>exact ih.cons_cons a
  exact List.Pairwise.sublist sub List.pairwise_lt_range
theorem as1 {L:Bool} {t:SetTable} {es:Array (Int × Value)} {n:Nat} (hw:Well L t):Well L (relayAll t es n).2.1:=by
 unfold relayAll
 split
 ·rename_i t' order e
  dsimp only
  split
  ·exact aq5 hw.led e
  ·exact G6 hw _
 ·exact G6 hw _
end ST

namespace ST
open PySem PyProof.Rows
noncomputable def toI:Value->Int
 | .int k _=>k
 | _=>0
noncomputable def Led (w:World):Bool:=!(w.params.followText "set-order")
section
variable {prog:Program} {w:World}
noncomputable def l0 (prog:Program) (w:World) (h:Heap) (a:Addr) (ks:List Int):Prop :=
 ∃ o es ep t,h.get? a=some o/\o.ExactSet/\o.data=.set es ep t/\ElemsOf (intKind prog w) es.toList/\(es.toList.map fun e=>toI e.2).Perm ks/\ks.Nodup/\es.size < scanBound/\t.fits es.size=true/\Well (Led w) t
theorem l0.at {h h':Heap} {a:Addr} {ks:List Int} (x:l0 prog w h a ks) (k:∀ o,h.get? a=some o->h'.get? a=some o):l0 prog w h' a ks:=by
 obtain ⟨o,es,ep,t,e,r⟩:=x
 exact ⟨o,es,ep,t,k o e,r⟩
theorem V8 {e:Int × Value} {es:List (Int × Value)} (h:ElemsOf (intKind prog w) es) (he:e ∈ es):∃ tk,e.2=.int (toI e.2) tk/\e.1=(intKind prog w).hash (toI e.2):=by
 obtain ⟨⟨k,h1,h2⟩,_⟩:=h e he
 obtain ⟨t,ht⟩:=Value.isInt_shape (k:=k) (v:=e.2) h1
 refine ⟨t,by rw [ht];rfl,?_⟩
 rw [h2,ht]
 rfl
theorem aR5 {e:Int × Value} {es:List (Int × Value)} (h:ElemsOf (intKind prog w) es) (he:e ∈ es) (k:Int):(intKind prog w).is k e.2=decide (toI e.2=k):=by
 obtain ⟨t,ht,_⟩:=V8 h he
 show Value.isInt k e.2=_
 rw [ht]
 generalize toI e.2=m
 show Value.isInt k (.int m t)=decide (m=k)
 by_cases z:m=k
 ·subst z;simp [Value.isInt]
 ·rw [decide_eq_false z]
  cases hv:Value.isInt k (.int m t) with
  | false=>rfl
  | true =>
   obtain ⟨t',e'⟩:=Value.isInt_shape hv
   cases e'
   exact absurd rfl z
theorem l0.mem {a:Addr} {es:List (Int × Value)} {ks:List Int} (h:ElemsOf (intKind prog w) es) (hp:(es.map fun e=>toI e.2).Perm ks) (k:Int):(es.findIdx? fun e=>(intKind prog w).is k e.2).isSome=decide (k ∈ ks):=by
 rw [Bool.eq_iff_iff,decide_eq_true_iff,<- hp.mem_iff,List.mem_map,Option.isSome_iff_exists]
 constructor
 ·rintro ⟨i,hi⟩
  obtain ⟨h1,h2,_⟩:=List.findIdx?_eq_some_iff_getElem.mp hi
  have hm:=List.getElem_mem h1
  rw [aR5 h hm] at h2
  exact ⟨_,hm,of_decide_eq_true h2⟩
 ·rintro ⟨e,he,rfl⟩
  cases hf:es.findIdx? fun e'=>(intKind prog w).is (toI e.2) e'.2 with
  | some i=>exact ⟨i,rfl⟩
  | none =>
   have:=List.findIdx?_eq_none_iff.mp hf e he
   rw [aR5 h he] at this
   simp at this
variable {A:Around} {E:Value->Shared->Prop} {s:Shared}
noncomputable def B5 (ks:List Int) (k:Int):List Int:=if k ∈ ks then ks else ks ++ [k]
theorem az8 (ks:List Int) (k:Int):(B5 ks k).length <= ks.length + 1:=by unfold B5;split <;> simp
theorem a88 {a:Addr} {ks:List Int} {k:Int} {tk:Tok} {Q:Bool->Shared->Prop} (hS:l0 prog w s.heap a ks) (hr:ks.length + 1 < scanBound)
  (h:∀ h' b,Heap.SameBut a s.heap h'->l0 prog w h' a (B5 ks k)->Q b { s with heap:=h' }):wpAny (model prog w) A (setAddHashed a (.int k tk) ((intKind prog w).hash k)) Q E s:=by
 obtain ⟨o,es,ep,t,ho,hx,hd,hel,hp,hn,hb,hf,hw⟩:=hS
 have hlen:es.size=ks.length:=by rw [<- hp.length_eq];simp
 have hkey:(intKind prog w).is k (.int k tk)=true:=intKind_is _ _ _ _
 have gv:∀ (b:Bool) (s1:Shared) (Q':Unit->Shared->Prop),Q' () s1->wpAny (model prog w) A (match b with | true=>rule "set.scan.the-table-gave-way" | false=>pure ()) Q' E s1:=fun b s1 Q' q=>by
  cases b
  ·exact wpAny_pure q
  ·exact wpAny_rule q
 unfold setAddHashed setAddHashedIn
 refine wpAny_holding (wpAny_bind (wpAny_setState_of ho hd hf ?_))
 dsimp only
 rw [byScan_of rfl hb hel,if_pos rfl]
 unfold setAddByScan
 refine wpAny_bind (wpAny_bind (wpAny_rule (wpAny_bind (wpAny_setScan_of hkey ho hd hf hel ?_))))
 have hm:=l0.mem (a:=a) hel hp k
 cases hr':es.toList.findIdx? (fun e=>(intKind prog w).is k e.2) with
 | some j =>
  rw [hr'] at hm
  have hk:k ∈ ks:=by simpa using hm.symm
  refine wpAny_pure (wpAny_pure ?_)
  have e0:s={ s with heap:=s.heap }:=rfl
  rw [e0]
  refine h s.heap _ (Heap.SameBut.refl a s.heap) ?_
  unfold B5
  rw [if_pos hk]
  exact ⟨o,es,ep,t,ho,hx,hd,hel,hp,hn,hb,hf,hw⟩
 | none =>
  rw [hr'] at hm
  have hk:k ∉ ks:=by simpa using hm.symm
  dsimp only
  have p1:=layNew_perm t es ((intKind prog w).hash k) (.int k tk)
  have f1:=layNew_fits t es ((intKind prog w).hash k) (.int k tk)
  obtain ⟨w1,wd1⟩:=aA8 (es:=es) (h:=(intKind prog w).hash k) (x:=.int k tk) hw
  generalize layNew t es ((intKind prog w).hash k) (.int k tk)=R1 at p1 f1 w1 wd1 ⊢
  obtain ⟨es1,t1,wd,gave⟩:=R1
  dsimp only at p1 f1 w1 wd1 ⊢
  subst wd1
  rw [Array.toList_push] at p1
  have el1:ElemsOf (intKind prog w) es1.toList:=(hel.push hkey rfl).perm p1
  have sz1:es1.size=es.size + 1:=by rw [<- Array.length_toList,p1.length_eq];simp
  have k1:(es1.toList.map fun e=>toI e.2).Perm (B5 ks k):=by
   unfold B5
   rw [if_neg hk]
   refine (p1.map _).trans ?_
   rw [List.map_append]
   exact hp.append_right _
  have n1:(B5 ks k).Nodup:=by
   unfold B5
   rw [if_neg hk,List.nodup_append]
   exact ⟨hn,by simp,fun x hx y hy=>by simp at hy;subst hy;exact fun z=>hk (z ▸ hx)⟩
  refine wpAny_bind (gv _ _ _ ?_)
  have fin:∀ (t2:SetTable),t2.fits es1.size=true->Well (Led w) t2->wpAny (model prog w) A (do
    storeSet a es1 t2
    if (!false && t2.tooFull)=true then do
      (match (relayAll t2 es1 (SetTable.grown es1.size)).2.2 with | true=>rule "set.scan.the-table-gave-way" | false=>pure ())
      storeSet a (relayAll t2 es1 (SetTable.grown es1.size)).1 (relayAll t2 es1 (SetTable.grown es1.size)).2.1
      pure (some true)
     else pure (some true)) (fun r s'=>wpAny (model prog w) A (match r with | some added=>pure added | none=>setAddHashedIn a (.int k tk) ((intKind prog w).hash k) 99999) Q E s') E s:=fun t2 f2 w2=>by
   have g1:(s.heap.update a (Obj.putSet es1 t2)).get? a=some { o with data:=.set es1 (ep + 1) t2 }:=by
    have:=Heap.get?_update_self (Obj.putSet es1 t2) ho (by rw [putSet_of es1 t2 hd];rfl)
    rw [putSet_of es1 t2 hd] at this
    exact this
   refine wpAny_bind (wpAny_storeSet_of ho hd ?_ (fits_of_scanBound (by omega)))
   have sb1:=Heap.SameBut.update s.heap a (Obj.putSet es1 t2)
   split
   ·have p2:=relayAll_perm t2 es1 (SetTable.grown es1.size)
    have f3:=relayAll_fits t2 es1 (SetTable.grown es1.size)
    have w3:=as1 (es:=es1) (n:=SetTable.grown es1.size) w2
    generalize relayAll t2 es1 (SetTable.grown es1.size)=R2 at p2 f3 w3 ⊢
    obtain ⟨es2,t3,gv2⟩:=R2
    dsimp only at p2 f3 w3 ⊢
    have sz2:es2.size=es1.size:=by rw [<- Array.length_toList,p2.length_eq,Array.length_toList]
    refine wpAny_bind (gv _ _ _ ?_)
    refine wpAny_bind (wpAny_storeSet_of g1 rfl ?_ (fits_of_scanBound (by omega)))
    refine wpAny_pure (wpAny_pure (h _ _ (sb1.trans (Heap.SameBut.update _ a _)) ?_))
    have g2:((s.heap.update a (Obj.putSet es1 t2)).update a (Obj.putSet es2 t3)).get? a=some { o with data:=.set es2 (ep + 1 + 1) t3 }:=by
     have:=Heap.get?_update_self (Obj.putSet es2 t3) g1 (by rw [putSet_of es2 t3 rfl];rfl)
     rw [putSet_of es2 t3 rfl] at this
     exact this
    exact ⟨_,es2,_,t3,g2,hx,rfl,el1.perm p2,(p2.map _).trans k1,n1,by omega,f3,w3⟩
   ·exact wpAny_pure (wpAny_pure (h _ _ sb1 ⟨_,es1,_,t2,g1,hx,rfl,el1,k1,n1,by omega,f1 |> fun _=>f2,w2⟩))
  split
  ·refine wpAny_bind (wpAny_of_eq (hashByValue_scannable 8 rfl) ?_)
   exact fin _ f1 w1
  ·refine wpAny_bind (wpAny_pure ?_)
   exact fin _ f1 w1
end
end ST

namespace ST
open PySem PyProof.Rows
theorem ay2:entryFor table "set.__iter__"=some Builtin.«frozenset.__iter__» :=
 entryFor_alias (id':="frozenset.__iter__") (by kernel_rfl) rfl (by decide +kernel) (by kernel_rfl)
theorem A4:Slot "set_iterator" "__next__" "set_iterator.__next__" :=
 .of (owner:="set_iterator") (n:="__next__") (by rw [typeLookup_type,builtinLookup_eq_fast];kernel_rfl) (by decide +kernel) (by decide +kernel) (by decide +kernel)
  (by first | exact .inl (by decide +kernel) | exact .inr (by decide +kernel)) (by rw [isSubtype_type];kernel_rfl)
theorem af3:entryFor table "set_iterator.__next__"=some Builtin.«set_iterator.__next__»:=entryFor_of_tree (by kernel_rfl)
theorem ab5 (a:Value):argsOk "set_iterator.__next__" ⟨[a],[]⟩:=by
 unfold argsOk
 kernel_rfl
theorem Z8:Slot "set_iterator" "__iter__" "set_iterator.__iter__" :=
 .of (owner:="set_iterator") (n:="__iter__") (by rw [typeLookup_type,builtinLookup_eq_fast];kernel_rfl) (by decide +kernel) (by decide +kernel) (by decide +kernel)
  (by first | exact .inl (by decide +kernel) | exact .inr (by decide +kernel)) (by rw [isSubtype_type];kernel_rfl)
theorem aB0:entryFor table "set_iterator.__iter__"=some Builtin.«dict_keyiterator.__iter__» :=
 entryFor_alias (id':="dict_keyiterator.__iter__") (by kernel_rfl) rfl (by decide +kernel) (by kernel_rfl)
theorem az7 (a:Value):argsOk "set_iterator.__iter__" ⟨[a],[]⟩:=by
 unfold argsOk
 kernel_rfl
end ST

namespace ST
open PySem PyProof.Rows
inductive Rd | text | plain | drawn
structure Lies (h:Heap) (a:Addr) (es:Array (Int × Value)) (ep:Nat) (t:SetTable):Prop where
 at_:∃ o,h.get? a=some o/\o.cls=.type "set"/\o.data=.set es ep t
 fit:t.fits es.size=true
theorem Lies.at {h h':Heap} {a:Addr} {es:Array (Int × Value)} {ep:Nat} {t:SetTable} (x:Lies h a es ep t) (k:∀ o,h.get? a=some o->h'.get? a=some o):Lies h' a es ep t :=
 ⟨let ⟨o,e,r⟩:=x.at_;⟨o,k o e,r⟩,x.fit⟩
noncomputable def A9 (h:Heap) (I a:Addr) (f:Value) (i n ep:Nat):Prop:=∃ o,h.get? I=some o/\o.cls=.type "set_iterator"/\o.data=.fields #[f,rawInt i,.ref a,rawInt n,rawInt ep]
theorem A9.at {h h':Heap} {I a:Addr} {f:Value} {i n ep:Nat} (x:A9 h I a f i n ep) (k:∀ o,h.get? I=some o->h'.get? I=some o):A9 h' I a f i n ep:=let ⟨o,e,r⟩:=x;⟨o,k o e,r⟩
theorem A9.ty {s:Shared} {I a:Addr} {f:Value} {i n ep:Nat} (x:A9 s.heap I a f i n ep):s.TypeIs (.ref I) "set_iterator":=let ⟨o,e,c,_⟩:=x;⟨o,e,c⟩
noncomputable def aj5 (w:World) (a:Addr) (es:Array (Int × Value)) (ep:Nat) (pl:List Nat):Rd->List Value
 | .text=>(pickOrder (w.params.setOrder a ep) es).toList.map (·.2)
 | .plain=>es.toList.map (·.2)
 | .drawn=>pl.map fun j=>(es.getD j (0,.none)).2
noncomputable def slotAt (t:SetTable):Nat->Nat
 | 0=>0
 | i + 1=>t.place.getD i 0 + 1
noncomputable def M9 (h:Heap) (t:SetTable) (b:Addr) (pl:List Nat) (i:Nat) (f:Value):Rd->Prop
 | .text=>∃ k:Nat,f=rawInt k
 | .plain=>f=rawInt (slotAt t i)
 | .drawn=>f=.ref b/\∃ o e,h.get? b=some o/\o.cls=.type "tuple"/\o.data=.seq (pl.map fun j=>rawInt (j:Nat)).toArray e
noncomputable def ap1 (w:World) (es:Array (Int × Value)) (t:SetTable) (pl:List Nat):Rd->Prop
 | .text=>w.params.followText "set-order"=true
 | .plain=>w.params.followText "set-order"=false/\(t.plain=true \/ es.size <= 1)/\Well true t
 | .drawn=>w.params.followText "set-order"=false/\pl.Perm (List.range es.size)
section
variable {prog:Program} {w:World} {A:Around} {E:Value->Shared->Prop} {s:Shared} {a:Addr} {es:Array (Int × Value)} {ep:Nat} {t:SetTable}
theorem T7 {Q:Bool->Shared->Prop} (h:Q (w.params.followText "set-order") s):wpAny (model prog w) A setsByText Q E s:=by
 unfold setsByText
 exact wpAny_bind (wpAny_askSetting (wpAny_pure h))
theorem aq0 (hL:Lies s.heap a es ep t) (ht:w.params.followText "set-order"=true) {sl g:Nat} {Q:Option (Value × Nat)->Shared->Prop} (h:Q (((pickOrder (w.params.setOrder a ep) es)[g]?).map fun e=>(e.2,sl)) s) :
  wpAny (model prog w) A (setNext a sl g ep) Q E s:=by
 obtain ⟨o,ho,_,hd⟩:=hL.at_
 unfold setNext
 refine wpAny_bind (wpAny_setState_of ho hd hL.fit ?_)
 refine wpAny_bind (T7 ?_)
 rw [ht,if_pos rfl,if_neg (by simp)]
 unfold setWalk
 refine wpAny_bind (wpAny_bind (wpAny_setState_of ho hd hL.fit ?_))
 refine wpAny_bind (T7 ?_)
 rw [ht,if_pos rfl]
 exact wpAny_bind (wpAny_askSetting (wpAny_pure (wpAny_pure h)))
theorem aj8 (hL:Lies s.heap a es ep t) (ht:w.params.followText "set-order"=false) (hp:t.plain=true \/ es.size <= 1) (hl:t.led=true) {sl g:Nat} {Q:Option (Value × Nat)->Shared->Prop}
  (h:Q (match es[SetTable.below t.place sl]?,t.place[SetTable.below t.place sl]? with | some (_,x),some j=>some (x,j + 1) | _,_=>none) s):wpAny (model prog w) A (setNext a sl g ep) Q E s:=by
 obtain ⟨o,ho,_,hd⟩:=hL.at_
 unfold setNext
 refine wpAny_bind (wpAny_setState_of ho hd hL.fit ?_)
 refine wpAny_bind (T7 ?_)
 rw [ht,if_neg (by decide)]
 show wpAny _ _ (if (!t.plain && decide (es.size > 1))=true then _ else _) _ _ _
 rw [if_neg (by rcases hp with e | e <;> simp [e])]
 refine wpAny_bind (wpAny_of_eq (a:=()) ?_ (wpAny_pure h))
 show ((if (!t.led && !es.isEmpty)=true then unsupported "set:maker-not-led" else pure ()):Sem Unit)=pure ()
 rw [hl]
 rfl
theorem aH1 (hL:Lies s.heap a es ep t) {j:Nat} (hj:j < es.size) {Q:Value->Shared->Prop} (h:Q (es.getD j (0,.none)).2 s):wpAny (model prog w) A (setNextDrawn a j ep) Q E s:=by
 obtain ⟨o,ho,_,hd⟩:=hL.at_
 unfold setNextDrawn
 refine wpAny_bind (wpAny_setState_of ho hd hL.fit ?_)
 dsimp only
 rw [if_neg (by simp)]
 have e:es[j]?=some (es.getD j (0,.none)):=by simp [Array.getD,hj]
 rw [e]
 exact wpAny_pure h
end
end ST

namespace ST
open PySem PyProof.Rows
section
variable {prog:Program} {w:World} {A:Around} {E:Value->Shared->Prop} {s:Shared} {a I b:Addr} {es:Array (Int × Value)} {ep:Nat} {t:SetTable} {pl:List Nat}
theorem au4 (hL:Lies s.heap a es ep t):t.place.size=es.size:=by
 have:=hL.fit
 unfold SetTable.fits at this
 simp at this
 exact this.1
theorem al9 (hw:Ris t.place) {i:Nat} (hi:i <= t.place.size):SetTable.below t.place (slotAt t i)=i:=by
 cases i with
 | zero=>exact aJ5 hw
 | succ i=>exact aJ6 hw (by omega)
theorem entries {Q:Array (Int × Value)->Shared->Prop} (hL:Lies s.heap a es ep t) (h:Q es s):wpAny (model prog w) A (setEntries a) Q E s:=by
 obtain ⟨o,ho,_,hd⟩:=hL.at_
 unfold setEntries
 exact wpAny_bind (wpAny_setState_of ho hd hL.fit (wpAny_pure h))
theorem bO5 {f f':Value} {i n:Nat} {h:Heap} (hi:A9 h I a f i n ep) {x:Value} (hx:x=rawInt ((i:Int) + 1)):A9 ((h.update I (Obj.mapFields (·.setIfInBounds 0 f'))).update I (Obj.mapFields (·.setIfInBounds 1 x))) I a f' (i + 1) n ep:=by
 obtain ⟨o,ho,hc,hd⟩:=hi
 have h1:=Heap.get?_update_self (Obj.mapFields (·.setIfInBounds 0 f')) ho (Obj.isFreed_of_fields (Obj.data_mapFields hd _))
 have d1:(Obj.mapFields (·.setIfInBounds 0 f') o).data=.fields #[f',rawInt i,.ref a,rawInt n,rawInt ep]:=by rw [Obj.data_mapFields hd];simp
 have h2:=Heap.get?_update_self (Obj.mapFields (·.setIfInBounds 1 x)) h1 (Obj.isFreed_of_fields (Obj.data_mapFields d1 _))
 refine ⟨_,h2,(Obj.cls_mapFields ..).trans ((Obj.cls_mapFields ..).trans hc),?_⟩
 rw [Obj.data_mapFields d1]
 subst hx
 simp [rawInt]
theorem bO6 {f:Value} {i n:Nat} {h:Heap} (hi:A9 h I a f i n ep) {x:Value} (hx:x=rawInt ((i:Int) + 1)):A9 (h.update I (Obj.mapFields (·.setIfInBounds 1 x))) I a f (i + 1) n ep:=by
 obtain ⟨o,ho,hc,hd⟩:=hi
 have h2:=Heap.get?_update_self (Obj.mapFields (·.setIfInBounds 1 x)) ho (Obj.isFreed_of_fields (Obj.data_mapFields hd _))
 refine ⟨_,h2,(Obj.cls_mapFields ..).trans hc,?_⟩
 rw [Obj.data_mapFields hd]
 subst hx
 simp [rawInt]
theorem bl3 {α:Type} {f f' x:Value} {i n:Nat} {m:Sem α} {Q':α->Shared->Prop} (hi:A9 s.heap I a f i n ep) (hx:x=rawInt ((i:Int) + 1)) (h:∀ h',A9 h' I a f' (i + 1) n ep->Heap.SameBut I s.heap h'->wpAny (model prog w) A m Q' E { s with heap:=h' }) :
  wpAny (model prog w) A (do setField (.ref I) 0 f';setField (.ref I) 1 x;m) Q' E s:=by
 obtain ⟨o,ho,hc,hd⟩:=id hi
 refine wpAny_bind (wpAny_setField ho hd (by simp) ?_)
 have h1:=Heap.get?_update_self (Obj.mapFields (·.setIfInBounds 0 f')) ho (Obj.isFreed_of_fields (Obj.data_mapFields hd _))
 have d1:(Obj.mapFields (·.setIfInBounds 0 f') o).data=.fields #[f',rawInt i,.ref a,rawInt n,rawInt ep]:=by rw [Obj.data_mapFields hd];simp
 refine wpAny_bind (wpAny_setField (s:={ s with heap:=_ }) h1 d1 (by simp) ?_)
 exact h _ (bO5 hi hx) ((Heap.SameBut.update ..).trans (Heap.SameBut.update ..))
theorem bI0 {α:Type} {f x:Value} {i n:Nat} {m:Sem α} {Q':α->Shared->Prop} (hi:A9 s.heap I a f i n ep) (hx:x=rawInt ((i:Int) + 1)) (h:∀ h',A9 h' I a f (i + 1) n ep->Heap.SameBut I s.heap h'->wpAny (model prog w) A m Q' E { s with heap:=h' }) :
  wpAny (model prog w) A (do setField (.ref I) 1 x;m) Q' E s:=by
 obtain ⟨o,ho,hc,hd⟩:=id hi
 refine wpAny_bind (wpAny_setField ho hd (by simp) ?_)
 exact h _ (bO6 hi hx) (Heap.SameBut.update ..)
theorem X2 {α:Type} (next:Nat->Nat) (xs:Array α):(pickOrder next xs).toList.Perm xs.toList:=by
 have go:∀ (fuel k:Nat) (left:List α) (out:Array α),fuel=left.length->(pickOrder.go next fuel k left out).toList.Perm (out.toList ++ left):=by
  intro fuel
  induction fuel with
  | zero =>
   intro k left out e
   have:left=[]:=List.eq_nil_of_length_eq_zero e.symm
   subst this
   simp [pickOrder.go]
  | succ n ih =>
   intro k left out e
   have hlt:next k % left.length < left.length:=Nat.mod_lt _ (by omega)
   unfold pickOrder.go
   rw [List.getElem?_eq_getElem hlt]
   refine (ih _ _ _ (by rw [List.length_eraseIdx_of_lt hlt];omega)).trans ?_
   rw [Array.toList_push,List.append_assoc]
   refine List.Perm.append_left _ ?_
   have:left.Perm (left[next k % left.length] :: left.eraseIdx (next k % left.length)):=by
    rw [List.eraseIdx_eq_take_drop_succ]
    conv=>lhs;rw [<- List.take_append_drop (next k % left.length) left,List.drop_eq_getElem_cons hlt]
    exact List.perm_middle
   exact this.symm
 have:=go xs.size 0 xs.toList #[] (by simp)
 simpa [pickOrder] using this
theorem next_item {r:Rd} {i:Nat} {f:Value} {Q:Option Value->Shared->Prop} (hL:Lies s.heap a es ep t) (hr:ap1 w es t pl r) (hi:A9 s.heap I a f i es.size ep) (hf:M9 s.heap t b pl i f r) (hne:b ≠ I) (hlt:i < es.size)
  (h:∀ v h' f',(aj5 w a es ep pl r)[i]?=some v->A9 h' I a f' (i + 1) es.size ep->M9 h' t b pl (i + 1) f' r->Heap.SameBut I s.heap h'->Q (some v) { s with heap:=h' }):wpAny (model prog w) A (pyNext (.ref I)) Q E s:=by
 obtain ⟨o,ho,hc,hd⟩:=id hi
 unfold pyNext
 refine wpAny_bind (wpAny_attempt (wpAny_callSpecial?_slot (name:=Str.ofString "__next__") hi.ty A4 (wpAny_call_entry A4 hi.ty af3 ?_ (ab5 _))))
 unfold Builtin.«set_iterator.__next__»
 refine wpAny_bind (wpAny_pure ?_)
 refine wpAny_bind (wpAny_fieldsOf ho hd ?_)
 dsimp only [rawInt]
 refine wpAny_bind (entries hL ?_)
 rw [if_neg (by simp)]
 rw [Int.toNat_natCast,Int.toNat_natCast]
 cases r with
 | text =>
  obtain ⟨k,rfl⟩:=hf
  dsimp only [rawInt]
  refine wpAny_bind (aq0 hL hr ?_)
  have hl:i < (pickOrder (w.params.setOrder a ep) es).size:=by
   have:=(X2 (w.params.setOrder a ep) es).length_eq
   simp at this
   omega
  rw [Array.getElem?_eq_getElem hl]
  refine bl3 hi rfl fun h' h1 h2=>wpAny_pure ⟨_,rfl,wpAny_pure (h _ _ _ ?_ h1 ⟨_,rfl⟩ h2)⟩
  show ((pickOrder (w.params.setOrder a ep) es).toList.map (·.2))[i]?=_
  simp [hl]
 | plain =>
  obtain ⟨r1,r2,r3⟩:=hr
  have hs:=au4 hL
  obtain rfl:=hf
  dsimp only [rawInt]
  rw [Int.toNat_natCast]
  refine wpAny_bind (aj8 hL r1 r2 r3.led ?_)
  rw [al9 r3.ris (by omega),Array.getElem?_eq_getElem hlt,getD_mem (by omega)]
  refine bl3 hi rfl fun h' h1 h2=>wpAny_pure ⟨_,rfl,wpAny_pure (h _ _ _ ?_ h1 rfl h2)⟩
  show (es.toList.map (·.2))[i]?=_
  simp [hlt]
 | drawn =>
  obtain ⟨r1,r2⟩:=hr
  obtain ⟨rfl,ob,e,hb,hbc,hbd⟩:=hf
  have hpl:i < pl.length:=by rw [r2.length_eq];simpa using hlt
  dsimp only
  refine wpAny_bind (wpAny_seqItems hb hbd ?_)
  have hj:pl[i] < es.size:=by
   have:=r2.mem_iff.mp (List.getElem_mem hpl)
   simpa using this
  have e1:(pl.map fun j=>rawInt (j:Nat)).toArray[i]?=some (rawInt (pl[i]:Nat)):=by simp [hpl]
  dsimp only
  rw [e1]
  dsimp only [rawInt]
  rw [Int.toNat_natCast]
  refine wpAny_bind (aH1 hL hj ?_)
  refine bI0 hi rfl fun h' h1 h2=>wpAny_pure ⟨_,rfl,wpAny_pure (h _ _ _ ?_ h1 ⟨rfl,ob,e,by rw [h2.2 b hne];exact hb,hbc,hbd⟩ h2)⟩
  show (pl.map fun j=>(es.getD j (0,.none)).2)[i]?=_
  simp [hpl]
theorem af9 {Q:Option Value->Shared->Prop} {I:Addr} {h0:Heap} (hh:A.handled=none) (h0s:Heap.ExtBut I h0 s.heap) (h:∀ h',Heap.ExtBut I h0 h'->Q none { s with heap:=h' }) :
  wpAny (model prog w) A.in1 (newExc (.type "StopIteration") [] >>= fun e=>(raiseNew e:Sem Fin)) (fun fin s'=>∃ v,fin=Fin.done (Flow.ret v)/\wpAny (model prog w) A (pure (some v)) Q E s')
   (fun e s'=>wpAny (model prog w) A (do
     let x <- isInstance e (Value.type "StopIteration")
     if x=true then pure none else throw e) Q E s') s:=by
 refine wpAny_bind ?_
 simp only [newExc,newTuple]
 refine wpAny_bind (wpAny_newObj_type ?_ (by size_fits))
 refine wpAny_bind (m:=firstArgMember _ _) (wpAny_of_eq (a:=Value.none) (by first | rfl | (simp only [firstArgMember];rfl)) ?_)
 refine wpAny_newObj_type ?_ (by size_fits)
 simp only [raiseNew]
 refine wpAny_bind (wpAny_handled ?_)
 rw [show A.in1.handled=none from hh]
 refine wpAny_bind (wpAny_pure (wpAny_throw ?_))
 refine wpAny_bind (wpAny_isInstance (T:="StopIteration") (b:=true) ⟨_,Heap.get?_push_size _ rfl,rfl⟩ isSubtype_stop ?_)
 exact wpAny_pure (h _ ((h0s.push _).push _))
theorem next_end {r:Rd} {f:Value} {Q:Option Value->Shared->Prop} (hh:A.handled=none) (hL:Lies s.heap a es ep t) (hr:ap1 w es t pl r) (hi:A9 s.heap I a f es.size es.size ep) (hf:M9 s.heap t b pl es.size f r) (hne:b ≠ I)
  (h:∀ h',Heap.ExtBut I s.heap h'->Q none { s with heap:=h' }):wpAny (model prog w) A (pyNext (.ref I)) Q E s:=by
 obtain ⟨o,ho,hc,hd⟩:=id hi
 unfold pyNext
 refine wpAny_bind (wpAny_attempt (wpAny_callSpecial?_slot (name:=Str.ofString "__next__") hi.ty A4 (wpAny_call_entry A4 hi.ty af3 ?_ (ab5 _))))
 unfold Builtin.«set_iterator.__next__»
 refine wpAny_bind (wpAny_pure ?_)
 refine wpAny_bind (wpAny_fieldsOf ho hd ?_)
 dsimp only [rawInt]
 refine wpAny_bind (entries hL ?_)
 rw [if_neg (by simp)]
 rw [Int.toNat_natCast,Int.toNat_natCast]
 cases r with
 | text =>
  obtain ⟨k,rfl⟩:=hf
  dsimp only [rawInt]
  refine wpAny_bind (aq0 hL hr ?_)
  have hl:(pickOrder (w.params.setOrder a ep) es).size <= es.size:=by
   have:=(X2 (w.params.setOrder a ep) es).length_eq
   simp at this
   omega
  rw [Array.getElem?_eq_none hl]
  refine wpAny_bind (wpAny_setField ho hd (by simp) ?_)
  exact af9 (s:={ s with heap:=_ }) hh (Heap.SameBut.update ..).extBut h
 | plain =>
  obtain ⟨r1,r2,r3⟩:=hr
  have hs:=au4 hL
  obtain rfl:=hf
  dsimp only [rawInt]
  rw [Int.toNat_natCast]
  refine wpAny_bind (aj8 hL r1 r2 r3.led ?_)
  rw [al9 r3.ris (by omega),Array.getElem?_eq_none (Nat.le_refl _)]
  refine wpAny_bind (wpAny_setField ho hd (by simp) ?_)
  exact af9 (s:={ s with heap:=_ }) hh (Heap.SameBut.update ..).extBut h
 | drawn =>
  obtain ⟨r1,r2⟩:=hr
  obtain ⟨rfl,ob,e,hb,hbc,hbd⟩:=hf
  have hpl:pl.length=es.size:=by rw [r2.length_eq];simp
  dsimp only
  refine wpAny_bind (wpAny_seqItems hb hbd ?_)
  have e1:(pl.map fun j=>rawInt (j:Nat)).toArray[es.size]?=none:=by simp [hpl]
  dsimp only
  rw [e1]
  dsimp only [rawInt]
  refine wpAny_bind (wpAny_setField ho hd (by simp) ?_)
  have h1:=Heap.get?_update_self (Obj.mapFields (·.setIfInBounds 0 (Value.int 0 0))) ho (Obj.isFreed_of_fields (Obj.data_mapFields hd _))
  refine wpAny_bind (wpAny_setField (s:={ s with heap:=_ }) h1 (Obj.data_mapFields hd _) (by simp) ?_)
  exact af9 (s:={ s with heap:=_ }) hh ((Heap.SameBut.update ..).trans (Heap.SameBut.update ..)).extBut h
end
end ST

namespace ST
open PySem PyProof.Rows
section
variable {prog:Program} {w:World} {A:Around} {E:Value->Shared->Prop} {s:Shared} {a I b:Addr} {es:Array (Int × Value)} {ep:Nat} {t:SetTable} {pl:List Nat}
theorem aN7 {α:Type} {l:List α} {k:Nat} (hlt:k < l.length):(l[k] :: l.eraseIdx k).Perm l:=by
 rw [List.eraseIdx_eq_take_drop_succ]
 conv=>rhs;rw [<- List.take_append_drop k l,List.drop_eq_getElem_cons hlt]
 exact List.perm_middle.symm
theorem Y4 {α:Type}:∀ (n:Nat) (xs:List α) (s:Shared) (Q:List α->Shared->Prop),n=xs.length->(∀ ys d,ys.Perm xs->Q ys { s with drawn:=d })->wpAny (model prog w) A (drawOrder n xs) Q E s
 | 0,xs,s,Q,e,h=>by
  have:xs=[]:=List.eq_nil_of_length_eq_zero e.symm
  subst this
  exact wpAny_pure (h [] s.drawn (List.Perm.refl _))
 | n + 1,[],s,Q,e,h=>by simp at e
 | n + 1,x :: xs,s,Q,e,h=>by
  unfold drawOrder
  refine wpAny_bind ?_
  intro Γ p hΓ
  refine ⟨by simp,?_⟩
  generalize (model prog w).w.draws .order (s.drawn.get .order)=k
  have hlt:k % (x :: xs).length < (x :: xs).length:=Nat.mod_lt _ (by simp)
  have go:wpAny (model prog w) A (match (x :: xs)[k % (x :: xs).length]? with
   | some y=>do
    let ys <- drawOrder n ((x :: xs).eraseIdx (k % (x :: xs).length))
    pure (y :: ys)
   | none=>unsupported "internal:drawOrder") Q E { s with drawn:=s.drawn.bump .order }:=by
   rw [List.getElem?_eq_getElem hlt]
   refine wpAny_bind (Y4 n _ _ _ (by rw [List.length_eraseIdx_of_lt hlt];simp at e ⊢;omega) fun ys d hp=>wpAny_pure ?_)
   exact h _ d ((List.Perm.cons _ hp).trans (aN7 hlt))
  exact go
theorem aw1 {r:Rd} (hr:ap1 w es t pl r):(aj5 w a es ep pl r).Perm (es.toList.map (·.2)):=by
 cases r with
 | text=>exact (X2 _ es).map _
 | plain=>exact List.Perm.refl _
 | drawn =>
  refine (hr.2.map _).trans ?_
  have:(List.range es.size).map (fun j=>(es.getD j (0,.none)).2)=es.toList.map (·.2):=by
   apply List.ext_getElem
   ·simp
   ·intro i h1 h2
    simp at h1
    simp [Array.getD,h1]
  rw [this]
theorem Lies.ty (hL:Lies s.heap a es ep t):s.TypeIs (.ref a) "set":=let ⟨o,e,c,_⟩:=hL.at_;⟨o,e,c⟩
theorem aU2 (hL:Lies s.heap a es ep t) (hw:Well (Led w) t) (hz:es.size <= 10000) {Q:Value->Shared->Prop} (h:∀ r pl b f I h' d',ap1 w es t pl r->A9 h' I a f 0 es.size ep->M9 h' t b pl 0 f r->b ≠ I->(b=a \/ s.heap.objs.size <= b)->(∀ c o,s.heap.get? c=some o->h'.get? c=some o)->s.heap.objs.size <= I->s.heap.objs.size <= h'.objs.size->Q (.ref I) { s with heap:=h',drawn:=d' }) :
  wpAny (model prog w) A (pyIter (.ref a)) Q E s:=by
 obtain ⟨o,ho,hoc,hd⟩:=hL.at_
 refine wpAny_pyIter_slot hL.ty F.slot_set_iter (wpAny_call_entry F.slot_set_iter hL.ty ay2 ?_ (F.args_set_iter_1 _))
 unfold Builtin.«frozenset.__iter__»
 refine wpAny_bind (wpAny_pure ?_)
 unfold Builtin.Frozenset.sizeOf
 refine wpAny_bind (wpAny_bind (entries hL (wpAny_pure ?_)))
 unfold setDrawn
 refine wpAny_bind (wpAny_bind (wpAny_setState_of ho hd hL.fit ?_))
 refine wpAny_bind (T7 (wpAny_pure ?_))
 have hlt:=Heap.lt_size ho
 have fin:∀ (r:Rd) (f:Value) (b:Addr) (pl:List Nat) (h1:Heap) (d1:Drawn),ap1 w es t pl r->(∀ h',(∀ c o,h1.get? c=some o->h'.get? c=some o)->M9 h' t b pl 0 f r)->b < h1.objs.size->(b=a \/ s.heap.objs.size <= b)->(∀ c o,s.heap.get? c=some o->h1.get? c=some o)->s.heap.objs.size <= h1.objs.size ->
   wpAny (model prog w) A.in1 (do
    let e <- setEpoch a
    ret (<- newFields "set_iterator" [f,rawInt 0,.ref a,rawInt es.size,rawInt e])) (fun fin s'=>∃ v,fin=Fin.done (Flow.ret v)/\∃ T' r,s'.TypeIs v T'/\typeLookup (.type T') "__next__"=pure (some r)/\Q v s') E { s with heap:=h1,drawn:=d1 }:=fun r f b pl h1 d1 hr hf hb hba he hsz=>by
  have hL1:Lies h1 a es ep t:=hL.at fun o e=>he a o e
  obtain ⟨o1,ho1,_,hd1⟩:=hL1.at_
  unfold setEpoch
  refine wpAny_bind (wpAny_bind (wpAny_setState_of (s:={ s with heap:=h1,drawn:=d1 }) ho1 hd1 hL1.fit (wpAny_pure ?_)))
  refine wpAny_bind (wpAny_newObj_type (wpAny_pure ⟨_,rfl,"set_iterator",_,⟨_,Heap.get?_push_size _ rfl,rfl⟩,A4.lookup,?_⟩))
  refine h r pl b f h1.objs.size _ d1 hr ⟨_,Heap.get?_push_size _ rfl,rfl,rfl⟩ (hf _ fun c o e=>Heap.get?_push_of_some _ e) (Nat.ne_of_lt hb) hba (fun c o e=>Heap.get?_push_of_some _ (he c o e)) hsz (by rw [size_push'];exact Nat.le_succ_of_le hsz)
 have e0:s={ s with heap:=s.heap,drawn:=s.drawn }:=rfl
 cases hT:w.params.followText "set-order" with
 | true =>
  dsimp only [Bool.not_true,Bool.false_and]
  rw [if_neg (by simp)]
  refine wpAny_bind (wpAny_pure ?_)
  rw [e0]
  exact fin .text (rawInt 0) a [] s.heap s.drawn hT (fun h' _=>⟨0,rfl⟩) hlt (.inl rfl) (fun c o e=>e) (Nat.le_refl _)
 | false =>
  show wpAny _ _ (if (!false && (!t.plain && decide (es.size > 1)))=true then _ else _ ) _ _ _
  by_cases hp:t.plain=true \/ es.size <= 1
  ·rw [if_neg (by rcases hp with e | e <;> simp [e])]
   refine wpAny_bind (wpAny_pure ?_)
   rw [e0]
   refine fin .plain (rawInt 0) a [] s.heap s.drawn ⟨hT,hp,?_⟩ (fun h' _=>rfl) hlt (.inl rfl) (fun c o e=>e) (Nat.le_refl _)
   have:Led w=true:=by unfold Led;rw [hT];rfl
   rw [<- this];exact hw
  ·have h1:t.plain=false:=by cases hq:t.plain with | true=>exact absurd (.inl hq) hp | false=>rfl
   have h2:¬ es.size <= 1:=fun z=>hp (.inr z)
   rw [if_pos (by simp [h1];omega)]
   refine wpAny_bind (Y4 _ _ _ _ (List.length_range).symm fun ys d hy=>?_)
   have hl:ys.length=es.size:=by rw [hy.length_eq];simp
   refine wpAny_bind (wpAny_newObj_type ?_ (by show (List.map _ ys).toArray.size <= sizeLine;rw [List.size_toArray,List.length_map,hl];exact Nat.le_trans hz (by decide)))
   refine fin .drawn (.ref s.heap.objs.size) s.heap.objs.size ys _ d ⟨hT,hy⟩ (fun h' hk=>⟨rfl,_,_,hk _ _ (Heap.get?_push_size _ rfl),rfl,rfl⟩) (by rw [size_push'];exact Nat.lt_succ_self _) (.inr (Nat.le_refl _)) (fun c o e=>Heap.get?_push_of_some _ e) (by rw [size_push'];exact Nat.le_succ _)
theorem aM2 (hh:A.handled=none) {r:Rd} (hr:ap1 w es t pl r) (hne:b ≠ I) (hna:a ≠ I) :
  Walks prog w A I [I,a,b] [I] es.size (fun i v=>(aj5 w a es ep pl r)[i]?=some v) (fun i h=>Lies h a es ep t/\∃ f,A9 h I a f i es.size ep/\M9 h t b pl i f r) where
 sub:=fun c hc=>by simp at hc;simp [hc]
 frame:=fun i h h' st hk=>by
  obtain ⟨hL,f,hi,hf⟩:=st
  refine ⟨hL.at fun o e=>hk a (by simp) o e,f,hi.at fun o e=>hk I (by simp) o e,?_⟩
  cases r with
  | text=>exact hf
  | plain=>exact hf
  | drawn =>
   obtain ⟨e1,o,e,h1,h2⟩:=hf
   exact ⟨e1,o,e,hk b (by simp) o h1,h2⟩
 item:=fun i s Q E hi st hQ=>by
  obtain ⟨hL,f,hI,hf⟩:=st
  exact next_item hL hr hI hf hne hi fun v h' f' hv h1 h2 h3=>hQ v h' s.toks hv ⟨hL.at fun o e=>by rw [h3.2 a hna];exact e,f',h1,h2⟩ fun c o hc e=>h3.extBut c o (fun z=>hc (by simp [z])) e
 done:=fun s Q E st hQ=>by
  obtain ⟨hL,f,hI,hf⟩:=st
  exact next_end hh hL hr hI hf hne fun h' he=>hQ h' s.toks fun c o hc e=>he c o (fun z=>hc (by simp [z])) e
 self:=fun i s Q E st hQ=>by
  obtain ⟨hL,f,hI,hf⟩:=st
  refine wpAny_pyIter_slot hI.ty Z8 (wpAny_call_entry Z8 hI.ty aB0 ?_ (az7 _))
  exact wpAny_bind (wpAny_pure (wpAny_pure ⟨_,rfl,"set_iterator",_,hI.ty,A4.lookup,hQ⟩))
end
end ST

namespace ST
open PySem PyProof.Rows
theorem ax1:typeLookup (.type "set") "__len__"=pure (some (.builtin "set.__len__")):=by rw [typeLookup_type,builtinLookup_eq_fast];kernel_rfl
section
variable {prog:Program} {w:World} {A:Around} {E:Value->Shared->Prop} {s:Shared} {a I b:Addr} {es:Array (Int × Value)} {ep:Nat} {t:SetTable} {pl:List Nat}
theorem aA3 (hh:A.handled=none) (hL:Lies s.heap a es ep t) (hw:Well (Led w) t) (hz:es.size <= 10000) {Q:List Value->Shared->Prop}
  (h:∀ (vs:List Value) h' d' tk',vs.Perm (es.toList.map (·.2))->(∀ c o,s.heap.get? c=some o->h'.get? c=some o)->s.heap.objs.size <= h'.objs.size->s.toks <= tk'->Q vs { s with heap:=h',drawn:=d',toks:=tk' }) :
  wpAny (model prog w) A (collect (.ref a)) Q E s:=by
 have hlt:a < s.heap.objs.size:=let ⟨o,ho,_⟩:=hL.at_;Heap.lt_size ho
 unfold collect
 refine wpAny_bind (wpAny_runValue (codeAny_builtin F.entry_proto_collect ?_))
 rw [Around.under_plainId F.plain_proto_collect _]
 show wpAny _ A.in1 (newList [] >>= fun l=>again (.builtin "list.__iadd__" ⟨[l,.ref a],[]⟩)) _ _ s
 refine wpAny_bind (wpAny_newObj_type ?_)
 refine wpAny_pure ⟨plainId_quiet F.plain_list_iadd _,codeAny_builtin F.entry_list_iadd ?_⟩
 rw [Around.under_plainId F.plain_list_iadd _]
 have hL1:Lies (s.heap.push { cls:=.type "list",data:=.seq ([]:List Value).toArray }) a es ep t:=hL.at fun o e=>Heap.get?_push_of_some _ e
 have hS1:(s.heap.push { cls:=.type "list",data:=.seq ([]:List Value).toArray }).get? s.heap.objs.size=some { cls:=.type "list",data:=.seq ([]:List Value).toArray }:=Heap.get?_push_size _ rfl
 have hne:s.heap.objs.size ≠ a:=Nat.ne_of_gt hlt
 have h1:Builtin.List.listSameRef (.ref s.heap.objs.size) (.ref a)=false:=by simp [Builtin.List.listSameRef,hne]
 show wpAny _ A.in1 (Builtin.List.listExtendWith (.ref s.heap.objs.size) (.ref a) (.ref s.heap.objs.size)) _ _ _
 unfold Builtin.List.listExtendWith
 refine wpAny_bind (wpAny_typeOf (Lies.ty (s:={ s with heap:=_ }) hL1) ?_)
 rw [if_neg (by rw [h1];decide)]
 refine wpAny_bind (aU2 (s:={ s with heap:=_ }) hL1 hw hz fun r pl b f I h2 d2 hr hI hf hb hbz he hIz h2z=>?_)
 have hL2:Lies h2 a es ep t:=hL1.at fun o e=>he a o e
 have hS2:=he _ _ hS1
 refine wpAny_bind (wpAny_holding ?_)
 unfold Builtin.List.listLengthHint
 refine wpAny_bind (wpAny_specialOf (Lies.ty (s:={ s with heap:=h2,drawn:=d2 }) hL2) ax1 ?_)
 generalize hid:("set.__len__":String)=id0
 dsimp only
 rw [show splitId id0=some ("set","__len__") from by subst hid;decide +kernel]
 dsimp only
 refine wpAny_bind (wpAny_isInstance (b:=true) (Lies.ty (s:={ s with heap:=h2,drawn:=d2 }) hL2) (by rw [isSubtype_type];kernel_rfl) ?_)
 rw [if_neg (by decide)]
 subst hid
 rw [if_pos (by decide +kernel)]
 refine wpAny_bind (wpAny_typeOf (Lies.ty (s:={ s with heap:=h2,drawn:=d2 }) hL2) ?_)
 refine wpAny_pure ?_
 rw [if_pos (by decide +kernel)]
 refine wpAny_bind (wpAny_rule ?_)
 refine wpAny_bind ?_
 show wpAny _ A.in1 (updateSeq s.heap.objs.size (·.push .none) >>= fun _=>updateSeq s.heap.objs.size (·.pop)) _ _ _
 refine wpAny_bind (wpAny_updateSeq (s:={ s with heap:=h2,drawn:=d2 }) hS2 rfl ?_)
 have hS3:=Heap.get?_update_self (Obj.mapSeq (·.push Value.none)) hS2 rfl
 refine wpAny_updateSeq (s:={ s with heap:=_,drawn:=d2 }) hS3 rfl ?_
 have hS4:=Heap.get?_update_self (Obj.mapSeq (·.pop)) hS3 rfl
 have oth:∀ c o,c ≠ s.heap.objs.size->h2.get? c=some o->((h2.update s.heap.objs.size (Obj.mapSeq (·.push Value.none))).update s.heap.objs.size (Obj.mapSeq (·.pop))).get? c=some o :=
  fun c o hc e=>(Heap.get?_update_other _ _ (Ne.symm hc)).trans ((Heap.get?_update_other _ _ (Ne.symm hc)).trans e)
 have hz1:s.heap.objs.size < (s.heap.push { cls:=.type "list",data:=.seq ([]:List Value).toArray }).objs.size:=by rw [size_push'];exact Nat.lt_succ_self _
 have hSI:I ≠ s.heap.objs.size:=Nat.ne_of_gt (Nat.lt_of_lt_of_le hz1 hIz)
 have hSb:b ≠ s.heap.objs.size:=by
  rcases hbz with z | z
  ·rw [z];exact Ne.symm hne
  ·exact Nat.ne_of_gt (Nat.lt_of_lt_of_le hz1 z)
 have W:=(aM2 (prog:=prog) (w:=w) (A:=A.in1) (a:=a) (b:=b) (I:=I) (es:=es) (ep:=ep) (t:=t) (pl:=pl) hh hr hb (Nat.ne_of_lt (Nat.lt_of_lt_of_le (Nat.lt_trans hlt hz1) hIz))).toS
 have st:Lies h2 a es ep t/\∃ f,A9 h2 I a f 0 es.size ep/\M9 h2 t b pl 0 f r:=⟨hL2,f,hI,hf⟩
 have st2:=W.frame 0 ({ s with heap:=h2,drawn:=d2 }:Shared) _ s.toks st (Nat.le_refl _) fun c hc o e=>oth c o (fun z=>by simp at hc;rcases hc with y | y | y <;> simp_all) e
 refine wpAny_pure ⟨plainId_quiet F.plain_extend_loop _,codeAny_extend_loopS W (Nat.le_trans hz (by decide)) _ (fun z=>by simp at z;rcases z with y | y | y <;> simp_all) _ es.size 0 _ _ _ rfl (Nat.zero_le _) st2 hS4 (ItemsOf.nil _) fun s' acc' c' hm hS' hacc=>?_⟩
 show wpAny _ A (load s.heap.objs.size >>= _) _ _ s'
 refine wpAny_bind (wpAny_load hS' ?_)
 refine wpAny_pure ?_
 have eS:s'={ s with heap:=s'.heap,drawn:=d2,toks:=s'.toks }:=by
  obtain ⟨hp',g',d',tk',os'⟩:=s'
  have m1:g'=s.gens:=hm.gens
  have m2:d'=d2:=hm.drawn
  have m3:os'=s.os:=hm.os
  subst m1;subst m2;subst m3
  rfl
 have eo:acc'.toList=aj5 w a es ep pl r:=by
  have l1:(aj5 w a es ep pl r).length=es.size:=by rw [(aw1 hr).length_eq];simp
  apply List.ext_getElem
  ·rw [l1];simpa using hacc.1
  ·intro i h1 h2
   have:=hacc.2 i acc'.toList[i] (by simp at h1 ⊢)
   dsimp only at this
   rw [List.getElem?_eq_getElem h2] at this
   exact (Option.some.inj this).symm
 rw [eo,eS]
 refine h _ _ d2 s'.toks (aw1 hr) (fun c o e=>?_) (Nat.le_of_lt (Heap.lt_size hS')) hm.toks
 have hc:c < s.heap.objs.size:=Heap.lt_size e
 have n1:c ≠ s.heap.objs.size:=Nat.ne_of_lt hc
 have n2:c ≠ I:=Nat.ne_of_lt (Nat.lt_of_lt_of_le (Nat.lt_trans hc hz1) hIz)
 exact hm.heap c o (by simp [n1,n2]) (oth c o n1 (he c o (Heap.get?_push_of_some _ e)))
theorem aF7 {ks:List Int} (hh:A.handled=none) (hS:l0 prog w s.heap a ks) (h64:ks.length < 64) {Q:Value->Shared->Prop}
  (h:∀ (S:Addr) (vs:List Value) (ns:List Int) e h' d' tk',IntsAre vs ns->ns.Perm ks->ns.Pairwise (· <= ·)->h'.get? S=some (seqObj "list" vs.toArray e)->s.heap.objs.size <= S->(∀ c o,s.heap.get? c=some o->h'.get? c=some o)->s.toks <= tk'->Q (.ref S) { s with heap:=h',drawn:=d',toks:=tk' }) :
  wpAny (model prog w) A (call (.builtin "sorted") [.ref a]) Q E s:=by
 obtain ⟨o,es,ep,t,ho,hx,hd,hel,hp,hn,hb,hf,hw⟩:=hS
 have hL:Lies s.heap a es ep t:=⟨⟨o,ho,hx.1,hd⟩,hf⟩
 have hz:es.size=ks.length:=by rw [<- hp.length_eq];simp
 refine Calls.call_function_entry kind_sorted plain_sorted entry_sorted (args_sorted1 _) ?_
 unfold Builtin.«sorted»
 refine wpAny_bind (m:=checkCount "sorted" 1 1 _) (wpAny_pure ?_)
 refine wpAny_bind (aA3 (A:=A.in1) hh hL hw (by omega) fun vs h1 d1 tk1 hv he hz1 htk=>?_)
 have hI:IntsAre vs (vs.map toI):=by
  have all:∀ v ∈ vs,∃ tk,v=.int (toI v) tk:=fun v hv'=>by
   obtain ⟨e,he',rfl⟩:=List.mem_map.mp (hv.mem_iff.mp hv')
   obtain ⟨tk,h1,_⟩:=V8 hel he'
   exact ⟨tk,h1⟩
  clear hv
  induction vs with
  | nil=>exact .nil
  | cons v r ih =>
   obtain ⟨tk,e⟩:=all v (by simp)
   have:=IntsAre.cons (toI v) tk (ih fun u hu=>all u (by simp [hu]))
   rw [<- e] at this
   exact this
 have hk:(vs.map toI).Perm ks:=by
  refine (hv.map toI).trans ?_
  rw [List.map_map]
  exact hp
 have hl:vs.length < 64:=by rw [hv.length_eq];simp;omega
 refine wpAny_bind (wpAny_newList (s:={ s with heap:=h1,drawn:=d1,toks:=tk1 }) ?_)
 have hoL:(h1.push (seqObj "list" vs.toArray 0)).get? h1.objs.size=some (seqObj "list" vs.toArray 0):=Heap.get?_push_size _ rfl
 refine wpAny_bind (wpAny_holding (wpAny_call_entry (s:={ s with heap:=h1.push (seqObj "list" vs.toArray 0),drawn:=d1,toks:=tk1 }) slot_list_sort ⟨_,hoL,rfl⟩ entry_list_sort (list_sort_tree hoL hI hl fun out ns' a1 a2 a3=>⟨_,rfl,?_⟩) (args_list_sort _)))
 obtain ⟨e,he'⟩:=sortedHeap_at (vs:=vs) (out:=out) hoL
 refine wpAny_pure ⟨_,rfl,h h1.objs.size out.toList ns' e _ d1 tk1 a1 (a2.trans hk) a3 he' hz1 (fun c o' e'=>?_) htk⟩
 have hc:=Heap.lt_size (he c o' e')
 rw [sortedHeap_old (Nat.ne_of_lt hc) (by rw [size_push'];exact Nat.lt_succ_of_lt hc)]
 exact Heap.get?_push_of_some _ (he c o' e')
end
end ST

namespace ST
open PySem PyProof.Rows
noncomputable def j5 (ks xs:List Int):List Int:=xs.foldl B5 ks
theorem D7:∀ (xs ks:List Int),(j5 ks xs).length <= ks.length + xs.length
 | [],ks=>by simp [j5]
 | x :: xs,ks=>by
  have:=D7 xs (B5 ks x)
  have h2:=az8 ks x
  show (j5 (B5 ks x) xs).length <= _
  simp only [List.length_cons]
  omega
theorem C7:∀ (xs ks:List Int) (k:Int),k ∈ j5 ks xs ↔ k ∈ ks \/ k ∈ xs
 | [],ks,k=>by simp [j5]
 | x :: xs,ks,k=>by
  show k ∈ j5 (B5 ks x) xs ↔ _
  rw [C7 xs]
  unfold B5
  split
  ·rename_i h
   constructor
   ·rintro (a | a)
    ·exact .inl a
    ·exact .inr (by simp [a])
   ·rintro (a | a)
    ·exact .inl a
    ·rcases List.mem_cons.mp a with rfl | b
     ·exact .inl h
     ·exact .inr b
  ·simp [or_assoc]
theorem U0:∀ (xs ks:List Int),ks.Nodup->(j5 ks xs).Nodup
 | [],ks,h=>h
 | x :: xs,ks,h=>by
  show (j5 (B5 ks x) xs).Nodup
  refine U0 xs _ ?_
  unfold B5
  split
  ·exact h
  ·rename_i hk
   rw [List.nodup_append]
   exact ⟨h,by simp,fun a ha b hb=>by simp at hb;subst hb;exact fun z=>hk (z ▸ ha)⟩
section
variable {prog:Program} {w:World} {A:Around} {E:Value->Shared->Prop} {s:Shared} {a:Addr}
theorem ak8:Well (Led w) (SetTable.fresh 0 0 (Led w)):=⟨by simp [Ris,SetTable.fresh],rfl,rfl⟩
theorem ar0 {h:Heap} (e:h.get? a=some { cls:=.type "set",dict:=none,data:=.set #[] 0 (.fresh 0 0 (Led w)) }):l0 prog w h a [] :=
 ⟨_,#[],0,_,e,⟨rfl,rfl,rfl⟩,rfl,(by intro e he;simp at he),by simp,by simp,by decide,by rfl,ak8⟩
theorem aT2 {R:Result->Shared->Prop} {I:Addr} {fp wr:List Addr} {G:Array GenState->Array GenState->Prop} {n:Nat} {P:Nat->Value->Prop} {St:Nat->Shared->Prop} (W:WalksS prog w A.in1 I fp wr G n P St) (hSf:a ∉ fp) {ns:List Int} (hn:n=ns.length)
  (hv:∀ i v,P i v->∃ tk,v=.int (ns.getD i 0) tk) (hb:n + 1 < scanBound):∀ (k i:Nat) (s:Shared),i + k=n->St i s->l0 prog w s.heap a (j5 [] (ns.take i)) ->
   (∀ s',Moved (a :: wr) G s s'->l0 prog w s'.heap a (j5 [] ns)->R (.ok (.ret .none)) s')->codeAny (model prog w) A (.builtin "set.update.loop" ⟨[.ref a,.ref I],[]⟩) R s:=by
 have hw:a ∉ wr:=fun h=>hSf (W.sub _ h)
 have sub':∀ b ∈ wr,b ∈ a :: wr:=fun b hb=>by simp [hb]
 intro k
 induction k with
 | zero =>
  intro i s e st hS hR
  obtain rfl:i=n:=by omega
  refine codeAny_builtin PyProof.Rows.F.entry_set_update_loop ?_
  rw [Around.under_plainId PyProof.Rows.F.plain_set_update_loop _]
  unfold Builtin.«set.update.loop»
  refine wpAny_bind (W.done s _ _ st fun s' m=>wpAny_pure (hR s' (m.mono sub') (l0.at ?_ fun o e=>m.heap a o hw e)))
  rw [hn,List.take_length] at hS
  exact hS
 | succ k ih =>
  intro i s e st hS hR
  have hlt:i < ns.length:=by omega
  refine codeAny_builtin PyProof.Rows.F.entry_set_update_loop ?_
  rw [Around.under_plainId PyProof.Rows.F.plain_set_update_loop _]
  unfold Builtin.«set.update.loop»
  refine wpAny_bind (W.item i s _ _ (by omega) st fun v s' hP st' m=>?_)
  obtain ⟨tk,rfl⟩:=hv i v hP
  have hS':=l0.at hS fun o e=>m.heap a o hw e
  have hl:=D7 (ns.take i) []
  rw [List.length_take] at hl
  simp only [List.length_nil] at hl
  refine wpAny_bind (wpAny_holding ?_)
  unfold setAdd
  refine wpAny_holding (wpAny_bind ((intKind prog w).pyHash (k:=ns.getD i 0) (intKind_is _ _ _ _) ?_))
  refine a88 (s:={ s' with toks:=s'.toks + 1 }) hS' (by omega) fun h' bb sb hS2=>?_
  have e2:B5 (j5 [] (ns.take i)) (ns.getD i 0)=j5 [] (ns.take (i + 1)):=by
   unfold j5
   rw [List.take_succ,List.foldl_append,List.getElem?_eq_getElem hlt]
   simp [List.getD,hlt]
  rw [e2] at hS2
  refine wpAny_pure ⟨plainId_quiet PyProof.Rows.F.plain_set_update_loop _,ih (i + 1) _ (by omega) (W.frame _ s' _ _ st' (Nat.le_succ _) fun b hb o e=>by rw [sb.2 b fun z=>hSf (z ▸ hb)];exact e) hS2 fun s2 m2 h2=>?_⟩
  exact hR s2 (Moved.trans W.gtrans ((m.mono sub').then_heap (Nat.le_succ _) fun b o hb e=>by rw [sb.2 b fun z=>hb (by rw [z];simp)];exact e) m2) h2
end
end ST

namespace ST
open PySem PyProof.Rows
section
variable {prog:Program} {w:World} {A:Around} {E:Value->Shared->Prop} {s:Shared} {a:Addr}
noncomputable abbrev r9 (w:World):Obj:={ cls:=.type "set",dict:=none,data:=.set #[] 0 (.fresh 0 0 (Led w)) }
theorem aC9 {Q:Value->Shared->Prop} (h:Q (.ref s.heap.objs.size) { s with heap:=s.heap.push (r9 w) }):wpAny (model prog w) A (newSet (.type "set")) Q E s:=by
 unfold newSet
 refine wpAny_bind (T7 ?_)
 exact wpAny_newObj_type h (Nat.zero_le _)
theorem a04 (x:Value) {Q:Value->Shared->Prop} (h:Q (.ref s.heap.objs.size) { s with heap:=s.heap.push (r9 w) }):codeAny (model prog w) A (.call (.builtin "set.__new__") ⟨[.type "set",x],[]⟩) (wants Q E) s:=by
 refine codeAny_of_tree (?_:wpAny _ A.in1 (do
  checkBuiltinCall "set.__new__" ⟨[.type "set",x],[]⟩
  again (.builtin "set.__new__" ⟨[.type "set",x],[]⟩)) _ _ s)
 refine wpAny_bind (wpAny_of_eq (F.newCall_set_1 x) (wpAny_pure ⟨plainId_quiet F.plain_set_new _,?_⟩))
 refine codeAny_builtin F.entry_set_new ?_
 rw [Around.under_plainId F.plain_set_new _]
 unfold Builtin.«set.__new__»
 have sub:=sub_set_self
 refine wpAny_bind (m:=Builtin.Frozenset.newClass "set" _) ?_
 unfold Builtin.Frozenset.newClass
 dsimp only
 refine wpAny_bind (wpAny_of_eq (a:=true) (by first | rfl | (simp [isType];rfl)) ?_)
 rw [if_neg (by decide)]
 refine wpAny_bind (wpAny_of_eq sub ?_)
 rw [if_neg (by decide)]
 refine wpAny_pure ?_
 exact wpAny_bind (aC9 (wpAny_pure h))
theorem ax5 {vs:List Value} {ns:List Int} (h:IntsAre vs ns):vs.length=ns.length:=by
 induction h with
 | nil=>rfl
 | cons n t r ih=>simp [ih]
noncomputable def aA0 (h:Heap) (l:Addr) (items:Array Value):Prop:=h.IsList l items \/ h.IsTuple l items
theorem aA0.lt {h:Heap} {l:Addr} {items:Array Value} (x:aA0 h l items):l < h.objs.size:=by
 rcases x with ⟨_,e,_⟩ | ⟨_,e,_⟩ <;> exact Heap.lt_size e
theorem aZ2 {l:Addr} {items:Array Value} {ns:List Int} {Q:Fin->Shared->Prop} (hh:A.handled=none) (hS:s.heap.get? a=some (r9 w)) (hl:aA0 s.heap l items) (hi:IntsAre items.toList ns) (hb:items.size + 1 < scanBound) (hne:a ≠ l)
  (h:∀ h' tk,l0 prog w h' a (j5 [] ns)->(∀ b o,b ≠ a->s.heap.get? b=some o->h'.get? b=some o)->s.toks <= tk->wpAny (model prog w) A (ret .none) Q E { s with heap:=h',toks:=tk }) :
  wpAny (model prog w) A (Builtin.«set.__init__» ⟨[.ref a,.ref l],[]⟩) Q E s:=by
 have hT:s.TypeIs (.ref a) "set":=⟨_,hS,rfl⟩
 have hLi:Lies s.heap a #[] 0 (SetTable.fresh 0 0 (Led w)):=⟨⟨_,hS,rfl,rfl⟩,rfl⟩
 have hlt:=hl.lt
 have hnI:l ≠ s.heap.objs.size:=Nat.ne_of_lt hlt
 unfold Builtin.«set.__init__» noKeywords
 dsimp only
 refine wpAny_bind (wpAny_of_eq (a:=()) rfl ?_)
 have nm:∀ {Q':String->Shared->Prop},(∀ x,Q' x s)->wpAny (model prog w) A (typeNameOfCut 200 (.ref a)) Q' E s:=fun {Q'} q=>by
  unfold typeNameOfCut shownTypeOf
  refine wpAny_bind (wpAny_bind (wpAny_typeOf hT ?_))
  rw [if_neg (by decide)]
  refine wpAny_pure (wpAny_of_eq (a:="set") ?_ (q _))
  unfold typeNameCut
  dsimp only
  first | (unfold typeName;rw [find?_eq_fast];kernel_rfl) | kernel_rfl
 refine wpAny_bind (nm fun x=>?_)
 refine wpAny_bind (m:=checkCount _ 0 1 _) (wpAny_pure ?_)
 refine wpAny_bind (m:=Builtin.Frozenset.addrOf _) (wpAny_pure ?_)
 unfold setUsed
 refine wpAny_bind (wpAny_bind (wpAny_setState_of hS rfl rfl (wpAny_pure ?_)))
 rw [if_neg (by show ¬ ((SetTable.fill (SetTable.fresh 0 0 (Led w)) != 0)=true);unfold SetTable.fill;simp [SetTable.fresh])]
 unfold Builtin.Frozenset.updateFrom Builtin.Frozenset.isAnySet
 obtain ⟨c,hcc,hTl,it,hit,hkp,St,W,hst⟩:∃ c:String,(c="list" \/ c="tuple")/\s.TypeIs (.ref l) c/\∃ it:Obj,(∀ Q':Value->Shared->Prop,Q' (.ref s.heap.objs.size) { s with heap:=s.heap.push it }->wpAny (model prog w) A (pyIter (.ref l)) Q' E s) /\
   (∀ b o,s.heap.get? b=some o->(s.heap.push it).get? b=some o)/\∃ St:Nat->Shared->Prop,WalksS prog w A.in1 s.heap.objs.size [s.heap.objs.size,l] [s.heap.objs.size] (fun a b=>b=a) items.size (fun i v=>items[i]?=some v) St/\St 0 { s with heap:=s.heap.push it }:=by
  rcases hl with hl | hl
  ·obtain ⟨o,ho,hc,_⟩:=id hl
   exact ⟨"list",.inl rfl,⟨o,ho,hc⟩,_,fun Q' q=>wpAny_pyIter_list hl q,fun b o e=>Heap.get?_push_of_some _ e,_,(Walks.list (A:=A.in1) hh _ l hnI items).toS,⟨⟨_,Heap.get?_push_size _ rfl,rfl,rfl⟩,hl.push _⟩⟩
  ·obtain ⟨o,ho,hc,_⟩:=id hl
   exact ⟨"tuple",.inr rfl,⟨o,ho,hc⟩,_,fun Q' q=>wpAny_pyIter_tuple hl q,fun b o e=>Heap.get?_push_of_some _ e,_,(Walks.tuple (A:=A.in1) hh _ l hnI items).toS,⟨⟨_,Heap.get?_push_size _ rfl,rfl,rfl⟩,hl.push _⟩⟩
 refine wpAny_bind (wpAny_bind (wpAny_bind (wpAny_isInstance (b:=false) hTl (by rcases hcc with rfl | rfl <;> (rw [isSubtype_type];kernel_rfl)) ?_)))
 show wpAny (model prog w) A (isInstance (Value.ref l) (Value.type "frozenset")) _ _ _
 refine wpAny_isInstance (b:=false) hTl (by rcases hcc with rfl | rfl <;> (rw [isSubtype_type];kernel_rfl)) ?_
 rw [if_neg (by decide)]
 refine wpAny_bind (wpAny_typeOf hTl ?_)
 rw [if_neg (by rcases hcc with rfl | rfl <;> decide)]
 refine wpAny_bind (hit _ ?_)
 refine wpAny_bind (wpAny_runValue ?_)
 have haz:a < s.heap.objs.size:=Heap.lt_size hS
 have hsz:items.size=ns.length:=by rw [<- Array.length_toList];exact ax5 hi
 refine aT2 (a:=a) (ns:=ns) W (by simp only [List.mem_cons,List.not_mem_nil,or_false,not_or];exact ⟨Nat.ne_of_lt haz,hne⟩) hsz (fun i v hv=>IntsAre.int_at hi i v (by rw [Array.getElem?_toList];exact hv)) hb items.size 0 _ (by omega)
  hst (ar0 (hkp _ _ hS)) fun s' m hS'=>?_
 have eS:s'={ s with heap:=s'.heap,toks:=s'.toks }:=by
  obtain ⟨hp',g',d',tk',os'⟩:=s'
  have m1:g'=s.gens:=m.gens
  have m2:d'=s.drawn:=m.drawn
  have m3:os'=s.os:=m.os
  subst m1;subst m2;subst m3
  rfl
 rw [eS]
 refine wpAny_pure (h _ _ hS' (fun b o hb e=>?_) m.toks)
 exact m.heap b o (by simp only [List.mem_cons,List.not_mem_nil,or_false,not_or];exact ⟨hb,Nat.ne_of_lt (Heap.lt_size e)⟩) (hkp _ _ e)
theorem a08 {l:Addr} {items:Array Value} {ns:List Int} {Q:Value->Shared->Prop} (hh:A.handled=none) (hl:aA0 s.heap l items) (hi:IntsAre items.toList ns) (hb:items.size + 1 < scanBound)
  (h:∀ h' tk,l0 prog w h' s.heap.objs.size (j5 [] ns)->(∀ b o,s.heap.get? b=some o->h'.get? b=some o)->s.toks <= tk->Q (.ref s.heap.objs.size) { s with heap:=h',toks:=tk }) :
  wpAny (model prog w) A (call (.type "set") [.ref l]) Q E s:=by
 have cs:=F.called_set
 obtain ⟨_,_,y1⟩:=cs.mro
 have y2:=cs.made
 have y3:=cs.sub
 have y4:=cs.notType
 have y5:=cs.canCreate
 have y6:=F.typeCall_set_1 (.ref l)
 refine wpAny_call (codeAny_of_tree (?_:wpAny _ _ (callAny (.type "set") _) _ _ _))
 refine wpAny_pure ⟨Code.quiet_builtin _ (by decide +kernel),codeAny_builtin F.entry_type_call ?_⟩
 rw [Around.under_plain (weight_type_call_type "set" [.ref l] []) rfl]
 repeat (any_goals (first | assumption | wp_step))
 refine codeAny_mono (a04 (.ref l) (E:=E) (Q:=fun v s1=>v=.ref s.heap.objs.size/\s1={ s with heap:=s.heap.push (r9 w) }) ⟨rfl,rfl⟩) ?_
 rintro (e | fl) s1 hr
 ·exact hr
 cases fl with
 | next=>exact hr
 | brk=>exact hr
 | cont=>exact hr
 | ret v =>
 obtain ⟨rfl,rfl⟩:=hr
 have hS:(s.heap.push (r9 w)).get? s.heap.objs.size=some (r9 w):=Heap.get?_push_size _ rfl
 have hT:Shared.TypeIs { s with heap:=s.heap.push (r9 w) } (.ref s.heap.objs.size) "set":=⟨_,hS,rfl⟩
 have y7:=cs.init.lookup
 have y8:=cs.init.bind (.ref s.heap.objs.size)
 repeat (any_goals (first | assumption | wp_step))
 refine codeAny_mono (codeAny_call_builtin (R:=wants (fun v s2=>v=.none/\∃ h' tk,s2={ s with heap:=h',toks:=tk }/\l0 prog w h' s.heap.objs.size (j5 [] ns)/\(∀ b o,s.heap.get? b=some o->h'.get? b=some o)/\s.toks <= tk) E) cs.init.plain F.entry_set_init (check_set_init_1 hT ?_)) ?_
 ·have hl1:aA0 (s.heap.push (r9 w)) l items:=hl.imp (·.push _) (·.push _)
  have hll:=hl.lt
  refine aZ2 (s:={ s with heap:=s.heap.push (r9 w) }) (by simp [hh]) hS hl1 hi hb (Nat.ne_of_gt hll) fun h' tk h1 h2 h3=>wpAny_pure ⟨rfl,h',tk,rfl,h1,fun b o e=>h2 b o (Nat.ne_of_lt (Heap.lt_size e)) (Heap.get?_push_of_some _ e),h3⟩
 ·rintro (e | fl) s2 hr
  ·exact hr
  cases fl with
  | next=>exact hr
  | brk=>exact hr
  | cont=>exact hr
  | ret v =>
  obtain ⟨rfl,h',tk,rfl,h1,h2,h3⟩:=hr
  repeat (any_goals (first | assumption | wp_step))
  exact h _ _ h1 h2 h3
end
end ST

namespace L2
open PySem PySem.Spec PyProof.Rows
noncomputable def Z9 (X:Cx) (a:Addr) (ks:List Int):HO:=.ext fun h=>ST.l0 X.prog X.w h a ks
noncomputable def G7 (ns:List Int):List Int:=(ST.j5 [] ns).mergeSort (fun a b=>decide (a <= b))
theorem aa3:∀ {a b:List Int},a.Perm b->a.Pairwise (· <= ·)->b.Pairwise (· <= ·)->a=b
 | [],b,h,_,_=>by rw [List.nil_perm.mp h]
 | x :: a,[],h,_,_=>absurd h.length_eq (by simp)
 | x :: a,y :: b,h,h1,h2=>by
  rw [List.pairwise_cons] at h1 h2
  have e:x=y:=by
   have m1:=h.mem_iff (a:=y)
   have m2:=h.mem_iff (a:=x)
   simp only [List.mem_cons,true_or,true_iff,iff_true] at m1 m2
   rcases m1 with z | z
   ·exact z.symm
   ·rcases m2 with z' | z'
    ·exact z'
    ·have:=h1.1 y z
     have:=h2.1 x z'
     omega
  subst e
  rw [aa3 (h.cons_inv) h1.2 h2.2]
theorem ai9 (ns:List Int):(G7 ns).Pairwise (· <= ·):=by
 have:=List.pairwise_mergeSort (le:=fun a b:Int=>decide (a <= b)) (fun a b c h1 h2=>by simp at *;omega) (fun a b=>by simp;omega) (ST.j5 [] ns)
 exact this.imp fun h=>by simpa using h
theorem W6 (ns:List Int):(G7 ns).Perm (ST.j5 [] ns):=List.mergeSort_perm _ _
theorem aM1 (ns:List Int):(G7 ns).length <= ns.length:=by
 rw [(W6 ns).length_eq]
 have:=ST.D7 ns []
 simpa using this
section
variable {X:Cx} {pins:List (Addr × Obj)} {σ:St} {H:Hp} {s:Shared}
theorem Inv.draw (I:Inv X pins σ H s) (d:Drawn):Inv X pins σ H { s with drawn:=d } :=
 I.step (g':=s.gens) (t':=s.toks) (d':=d) (ch:=[]) (by simp) (fun b o _ _ _ e _=>e) (fun b o _ _ _ e _=>⟨o.slots,e⟩) (fun b o _ _ e=>e) (fun b o _ e=>⟨o,e⟩) (fun _ _ e=>e) (fun _ _ _ e=>e) (fun b ps e=>⟨#[],by simp [e]⟩) (fun m hm=>hm) I.hok I.bare
theorem aC1 {h:Heap} {H:Hp} {a:Addr} {ks:List Int} (x:ST.l0 X.prog X.w h a ks):l8 X.prog X.w H h a (Z9 X a ks) :=
 ⟨x,let ⟨o,_,_,_,e,_⟩:=x;⟨o,e⟩,fun h1 h2 y k=>y.at k⟩
theorem ai7:∀ {ns:List Int} {vs:List Value},IntsAre vs ns->Vals (ns.map V.int) vs
 | _,_,.nil=>.nil
 | _,_,.cons n t r=>.cons ⟨t,rfl⟩ (ai7 r)
theorem ak4:∀ {ns:List Int} {vs:List Value},Vals (ns.map V.int) vs->IntsAre vs ns
 | [],_,h=>by cases h;exact .nil
 | n :: ns,_,h=>by
  cases h with
  | cons r rr =>
   obtain ⟨t,rfl⟩:=r
   exact .cons n t (ak4 rr)
theorem ab2 (hc:X.calm=true):t6 X (.type "set") (fun xs H Q=>∃ a ns,xs=[.ref a]/\SqT X.K H a (ns.map V.int)/\ns.length < 60/\∀ p,H p=none->Q (.ref p) (upd H p (Z9 X p (ST.j5 [] ns)))):=by
 intro pins s σ H xs us Q I r h
 obtain ⟨a,ns,rfl,hq,hl,q⟩:=h
 cases r with
 | cons r rr =>
 cases rr
 cases r
 obtain ⟨its,rv,p,hz⟩:=I.tuple hq
 have hI:=ak4 rv
 have hlen:=ST.ax5 hI
 refine ST.a08 (ns:=ns) (I.ok.hd hc) (.inr (show s.heap.IsTuple a its.toArray from p)) (by simpa using hI) (by rw [List.size_toArray,hlen];exact Nat.lt_of_lt_of_le (Nat.succ_lt_succ hl) (by decide)) fun h' tk hS hk _=>?_
 exact ⟨.ref _,_,I.laid (a:=s.heap.objs.size) (t':=tk) hk (Nat.le_refl _) (aC1 hS),rfl,q _ (I.hok.fresh (Nat.le_refl _))⟩
theorem al8 (hc:X.calm=true):t6 X (.builtin "sorted") (fun xs H Q=>∃ a ns,xs=[.ref a]/\H a=some (Z9 X a (ST.j5 [] ns))/\ns.length < 60/\∀ p,H p=none->Q (.ref p) (upd H p (.lst ((G7 ns).map V.int)))):=by
 intro pins s σ H xs us Q I r h
 obtain ⟨a,ns,rfl,ha,hl,q⟩:=h
 cases r with
 | cons r rr =>
 cases rr
 cases r
 have hS:ST.l0 X.prog X.w s.heap a (ST.j5 [] ns):=(I.hok a _ ha).1
 have hn:=ST.D7 ns []
 simp only [List.length_nil] at hn
 refine ST.aF7 (I.ok.hd hc) hS (by omega) fun S vs ns' e h' d' tk' h1 h2 h3 h4 h5 h6 _=>?_
 have e1:ns'=G7 ns:=aa3 (h2.trans (W6 ns).symm) h3 (ai9 ns)
 subst e1
 have hz:=aM1 ns
 exact ⟨.ref S,_,(I.laid (a:=S) (o:=.lst ((G7 ns).map V.int)) (t':=tk') h6 h5 ⟨by rw [List.length_map];exact Nat.le_trans hz (Nat.le_trans (Nat.le_of_lt hl) (by decide)),vs,e,ai7 h1,h4⟩).draw d',rfl,q S (I.hok.fresh h5)⟩
end
end L2

namespace ST
open PySem PyProof.Rows
end ST
namespace L2
open PySem PySem.Spec PyProof.Rows
section
variable {prog:Program} {w:World} {A:Around} {R:Result->Shared->Prop} {s:Shared}
end
section
variable {X:Cx} {pins:List (Addr × Obj)} {σ:St} {H:Hp} {s:Shared}
end
end L2

namespace HT
open PySem PyProof.Rows Builtin
theorem ag4:fillsNumberSlot (.type "tuple") "mul"=pure false :=
 PySem.fillsNumberSlot_seq (id:="tuple.__mul__") (r:=some (.builtin "tuple.__rmul__")) F.slot_tuple_mul.lookup (by decide +kernel) F.slot_tuple_rmul.lookup (by decide +kernel)
theorem av6:seqRepeat? (.type "tuple")=pure (some (.builtin "tuple.__mul__")):=by
 unfold seqRepeat?
 rw [PySem.seqSlot_of (T:="tuple") (name:="__mul__") (id:="tuple.__mul__") F.slot_tuple_mul.lookup (by decide +kernel),PySem.seqSlot_of (T:="tuple") (name:="__rmul__") (id:="tuple.__rmul__") F.slot_tuple_rmul.lookup (by decide +kernel)]
 rfl
theorem ao0 (a:Int) (t:Tok) (l:Addr) (items:Array Value) (n:Nat) (dd:Option Addr) (sl:Array (Option Value)) :
  Meets (Builtin.«int.__rmul__» ⟨[.int a t,.ref l],[]⟩) (fun _ R s=>s.heap.get? l=some { cls:=.type "tuple",dict:=dd,data:=.seq items n,slots:=sl }/\R (.ok (.ret Value.notImplemented)) s) :=
 .of_wp fun prog w A R s h=>by obtain ⟨hp,g,d,tk,os⟩:=s;obtain ⟨hl,h⟩:=h;wp_walk;exact ⟨_,rfl,h⟩
theorem am4 (t:Value) (c:Value):Builtin.«tuple.__mul__» ⟨[t,c],[]⟩=(do
 let n <- asIndex c
 if n < -(2 ^ 63) || n >= 2 ^ 63 then
  rule "tuple.repeat.overflow";raiseError "OverflowError" s!"cannot fit '{<- typeNameOf c}' into an index-sized integer"
 let xs <- Builtin.Tuple.tupleItemsOf t
 if xs.isEmpty || n == 1 then
  if <- Builtin.Tuple.tupleIsExact t then rule "tuple.repeat.same-object";return <- ret t
 if n <= 0 || xs.isEmpty then return <- ret (<- Builtin.Tuple.tupleExact #[])
 if xs.size * n > (2 ^ 63 - 1) / 8 then rule "tuple.repeat.no-memory";raiseNew (<- newExc (.type "MemoryError") [])
 if Builtin.Tuple.tupleTooMany (xs.size * n) then unsupported "tuple.__mul__:memory"
 ret (<- Builtin.Tuple.tupleExact ((List.replicate n.toNat xs).foldl (· ++ ·) #[]))):=rfl
section
variable {prog:Program} {w:World} {A:Around} {E:Value->Shared->Prop} {s:Shared}
theorem aI7 (its:List Value):∀ (m:Nat) (acc:Array Value),List.foldl (fun x1 x2=>x1 ++ x2) acc (List.replicate m its.toArray)=acc ++ (List.replicate m its).flatten.toArray:=by
 intro m
 induction m with
 | zero=>intro acc;simp
 | succ m ih=>intro acc;rw [List.replicate_succ,List.foldl_cons,ih,List.replicate_succ,List.flatten_cons];simp
theorem aL3 {a:Addr} {its:List Value} {n:Int} {t:Tok} {Q:Value->Shared->Prop} (ht:IsTup s.heap a its.toArray) (hne:its ≠ []) (h1:1 <= n) (h2:n < 2 ^ 62) (hz:its.length * n.toNat <= sizeLine)
  (q1:n=1->Q (.ref a) s) (q2:Q (.ref s.heap.objs.size) { s with heap:=s.heap.push { cls:=.type "tuple",data:=.seq (List.replicate n.toNat its).flatten.toArray } }):wpAny (model prog w) A (binaryOp .Mult (.ref a) (.int n t)) Q E s:=by
 obtain ⟨o,ho,hc,k,hd⟩:=id ht
 obtain ⟨cls,dict,data,slots⟩:=o
 dsimp only at hc hd
 subst hc hd
 have he:its.toArray.isEmpty=false:=by cases its <;> first | exact absurd rfl hne | rfl
 refine wpAny_binaryOp_repeat_ref (T:="tuple") (U:="int") (by decide) ht.typeIs (fun s'=>typeIs_int s' n t) ag4 F.fills_int_mul F.slot_int_rmul av6 F.slot_int_index.lookup
  (call_meets F.slot_int_rmul (typeIs_int s n t) F.entry_int_rmul (F.args_int_rmul_2 _ _) (ao0 n t a its.toArray k dict slots) ⟨ho,rfl,ht.typeIs,?_⟩)
 refine wpAny_call_entry F.slot_tuple_mul ht.typeIs F.entry_tuple_mul ?_ (F.args_tuple_mul_2 _ _)
 rw [am4]
 refine wpAny_bind (wpAny_of_eq (show asIndex (.int n t)=pure n from rfl) ?_)
 dsimp only
 rw [if_neg (by simp only [Bool.or_eq_true,decide_eq_true_eq];omega)]
 refine wpAny_bind (tupleItemsOf_ ht ?_)
 have big:¬ ((its.toArray.size:Int) * n > (2 ^ 63 - 1) / 8):=by
  rw [List.size_toArray]
  have:((its.length * n.toNat:Nat):Int)=(its.length:Int) * n:=by rw [Int.natCast_mul];rw [show ((n.toNat:Nat):Int)=n by omega]
  rw [<- this]
  have hs:sizeLine < 2 ^ 59:=by decide
  omega
 have many:¬ (Builtin.Tuple.tupleTooMany ((its.toArray.size:Int) * n)=true):=by
  unfold Builtin.Tuple.tupleTooMany
  rw [List.size_toArray,decide_eq_true_iff]
  have:((its.length * n.toNat:Nat):Int)=(its.length:Int) * n:=by rw [Int.natCast_mul];rw [show ((n.toNat:Nat):Int)=n by omega]
  rw [<- this]
  omega
 have hsz:sizeOk (.seq (List.replicate n.toNat its).flatten.toArray):=by
  show (List.replicate n.toNat its).flatten.toArray.size <= sizeLine
  simp only [List.size_toArray,List.length_flatten,List.map_replicate,List.sum_replicate_nat]
  rw [Nat.mul_comm]
  exact hz
 by_cases e1:n=1
 ·subst e1
  rw [if_pos (by rw [he];rfl)]
  unfold Builtin.Tuple.tupleIsExact
  refine wpAny_bind (wpAny_bind (wpAny_typeOf ht.typeIs (wpAny_pure ?_)))
  rw [if_pos (by decide)]
  first
   | exact wpAny_bind (wpAny_rule (wpAny_bind (wpAny_pure ⟨_,rfl,wpAny_pure (q1 rfl)⟩)))
   | exact wpAny_bind (wpAny_rule (wpAny_pure ⟨_,rfl,(q1 rfl)⟩))
   | exact wpAny_bind (wpAny_rule (wpAny_pure ⟨_,rfl,wpAny_pure (q1 rfl)⟩))
 ·rw [if_neg (by rw [he];simpa using e1)]
  rw [if_neg (by rw [he];simp;omega),if_neg big,if_neg many]
  rw [show List.foldl (fun x1 x2=>x1 ++ x2) #[] (List.replicate n.toNat its.toArray)=(List.replicate n.toNat its).flatten.toArray by rw [aI7];simp]
  first
   | exact wpAny_bind (m:=Builtin.Tuple.tupleExact _) (wpAny_newObj_type (wpAny_pure ⟨_,rfl,q2⟩) hsz)
   | exact wpAny_bind (m:=Builtin.Tuple.tupleExact _) (wpAny_newObj_type (wpAny_pure ⟨_,rfl,wpAny_pure q2⟩) hsz)
end
end HT
namespace L2
open PySem PySem.Spec PyProof.Rows
section
variable {X:Cx}
noncomputable def bx9 (K:PySem.W.Frag):R2:=fun x y H Q=>∃ (a:Addr) (n:Int) (xs:List V),x=.ref a/\y=.int n/\SqT K H a xs/\xs ≠ []/\1 <= n/\n < 2 ^ 62/\xs.length * n.toNat <= sizeLine /\
 (n=1->Q (.ref a) H)/\(∀ p,H p=none->Q (.ref p) (upd H p (.tup (List.replicate n.toNat xs).flatten)))
theorem be0:OpR X (binaryOp .Mult) (bx9 X.K):=by
 intro pins s σ H x y v u Q I rx ry h
 obtain ⟨a,n,xs,rfl,rfl,ha,hne,h1,h2,hz,q1,q2⟩:=h
 cases rx
 obtain ⟨tk,rfl⟩:=ry
 obtain ⟨its,r,p,_⟩:=I.tuple ha
 refine HT.aL3 p (fun z=>hne (r.R7.mp z)) h1 h2 (by rw [<- r.length];exact hz) (fun e=>⟨.ref a,H,I,rfl,q1 e⟩) ?_
 refine ⟨.ref s.heap.objs.size,_,I.laid (t':=s.toks) (o:=.tup (List.replicate n.toNat xs).flatten) (fun b ob q=>Heap.get?_push_of_some _ q) (Nat.le_refl _) ?_,rfl,q2 _ (I.hok.fresh (Nat.le_refl _))⟩
 exact ⟨by rw [len_rep,Nat.mul_comm];exact hz,_,r.rep _,C6.new _ _⟩
noncomputable def bf2 (sep:Str) (ys:List Str):Nat:=ys.foldl (fun n y=>n + y.length + sep.length) 0
end
end L2

namespace HT
open PySem PyProof.Rows Builtin PySem.SeqAt
theorem ar8 (l:Addr) (items:Array Value) (n:Nat) (dd:Option Addr) (sl:Array (Option Value)) (x:Value) (e:Value->Bool) (j:Nat) (hj:j < items.size)
    (hit:e items[j]=true) (hno:∀ m (hm:m < items.size),m < j->e items[m]=false) :
    Meets (Builtin.«tuple.index» ⟨[.ref l,x],[]⟩)
      (fun A R s=>s.heap.get? l=some { cls:=.type "tuple",dict:=dd,data:=.seq items n,slots:=sl }/\(∀ y,y ∈ items->EqAt A.in1 s y x (e y))/\R (.ok (.ret (.int j s.toks))) { s with toks:=s.toks + 1 }) :=
  .of_wp fun prog w A R s h=>by
    obtain ⟨hp,g,d,tk,os⟩:=s;obtain ⟨hl,he,h⟩:=h
    wp_walk using wpAny_loadPart' hl
    show wpAny (model prog w) A.in1 (forIn ([:Min.min items.size items.size]:Std.Legacy.Range) ((none,()):Option PySem.Fin × Unit) (fun (i:Nat) __s =>
            match items[i]? with
            | some y=>do
              let __do_lift <- eqBool y x
              if __do_lift=true then do
                  let __do_lift <- retInt (i:Nat)
                  pure (ForInStep.done (some __do_lift,()))
                else pure (ForInStep.yield (none,()))
            | x=>pure (ForInStep.yield (none,())))) _ _ _
    rw [Std.Legacy.Range.forIn_eq_forIn_range']
    simp only [Std.Legacy.Range.size,Nat.sub_zero,Nat.add_sub_cancel,Nat.div_one,Nat.min_self]
    refine wpAny_forIn_list _ (fun rest b s'=>b=(none,())/\s'=⟨hp,g,d,tk,os⟩/\∃ i,rest=List.range' i (items.size - i)/\i <= j) _ ?_ ?_ _ _ ⟨rfl,rfl,0,by simp,Nat.zero_le _⟩
    · rintro y rest b s' ⟨rfl,rfl,i,hr,hi⟩
      have hlt:i < items.size:=by omega
      rw [show items.size - i=(items.size - (i + 1)) + 1 by omega,List.range'_succ] at hr
      cases hr
      rw [show items[y]?=some items[y] from Array.getElem?_eq_getElem hlt]
      refine wpAny_bind (he _ (Array.getElem_mem hlt) prog w _ _ ?_)
      by_cases hij:y=j
      · subst hij
        rw [hit]
        wp_walk
        exact ⟨_,rfl,h⟩
      · rw [hno y hlt (by omega)]
        wp_walk
        exact ⟨rfl,rfl,y + 1,rfl,by omega⟩
    · rintro b s' ⟨rfl,rfl,i,hr,hi⟩
      exfalso
      have:=congrArg List.length hr
      simp at this
      omega
section
variable {prog:Program} {w:World} {A:Around} {E:Value->Shared->Prop} {s:Shared}
theorem aO5:typeLookup (.type "tuple") (dunderI "add")=pure none:=by
 show typeLookup (.type "tuple") "__iadd__"=pure none
 rw [typeLookup_type,builtinLookup_eq_fast];kernel_rfl
theorem aZ4 {t b:Addr} {vs ws:List Value} {Q:Value->Shared->Prop} (ht:IsTup s.heap t vs.toArray) (hb:IsTup s.heap b ws.toArray)
  (h0:vs=[]->Q (.ref b) s) (h1:ws=[]->Q (.ref t) s) (h2:Q (.ref s.heap.objs.size) { s with heap:=s.heap.push { cls:=.type "tuple",data:=.seq (vs ++ ws).toArray } })
  (hsz:vs.length + ws.length <= sizeLine):wpAny (model prog w) A (inplaceOp .Add (.ref t) (.ref b)) Q E s:=by
 obtain ⟨⟨cls,dd,data,sl⟩,ho,hc,n,hd⟩:=id ht
 obtain ⟨⟨cls2,dd2,data2,sl2⟩,ho2,hc2,n2,hd2⟩:=id hb
 simp only at hc hd hc2 hd2
 subst hc hd hc2 hd2
 have e:vs.toArray ++ ws.toArray=(vs ++ ws).toArray:=by simp
 refine wpAny_inplaceOp_concat (T:="tuple") ⟨_,ho,rfl⟩ ⟨_,ho2,rfl⟩ aO5 noFill_tuple_add seq_tuple_add ?_
 by_cases hv:vs=[]
 ·subst hv
  exact call_meets F.slot_tuple_add ⟨_,ho,rfl⟩ F.entry_tuple_add (F.args_tuple_add_2 _ _) (tuple_addW0 t b #[] ws.toArray n n2 dd dd2 sl sl2 rfl) ⟨ho,ho2,h0 rfl⟩
 by_cases hw:ws=[]
 ·exact call_meets F.slot_tuple_add ⟨_,ho,rfl⟩ F.entry_tuple_add (F.args_tuple_add_2 _ _) (tuple_addW1 t b vs.toArray ws.toArray n n2 dd dd2 sl sl2 (by simpa using hv) (by simp [hw])) ⟨ho,ho2,h1 hw⟩
 ·refine call_meets F.slot_tuple_add ⟨_,ho,rfl⟩ F.entry_tuple_add (F.args_tuple_add_2 _ _) (tuple_addW2 t b vs.toArray ws.toArray n n2 dd dd2 sl sl2 (by simpa using hv) (by simpa using hw) (by rw [List.size_toArray,List.size_toArray];exact hsz)) ⟨ho,ho2,?_⟩
  rw [e]
  exact h2
end
end HT
namespace L2
open PySem PySem.Spec PyProof.Rows
section
variable {X:Cx}
noncomputable def ae4 (ys:List V) (y:V) (n:Nat):Prop:=ys.all J8=true/\J8 y=true/\(∃ z,ys[n]?=some z/\eqV z y=true)/\∀ (m:Nat) z,m < n->ys[m]?=some z->eqV z y=false
theorem am3:∀ {xs:List V} {us:List Value} {i:Nat} (hi:i < us.length),Vals xs us->∃ x,xs[i]?=some x/\RelV x us[i]
 | _,_,0,hi,.cons r _=>⟨_,rfl,r⟩
 | _,_,i + 1,hi,.cons _ t=>by
  obtain ⟨x,h1,h2⟩:=am3 (i:=i) (by simpa using hi) t
  exact ⟨x,by simpa using h1,by simpa using h2⟩
theorem aS6 {xs:List V} (h:xs.all J8=true) {i:Nat} {x:V} (e:xs[i]?=some x):J8 x=true:=List.all_eq_true.mp h x (List.mem_of_getElem? e)
theorem ar2 {ys:List V} {y:V} {n:Nat} {its:List Value} (F:ae4 ys y n) (r:Vals ys its):∃ hn:n < its.toArray.size,eqU y its.toArray[n]=true/\∀ m (hm:m < its.toArray.size),m < n->eqU y its.toArray[m]=false:=by
 obtain ⟨fs,fy,⟨z,hz,he⟩,hno⟩:=F
 have hl:=r.length
 have hn:n < its.length:=by
  have:=(List.getElem?_eq_some_iff.mp hz).1
  omega
 refine ⟨by simpa using hn,?_,fun m hm hmn=>?_⟩
 ·obtain ⟨x,hx,rx⟩:=am3 hn r
  rw [hz] at hx
  cases hx
  rw [List.getElem_toArray,ay1 rx (aS6 fs hz)]
  exact he
 ·have hm':m < its.length:=by simpa using hm
  obtain ⟨x,hx,rx⟩:=am3 hm' r
  rw [List.getElem_toArray,ay1 rx (aS6 fs hx)]
  exact hno m x hmn hx
noncomputable def aC3 (K:PySem.W.Frag):V->List V->Hp->VK->Prop:=fun x xs H Q=>∃ a ys y n,x=.ref a/\xs=[y]/\SqT K H a ys/\ae4 ys y n/\Q (.int n) H
noncomputable def aC4 (K:PySem.W.Frag):V->List V->Hp->VK->Prop:=fun x xs H Q=>∃ a ys y n,x=.ref a/\xs=[y]/\SqL K H a ys/\ae4 ys y n/\n < 2 ^ 62/\Q (.int n) H
theorem aO6:MtR X "tuple.index" (aC3 X.K):=by
 intro pins s σ H x xs v us Q I rx r h
 obtain ⟨a,ys,y,n,rfl,rfl,hq,W,q⟩:=h
 cases rx
 cases r with
 | cons ry rr =>
 cases rr
 obtain ⟨its,rv,p,hz⟩:=I.tuple hq
 obtain ⟨hn,hit,hno⟩:=ar2 W rv
 obtain ⟨⟨cls,dd,data,sl⟩,ho,hc,k,hd⟩:=id p
 simp only at hc hd
 subst hc hd
 refine call_meets F.slot_tuple_index p.typeIs F.entry_tuple_index (F.args_tuple_index_2 _ _) (HT.ar8 a its.toArray k dd sl _ (eqU y) n hn hit hno) ⟨ho,fun w hw=>ag5 ry W.2.1 rv W.1 w (by simpa using hw),⟨.int n,H,I.tok _,⟨_,rfl⟩,q⟩⟩
theorem aO7:MtR X "list.index" (aC4 X.K):=by
 intro pins s σ H x xs v us Q I rx r h
 obtain ⟨a,ys,y,n,rfl,rfl,hq,W,hn2,q⟩:=h
 cases rx
 cases r with
 | cons ry rr =>
 cases rr
 obtain ⟨its,rv,p,hz⟩:=I.list hq
 obtain ⟨hn,hit,hno⟩:=ar2 W rv
 have pt:=p.isList.typeIs
 obtain ⟨⟨cls,dd,data,sl⟩,k,ho,hc,hdd,hd⟩:=id p
 simp only at hc hdd hd
 subst hc hdd hd
 refine call_meets F.slot_list_index pt F.entry_list_index (F.args_list_index_2 _ _) (SeqAt.list_indexAt a its.toArray k none sl _ (eqU y) n hn (by omega) hit hno) ⟨ho,fun w hw=>ag5 ry W.2.1 rv W.1 w (by simpa using hw),⟨.int n,H,I.tok _,⟨_,rfl⟩,q⟩⟩
noncomputable def az9 (K:PySem.W.Frag) (H:Hp) (a:Addr) (xs:List V):Prop :=
 H a=some (.tup xs) \/ ∃ (o:Obj) (its:Array Value) (n:Nat),K.lookup a=some o/\o.cls=.type "tuple"/\o.dict=none/\o.data=.seq its n/\its.size <= sizeLine/\Vals xs its.toList
theorem az9.sq {K:PySem.W.Frag} {H:Hp} {a:Addr} {xs:List V} (h:az9 K H a xs):SqT K H a xs:=by
 rcases h with h | ⟨o,its,n,h1,h2,_,h3,h4,h5⟩
 ·exact .inl (.inl h)
 ·exact .inr ⟨o,its,n,h1,h2,h3,h4,h5⟩
theorem Inv.bF7 {pins:List (Addr × Obj)} {σ:St} {H:Hp} {s:Shared} {a:Addr} {xs:List V} (I:Inv X pins σ H s) (h:az9 X.K H a xs):s.TypeIs (.ref a) "tuple"/\∀ b,Value.ref a=.ref b->∃ ob,s.heap.get? b=some ob/\ob.dict=none:=by
 rcases h with h | ⟨o,its,n,h1,h2,h3,_⟩
 ·obtain ⟨_,its,_,o,e,c,_,d⟩:=(show l8 X.prog X.w H s.heap a (.tup xs) from I.hok a _ h)
  exact ⟨⟨o,e,c⟩,fun b q=>by cases q;exact ⟨o,e,d⟩⟩
 ·exact ⟨⟨o,I.kIn a o h1,h2⟩,fun b q=>by cases q;exact ⟨o,I.kIn a o h1,h3⟩⟩
noncomputable def bj5 (K:PySem.W.Frag) (to:TE) (t:TA):TE:=fun σ H Q=>to σ H fun x H1=>(∃ a xs,x=.ref a/\SqL K H1 a xs/\t σ H1 fun ys H2=>aC4 K x ys H2 Q) \/ (∃ a xs,x=.ref a/\az9 K H1 a xs/\t σ H1 fun ys H2=>aC3 K x ys H2 Q)
theorem aW8 {o e:Expr} {es:List Expr} {to:TE} {t:TA} {apos cpos:Pos} (ho:PE X o to) (ha:PA X (e :: es) t)
  (hbase:attributeBase o "index" X.env (eval o X.env)=eval o X.env)
  (hfew:((backTo cpos (starEach (e :: es) X.env)).all (fun x=>!x.1) && (backToKw cpos (keywordEach [] X.env)).all (fun x=>x.1.isSome)
   && decide ((e :: es).length + ([]:List Keyword).length + (if ([]:List Keyword).isEmpty then 0 else 1) < 30))=true)
  (hline:(apos.endLine == cpos.line)=true) (hs:starEach (e :: es) X.env=(false,eval e X.env) :: starEach es X.env) (hplain:(backTo cpos (starEach es X.env)).any (·.1)=false) :
  PE X (.Call (.Attribute o "index" apos) (e :: es) [] cpos) (bj5 X.K to t):=by
 intro pins s σ H Q I h
 refine wpAny_Call_method_late hbase hfew hline rfl (thn (ho pins s σ H _ I h) fun v s1 ⟨x,H1,I1,r1,q1⟩=>?_)
 rcases q1 with ⟨a,xs,rfl,hq,q1⟩ | ⟨a,xs,rfl,hq,q1⟩
 ·cases r1
  obtain ⟨its,rv,pl,hz⟩:=I1.list hq
  have pt:=pl.isList.typeIs
  obtain ⟨ob,k,e1,_,e2,_⟩:=id pl
  refine ⟨"list","list.index",F.plainAttrs_list,F.slot_list_index,F.type_list_index,pt,fun b q=>by cases q;exact ⟨ob,e1,e2⟩,?_⟩
  have hA:=ha cpos pins s1 σ H1 _ I1 q1
  rw [hs] at hA ⊢
  refine Calls.callWith_builtin (by show (false || (backTo cpos (starEach es X.env)).any (·.1))=false;rw [hplain] <;> rfl) (Calls.evalArgs_plain ?_)
  exact thn hA fun us s2 ⟨vs,H2,I2,r2,q2⟩=>aO7 pins s2 σ H2 (.ref a) vs (.ref a) us Q I2 rfl r2 q2
 ·cases r1
  obtain ⟨pt,hd⟩:=I1.bF7 hq
  refine ⟨"tuple","tuple.index",F.plainAttrs_tuple,F.slot_tuple_index,F.type_tuple_index,pt,hd,?_⟩
  have hA:=ha cpos pins s1 σ H1 _ I1 q1
  rw [hs] at hA ⊢
  refine Calls.callWith_builtin (by show (false || (backTo cpos (starEach es X.env)).any (·.1))=false;rw [hplain] <;> rfl) (Calls.evalArgs_plain ?_)
  exact thn hA fun us s2 ⟨vs,H2,I2,r2,q2⟩=>aO6 pins s2 σ H2 (.ref a) vs (.ref a) us Q I2 rfl r2 q2
noncomputable def by0 (K:PySem.W.Frag):V->V->Hp->VK->Prop:=fun x y H Q=>(∃ i j,x=.int i/\y=.int j/\Q (.int (i + j)) H) \/
 ∃ a b xs ys,x=.ref a/\y=.ref b/\SqT K H a xs/\SqT K H b ys/\xs.length + ys.length <= sizeLine/\(xs=[]->Q (.ref b) H)/\(ys=[]->Q (.ref a) H)/\(∀ p,H p=none->Q (.ref p) (upd H p (.tup (xs ++ ys))))
theorem bf7:a19 X .Add (by0 X.K):=by
 rintro pins s σ H x y u v Q I rx ry h
 rcases h with h | ⟨a,b,xs,ys,rfl,rfl,ha,hb,hz,q0,q1,q2⟩
 ·exact bs3 pins s σ H x y u v Q I rx ry h
 ·cases rx
  cases ry
  obtain ⟨its,r1,p1,_⟩:=I.tuple ha
  obtain ⟨its2,r2,p2,_⟩:=I.tuple hb
  refine HT.aZ4 p1 p2 (fun z=>⟨.ref b,H,I,rfl,q0 (r1.R7.mp z)⟩) (fun z=>⟨.ref a,H,I,rfl,q1 (r2.R7.mp z)⟩) ?_ (by rw [<- r1.length,<- r2.length];exact hz)
  refine ⟨.ref s.heap.objs.size,_,I.laid (t':=s.toks) (o:=.tup (xs ++ ys)) (fun b ob q=>Heap.get?_push_of_some _ q) (Nat.le_refl _) ?_,rfl,q2 _ (I.hok.fresh (Nat.le_refl _))⟩
  exact ⟨by rw [List.length_append];exact hz,_,r1.append r2,C6.new _ _⟩
end
end L2

namespace ST
open PySem PyProof.Rows
theorem bg0 {mask i p fuel:Nat} {owner:Array (Option Nat)} (h:owner.getD i (some 0)=none):SetTable.layClean.free mask owner (fuel + 1) i p=some i:=by
 unfold SetTable.layClean.free
 have e:SetTable.runEnd mask i + 1 - i=(SetTable.runEnd mask i - i) + 1:=by
  unfold SetTable.runEnd
  split <;> omega
 rw [e,List.range_succ_eq_map,List.find?_cons]
 rw [Nat.add_zero,h]
 rfl
noncomputable def Spot (k:Int):Prop:=0 <= k/\k < 8
structure Own (mask:Nat) (owner:Array (Option Nat)) (pre:List Int):Prop where
 sz:owner.size=mask + 1
 fwd:∀ (i:Nat) (k:Int),pre[i]?=some k->owner[k.toNat]?=some (some i)
 bwd:∀ (j i:Nat),owner[j]?=some (some i)->pre[i]?=some (j:Int)
theorem L5 {mask:Nat} (hm:7 <= mask):∀ (hs pre:List Int) (owner:Array (Option Nat)),(pre ++ hs).Nodup->(∀ k ∈ pre ++ hs,Spot k)->Own mask owner pre ->
  ∃ owner',Own mask owner' (pre ++ hs)/\hs.foldl (fun acc h=>do
   let (owner,k) <- acc
   let j <- SetTable.layClean.free mask owner (SetTable.turns mask) (SetTable.bits h % (mask + 1)) (SetTable.bits h)
   pure (owner.setIfInBounds j (some k),k + 1)) (some (owner,pre.length))=some (owner',(pre ++ hs).length)
 | [],pre,owner,_,_,o=>⟨owner,by simpa using o,by simp⟩
 | h :: hs,pre,owner,hn,hp,o=>by
  obtain ⟨h0,h8⟩:=hp h (by simp)
  have eb:SetTable.bits h % (mask + 1)=h.toNat:=by
   unfold SetTable.bits
   rw [Int.emod_eq_of_lt h0 (by omega)]
   exact Nat.mod_eq_of_lt (by omega)
  have hlt:h.toNat < owner.size:=by rw [o.sz];omega
  have hfree:owner[h.toNat]?=some none:=by
   rw [Array.getElem?_eq_getElem hlt]
   cases e:owner[h.toNat] with
   | none=>rfl
   | some i =>
    have:=o.bwd h.toNat i (by rw [Array.getElem?_eq_getElem hlt,e])
    rw [Int.toNat_of_nonneg h0] at this
    have hm:=List.mem_of_getElem? this
    rw [List.nodup_append] at hn
    exact absurd rfl (hn.2.2 h hm h (by simp))
  have ef:SetTable.layClean.free mask owner (SetTable.turns mask) (SetTable.bits h % (mask + 1)) (SetTable.bits h)=some h.toNat:=by
   rw [eb]
   exact bg0 (fuel:=mask + 14) (by rw [Array.getD_eq_getD_getElem?,hfree];rfl)
  have o':Own mask (owner.setIfInBounds h.toNat (some pre.length)) (pre ++ [h]):=by
   refine ⟨by rw [Array.size_setIfInBounds];exact o.sz,fun i k hi=>?_,fun j i hj=>?_⟩
   ·rw [List.getElem?_append] at hi
    split at hi
    ·have hk:=o.fwd i k hi
     have hks:=hp k (by have:=List.mem_of_getElem? hi;simp [this])
     have hne:h.toNat ≠ k.toNat:=fun z=>by
      have:k=h:=by have:=hks.1;omega
      subst this
      rw [List.nodup_append] at hn
      exact absurd rfl (hn.2.2 k (List.mem_of_getElem? hi) k (by simp))
     rw [Array.getElem?_setIfInBounds_ne hne]
     exact hk
    ·rename_i hge
     have:i - pre.length=0:=by
      cases e:i - pre.length with
      | zero=>rfl
      | succ n=>rw [e] at hi;simp at hi
     rw [this] at hi
     cases hi
     have:i=pre.length:=by omega
     subst this
     rw [Array.getElem?_setIfInBounds_self_of_lt hlt]
   ·by_cases e:h.toNat=j
    ·subst e
     rw [Array.getElem?_setIfInBounds_self_of_lt hlt] at hj
     cases hj
     rw [Int.toNat_of_nonneg h0]
     simp
    ·rw [Array.getElem?_setIfInBounds_ne e] at hj
     have:=o.bwd j i hj
     rw [List.getElem?_append_left (List.getElem?_eq_some_iff.mp this).1]
     exact this
  obtain ⟨owner',o2,e2⟩:=L5 hm hs (pre ++ [h]) _ (by simpa using hn) (by simpa using hp) o'
  refine ⟨owner',by simpa using o2,?_⟩
  rw [List.foldl_cons]
  have e1:(do
   let (owner,k) <- some (owner,pre.length)
   let j <- SetTable.layClean.free mask owner (SetTable.turns mask) (SetTable.bits h % (mask + 1)) (SetTable.bits h)
   pure (owner.setIfInBounds j (some k),k + 1):Option (Array (Option Nat) × Nat))=some (owner.setIfInBounds h.toNat (some pre.length),(pre ++ [h]).length):=by
   simp only [Option.bind_eq_bind,Option.bind_some,ef,Option.pure_def]
   simp
  rw [e1,e2]
  simp
theorem aI1 {mask finger moves:Nat} {led plain:Bool} {hashes:Array Int} (hm:7 <= mask) (hn:hashes.toList.Nodup) (hs:∀ k ∈ hashes.toList,Spot k) :
  ∃ t o,SetTable.laid mask finger moves led plain hashes=some (t,o)/\o.toList.Perm (List.range hashes.size)/\t.mask=mask/\t.place.size=hashes.size:=by
 have o0:Own mask (Array.replicate (mask + 1) none) []:=⟨by simp,fun i k h=>by simp at h,fun j i h=>by
  rw [Array.getElem?_replicate] at h
  split at h <;> cases h⟩
 obtain ⟨owner,o,e⟩:=L5 hm hashes.toList [] _ (by simpa using hn) (by simpa using hs) o0
 rw [List.nil_append] at o e
 have el:SetTable.layClean mask hashes=some owner:=by
  unfold SetTable.layClean
  rw [<- Array.foldl_toList]
  have:=e
  simp only [List.length_nil] at this
  rw [this]
  rfl
 have hP:((List.range (mask + 1)).filterMap fun j=>owner.getD j none).Perm (List.range hashes.size):=by
  have gd:∀ j i,owner.getD j none=some i ↔ owner[j]?=some (some i):=fun j i=>by
   rw [Array.getD_eq_getD_getElem?]
   cases owner[j]? with
   | none=>simp
   | some x=>simp
  refine (List.perm_ext_iff_of_nodup ?_ List.nodup_range).mpr fun i=>?_
  ·unfold List.Nodup
   rw [List.pairwise_filterMap]
   refine List.Pairwise.imp ?_ List.pairwise_lt_range
   intro a b hab x hx y hy z
   subst z
   have h1:=o.bwd a x ((gd _ _).mp hx)
   have h2:=o.bwd b x ((gd _ _).mp hy)
   rw [h1] at h2
   cases h2
   omega
  ·rw [List.mem_filterMap,List.mem_range]
   constructor
   ·rintro ⟨j,_,hj⟩
    have:=(List.getElem?_eq_some_iff.mp (o.bwd j i ((gd _ _).mp hj))).1
    simpa using this
   ·intro hi
    have hi':i < hashes.toList.length:=by simpa using hi
    have hg:=List.getElem?_eq_getElem hi'
    have hk:=hs _ (List.getElem_mem hi')
    refine ⟨(hashes.toList[i]).toNat,List.mem_range.mpr ?_,(gd _ _).mpr (o.fwd i _ hg)⟩
    have:=hk.1
    have:=hk.2
    omega
 refine ⟨{ mask,place:=((List.filterMap (fun j=>(owner.getD j none).map (j,·)) (List.range (mask + 1))).map (·.1)).toArray,dummies:=#[],finger,led,moves,plain },((List.filterMap (fun j=>(owner.getD j none).map (j,·)) (List.range (mask + 1))).map (·.2)).toArray,?_,?_,rfl,?_⟩
 ·unfold SetTable.laid
  rw [el]
  rfl
 ·rw [List.toList_toArray,List.map_filterMap]
  have:(fun j=>Option.map (fun x:Nat × Nat=>x.2) (Option.map (fun x=>(j,x)) (owner.getD j none)))=fun j=>owner.getD j none:=by
   funext j
   cases owner.getD j none <;> rfl
  rw [this]
  exact hP
 ·show (List.map _ _).toArray.size=_
  rw [List.size_toArray,List.length_map]
  have:=hP.length_eq
  rw [List.length_range] at this
  rw [<- this]
  have e3:(List.range (mask + 1)).filterMap (fun j=>owner.getD j none)=(List.filterMap (fun j=>(owner.getD j none).map (j,·)) (List.range (mask + 1))).map (·.2):=by
   rw [List.map_filterMap]
   congr 1
   funext j
   cases owner.getD j none <;> rfl
  rw [e3,List.length_map]
end ST

namespace ST
open PySem PyProof.Rows
section
variable {prog:Program} {w:World} {A:Around} {E:Value->Shared->Prop} {s:Shared} {a:Addr}
noncomputable def Z1 (prog:Program) (w:World) (h:Heap) (a:Addr) (ks:List Int):Prop :=
 ∃ o es ep t,h.get? a=some o/\o.ExactSet/\o.data=.set es ep t/\ElemsOf (intKind prog w) es.toList/\(es.toList.map fun e=>toI e.2).Perm ks/\ks.Nodup/\es.size < scanBound/\t.fits es.size=true/\Well (Led w) t/\(ks=[]->7 <= t.mask)
theorem Z1.toW {h:Heap} {ks:List Int} (x:Z1 prog w h a ks):l0 prog w h a ks:=by
 obtain ⟨o,es,ep,t,h1,h2,h3,h4,h5,h6,h7,h8,h9,_⟩:=x
 exact ⟨o,es,ep,t,h1,h2,h3,h4,h5,h6,h7,h8,h9⟩
theorem l0.toV {h:Heap} {ks:List Int} (x:l0 prog w h a ks) (hn:ks ≠ []):Z1 prog w h a ks:=by
 obtain ⟨o,es,ep,t,h1,h2,h3,h4,h5,h6,h7,h8,h9⟩:=x
 exact ⟨o,es,ep,t,h1,h2,h3,h4,h5,h6,h7,h8,h9,fun z=>absurd z hn⟩
theorem l0.same {h:Heap} {ks us:List Int} (x:l0 prog w h a ks) (hp:ks.Perm us):l0 prog w h a us:=by
 obtain ⟨o,es,ep,t,h1,h2,h3,h4,h5,h6,h7⟩:=x
 exact ⟨o,es,ep,t,h1,h2,h3,h4,h5.trans hp,hp.nodup_iff.mp h6,h7⟩
theorem aQ8 {k:Int} (h:Spot k):(intKind prog w).hash k=k:=by
 obtain ⟨h0,h8⟩:=h
 show hashInt k=k
 have:k=0 \/ k=1 \/ k=2 \/ k=3 \/ k=4 \/ k=5 \/ k=6 \/ k=7:=by omega
 rcases this with rfl | rfl | rfl | rfl | rfl | rfl | rfl | rfl <;> decide +kernel
theorem ax6 {es:Array (Int × Value)} {ks:List Int} (hel:ElemsOf (intKind prog w) es.toList) (hp:(es.toList.map fun e=>toI e.2).Perm ks) (hs:∀ k ∈ ks,Spot k):(es.map (·.1)).toList=es.toList.map fun e=>toI e.2:=by
 rw [Array.toList_map]
 refine List.map_congr_left fun e he=>?_
 obtain ⟨tk,h1,h2⟩:=V8 hel he
 rw [h2]
 exact aQ8 (hs _ (hp.mem_iff.mp (List.mem_map.mpr ⟨e,he,rfl⟩)))
theorem aD6 {es:Array (Int × Value)} {ks:List Int} {mask finger moves:Nat} {led plain:Bool} (hm:7 <= mask) (hsz:es.size <= mask) (hl:led=Led w) (hel:ElemsOf (intKind prog w) es.toList) (hp:(es.toList.map fun e=>toI e.2).Perm ks) (hn:ks.Nodup) (hs:∀ k ∈ ks,Spot k) :
  ∃ t o,SetTable.laid mask finger moves led plain (es.map (·.1))=some (t,o)/\(o.filterMap (es[·]?)).toList.Perm es.toList/\(o.filterMap (es[·]?)).size=es.size/\t.mask=mask/\t.fits es.size=true/\Well (Led w) t:=by
 have eh:=ax6 hel hp hs
 obtain ⟨t,o,e,hP,h1,h2⟩:=aI1 (finger:=finger) (moves:=moves) (led:=led) (plain:=plain) (hashes:=es.map (·.1)) hm (by rw [eh];exact hp.nodup_iff.mpr hn) (by rw [eh];exact fun k hk=>hs k (hp.mem_iff.mp hk))
 rw [Array.size_map] at hP h2
 have e2:(o.filterMap (es[·]?)).toList.Perm es.toList:=by
  rw [Array.toList_filterMap]
  refine (hP.filterMap _).trans ?_
  have:(List.range es.size).filterMap (es[·]?)=es.toList:=by
   have gen:∀ (l:List (Int × Value)),(List.range l.length).filterMap (fun i=>l[i]?)=l:=fun l=>by
    induction l with
    | nil=>rfl
    | cons x r ih =>
     rw [List.length_cons,List.range_succ_eq_map,List.filterMap_cons]
     simp only [List.getElem?_cons_zero,List.filterMap_map]
     congr 1
   have:=gen es.toList
   rw [Array.length_toList] at this
   rw [<- this]
   congr 1
   funext i
   rw [Array.getElem?_toList]
  rw [this]
 have hw:=aq5 hl e
 refine ⟨t,o,e,e2,by rw [<- Array.length_toList,e2.length_eq,Array.length_toList],h1,?_,hw⟩
 unfold SetTable.fits SetTable.fill
 rw [hw.dum,h2,h1]
 simp
 exact hsz
theorem a44 {es:Array (Int × Value)} {t:SetTable} {o:Array Nat} (hsz:(o.filterMap (es[·]?)).size=es.size) {Q:Array (Int × Value) × SetTable->Shared->Prop} (h:Q (o.filterMap (es[·]?),t) s):wpAny (model prog w) A (do
  let some (t,order):=(some (t,o):Option (SetTable × Array Nat)) | unsupported "internal:set-table-without-room"
  let es':=order.filterMap (es[·]?)
  if es'.size != es.size then unsupported "internal:set-table-lost-an-element"
  pure (es',t)) Q E s:=by
 dsimp only
 rw [if_neg (by rw [hsz];simp)]
 exact wpAny_pure h
theorem ac1 {h:Heap} {o:Obj} {es es':Array (Int × Value)} {ep:Nat} {t t':SetTable} (ho:h.get? a=some o) (hd:o.data=.set es ep t):(h.update a (Obj.putSet es' t')).get? a=some { o with data:=.set es' (ep + 1) t' }:=by
 have:=Heap.get?_update_self (Obj.putSet es' t') ho (by rw [putSet_of es' t' hd];rfl)
 rw [putSet_of es' t' hd] at this
 exact this
theorem above:∀ n,n < 300->7 < SetTable.sizeAbove n/\n < SetTable.sizeAbove n/\SetTable.sizeAbove n <= sizeLine:=by decide +kernel
theorem bb8 {ks:List Int} {n:Nat} {Q:Unit->Shared->Prop} (hS:l0 prog w s.heap a ks) (hs:∀ k ∈ ks,Spot k) (hn:n < 300) (hkn:ks.length <= n)
  (h:∀ h',Heap.SameBut a s.heap h'->(∃ o es ep t,h'.get? a=some o/\o.ExactSet/\o.data=.set es ep t/\ElemsOf (intKind prog w) es.toList/\(es.toList.map fun e=>toI e.2).Perm ks/\ks.Nodup/\es.size < scanBound/\t.fits es.size=true/\Well (Led w) t/\t.mask=SetTable.sizeAbove n - 1)->Q () { s with heap:=h' }):wpAny (model prog w) A (setRelay a n) Q E s:=by
 obtain ⟨o,es,ep,t,ho,hx,hd,hel,hp,hnd,hb,hf,hw⟩:=hS
 obtain ⟨a1,a2,a3⟩:=above n hn
 have hsz:es.size=ks.length:=by rw [<- hp.length_eq];simp
 unfold setRelay
 refine wpAny_bind (wpAny_setState_of ho hd hf ?_)
 dsimp only
 rw [if_neg (by omega)]
 obtain ⟨t2,od,e1,e2,e3,e4,e5,e6⟩:=aD6 (w:=w) (finger:=t.finger) (moves:=t.movedTo (SetTable.sizeAbove n - 1)) (led:=t.led) (plain:=t.plain) (mask:=SetTable.sizeAbove n - 1) (by omega) (by omega) hw.led hel hp hnd hs
 unfold SetTable.relaid
 rw [e1]
 refine wpAny_bind (a44 e3 ?_)
 dsimp only
 refine wpAny_storeSet_of ho hd (h _ (Heap.SameBut.update s.heap a _) ⟨_,_,_,_,ac1 ho hd,hx,rfl,hel.perm e2,(e2.map _).trans hp,hnd,by omega,by rw [e3];exact e5,e6,e4⟩) (fits_of_scanBound (by omega))
theorem bm7 {ks:List Int} {n:Nat} {Q:Unit->Shared->Prop} (hS:Z1 prog w s.heap a ks) (hs:∀ k ∈ ks,Spot k) (hn:ks.length + n < 100)
  (h:∀ h',Heap.SameBut a s.heap h'->(∃ o es ep t,h'.get? a=some o/\o.ExactSet/\o.data=.set es ep t/\ElemsOf (intKind prog w) es.toList/\(es.toList.map fun e=>toI e.2).Perm ks/\ks.Nodup/\es.size < scanBound/\t.fits es.size=true/\Well (Led w) t/\(ks=[]->7 <= t.mask)/\(ks=[]->n <= t.mask))->Q () { s with heap:=h' }):wpAny (model prog w) A (setRoomFor a n) Q E s:=by
 obtain ⟨o,es,ep,t,ho,hx,hd,hel,hp,hnd,hb,hf,hw,hm⟩:=id hS
 have hsz:es.size=ks.length:=by rw [<- hp.length_eq];simp
 have hpl:t.place.size=es.size:=by
  simp only [SetTable.fits,Bool.and_eq_true,beq_iff_eq] at hf
  exact hf.1
 unfold setRoomFor
 refine wpAny_bind (wpAny_setState_of ho hd hf ?_)
 dsimp only
 by_cases c:(t.fill + n) * 5 >= t.mask * 3
 ·have e:t.roomFor n=some ((t.place.size + n) * 2):=by unfold SetTable.roomFor;rw [if_pos c]
  rw [e]
  refine bb8 hS.toW hs (by omega) (by omega) fun h' hk hS'=>h h' hk ?_
  obtain ⟨o,es,ep,t',ho,hx,hd,hel,hp,hnd,hb,hf,hw,hm⟩:=hS'
  obtain ⟨a1,a2,a3⟩:=above ((t.place.size + n) * 2) (by omega)
  exact ⟨o,es,ep,t',ho,hx,hd,hel,hp,hnd,hb,hf,hw,fun _=>by omega,fun _=>by omega⟩
 ·have e:t.roomFor n=none:=by unfold SetTable.roomFor;rw [if_neg c]
  rw [e]
  exact wpAny_pure (h s.heap (Heap.SameBut.refl a s.heap) ⟨o,es,ep,t,ho,hx,hd,hel,hp,hnd,hb,hf,hw,hm,fun _=>by omega⟩)
theorem bh6 {o:Obj} {es:Array (Int × Value)} {ep:Nat} {t:SetTable} {Q:Array (Int × Value)->Shared->Prop} (ho:s.heap.get? a=some o) (hd:o.data=.set es ep t) (hf:t.fits es.size=true) (hw:Well (Led w) t)
  (h:∀ l d',l.toList.Perm es.toList->Q l { s with drawn:=d' }):wpAny (model prog w) A (setWalk a) Q E s:=by
 unfold setWalk
 refine wpAny_bind (wpAny_setState_of ho hd hf ?_)
 dsimp only
 refine wpAny_bind (T7 ?_)
 cases hb:w.params.followText "set-order" with
 | true =>
  rw [if_pos rfl]
  exact wpAny_bind (wpAny_askSetting (wpAny_pure (h _ s.drawn (X2 _ es))))
 | false =>
  rw [if_neg (by decide)]
  have hl:t.led=true:=by rw [hw.led];unfold Led;rw [hb];rfl
  split
  ·refine wpAny_bind (Y4 _ _ _ _ (by simp) fun ys d hp=>wpAny_pure (h _ d (by simpa using hp)))
  ·refine wpAny_bind (m:=(do if (!t.led && decide (es.size > 1))=true then unsupported "set:maker-not-led")) ?_
   rw [hl]
   exact wpAny_pure (wpAny_pure (h es s.drawn (List.Perm.refl _)))
theorem bc0 {l:List Addr} {Q:Bool->Shared->Prop} (hl:∀ a ∈ l,∃ o es ep t,s.heap.get? a=some o/\o.data=.set es ep t/\t.fits es.size=true/\ElemsOf (intKind prog w) es.toList) (h:Q true s):wpAny (model prog w) A (setsQuiet l) Q E s:=by
 unfold setsQuiet
 refine wpAny_bind (wpAny_forIn_list _ (fun rest b s'=>b=(none,PUnit.unit)/\s'=s/\∀ a ∈ rest,a ∈ l) _ (fun x rest b s' p=>?_) (fun b s' p=>?_) _ _ ⟨rfl,rfl,fun _ z=>z⟩)
 ·obtain ⟨rfl,rfl,hm⟩:=p
  obtain ⟨o,es,ep,t,ho,hd,hf,hel⟩:=hl x (hm x (by simp))
  unfold setEntries
  refine wpAny_bind (wpAny_bind (wpAny_setState_of ho hd hf (wpAny_pure ?_)))
  refine wpAny_bind (wpAny_forIn_array' _ (fun rest b s2=>b=(none,PUnit.unit)/\s2=s'/\∀ e ∈ rest,e ∈ es.toList) _ (fun y rest' b s2 p=>?_) (fun b s2 p=>?_) _ _ ⟨rfl,rfl,fun _ z=>z⟩)
  ·obtain ⟨rfl,rfl,hm2⟩:=p
   obtain ⟨tk,e1,_⟩:=V8 hel (hm2 y (by simp))
   dsimp only
   rw [e1]
   exact wpAny_pure ⟨rfl,rfl,fun e z=>hm2 e (by simp [z])⟩
  ·obtain ⟨rfl,rfl,_⟩:=p
   exact wpAny_pure ⟨rfl,rfl,fun e z=>hm e (by simp [z])⟩
 ·obtain ⟨rfl,rfl,_⟩:=p
  exact wpAny_pure h
theorem a92 {r:Addr} {ks ms:List Int} {o:Obj} {es:Array (Int × Value)} {ep:Nat} {t:SetTable} {Q:Array (Int × Value)->Shared->Prop} (ho:s.heap.get? a=some o) (hd:o.data=.set es ep t) (hf:t.fits es.size=true) (hw:Well (Led w) t) (hel:ElemsOf (intKind prog w) es.toList) (hR:l0 prog w s.heap r ks)
  (h:∀ l h' d',l.toList.Perm es.toList->Heap.SameBut r s.heap h'->l0 prog w h' r ks->Q l { s with heap:=h',drawn:=d' }):wpAny (model prog w) A (setWalkUnseen a [r] (some r)) Q E s:=by
 obtain ⟨o',es',ep',t',ho',hx',hd',hel',hp',hn',hb',hf',hw'⟩:=id hR
 have wk:wpAny (model prog w) A (setWalk a) Q E s:=bh6 ho hd hf hw fun l d' hp=>h l s.heap d' hp (Heap.SameBut.refl r s.heap) hR
 unfold setWalkUnseen
 refine wpAny_bind (wpAny_setState_of ho hd hf ?_)
 dsimp only
 refine wpAny_bind (T7 ?_)
 split
 ·exact wk
 ·refine wpAny_bind (bc0 (fun b hb=>?_) ?_)
  ·simp only [List.mem_cons,List.mem_nil_iff,or_false] at hb
   rcases hb with rfl | rfl
   ·exact ⟨_,_,_,_,ho,hd,hf,hel⟩
   ·exact ⟨_,_,_,_,ho',hd',hf',hel'⟩
  ·rw [if_neg (by decide)]
   refine wpAny_bind (wpAny_rule ?_)
   refine wpAny_bind (wpAny_setState_of ho' hd' hf' ?_)
   dsimp only
   split
   ·refine wpAny_bind (wpAny_storeSet_of ho' hd' ?_ (fits_of_scanBound hb'))
    refine wpAny_pure (h es _ s.drawn (List.Perm.refl _) (Heap.SameBut.update s.heap r _) ⟨_,_,_,_,ac1 ho' hd',hx',rfl,hel',hp',hn',hb',hf',⟨hw'.ris,hw'.dum,?_⟩⟩)
    show (t'.led && t.led)=_
    rw [hw'.led,hw.led,Bool.and_self]
   ·exact wpAny_pure (h es s.heap s.drawn (List.Perm.refl _) (Heap.SameBut.refl r s.heap) hR)
theorem au6 {es:Array (Int × Value)} {ks:List Int} (hp:(es.toList.map fun e=>toI e.2).Perm ks):es.size=ks.length:=by rw [<- hp.length_eq];simp
theorem aI8 {t:SetTable} {n:Nat} (hf:t.fits n=true):t.place.size=n:=by
 simp only [SetTable.fits,Bool.and_eq_true,beq_iff_eq] at hf
 exact hf.1
theorem aD1 {r o:Addr} {ks ms:List Int} {each:Sem Unit} {Q:Unit->Shared->Prop} (hR:Z1 prog w s.heap r ks) (hO:l0 prog w s.heap o ms) (hne:r ≠ o) (hks:∀ k ∈ ks,Spot k) (hms:∀ k ∈ ms,Spot k) (hl:ks.length + ms.length < 100)
  (hea:∀ (s':Shared) (Q':Unit->Shared->Prop),s'.heap.get? o=s.heap.get? o->Q' () s'->wpAny (model prog w) A each Q' E s')
  (h:∀ h' d' us,(∀ b o',b ≠ r->s.heap.get? b=some o'->h'.get? b=some o')->Z1 prog w h' r us->us.Nodup->(∀ k,k ∈ us ↔ k ∈ ks \/ k ∈ ms)->Q () { s with heap:=h',drawn:=d' }):wpAny (model prog w) A (setMerge r o each) Q E s:=by
 obtain ⟨oo,eo,epo,to,hoo,hox,hod,hoel,hop,hon,hob,hof,how⟩:=id hO
 have hsz:=au6 hop
 have hnd:ks.Nodup:=let ⟨_,_,_,_,_,_,_,_,_,z,_⟩:=hR;z
 unfold setMerge
 rw [if_neg (by simpa using hne)]
 refine wpAny_bind (wpAny_setState_of hoo hod hof ?_)
 dsimp only
 by_cases he:eo.size=0
 ·rw [if_pos (by simpa [Array.isEmpty] using he)]
  have hm0:ms=[]:=List.eq_nil_of_length_eq_zero (by omega)
  exact wpAny_pure (h s.heap s.drawn ks (fun b o' _ e=>e) hR hnd fun k=>by rw [hm0];simp)
 rw [if_neg (by simpa [Array.isEmpty] using he)]
 have hmne:ms ≠ []:=fun z=>he (by rw [hsz,z];rfl)
 refine wpAny_bind (bm7 hR hks (by omega) fun h1 hk1 hR1=>?_)
 obtain ⟨or',es,ep,ts,hor,hx,hd,hel,hp,_,hb,hf,hw,hm7,hmn⟩:=id hR1
 have hko:h1.get? o=some oo:=by rw [<- hoo];exact hk1.2 o (Ne.symm hne)
 have hkk:∀ b o',b ≠ r->s.heap.get? b=some o'->h1.get? b=some o':=fun b o' hb e=>by rw [<- e];exact hk1.2 b hb
 refine wpAny_bind (wpAny_setState_of (s:={ s with heap:=h1 }) hor hd hf ?_)
 dsimp only
 have hfill:ts.fill=ks.length:=by
  unfold SetTable.fill
  rw [hw.dum,aI8 hf,au6 hp]
  rfl
 have hled:(ts.led && to.led)=Led w:=by rw [hw.led,how.led,Bool.and_self]
 by_cases hk0:ks=[]
 ·subst hk0
  have hroad:ts.road to=.slotForSlot \/ ts.road to=.clean:=by
   unfold SetTable.road
   rw [if_neg (by rw [hfill];simp)]
   split
   ·exact .inl rfl
   ·exact .inr rfl
  rcases hroad with hr | hr
  ·rw [hr]
   dsimp only
   refine wpAny_storeSet_of (s:={ s with heap:=h1 }) hor hd (h _ s.drawn ms (fun b o' hb e=>?_) ⟨_,_,_,_,ac1 hor hd,hx,rfl,hoel,hop,hon,hob,hof,⟨how.ris,how.dum,hled⟩,fun z=>absurd z hmne⟩ hon fun k=>by simp) (fits_of_scanBound hob)
   rw [<- hkk b o' hb e]
   exact (Heap.SameBut.update h1 r _).2 b hb
  ·rw [hr]
   dsimp only
   obtain ⟨t2,od,e1,e2,e3,e4,e5,e6⟩:=aD6 (w:=w) (finger:=ts.finger) (moves:=ts.moves) (led:=ts.led && to.led) (plain:=ts.plain && to.plain) (mask:=ts.mask) (hm7 rfl) (hmn rfl) hled hoel hop hon hms
   rw [e1]
   refine wpAny_bind (a44 e3 ?_)
   dsimp only
   refine wpAny_storeSet_of (s:={ s with heap:=h1 }) hor hd (h _ s.drawn ms (fun b o' hb e=>?_) ⟨_,_,_,_,ac1 hor hd,hx,rfl,hoel.perm e2,(e2.map _).trans hop,hon,by omega,by rw [e3];exact e5,e6,fun z=>absurd z hmne⟩ hon fun k=>by simp) (fits_of_scanBound (by omega))
   rw [<- hkk b o' hb e]
   exact (Heap.SameBut.update h1 r _).2 b hb
 ·have hr:ts.road to=.oneByOne:=by
   unfold SetTable.road
   rw [if_pos (by
    rw [hfill]
    have:ks.length ≠ 0:=fun z=>hk0 (List.eq_nil_of_length_eq_zero z)
    simpa using this)]
  rw [hr]
  dsimp only
  have hRw:l0 prog w h1 r ks:=⟨or',es,ep,ts,hor,hx,hd,hel,hp,hnd,hb,hf,hw⟩
  refine wpAny_bind (a92 (s:={ s with heap:=h1 }) (ms:=ms) hko hod hof how hoel hRw fun l h2 d2 hlp hk2 hR2=>?_)
  refine wpAny_bind (wpAny_forIn_array' _ (fun rest b s'=>∃ us h',s'={ s with heap:=h',drawn:=d2 }/\us.Nodup/\us ≠ []/\us.length + rest.length < 1000/\l0 prog w h' r us/\(∀ b o',b ≠ r->s.heap.get? b=some o'->h'.get? b=some o')/\(∀ k,(k ∈ us \/ k ∈ rest.map fun e=>toI e.2) ↔ (k ∈ ks \/ k ∈ ms))/\∀ e ∈ rest,e ∈ eo.toList) _ (fun x rest b s' p=>?_) (fun b s' p=>?_) _ _ ⟨ks,h2,rfl,hnd,hk0,?_,hR2,fun b o' hb e=>?_,fun k=>?_,fun e he=>hlp.mem_iff.mp he⟩)
  ·obtain ⟨us,h',rfl,hun,hune,hul,hUS,hkeep,hmem,hsub⟩:=p
   obtain ⟨x1,x2⟩:=x
   obtain ⟨tk,e1,e2⟩:=V8 hoel (hsub (x1,x2) (by simp))
   dsimp only at e1 e2 ⊢
   generalize toI x2=k at e1 e2
   subst e1
   subst e2
   refine wpAny_bind (wpAny_holding (a88 (s:={ s with heap:=h',drawn:=d2 }) hUS (by simp at hul;exact Nat.lt_trans (by omega) (show 1000 < scanBound by decide)) fun h3 b3 hk3 hS3=>?_))
   have ho3:h3.get? o=some oo:=by
    rw [hk3.2 o (Ne.symm hne)]
    exact hkeep o oo (Ne.symm hne) hoo
   refine wpAny_bind (hea _ _ (by rw [hoo];exact ho3) ?_)
   refine wpAny_bind (wpAny_setState_of (s:={ s with heap:=h3,drawn:=d2 }) ho3 hod hof ?_)
   rw [if_neg (by simp)]
   refine wpAny_pure ⟨B5 us k,h3,rfl,?_,?_,?_,hS3,fun b o' hb e=>?_,fun j=>?_,fun e he=>hsub e (by simp [he])⟩
   ·exact U0 [k] us hun
   ·unfold B5
    split
    ·exact hune
    ·simp
   ·have:=az8 us k
    simp at hul
    omega
   ·rw [hk3.2 b hb]
    exact hkeep b o' hb e
   ·rw [<- hmem j]
    have:=C7 [k] us j
    simp only [j5,List.foldl_cons,List.foldl_nil] at this
    rw [this]
    simp [toI,or_assoc]
  ·obtain ⟨us,h',rfl,hun,hune,hul,hUS,hkeep,hmem,hsub⟩:=p
   exact wpAny_pure (h h' d2 us hkeep (hUS.toV hune) hun fun k=>by rw [<- hmem k];simp)
  ·have e1:=hlp.length_eq
   have e2:eo.toList.length=eo.size:=Array.length_toList
   omega
  ·rw [hk2.2 b hb]
   exact hkk b o' hb e
  ·rw [(hlp.map _).mem_iff,hop.mem_iff]
theorem a12 (hT:s.TypeIs (.ref a) "set") {Q:Value->Shared->Prop} (h:Q (.type "set") s):wpAny (model prog w) A (Builtin.Frozenset.baseOf a) Q E s:=by
 unfold Builtin.Frozenset.baseOf
 refine wpAny_bind (wpAny_isInstance (b:=true) hT (by rw [isSubtype_type];kernel_rfl) ?_)
 exact wpAny_pure h
theorem ap0 (hT:s.TypeIs (.ref a) "set") {Q:Bool->Shared->Prop} (h:Q true s):wpAny (model prog w) A (Builtin.Frozenset.isAnySet (.ref a)) Q E s:=by
 unfold Builtin.Frozenset.isAnySet
 refine wpAny_bind (wpAny_isInstance (b:=true) hT (by rw [isSubtype_type];kernel_rfl) ?_)
 exact wpAny_pure h
theorem au9 {h:Heap} {ks:List Int} (x:l0 prog w h a ks):∃ o,h.get? a=some o/\o.cls=.type "set":=by
 obtain ⟨o,_,_,_,e,hx,_⟩:=x
 exact ⟨o,e,hx.1⟩
theorem aJ0:entryFor table "set.__or__"=some Builtin.«frozenset.__or__»:=entryFor_alias (id':="frozenset.__or__") (by kernel_rfl) rfl (by decide +kernel) (by kernel_rfl)
theorem bt3 {ks:List Int} {Q:Value->Shared->Prop} (hA:l0 prog w s.heap a ks) (hks:∀ k ∈ ks,Spot k) (hl:ks.length < 100)
  (h:∀ h' d' us,(∀ c o',s.heap.get? c=some o'->h'.get? c=some o')->Z1 prog w h' s.heap.objs.size us->us.Nodup->(∀ k,k ∈ us ↔ k ∈ ks)->Q (.ref s.heap.objs.size) { s with heap:=h',drawn:=d' }):wpAny (model prog w) A (Builtin.Frozenset.copyOf a) Q E s:=by
 obtain ⟨oa,ea,ca⟩:=au9 hA
 have la:=Heap.lt_size ea
 unfold Builtin.Frozenset.copyOf
 refine wpAny_bind (a12 ⟨oa,ea,ca⟩ ?_)
 refine wpAny_bind (aC9 ?_)
 refine wpAny_bind (m:=Builtin.Frozenset.addrOf (.ref s.heap.objs.size)) (wpAny_pure ?_)
 have hE:(s.heap.push (r9 w)).get? s.heap.objs.size=some (r9 w):=Heap.get?_push_size _ rfl
 obtain ⟨o,es,ep,t,h1,h2,h3,h4,h5,h6,h7,h8,h9⟩:=ar0 (prog:=prog) hE
 have hV:Z1 prog w (s.heap.push (r9 w)) s.heap.objs.size []:=⟨_,#[],0,.fresh 0 0 (Led w),hE,⟨rfl,rfl,rfl⟩,rfl,by simp [ElemsOf],by simp,by simp,by decide,rfl,ak8,fun _=>Nat.le_refl 7⟩
 refine wpAny_bind (aD1 (s:={ s with heap:=s.heap.push (r9 w) }) (each:=pure ()) hV (hA.at fun o e=>Heap.get?_push_of_some _ e) (Nat.ne_of_gt la) (fun k hk=>by simp at hk) hks (by simpa using hl) (fun s' Q' _ q=>wpAny_pure q) fun h' d' us hk hS hn hm=>?_)
 exact wpAny_pure (h h' d' us (fun c o' e=>hk c o' (Nat.ne_of_lt (Heap.lt_size e)) (Heap.get?_push_of_some _ e)) hS hn fun k=>by rw [hm k];simp)
theorem bM5 {b:Addr} {ks ms:List Int} {Q:Value->Shared->Prop} (hA:l0 prog w s.heap a ks) (hB:l0 prog w s.heap b ms) (hab:a ≠ b) (hks:∀ k ∈ ks,Spot k) (hms:∀ k ∈ ms,Spot k) (hl:ks.length + ms.length < 90)
  (h:∀ h' d' us,(∀ c o',s.heap.get? c=some o'->h'.get? c=some o')->l0 prog w h' s.heap.objs.size us->us.Nodup->(∀ k,k ∈ us ↔ k ∈ ks \/ k ∈ ms)->Q (.ref s.heap.objs.size) { s with heap:=h',drawn:=d' }):wpAny (model prog w) A (binaryOp .BitOr (.ref a) (.ref b)) Q E s:=by
 obtain ⟨oa,ea,ca⟩:=au9 hA
 obtain ⟨ob,eb,cb⟩:=au9 hB
 have hTa:s.TypeIs (.ref a) "set":=⟨oa,ea,ca⟩
 have hTb:s.TypeIs (.ref b) "set":=⟨ob,eb,cb⟩
 have la:=Heap.lt_size ea
 have lb:=Heap.lt_size eb
 refine wpAny_binaryOp_same (op:=.BitOr) hTa hTb F.fills_set_or F.slot_set_or (wpAny_call_entry F.slot_set_or hTa aJ0 ?_ (F.args_set_or_2 _ _))
 refine wpAny_bind (m:=Builtin.Frozenset.slot1 "__or__" ⟨[.ref a,.ref b],[]⟩) (wpAny_of_eq (a:=(.ref a,.ref b)) rfl ?_)
 dsimp only
 refine wpAny_bind (wpAny_bind (ap0 hTa ?_))
 refine ap0 hTb ?_
 refine wpAny_bind (m:=Builtin.Frozenset.addrOf (.ref a)) (wpAny_pure ?_)
 have hU:∀ (us:List Int) (h':Heap),Z1 prog w h' s.heap.objs.size us->(∀ k ∈ us,Spot k)->us.Nodup->us.length <= 8:=fun us h' _ hs hn=>by
  have:us.Sublist us:=List.Sublist.refl _
  have hp:us.Perm ((List.range 8).map (fun (n:Nat)=>(n:Int)) |>.filter (· ∈ us)):=by
   refine (List.perm_ext_iff_of_nodup hn ?_).mpr fun k=>?_
   ·exact List.Nodup.sublist List.filter_sublist (by decide)
   ·rw [List.mem_filter]
    constructor
    ·intro hk
     refine ⟨?_,by simpa using hk⟩
     obtain ⟨h0,h8⟩:=hs k hk
     rw [List.mem_map]
     exact ⟨k.toNat,List.mem_range.mpr (by omega),by omega⟩
    ·rintro ⟨_,hk⟩
     simpa using hk
  rw [hp.length_eq]
  exact Nat.le_trans (List.length_filter_le _ _) (by decide)
 refine wpAny_bind (wpAny_bind (bt3 hA hks (by omega) fun h1 d1 us hk1 hS1 hn1 hm1=>?_))
 have hus:∀ k ∈ us,Spot k:=fun k hk=>hks k ((hm1 k).mp hk)
 have hul:=hU us h1 hS1 hus hn1
 dsimp only
 rw [if_pos (by simp [Ne.symm hab])]
 have hTb1:Shared.TypeIs { s with heap:=h1,drawn:=d1 } (.ref b) "set":=⟨ob,hk1 b ob eb,cb⟩
 refine wpAny_bind (m:=Builtin.Frozenset.addrOf (.ref s.heap.objs.size)) (wpAny_pure ?_)
 refine wpAny_bind (wpAny_holding ?_)
 unfold Builtin.Frozenset.updateFrom
 refine wpAny_bind (ap0 hTb1 ?_)
 rw [if_pos rfl]
 refine wpAny_bind (m:=Builtin.Frozenset.addrOf (.ref b)) (wpAny_pure ?_)
 unfold Builtin.Frozenset.merge
 have hB1:l0 prog w h1 b ms:=hB.at (hk1 b)
 obtain ⟨o,es,ep,t,ho,hx,hd,hel,hp,hn,hb,hf,hw⟩:=id hB1
 have hep:∀ (s':Shared) (Q':Nat->Shared->Prop),s'.heap.get? b=some o->Q' ep s'->wpAny (model prog w) A.in1 (setEpoch b) Q' E s':=fun s' Q' e q=>by
  unfold setEpoch
  exact wpAny_bind (wpAny_setState_of e hd hf (wpAny_pure q))
 refine wpAny_bind (hep _ _ ho ?_)
 refine aD1 (s:={ s with heap:=h1,drawn:=d1 }) hS1 hB1 (Nat.ne_of_gt lb) hus hms (by omega) (fun s' Q' e q=>?_) fun h2 d2 vs hk2 hS2 hn2 hm2=>?_
 ·unfold Builtin.Frozenset.unchanged
  refine wpAny_bind (hep _ _ (e.trans ho) ?_)
  rw [if_neg (by simp)]
  exact wpAny_pure q
 ·refine wpAny_pure (wpAny_pure ⟨_,rfl,by simp,?_⟩)
  exact h h2 d2 vs (fun c o' e=>hk2 c o' (Nat.ne_of_lt (Heap.lt_size e)) (hk1 c o' e)) hS2.toW hn2 fun k=>by rw [hm2 k,hm1 k]
end
end ST
namespace L2
open PySem PySem.Spec PyProof.Rows
variable {X:Cx}
theorem aO2:OpR X (binaryOp .BitOr) (fun x y H Q=>∃ a b ns ms,x=.ref a/\y=.ref b/\a ≠ b/\H a=some (Z9 X a (ST.j5 [] ns))/\H b=some (Z9 X b (ST.j5 [] ms))/\(∀ k ∈ ns,ST.Spot k)/\(∀ k ∈ ms,ST.Spot k)/\ns.length + ms.length < 50 /\
  ∀ p,H p=none->Q (.ref p) (upd H p (Z9 X p (ST.j5 [] (ns ++ ms))))):=by
 intro pins s σ H x y v u Q I rx ry h
 obtain ⟨a,b,ns,ms,rfl,rfl,hab,ha,hb,hns,hms,hl,q⟩:=h
 cases rx
 cases ry
 have hA:ST.l0 X.prog X.w s.heap a (ST.j5 [] ns):=(I.hok a _ ha).1
 have hB:ST.l0 X.prog X.w s.heap b (ST.j5 [] ms):=(I.hok b _ hb).1
 have l1:=ST.D7 ns []
 have l2:=ST.D7 ms []
 have m1:=ST.C7 ns []
 have m2:=ST.C7 ms []
 refine ST.bM5 hA hB hab (fun k hk=>hns k (by simpa using (m1 k).mp hk)) (fun k hk=>hms k (by simpa using (m2 k).mp hk)) (by simp at l1 l2;omega) fun h' d' us hk hS hn hm=>?_
 have hS':ST.l0 X.prog X.w h' s.heap.objs.size (ST.j5 [] (ns ++ ms)):=hS.same ((List.perm_ext_iff_of_nodup hn (ST.U0 _ _ (by simp))).mpr fun k=>by
  rw [hm k,m1 k,m2 k,ST.C7]
  simp)
 exact ⟨.ref _,_,(I.laid (a:=s.heap.objs.size) (t':=s.toks) hk (Nat.le_refl _) (aC1 hS')).draw d',rfl,q _ (I.hok.fresh (Nat.le_refl _))⟩
end L2

namespace M
open PySem L2
inductive D where
 | non | bl (b:Bool) | int (i:Int) | str (x:Str) | ty (n:String) | ref (i:Nat) | tup (l:List D)
inductive O where
 | lst (l:List D) | fro (l:List D)
 | dic (kvs:List (Key × D))
 | ins (c:Str) (fs:List (Str × D))
noncomputable def O.mut:O->Bool
 | .fro _=>false
 | _=>true
noncomputable def Y0:D->Option Key
 | .int i=>some (.inl i)
 | .str x=>some (.inr x)
 | _=>none
noncomputable def K4 (kvs:List (Key × D)) (k:Key):Option D:=(kvs.find? fun kv=>decide (kv.1=k)).map (·.2)
noncomputable def putD (kvs:List (Key × D)) (k:Key) (v:D):List (Key × D) :=
 if (kvs.any fun kv=>decide (kv.1=k))=true then kvs.map (fun kv=>if kv.1=k then (kv.1,v) else kv) else kvs ++ [(k,v)]
noncomputable def v8 (f:Str) (v:D):List (Str × D)->List (Str × D)
 | []=>[(f,v)]
 | (g,x) :: r=>if g=f then (g,v) :: r else (g,x) :: v8 f v r
noncomputable def ak2:List D->Str->Option D
 | .tup [.str y,v] :: r,x=>if x=y then some v else ak2 r x
 | _ :: _,_=>none
 | [],_=>none
noncomputable def Y1:List D->Option Str
 | []=>some Str.empty
 | .str x :: r=>(Y1 r).map fun y=>x ++ y
 | _=>none
structure Xn where
 cls:Str
noncomputable abbrev G:=List O
noncomputable abbrev S:=List (Option D)
noncomputable abbrev KD:=D->G->Prop
noncomputable abbrev KX:=Xn->G->Prop
noncomputable abbrev NoX:KX:=fun _ _=>False
noncomputable def ax3:Option O->Option (List D)
 | some (.lst l)=>some l
 | some (.fro l)=>some l
 | _=>none
noncomputable abbrev i4 (g:G) (a:Nat):Option (List D):=ax3 g[a]?
noncomputable def rd (g:G):Nat->D->Option PyData
 | _,.non=>some .none
 | _,.bl b=>some (.bool b)
 | _,.int i=>some (.int i)
 | _,.str x=>some (.str x)
 | _,.ty _=>none
 | 0,.ref _=>none
 | 0,.tup _=>none
 | n + 1,.ref a=>match i4 g a with
  | some l=>(l.mapM (rd g n)).map .list
  | none=>none
 | n + 1,.tup l=>(l.mapM (rd g n)).map .tuple
noncomputable def rds (g:G) (l:List D):Option (List PyData):=l.mapM (rd g 6)
noncomputable def B1 (g:G):D->Option (List D)
 | .tup l=>some l
 | .ref a=>i4 g a
 | _=>none
noncomputable def U3:D->Bool
 | .non=>true
 | _=>false
noncomputable def cut {α:Type} (xs:List α) (lo hi:Option Int):List α:=(xs.drop (HT.sIx xs.length 0 lo)).take (HT.sIx xs.length xs.length hi - HT.sIx xs.length 0 lo)
noncomputable def ag7 (g:G) (x:D) (c:String):Option Bool:=match x with
 | .non=>some (c == "NoneType")
 | .bl _=>some (c == "bool" || c == "int")
 | .int _=>some (c == "int")
 | .str _=>some (c == "str")
 | .tup _=>some (c == "tuple")
 | .ref a=>match g[a]? with
  | some (.lst _)=>some (c == "list")
  | _=>none
 | .ty _=>none
noncomputable def j0 (lo:Int) (n:Nat):List D:=(List.range n).map fun (k:Nat)=>.int (lo + k)
noncomputable def N4:List D->Option Bool
 | []=>some true
 | .bl b :: r=>(N4 r).map fun c=>b && c
 | _=>none
inductive Pr where
 | bin (op:Operator) | un (op:UnaryOp) | cmp (op:CmpOp)
 | ix | slc (lo hi:Bool) | rev | tup | lst | dnew
 | len | list | tuple | isin | all | max | min | int | str | lrng1 | lrng2 | sset | sun | dcopy
 | gin | gnin | gget | fv | fstr | fld (f:Str)
 | append | pop | get | index | join | iadd | clear | pop0
noncomputable abbrev DR:=List D->G->D->G->Prop
noncomputable def arR:Operator->Int->Int->Int->Prop
 | .Add,i,j,r=>r=i + j
 | .Sub,i,j,r=>r=i - j
 | .Mult,i,j,r=>ai5 i j/\r=i * j
 | .FloorDiv,i,j,r=>a20 i j/\r=i / j
 | .Mod,i,j,r=>0 < j/\r=i % j
 | .Pow,i,j,r=>ai4 i j/\r=i ^ j.toNat
 | _,_,_,_=>False
noncomputable def bS4 (op:Operator):DR:=fun xs g d g' =>
 (∃ i j r,xs=[.int i,.int j]/\arR op i j r/\d=.int r/\g'=g) \/
 (op=.Add/\((∃ l m,xs=[.tup l,.tup m]/\l.length + m.length <= 100000/\d=.tup (l ++ m)/\g'=g) \/
  (∃ a b l m,xs=[.ref a,.ref b]/\g[a]?=some (.lst l)/\g[b]?=some (.lst m)/\l.length + m.length <= 100000/\d=.ref g.length/\g'=g ++ [.lst (l ++ m)]) \/
  (∃ x y,xs=[.str x,.str y]/\x.length + y.length <= 100000/\d=.str (x ++ y)/\g'=g))) \/
 (op=.Mult/\((∃ a l n,xs=[.ref a,.int n]/\g[a]?=some (.lst l)/\-(2 ^ 62) <= n/\n < 2 ^ 62/\l.length * n.toNat <= 100000/\d=.ref g.length/\g'=g ++ [.lst (List.replicate n.toNat l).flatten]) \/
  (∃ l n,xs=[.tup l,.int n]/\l ≠ []/\1 <= n/\n < 2 ^ 62/\l.length * n.toNat <= 100000/\d=.tup (List.replicate n.toNat l).flatten/\g'=g)))
noncomputable def unR (op:UnaryOp):DR:=fun xs g d g'=>op=.USub/\∃ i,xs=[.int i]/\d=.int (-i)/\g'=g
noncomputable def eqR (g:G) (x y:D) (b:Bool):Prop :=
 (∃ i j,x=.int i/\y=.int j/\b=decide (i=j)) \/ (∃ i j,x=.bl i/\y=.bl j/\b=(i == j)) \/ (∃ i j,x=.str i/\y=.str j/\b=decide (i=j)) \/
 ∃ p q,rd g 6 x=some p/\rd g 6 y=some q/\p.canLay0=true/\q.canLay0=true/\b=PyData.eqv p q
noncomputable def inR (g:G) (x y:D) (b:Bool):Prop :=
 (∃ a kvs c,y=.ref a/\g[a]?=some (.dic kvs)/\Y0 x=some c/\b=(K4 kvs c).isSome) \/
 ∃ l ps p,B1 g y=some l/\rds g l=some ps/\rd g 6 x=some p/\PyData.canLayAll0 ps=true/\p.canLay0=true/\b=(ps.any fun q=>PyData.eqv q p)
noncomputable def bt5 (g:G) (x y:D) (b:Bool):CmpOp->Prop
 | .Eq=>eqR g x y b
 | .NotEq=>eqR g x y (!b)
 | .In=>inR g x y b
 | .NotIn=>inR g x y (!b)
 | .Lt=>∃ i j,x=.int i/\y=.int j/\b=decide (i < j)
 | .LtE=>∃ i j,x=.int i/\y=.int j/\b=decide (i <= j)
 | .Gt=>∃ i j,x=.int i/\y=.int j/\b=decide (j < i)
 | .GtE=>∃ i j,x=.int i/\y=.int j/\b=decide (j <= i)
 | .Is=>y=.non/\b=U3 x
 | .IsNot=>y=.non/\b=!U3 x
noncomputable def bR9 (op:CmpOp):DR:=fun xs g d g'=>∃ x y b,xs=[x,y]/\bt5 g x y b op/\d=.bl b/\g'=g
noncomputable def bi9 (g:G) (x:D) (b:Bool):Prop :=
 (x=.non/\b=false) \/ x=.bl b \/ (∃ i,x=.int i/\b=(i != 0)) \/ (∃ l,x=.tup l/\b=!l.isEmpty) \/ ∃ a l,x=.ref a/\i4 g a=some l/\b=!l.isEmpty
noncomputable def ixR:DR:=fun xs g d g'=>g'=g/\((∃ x l i,xs=[x,.int i]/\B1 g x=some l/\atI l i=some d) \/ (∃ a kvs y c,xs=[.ref a,y]/\g[a]?=some (.dic kvs)/\Y0 y=some c/\K4 kvs c=some d) \/
 ∃ x i c,xs=[.str x,.int i]/\x.length <= 100000/\atI x.cps.toList i=some c/\d=.str ⟨#[c]⟩)
noncomputable def slR (x:D) (lo hi:Option Int) (g:G) (d:D) (g':G):Prop:=(∃ l,x=.tup l/\d=.tup (cut l lo hi)/\g'=g) \/ ∃ a l,x=.ref a/\i4 g a=some l/\d=.ref g.length/\g'=g ++ [.lst (cut l lo hi)]
noncomputable def bH5:Bool->Bool->DR
 | false,false,xs,g,d,g'=>∃ x,xs=[x]/\slR x none none g d g'
 | true,false,xs,g,d,g'=>∃ x i,xs=[x,.int i]/\slR x (some i) none g d g'
 | false,true,xs,g,d,g'=>∃ x j,xs=[x,.int j]/\slR x none (some j) g d g'
 | true,true,xs,g,d,g'=>∃ x i j,xs=[x,.int i,.int j]/\slR x (some i) (some j) g d g'
noncomputable def bL3:DR:=fun xs g d g'=>(∃ l,xs=[.tup l]/\d=.tup l.reverse/\g'=g) \/ ∃ a l,xs=[.ref a]/\i4 g a=some l/\d=.ref g.length/\g'=g ++ [.lst l.reverse]
noncomputable def bF6:DR:=fun xs g d g'=>xs.length <= 1000/\d=.tup xs/\g'=g
noncomputable def bN4:DR:=fun xs g d g'=>xs.length <= 1000/\d=.ref g.length/\g'=g ++ [.lst xs]
noncomputable def ao4:List D->List (Key × D)->Option (List (Key × D))
 | [],kvs=>some kvs
 | k :: v :: r,kvs=>(Y0 k).bind fun c=>ao4 r (putD kvs c v)
 | _,_=>none
noncomputable def bC0:DR:=fun xs g d g'=>xs=[]/\d=.ref g.length/\g'=g ++ [.dic []]
noncomputable def bN5:DR:=fun xs g d g'=>g'=g/\((∃ x l,xs=[x]/\B1 g x=some l/\d=.int l.length) \/ (∃ a kvs,xs=[.ref a]/\g[a]?=some (.dic kvs)/\d=.int kvs.length) \/ ∃ x,xs=[.str x]/\x.length <= 100000/\d=.int x.length)
noncomputable def bA2:DR:=fun xs g d g'=>∃ x l,xs=[x]/\B1 g x=some l/\d=.ref g.length/\g'=g ++ [.lst l]
noncomputable def bi5:DR:=fun xs g d g'=>∃ x l,xs=[x]/\B1 g x=some l/\d=.tup l/\g'=g
noncomputable def bA9:DR:=fun xs g d g'=>∃ x c b,xs=[x,.ty c]/\c ∈ ["int","bool","str","tuple","list"]/\ag7 g x c=some b/\d=.bl b/\g'=g
noncomputable def allR:DR:=fun xs g d g'=>∃ a l b,xs=[.ref a]/\i4 g a=some l/\N4 l=some b/\d=.bl b/\g'=g
noncomputable def bN3:DR:=fun xs g d g'=>∃ i j,xs=[.int i,.int j]/\d=.int (if j > i then j else i)/\g'=g
noncomputable def bN2:DR:=fun xs g d g'=>∃ i j,xs=[.int i,.int j]/\d=.int (if j < i then j else i)/\g'=g
noncomputable def bN7:DR:=fun xs g d g'=>g'=g/\((∃ i,xs=[.int i]/\d=.int i) \/ ∃ b,xs=[.bl b]/\d=.int (if b then 1 else 0))
noncomputable def bH4:DR:=fun xs g d g'=>∃ i,xs=[.int i]/\i.natAbs.log2 < 1920/\d=.str (toString i)/\g'=g
noncomputable def bq9:DR:=fun xs g d g'=>∃ j,xs=[.int j]/\-(2 ^ 62) <= j/\j <= 100000/\d=.ref g.length/\g'=g ++ [.lst (j0 0 j.toNat)]
noncomputable def bq8:DR:=fun xs g d g'=>∃ i j,xs=[.int i,.int j]/\(-(2 ^ 62) <= i/\i < 2 ^ 62/\-(2 ^ 62) <= j/\j < 2 ^ 62/\j - i <= 100000)/\d=.ref g.length/\g'=g ++ [.lst (j0 i (j - i).toNat)]
noncomputable def bw4:DR:=fun xs g d g'=>∃ a ns,xs=[.ref a]/\i4 g a=some (ns.map .int)/\ns.length < 60/\d=.ref g.length/\g'=g ++ [.lst ((G7 ns).map .int)]
noncomputable def bH3:DR:=fun xs g d g'=>∃ ns ms:List Int,xs=[.tup (ns.map .int),.tup (ms.map .int)]/\(∀ k ∈ ns,ST.Spot k)/\(∀ k ∈ ms,ST.Spot k)/\ns.length + ms.length < 50/\d=.ref g.length/\g'=g ++ [.lst ((G7 (ns ++ ms)).map .int)]
noncomputable def bs6 (neg:Bool):DR:=fun xs g d g'=>∃ kvs x,xs=[.tup kvs,.str x]/\d=.bl (xor neg (ak2 kvs x).isSome)/\g'=g
noncomputable def bB6:DR:=fun xs g d g'=>∃ kvs x,xs=[.tup kvs,.str x]/\ak2 kvs x=some d/\g'=g
noncomputable def fvR:DR:=fun xs g d g'=>g'=g/\((∃ i,xs=[.int i]/\i.natAbs.log2 < 1920/\d=.str (toString i)) \/ ∃ x,xs=[.str x]/\x.length <= 2000/\d=.str x)
noncomputable def bB7:DR:=fun xs g d g'=>∃ x,Y1 xs=some x/\d=.str x/\g'=g
noncomputable def bO4 (f:Str):DR:=fun xs g d g'=>∃ a c fs,xs=[.ref a]/\g[a]?=some (.ins c fs)/\fs.lookup f=some d/\g'=g
noncomputable def appendR:DR:=fun xs g d g'=>∃ a y l,xs=[.ref a,y]/\g[a]?=some (.lst l)/\l.length < 100000/\d=.non/\g'=g.set a (.lst (l ++ [y]))
noncomputable def bM4:DR:=fun xs g d g'=>∃ a i l k,xs=[.ref a,.int i]/\g[a]?=some (.lst l)/\-(2 ^ 63) <= i/\i < 2 ^ 63/\seqIndex? i l.length=some k/\l[k]?=some d/\g'=g.set a (.lst (l.eraseIdx k))
noncomputable def bO1:DR:=fun xs g d g'=>∃ a y z kvs c,xs=[.ref a,y,z]/\g[a]?=some (.dic kvs)/\Y0 y=some c/\d=(K4 kvs c).getD z/\g'=g
noncomputable def ad5:D->Bool
 | .non=>true
 | .bl _=>true
 | .int _=>true
 | .str _=>true
 | _=>false
noncomputable def toV:D->V
 | .bl b=>.bl b
 | .int i=>.int i
 | .str x=>.str x
 | _=>.non
noncomputable def P5 (l:List D) (y:D) (n:Nat):Prop:=l.all ad5=true/\ad5 y=true/\(∃ z,l[n]?=some z/\eqV (toV z) (toV y)=true)/\∀ (m:Nat) z,m < n->l[m]?=some z->eqV (toV z) (toV y)=false
noncomputable def bs2:DR:=fun xs g d g'=>∃ x y l n,xs=[x,y]/\B1 g x=some l/\P5 l y n/\l.length <= 100000/\d=.int n/\g'=g
noncomputable def joinR:DR:=fun xs g d g'=>∃ sep a ys,xs=[.str sep,.ref a]/\i4 g a=some (ys.map .str)/\bf2 sep ys <= 100000/\d=.str (Builtin.Str.glued sep ys)/\g'=g
noncomputable def bB1:DR:=fun xs g d g'=>(∃ i j,xs=[.int i,.int j]/\d=.int (i + j)/\g'=g) \/ ∃ l m,xs=[.tup l,.tup m]/\l.length + m.length <= 100000/\d=.tup (l ++ m)/\g'=g
noncomputable def bt7:DR:=fun xs g d g'=>∃ a l,xs=[.ref a]/\g[a]?=some (.lst l)/\d=.non/\g'=g.set a (.lst [])
noncomputable def by5:DR:=fun xs g d g'=>∃ a l,xs=[.ref a]/\g[a]?=some (.lst (l ++ [d]))/\g'=g.set a (.lst l)
noncomputable def bt2:DR:=fun xs g d g'=>∃ a kvs,xs=[.ref a]/\g[a]?=some (.dic kvs)/\d=.ref g.length/\g'=g ++ [.dic kvs]
noncomputable def PR:Pr->DR
 | .clear=>bt7
 | .pop0=>by5
 | .dcopy=>bt2
 | .bin op=>bS4 op
 | .un op=>unR op
 | .cmp op=>bR9 op
 | .ix=>ixR
 | .slc a b=>bH5 a b
 | .rev=>bL3
 | .tup=>bF6
 | .lst=>bN4
 | .dnew=>bC0
 | .len=>bN5
 | .list=>bA2
 | .tuple=>bi5
 | .isin=>bA9
 | .all=>allR
 | .max=>bN3
 | .min=>bN2
 | .int=>bN7
 | .str=>bH4
 | .lrng1=>bq9
 | .lrng2=>bq8
 | .sset=>bw4
 | .sun=>bH3
 | .gin=>bs6 false
 | .gnin=>bs6 true
 | .gget=>bB6
 | .fv=>fvR
 | .fstr=>bB7
 | .fld f=>bO4 f
 | .append=>appendR
 | .pop=>bM4
 | .get=>bO1
 | .index=>bs2
 | .join=>joinR
 | .iadd=>bB1
noncomputable def prP (p:Pr) (xs:List D) (g:G) (Q:KD):Prop:=∃ d g',PR p xs g d g'/\Q d g'
noncomputable def eqP (g:G) (x y:D) (k:Bool->Prop):Prop:=∃ b,eqR g x y b/\k b
noncomputable def inP (g:G) (x y:D) (k:Bool->Prop):Prop:=∃ b,inR g x y b/\k b
noncomputable def af8 (g:G) (x:D) (k:Bool->Prop):Prop:=∃ b,bi9 g x b/\k b
noncomputable def bH8 (x y v:D) (g g':G):Prop:=(∃ a i l j,x=.ref a/\y=.int i/\g[a]?=some (.lst l)/\ixN l.length i=some j/\g'=g.set a (.lst (l.set j v))) \/
 ∃ a kvs c,x=.ref a/\g[a]?=some (.dic kvs)/\Y0 y=some c/\kvs.length < 100000/\g'=g.set a (.dic (putD kvs c v))
noncomputable def ag1 (x y v:D) (g:G) (k:G->Prop):Prop:=∃ g',bH8 x y v g g'/\k g'
noncomputable def a34 (f:Str) (cs:List Str) (x v:D) (g g':G):Prop:=∃ a c fs,x=.ref a/\g[a]?=some (.ins c fs)/\c ∈ cs/\fs.length < 100/\g'=g.set a (.ins c (v8 f v fs))
noncomputable def aj1 (f:Str) (cs:List Str) (x v:D) (g:G) (k:G->Prop):Prop:=∃ g',a34 f cs x v g g'/\k g'
noncomputable def mkP:Pr->D->G->Prop
 | .get,x,g=>∃ a kvs,x=.ref a/\g[a]?=some (.dic kvs)
 | .join,x,g=>∃ y,x=.str y
 | .index,x,g=>(∃ l,x=.tup l) \/ ∃ a l,x=.ref a/\i4 g a=some l
 | _,x,g=>∃ a l,x=.ref a/\i4 g a=some l
inductive IK where
 | fix (l:List D) | lst (a:Nat) | enl (a:Nat)
noncomputable def IK.at:IK->Nat->G->Option (Option D)
 | .fix l,i,_=>some l[i]?
 | .lst a,i,g=>match i4 g a with
  | some l=>some l[i]?
  | none=>none
 | .enl a,i,g=>match i4 g a with
  | some l=>some (l[i]?.map fun d=>.tup [.int i,d])
  | none=>none
inductive MT where
 | one (i:Nat) | many (is:List Nat)
noncomputable def B8:List Nat->List D->S->Option S
 | [],[],σ=>some σ
 | i :: is,d :: ds,σ=>B8 is ds (σ.set i (some d))
 | _,_,_=>none
noncomputable def tgP (t:MT) (x:D) (σ:S) (k:S->Prop):Prop:=match t with
 | .one i=>k (σ.set i (some x))
 | .many is=>∃ l σ',x=.tup l/\B8 is l σ=some σ'/\k σ'
set_option genInjectivity false in
set_option genSizeOf false in
inductive ME where
 | var (i:Nat) | lit (d:D)
 | nil | cons (a b:ME) | prim (p:Pr) (es:ME) | meth (p:Pr) (o es:ME) | dct (es:ME)
 | chain (o1 o2:CmpOp) (a b c:ME)
 | and_ (a b:ME) | or_ (a b:ME) | not_ (a:ME) | ite (c a b:ME)
 | call (f:Nat) (es:ME) | make (c:Str) (f:Nat) (es:ME) | methc (m:Str) (cs:List (Str × Nat)) (o es:ME)
 | comp (i6:List Nat) (n:Nat) (tg:MT) (it cond elt:ME) | scomp (i6:List Nat) (n:Nat) (tg:MT) (it cond elt:ME)
 | itE (e:ME) | itR1 (a:ME) | itR2 (a b:ME) | itN (e:ME) | tst (e:ME) | no
noncomputable abbrev Sig:=Nat->List D->G->KD->KX->Prop
noncomputable def Y8 (σ:S) (i6:List Nat) (n:Nat):S:=i6.map (fun j=>(σ[j]?).join) ++ List.replicate (n - i6.length) none
noncomputable def turns (k:IK) (σ:S) (g:G) (fin:S->G->Prop) (turn:D->(S->G->Prop)->S->G->Prop):Prop :=
 ∃ W:Nat->Nat->S->G->Prop,(∃ m,W 0 m σ g)/\∀ i m σ g,W i m σ g->(k.at i g=some none/\fin σ g) \/ ∃ x,k.at i g=some (some x)/\∃ N2:S->G->Prop,(∀ σ' g',N2 σ' g'->∃ m',m' < m/\W (i + 1) m' σ' g')/\turn x N2 σ g
noncomputable def au0 (k:IK) (σ:S) (g:G) (fin:List D->G->Prop) (turn:D->(Option D->S->G->Prop)->S->G->Prop):Prop :=
 ∃ W:Nat->Nat->List D->S->G->Prop,(∃ m,W 0 m [] σ g)/\∀ i m ys σ g,W i m ys σ g->(k.at i g=some none/\fin ys g) \/
  ∃ x,k.at i g=some (some x)/\ys.length < 100000/\turn x (fun y σ' g'=>∃ m',m' < m/\W (i + 1) m' (ys ++ y.toList) σ' g') σ g
noncomputable def at9 (k:IK) (σ:S) (g:G) (fin:List Int->G->Prop) (turn:D->(Option Int->S->G->Prop)->S->G->Prop):Prop :=
 ∃ W:Nat->Nat->List Int->S->G->Prop,(∃ m,W 0 m [] σ g)/\∀ i m ys σ g,W i m ys σ g->(k.at i g=some none/\ys.length < 60/\fin ys g) \/
  ∃ x,k.at i g=some (some x)/\ys.length < 60/\turn x (fun y σ' g'=>∃ m',m' < m/\W (i + 1) m' (ys ++ y.toList) σ' g') σ g
mutual
noncomputable def wpE (P:Sig):ME->S->G->KD->KX->Prop
 | .var i,σ,g,Q,_=>∃ d,σ[i]?=some (some d)/\Q d g
 | .lit d,_,g,Q,_=>Q d g
 | .prim p es,σ,g,Q,E=>wpA P es σ g (fun xs g1=>prP p xs g1 Q) E
 | .meth p o es,σ,g,Q,E=>wpE P o σ g (fun x g1=>mkP p x g1/\wpA P es σ g1 (fun xs g2=>prP p (x :: xs) g2 Q) E) E
 | .dct es,σ,g,Q,E=>wpA P es σ (g ++ [.dic []]) (fun xs g1=>∃ kvs,ao4 xs []=some kvs/\xs.length <= 30/\g1[g.length]?=some (.dic [])/\Q (.ref g.length) (g1.set g.length (.dic kvs))) E
 | .chain o1 o2 a b c,σ,g,Q,E=>wpE P a σ g (fun x g1=>wpE P b σ g1 (fun y g2=>prP (.cmp o1) [x,y] g2 fun z g3=>∃ t,z=.bl t/\if t=true then wpE P c σ g3 (fun w g4=>prP (.cmp o2) [y,w] g4 Q) E else Q (.bl false) g3) E) E
 | .and_ a b,σ,g,Q,E=>wpE P a σ g (fun x g1=>∃ t,x=.bl t/\if t=true then wpE P b σ g1 Q E else Q (.bl false) g1) E
 | .or_ a b,σ,g,Q,E=>wpE P a σ g (fun x g1=>∃ t,x=.bl t/\if t=true then Q (.bl true) g1 else wpE P b σ g1 Q E) E
 | .not_ a,σ,g,Q,E=>wpE P a σ g (fun x g1=>∃ t,x=.bl t/\Q (.bl (!t)) g1) E
 | .ite c a b,σ,g,Q,E=>wpT P c σ g (fun t g1=>if t=true then wpE P a σ g1 Q E else wpE P b σ g1 Q E) E
 | .call f es,σ,g,Q,E=>wpA P es σ g (fun xs g1=>P f xs g1 Q E) E
 | .make c f es,σ,g,Q,E=>wpA P es σ g (fun xs g1=>P f (.ref g1.length :: xs) (g1 ++ [.ins c []]) (fun d g2=>d=.non/\Q (.ref g1.length) g2) E) E
 | .methc m cs o es,σ,g,Q,E=>wpE P o σ g (fun x g1=>∃ a c fs f,x=.ref a/\g1[a]?=some (.ins c fs)/\fs.lookup m=none/\cs.lookup c=some f/\wpA P es σ g1 (fun xs g2=>P f (x :: xs) g2 Q E) E) E
 | .comp i6 n tg it cond elt,σ,g,Q,E=>wpI P it σ g (fun k g1=>au0 k (Y8 σ i6 n) g1 (fun ys g=>Q (.ref g.length) (g ++ [.lst ys])) fun x N σ g=>tgP tg x σ fun σ2=>wpT P cond σ2 g (fun b g3=>if b=true then wpE P elt σ2 g3 (fun y g4=>N (some y) σ2 g4) NoX else N none σ2 g3) NoX) E
 | .scomp i6 n tg it cond elt,σ,g,Q,E=>wpI P it σ g (fun k g1=>at9 k (Y8 σ i6 n) g1 (fun ys g=>Q (.ref g.length) (g ++ [.lst ((G7 ys).map .int)])) fun x N σ g=>tgP tg x σ fun σ2=>wpT P cond σ2 g (fun b g3=>if b=true then wpE P elt σ2 g3 (fun y g4=>∃ j,y=.int j/\N (some j) σ2 g4) NoX else N none σ2 g3) NoX) E
 | _,_,_,_,_=>False
noncomputable def wpA (P:Sig):ME->S->G->(List D->G->Prop)->KX->Prop
 | .nil,_,g,Q,_=>Q [] g
 | .cons a b,σ,g,Q,E=>wpE P a σ g (fun x g1=>wpA P b σ g1 (fun xs g2=>Q (x :: xs) g2) E) E
 | _,_,_,_,_=>False
noncomputable def wpT (P:Sig):ME->S->G->(Bool->G->Prop)->KX->Prop
 | .and_ a b,σ,g,Q,E=>wpT P a σ g (fun t g1=>if t=true then wpT P b σ g1 Q E else Q false g1) E
 | .or_ a b,σ,g,Q,E=>wpT P a σ g (fun t g1=>if t=true then Q true g1 else wpT P b σ g1 Q E) E
 | .not_ a,σ,g,Q,E=>wpT P a σ g (fun t g1=>Q (!t) g1) E
 | .no,_,g,Q,_=>Q true g
 | .tst e,σ,g,Q,E=>wpE P e σ g (fun x g1=>af8 g1 x fun b=>Q b g1) E
 | _,_,_,_,_=>False
noncomputable def wpI (P:Sig):ME->S->G->(IK->G->Prop)->KX->Prop
 | .itE e,σ,g,R,E=>wpE P e σ g (fun x g1=>(∃ l,x=.tup l/\R (.fix l) g1) \/ ∃ a l,x=.ref a/\i4 g1 a=some l/\R (.lst a) g1) E
 | .itR1 a,σ,g,R,E=>wpE P a σ g (fun x g1=>∃ j:Int,x=.int j/\-(2 ^ 62) <= j/\j < 2 ^ 62/\R (.fix (j0 0 j.toNat)) g1) E
 | .itR2 a b,σ,g,R,E=>wpE P a σ g (fun x g1=>wpE P b σ g1 (fun y g2=>∃ i j:Int,x=.int i/\y=.int j/\(-(2 ^ 62) <= i/\i < 2 ^ 62/\-(2 ^ 62) <= j/\j < 2 ^ 62)/\R (.fix (j0 i (j - i).toNat)) g2) E) E
 | .itN e,σ,g,R,E=>wpE P e σ g (fun x g1=>∃ a l,x=.ref a/\i4 g1 a=some l/\R (.enl a) g1) E
 | _,_,_,_,_=>False
end
set_option genInjectivity false in
set_option genSizeOf false in
inductive MS where
 | pass | seq (a b:MS) | expr (e:ME) | set (i:Nat) (e:ME) | unp (t:MT) (e:ME) | setix (o i v:ME) | setf (f:Str) (cs:List Str) (o v:ME)
 | augf (f:Str) (cs:List Str) (o v:ME)
 | ifs (c:ME) (a b:MS) | for_ (t:MT) (it:ME) (b:MS) | whil (c:ME) (b:MS) | ret (e:ME) | retn | brk | cont
 | raise (x:Str) (es:ME) | W4 (b:MS) (hs:List (Str × ME))
structure Ends where
 nx:S->G->Prop
 rt:KD
 bk:S->G->Prop:=fun _ _=>False
 ct:S->G->Prop:=fun _ _=>False
noncomputable def wpH (P:Sig) (N:Ends) (σ:S) (E:KX):List (Str × ME)->KX
 | [],x,g=>E x g
 | (y,e) :: r,x,g=>if x.cls=y \/ y="MintError" then wpE P e σ g N.rt NoX else wpH P N σ E r x g
noncomputable def wpS (P:Sig):MS->Ends->S->G->KX->Prop
 | .pass,N,σ,g,_=>N.nx σ g
 | .seq a b,N,σ,g,E=>wpS P a { N with nx:=fun σ1 g1=>wpS P b N σ1 g1 E } σ g E
 | .expr e,N,σ,g,E=>wpE P e σ g (fun _ g1=>N.nx σ g1) E
 | .set i e,N,σ,g,E=>wpE P e σ g (fun x g1=>N.nx (σ.set i (some x)) g1) E
 | .unp t e,N,σ,g,E=>wpE P e σ g (fun x g1=>tgP t x σ fun σ1=>N.nx σ1 g1) E
 | .setix o i v,N,σ,g,E=>wpE P v σ g (fun x g1=>wpE P o σ g1 (fun y g2=>wpE P i σ g2 (fun z g3=>ag1 y z x g3 fun g4=>N.nx σ g4) E) E) E
 | .setf f cs o v,N,σ,g,E=>wpE P v σ g (fun x g1=>wpE P o σ g1 (fun y g2=>aj1 f cs y x g2 fun g3=>N.nx σ g3) E) E
 | .augf f cs o v,N,σ,g,E=>wpE P o σ g (fun y g1=>∃ a c fs x,y=.ref a/\g1[a]?=some (.ins c fs)/\c ∈ cs/\fs.lookup f=some x/\wpE P v σ g1 (fun z g3=>prP .iadd [x,z] g3 fun w g4=>∃ fs',g4[a]?=some (.ins c fs')/\fs'.length < 100/\N.nx σ (g4.set a (.ins c (v8 f w fs')))) E) E
 | .ifs c a b,N,σ,g,E=>wpT P c σ g (fun t g1=>if t=true then wpS P a N σ g1 E else wpS P b N σ g1 E) E
 | .for_ t it b,N,σ,g,E=>wpI P it σ g (fun k g1=>turns k σ g1 N.nx fun x N2 σ g=>tgP t x σ fun σ2=>wpS P b { N with nx:=N2,ct:=N2,bk:=N.nx } σ2 g E) E
 | .whil c b,N,σ,g,E=>∃ W:Nat->S->G->Prop,(∃ m,W m σ g)/\∀ m σ g,W m σ g->wpT P c σ g (fun t g1=>if t=true then ∃ N2:S->G->Prop,(∀ σ' g',N2 σ' g'->∃ m',m' < m/\W m' σ' g')/\wpS P b { N with nx:=N2,ct:=N2,bk:=N.nx } σ g1 E else N.nx σ g1) E
 | .ret e,N,σ,g,E=>wpE P e σ g N.rt E
 | .retn,N,_,g,_=>N.rt .non g
 | .brk,N,σ,g,_=>N.bk σ g
 | .cont,N,σ,g,_=>N.ct σ g
 | .raise x es,_,σ,g,E=>wpA P es σ g (fun vs g1=>vs.length <= 1000/\E ⟨x⟩ g1) E
 | .W4 b hs,N,σ,g,E=>wpS P b N σ g (wpH P N (σ.map fun _=>none) E hs)
structure MDef where
 ar:Nat
 n:Nat
 body:MS
noncomputable def d8 (m:MDef) (ds:List D):S:=ds.map some ++ List.replicate (m.n - ds.length) none
noncomputable def b9 (T:Nat->Option MDef):Nat->Sig
 | 0,_,_,_,_,_=>False
 | k + 1,f,ds,g,Q,E=>∃ m,T f=some m/\ds.length=m.ar/\wpS (b9 T k) m.body ⟨fun _ g'=>Q .non g',Q,fun _ _=>False,fun _ _=>False⟩ (d8 m ds) g E
end M

namespace M
open PySem L2
theorem q9 {p xs} {g:G} {Q Q':KD} (h:∀ d g,Q d g->Q' d g) (q:prP p xs g Q):prP p xs g Q':=by
 obtain ⟨d,g',a,b⟩:=q;exact ⟨d,g',a,h _ _ b⟩
theorem aL5 {x} {g:G} {k k':Bool->Prop} (h:∀ b,k b->k' b) (q:af8 g x k):af8 g x k':=by
 obtain ⟨b,a,z⟩:=q;exact ⟨b,a,h _ z⟩
theorem ap7 {x y v} {g:G} {k k':G->Prop} (h:∀ g,k g->k' g) (q:ag1 x y v g k):ag1 x y v g k':=by
 obtain ⟨b,a,z⟩:=q;exact ⟨b,a,h _ z⟩
theorem aG0 {f cs x v} {g:G} {k k':G->Prop} (h:∀ g,k g->k' g) (q:aj1 f cs x v g k):aj1 f cs x v g k':=by
 obtain ⟨b,a,z⟩:=q;exact ⟨b,a,h _ z⟩
theorem K5 {t x σ} {k k':S->Prop} (h:∀ σ,k σ->k' σ) (q:tgP t x σ k):tgP t x σ k':=by
 cases t with
 | one i=>exact h _ q
 | many is=>obtain ⟨l,σ',a,b,c⟩:=q;exact ⟨l,σ',a,b,h _ c⟩
theorem aE9 {k σ g} {fin fin':S->G->Prop} {turn turn':D->(S->G->Prop)->S->G->Prop} (h:∀ σ g,fin σ g->fin' σ g) (h2:∀ x N σ g,turn x N σ g->turn' x N σ g) (q:turns k σ g fin turn):turns k σ g fin' turn':=by
 obtain ⟨W,w0,q⟩:=q
 refine ⟨W,w0,fun i m σ g w=>?_⟩
 rcases q i m σ g w with ⟨a,b⟩ | ⟨x,a,N2,b,c⟩
 ·exact .inl ⟨a,h _ _ b⟩
 ·exact .inr ⟨x,a,N2,b,h2 _ _ _ _ c⟩
theorem aA2 {k σ g} {fin fin':List D->G->Prop} {turn turn':D->(Option D->S->G->Prop)->S->G->Prop} (h:∀ ys g,fin ys g->fin' ys g) (h2:∀ x N σ g,turn x N σ g->turn' x N σ g) (q:au0 k σ g fin turn):au0 k σ g fin' turn':=by
 obtain ⟨W,w0,q⟩:=q
 refine ⟨W,w0,fun i m ys σ g w=>?_⟩
 rcases q i m ys σ g w with ⟨a,b⟩ | ⟨x,a,b,c⟩
 ·exact .inl ⟨a,h _ _ b⟩
 ·exact .inr ⟨x,a,b,h2 _ _ _ _ c⟩
theorem aA1 {k σ g} {fin fin':List Int->G->Prop} {turn turn':D->(Option Int->S->G->Prop)->S->G->Prop} (h:∀ ys g,fin ys g->fin' ys g) (h2:∀ x N σ g,turn x N σ g->turn' x N σ g) (q:at9 k σ g fin turn):at9 k σ g fin' turn':=by
 obtain ⟨W,w0,q⟩:=q
 refine ⟨W,w0,fun i m ys σ g w=>?_⟩
 rcases q i m ys σ g w with ⟨a,b,c⟩ | ⟨x,a,b,c⟩
 ·exact .inl ⟨a,b,h _ _ c⟩
 ·exact .inr ⟨x,a,b,h2 _ _ _ _ c⟩
theorem C4 {t:Bool} {A B A' B':Prop} (h1:A->A') (h2:B->B') (q:if t=true then A else B):if t=true then A' else B':=by
 cases t
 ·exact h2 q
 ·exact h1 q
noncomputable def j9 (P:Sig):Prop:=∀ f xs g Q Q' E E',(∀ d g,Q d g->Q' d g)->(∀ x g,E x g->E' x g)->P f xs g Q E->P f xs g Q' E'
mutual
theorem c9 {P:Sig} (hP:j9 P):∀ (e:ME) (σ:S) (g:G) (Q Q':KD) (E E':KX),(∀ d g,Q d g->Q' d g)->(∀ x g,E x g->E' x g)->wpE P e σ g Q E->wpE P e σ g Q' E'
 | .var i,σ,g,Q,Q',E,E',h,hx,q=>by
  rw [wpE] at q ⊢;obtain ⟨d,a,b⟩:=q;exact ⟨d,a,h _ _ b⟩
 | .lit d,σ,g,Q,Q',E,E',h,hx,q=>by rw [wpE] at q ⊢;exact h _ _ q
 | .prim p es,σ,g,Q,Q',E,E',h,hx,q=>by
  rw [wpE] at q ⊢;exact u9 hP es _ _ _ _ _ _ (fun xs g1 q=>q9 h q) hx q
 | .meth p o es,σ,g,Q,Q',E,E',h,hx,q=>by
  rw [wpE] at q ⊢;exact c9 hP o _ _ _ _ _ _ (fun x g1 q=>⟨q.1,u9 hP es _ _ _ _ _ _ (fun xs g2 q=>q9 h q) hx q.2⟩) hx q
 | .dct es,σ,g,Q,Q',E,E',h,hx,q=>by
  rw [wpE] at q ⊢;exact u9 hP es _ _ _ _ _ _ (fun xs g1 ⟨kvs,a,b,c,d⟩=>⟨kvs,a,b,c,h _ _ d⟩) hx q
 | .chain o1 o2 a b c,σ,g,Q,Q',E,E',h,hx,q=>by
  rw [wpE] at q ⊢
  refine c9 hP a _ _ _ _ _ _ (fun x g1 q=>c9 hP b _ _ _ _ _ _ (fun y g2 q=>q9 (fun z g3 q=>?_) q) hx q) hx q
  obtain ⟨t,e,q⟩:=q
  exact ⟨t,e,C4 (fun q=>c9 hP c _ _ _ _ _ _ (fun w g4 q=>q9 h q) hx q) (h _ _) q⟩
 | .and_ a b,σ,g,Q,Q',E,E',h,hx,q=>by
  rw [wpE] at q ⊢
  refine c9 hP a _ _ _ _ _ _ (fun x g1 q=>?_) hx q
  obtain ⟨t,e,q⟩:=q
  exact ⟨t,e,C4 (fun q=>c9 hP b _ _ _ _ _ _ h hx q) (h _ _) q⟩
 | .or_ a b,σ,g,Q,Q',E,E',h,hx,q=>by
  rw [wpE] at q ⊢
  refine c9 hP a _ _ _ _ _ _ (fun x g1 q=>?_) hx q
  obtain ⟨t,e,q⟩:=q
  exact ⟨t,e,C4 (h _ _) (fun q=>c9 hP b _ _ _ _ _ _ h hx q) q⟩
 | .not_ a,σ,g,Q,Q',E,E',h,hx,q=>by
  rw [wpE] at q ⊢
  refine c9 hP a _ _ _ _ _ _ (fun x g1 q=>?_) hx q
  obtain ⟨t,e,q⟩:=q
  exact ⟨t,e,h _ _ q⟩
 | .ite c a b,σ,g,Q,Q',E,E',h,hx,q=>by
  rw [wpE] at q ⊢
  exact u7 hP c _ _ _ _ _ _ (fun t g1 q=>C4 (fun q=>c9 hP a _ _ _ _ _ _ h hx q) (fun q=>c9 hP b _ _ _ _ _ _ h hx q) q) hx q
 | .call f es,σ,g,Q,Q',E,E',h,hx,q=>by
  rw [wpE] at q ⊢;exact u9 hP es _ _ _ _ _ _ (fun xs g1 q=>hP _ _ _ _ _ _ _ h hx q) hx q
 | .make c f es,σ,g,Q,Q',E,E',h,hx,q=>by
  rw [wpE] at q ⊢;exact u9 hP es _ _ _ _ _ _ (fun xs g1 q=>hP _ _ _ _ _ _ _ (fun d g2 q=>⟨q.1,h _ _ q.2⟩) hx q) hx q
 | .methc m cs o es,σ,g,Q,Q',E,E',h,hx,q=>by
  rw [wpE] at q ⊢
  refine c9 hP o _ _ _ _ _ _ (fun x g1 q=>?_) hx q
  obtain ⟨a,c,fs,f,q1,q2,q3,q4,q⟩:=q
  exact ⟨a,c,fs,f,q1,q2,q3,q4,u9 hP es _ _ _ _ _ _ (fun xs g2 q=>hP _ _ _ _ _ _ _ h hx q) hx q⟩
 | .comp i6 n tg it cond elt,σ,g,Q,Q',E,E',h,hx,q=>by
  rw [wpE] at q ⊢;exact F0 hP it _ _ _ _ _ _ (fun k g1 q=>aA2 (fun ys g q=>h _ _ q) (fun _ _ _ _ q=>q) q) hx q
 | .scomp i6 n tg it cond elt,σ,g,Q,Q',E,E',h,hx,q=>by
  rw [wpE] at q ⊢;exact F0 hP it _ _ _ _ _ _ (fun k g1 q=>aA1 (fun ys g q=>h _ _ q) (fun _ _ _ _ q=>q) q) hx q
 | .nil,σ,g,Q,Q',E,E',h,hx,q=>(show False from q).elim
 | .cons _ _,σ,g,Q,Q',E,E',h,hx,q=>(show False from q).elim
 | .itE _,σ,g,Q,Q',E,E',h,hx,q=>(show False from q).elim
 | .itR1 _,σ,g,Q,Q',E,E',h,hx,q=>(show False from q).elim
 | .itR2 _ _,σ,g,Q,Q',E,E',h,hx,q=>(show False from q).elim
 | .itN _,σ,g,Q,Q',E,E',h,hx,q=>(show False from q).elim
 | .tst _,σ,g,Q,Q',E,E',h,hx,q=>(show False from q).elim
 | .no,σ,g,Q,Q',E,E',h,hx,q=>(show False from q).elim
theorem u9 {P:Sig} (hP:j9 P):∀ (e:ME) (σ:S) (g:G) (Q Q':List D->G->Prop) (E E':KX),(∀ d g,Q d g->Q' d g)->(∀ x g,E x g->E' x g)->wpA P e σ g Q E->wpA P e σ g Q' E'
 | .nil,σ,g,Q,Q',E,E',h,hx,q=>by rw [wpA] at q ⊢;exact h _ _ q
 | .cons a b,σ,g,Q,Q',E,E',h,hx,q=>by
  rw [wpA] at q ⊢;exact c9 hP a _ _ _ _ _ _ (fun x g1 q=>u9 hP b _ _ _ _ _ _ (fun xs g2 q=>h _ _ q) hx q) hx q
 | .var _,σ,g,Q,Q',E,E',h,hx,q | .lit _,σ,g,Q,Q',E,E',h,hx,q | .prim _ _,σ,g,Q,Q',E,E',h,hx,q | .meth _ _ _,σ,g,Q,Q',E,E',h,hx,q | .dct _,σ,g,Q,Q',E,E',h,hx,q | .chain _ _ _ _ _,σ,g,Q,Q',E,E',h,hx,q | .and_ _ _,σ,g,Q,Q',E,E',h,hx,q | .or_ _ _,σ,g,Q,Q',E,E',h,hx,q | .not_ _,σ,g,Q,Q',E,E',h,hx,q | .ite _ _ _,σ,g,Q,Q',E,E',h,hx,q | .call _ _,σ,g,Q,Q',E,E',h,hx,q
 | .make _ _ _,σ,g,Q,Q',E,E',h,hx,q | .methc _ _ _ _,σ,g,Q,Q',E,E',h,hx,q | .comp _ _ _ _ _ _,σ,g,Q,Q',E,E',h,hx,q | .scomp _ _ _ _ _ _,σ,g,Q,Q',E,E',h,hx,q | .itE _,σ,g,Q,Q',E,E',h,hx,q | .itR1 _,σ,g,Q,Q',E,E',h,hx,q | .itR2 _ _,σ,g,Q,Q',E,E',h,hx,q | .itN _,σ,g,Q,Q',E,E',h,hx,q | .tst _,σ,g,Q,Q',E,E',h,hx,q | .no,σ,g,Q,Q',E,E',h,hx,q=>(show False from q).elim
theorem u7 {P:Sig} (hP:j9 P):∀ (e:ME) (σ:S) (g:G) (Q Q':Bool->G->Prop) (E E':KX),(∀ d g,Q d g->Q' d g)->(∀ x g,E x g->E' x g)->wpT P e σ g Q E->wpT P e σ g Q' E'
 | .and_ a b,σ,g,Q,Q',E,E',h,hx,q=>by
  rw [wpT] at q ⊢;exact u7 hP a _ _ _ _ _ _ (fun t g1 q=>C4 (fun q=>u7 hP b _ _ _ _ _ _ h hx q) (h _ _) q) hx q
 | .or_ a b,σ,g,Q,Q',E,E',h,hx,q=>by
  rw [wpT] at q ⊢;exact u7 hP a _ _ _ _ _ _ (fun t g1 q=>C4 (h _ _) (fun q=>u7 hP b _ _ _ _ _ _ h hx q) q) hx q
 | .not_ a,σ,g,Q,Q',E,E',h,hx,q=>by rw [wpT] at q ⊢;exact u7 hP a _ _ _ _ _ _ (fun t g1 q=>h _ _ q) hx q
 | .no,σ,g,Q,Q',E,E',h,hx,q=>by rw [wpT] at q ⊢;exact h _ _ q
 | .tst e,σ,g,Q,Q',E,E',h,hx,q=>by rw [wpT] at q ⊢;exact c9 hP e _ _ _ _ _ _ (fun x g1 q=>aL5 (fun b q=>h _ _ q) q) hx q
 | .var _,σ,g,Q,Q',E,E',h,hx,q | .lit _,σ,g,Q,Q',E,E',h,hx,q | .prim _ _,σ,g,Q,Q',E,E',h,hx,q | .meth _ _ _,σ,g,Q,Q',E,E',h,hx,q | .dct _,σ,g,Q,Q',E,E',h,hx,q | .chain _ _ _ _ _,σ,g,Q,Q',E,E',h,hx,q | .ite _ _ _,σ,g,Q,Q',E,E',h,hx,q | .call _ _,σ,g,Q,Q',E,E',h,hx,q | .nil,σ,g,Q,Q',E,E',h,hx,q | .cons _ _,σ,g,Q,Q',E,E',h,hx,q
 | .make _ _ _,σ,g,Q,Q',E,E',h,hx,q | .methc _ _ _ _,σ,g,Q,Q',E,E',h,hx,q | .comp _ _ _ _ _ _,σ,g,Q,Q',E,E',h,hx,q | .scomp _ _ _ _ _ _,σ,g,Q,Q',E,E',h,hx,q | .itE _,σ,g,Q,Q',E,E',h,hx,q | .itR1 _,σ,g,Q,Q',E,E',h,hx,q | .itR2 _ _,σ,g,Q,Q',E,E',h,hx,q | .itN _,σ,g,Q,Q',E,E',h,hx,q=>(show False from q).elim
theorem F0 {P:Sig} (hP:j9 P):∀ (e:ME) (σ:S) (g:G) (Q Q':IK->G->Prop) (E E':KX),(∀ d g,Q d g->Q' d g)->(∀ x g,E x g->E' x g)->wpI P e σ g Q E->wpI P e σ g Q' E'
 | .itE e,σ,g,Q,Q',E,E',h,hx,q=>by
  rw [wpI] at q ⊢
  exact c9 hP e _ _ _ _ _ _ (fun x g1 q=>q.imp (fun ⟨l,a,b⟩=>⟨l,a,h _ _ b⟩) fun ⟨i,l,a,b,c⟩=>⟨i,l,a,b,h _ _ c⟩) hx q
 | .itR1 a,σ,g,Q,Q',E,E',h,hx,q=>by
  rw [wpI] at q ⊢;exact c9 hP a _ _ _ _ _ _ (fun x g1 ⟨j,a,b,c,d⟩=>⟨j,a,b,c,h _ _ d⟩) hx q
 | .itR2 a b,σ,g,Q,Q',E,E',h,hx,q=>by
  rw [wpI] at q ⊢;exact c9 hP a _ _ _ _ _ _ (fun x g1 q=>c9 hP b _ _ _ _ _ _ (fun y g2 ⟨i,j,a,b,c,d⟩=>⟨i,j,a,b,c,h _ _ d⟩) hx q) hx q
 | .itN e,σ,g,Q,Q',E,E',h,hx,q=>by
  rw [wpI] at q ⊢;exact c9 hP e _ _ _ _ _ _ (fun x g1 ⟨i,l,a,b,c⟩=>⟨i,l,a,b,h _ _ c⟩) hx q
 | .var _,σ,g,Q,Q',E,E',h,hx,q | .lit _,σ,g,Q,Q',E,E',h,hx,q | .prim _ _,σ,g,Q,Q',E,E',h,hx,q | .meth _ _ _,σ,g,Q,Q',E,E',h,hx,q | .dct _,σ,g,Q,Q',E,E',h,hx,q | .chain _ _ _ _ _,σ,g,Q,Q',E,E',h,hx,q | .ite _ _ _,σ,g,Q,Q',E,E',h,hx,q | .call _ _,σ,g,Q,Q',E,E',h,hx,q | .nil,σ,g,Q,Q',E,E',h,hx,q | .cons _ _,σ,g,Q,Q',E,E',h,hx,q
 | .and_ _ _,σ,g,Q,Q',E,E',h,hx,q | .or_ _ _,σ,g,Q,Q',E,E',h,hx,q | .not_ _,σ,g,Q,Q',E,E',h,hx,q | .tst _,σ,g,Q,Q',E,E',h,hx,q | .no,σ,g,Q,Q',E,E',h,hx,q
 | .make _ _ _,σ,g,Q,Q',E,E',h,hx,q | .methc _ _ _ _,σ,g,Q,Q',E,E',h,hx,q | .comp _ _ _ _ _ _,σ,g,Q,Q',E,E',h,hx,q | .scomp _ _ _ _ _ _,σ,g,Q,Q',E,E',h,hx,q=>(show False from q).elim
end
structure Ends.le (N N':Ends):Prop where
 nx:∀ σ g,N.nx σ g->N'.nx σ g
 rt:∀ d g,N.rt d g->N'.rt d g
 bk:∀ σ g,N.bk σ g->N'.bk σ g
 ct:∀ σ g,N.ct σ g->N'.ct σ g
theorem at6 {P:Sig} (hP:j9 P) {N N':Ends} {E E':KX} (h:N.le N') (hx:∀ x g,E x g->E' x g) {σ:S}:∀ (hs:List (Str × ME)) x g,wpH P N σ E hs x g->wpH P N' σ E' hs x g
 | [],x,g,q=>hx x g q
 | (y,e) :: r,x,g,q=>by
  unfold wpH at q ⊢
  split
  ·rename_i hh;rw [if_pos hh] at q;exact c9 hP e _ _ _ _ _ _ h.rt (fun _ _ z=>z) q
  ·rename_i hh;rw [if_neg hh] at q;exact at6 hP h hx r x g q
theorem wpS_mono {P:Sig} (hP:j9 P):∀ (s:MS) (N N':Ends) (σ:S) (g:G) (E E':KX),N.le N'->(∀ x g,E x g->E' x g)->wpS P s N σ g E->wpS P s N' σ g E'
 | .pass,N,N',σ,g,E,E',h,hx,q=>h.nx _ _ q
 | .seq a b,N,N',σ,g,E,E',h,hx,q=>wpS_mono hP a { N with nx:=fun σ1 g1=>wpS P b N σ1 g1 E } { N' with nx:=fun σ1 g1=>wpS P b N' σ1 g1 E' } _ _ _ _ ⟨fun σ1 g1 q=>wpS_mono hP b _ _ _ _ _ _ h hx q,h.rt,h.bk,h.ct⟩ hx q
 | .expr e,N,N',σ,g,E,E',h,hx,q=>c9 hP e _ _ _ _ _ _ (fun x g1 q=>h.nx _ _ q) hx q
 | .set i e,N,N',σ,g,E,E',h,hx,q=>c9 hP e _ _ _ _ _ _ (fun x g1 q=>h.nx _ _ q) hx q
 | .unp t e,N,N',σ,g,E,E',h,hx,q=>c9 hP e _ _ _ _ _ _ (fun x g1 q=>K5 (fun σ q=>h.nx _ _ q) q) hx q
 | .setix o i v,N,N',σ,g,E,E',h,hx,q=>c9 hP v _ _ _ _ _ _ (fun x g1 q=>c9 hP o _ _ _ _ _ _ (fun y g2 q=>c9 hP i _ _ _ _ _ _ (fun z g3 q=>ap7 (fun g q=>h.nx _ _ q) q) hx q) hx q) hx q
 | .setf f cs o v,N,N',σ,g,E,E',h,hx,q=>c9 hP v _ _ _ _ _ _ (fun x g1 q=>c9 hP o _ _ _ _ _ _ (fun y g2 q=>aG0 (fun g q=>h.nx _ _ q) q) hx q) hx q
 | .augf f cs o v,N,N',σ,g,E,E',h,hx,q=>c9 hP o _ _ _ _ _ _ (fun y g1 q=>by
   obtain ⟨a,c,fs,x,q1,q2,q3,q4,q⟩:=q
   exact ⟨a,c,fs,x,q1,q2,q3,q4,c9 hP v _ _ _ _ _ _ (fun z g3 q=>q9 (fun w g4 q=>by
    obtain ⟨fs',k1,k2,k3⟩:=q
    exact ⟨fs',k1,k2,h.nx _ _ k3⟩) q) hx q⟩) hx q
 | .ifs c a b,N,N',σ,g,E,E',h,hx,q=>u7 hP c _ _ _ _ _ _ (fun t g1 q=>C4 (fun q=>wpS_mono hP a _ _ _ _ _ _ h hx q) (fun q=>wpS_mono hP b _ _ _ _ _ _ h hx q) q) hx q
 | .for_ t it b,N,N',σ,g,E,E',h,hx,q=>F0 hP it _ _ _ _ _ _ (fun k g1 q=>aE9 h.nx (fun x N2 σ g q=>K5 (fun σ2 q=>wpS_mono hP b { N with nx:=N2,ct:=N2,bk:=N.nx } { N' with nx:=N2,ct:=N2,bk:=N'.nx } _ _ _ _ ⟨fun _ _ z=>z,h.rt,h.nx,fun _ _ z=>z⟩ hx q) q) q) hx q
 | .whil c b,N,N',σ,g,E,E',h,hx,q=>by
  obtain ⟨W,w0,q⟩:=q
  refine ⟨W,w0,fun m σ g w=>u7 hP c _ _ _ _ _ _ (fun t g1 q=>C4 (fun q=>?_) (h.nx _ _) q) hx (q m σ g w)⟩
  obtain ⟨N2,a,q⟩:=q
  exact ⟨N2,a,wpS_mono hP b { N with nx:=N2,ct:=N2,bk:=N.nx } { N' with nx:=N2,ct:=N2,bk:=N'.nx } _ _ _ _ ⟨fun _ _ z=>z,h.rt,h.nx,fun _ _ z=>z⟩ hx q⟩
 | .ret e,N,N',σ,g,E,E',h,hx,q=>c9 hP e _ _ _ _ _ _ h.rt hx q
 | .retn,N,N',σ,g,E,E',h,hx,q=>h.rt _ _ q
 | .brk,N,N',σ,g,E,E',h,hx,q=>h.bk _ _ q
 | .cont,N,N',σ,g,E,E',h,hx,q=>h.ct _ _ q
 | .raise x es,N,N',σ,g,E,E',h,hx,q=>u9 hP es _ _ _ _ _ _ (fun vs g1 q=>⟨q.1,hx _ _ q.2⟩) hx q
 | .W4 b hs,N,N',σ,g,E,E',h,hx,q=>wpS_mono hP b _ _ _ _ _ _ h (fun x g q=>at6 hP h hx hs x g q) q
theorem g0 (T:Nat->Option MDef):∀ k,j9 (b9 T k)
 | 0=>fun f xs g Q Q' E E' h hx q=>q.elim
 | k + 1=>fun f xs g Q Q' E E' h hx q=>by
  obtain ⟨m,a,b,q⟩:=q
  exact ⟨m,a,b,wpS_mono (g0 T k) m.body ⟨fun _ g'=>Q .non g',Q,fun _ _=>False,fun _ _=>False⟩ _ _ _ _ _ ⟨fun _ _ z=>h _ _ z,h,fun _ _ z=>z,fun _ _ z=>z⟩ hx q⟩
end M

namespace M
open PySem L2
noncomputable def TupAt (K:PySem.W.Frag) (H:Hp) (a:Addr) (vs:List V):Prop :=
 H a=some (.tup vs) \/ ∃ (o:Obj) (its:Array Value) (n:Nat),K.lookup a=some o/\o.cls=.type "tuple"/\o.dict=none/\o.data=.seq its n/\its.size <= sizeLine/\Vals vs its.toList
theorem TupAt.d {K:PySem.W.Frag} {H:Hp} {a:Addr} {vs:List V} (h:TupAt K H a vs):az9 K H a vs:=h
theorem TupAt.sq {K:PySem.W.Frag} {H:Hp} {a:Addr} {vs:List V} (h:TupAt K H a vs):SqT K H a vs:=h.d.sq
mutual
inductive d9 (K:PySem.W.Frag) (ρ:List Addr) (H:Hp):D->V->Prop
 | non:d9 K ρ H .non .non
 | bl (b:Bool):d9 K ρ H (.bl b) (.bl b)
 | int (i:Int):d9 K ρ H (.int i) (.int i)
 | str (x:Str):d9 K ρ H (.str x) (.str x)
 | ty (n:String):d9 K ρ H (.ty n) (.ty n)
 | ref {i:Nat} {a:Addr} (h:ρ[i]?=some a):d9 K ρ H (.ref i) (.ref a)
 | tup {l:List D} {a:Addr} {vs:List V} (h:TupAt K H a vs) (r:a9 K ρ H l vs):d9 K ρ H (.tup l) (.ref a)
inductive a9 (K:PySem.W.Frag) (ρ:List Addr) (H:Hp):List D->List V->Prop
 | nil:a9 K ρ H [] []
 | cons {d:D} {v:V} {ds:List D} {vs:List V} (h:d9 K ρ H d v) (r:a9 K ρ H ds vs):a9 K ρ H (d :: ds) (v :: vs)
end
structure Ext (ρ:List Addr) (H:Hp) (ρ':List Addr) (H':Hp):Prop where
 pre:∃ more,ρ'=ρ ++ more
 tup:∀ a xs,H a=some (.tup xs)->H' a=some (.tup xs)
theorem Ext.refl (ρ:List Addr) (H:Hp):Ext ρ H ρ H:=⟨⟨[],by simp⟩,fun _ _ h=>h⟩
theorem Ext.trans {ρ H ρ1 H1 ρ2 H2} (a:Ext ρ H ρ1 H1) (b:Ext ρ1 H1 ρ2 H2):Ext ρ H ρ2 H2:=by
 obtain ⟨⟨m,rfl⟩,t⟩:=a
 obtain ⟨⟨m',rfl⟩,t'⟩:=b
 exact ⟨⟨m ++ m',by simp⟩,fun x xs h=>t' _ _ (t _ _ h)⟩
theorem Ext.get {ρ H ρ' H'} (e:Ext ρ H ρ' H') {i:Nat} {a:Addr} (h:ρ[i]?=some a):ρ'[i]?=some a:=by
 obtain ⟨⟨m,rfl⟩,_⟩:=e
 rw [List.getElem?_append_left (List.getElem?_eq_some_iff.mp h).1]
 exact h
theorem TupAt.ext {K ρ H ρ' H'} (e:Ext ρ H ρ' H') {a:Addr} {vs:List V} (h:TupAt K H a vs):TupAt K H' a vs:=h.elim (fun z=>.inl (e.tup _ _ z)) .inr
mutual
theorem d9.ext {K ρ H ρ' H'} (e:Ext ρ H ρ' H'):∀ {d v},d9 K ρ H d v->d9 K ρ' H' d v
 | _,_,.non=>.non
 | _,_,.bl b=>.bl b
 | _,_,.int i=>.int i
 | _,_,.str x=>.str x
 | _,_,.ty n=>.ty n
 | _,_,.ref h=>.ref (e.get h)
 | _,_,.tup h r=>.tup (h.ext e) (a9.ext e r)
theorem a9.ext {K ρ H ρ' H'} (e:Ext ρ H ρ' H'):∀ {ds vs},a9 K ρ H ds vs->a9 K ρ' H' ds vs
 | _,_,.nil=>.nil
 | _,_,.cons h r=>.cons (d9.ext e h) (a9.ext e r)
end
theorem a9.length {K ρ H}:∀ {ds vs},a9 K ρ H ds vs->ds.length=vs.length
 | _,_,.nil=>rfl
 | _,_,.cons _ r=>by simp [a9.length r]
theorem a9.get {K ρ H}:∀ {ds vs} {i:Nat} {d:D},a9 K ρ H ds vs->ds[i]?=some d->∃ v,vs[i]?=some v/\d9 K ρ H d v
 | _,_,_,_,.nil,h=>by simp at h
 | _,_,0,_,.cons h _,e=>by simp at e;subst e;exact ⟨_,rfl,h⟩
 | _,_,i + 1,d,.cons _ r,e=>by
  obtain ⟨v,h1,h2⟩:=a9.get (i:=i) (d:=d) r (by simpa using e)
  exact ⟨v,by simpa using h1,h2⟩
theorem a9.set {K ρ H} {d:D} {v:V} (h:d9 K ρ H d v):∀ {ds vs} (i:Nat),a9 K ρ H ds vs->a9 K ρ H (ds.set i d) (vs.set i v)
 | _,_,_,.nil=>.nil
 | _,_,0,.cons _ r=>.cons h r
 | _,_,i + 1,.cons q r=>.cons q (a9.set h i r)
theorem a9.append {K ρ H}:∀ {ds es:List D} {vs ws:List V},a9 K ρ H ds vs->a9 K ρ H es ws->a9 K ρ H (ds ++ es) (vs ++ ws)
 | _,_,_,_,.nil,s=>s
 | _,_,_,_,.cons h r,s=>.cons h (a9.append r s)
theorem a9.rep {K ρ H} {ds:List D} {vs:List V} (r:a9 K ρ H ds vs):∀ n,a9 K ρ H (List.replicate n ds).flatten (List.replicate n vs).flatten
 | 0=>.nil
 | n + 1=>by
  rw [List.replicate_succ,List.replicate_succ,List.flatten_cons,List.flatten_cons]
  exact a9.append r (a9.rep r n)
theorem a9.erase {K ρ H}:∀ {ds:List D} {vs:List V} (i:Nat),a9 K ρ H ds vs->a9 K ρ H (ds.eraseIdx i) (vs.eraseIdx i)
 | _,_,_,.nil=>.nil
 | _,_,0,.cons _ r=>r
 | _,_,i + 1,.cons q r=>.cons q (a9.erase i r)
theorem a9.take {K ρ H}:∀ {ds:List D} {vs:List V} (n:Nat),a9 K ρ H ds vs->a9 K ρ H (ds.take n) (vs.take n)
 | _,_,0,_=>.nil
 | _,_,_ + 1,.nil=>.nil
 | _,_,n + 1,.cons h r=>.cons h (a9.take n r)
theorem a9.drop {K ρ H}:∀ {ds:List D} {vs:List V} (n:Nat),a9 K ρ H ds vs->a9 K ρ H (ds.drop n) (vs.drop n)
 | _,_,0,r=>r
 | _,_,_ + 1,.nil=>.nil
 | _,_,n + 1,.cons _ r=>a9.drop n r
theorem a9.reverse {K ρ H}:∀ {ds:List D} {vs:List V},a9 K ρ H ds vs->a9 K ρ H ds.reverse vs.reverse
 | _,_,.nil=>.nil
 | _,_,.cons h r=>by
  rw [List.reverse_cons,List.reverse_cons]
  exact a9.append (a9.reverse r) (.cons h .nil)
theorem a9.cut {K ρ H} {ds:List D} {vs:List V} (r:a9 K ρ H ds vs) (lo hi:Option Int):a9 K ρ H (M.cut ds lo hi) (T5 vs lo hi):=by
 unfold M.cut T5
 rw [r.length]
 exact (r.drop _).take _
theorem a9.ints {K ρ H}:∀ {ns:List Int} {vs:List V},a9 K ρ H (ns.map D.int) vs->vs=ns.map V.int
 | [],_,.nil=>rfl
 | _ :: _,_,.cons h r=>by cases h;rw [a9.ints r];rfl
theorem a9.ofInts {K ρ H}:∀ (ns:List Int),a9 K ρ H (ns.map D.int) (ns.map V.int)
 | []=>.nil
 | n :: r=>.cons (.int n) (a9.ofInts r)
noncomputable def ae3 (K:PySem.W.Frag) (H:Hp) (a:Addr) (vs:List V):Prop :=
 (∃ o,H a=some (.frz o (.lst vs))) \/ ∃ (o:Obj) (its:Array Value) (n:Nat),K.lookup a=some o/\o.cls=.type "list"/\o.dict=none/\o.data=.seq its n/\its.size <= sizeLine/\Vals vs its.toList
theorem ae3.sq {K:PySem.W.Frag} {H:Hp} {a:Addr} {vs:List V} (h:ae3 K H a vs):SqL K H a vs:=h.elim (fun ⟨o,z⟩=>.inl (.inr ⟨o,z⟩)) .inr
inductive i9 {α:Type} (K:PySem.W.Frag) (ρ:List Addr) (H:Hp):List (α × D)->List (α × V)->Prop
 | nil:i9 K ρ H [] []
 | cons {k:α} {d:D} {v:V} {ds:List (α × D)} {vs:List (α × V)} (h:d9 K ρ H d v) (r:i9 K ρ H ds vs):i9 K ρ H ((k,d) :: ds) ((k,v) :: vs)
theorem i9.ext {α:Type} {K ρ H ρ' H'} (e:Ext ρ H ρ' H') {ds:List (α × D)} {vs:List (α × V)} (h:i9 K ρ H ds vs):i9 K ρ' H' ds vs:=by
 induction h with
 | nil=>exact .nil
 | cons h r ih=>exact .cons (h.ext e) ih
theorem i9.length {α:Type} {K ρ H} {ds:List (α × D)} {vs:List (α × V)} (h:i9 K ρ H ds vs):ds.length=vs.length:=by
 induction h with
 | nil=>rfl
 | cons h r ih=>simp [ih]
noncomputable def Z2 (K:PySem.W.Frag) (ρ:List Addr) (H:Hp):Option D->Option V->Prop
 | some d,some v=>d9 K ρ H d v
 | none,none=>True
 | _,_=>False
theorem i9.val {K ρ H}:∀ {ds vs} (k:Key),i9 K ρ H ds vs->Z2 K ρ H (K4 ds k) (K3 vs k)
 | _,_,k,.nil=>trivial
 | _,_,k,.cons (k:=k') h r=>by
  unfold K4 K3
  rw [List.find?_cons,List.find?_cons]
  by_cases e:k'=k
  ·simp only [e,decide_true];exact h
  ·simp only [e,decide_false];exact i9.val k r
theorem i9.a86 {K ρ H}:∀ {ds vs} (k:Key),i9 K ρ H ds vs->(ds.any fun kv=>decide (kv.1=k))=(vs.any fun kv=>decide (kv.1=k))
 | _,_,k,.nil=>rfl
 | _,_,k,.cons h r=>by simp only [List.any_cons,i9.a86 k r]
theorem i9.snoc {K ρ H} {k:Key} {d:D} {v:V} (h:d9 K ρ H d v):∀ {ds vs},i9 K ρ H ds vs->i9 K ρ H (ds ++ [(k,d)]) (vs ++ [(k,v)])
 | _,_,.nil=>.cons h .nil
 | _,_,.cons q r=>.cons q (i9.snoc h r)
theorem i9.aw9 {K ρ H} {k:Key} {d:D} {v:V} (h:d9 K ρ H d v):∀ {ds vs},i9 K ρ H ds vs->i9 K ρ H (ds.map fun kv=>if kv.1=k then (kv.1,d) else kv) (vs.map fun kv=>if kv.1=k then (kv.1,v) else kv)
 | _,_,.nil=>.nil
 | _,_,.cons (k:=k') q r=>by
  simp only [List.map_cons]
  by_cases e:k'=k
  ·rw [if_pos e,if_pos e];exact .cons h (i9.aw9 h r)
  ·rw [if_neg e,if_neg e];exact .cons q (i9.aw9 h r)
theorem i9.put {K ρ H} {k:Key} {d:D} {v:V} (h:d9 K ρ H d v) {ds vs} (r:i9 K ρ H ds vs):i9 K ρ H (putD ds k d) (putK vs k v):=by
 unfold putD putK
 rw [r.a86 k]
 split
 ·exact r.aw9 h
 ·exact r.snoc h
noncomputable abbrev n6 (K:PySem.W.Frag) (x:Str) (C:Addr):Prop:=PySem.W.nsIn K mainGlobals x=some (some (.ref C))
theorem i9.look {K ρ H} {ds:List (Str × D)} {vs:List (Str × V)} (f:Str) (h:i9 K ρ H ds vs):Z2 K ρ H (ds.lookup f) (vs.lookup f):=by
 induction h with
 | nil=>trivial
 | cons h r ih =>
  rename_i k d v ds vs
  rw [List.lookup_cons,List.lookup_cons]
  cases f == k
  ·exact ih
  ·exact h
theorem i9.q8 {K ρ H} {f:Str} {d:D} {v:V} (h:d9 K ρ H d v) {ds:List (Str × D)} {vs:List (Str × V)} (r:i9 K ρ H ds vs):i9 K ρ H (v8 f d ds) (L2.q8 f v vs):=by
 induction r with
 | nil=>exact .cons h .nil
 | cons q r ih =>
  unfold v8 L2.q8
  split
  ·exact .cons h r
  ·exact .cons q ih
theorem X0 {f:Str} {d:D} {p:Str->Prop} (hf:p f):∀ {ds:List (Str × D)},(∀ x ∈ ds,p x.1)->∀ x ∈ v8 f d ds,p x.1
 | [],_,x,hx=>by
  have:x=(f,d):=by simpa [v8] using hx
  rw [this];exact hf
 | (k,e) :: r,h,x,hx=>by
  unfold v8 at hx
  split at hx
  ·rcases List.mem_cons.mp hx with z | z
   ·rw [z];exact h (k,e) (by simp)
   ·exact h x (by simp [z])
  ·rcases List.mem_cons.mp hx with z | z
   ·rw [z];exact h (k,e) (by simp)
   ·exact X0 hf (fun y hy=>h y (by simp [hy])) x z
noncomputable def OH (K:PySem.W.Frag) (ρ:List Addr) (H:Hp):O->HO->Prop
 | .lst l,.lst vs=>a9 K ρ H l vs
 | .dic kvs,.dK vs=>i9 K ρ H kvs vs
 | .ins c fs,.ins C _ vs=>n6 K c C/\Cls K C/\i9 K ρ H fs vs/\∀ x ∈ fs,t9 K C x.1
 | _,_=>False
theorem OH.ext {K ρ H ρ' H'} (e:Ext ρ H ρ' H') {o:O} {u:HO} (h:OH K ρ H o u):OH K ρ' H' o u:=by
 cases o <;> cases u <;> first | exact h.elim | exact a9.ext e h | exact i9.ext e h | exact ⟨h.1,h.2.1,h.2.2.1.ext e,h.2.2.2⟩
theorem OH.aj7 {K ρ H} {o:O} {xs:List V} (h:OH K ρ H o (.tup xs)):False:=by cases o <;> exact h
theorem OH.bz7 {K ρ H} {o:O} {ob:Obj} {u:HO} (h:OH K ρ H o (.frz ob u)):False:=by cases o <;> exact h
noncomputable def K0 (K:PySem.W.Frag) (ρ:List Addr) (H:Hp) (o:O) (a:Addr):Prop:=match o with
 | .fro l=>∃ vs,ae3 K H a vs/\a9 K ρ H l vs
 | o=>∃ u,H a=some u/\OH K ρ H o u
theorem K0.of {K ρ H} {o:O} {a:Addr} {u:HO} (hu:H a=some u) (h:OH K ρ H o u):K0 K ρ H o a:=by
 cases o <;> first | exact ⟨u,hu,h⟩ | (cases u <;> exact h.elim)
theorem K0.inv {K ρ H} {o:O} {a:Addr} (m:o.mut=true) (h:K0 K ρ H o a):∃ u,H a=some u/\OH K ρ H o u:=by
 cases o <;> first | exact h | cases m
theorem K0.lst {K ρ H} {l:List D} {a:Addr} (h:K0 K ρ H (.lst l) a):∃ vs,H a=some (.lst vs)/\a9 K ρ H l vs:=by
 obtain ⟨u,h1,h2⟩:=h
 cases u <;> first | exact ⟨_,h1,h2⟩ | exact h2.elim
theorem K0.dic {K ρ H} {l:List (Key × D)} {a:Addr} (h:K0 K ρ H (.dic l) a):∃ vs,H a=some (.dK vs)/\i9 K ρ H l vs:=by
 obtain ⟨u,h1,h2⟩:=h
 cases u <;> first | exact ⟨_,h1,h2⟩ | exact h2.elim
theorem K0.ins {K ρ H} {c:Str} {fs:List (Str × D)} {a:Addr} (h:K0 K ρ H (.ins c fs) a):∃ C dx vs,H a=some (.ins C dx vs)/\n6 K c C/\Cls K C/\i9 K ρ H fs vs/\∀ x ∈ fs,t9 K C x.1:=by
 obtain ⟨u,h1,h2⟩:=h
 cases u <;> first | exact ⟨_,_,_,h1,h2⟩ | exact h2.elim
structure Rl (K:PySem.W.Frag) (ρ:List Addr) (g:G) (H:Hp):Prop where
 len:ρ.length=g.length
 obj:∀ (i:Nat) o a,g[i]?=some o->ρ[i]?=some a->K0 K ρ H o a
 nd:∀ (i j:Nat) o o' a,g[i]?=some o->g[j]?=some o'->o.mut=true->o'.mut=true->ρ[i]?=some a->ρ[j]?=some a->i=j
section
variable {K:PySem.W.Frag} {ρ:List Addr} {g:G} {H:Hp}
theorem Rl.lst (R:Rl K ρ g H) {i:Nat} {l:List D} {a:Addr} (h:g[i]?=some (.lst l)) (ha:ρ[i]?=some a):∃ vs,H a=some (.lst vs)/\a9 K ρ H l vs:=(R.obj _ _ _ h ha).lst
theorem Rl.dic (R:Rl K ρ g H) {i:Nat} {l:List (Key × D)} {a:Addr} (h:g[i]?=some (.dic l)) (ha:ρ[i]?=some a):∃ vs,H a=some (.dK vs)/\i9 K ρ H l vs:=(R.obj _ _ _ h ha).dic
theorem Rl.ins (R:Rl K ρ g H) {i:Nat} {c:Str} {fs:List (Str × D)} {a:Addr} (h:g[i]?=some (.ins c fs)) (ha:ρ[i]?=some a):∃ C dx vs,H a=some (.ins C dx vs)/\n6 K c C/\Cls K C/\i9 K ρ H fs vs/\∀ x ∈ fs,t9 K C x.1:=(R.obj _ _ _ h ha).ins
theorem Rl.items (R:Rl K ρ g H) {i:Nat} {l:List D} {a:Addr} (h:i4 g i=some l) (ha:ρ[i]?=some a):∃ vs,SqL K H a vs/\a9 K ρ H l vs:=by
 cases e:g[i]? with
 | none=>rw [i4,e] at h;cases h
 | some o =>
  rw [i4,e] at h
  have q:=R.obj _ _ _ e ha
  cases o with
  | lst m=>cases h;obtain ⟨vs,z,r⟩:=q.lst;exact ⟨vs,SqL.of z,r⟩
  | fro m=>cases h;obtain ⟨vs,z,r⟩:=q;exact ⟨vs,z.sq,r⟩
  | _=>cases h
theorem u6 {p:Addr} {o:HO} (hp:H p=none):Ext ρ H ρ (upd H p o):=⟨⟨[],by simp⟩,fun a xs h=>by rw [j6 (p0 h hp)];exact h⟩
theorem ae3.upd {p a:Addr} {o:HO} {vs:List V} (h:ae3 K H a vs) (hp:∀ ob u,H p ≠ some (.frz ob u)):ae3 K (upd H p o) a vs:=by
 rcases h with ⟨ob,z⟩ | z
 ·refine .inl ⟨ob,?_⟩
  rw [j6 ?_]
  ·exact z
  ·intro e
   subst e
   exact hp _ _ z
 ·exact .inr z
theorem K0.upd {p a:Addr} {o:O} {u:HO} {ρ':List Addr} (h:K0 K ρ H o a) (hne:o.mut=true->a ≠ p) (hp:∀ ob u,H p ≠ some (.frz ob u)) (e:Ext ρ H ρ' (L2.upd H p u)):K0 K ρ' (L2.upd H p u) o a:=by
 cases hm:o.mut with
 | true =>
  obtain ⟨u',h1,h2⟩:=h.inv hm
  exact .of (by rw [j6 (hne hm)];exact h1) (h2.ext e)
 | false =>
  cases o <;> first | cases hm | skip
  obtain ⟨vs,z,r⟩:=h
  exact ⟨vs,z.upd hp,r.ext e⟩
theorem Rl.grow {p:Addr} {o:HO} (R:Rl K ρ g H) (hp:H p=none):Rl K ρ g (upd H p o):=by
 have e:Ext ρ H ρ (upd H p o):=u6 hp
 refine ⟨R.len,fun i ob a h1 h2=>?_,R.nd⟩
 have q:=R.obj _ _ _ h1 h2
 refine q.upd (fun hm=>?_) (fun ob u z=>by rw [hp] at z;cases z) e
 obtain ⟨u,h1,_⟩:=q.inv hm
 exact p0 h1 hp
theorem Rl.B7 (R:Rl K ρ g H) (p:Addr):(ρ ++ [p])[g.length]?=some p:=by rw [<- R.len];simp
theorem T4 {p:Addr} {o:HO} (hp:H p=none):Ext ρ H (ρ ++ [p]) (upd H p o):=⟨⟨[p],rfl⟩,(u6 (ρ:=ρ) hp).tup⟩
theorem Rl.new {p:Addr} {o:O} {u:HO} (R:Rl K ρ g H) (hp:H p=none) (r:OH K ρ H o u):Rl K (ρ ++ [p]) (g ++ [o]) (upd H p u):=by
 have e:Ext ρ H (ρ ++ [p]) (upd H p u):=T4 hp
 have old:∀ {i:Nat} {ob:O} {a:Addr},g[i]?=some ob->(ρ ++ [p])[i]?=some a->ρ[i]?=some a:=fun {i ob a} h1 h2=>by
  rw [List.getElem?_append_left (by rw [R.len];exact (List.getElem?_eq_some_iff.mp h1).1)] at h2
  exact h2
 have split:∀ {i:Nat} {ob:O},(g ++ [o])[i]?=some ob->g[i]?=some ob \/ (i=g.length/\ob=o):=fun {i ob} h=>by
  rcases Nat.lt_trichotomy i g.length with q | q | q
  ·rw [List.getElem?_append_left q] at h;exact .inl h
  ·subst q;simp at h;exact .inr ⟨rfl,h.symm⟩
  ·rw [List.getElem?_eq_none (by simp;omega)] at h;cases h
 refine ⟨by simp [R.len],fun i ob a h1 h2=>?_,fun i j o1 o2 a h1 h2 m1 m2 h3 h4=>?_⟩
 ·rcases split h1 with q | ⟨rfl,rfl⟩
  ·have z:=R.obj _ _ _ q (old q h2)
   refine z.upd (fun hm=>?_) (fun ob u z=>by rw [hp] at z;cases z) e
   obtain ⟨u,h1,_⟩:=z.inv hm
   exact p0 h1 hp
  ·rw [R.B7] at h2
   cases h2
   exact .of o9 (r.ext e)
 ·have nq:∀ {i:Nat} {o:O} {a:Addr},g[i]?=some o->o.mut=true->ρ[i]?=some a->a ≠ p:=fun {i o a} h1 hm h2=>by
   obtain ⟨u,z,_⟩:=(R.obj _ _ _ h1 h2).inv hm
   exact p0 z hp
  rcases split h1 with q | ⟨rfl,_⟩
  ·rcases split h2 with q' | ⟨rfl,_⟩
   ·exact R.nd _ _ _ _ _ q q' m1 m2 (old q h3) (old q' h4)
   ·rw [R.B7] at h4;cases h4
    exact absurd rfl (nq q m1 (old q h3))
  ·rcases split h2 with q' | ⟨rfl,_⟩
   ·rw [R.B7] at h3;cases h3
    exact absurd rfl (nq q' m2 (old q' h4))
   ·rfl
theorem Rl.alloc {p:Addr} {l:List D} {vs:List V} (R:Rl K ρ g H) (hp:H p=none) (r:a9 K ρ H l vs):Rl K (ρ ++ [p]) (g ++ [.lst l]) (upd H p (.lst vs)):=R.new hp r
theorem Rl.put {i:Nat} {a:Addr} {o o':O} {u:HO} (R:Rl K ρ g H) (h:g[i]?=some o) (hm:o.mut=true) (ha:ρ[i]?=some a) (r:OH K ρ H o' u) :
  Rl K ρ (g.set i o') (upd H a u)/\Ext ρ H ρ (upd H a u):=by
 obtain ⟨u0,z0,oh0⟩:=(R.obj _ _ _ h ha).inv hm
 have e:Ext ρ H ρ (upd H a u):=⟨⟨[],by simp⟩,fun b xs q=>by rw [j6];exact q;intro z;subst z;rw [z0] at q;cases q;exact oh0.aj7⟩
 refine ⟨⟨by simp [R.len],fun j ob b h1 h2=>?_,fun j k o1 o2 b h1 h2 m1 m2 h3 h4=>?_⟩,e⟩
 ·by_cases hij:i=j
  ·subst hij
   rw [ha] at h2;cases h2
   have hi:i < g.length:=(List.getElem?_eq_some_iff.mp h).1
   rw [List.getElem?_set_self hi] at h1
   cases h1
   exact .of o9 (r.ext e)
  ·rw [List.getElem?_set_ne hij] at h1
   refine (R.obj _ _ _ h1 h2).upd (fun hm' ez=>?_) (fun ob u z=>by rw [z0] at z;cases z;exact oh0.bz7) e
   subst ez
   exact hij (R.nd _ _ _ _ _ h h1 hm hm' ha h2)
 ·have back:∀ {j:Nat} {m:O},(g.set i o')[j]?=some m->m.mut=true->∃ m',g[j]?=some m'/\m'.mut=true:=fun {j m} q hm'=>by
   by_cases hij:i=j
   ·subst hij;exact ⟨o,h,hm⟩
   ·rw [List.getElem?_set_ne hij] at q;exact ⟨m,q,hm'⟩
  obtain ⟨_,q1,n1⟩:=back h1 m1
  obtain ⟨_,q2,n2⟩:=back h2 m2
  exact R.nd _ _ _ _ _ q1 q2 n1 n2 h3 h4
theorem Rl.write {i:Nat} {a:Addr} {l l':List D} {vs:List V} (R:Rl K ρ g H) (h:g[i]?=some (.lst l)) (ha:ρ[i]?=some a) (r:a9 K ρ H l' vs) :
  Rl K ρ (g.set i (.lst l')) (upd H a (.lst vs))/\Ext ρ H ρ (upd H a (.lst vs)):=R.put h rfl ha r
end
structure n4 (K:PySem.W.Frag) (ρ:List Addr) (H:Hp) (σ:S) (σv:St):Prop where
 len:σ.length=σv.length
 val:∀ (i:Nat) d,σ[i]?=some (some d)->∃ v,σv[i]?=some (some v)/\d9 K ρ H d v
section
variable {K:PySem.W.Frag} {ρ ρ':List Addr} {H H':Hp}
theorem n4.ext {σ σv} (e:Ext ρ H ρ' H') (r:n4 K ρ H σ σv):n4 K ρ' H' σ σv:=⟨r.len,fun i d h=>let ⟨v,a,b⟩:=r.val i d h;⟨v,a,b.ext e⟩⟩
theorem n4.set {σ σv d v} (r:n4 K ρ H σ σv) (i:Nat) (h:d9 K ρ H d v):n4 K ρ H (σ.set i (some d)) (σv.set i (some v)):=by
 refine ⟨by simp [r.len],fun j e q=>?_⟩
 by_cases hij:i=j
 ·subst hij
  have hi:i < σ.length:=by
   have:=(List.getElem?_eq_some_iff.mp q).1
   simpa using this
  rw [List.getElem?_set_self hi] at q
  cases q
  exact ⟨v,by rw [List.getElem?_set_self (by rw [<- r.len];exact hi)],h⟩
 ·rw [List.getElem?_set_ne hij] at q ⊢
  exact r.val j e q
theorem n4.start {ds vs} {n:Nat} (r:a9 K ρ H ds vs):n4 K ρ H (ds.map some ++ List.replicate (n - ds.length) none) (vs.map some ++ List.replicate (n - vs.length) none):=by
 refine ⟨by simp [r.length],fun i d h=>?_⟩
 by_cases hi:i < ds.length
 ·rw [List.getElem?_append_left (by simpa using hi),List.getElem?_map] at h
  cases e:ds[i]? with
  | none=>rw [e] at h;cases h
  | some x =>
   rw [e] at h
   cases h
   obtain ⟨v,h1,h2⟩:=r.get e
   refine ⟨v,?_,h2⟩
   rw [List.getElem?_append_left (by rw [List.length_map,<- r.length];exact hi),List.getElem?_map,h1]
   rfl
 ·rw [List.getElem?_append_right (by simpa using hi),List.getElem?_replicate] at h
  split at h <;> cases h
theorem n4.i6 {σ σv} (r:n4 K ρ H σ σv) (i6:List Nat) (n:Nat):n4 K ρ H (Y8 σ i6 n) (E7 σv i6 n):=by
 refine ⟨by simp [Y8,E7],fun i d h=>?_⟩
 unfold Y8 at h
 unfold E7
 by_cases hi:i < i6.length
 ·rw [List.getElem?_append_left (by simpa using hi),List.getElem?_map,List.getElem?_eq_getElem hi] at h
  rw [List.getElem?_append_left (by simpa using hi),List.getElem?_map,List.getElem?_eq_getElem hi]
  simp only [Option.map_some] at h ⊢
  cases e:σ[i6[i]]? with
  | none=>rw [e] at h;cases h
  | some x =>
   rw [e] at h
   have hx:x=some d:=Option.some.inj h
   subst hx
   obtain ⟨v,h1,h2⟩:=r.val _ _ e
   exact ⟨v,by rw [h1];rfl,h2⟩
 ·rw [List.getElem?_append_right (by simpa using hi),List.getElem?_replicate] at h
  split at h <;> cases h
end
end M

namespace M
open PySem L2 PySem.Spec PyProof.Rows
noncomputable def LQ (K:PySem.W.Frag) (ρ:List Addr) (H:Hp) (Q:VK):KD:=fun d g'=>∀ ρ' H' v,Ext ρ H ρ' H'->Rl K ρ' g' H'->d9 K ρ' H' d v->Q v H'
theorem LQ.ext {K ρ H ρ1 H1 Q d g} (e:Ext ρ H ρ1 H1) (h:LQ K ρ H Q d g):LQ K ρ1 H1 Q d g:=fun ρ' H' v e' R r=>h ρ' H' v (e.trans e') R r
theorem LQ.now {K ρ H Q d g v} (h:LQ K ρ H Q d g) (R:Rl K ρ g H) (r:d9 K ρ H d v):Q v H:=h ρ H v (.refl _ _) R r
theorem LQ.new {K ρ H Q} {g:G} {l:List D} {vs:List V} {p:Addr} (h:LQ K ρ H Q (.ref g.length) (g ++ [.lst l])) (R:Rl K ρ g H) (hp:H p=none) (r:a9 K ρ H l vs):Q (.ref p) (upd H p (.lst vs)) :=
 h (ρ ++ [p]) _ _ (T4 hp) (R.alloc hp r) (.ref (R.B7 p))
theorem LQ.tup {K ρ H Q} {g:G} {l:List D} {vs:List V} {p:Addr} (h:LQ K ρ H Q (.tup l) g) (R:Rl K ρ g H) (hp:H p=none) (r:a9 K ρ H l vs):Q (.ref p) (upd H p (.tup vs)) :=
 h ρ _ _ (u6 hp) (R.grow hp) (.tup (.inl o9) (r.ext (u6 hp)))
noncomputable def r2 (K:PySem.W.Frag) (p:Pr):R2:=fun x y H Q=>∃ d e g ρ,Rl K ρ g H/\d9 K ρ H d x/\d9 K ρ H e y/\prP p [d,e] g (LQ K ρ H Q)
noncomputable def r1 (K:PySem.W.Frag) (p:Pr):V->Hp->VK->Prop:=fun x H Q=>∃ d g ρ,Rl K ρ g H/\d9 K ρ H d x/\prP p [d] g (LQ K ρ H Q)
noncomputable def rN (K:PySem.W.Frag) (p:Pr):List V->Hp->VK->Prop:=fun xs H Q=>∃ ds g ρ,Rl K ρ g H/\a9 K ρ H ds xs/\prP p ds g (LQ K ρ H Q)
theorem m9 {n:Nat} (h:n <= 100000):n <= sizeLine:=Nat.le_trans h (by decide)
theorem am9 {n:Nat} (h:n < 100000):n < sizeLine:=Nat.lt_of_lt_of_le h (by decide)
theorem d9.k9 {K ρ H i v} (h:d9 K ρ H (.int i) v):v=.int i:=by cases h;rfl
theorem d9.N5 {K ρ H i v} (h:d9 K ρ H (.str i) v):v=.str i:=by cases h;rfl
theorem d9.J9 {K ρ H i v} (h:d9 K ρ H (.bl i) v):v=.bl i:=by cases h;rfl
theorem d9.aj6 {K ρ H v} (h:d9 K ρ H .non v):v=.non:=by cases h;rfl
theorem d9.bv0 {K ρ H n v} (h:d9 K ρ H (.ty n) v):v=.ty n:=by cases h;rfl
theorem d9.l9 {K ρ H i v} (h:d9 K ρ H (.ref i) v):∃ a,v=.ref a/\ρ[i]?=some a:=by cases h;exact ⟨_,rfl,by assumption⟩
theorem d9.A2 {K ρ H l v} (h:d9 K ρ H (.tup l) v):∃ a vs,v=.ref a/\TupAt K H a vs/\a9 K ρ H l vs:=by cases h;exact ⟨_,_,rfl,by assumption,by assumption⟩
theorem a9.one {K ρ H d vs} (h:a9 K ρ H [d] vs):∃ v,vs=[v]/\d9 K ρ H d v:=by
 cases h with
 | cons r rr=>cases rr;exact ⟨_,rfl,r⟩
theorem a9.two {K ρ H d e vs} (h:a9 K ρ H [d,e] vs):∃ v w,vs=[v,w]/\d9 K ρ H d v/\d9 K ρ H e w:=by
 cases h with
 | cons r rr=>obtain ⟨w,rfl,q⟩:=rr.one;exact ⟨_,_,rfl,r,q⟩
theorem w5 {a b c d:D} (h:[a,b]=[c,d]):a=c/\b=d:=by cases h;exact ⟨rfl,rfl⟩
section
variable {X:Cx}
theorem bq1 (op:Operator):OpR X (binaryOp op) (r2 X.K (.bin op)):=by
 intro pins s σ H x y v u Q I rx ry h
 obtain ⟨d,e,g,ρ,R,rd,re,d',g',h,q⟩:=h
 rcases h with ⟨i,j,r,ex,ha,rfl,rfl⟩ | ⟨rfl,h⟩ | ⟨rfl,h⟩
 ·obtain ⟨rfl,rfl⟩:=w5 ex
  obtain rfl:=rd.k9
  obtain rfl:=re.k9
  have fin:=q.now R (.int r)
  cases op <;> first | exact (show False from ha).elim | skip
  ·cases ha;exact bq2 pins s σ H _ _ v u Q I rx ry ⟨i,j,rfl,rfl,fin⟩
  ·cases ha;exact bp4 pins s σ H _ _ v u Q I rx ry ⟨i,j,rfl,rfl,fin⟩
  ·obtain ⟨hc,rfl⟩:=ha;exact bp7 pins s σ H _ _ v u Q I rx ry ⟨i,j,rfl,rfl,hc,fin⟩
  ·obtain ⟨hc,rfl⟩:=ha;exact bp8 pins s σ H _ _ v u Q I rx ry ⟨i,j,rfl,rfl,hc,fin⟩
  ·obtain ⟨hc,rfl⟩:=ha;exact bp6 pins s σ H _ _ v u Q I rx ry ⟨i,j,rfl,rfl,hc,fin⟩
  ·obtain ⟨hc,rfl⟩:=ha;exact be2 pins s σ H _ _ v u Q I rx ry ⟨i,j,rfl,rfl,hc,fin⟩
 ·rcases h with ⟨l,m,ex,hz,rfl,rfl⟩ | ⟨a,b,l,m,ex,ha,hb,hz,rfl,rfl⟩ | ⟨x',y',ex,hz,rfl,rfl⟩
  ·obtain ⟨rfl,rfl⟩:=w5 ex
   obtain ⟨a,vs,rfl,ta,rs⟩:=rd.A2
   obtain ⟨b,ws,rfl,tb,rt⟩:=re.A2
   refine aX3 pins s σ H _ _ v u Q I rx ry ⟨a,b,vs,ws,rfl,rfl,ta.sq,tb.sq,?_,fun z=>?_,fun z=>?_,fun p hp=>q.tup R hp (rs.append rt)⟩
   ·rw [<- rs.length,<- rt.length];exact m9 hz
   ·subst z
    cases rs
    exact q.now R (.tup tb rt)
   ·subst z
    cases rt
    rw [List.append_nil] at q
    exact q.now R (.tup ta rs)
  ·obtain ⟨rfl,rfl⟩:=w5 ex
   obtain ⟨a',rfl,ra⟩:=rd.l9
   obtain ⟨b',rfl,rb⟩:=re.l9
   obtain ⟨vs,z1,rs⟩:=R.lst ha ra
   obtain ⟨ws,z2,rt⟩:=R.lst hb rb
   exact bq0 pins s σ H _ _ v u Q I rx ry ⟨_,_,vs,ws,rfl,rfl,z1,z2,by rw [<- rs.length,<- rt.length];exact m9 hz,fun p hp=>q.new R hp (rs.append rt)⟩
  ·obtain ⟨rfl,rfl⟩:=w5 ex
   obtain rfl:=rd.N5
   obtain rfl:=re.N5
   exact aG9 pins s σ H _ _ v u Q I rx ry ⟨_,_,rfl,rfl,m9 hz,q.now R (.str _)⟩
 ·rcases h with ⟨a,l,n,ex,ha,h1,h2,hz,rfl,rfl⟩ | ⟨l,n,ex,hne,h1,h2,hz,rfl,rfl⟩
  rotate_left
  ·obtain ⟨rfl,rfl⟩:=w5 ex
   obtain ⟨a',vs,rfl,ta,rs⟩:=rd.A2
   obtain rfl:=re.k9
   refine be0 pins s σ H _ _ v u Q I rx ry ⟨_,_,vs,rfl,rfl,ta.sq,fun z=>?_,h1,h2,by rw [<- rs.length];exact m9 hz,fun z=>?_,fun p hp=>q.tup R hp (rs.rep _)⟩
   ·subst z
    cases rs
    exact hne rfl
   ·subst z
    have:(List.replicate (Int.toNat 1) l).flatten=l:=by simp
    rw [this] at q
    exact q.now R (.tup ta rs)
  obtain ⟨rfl,rfl⟩:=w5 ex
  obtain ⟨a',rfl,ra⟩:=rd.l9
  obtain rfl:=re.k9
  obtain ⟨vs,z1,rs⟩:=R.lst ha ra
  exact bp5 pins s σ H _ _ v u Q I rx ry ⟨_,_,vs,rfl,rfl,z1,by omega,by omega,by rw [<- rs.length];exact m9 hz,fun p hp=>q.new R hp (rs.rep _)⟩
theorem bz2 (op:UnaryOp):UnR X (unaryOp op) (r1 X.K (.un op)):=by
 intro pins s σ H x v Q I rx h
 obtain ⟨d,g,ρ,R,rd,d',g',⟨rfl,i,ex,rfl,rfl⟩,q⟩:=h
 cases ex
 obtain rfl:=rd.k9
 exact bi4 pins s σ H _ v Q I rx ⟨_,rfl,q.now R (.int _)⟩
mutual
theorem K6 {ρ:List Addr} {g:G} {H:Hp} {pins:List (Addr × Obj)} {σ:L2.St} {s:Shared} (I:Inv X pins σ H s) (R:Rl X.K ρ g H):∀ (n:Nat) {d:D} {v:V} {u:Value} {p:PyData},rd g n d=some p->d9 X.K ρ H d v->RelV v u->∃ as,Reads s.heap u p as/\p.depth <= n
 | n,.non,_,_,_,h,.non,ru=>by
  cases n <;> (simp only [rd] at h;cases h;cases ru;exact ⟨_,.none,Nat.zero_le _⟩)
 | n,.bl b,_,_,_,h,.bl _,ru=>by
  cases n <;> (simp only [rd] at h;cases h;cases ru;exact ⟨_,.bool b,Nat.zero_le _⟩)
 | n,.int i,_,_,_,h,.int _,ru=>by
  cases n <;> (simp only [rd] at h;cases h;obtain ⟨t,rfl⟩:=ru;exact ⟨_,.int i t,Nat.zero_le _⟩)
 | n,.str x,_,_,_,h,.str _,ru=>by
  cases n <;> (simp only [rd] at h;cases h;obtain ⟨t,rfl⟩:=ru;exact ⟨_,.str x t,Nat.zero_le _⟩)
 | n,.ty x,_,_,_,h,.ty _,ru=>by
  cases n <;> (simp only [rd] at h;cases h)
 | 0,.ref _,_,_,_,h,_,_=>by simp only [rd] at h;cases h
 | 0,.tup _,_,_,_,h,_,_=>by simp only [rd] at h;cases h
 | n + 1,.ref a,_,_,p,h,.ref ha,ru=>by
  simp only [rd] at h
  cases e:i4 g a with
  | none=>rw [e] at h;cases h
  | some l =>
   rw [e] at h
   dsimp only at h
   cases e2:l.mapM (rd g n) with
   | none=>rw [e2] at h;cases h
   | some ps =>
    rw [e2] at h
    cases h
    cases ru
    obtain ⟨vs,hq,rs⟩:=R.items e ha
    obtain ⟨its,rv,p,hz⟩:=I.list hq
    obtain ⟨as,q,hd⟩:=U5 I R n e2 rs rv
    obtain ⟨o,ho,hc,k,hdat⟩:=p.isList
    refine ⟨_,.list ho hc hdat (by simpa using q),?_⟩
    simp only [PyData.depth]
    omega
 | n + 1,.tup l,_,_,p,h,.tup ht rs,ru=>by
  simp only [rd] at h
  cases e2:l.mapM (rd g n) with
  | none=>rw [e2] at h;cases h
  | some ps =>
   rw [e2] at h
   cases h
   cases ru
   obtain ⟨its,rv,pt,hz⟩:=I.tuple ht.sq
   obtain ⟨as,q,hd⟩:=U5 I R n e2 rs rv
   obtain ⟨o,ho,hc,k,hdat⟩:=id pt
   refine ⟨_,.tuple ho hc hdat (by simpa using q),?_⟩
   simp only [PyData.depth]
   omega
theorem U5 {ρ:List Addr} {g:G} {H:Hp} {pins:List (Addr × Obj)} {σ:L2.St} {s:Shared} (I:Inv X pins σ H s) (R:Rl X.K ρ g H):∀ (n:Nat) {l:List D} {vs:List V} {us:List Value} {ps:List PyData},l.mapM (rd g n)=some ps->a9 X.K ρ H l vs->Vals vs us ->
  ∃ as,ReadsAll s.heap us ps as/\PyData.depthAll ps <= n
 | n,[],_,_,_,h,.nil,.nil=>by
  simp at h;subst h
  exact ⟨_,.nil,Nat.zero_le _⟩
 | n,d :: l,_,_,ps,h,.cons rd' rs,.cons ru rv=>by
  rw [List.mapM_cons] at h
  cases e:rd g n d with
  | none=>rw [e] at h;cases h
  | some p =>
   rw [e] at h
   cases e2:l.mapM (rd g n) with
   | none=>rw [e2] at h;cases h
   | some qs =>
    rw [e2] at h
    cases h
    obtain ⟨as,q1,d1⟩:=K6 I R n e rd' ru
    obtain ⟨bs,q2,d2⟩:=U5 I R n e2 rs rv
    refine ⟨_,.cons q1 q2,?_⟩
    simp only [PyData.depthAll]
    omega
end
end
section
variable {X:Cx}
theorem ad9 {α:Type} [BEq α] [LawfulBEq α] [DecidableEq α] (a b:α):decide (a=b)=(a == b):=by
 by_cases e:a=b
 ·subst e;simp
 ·rw [decide_eq_false e];exact (beq_eq_false_iff_ne.mpr e).symm
theorem ac9 {K ρ H} {d:D} {v:V} {c:Key} (h:Y0 d=some c) (r:d9 K ρ H d v):v=kV c:=by
 cases r <;> first | (cases h;rfl) | cases h
theorem Z2.some {K ρ H} {o:Option V} {d:D} (h:Z2 K ρ H (some d) o):∃ v,o=some v/\d9 K ρ H d v:=by
 cases o with
 | none=>exact h.elim
 | some v=>exact ⟨v,rfl,h⟩
theorem Z2.isSome {K ρ H} {o:Option V} {d:Option D} (h:Z2 K ρ H d o):d.isSome=o.isSome:=by
 cases o <;> cases d <;> first | rfl | exact h.elim
theorem a77 {pins:List (Addr × Obj)} {s:Shared} {σ:L2.St} {H:Hp} {ρ:List Addr} {g:G} {d e:D} {x y:V} {v u:Value} {b:Bool} {Q:VK} (hu:X.A.units + 100 < cLine) (I:Inv X pins σ H s) (rx:RelV x v) (ry:RelV y u) (R:Rl X.K ρ g H) (rd':d9 X.K ρ H d x) (re:d9 X.K ρ H e y) (h:eqR g d e b) (neg:Bool)
  (q:Q (.bl (xor neg b)) H):wpAny (model X.prog X.w) X.A (compareOp (if neg then .NotEq else .Eq) v u) (EP X pins σ Q) X.xe s:=by
 rcases h with ⟨i,j,rfl,rfl,rfl⟩ | ⟨i,j,rfl,rfl,rfl⟩ | ⟨i,j,rfl,rfl,rfl⟩ | ⟨p,p',h1,h2,c1,c2,rfl⟩
 ·obtain rfl:=rd'.k9
  obtain rfl:=re.k9
  cases neg
  ·exact aG8 pins s σ H _ _ v u Q I rx ry ⟨rfl,by rw [ad8];simpa [ad9] using q⟩
  ·exact aG7 pins s σ H _ _ v u Q I rx ry ⟨rfl,by rw [ad8];simpa [ad9] using q⟩
 ·obtain rfl:=rd'.J9
  obtain rfl:=re.J9
  cases neg
  ·exact aG8 pins s σ H _ _ v u Q I rx ry ⟨rfl,by rw [al0];simpa using q⟩
  ·exact aG7 pins s σ H _ _ v u Q I rx ry ⟨rfl,by rw [al0];simpa using q⟩
 ·obtain rfl:=rd'.N5
  obtain rfl:=re.N5
  cases neg
  ·exact aG8 pins s σ H _ _ v u Q I rx ry ⟨rfl,by rw [ad7];simpa [ad9] using q⟩
  ·exact aG7 pins s σ H _ _ v u Q I rx ry ⟨rfl,by rw [ad7];simpa [ad9] using q⟩
 ·obtain ⟨as,q1,d1⟩:=K6 I R 6 h1 rd' rx
  obtain ⟨bs,q2,d2⟩:=K6 I R 6 h2 re ry
  have hr:X.A.units + min p.depth p'.depth < cLine:=by omega
  cases neg
  ·exact SeqAt.compareEq_reads q1 q2 c1 c2 hr ⟨.bl _,H,I,rfl,by simpa using q⟩
  ·exact SeqAt.compareNe_reads q1 q2 c1 c2 hr ⟨.bl _,H,I,rfl,by simpa using q⟩
theorem in_of {pins:List (Addr × Obj)} {s:Shared} {σ:L2.St} {H:Hp} {ρ:List Addr} {g:G} {d e:D} {x y:V} {v u:Value} {b:Bool} {Q:VK} (hu:X.A.units + 100 < cLine) (I:Inv X pins σ H s) (rx:RelV x v) (ry:RelV y u) (R:Rl X.K ρ g H) (rd':d9 X.K ρ H d x) (re:d9 X.K ρ H e y) (h:inR g d e b) (neg:Bool)
  (q:Q (.bl (xor neg b)) H):wpAny (model X.prog X.w) X.A (compareOp (if neg then .NotIn else .In) v u) (EP X pins σ Q) X.xe s:=by
 rcases h with ⟨a,kvs,c,rfl,ha,hc,rfl⟩ | ⟨l,ps,p,h0,h1,h2,c1,c2,rfl⟩
 ·obtain ⟨a',rfl,ra⟩:=re.l9
  obtain ⟨vs,z,rs⟩:=R.dic ha ra
  have:=ac9 hc rd'
  subst this
  cases ry
  rw [(rs.val c).isSome] at q
  cases neg
  ·exact bO7 (by omega) I (U8.k z) rx fun s' I'=>⟨.bl _,H,I',rfl,by simpa using q⟩
  ·exact bg5 (by omega) I (U8.k z) rx fun s' I'=>⟨.bl _,H,I',rfl,by simpa using q⟩
 ·obtain ⟨as,q1,d1⟩:=K6 I R 6 h2 rd' rx
  cases e with
  | tup m =>
   cases h0
   have h3:rd g 7 (.tup l)=some (.tuple ps):=by simp only [rd];rw [show l.mapM (rd g 6)=some ps from h1];rfl
   obtain ⟨bs,q2,d2⟩:=K6 I R 7 h3 re ry
   have hr:X.A.units + 1 + min (PyData.depthAll ps) p.depth < cLine:=by omega
   cases neg
   ·exact SeqAt.in_tuple_reads q2 q1 c1 c2 hr ⟨.bl _,H,I,rfl,by simpa using q⟩
   ·exact SeqAt.notIn_tuple_reads q2 q1 c1 c2 hr ⟨.bl _,H,I,rfl,by simpa using q⟩
  | ref a =>
   have h3:rd g 7 (.ref a)=some (.list ps):=by
    simp only [rd]
    rw [show i4 g a=some l from h0]
    dsimp only
    rw [show l.mapM (rd g 6)=some ps from h1]
    rfl
   obtain ⟨bs,q2,d2⟩:=K6 I R 7 h3 re ry
   have hr:X.A.units + 1 + min (PyData.depthAll ps) p.depth < cLine:=by omega
   cases neg
   ·exact SeqAt.in_list_reads q2 q1 c1 c2 hr ⟨.bl _,H,I,rfl,by simpa using q⟩
   ·exact SeqAt.notIn_list_reads q2 q1 c1 c2 hr ⟨.bl _,H,I,rfl,by simpa using q⟩
  | _=>cases h0
theorem V4 (hu:X.A.units + 100 < cLine) (op:CmpOp):OpR X (compareOp op) (r2 X.K (.cmp op)):=by
 intro pins s σ H x y v u Q I rx ry h
 obtain ⟨d,e,g,ρ,R,rd',re,d',g',⟨x',y',b,ex,h,rfl,rfl⟩,q⟩:=h
 obtain ⟨rfl,rfl⟩:=w5 ex
 have fin:=q.now R (.bl b)
 have intz:∀ {P:Int->Int->Bool},(∃ i j,d=.int i/\e=.int j/\b=P i j)->∃ i j,x=.int i/\y=.int j/\b=P i j:=fun hh=>by
  obtain ⟨i,j,z1,z2,z3⟩:=hh
  exact ⟨i,j,(z1 ▸ rd').k9,(z2 ▸ re).k9,z3⟩
 cases op
 ·exact a77 hu I rx ry R rd' re h false (by simpa using fin)
 ·exact a77 hu I rx ry R rd' re h true (by simpa using fin)
 ·obtain ⟨i,j,e1,e2,e3⟩:=intz (P:=fun i j=>decide (i < j)) h
  exact bz3 pins s σ H _ _ v u Q I rx ry ⟨i,j,e1,e2,by subst e3;exact fin⟩
 ·obtain ⟨i,j,e1,e2,e3⟩:=intz (P:=fun i j=>decide (i <= j)) h
  exact bz4 pins s σ H _ _ v u Q I rx ry ⟨i,j,e1,e2,by subst e3;exact fin⟩
 ·obtain ⟨i,j,e1,e2,e3⟩:=intz (P:=fun i j=>decide (j < i)) h
  exact bz5 pins s σ H _ _ v u Q I rx ry ⟨i,j,e1,e2,by subst e3;exact fin⟩
 ·obtain ⟨i,j,e1,e2,e3⟩:=intz (P:=fun i j=>decide (j <= i)) h
  exact bz6 pins s σ H _ _ v u Q I rx ry ⟨i,j,e1,e2,by subst e3;exact fin⟩
 ·obtain ⟨rfl,rfl⟩:=(show _/\_ from h)
  obtain rfl:=re.aj6
  refine bp9 pins s σ H _ _ v u Q I rx ry ⟨rfl,?_⟩
  have e:U3 d=decide (x=V.non):=by cases rd' <;> simp [U3]
  rw [<- e];exact fin
 ·obtain ⟨rfl,rfl⟩:=(show _/\_ from h)
  obtain rfl:=re.aj6
  refine be1 pins s σ H _ _ v u Q I rx ry ⟨rfl,?_⟩
  have e:U3 d=decide (x=V.non):=by cases rd' <;> simp [U3]
  rw [<- e];exact fin
 ·exact in_of hu I rx ry R rd' re h false (by simpa using fin)
 ·exact in_of hu I rx ry R rd' re h true (by simpa using fin)
theorem empty_eq {K ρ H} {l:List D} {vs:List V} (r:a9 K ρ H l vs):l.isEmpty=vs.isEmpty:=by cases r <;> rfl
theorem bi8 {K:PySem.W.Frag} {ρ:List Addr} {g:G} {H:Hp} {d:D} {x:V} {b:Bool} (R:Rl K ρ g H) (r:d9 K ρ H d x) (h:bi9 g d b):a15 K x H b:=by
 rcases h with ⟨rfl,rfl⟩ | rfl | ⟨i,rfl,rfl⟩ | ⟨l,rfl,rfl⟩ | ⟨a,l,rfl,hl,rfl⟩
 ·obtain rfl:=r.aj6;rfl
 ·obtain rfl:=r.J9;rfl
 ·obtain rfl:=r.k9;rfl
 ·obtain ⟨a,vs,rfl,ht,rs⟩:=r.A2
  exact .inr (.inl ⟨_,ht.sq,by rw [empty_eq rs]⟩)
 ·obtain ⟨a',rfl,ha⟩:=r.l9
  obtain ⟨vs,hq,rs⟩:=R.items hl ha
  exact .inl ⟨_,hq,by rw [empty_eq rs]⟩
theorem bh2 {K ρ H} {l:List D} {vs:List V} {i:Int} {d:D} (r:a9 K ρ H l vs) (h:atI l i=some d):∃ v,atI vs i=some v/\d9 K ρ H d v:=by
 unfold atI at h ⊢
 rw [<- r.length]
 cases e:ixN l.length i with
 | none=>rw [e] at h;cases h
 | some j =>
  rw [e] at h
  exact r.get h
theorem aj3 {K ρ H} {g:G} {x:D} {v:V} {l:List D} (R:Rl K ρ g H) (r:d9 K ρ H x v) (h:B1 g x=some l):∃ a vs,v=.ref a/\a9 K ρ H l vs/\((∃ i,x=.ref i/\ρ[i]?=some a)/\SqL K H a vs \/ x=.tup l/\TupAt K H a vs):=by
 cases r with
 | tup ht rs=>cases h;exact ⟨_,_,rfl,rs,.inr ⟨rfl,ht⟩⟩
 | ref ha=>obtain ⟨vs,hq,rs⟩:=R.items h ha;exact ⟨_,_,rfl,rs,.inl ⟨⟨_,rfl,ha⟩,hq⟩⟩
 | _=>cases h
theorem bA7 (hu:X.A.units + 100 < cLine):IxR X (r2 X.K .ix):=by
 intro value slice pins s σ H x y v u Q I rx ry h hs
 obtain ⟨d,e,g,ρ,R,rd',re,d',g',⟨rfl,h⟩,q⟩:=h
 rcases h with ⟨x',l,i,ex,hl,ha⟩ | ⟨a,kvs,y',c,ex,ha,hc,hv⟩ | ⟨x',i,c,ex,h0,h1,rfl⟩
 ·obtain ⟨rfl,rfl⟩:=w5 ex
  obtain rfl:=re.k9
  obtain ⟨a,vs,rfl,rs,h⟩:=aj3 R rd' hl
  obtain ⟨w,hw,rw'⟩:=bh2 rs ha
  rcases h with ⟨_,hq⟩ | ⟨_,ht⟩
  ·exact bf3 value slice pins s σ H _ _ v u Q I rx ry ⟨_,_,i,w,rfl,rfl,hq,hw,q.now R rw'⟩ hs
  ·exact br8 value slice pins s σ H _ _ v u Q I rx ry ⟨_,_,i,w,rfl,rfl,ht.sq,hw,q.now R rw'⟩ hs
 ·obtain ⟨rfl,rfl⟩:=w5 ex
  obtain ⟨a',rfl,ra⟩:=rd'.l9
  obtain ⟨vs,z,rs⟩:=R.dic ha ra
  have:=ac9 hc re
  subst this
  have q2:=rs.val c
  rw [hv] at q2
  obtain ⟨w,hw,rw'⟩:=q2.some
  exact bf4 (by omega) value slice pins s σ H _ _ v u Q I rx ry ⟨_,w,rfl,by have:=U8.k (k:=c) z;rw [hw] at this;exact this,q.now R rw'⟩ hs
 ·obtain ⟨rfl,rfl⟩:=w5 ex
  obtain rfl:=rd'.N5
  obtain rfl:=re.k9
  exact br9 value slice pins s σ H _ _ v u Q I rx ry ⟨x',i,c,rfl,rfl,m9 h0,h1,q.now R (.str _)⟩ hs
end
end M

namespace M
open PySem L2 PySem.Spec PyProof.Rows
section
variable {X:Cx}
noncomputable def rSl (K:PySem.W.Frag):V->Option Int->Option Int->Hp->VK->Prop:=fun x lo hi H Q=>∃ d g ρ d' g',Rl K ρ g H/\d9 K ρ H d x/\slR d lo hi g d' g'/\LQ K ρ H Q d' g'
theorem aF9:SlR X (rSl X.K):=by
 intro pins s σ H x v vl vu lo hi sl Q I rx hs pl pu h
 obtain ⟨d,g,ρ,d',g',R,rd',h,q⟩:=h
 rcases h with ⟨l,rfl,rfl,rfl⟩ | ⟨a,l,rfl,hl,rfl,rfl⟩
 ·obtain ⟨a,vs,rfl,ht,rs⟩:=rd'.A2
  refine ba4 pins s σ H _ v vl vu lo hi sl Q I rx hs pl pu ⟨_,_,rfl,ht.sq,fun z=>?_,fun p hp=>q.tup R hp (rs.cut lo hi)⟩
  refine q.now R (.tup ht ?_)
  have:=rs.cut lo hi
  rw [z] at this
  exact this
 ·obtain ⟨a',rfl,ha⟩:=rd'.l9
  obtain ⟨vs,hq,rs⟩:=R.items hl ha
  exact ba5 pins s σ H _ v vl vu lo hi sl Q I rx hs pl pu ⟨_,_,rfl,hq,fun p hp=>q.new R hp (rs.cut lo hi)⟩
noncomputable def bL6 (K:PySem.W.Frag):V->V->V->Hp->(Hp->Prop)->Prop:=fun o i v H Q=>∃ do' di dv g ρ,Rl K ρ g H/\d9 K ρ H do' o/\d9 K ρ H di i/\d9 K ρ H dv v/\ag1 do' di dv g (fun g'=>∀ ρ' H',Ext ρ H ρ' H'->Rl K ρ' g' H'->Q H')
theorem bl1 (hu:X.A.units + 100 < cLine):a18 X (bL6 X.K):=by
 intro pins s σ H o i v ov iv u Q I ro ri rv h
 obtain ⟨do',di,dv,g,ρ,R,r1,r2,r3,g',h,q⟩:=h
 rcases h with ⟨a,i',l,j,rfl,rfl,hl,hj,rfl⟩ | ⟨a,kvs,c,rfl,ha,hc,hz,rfl⟩
 ·obtain ⟨a',rfl,ha⟩:=r1.l9
  obtain rfl:=r2.k9
  obtain ⟨vs,z,rs⟩:=R.lst hl ha
  obtain ⟨R',e'⟩:=R.write hl ha (rs.set r3 j)
  exact set_list pins s σ H _ _ _ ov iv u Q I ro ri rv ⟨_,vs,_,j,rfl,rfl,z,by rw [<- rs.length];exact hj,q ρ _ e' R'⟩
 ·obtain ⟨a',rfl,ra⟩:=r1.l9
  obtain ⟨vs,z,rs⟩:=R.dic ha ra
  have:=ac9 hc r2
  subst this
  obtain ⟨R',e'⟩:=R.put (o':=.dic (putD kvs c dv)) (u:=.dK (putK vs c v)) ha rfl ra (rs.put r3)
  cases ro
  exact aR7 (by omega) I (aK6.k z (by rw [<- rs.length];exact am9 hz)) ri rv fun s' I'=>⟨_,I',q ρ _ e' R'⟩
theorem br1:t6 X (.builtin "len") (rN X.K .len):=by
 intro pins s σ H xs us Q I r h
 obtain ⟨ds,g,ρ,R,rs,d',g',⟨rfl,h⟩,q⟩:=h
 rcases h with ⟨x,l,rfl,hl,rfl⟩ | ⟨a,kvs,rfl,ha,rfl⟩ | ⟨x,rfl,hz,rfl⟩
 ·obtain ⟨v,rfl,rv⟩:=rs.one
  obtain ⟨a,vs,rfl,rl,h⟩:=aj3 R rv hl
  refine az1 pins s σ H _ us Q I r ⟨_,_,rfl,?_,by rw [<- rl.length];exact q.now R (.int _)⟩
  exact h.imp (fun z=>z.2) (fun z=>z.2.sq)
 ·obtain ⟨v,rfl,rv⟩:=rs.one
  obtain ⟨a',rfl,ra⟩:=rv.l9
  obtain ⟨vs,z,rk⟩:=R.dic ha ra
  exact aS2 pins s σ H _ us Q I r ⟨_,_,rfl,z,by rw [<- rk.length];exact q.now R (.int _)⟩
 ·obtain ⟨v,rfl,rv⟩:=rs.one
  obtain rfl:=rv.N5
  exact az0 pins s σ H _ us Q I r ⟨_,rfl,m9 hz,q.now R (.int _)⟩
theorem bf1:t6 X (.type "list") (rN X.K .list):=by
 intro pins s σ H xs us Q I r h
 obtain ⟨ds,g,ρ,R,rs,d',g',⟨x,l,rfl,hl,rfl,rfl⟩,q⟩:=h
 obtain ⟨v,rfl,rv⟩:=rs.one
 obtain ⟨a,vs,rfl,rl,h⟩:=aj3 R rv hl
 exact ay9 pins s σ H _ us Q I r ⟨_,_,rfl,h.imp (fun z=>z.2) (fun z=>z.2.sq),fun p hp=>q.new R hp rl⟩
theorem aT6:t6 X (.type "tuple") (rN X.K .tuple):=by
 intro pins s σ H xs us Q I r h
 obtain ⟨ds,g,ρ,R,rs,d',g',⟨x,l,rfl,hl,rfl,rfl⟩,q⟩:=h
 obtain ⟨v,rfl,rv⟩:=rs.one
 obtain ⟨a,vs,rfl,rl,h⟩:=aj3 R rv hl
 refine as3 pins s σ H _ us Q I r ⟨a,vs,rfl,?_⟩
 exact h.imp (fun z=>⟨z.2,fun p hp=>q.tup R hp rl⟩) (fun z=>⟨z.2.sq,q.now R (.tup z.2 rl)⟩)
theorem bf5:t6 X (.builtin "isinstance") (rN X.K .isin):=by
 intro pins s σ H xs us Q I r h
 obtain ⟨ds,g,ρ,R,rs,d',g',⟨x,c,b,rfl,hc,hb,rfl,rfl⟩,q⟩:=h
 obtain ⟨v,w,rfl,r1,r2⟩:=rs.two
 obtain rfl:=r2.bv0
 have fin:=q.now R (.bl b)
 have go:∀ (t:Value) (v:V),TyOf X.K H v t->PySem.W.kitOne X.K t (.type c)=some b->Vals [v,V.ty c] us->wpAny (model X.prog X.w) X.A (call (.builtin "isinstance") us) (EP X pins σ Q) X.xe s :=
  fun t v ht hk r=>aB3 pins s σ H _ us Q I r ⟨v,t,c,b,rfl,ht,hk,fin⟩
 simp only [List.mem_cons,List.mem_nil_iff,or_false] at hc
 cases r1 with
 | non=>refine go _ _ .non ?_ r;cases hb;rcases hc with rfl | rfl | rfl | rfl | rfl <;> rfl
 | bl y=>refine go _ _ (.bl y) ?_ r;cases hb;rcases hc with rfl | rfl | rfl | rfl | rfl <;> rfl
 | int y=>refine go _ _ (.int y) ?_ r;cases hb;rcases hc with rfl | rfl | rfl | rfl | rfl <;> rfl
 | str y=>refine go _ _ (.str y) ?_ r;cases hb;rcases hc with rfl | rfl | rfl | rfl | rfl <;> rfl
 | ty _=>cases hb
 | tup ht rs =>
  cases hb
  rcases ht with ht | ht
  ·refine go _ _ (.tup ht) ?_ r;rcases hc with rfl | rfl | rfl | rfl | rfl <;> rfl
  ·obtain ⟨o,its,n,lk,hcl,_⟩:=ht
   obtain ⟨u,w',rfl,ru,rw'⟩:=vals2 r
   cases (show w'=Value.type c from rw')
   cases ru
   have hk:PySem.W.kitOne X.K (.type "tuple") (.type c)=some (c == "tuple"):=by rcases hc with rfl | rfl | rfl | rfl | rfl <;> rfl
   exact PySem.W.kia_one PySem.W.kitx_tuple I.kIn ⟨o,I.kIn _ _ lk,hcl⟩ hk (fun z=>nomatch z) fun tk=>⟨.bl _,H,I.tok tk,rfl,fin⟩
 | @ref i a ha =>
  have hb2:∃ m,g'[i]?=some (.lst m)/\b=(c == "list"):=by
   simp only [ag7] at hb
   split at hb
   ·exact ⟨_,by assumption,(Option.some.inj hb).symm⟩
   ·cases hb
  obtain ⟨m,e,rfl⟩:=hb2
  obtain ⟨vs,z,_⟩:=R.lst e ha
  refine go _ _ (.lst z) ?_ r;rcases hc with rfl | rfl | rfl | rfl | rfl <;> rfl
theorem aK1:∀ {l:List D} {b:Bool},N4 l=some b->∃ bs:List Bool,l=bs.map D.bl/\b=bs.all id:=by
 intro l
 induction l with
 | nil=>intro b h;cases h;exact ⟨[],rfl,rfl⟩
 | cons d r ih =>
  intro b h
  cases d <;> first | (cases h;done) | skip
  rename_i c
  simp only [N4] at h
  cases e:N4 r with
  | none=>rw [e] at h;cases h
  | some b' =>
   rw [e] at h
   cases h
   obtain ⟨bs,rfl,rfl⟩:=ih e
   exact ⟨c :: bs,rfl,by simp⟩
theorem a9.bls {K ρ H}:∀ {bs:List Bool} {vs:List V},a9 K ρ H (bs.map D.bl) vs->vs=bs.map V.bl:=by
 intro bs
 induction bs with
 | nil=>intro vs h;cases h;rfl
 | cons b r ih =>
  intro vs h
  cases h with
  | cons h rr=>rw [ih rr,h.J9];rfl
theorem bu0 (hc:X.calm=true):t6 X (.builtin "all") (rN X.K .all):=by
 intro pins s σ H xs us Q I r h
 obtain ⟨ds,g,ρ,R,rs,d',g',⟨a,l,b,rfl,hl,hb,rfl,rfl⟩,q⟩:=h
 obtain ⟨bs,rfl,rfl⟩:=aK1 hb
 obtain ⟨v,rfl,rv⟩:=rs.one
 obtain ⟨a',rfl,ra⟩:=rv.l9
 obtain ⟨vs,hq,rs⟩:=R.items hl ra
 have:=rs.bls
 subst this
 exact aS3 hc pins s σ H _ us Q I r ⟨_,bs,rfl,hq,q.now R (.bl _)⟩
theorem bs0:t6 X (.type "int") (rN X.K .int):=by
 intro pins s σ H xs us Q I r h
 obtain ⟨ds,g,ρ,R,rs,d',g',⟨rfl,h⟩,q⟩:=h
 rcases h with ⟨i,rfl,rfl⟩ | ⟨b,rfl,rfl⟩
 ·obtain ⟨v,rfl,rv⟩:=rs.one
  obtain rfl:=rv.k9
  exact ar3 pins s σ H _ us Q I r (.inl ⟨i,rfl,q.now R (.int _)⟩)
 ·obtain ⟨v,rfl,rv⟩:=rs.one
  obtain rfl:=rv.J9
  exact ar3 pins s σ H _ us Q I r (.inr ⟨b,rfl,q.now R (.int _)⟩)
noncomputable def rM (K:PySem.W.Frag) (p:Pr):V->List V->Hp->VK->Prop:=fun x xs H Q=>∃ d ds g ρ,Rl K ρ g H/\d9 K ρ H d x/\a9 K ρ H ds xs/\prP p (d :: ds) g (LQ K ρ H Q)
theorem Y6 {a b:D} {l m:List D} (h:a :: l=b :: m):a=b/\l=m:=by cases h;exact ⟨rfl,rfl⟩
theorem aS5:MtR X "list.append" (rM X.K .append):=by
 intro pins s σ H x xs v us Q I rx r h
 obtain ⟨d,ds,g,ρ,R,rd,rs,d',g',⟨a,y,l,ex,ha,hz,rfl,rfl⟩,q⟩:=h
 obtain ⟨rfl,rfl⟩:=Y6 ex
 obtain ⟨a',rfl,ra⟩:=rd.l9
 obtain ⟨w,rfl,rw'⟩:=rs.one
 obtain ⟨vs,z1,rv⟩:=R.lst ha ra
 obtain ⟨R2,e2⟩:=R.write ha ra (rv.append (.cons rw' .nil))
 exact aO8 pins s σ H _ _ v us Q I rx r ⟨_,vs,_,rfl,rfl,z1,by rw [<- rv.length];exact am9 hz,q ρ _ _ e2 R2 .non⟩
theorem a05:MtR X "list.clear" (rM X.K .clear):=by
 intro pins s σ H x xs v us Q I rx r h
 obtain ⟨d,ds,g,ρ,R,rd,rs,d',g',⟨a,l,ex,ha,rfl,rfl⟩,q⟩:=h
 obtain ⟨rfl,rfl⟩:=Y6 ex
 obtain ⟨a',rfl,ra⟩:=rd.l9
 cases rs
 obtain ⟨vs,z1,rv⟩:=R.lst ha ra
 obtain ⟨R2,e2⟩:=R.write ha ra (a9.nil)
 exact aY0 pins s σ H _ _ v us Q I rx r ⟨_,vs,rfl,rfl,z1,q ρ _ _ e2 R2 .non⟩
theorem bd0:MtR X "list.pop" (rM X.K .pop0):=by
 intro pins s σ H x xs v us Q I rx r h
 obtain ⟨d,ds,g,ρ,R,rd,rs,y,g',⟨a,l,ex,ha,rfl⟩,q⟩:=h
 obtain ⟨rfl,rfl⟩:=Y6 ex
 obtain ⟨a',rfl,ra⟩:=rd.l9
 cases rs
 obtain ⟨vs,z1,rv⟩:=R.lst ha ra
 obtain ⟨w,hw,rw'⟩:=rv.get (i:=l.length) (d:=y) (by simp)
 have hl:vs.length=l.length + 1:=by rw [<- rv.length];simp
 have rl:a9 X.K ρ H l vs.dropLast:=by
  have:=rv.erase l.length
  rw [List.eraseIdx_append_of_length_le (Nat.le_refl _)] at this
  rw [show vs.eraseIdx l.length=vs.dropLast by rw [List.eraseIdx_eq_dropLast];omega] at this
  simpa using this
 obtain ⟨R2,e2⟩:=R.write ha ra rl
 exact bq6 pins s σ H _ _ v us Q I rx r ⟨_,vs,w,rfl,rfl,z1,by rw [hl];exact hw,q ρ _ _ e2 R2 (rw'.ext e2)⟩
theorem aW3:MtR X "list.pop" (rM X.K .pop):=by
 intro pins s σ H x xs v us Q I rx r h
 obtain ⟨d,ds,g,ρ,R,rd,rs,y,g',⟨a,i,l,k,ex,ha,h1,h2,hk,hy,rfl⟩,q⟩:=h
 obtain ⟨rfl,rfl⟩:=Y6 ex
 obtain ⟨a',rfl,ra⟩:=rd.l9
 obtain ⟨w,rfl,rw'⟩:=rs.one
 obtain rfl:=rw'.k9
 obtain ⟨vs,z1,rv⟩:=R.lst ha ra
 obtain ⟨w,hw,rw'⟩:=rv.get hy
 obtain ⟨R2,e2⟩:=R.write ha ra (rv.erase k)
 exact aX9 pins s σ H _ _ v us Q I rx r ⟨_,vs,i,k,w,rfl,rfl,z1,h1,h2,by rw [<- rv.length];exact hk,hw,q ρ _ _ e2 R2 (rw'.ext e2)⟩
theorem a9.strs {K ρ H}:∀ {ys:List Str} {vs:List V},a9 K ρ H (ys.map D.str) vs->vs=ys.map V.str
 | [],_,.nil=>rfl
 | _ :: _,_,.cons h r=>by cases h;rw [a9.strs r];rfl
theorem ty_list {d:D} {v:V} {g:G} {ρ:List Addr} {H:Hp} (R:Rl X.K ρ g H) (r:d9 X.K ρ H d v) (h:∃ a l,d=.ref a/\i4 g a=some l):tyV X.K "list" v H:=by
 obtain ⟨a,l,rfl,hl⟩:=h
 obtain ⟨a',rfl,ra⟩:=r.l9
 obtain ⟨vs,hq,_⟩:=R.items hl ra
 exact .inl ⟨rfl,vs,hq⟩
end
end M

namespace M
open PySem L2 PySem.Spec PyProof.Rows
noncomputable abbrev XKE:=List Str × XK
noncomputable def LX (K:PySem.W.Frag) (ρ:List Addr) (H:Hp) (Ξ:XKE):KX:=fun x g'=>∀ ρ' H' C,Ext ρ H ρ' H'->Rl K ρ' g' H'->x.cls ∈ Ξ.1->n6 K x.cls C->Ξ.2 (.ref C) none H'
theorem LX.ext {K:PySem.W.Frag} {ρ ρ1:List Addr} {H H1:Hp} {Ξ:XKE} (e:Ext ρ H ρ1 H1) {x:Xn} {g:G} (h:LX K ρ H Ξ x g):LX K ρ1 H1 Ξ x g:=fun ρ' H' C e' R hm c=>h ρ' H' C (e.trans e') R hm c
noncomputable abbrev XK0 (ex:List Str):XKE:=(ex,fun _ _ _=>False)
noncomputable def LE (K:PySem.W.Frag) (Ξ:XKE) (t:S->G->KD->KX->Prop):TE:=fun σv H Q=>∃ σ g ρ,n4 K ρ H σ σv/\Rl K ρ g H/\t σ g (LQ K ρ H Q) (LX K ρ H Ξ)
noncomputable def LT (K:PySem.W.Frag) (Ξ:XKE) (t:S->G->(Bool->G->Prop)->KX->Prop):TT:=fun σv H Q=>∃ σ g ρ,n4 K ρ H σ σv/\Rl K ρ g H/\t σ g (fun b g'=>∀ ρ' H',Ext ρ H ρ' H'->Rl K ρ' g' H'->Q b H') (LX K ρ H Ξ)
noncomputable def LA (K:PySem.W.Frag) (Ξ:XKE) (t:S->G->(List D->G->Prop)->KX->Prop):TA:=fun σv H Q=>∃ σ g ρ,n4 K ρ H σ σv/\Rl K ρ g H/\t σ g (fun ds g'=>∀ ρ' H' vs,Ext ρ H ρ' H'->Rl K ρ' g' H'->a9 K ρ' H' ds vs->Q vs H') (LX K ρ H Ξ)
noncomputable def ap4 (K:PySem.W.Frag) (ρ0:List Addr) (H0:Hp) (k:IK) (J:It):Prop:=∀ ρ g H,Ext ρ0 H0 ρ H->Rl K ρ g H->∀ i,(k.at i g=some none->J.stop i H) /\
 ∀ d,k.at i g=some (some d)->J.go i H/\∀ v H',J.yld i H v H'->Ext ρ H ρ H'/\Rl K ρ g H'/\d9 K ρ H' d v
noncomputable def LI (K:PySem.W.Frag) (Ξ:XKE) (t:S->G->(IK->G->Prop)->KX->Prop):TI:=fun σv H R=>∃ σ g ρ,n4 K ρ H σ σv/\Rl K ρ g H/\t σ g (fun k g'=>∀ ρ' H' J,Ext ρ H ρ' H'->Rl K ρ' g' H'->ap4 K ρ' H' k J->R J H') (LX K ρ H Ξ)
noncomputable def LG (K:PySem.W.Frag) (t:MT):TG:=fun v σv H Q=>∃ d σ g ρ,n4 K ρ H σ σv/\Rl K ρ g H/\d9 K ρ H d v/\tgP t d σ (fun σ'=>∀ σv',n4 K ρ H σ' σv'->Q σv' H)
noncomputable def LN (K:PySem.W.Frag) (ρ:List Addr) (H:Hp) (N:L2.Ends):Ends where
 nx:=fun σ' g'=>∀ ρ' H' σv',Ext ρ H ρ' H'->Rl K ρ' g' H'->n4 K ρ' H' σ' σv'->N.nx σv' H'
 rt:=LQ K ρ H N.rt
 bk:=fun σ' g'=>∀ ρ' H' σv',Ext ρ H ρ' H'->Rl K ρ' g' H'->n4 K ρ' H' σ' σv'->N.bk σv' H'
 ct:=fun σ' g'=>∀ ρ' H' σv',Ext ρ H ρ' H'->Rl K ρ' g' H'->n4 K ρ' H' σ' σv'->N.ct σv' H'
noncomputable def LS (K:PySem.W.Frag) (Ξ:XKE) (t:Ends->S->G->KX->Prop):TS:=fun N σv H=>∃ σ g ρ,n4 K ρ H σ σv/\Rl K ρ g H/\t (LN K ρ H N) σ g (LX K ρ H Ξ)
end M
namespace L2
open PySem PySem.Spec PyProof.Rows
section
variable {X:Cx} {e:Expr}
theorem PE.imp {t t':TE} (h:PE X e t) (i:∀ σ H Q,t' σ H Q->t σ H Q):PE X e t':=fun pins s σ H Q I q=>h pins s σ H Q I (i σ H Q q)
theorem PT.imp {t t':TT} (h:PT X e t) (i:∀ σ H Q,t' σ H Q->t σ H Q):PT X e t':=fun pins s σ H Q I q=>h pins s σ H Q I (i σ H Q q)
theorem PW.imp {t t':TT} (h:PW X e t) (i:∀ σ H Q,t' σ H Q->t σ H Q):PW X e t':=fun w pins s σ H Q I q=>h w pins s σ H Q I (i σ H Q q)
theorem PA.imp {es:List Expr} {t t':TA} (h:PA X es t) (i:∀ σ H Q,t' σ H Q->t σ H Q):PA X es t':=fun p pins s σ H Q I q=>h p pins s σ H Q I (i σ H Q q)
theorem PTs.imp {es:List Expr} {t t':TT} (h:PTs X es t) (i:∀ σ H Q,t' σ H Q->t σ H Q):PTs X es t':=fun pins s σ H Q I q=>h pins s σ H Q I (i σ H Q q)
theorem PI.imp {tg:Expr} {t t':TI} (h:PI X tg e t) (i:∀ σ H Q,t' σ H Q->t σ H Q):PI X tg e t':=fun pins s σ H Q I q=>h pins s σ H Q I (i σ H Q q)
theorem PG.imp {t t':TG} (h:PG X e t) (i:∀ v σ H Q,t' v σ H Q->t v σ H Q):PG X e t':=fun pins s σ H v u Q I r q=>h pins s σ H v u Q I r (i v σ H Q q)
theorem PS.imp {st:Stmt} {t t':TS} (h:PS X st t) (i:∀ N σ H,t' N σ H->t N σ H):PS X st t':=fun pins s σ H N I q=>h pins s σ H N I (i N σ H q)
theorem PSs.imp {st:List Stmt} {t t':TS} (h:PSs X st t) (i:∀ N σ H,t' N σ H->t N σ H):PSs X st t':=fun pins s σ H N I q=>h pins s σ H N I (i N σ H q)
end
end L2
namespace M
open PySem L2 PySem.Spec PyProof.Rows
section
variable {K:PySem.W.Frag} {Ξ:XKE} {P:Sig} (hP:j9 P) {ρ ρ0:List Addr} {H H0:Hp} {σ:S} {σv:L2.St} {g:G} {m:ME}
include hP
theorem thE {Q0:KD} {Q:VK} (s:n4 K ρ H σ σv) (R:Rl K ρ g H) (e0:Ext ρ0 H0 ρ H) (h:wpE P m σ g Q0 (LX K ρ0 H0 Ξ)) (k:∀ x g1 ρ1 H1 v1,Ext ρ H ρ1 H1->Rl K ρ1 g1 H1->d9 K ρ1 H1 x v1->Q0 x g1->Q v1 H1):LE K Ξ (wpE P m) σv H Q :=
 ⟨σ,g,ρ,s,R,c9 hP m _ _ _ _ _ _ (fun x g1 h ρ1 H1 v1 e1 R1 r1=>k x g1 ρ1 H1 v1 e1 R1 r1 h) (fun _ _ z=>LX.ext e0 z) h⟩
theorem thA {Q0:List D->G->Prop} {Q:List V->Hp->Prop} (s:n4 K ρ H σ σv) (R:Rl K ρ g H) (e0:Ext ρ0 H0 ρ H) (h:wpA P m σ g Q0 (LX K ρ0 H0 Ξ)) (k:∀ x g1 ρ1 H1 v1,Ext ρ H ρ1 H1->Rl K ρ1 g1 H1->a9 K ρ1 H1 x v1->Q0 x g1->Q v1 H1):LA K Ξ (wpA P m) σv H Q :=
 ⟨σ,g,ρ,s,R,u9 hP m _ _ _ _ _ _ (fun x g1 h ρ1 H1 v1 e1 R1 r1=>k x g1 ρ1 H1 v1 e1 R1 r1 h) (fun _ _ z=>LX.ext e0 z) h⟩
theorem thT {Q0:Bool->G->Prop} {Q:Bool->Hp->Prop} (s:n4 K ρ H σ σv) (R:Rl K ρ g H) (e0:Ext ρ0 H0 ρ H) (h:wpT P m σ g Q0 (LX K ρ0 H0 Ξ)) (k:∀ t g1 ρ1 H1,Ext ρ H ρ1 H1->Rl K ρ1 g1 H1->Q0 t g1->Q t H1):LT K Ξ (wpT P m) σv H Q :=
 ⟨σ,g,ρ,s,R,u7 hP m _ _ _ _ _ _ (fun t g1 h ρ1 H1 e1 R1=>k t g1 ρ1 H1 e1 R1 h) (fun _ _ z=>LX.ext e0 z) h⟩
theorem thS {ms:MS} {N:L2.Ends} {N0:Ends} (s:n4 K ρ H σ σv) (R:Rl K ρ g H) (e0:Ext ρ0 H0 ρ H) (h:wpS P ms N0 σ g (LX K ρ0 H0 Ξ)) (k:N0.le (LN K ρ H N)):LS K Ξ (wpS P ms) N σv H :=
 ⟨σ,g,ρ,s,R,wpS_mono hP ms _ _ _ _ _ _ k (fun _ _ z=>LX.ext e0 z) h⟩
end
theorem a9.rng {K ρ H} (lo:Int) (n:Nat):a9 K ρ H (j0 lo n) ((List.range n).map fun (k:Nat)=>V.int (lo + k)):=by
 unfold j0
 have:∀ l:List Nat,a9 K ρ H (l.map fun (k:Nat)=>D.int (lo + k)) (l.map fun (k:Nat)=>V.int (lo + k)):=by
  intro l
  induction l with
  | nil=>exact .nil
  | cons x r ih=>exact .cons (.int _) ih
 exact this _
section
variable {X:Cx} {Ξ:XKE} {P:Sig} (hP:j9 P) {a b c e:Expr} {ma mb mc:ME} {pos:Pos} {p:Pr}
include hP
theorem av2 (h:PE X e (tOp (r2 X.K p) (LE X.K Ξ (wpE P ma)) (LE X.K Ξ (wpE P mb)))):PE X e (LE X.K Ξ (wpE P (.prim p (.cons ma (.cons mb .nil))))) :=
 h.imp fun σv H Q ⟨σ,g,ρ,s,R,h⟩=>by
  simp only [wpE,wpA] at h
  exact thE hP s R (.refl _ _) h fun x g1 ρ1 H1 v1 e1 R1 r1 h=>thE hP (s.ext e1) R1 e1 h fun y g2 ρ2 H2 v2 e2 R2 r2 h =>
   ⟨x,y,g2,ρ2,R2,r1.ext e2,r2,q9 (fun d g' h=>h.ext (e1.trans e2)) h⟩
theorem bk3 {op:CmpOp} (h:PT X e (aF2 (tOp (r2 X.K (.cmp op)) (LE X.K Ξ (wpE P ma)) (LE X.K Ξ (wpE P mb))))):PT X e (LT X.K Ξ (wpT P (.tst (.prim (.cmp op) (.cons ma (.cons mb .nil)))))) :=
 h.imp fun σv H Q ⟨σ,g,ρ,s,R,h⟩=>by
  simp only [wpT,wpE,wpA] at h
  refine thE hP s R (.refl _ _) h fun x g1 ρ1 H1 v1 e1 R1 r1 h=>thE hP (s.ext e1) R1 e1 h fun y g2 ρ2 H2 v2 e2 R2 r2 h=>?_
  obtain ⟨d',g',h,q⟩:=h
  obtain ⟨x',y',t,ex,hc,rfl,rfl⟩:=id h
  refine ⟨x,y,g',ρ2,R2,r1.ext e2,r2,_,_,h,fun ρ' H' v e' R' r'=>?_⟩
  obtain ⟨t',ht,q⟩:=q
  rcases ht with ⟨z,_⟩ | z | ⟨i,z,_⟩ | ⟨l,z,_⟩ | ⟨a,l,z,_⟩ <;> cases z
  exact ⟨_,r'.J9,q ρ' H' (e1.trans (e2.trans e')) R'⟩
theorem a35 {op:UnaryOp} (ha:PE X a (LE X.K Ξ (wpE P ma))):PE X (.UnaryOp op a pos) (LE X.K Ξ (wpE P (.prim (.un op) (.cons ma .nil)))) :=
 (by6 (bz2 op) ha).imp fun σv H Q ⟨σ,g,ρ,s,R,h⟩=>by
  simp only [wpE,wpA] at h
  exact thE hP s R (.refl _ _) h fun x g1 ρ1 H1 v1 e1 R1 r1 h=>⟨x,g1,ρ1,R1,r1,q9 (fun d g' h=>h.ext e1) h⟩
theorem ay8 {op op':CmpOp}:∀ σv H Q,LE X.K Ξ (wpE P (.chain op op' ma mb mc)) σv H Q->au2 (r2 X.K (.cmp op)) (r2 X.K (.cmp op')) (LE X.K Ξ (wpE P ma)) (LE X.K Ξ (wpE P mb)) (LE X.K Ξ (wpE P mc)) σv H Q:=fun σv H Q ⟨σ,g,ρ,s,R,h⟩=>by
 simp only [wpE] at h
 refine thE hP s R (.refl _ _) h fun x g1 ρ1 H1 v1 e1 R1 r1 h=>thE hP (s.ext e1) R1 e1 h fun y g2 ρ2 H2 v2 e2 R2 r2 h=>?_
 refine ⟨x,y,g2,ρ2,R2,r1.ext e2,r2,q9 (fun d g3 h ρ3 H3 v3 e3 R3 r3=>?_) h⟩
 obtain ⟨t,rfl,h⟩:=h
 obtain rfl:=r3.J9
 refine ⟨t,rfl,?_⟩
 cases t
 ·exact h ρ3 H3 _ (e1.trans (e2.trans e3)) R3 (.bl _)
 ·exact thE hP (s.ext (e1.trans (e2.trans e3))) R3 (e1.trans (e2.trans e3)) h fun z g4 ρ4 H4 v4 e4 R4 r4 h =>
   ⟨y,z,g4,ρ4,R4,r2.ext (e3.trans e4),r4,q9 (fun d g' h=>h.ext (e1.trans (e2.trans (e3.trans e4)))) h⟩
theorem aV4 {op op':CmpOp} (hu:X.A.units + 100 < cLine) (ha:PE X a (LE X.K Ξ (wpE P ma))) (hb:PE X b (LE X.K Ξ (wpE P mb))) (hc:PE X c (LE X.K Ξ (wpE P mc))) (hm:lastMarks [op,op'] [b,c]=false) :
  PE X (.Compare a [op,op'] [b,c] pos) (LE X.K Ξ (wpE P (.chain op op' ma mb mc))):=(aX1 (V4 hu op) (V4 hu op') ha hb hc hm).imp (ay8 hP)
theorem a06 {op op':CmpOp} {σ:S} {g:G} {Q:Bool->G->Prop} {E:KX} (h:wpT P (.tst (.chain op op' ma mb mc)) σ g Q E):wpE P (.chain op op' ma mb mc) σ g (fun d g'=>∃ t,d=.bl t/\Q t g') E:=by
 have one:∀ {o:CmpOp} {xs:List D} {g:G},prP (.cmp o) xs g (fun d g1=>af8 g1 d fun b=>Q b g1)->prP (.cmp o) xs g fun d g'=>∃ t,d=.bl t/\Q t g':=by
  intro o xs g h
  obtain ⟨d',g',h,t',ht,q⟩:=h
  obtain ⟨x',y',t,ex,hc,rfl,rfl⟩:=id h
  refine ⟨_,_,h,t',?_,q⟩
  rcases ht with ⟨z,_⟩ | z | ⟨i,z,_⟩ | ⟨l,z,_⟩ | ⟨a,l,z,_⟩ <;> first | exact z | cases z
 simp only [wpT,wpE] at h ⊢
 refine c9 hP ma _ _ _ _ _ _ (fun x g1 h=>c9 hP mb _ _ _ _ _ _ (fun y g2 h=>q9 (fun z g3 h=>?_) h) (fun _ _ z=>z) h) (fun _ _ z=>z) h
 obtain ⟨t,rfl,h⟩:=h
 refine ⟨t,rfl,?_⟩
 cases t
 ·obtain ⟨b,hb,q⟩:=(show af8 g3 (.bl false) fun b=>Q b g3 from h)
  rcases hb with ⟨z,_⟩ | z | ⟨i,z,_⟩ | ⟨l,z,_⟩ | ⟨a,l,z,_⟩ <;> first | (cases z;exact ⟨_,rfl,q⟩) | cases z
 ·exact c9 hP mc _ _ _ _ _ _ (fun w g4 h=>one h) (fun _ _ z=>z) h
theorem aU1 {op op':CmpOp} (hu:X.A.units + 100 < cLine) (ha:PE X a (LE X.K Ξ (wpE P ma))) (hb:PE X b (LE X.K Ξ (wpE P mb))) (hc:PE X c (LE X.K Ξ (wpE P mc))) (hm:lastMarks [op,op'] [b,c]=false) :
  PT X (.Compare a [op,op'] [b,c] pos) (LT X.K Ξ (wpT P (.tst (.chain op op' ma mb mc)))) :=
 (aV8 (V4 hu op) (V4 hu op') ha hb hc hm).imp fun σv H Q ⟨σ,g,ρ,s,R,h⟩ =>
  ay8 hP σv H _ (thE hP s R (.refl _ _) (a06 hP h) fun x g1 ρ1 H1 v1 e1 R1 r1 h=>by
   obtain ⟨t,rfl,h⟩:=h
   exact ⟨t,r1.J9,h ρ1 H1 e1 R1⟩)
theorem bm3 {rest:List Expr} (ha:PE X a (LE X.K Ξ (wpE P ma))) (hb:PE X (.BoolOp .And (b :: rest) pos) (LE X.K Ξ (wpE P mb))):PE X (.BoolOp .And (a :: b :: rest) pos) (LE X.K Ξ (wpE P (.and_ ma mb))) :=
 (bp3 ha hb).imp fun σv H Q ⟨σ,g,ρ,s,R,h⟩=>by
  simp only [wpE] at h
  refine thE hP s R (.refl _ _) h fun x g1 ρ1 H1 v1 e1 R1 r1 h=>?_
  obtain ⟨t,rfl,h⟩:=h
  refine ⟨t,r1.J9,?_⟩
  cases t
  ·exact h ρ1 H1 _ e1 R1 (.bl _)
  ·exact thE hP (s.ext e1) R1 e1 h fun y g2 ρ2 H2 v2 e2 R2 r2 h=>h ρ2 H2 v2 (e1.trans e2) R2 r2
theorem bw6 {rest:List Expr} (ha:PE X a (LE X.K Ξ (wpE P ma))) (hb:PE X (.BoolOp .Or (b :: rest) pos) (LE X.K Ξ (wpE P mb))):PE X (.BoolOp .Or (a :: b :: rest) pos) (LE X.K Ξ (wpE P (.or_ ma mb))) :=
 (by7 ha hb).imp fun σv H Q ⟨σ,g,ρ,s,R,h⟩=>by
  simp only [wpE] at h
  refine thE hP s R (.refl _ _) h fun x g1 ρ1 H1 v1 e1 R1 r1 h=>?_
  obtain ⟨t,rfl,h⟩:=h
  refine ⟨t,r1.J9,?_⟩
  cases t
  ·exact thE hP (s.ext e1) R1 e1 h fun y g2 ρ2 H2 v2 e2 R2 r2 h=>h ρ2 H2 v2 (e1.trans e2) R2 r2
  ·exact h ρ1 H1 _ e1 R1 (.bl _)
theorem bl8 (ha:PE X a (LE X.K Ξ (wpE P ma))):PE X (.UnaryOp .Not a pos) (LE X.K Ξ (wpE P (.not_ ma))) :=
 (bo7 ha).imp fun σv H Q ⟨σ,g,ρ,s,R,h⟩=>by
  simp only [wpE] at h
  refine thE hP s R (.refl _ _) h fun x g1 ρ1 H1 v1 e1 R1 r1 h=>?_
  obtain ⟨t,rfl,h⟩:=h
  exact ⟨t,r1.J9,h ρ1 H1 _ e1 R1 (.bl _)⟩
theorem bl9 (hc:PT X c (LT X.K Ξ (wpT P mc))) (ha:PE X a (LE X.K Ξ (wpE P ma))) (hb:PE X b (LE X.K Ξ (wpE P mb))):PE X (.IfExp c a b pos) (LE X.K Ξ (wpE P (.ite mc ma mb))) :=
 (aW9 hc ha hb).imp fun σv H Q ⟨σ,g,ρ,s,R,h⟩=>by
  simp only [wpE] at h
  refine thT hP s R (.refl _ _) h fun t g1 ρ1 H1 e1 R1 h=>?_
  cases t
  ·exact thE hP (s.ext e1) R1 e1 h fun y g2 ρ2 H2 v2 e2 R2 r2 h=>h ρ2 H2 v2 (e1.trans e2) R2 r2
  ·exact thE hP (s.ext e1) R1 e1 h fun y g2 ρ2 H2 v2 e2 R2 r2 h=>h ρ2 H2 v2 (e1.trans e2) R2 r2
theorem bl5 {es:List Expr} {mes:ME} {k:Nat} (h:PA X es (LA X.K Ξ (wpA P mes))):PE X (.Tuple es k pos) (LE X.K Ξ (wpE P (.prim .tup mes))) :=
 (bo3 h).imp fun σv H Q ⟨σ,g,ρ,s,R,h⟩=>by
  simp only [wpE] at h
  refine thA hP s R (.refl _ _) h fun ds g1 ρ1 H1 vs e1 R1 r1 h=>?_
  obtain ⟨d',g',⟨hz,rfl,rfl⟩,q⟩:=h
  exact ⟨by rw [<- r1.length];exact m9 (Nat.le_trans hz (by decide)),fun p hp=>(q.ext e1).tup R1 hp r1⟩
theorem aM5 {es:List Expr} {mes:ME} (h:PA X es (LA X.K Ξ (wpA P mes))):PE X (.List es pos) (LE X.K Ξ (wpE P (.prim .lst mes))) :=
 (bo9 h).imp fun σv H Q ⟨σ,g,ρ,s,R,h⟩=>by
  simp only [wpE] at h
  refine thA hP s R (.refl _ _) h fun ds g1 ρ1 H1 vs e1 R1 r1 h=>?_
  obtain ⟨d',g',⟨hz,rfl,rfl⟩,q⟩:=h
  exact ⟨by rw [<- r1.length];exact m9 (Nat.le_trans hz (by decide)),fun p hp=>(q.ext e1).new R1 hp r1⟩
theorem V0:PA X [] (LA X.K Ξ (wpA P .nil)) :=
 (V3 (X:=X)).imp fun σv H Q ⟨σ,g,ρ,s,R,h⟩=>by
  simp only [wpA] at h
  exact h ρ H [] (.refl _ _) R .nil
theorem G0 {es:List Expr} {mes:ME} (ha:PE X a (LE X.K Ξ (wpE P ma))) (h:PA X es (LA X.K Ξ (wpA P mes))) (hs:starEach (a :: es) X.env=(false,eval a X.env) :: starEach es X.env):PA X (a :: es) (LA X.K Ξ (wpA P (.cons ma mes))) :=
 (R6 ha h hs).imp fun σv H Q ⟨σ,g,ρ,s,R,h⟩=>by
  simp only [wpA] at h
  exact thE hP s R (.refl _ _) h fun x g1 ρ1 H1 v1 e1 R1 r1 h=>thA hP (s.ext e1) R1 e1 h fun xs g2 ρ2 H2 vs e2 R2 r2 h=>h ρ2 H2 _ (e1.trans e2) R2 (.cons (r1.ext e2) r2)
theorem aU7 {p2:Pos} (ha:PE X a (LE X.K Ξ (wpE P ma))):PE X (.Subscript a (.Slice none none none p2) pos) (LE X.K Ξ (wpE P (.prim (.slc false false) (.cons ma .nil)))) :=
 (ag2 aF9 ha ac2 ac2).imp fun σv H Q ⟨σ,g,ρ,s,R,h⟩=>by
  simp only [wpE,wpA] at h
  refine thE hP s R (.refl _ _) h fun x g1 ρ1 H1 v1 e1 R1 r1 h=>?_
  obtain ⟨d',g',⟨x',ex,h⟩,q⟩:=h
  cases ex
  exact ⟨x,g1,ρ1,d',g',R1,r1,h,q.ext e1⟩
theorem aU5 {p2:Pos} (ha:PE X a (LE X.K Ξ (wpE P ma))) (hb:PE X b (LE X.K Ξ (wpE P mb))):PE X (.Subscript a (.Slice (some b) none none p2) pos) (LE X.K Ξ (wpE P (.prim (.slc true false) (.cons ma (.cons mb .nil))))) :=
 (ag2 aF9 ha (aC6 hb) ac2).imp fun σv H Q ⟨σ,g,ρ,s,R,h⟩=>by
  simp only [wpE,wpA] at h
  refine thE hP s R (.refl _ _) h fun x g1 ρ1 H1 v1 e1 R1 r1 h=>thE hP (s.ext e1) R1 e1 h fun y g2 ρ2 H2 v2 e2 R2 r2 h=>?_
  obtain ⟨d',g',⟨x',i,ex,h⟩,q⟩:=h
  cases ex
  exact ⟨i,r2.k9,x,g2,ρ2,d',g',R2,r1.ext e2,h,q.ext (e1.trans e2)⟩
theorem aU6 {p2:Pos} (ha:PE X a (LE X.K Ξ (wpE P ma))) (hb:PE X b (LE X.K Ξ (wpE P mb))):PE X (.Subscript a (.Slice none (some b) none p2) pos) (LE X.K Ξ (wpE P (.prim (.slc false true) (.cons ma (.cons mb .nil))))) :=
 (ag2 aF9 ha ac2 (aC6 hb)).imp fun σv H Q ⟨σ,g,ρ,s,R,h⟩=>by
  simp only [wpE,wpA] at h
  refine thE hP s R (.refl _ _) h fun x g1 ρ1 H1 v1 e1 R1 r1 h=>thE hP (s.ext e1) R1 e1 h fun y g2 ρ2 H2 v2 e2 R2 r2 h=>?_
  obtain ⟨d',g',⟨x',i,ex,h⟩,q⟩:=h
  cases ex
  exact ⟨i,r2.k9,x,g2,ρ2,d',g',R2,r1.ext e2,h,q.ext (e1.trans e2)⟩
theorem bk2 (ha:PE X a (LE X.K Ξ (wpE P ma))) (he:∀ whole,isTrue a X.env whole=(do let v <- whole;standAt a.pos;holding [v] (truthy v))):PT X a (LT X.K Ξ (wpT P (.tst ma))) :=
 (aV7 ha he).imp fun σv H Q ⟨σ,g,ρ,s,R,h⟩=>by
  simp only [wpT] at h
  refine thE hP s R (.refl _ _) h fun x g1 ρ1 H1 v1 e1 R1 r1 h=>?_
  obtain ⟨b,h1,h2⟩:=h
  exact ⟨b,bi8 R1 r1 h1,h2 ρ1 H1 e1 R1⟩
theorem bk4 (ha:PT X a (LT X.K Ξ (wpT P ma))):PT X (.UnaryOp .Not a pos) (LT X.K Ξ (wpT P (.not_ ma))) :=
 (bn4 ha).imp fun σv H Q ⟨σ,g,ρ,s,R,h⟩=>by
  simp only [wpT] at h
  exact thT hP s R (.refl _ _) h fun t g1 ρ1 H1 e1 R1 h=>h ρ1 H1 e1 R1
theorem bk1 {rest:List Expr} (ha:PT X a (LT X.K Ξ (wpT P ma))) (hb:PW X (.BoolOp .And (b :: rest) pos) (LT X.K Ξ (wpT P mb))):PW X (.BoolOp .And (a :: b :: rest) pos) (LT X.K Ξ (wpT P (.and_ ma mb))) :=
 (bn3 ha hb).imp fun σv H Q ⟨σ,g,ρ,s,R,h⟩=>by
  simp only [wpT] at h
  refine thT hP s R (.refl _ _) h fun t g1 ρ1 H1 e1 R1 h=>?_
  cases t
  ·exact h ρ1 H1 e1 R1
  ·exact thT hP (s.ext e1) R1 e1 h fun t g2 ρ2 H2 e2 R2 h=>h ρ2 H2 (e1.trans e2) R2
theorem bw3 {rest:List Expr} (ha:PT X a (LT X.K Ξ (wpT P ma))) (hb:PW X (.BoolOp .Or (b :: rest) pos) (LT X.K Ξ (wpT P mb))):PW X (.BoolOp .Or (a :: b :: rest) pos) (LT X.K Ξ (wpT P (.or_ ma mb))) :=
 (by2 ha hb).imp fun σv H Q ⟨σ,g,ρ,s,R,h⟩=>by
  simp only [wpT] at h
  refine thT hP s R (.refl _ _) h fun t g1 ρ1 H1 e1 R1 h=>?_
  cases t
  ·exact thT hP (s.ext e1) R1 e1 h fun t g2 ρ2 H2 e2 R2 h=>h ρ2 H2 (e1.trans e2) R2
  ·exact h ρ1 H1 e1 R1
theorem ba2:PTs X [] (LT X.K Ξ (wpT P .no)) :=
 (bc3 (X:=X)).imp fun σv H Q ⟨σ,g,ρ,s,R,h⟩=>by
  simp only [wpT] at h
  exact h ρ H (.refl _ _) R
theorem bm2 {x:Str} {v:Value} {es:List Expr} {mes:ME} {q:Pos} (hv:(∃ id,v=.builtin id) \/ ∃ T,v=.type T) (hc:t6 X v (rN X.K p)) (hg:Gl X x) (hm:X.mg x=none) (hb:bootBuiltins x=some v) (ha:PA X (e :: es) (LA X.K Ξ (wpA P mes)))
  (hn:x ≠ "__name__") (hd:(x == ("__debug__":Str))=false) (hst:starEach (e :: es) X.env=(false,eval e X.env) :: starEach es X.env) (hpl:(backTo pos (starEach es X.env)).any (·.1)=false):PE X (.Call (.Name x q) (e :: es) [] pos) (LE X.K Ξ (wpE P (.prim p mes))):=by
 have base:PE X (.Call (.Name x q) (e :: es) [] pos) (tCB (rN X.K p) (LA X.K Ξ (wpA P mes))):=by
  rcases hv with ⟨id,rfl⟩ | ⟨T,rfl⟩
  ·exact aw0 hc hg hm hb ha hn hd hst hpl
  ·exact N8 hc hg hm hb ha hn hd hst hpl
 refine base.imp fun σv H Q ⟨σ,g,ρ,s,R,h⟩=>?_
 simp only [wpE] at h
 exact thA hP s R (.refl _ _) h fun xs g1 ρ1 H1 vs e1 R1 r1 h=>⟨xs,g1,ρ1,R1,r1,q9 (fun d g' h=>h.ext e1) h⟩
theorem bb1 {o:Expr} {es:List Expr} {mo mes:ME} {T:String} {name:Str} {id:String} {apos:Pos} (pa:PlainAttrs T) (slot:Slot T name id) (hty:typeOf (.builtin id)=pure (.type "method_descriptor")) (hm:MtR X id (rM X.K p))
  (hk:∀ {d:D} {v:V} {g:G} {ρ:List Addr} {H:Hp},Rl X.K ρ g H->d9 X.K ρ H d v->mkP p d g->tyV X.K T v H)
  (ho:PE X o (LE X.K Ξ (wpE P mo))) (ha:PA X (e :: es) (LA X.K Ξ (wpA P mes)))
  (hbase:attributeBase o name X.env (eval o X.env)=eval o X.env)
  (hfew:((backTo pos (starEach (e :: es) X.env)).all (fun x=>!x.1) && (backToKw pos (keywordEach [] X.env)).all (fun x=>x.1.isSome) && decide ((e :: es).length + ([]:List Keyword).length + (if ([]:List Keyword).isEmpty then 0 else 1) < 30))=true)
  (hline:(apos.endLine == pos.line)=true) (hs:starEach (e :: es) X.env=(false,eval e X.env) :: starEach es X.env) (hplain:(backTo pos (starEach es X.env)).any (·.1)=false) :
  PE X (.Call (.Attribute o name apos) (e :: es) [] pos) (LE X.K Ξ (wpE P (.meth p mo mes))) :=
 (by9 pa slot hty hm ho ha hbase hfew hline hs hplain).imp fun σv H Q ⟨σ,g,ρ,s,R,h⟩=>by
  simp only [wpE] at h
  exact thE hP s R (.refl _ _) h fun x g1 ρ1 H1 v1 e1 R1 r1 h=>⟨hk R1 r1 h.1,thA hP (s.ext e1) R1 e1 h.2 fun xs g2 ρ2 H2 ws e2 R2 r2 h =>
   ⟨x,xs,g2,ρ2,R2,r1.ext e2,r2,q9 (fun d g' h=>h.ext (e1.trans e2)) h⟩⟩
theorem aU9 {o:Expr} {mo:ME} {T:String} {name:Str} {id:String} {apos:Pos} (pa:PlainAttrs T) (slot:Slot T name id) (hty:typeOf (.builtin id)=pure (.type "method_descriptor")) (hm:MtR X id (rM X.K p))
  (hk:∀ {d:D} {v:V} {g:G} {ρ:List Addr} {H:Hp},Rl X.K ρ g H->d9 X.K ρ H d v->mkP p d g->tyV X.K T v H)
  (ho:PE X o (LE X.K Ξ (wpE P mo))) (hbase:attributeBase o name X.env (eval o X.env)=eval o X.env) (hline:(apos.endLine == pos.line)=true) :
  PE X (.Call (.Attribute o name apos) [] [] pos) (LE X.K Ξ (wpE P (.meth p mo .nil))) :=
 (bp2 pa slot hty hm ho hbase hline).imp fun σv H Q ⟨σ,g,ρ,s,R,h⟩=>by
  simp only [wpE,wpA] at h
  exact thE hP s R (.refl _ _) h fun x g1 ρ1 H1 v1 e1 R1 r1 h=>⟨hk R1 r1 h.1,x,[],g1,ρ1,R1,r1,.nil,q9 (fun d g' h=>h.ext e1) h.2⟩
omit hP in
theorem ax9 {K ρ H} {d:D} {v:V} (r:d9 K ρ H d v) (h:ad5 d=true):v=toV d/\J8 v=true:=by
 cases r with
 | non=>exact ⟨rfl,rfl⟩
 | bl _=>exact ⟨rfl,rfl⟩
 | int _=>exact ⟨rfl,rfl⟩
 | str _=>exact ⟨rfl,rfl⟩
 | ty _=>exact absurd h Bool.false_ne_true
 | ref _=>exact absurd h Bool.false_ne_true
 | tup _ _=>exact absurd h Bool.false_ne_true
omit hP in
theorem aR2 {K ρ H} {l:List D} {vs:List V} (r:a9 K ρ H l vs) (h:l.all ad5=true):vs=l.map toV/\vs.all J8=true:=by
 induction l generalizing vs with
 | nil=>cases r;exact ⟨rfl,rfl⟩
 | cons d l ih =>
  cases r with
  | cons rd rs =>
   rw [List.all_cons,Bool.and_eq_true] at h
   obtain ⟨e1,f1⟩:=ax9 rd h.1
   obtain ⟨e2,f2⟩:=ih rs h.2
   subst e1 e2
   exact ⟨rfl,by rw [List.all_cons,f1,f2];rfl⟩
omit hP in
theorem ar1 {K ρ H} {l:List D} {vs:List V} {y:D} {w:V} {n:Nat} (r:a9 K ρ H l vs) (ry:d9 K ρ H y w) (h:P5 l y n):ae4 vs w n:=by
 obtain ⟨h1,h2,⟨z,h3,h4⟩,h5⟩:=h
 obtain ⟨e1,f1⟩:=aR2 r h1
 obtain ⟨e2,f2⟩:=ax9 ry h2
 subst e1 e2
 refine ⟨f1,f2,⟨toV z,by rw [List.getElem?_map,h3];rfl,h4⟩,fun m z' hm hz=>?_⟩
 rw [List.getElem?_map,Option.map_eq_some_iff] at hz
 obtain ⟨z'',hz,rfl⟩:=hz
 exact h5 m z'' hm hz
theorem aV3 {o:Expr} {es:List Expr} {mo mes:ME} {apos:Pos} (ho:PE X o (LE X.K Ξ (wpE P mo))) (ha:PA X (e :: es) (LA X.K Ξ (wpA P mes)))
  (hbase:attributeBase o "index" X.env (eval o X.env)=eval o X.env)
  (hfew:((backTo pos (starEach (e :: es) X.env)).all (fun x=>!x.1) && (backToKw pos (keywordEach [] X.env)).all (fun x=>x.1.isSome) && decide ((e :: es).length + ([]:List Keyword).length + (if ([]:List Keyword).isEmpty then 0 else 1) < 30))=true)
  (hline:(apos.endLine == pos.line)=true) (hs:starEach (e :: es) X.env=(false,eval e X.env) :: starEach es X.env) (hplain:(backTo pos (starEach es X.env)).any (·.1)=false) :
  PE X (.Call (.Attribute o "index" apos) (e :: es) [] pos) (LE X.K Ξ (wpE P (.meth .index mo mes))) :=
 (aW8 ho ha hbase hfew hline hs hplain).imp fun σv H Q ⟨σ,g,ρ,s,R,h⟩=>by
  simp only [wpE] at h
  refine thE hP s R (.refl _ _) h fun x g1 ρ1 H1 v1 e1 R1 r1 h=>?_
  obtain ⟨hk,h⟩:=h
  rcases hk with ⟨l,rfl⟩ | ⟨a,l,rfl,hl⟩
  ·obtain ⟨a',vs,rfl,ta,rs⟩:=r1.A2
   refine .inr ⟨a',vs,rfl,ta.d,thA hP (s.ext e1) R1 e1 h fun xs g2 ρ2 H2 ws e2 R2 r2 h=>?_⟩
   obtain ⟨d',g',⟨x,y,l',n,ex,hi,W,hz,rfl,rfl⟩,q⟩:=h
   cases ex
   cases hi
   obtain ⟨w,rfl,rw'⟩:=r2.one
   exact ⟨a',vs,w,n,rfl,rfl,(ta.ext e2).sq,ar1 (rs.ext e2) rw' W,(q.ext (e1.trans e2)).now R2 (.int n)⟩
  ·obtain ⟨a',rfl,ra⟩:=r1.l9
   obtain ⟨vs,hq,_⟩:=R1.items hl ra
   refine .inl ⟨a',vs,rfl,hq,thA hP (s.ext e1) R1 e1 h fun xs g2 ρ2 H2 ws e2 R2 r2 h=>?_⟩
   obtain ⟨d',g',⟨x,y,l',n,ex,hi,W,hz,rfl,rfl⟩,q⟩:=h
   cases ex
   obtain ⟨w,rfl,rw'⟩:=r2.one
   obtain ⟨vs2,hq2,rs2⟩:=R2.items (show i4 _ a=some l' from hi) (e2.get ra)
   have hn:n < 2 ^ 62:=by
    obtain ⟨_,_,⟨z,hz',_⟩,_⟩:=W
    have:=(List.getElem?_eq_some_iff.mp hz').1
    omega
   exact ⟨a',vs2,w,n,rfl,rfl,hq2,ar1 rs2 rw' W,hn,(q.ext (e1.trans e2)).now R2 (.int n)⟩
theorem aV2 {q p2 pos2:Pos} (hc:X.calm=true) (ha:PE X a (LE X.K Ξ (wpE P ma))) (hgl:Gl X "list") (hml:X.mg "list"=none) (hg:Gl X "range") (hm:X.mg "range"=none) (hs:starEach [a] X.env=[(false,eval a X.env)]) :
  PE X (.Call (.Name "list" p2) [.Call (.Name "range" q) [a] [] pos] [] pos2) (LE X.K Ξ (wpE P (.prim .lrng1 (.cons ma .nil)))) :=
 (N8 (Z4 hc) hgl hml (by first | exact PyProof.Rows.boot_list | decide +kernel) (R6 (aN9 hg hm (G0 hP ha (V0 hP) (by rw [hs];rfl)) hs) V3)).imp fun σv H Q ⟨σ,g,ρ,s,R,h⟩=>by
  simp only [wpE] at h
  refine thA hP s R (.refl _ _) h fun xs g1 ρ1 H1 vs e1 R1 r1 h=>?_
  obtain ⟨d',g',⟨j,rfl,h1,h2,rfl,rfl⟩,q⟩:=h
  obtain ⟨v,rfl,rv⟩:=r1.one
  obtain rfl:=rv.k9
  refine ⟨j,rfl,fun q' hq=>⟨q',0,j,rfl,o9,⟨by omega,by omega,h1,by omega,by omega⟩,fun p hp=>?_⟩⟩
  rw [show (j - 0).toNat=j.toNat by omega]
  exact (q.ext (e1.trans (u6 hq))).new (R1.grow hq) hp (a9.rng 0 _)
theorem aV1 {q p2 pos2:Pos} (hc:X.calm=true) (ha:PE X a (LE X.K Ξ (wpE P ma))) (hb:PE X b (LE X.K Ξ (wpE P mb))) (hgl:Gl X "list") (hml:X.mg "list"=none) (hg:Gl X "range") (hm:X.mg "range"=none) (hs:starEach [a,b] X.env=[(false,eval a X.env),(false,eval b X.env)]) (hs2:starEach [b] X.env=[(false,eval b X.env)]) :
  PE X (.Call (.Name "list" p2) [.Call (.Name "range" q) [a,b] [] pos] [] pos2) (LE X.K Ξ (wpE P (.prim .lrng2 (.cons ma (.cons mb .nil))))) :=
 (N8 (Z4 hc) hgl hml (by first | exact PyProof.Rows.boot_list | decide +kernel) (R6 (aN8 hg hm (G0 hP ha (G0 hP hb (V0 hP) (by rw [hs2];rfl)) (by rw [hs,hs2])) hs hs2) V3)).imp fun σv H Q ⟨σ,g,ρ,s,R,h⟩=>by
  simp only [wpE] at h
  refine thA hP s R (.refl _ _) h fun xs g1 ρ1 H1 vs e1 R1 r1 h=>?_
  obtain ⟨d',g',⟨i,j,rfl,hb,rfl,rfl⟩,q⟩:=h
  obtain ⟨v,w,rfl,rv,rw'⟩:=r1.two
  obtain rfl:=rv.k9
  obtain rfl:=rw'.k9
  exact ⟨i,j,rfl,fun q' hq=>⟨q',i,j,rfl,o9,hb,fun p hp=>(q.ext (e1.trans (u6 hq))).new (R1.grow hq) hp (a9.rng i _)⟩⟩
theorem bm0 {f:Str} (ha:PE X a (LE X.K Ξ (wpE P ma))) (hb:attributeBase a f X.env (eval a X.env)=eval a X.env):PE X (.Attribute a f pos) (LE X.K Ξ (wpE P (.prim (.fld f) (.cons ma .nil)))) :=
 (bp1 ha hb).imp fun σv H Q ⟨σ,g,ρ,s,R,h⟩=>by
  simp only [wpE,wpA] at h
  refine thE hP s R (.refl _ _) h fun x g1 ρ1 H1 v1 e1 R1 r1 h=>?_
  obtain ⟨d',g',⟨i,c,fs,ex,hi,hf,rfl⟩,q⟩:=h
  cases ex
  obtain ⟨a',rfl,ra⟩:=r1.l9
  obtain ⟨C,dx,vs,hH,_,hC,rk,na⟩:=R1.ins hi ra
  have lk:=rk.look f
  rw [hf] at lk
  obtain ⟨v,hv,rv⟩:=lk.some
  exact ⟨a',C,dx,vs,v,rfl,hH,hC,na _ (PySem.mem_of_lookup hf),hv,q ρ1 H1 v e1 R1 rv⟩
theorem bl6 {i j:Nat} {x y:Str} {q1 q2 p1 p2 p3 p4 px py pos2:Pos} (hc:X.calm=true) (hi:X.N[i]?=some x) (hj:X.N[j]?=some y) (vx:Vis X.env.scope x) (vy:Vis X.env.scope y) (dx:(x == ("__debug__":Str))=false) (cx:(x == ("__classdict__":Str))=false) (dy:(y == ("__debug__":Str))=false) (cy:(y == ("__classdict__":Str))=false)
  (hgl:Gl X "sorted") (hml:X.mg "sorted"=none) (hg:Gl X "set") (hm:X.mg "set"=none) :
  PE X (.Call (.Name "sorted" p2) [.BinOp (.Call (.Name "set" q1) [.Name x px] [] p1) .BitOr (.Call (.Name "set" q2) [.Name y py] [] p3) p4] [] pos2) (LE X.K Ξ (wpE P (.prim .sun (.cons (.var i) (.cons (.var j) .nil))))) :=
 (aw0 (al8 hc) hgl hml (by first | exact PyProof.Rows.boot_sorted | decide +kernel) (R6 (a69 aO2 (N8 (ab2 hc) hg hm (by first | exact PyProof.Rows.boot_set | decide +kernel) (R6 (av9 hi vx dx cx) V3)) (N8 (ab2 hc) hg hm (by first | exact PyProof.Rows.boot_set | decide +kernel) (R6 (av9 hj vy dy cy) V3))) V3)).imp fun σv H Q ⟨σ,g,ρ,s,R,h⟩=>by
  simp only [wpE,wpA] at h
  obtain ⟨d1,e1,d2,e2,d',g',⟨ns,ms,ex,hns,hms,hl,rfl,rfl⟩,q⟩:=h
  cases ex
  obtain ⟨v1,s1,r1⟩:=s.val _ _ e1
  obtain ⟨v2,s2,r2⟩:=s.val _ _ e2
  obtain ⟨a1,vs1,rfl,t1,rs1⟩:=r1.A2
  obtain rfl:=rs1.ints
  refine ⟨.ref a1,s1,a1,ns,rfl,t1.sq,by omega,fun p1 hp1=>?_⟩
  obtain ⟨a2,vs2,rfl2,t2,rs2⟩:=(r2.ext (u6 (o:=Z9 X p1 (ST.j5 [] ns)) hp1)).A2
  obtain rfl:=rs2.ints
  refine ⟨.ref a2,by rw [<- rfl2];exact s2,a2,ms,rfl,t2.sq,by omega,fun p2 hp2=>?_⟩
  have hne:p1 ≠ p2:=p0 (o9 (H:=H) (o:=Z9 X p1 (ST.j5 [] ns))) hp2
  refine ⟨p1,p2,ns,ms,rfl,rfl,hne,by rw [j6 hne];exact o9,o9,hns,hms,hl,fun p3 hp3=>⟨p3,ns ++ ms,rfl,o9,by rw [List.length_append];omega,fun p hp=>?_⟩⟩
  exact (q.ext (((u6 hp1).trans (u6 hp2)).trans (u6 hp3))).new (((R.grow hp1).grow hp2).grow hp3) hp (a9.ofInts _)
end
section
variable {X:Cx} {Ξ:XKE} {P:Sig} {a b c:Expr} {ma mb mc:ME} {pos:Pos}
theorem bl4 {i:Nat} {x:Str} (hN:X.N[i]?=some x) (hv:Vis X.env.scope x) (hd:(x == ("__debug__":Str))=false) (hcd:(x == ("__classdict__":Str))=false):PE X (.Name x pos) (LE X.K Ξ (wpE P (.var i))) :=
 (av9 hN hv hd hcd).imp fun σv H Q ⟨σ,g,ρ,s,R,h⟩=>by
  simp only [wpE] at h
  obtain ⟨d,e,h⟩:=h
  obtain ⟨v,h1,h2⟩:=s.val _ _ e
  exact ⟨v,h1,h.now R h2⟩
theorem U9 {e:Expr} {d:D} {v:V} (h:PE X e (tC v)) (r:∀ ρ H,d9 X.K ρ H d v):PE X e (LE X.K Ξ (wpE P (.lit d))) :=
 h.imp fun σv H Q ⟨σ,g,ρ,s,R,h⟩=>by
  simp only [wpE] at h
  exact LQ.now h R (r ρ H)
theorem bb3:PE X (.Dict [] [] pos) (LE X.K Ξ (wpE P (.prim .dnew .nil))) :=
 (aX0 (X:=X)).imp fun σv H Q ⟨σ,g,ρ,s,R,h⟩ p hp=>by
  simp only [wpE,wpA] at h
  obtain ⟨d',g',⟨_,rfl,rfl⟩,q⟩:=h
  exact q (ρ ++ [p]) _ _ (T4 hp) (R.new hp (o:=.dic []) (u:=.dK []) i9.nil) (.ref (R.B7 p))
end
end M

namespace L2
open PySem PySem.Spec PyProof.Rows
section
variable {X:Cx} {m:Str} {pos apos:Pos} {e o:Expr} {es:List Expr} {ta:TE} {t:TA}
noncomputable def bj4 (X:Cx) (m:Str) (E:XK) (ta:TE) (t:TA):TE:=fun σ H Q=>ta σ H fun x H1=>∃ a C dx fs f fd ps k sp,x=.ref a/\H1 a=some (.ins C dx fs)/\fs.lookup m=none/\Cls X.K C/\Meth X.K C m f /\
 FnOk X.prog X.w X.K X.mg X.base (CXE X.prog X.w) k f fd ps sp/\p8 k X.A/\Binds X.K fd ps []/\t σ H1 fun vs H2=>sp (x :: (vs ++ [])) H2 Q E
theorem aW6 {pl:Sem Bool} {E:XK} (he:PE X o ta) (hx:Passes (CXE X.prog X.w) X E) (ha:PA X (e :: es) t)
  (hst:starEach (e :: es) X.env=(false,eval e X.env) :: starEach es X.env) (hpl:(backTo pos (starEach es X.env)).any (·.1)=false)
  (ht:eval (.Call (.Attribute o m apos) (e :: es) [] pos) X.env=(do
   let ov <- eval o X.env
   standAt apos.atName
   let (f,first) <- holding [ov] (getMethod ov m pl)
   callWith pos f first (backTo pos (starEach (e :: es) X.env)) (backToKw pos (keywordEach [] X.env)))) :
  PE X (.Call (.Attribute o m apos) (e :: es) [] pos) (bj4 X m E ta t):=by
 intro pins s σ H Q I h
 refine PySem.W.methodCall_KW (pl:=pl) (thn (he pins s σ H _ I h) fun u s1 ⟨x,H1,I1,rx,a,C,dx,fs,f,fd,ps,k,sp,ex,ea,l,c,hm,F,hr,hb,q⟩=>?_) ht
 subst ex
 obtain rfl:u=Value.ref a:=rx
 refine ak6 I1 ea c hm l ?_
 refine PySem.W.callWith_K (first:=[.ref a]) (h₀:=X.base) I.ok.mod.kin hm.kp (thn (ha pos pins s1 σ H1 _ I1 q) fun us s2 ⟨vs,H2,I2,r,q2⟩=>⟨I2.kIn,?_⟩) hst hpl
 exact av4 (us:=.ref a :: us) (vs:=.ref a :: vs) F hr hb .nil hx I2 (.cons rfl r) q2
noncomputable def a98 (X:Cx) (m:Str) (E:XK) (ta:TE):TE:=fun σ H Q=>ta σ H fun x H1=>∃ a C dx fs f fd ps k sp,x=.ref a/\H1 a=some (.ins C dx fs)/\fs.lookup m=none/\Cls X.K C/\Meth X.K C m f /\
 FnOk X.prog X.w X.K X.mg X.base (CXE X.prog X.w) k f fd ps sp/\p8 k X.A/\Binds X.K fd ps []/\sp [x] H1 Q E
theorem aO0 {pl:Sem Bool} {E:XK} (he:PE X o ta) (hx:Passes (CXE X.prog X.w) X E)
  (ht:eval (.Call (.Attribute o m apos) [] [] pos) X.env=(do
   let ov <- eval o X.env
   standAt apos.atName
   let (f,first) <- holding [ov] (getMethod ov m pl)
   callWith pos f first (backTo pos (starEach [] X.env)) (backToKw pos (keywordEach [] X.env)))) :
  PE X (.Call (.Attribute o m apos) [] [] pos) (a98 X m E ta):=by
 intro pins s σ H Q I h
 refine PySem.W.methodCall_KW (pl:=pl) (thn (he pins s σ H _ I h) fun u s1 ⟨x,H1,I1,rx,a,C,dx,fs,f,fd,ps,k,sp,ex,ea,l,c,hm,F,hr,hb,q⟩=>?_) ht
 subst ex
 obtain rfl:u=Value.ref a:=rx
 refine ak6 I1 ea c hm l ?_
 exact PySem.W.callWith_K0 (first:=[.ref a]) I1.kIn hm.kp (av4 (us:=[.ref a]) (vs:=[.ref a]) (dvs:=[]) F hr hb .nil hx I1 (.cons rfl .nil) q)
end
end L2
namespace M
open PySem L2 PySem.Spec PyProof.Rows
inductive ai2 (K:PySem.W.Frag):List D->List (Str × V)->Prop
 | nil:ai2 K [] []
 | cons {x:Str} {d:D} {v:V} {ds:List D} {vs:List (Str × V)} (h:∀ ρ H,d9 K ρ H d v) (r:ai2 K ds vs):ai2 K (.tup [.str x,d] :: ds) ((x,v) :: vs)
theorem ai2.look {K:PySem.W.Frag} {ρ:List Addr} {H:Hp} {ds vs} (x:Str) (h:ai2 K ds vs):Z2 K ρ H (ak2 ds x) (vs.lookup x):=by
 induction h with
 | nil=>trivial
 | cons h r ih =>
  rename_i y d v ds vs
  unfold ak2
  rw [List.lookup_cons]
  by_cases e:x=y
  ·rw [if_pos e,show (x == y)=true from by simp [e]];exact h ρ H
  ·rw [if_neg e,show (x == y)=false from by simpa using e];exact ih
noncomputable def bF3 (X:Cx) (x:Str) (kvs:List D):Prop:=∃ A vs,X.mg x=some (.ref A)/\a90 X.K X.w.params A vs/\ai2 X.K kvs vs
noncomputable def bB5 (neg:Bool):Pr:=if neg then .gnin else .gin
theorem aL9 (a b c:Str):a ++ b ++ c=a ++ (b ++ c):=by
 cases a;cases b;cases c
 show Str.mk _=Str.mk _
 exact congrArg Str.mk (Array.append_assoc ..)
theorem ba3 (x:Str):x ++ Str.empty=x:=by cases x;show Str.mk _=_;simp [Str.empty]
section
variable {X:Cx} {Ξ:XKE} {P:Sig} (hP:j9 P) {a b c:Expr} {ma mb mc:ME} {pos:Pos}
include hP
omit hP in
inductive FOk (X:Cx) (Ξ:XKE) (P:Sig):List Expr->ME->List TE->Prop
 | nil:FOk X Ξ P [] .nil []
 | lit {x:Str} {j:Nat} {p:Pos} {es:List Expr} {ms:ME} {ts:List TE} (hx:x.length <= 2000) (r:FOk X Ξ P es ms ts):FOk X Ξ P (.Constant (.str x) j p :: es) (.cons (.lit (.str x)) ms) (LE X.K Ξ (wpE P (.lit (.str x))) :: ts)
 | val {e:Expr} {m:ME} {p:Pos} {es:List Expr} {ms:ME} {ts:List TE} (he:PE X e (LE X.K Ξ (wpE P m))) (r:FOk X Ξ P es ms ts):FOk X Ξ P (.FormattedValue e (-1) none p :: es) (.cons (.prim .fv (.cons m .nil)) ms) (LE X.K Ξ (wpE P (.prim .fv (.cons m .nil))) :: ts)
theorem FOk.join {σv:L2.St} {Q:Str->Hp->Prop} {es ms ts} (hf:FOk X Ξ P es ms ts):∀ {σ:S} {g:G} {ρ:List Addr} {H:Hp} {acc:Str},acc.length + 2000 * es.length <= 100000->n4 X.K ρ H σ σv->Rl X.K ρ g H ->
  wpA P ms σ g (fun ds g1=>∃ x,Y1 ds=some x/\∀ ρ' H',Ext ρ H ρ' H'->Rl X.K ρ' g1 H'->Q (acc ++ x) H') (LX X.K ρ H Ξ)->a31 ts σv H acc (fun out H1=>out.length <= sizeLine/\Q out H1):=by
 have tl:∀ {acc y:Str} {ρ:List Addr} {H:Hp} {ρ1:List Addr} {H1:Hp} {ds:List D} {g1:G},Ext ρ H ρ1 H1->(∃ x,Y1 (.str y :: ds)=some x/\∀ ρ' H',Ext ρ H ρ' H'->Rl X.K ρ' g1 H'->Q (acc ++ x) H')->∃ x,Y1 ds=some x/\∀ ρ' H',Ext ρ1 H1 ρ' H'->Rl X.K ρ' g1 H'->Q (acc ++ y ++ x) H':=by
  intro acc y ρ H ρ1 H1 ds g1 e1 h
  obtain ⟨x,hx,h⟩:=h
  simp only [Y1] at hx
  cases hj:Y1 ds with
  | none=>rw [hj] at hx;cases hx
  | some x' =>
   rw [hj] at hx;cases hx
   refine ⟨x',rfl,fun ρ' H' e' R'=>?_⟩
   rw [aL9]
   exact h ρ' H' (e1.trans e') R'
 induction hf with
 | nil =>
  intro σ g ρ H acc ha s R h
  simp only [wpA] at h
  obtain ⟨x,hx,h⟩:=h
  cases hx
  rw [ba3] at h
  exact ⟨m9 (by simpa using ha),h ρ H (.refl _ _) R⟩
 | lit hx r ih =>
  rename_i y j p es ms ts
  intro σ g ρ H acc ha s R h
  simp only [wpA,wpE] at h
  refine ⟨σ,g,ρ,s,R,?_⟩
  simp only [wpE]
  intro ρ1 H1 v1 e1 R1 r1
  obtain rfl:=r1.N5
  have hl:(acc ++ y).length <= acc.length + 2000:=by rw [strLen_append];omega
  simp only [List.length_cons] at ha
  exact ⟨y,rfl,m9 (by omega),ih (by omega) (s.ext e1) R1 (u9 hP _ _ _ _ _ _ _ (fun ds g1 h=>tl e1 h) (fun _ _ z=>LX.ext e1 z) h)⟩
 | val he r ih =>
  rename_i e m p es ms ts
  intro σ g ρ H acc ha s R h
  simp only [wpA,wpE] at h
  refine ⟨σ,g,ρ,s,R,?_⟩
  simp only [wpE,wpA]
  simp only [List.length_cons] at ha
  refine c9 hP m _ _ _ _ _ _ (fun d g1 h=>?_) (fun _ _ z=>z) h
  obtain ⟨d',g',⟨rfl,h⟩,q⟩:=h
  have hy:∃ y,d'=.str y/\y.length <= 2000:=by
   rcases h with ⟨i,ex,h1,rfl⟩ | ⟨z,ex,h1,rfl⟩
   ·exact ⟨_,rfl,by rw [PySem.ofString_length];have:=int_text_length_le (k:=1920) (by decide) h1;omega⟩
   ·exact ⟨z,rfl,h1⟩
  obtain ⟨y,rfl,hy⟩:=hy
  refine ⟨_,_,⟨rfl,h⟩,fun ρ1 H1 v1 e1 R1 r1=>?_⟩
  obtain rfl:=r1.N5
  have hl:(acc ++ y).length <= acc.length + 2000:=by rw [strLen_append];omega
  exact ⟨y,rfl,m9 (by omega),ih (by omega) (s.ext e1) R1 (u9 hP _ _ _ _ _ _ _ (fun ds g1 h=>tl e1 h) (fun _ _ z=>LX.ext e1 z) q)⟩
omit hP in
noncomputable def spD (ex:List Str) (K:PySem.W.Frag) (n:Nat) (t:List D->G->KD->KX->Prop):Sp:=fun vs H Q E=>vs.length=n/\∃ ds g ρ,a9 K ρ H ds vs/\Rl K ρ g H/\t ds g (LQ K ρ H Q) (LX K ρ H (ex,E))
omit hP in
noncomputable def FnR (X:Cx) (P:Sig) (ex:List Str) (k f:Nat) (fa:Addr) (fd:FuncData) (ps:List Str):Prop :=
 FnOk X.prog X.w X.K X.mg X.base (CXE X.prog X.w) k fa fd ps (spD ex X.K ps.length (P f))/\Binds X.K fd ps []/\∀ ds g Q E,P f ds g Q E->ds.length=ps.length
theorem as5 {k f:Nat} {fa:Addr} {fd:FuncData} {ps:List Str} (F:FnR X P Ξ.1 k f fa fd ps) {ρ ρ0:List Addr} {H H0:Hp} {g:G} {xs:List D} {vs:List V} {Q0:KD} {Q:VK} (e0:Ext ρ0 H0 ρ H) (R:Rl X.K ρ g H) (r:a9 X.K ρ H xs vs) (h:P f xs g Q0 (LX X.K ρ0 H0 Ξ))
  (k:∀ d g',Q0 d g'->LQ X.K ρ H Q d g'):spD Ξ.1 X.K ps.length (P f) (vs ++ []) H Q Ξ.2:=by
 rw [List.append_nil]
 exact ⟨by rw [<- r.length];exact F.2.2 _ _ _ _ h,xs,g,ρ,r,R,hP _ _ _ _ _ _ _ k (fun _ _ z=>LX.ext e0 z) h⟩
theorem bb4 {k f:Nat} {x:Str} {fa:Addr} {fd:FuncData} {ps:List Str} {es:List Expr} {e:Expr} {mes:ME} {p:Pos}
  (hx:Passes (CXE X.prog X.w) X Ξ.2) (F:FnR X P Ξ.1 k f fa fd ps) (hr:p8 k X.A) (hg:Gl X x) (hm:X.mg x=some (.ref fa)) (hk:PySem.W.keepIn X.K (.ref fa)=true)
  (ha:PA X (e :: es) (LA X.K Ξ (wpA P mes))) (hd:(x == ("__debug__":Str))=false) (hst:starEach (e :: es) X.env=(false,eval e X.env) :: starEach es X.env) (hpl:(backTo pos (starEach es X.env)).any (·.1)=false):PE X (.Call (.Name x p) (e :: es) [] pos) (LE X.K Ξ (wpE P (.call f mes))) :=
 (bd6 F.1 hr hg hm hk F.2.1 .nil hx ha hd hst hpl).imp fun σv H Q ⟨σ,g,ρ,s,R,h⟩=>by
  simp only [wpE] at h
  exact thA hP s R (.refl _ _) h fun xs g1 ρ1 H1 vs e1 R1 r1 h=>as5 hP F e1 R1 r1 h fun d g' h=>h.ext e1
theorem aD2 {c:Str} {f k:Nat} {C fa:Addr} {fd:FuncData} {ps:List Str} (F:FnR X P Ξ.1 k f fa fd ps) (hC:n6 X.K c C) (hc:Cls X.K C) {ρ ρ0:List Addr} {H H0:Hp} {g1:G} {xs:List D} {vs:List V} {Q:VK} (e0:Ext ρ0 H0 ρ H) (R:Rl X.K ρ g1 H) (r:a9 X.K ρ H xs vs)
  (h:P f (.ref g1.length :: xs) (g1 ++ [.ins c []]) (fun d g2=>d=.non/\LQ X.K ρ0 H0 Q (.ref g1.length) g2) (LX X.K ρ0 H0 Ξ)):∀ x dx,H x=none->H dx=none->dx ≠ x->spD Ξ.1 X.K ps.length (P f) (.ref x :: (vs ++ [])) (upd (upd H dx (.own x)) x (.ins C dx [])) (fun v H2=>v=.non/\Q (.ref x) H2) Ξ.2:=by
 intro x dx hx hdx hne
 have hx2:upd H dx (.own x) x=none:=by rw [j6 (Ne.symm hne)];exact hx
 have R2:=R.grow (o:=.own x) hdx
 have e2:Ext ρ H ρ (upd H dx (.own x)):=u6 hdx
 have R3:=R2.new (o:=.ins c []) (u:=.ins C dx []) hx2 ⟨hC,hc,.nil,fun x hx=>absurd hx (by simp)⟩
 have e3:Ext ρ (upd H dx (.own x)) (ρ ++ [x]) (upd (upd H dx (.own x)) x (.ins C dx [])):=T4 hx2
 have:=as5 hP F (e0.trans (e2.trans e3)) R3 (.cons (.ref (R.B7 x)) (r.ext (e2.trans e3))) h (Q:=fun v H2=>v=.non/\Q (.ref x) H2) fun d g' q ρ' H' v e' R' r'=>by
  obtain ⟨rfl,q⟩:=q
  exact ⟨r'.aj6,q ρ' H' _ (e0.trans (e2.trans (e3.trans e'))) R' (.ref (e'.get (R.B7 x)))⟩
 exact this
theorem bb2 {k f:Nat} {x:Str} {C fa:Addr} {fd:FuncData} {ps:List Str} {es:List Expr} {e:Expr} {mes:ME} {p:Pos}
  (hx:Passes (CXE X.prog X.w) X Ξ.2) (F:FnR X P Ξ.1 k f fa fd ps) (M:Mk X.K C fa) (hC:n6 X.K x C) (hc:Cls X.K C) (hr:p8 (k + 1) X.A) (hg:Gl X x) (hm:X.mg x=some (.ref C))
  (ha:PA X (e :: es) (LA X.K Ξ (wpA P mes))) (hd:(x == ("__debug__":Str))=false) (hst:starEach (e :: es) X.env=(false,eval e X.env) :: starEach es X.env) (hpl:(backTo pos (starEach es X.env)).any (·.1)=false):PE X (.Call (.Name x p) (e :: es) [] pos) (LE X.K Ξ (wpE P (.make x f mes))) :=
 (bd2 M F.1 hr hg hm F.2.1 .nil hx ha hd hst hpl).imp fun σv H Q ⟨σ,g,ρ,s,R,h⟩=>by
  simp only [wpE] at h
  exact thA hP s R (.refl _ _) h fun xs g1 ρ1 H1 vs e1 R1 r1 h=>aD2 hP F hC hc e1 R1 r1 h
theorem aV0 {k f:Nat} {x:Str} {C fa:Addr} {fd:FuncData} {ps:List Str} {p:Pos}
  (hx:Passes (CXE X.prog X.w) X Ξ.2) (F:FnR X P Ξ.1 k f fa fd ps) (M:Mk X.K C fa) (hC:n6 X.K x C) (hc:Cls X.K C) (hr:p8 (k + 1) X.A) (hg:Gl X x) (hm:X.mg x=some (.ref C)) (hd:(x == ("__debug__":Str))=false):PE X (.Call (.Name x p) [] [] pos) (LE X.K Ξ (wpE P (.make x f .nil))) :=
 (aW7 M F.1 hr hg hm F.2.1 .nil hx hd).imp fun σv H Q ⟨σ,g,ρ,s,R,h⟩=>by
  simp only [wpE,wpA] at h
  exact aD2 hP F hC hc (.refl _ _) R .nil h
omit hP in
noncomputable def ap3 (X:Cx) (P:Sig) (ex:List Str) (m:Str) (cs:List (Str × Nat)):Prop:=∀ c f C,cs.lookup c=some f->n6 X.K c C->∃ k fa fd ps,Meth X.K C m fa/\FnR X P ex k f fa fd ps/\p8 k X.A
theorem aU8 {m:Str} {cs:List (Str × Nat)} {o e:Expr} {es:List Expr} {mo mes:ME} {apos:Pos} {pl:Sem Bool} (hx:Passes (CXE X.prog X.w) X Ξ.2) (hM:ap3 X P Ξ.1 m cs) (ho:PE X o (LE X.K Ξ (wpE P mo))) (ha:PA X (e :: es) (LA X.K Ξ (wpA P mes)))
  (hst:starEach (e :: es) X.env=(false,eval e X.env) :: starEach es X.env) (hpl:(backTo pos (starEach es X.env)).any (·.1)=false)
  (ht:eval (.Call (.Attribute o m apos) (e :: es) [] pos) X.env=(do
   let ov <- eval o X.env
   standAt apos.atName
   let (f,first) <- holding [ov] (getMethod ov m pl)
   callWith pos f first (backTo pos (starEach (e :: es) X.env)) (backToKw pos (keywordEach [] X.env)))):PE X (.Call (.Attribute o m apos) (e :: es) [] pos) (LE X.K Ξ (wpE P (.methc m cs mo mes))) :=
 (aW6 ho hx ha hst hpl ht).imp fun σv H Q ⟨σ,g,ρ,s,R,h⟩=>by
  simp only [wpE] at h
  refine thE hP s R (.refl _ _) h fun x g1 ρ1 H1 v1 e1 R1 r1 h=>?_
  obtain ⟨i,c,fs,f,rfl,hi,hf,hcs,h⟩:=h
  obtain ⟨a',rfl,ra⟩:=r1.l9
  obtain ⟨C,dx,vs,hH,hC,hcl,rk,na⟩:=R1.ins hi ra
  obtain ⟨k,fa,fd,ps,M,F,hr⟩:=hM c f C hcs hC
  have lk:=rk.look m
  rw [hf] at lk
  have hl:vs.lookup m=none:=by cases e:vs.lookup m with | none=>rfl | some w=>rw [e] at lk;exact lk.elim
  refine ⟨a',C,dx,vs,fa,fd,ps,k,_,rfl,hH,hl,hcl,M,F.1,hr,F.2.1,?_⟩
  exact thA hP (s.ext e1) R1 e1 h fun xs g2 ρ2 H2 ws e2 R2 r2 h=>as5 hP F (e1.trans e2) R2 (.cons (.ref (e2.get ra)) r2) h fun d g' h=>h.ext (e1.trans e2)
theorem aM4 {m:Str} {cs:List (Str × Nat)} {o:Expr} {mo:ME} {apos:Pos} {pl:Sem Bool} (hx:Passes (CXE X.prog X.w) X Ξ.2) (hM:ap3 X P Ξ.1 m cs) (ho:PE X o (LE X.K Ξ (wpE P mo)))
  (ht:eval (.Call (.Attribute o m apos) [] [] pos) X.env=(do
   let ov <- eval o X.env
   standAt apos.atName
   let (f,first) <- holding [ov] (getMethod ov m pl)
   callWith pos f first (backTo pos (starEach [] X.env)) (backToKw pos (keywordEach [] X.env)))):PE X (.Call (.Attribute o m apos) [] [] pos) (LE X.K Ξ (wpE P (.methc m cs mo .nil))) :=
 (aO0 ho hx ht).imp fun σv H Q ⟨σ,g,ρ,s,R,h⟩=>by
  simp only [wpE,wpA] at h
  refine thE hP s R (.refl _ _) h fun x g1 ρ1 H1 v1 e1 R1 r1 h=>?_
  obtain ⟨i,c,fs,f,rfl,hi,hf,hcs,h⟩:=h
  obtain ⟨a',rfl,ra⟩:=r1.l9
  obtain ⟨C,dx,vs,hH,hC,hcl,rk,na⟩:=R1.ins hi ra
  obtain ⟨k,fa,fd,ps,M,F,hr⟩:=hM c f C hcs hC
  have lk:=rk.look m
  rw [hf] at lk
  have hl:vs.lookup m=none:=by cases e:vs.lookup m with | none=>rfl | some w=>rw [e] at lk;exact lk.elim
  exact ⟨a',C,dx,vs,fa,fd,ps,k,_,rfl,hH,hl,hcl,M,F.1,hr,F.2.1,as5 hP F e1 R1 (.cons (.ref ra) .nil) h fun d g' h=>h.ext e1⟩
end
end M

namespace M
open PySem L2 PySem.Spec PyProof.Rows
inductive PRels (K:PySem.W.Frag) (ρ:List Addr) (H:Hp):List D->List (V × V)->Prop
 | nil:PRels K ρ H [] []
 | cons {k d:D} {x y:V} {ds:List D} {ps:List (V × V)} (h1:d9 K ρ H k x) (h2:d9 K ρ H d y) (r:PRels K ρ H ds ps):PRels K ρ H (k :: d :: ds) ((x,y) :: ps)
theorem bt1 {K ρ H} {xs:List D} {ps:List (V × V)} (r:PRels K ρ H xs ps):∀ {acc kvs:List (Key × D)} {accV:List (Key × V)},ao4 xs acc=some kvs->i9 K ρ H acc accV->∃ more:List (Key × V),ps=more.map (fun kv=>(kV kv.1,kv.2))/\2 * more.length=xs.length/\i9 K ρ H kvs (S7 accV more):=by
 induction r with
 | nil =>
  intro acc kvs accV h ra
  cases h
  exact ⟨[],rfl,rfl,ra⟩
 | cons h1 h2 r ih =>
  rename_i k d x y ds ps
  intro acc kvs accV h ra
  simp only [ao4] at h
  cases hk:Y0 k with
  | none=>rw [hk] at h;cases h
  | some c =>
   rw [hk] at h
   obtain ⟨more,e1,e2,r2⟩:=ih (show ao4 ds (putD acc c d)=some kvs from h) (ra.put h2)
   have ex:=ac9 hk h1
   subst ex
   refine ⟨(c,y) :: more,by rw [List.map_cons,<- e1],by simp only [List.length_cons];omega,r2⟩
section
variable {X:Cx} {Ξ:XKE} {P:Sig} (hP:j9 P) {pos:Pos}
inductive DOk (X:Cx) (Ξ:XKE) (P:Sig):List (Option Expr)->List Expr->ME->List (TE × TE)->Prop
 | nil:DOk X Ξ P [] [] .nil []
 | cons {k v:Expr} {ks:List (Option Expr)} {vs:List Expr} {mk mv ms:ME} {trs:List (TE × TE)} (hk:PE X k (LE X.K Ξ (wpE P mk))) (hv:PE X v (LE X.K Ξ (wpE P mv))) (r:DOk X Ξ P ks vs ms trs) :
   DOk X Ξ P (some k :: ks) (v :: vs) (.cons mk (.cons mv ms)) ((LE X.K Ξ (wpE P mk),LE X.K Ξ (wpE P mv)) :: trs)
theorem DOk.pps {ks vs ms trs} (h:DOk X Ξ P ks vs ms trs):PPs X pos ks vs trs:=by
 induction h with
 | nil=>exact bc9
 | cons hk hv r ih=>exact aW2 hk hv ih
theorem DOk.len {ks vs ms trs} (h:DOk X Ξ P ks vs ms trs):ks.all (·.isSome)=true/\ks.length=vs.length:=by
 induction h with
 | nil=>exact ⟨rfl,rfl⟩
 | cons hk hv r ih=>exact ⟨by simpa using ih.1,by simp [ih.2]⟩
include hP
theorem DOk.pairs {ks vs ms trs} (hd:DOk X Ξ P ks vs ms trs):∀ {σv:L2.St} {σ:S} {g:G} {ρ ρ0:List Addr} {H H0:Hp} {Qd:List D->G->Prop} {Q:List (V × V)->Hp->Prop},n4 X.K ρ H σ σv->Rl X.K ρ g H->Ext ρ0 H0 ρ H->wpA P ms σ g Qd (LX X.K ρ0 H0 Ξ) ->
  (∀ ds g' ρ' H' ps,Ext ρ H ρ' H'->Rl X.K ρ' g' H'->PRels X.K ρ' H' ds ps->Qd ds g'->Q ps H')->ai8 trs σv H Q:=by
 induction hd with
 | nil =>
  intro σv σ g ρ ρ0 H H0 Qd Q s R e0 h k
  simp only [wpA] at h
  exact k [] g ρ H [] (.refl _ _) R .nil h
 | cons hk hv r ih =>
  intro σv σ g ρ ρ0 H H0 Qd Q s R e0 h k
  simp only [wpA] at h
  refine thE hP s R e0 h fun x g1 ρ1 H1 v1 e1 R1 r1 h=>thE hP (s.ext e1) R1 (e0.trans e1) h fun y g2 ρ2 H2 v2 e2 R2 r2 h=>?_
  refine ih (s.ext (e1.trans e2)) R2 (e0.trans (e1.trans e2)) h fun ds g' ρ' H' ps e' R' rp hq=>?_
  exact k _ g' ρ' H' _ (e1.trans (e2.trans e')) R' (.cons (r1.ext (e2.trans e')) (r2.ext e') rp) hq
theorem bm1 {ks:List (Option Expr)} {vs:List Expr} {ms:ME} {trs:List (TE × TE)} (hd:DOk X Ξ P ks vs ms trs) (h0:ks ≠ []) (h15:ks.length <= 15):PE X (.Dict ks vs pos) (LE X.K Ξ (wpE P (.dct ms))) :=
 (bd4 hd.pps hd.len.1 hd.len.2 h0 h15).imp fun σv H Q ⟨σ,g,ρ,s,R,h⟩ p hp=>by
  simp only [wpE] at h
  have e1:Ext ρ H (ρ ++ [p]) (upd H p (.dK [])):=T4 hp
  refine DOk.pairs hP hd (s.ext e1) (R.new hp (o:=.dic []) (u:=.dK []) i9.nil) e1 h fun ds g2 ρ2 H2 ps e2 R2 rp hq=>?_
  obtain ⟨kvs,hk,hz,hg,q⟩:=hq
  have hp2:ρ2[g.length]?=some p:=e2.get (R.B7 p)
  obtain ⟨vs',hv,rv⟩:=R2.dic hg hp2
  cases rv
  obtain ⟨more,em,hl,rk⟩:=bt1 rp hk (accV:=[]) .nil
  refine ⟨hv,more,em,by omega,?_⟩
  obtain ⟨R3,e3⟩:=R2.put (o':=.dic kvs) (u:=.dK (S7 [] more)) hg rfl hp2 rk
  exact q ρ2 _ _ (e1.trans (e2.trans e3)) R3 (.ref hp2)
end
end M

namespace M
open PySem L2 PySem.Spec PyProof.Rows
theorem bA5 {K:PySem.W.Frag} {ρ0:List Addr} {H0:Hp} {a:Addr} {l:List D} {vs:List V} (ht:TupAt K H0 a vs) (rs:a9 K ρ0 H0 l vs):ap4 K ρ0 H0 (.fix l) (Itt K a):=by
 intro ρ g H e R i
 have ht':=ht.ext e
 have rs':=rs.ext e
 refine ⟨fun h=>⟨vs,ht'.sq,?_⟩,fun d h=>?_⟩
 ·simp only [IK.at] at h
  have:=List.getElem?_eq_none_iff.mp (Option.some.inj h)
  rw [<- rs'.length];exact this
 ·simp only [IK.at] at h
  obtain ⟨v,hv,rv⟩:=rs'.get (Option.some.inj h)
  refine ⟨⟨vs,v,ht'.sq,hv⟩,fun w H' y=>?_⟩
  obtain ⟨rfl,y⟩:=y
  have:=y vs ht'.sq
  rw [hv] at this;cases this
  exact ⟨.refl _ _,R,rv⟩
theorem bA6 {K:PySem.W.Frag} {ρ0:List Addr} {H0:Hp} {a:Addr} {j:Nat} (ha:ρ0[j]?=some a):ap4 K ρ0 H0 (.lst j) (Itl K a):=by
 intro ρ g H e R i
 have ha':=e.get ha
 refine ⟨fun h=>?_,fun d h=>?_⟩
 ·simp only [IK.at] at h
  cases el:i4 g j with
  | none=>rw [el] at h;cases h
  | some l =>
   rw [el] at h
   obtain ⟨vs,hq,rs⟩:=R.items el ha'
   refine ⟨vs,hq,?_⟩
   have:=List.getElem?_eq_none_iff.mp (Option.some.inj h)
   rw [<- rs.length];exact this
 ·simp only [IK.at] at h
  cases el:i4 g j with
  | none=>rw [el] at h;cases h
  | some l =>
   rw [el] at h
   obtain ⟨vs,hq,rs⟩:=R.items el ha'
   obtain ⟨v,hv,rv⟩:=rs.get (Option.some.inj h)
   refine ⟨⟨vs,v,hq,hv⟩,fun w H' y=>?_⟩
   obtain ⟨rfl,y⟩:=y
   have:=y vs hq
   rw [hv] at this;cases this
   exact ⟨.refl _ _,R,rv⟩
theorem a75 {K:PySem.W.Frag} {ρ0:List Addr} {H0:Hp} {lo:Int} {n:Nat}:ap4 K ρ0 H0 (.fix (j0 lo n)) (Itr lo n):=by
 unfold j0
 intro ρ g H e R i
 refine ⟨fun h=>?_,fun d h=>?_⟩
 ·simp only [IK.at] at h
  have:=List.getElem?_eq_none_iff.mp (Option.some.inj h)
  show n <= i
  simpa using this
 ·simp only [IK.at] at h
  have h:=Option.some.inj h
  have hi:i < n:=by
   have:=(List.getElem?_eq_some_iff.mp h).1
   simpa using this
  rw [List.getElem?_map,List.getElem?_range hi] at h
  cases h
  refine ⟨hi,fun w H' y=>?_⟩
  obtain ⟨rfl,rfl⟩:=y
  exact ⟨.refl _ _,R,.int _⟩
end M
namespace L2
open PySem PySem.Spec PyProof.Rows
theorem bo0 {X:Cx} {tg l:Expr} {tl:TE} (hl:PE X l tl):PI X tg l (fun σ H R=>tl σ H fun x H1=>(∃ a,x=.ref a/\(∃ xs,SqL X.K H1 a xs)/\R (Itl X.K a) H1) \/ (∃ a,x=.ref a/\(∃ xs,SqT X.K H1 a xs)/\R (Itt X.K a) H1)):=by
 intro pins s σ H R I h
 refine thn (hl pins s σ H _ I h) fun v s1 ⟨x,H1,I1,r1,q1⟩=>?_
 rcases q1 with ⟨a,e,⟨xs,hq⟩,q⟩ | ⟨a,e,⟨xs,hq⟩,q⟩
 ·subst e
  cases r1
  obtain ⟨its,rv,p,hz⟩:=I1.list hq
  refine wpAny_pyIter_list p.isList ?_
  refine ⟨s1.heap.objs.size,[s1.heap.objs.size],_,_,H1,rfl,I1.kept (t':=s1.toks) fun b o e=>Heap.get?_push_of_some _ e,aL2 a _,⟨_,Heap.get?_push_size _ rfl,rfl,rfl⟩,fun b hb=>?_,q⟩
  have e:b=s1.heap.objs.size:=by simpa using hb
  subst e
  exact I1.ao2 (Nat.le_refl _) (I1.hok.fresh (Nat.le_refl _))
 ·subst e
  cases r1
  obtain ⟨its,rv,p,hz⟩:=I1.tuple hq
  refine wpAny_pyIter_tuple (show s1.heap.IsTuple a its.toArray from p) ?_
  refine ⟨s1.heap.objs.size,[s1.heap.objs.size],_,_,H1,rfl,I1.kept (t':=s1.toks) fun b o e=>Heap.get?_push_of_some _ e,aF0 a _,⟨_,Heap.get?_push_size _ rfl,rfl,rfl⟩,fun b hb=>?_,q⟩
  have e:b=s1.heap.objs.size:=by simpa using hb
  subst e
  exact I1.ao2 (Nat.le_refl _) (I1.hok.fresh (Nat.le_refl _))
end L2
namespace M
open PySem L2 PySem.Spec PyProof.Rows
section
variable {X:Cx} {Ξ:XKE} {P:Sig} (hP:j9 P) {a b c tg:Expr} {ma mb mc:ME} {pos p:Pos}
include hP
theorem bk9 (ha:PE X a (LE X.K Ξ (wpE P ma))):PI X tg a (LI X.K Ξ (wpI P (.itE ma))) :=
 (bo0 ha).imp fun σv H R ⟨σ,g,ρ,s,Rr,h⟩=>by
  simp only [wpI] at h
  refine thE hP s Rr (.refl _ _) h fun x g1 ρ1 H1 v1 e1 R1 r1 h=>?_
  rcases h with ⟨l,rfl,h⟩ | ⟨i,l,rfl,hl,h⟩
  ·obtain ⟨a',vs,rfl,ht,rs⟩:=r1.A2
   exact .inr ⟨_,rfl,⟨_,ht.sq⟩,h ρ1 H1 _ e1 R1 (bA5 ht rs)⟩
  ·obtain ⟨a',rfl,ha'⟩:=r1.l9
   obtain ⟨vs,hq,rs⟩:=R1.items hl ha'
   exact .inl ⟨_,rfl,⟨_,hq⟩,h ρ1 H1 _ e1 R1 (bA6 ha')⟩
theorem ba7 (ha:PE X a (LE X.K Ξ (wpE P ma))) (hg:Gl X "range") (hm:X.mg "range"=none) (hs:starEach [a] X.env=[(false,eval a X.env)]):PI X tg (.Call (.Name "range" p) [a] [] pos) (LI X.K Ξ (wpI P (.itR1 ma))) :=
 (aN6 hg hm (G0 hP ha (V0 hP) (by rw [hs];rfl)) hs).imp fun σv H R ⟨σ,g,ρ,s,Rr,h⟩=>by
  simp only [wpI] at h
  refine thA hP (m:=.cons ma .nil) s Rr (.refl _ _) (Q0:=fun xs g1=>∃ j:Int,xs=[.int j]/\-(2 ^ 62) <= j/\j < 2 ^ 62/\∀ ρ' H' J,Ext ρ H ρ' H'->Rl X.K ρ' g1 H'->ap4 X.K ρ' H' (.fix (j0 0 j.toNat)) J->R J H') ?_ fun xs g1 ρ1 H1 vs e1 R1 r1 h=>?_
  ·simp only [wpA]
   exact c9 hP ma _ _ _ _ _ _ (fun x g1 ⟨j,e,h1,h2,h⟩=>⟨j,by rw [e],h1,h2,h⟩) (fun _ _ z=>z) h
  ·obtain ⟨j,rfl,h1,h2,h⟩:=h
   obtain ⟨v,rfl,rv⟩:=r1.one
   obtain rfl:=rv.k9
   exact ⟨_,rfl,h1,h2,h ρ1 H1 _ e1 R1 a75⟩
theorem ba6 (ha:PE X a (LE X.K Ξ (wpE P ma))) (hb:PE X b (LE X.K Ξ (wpE P mb))) (hg:Gl X "range") (hm:X.mg "range"=none) (hs:starEach [a,b] X.env=[(false,eval a X.env),(false,eval b X.env)]) (hs2:starEach [b] X.env=[(false,eval b X.env)]) :
  PI X tg (.Call (.Name "range" p) [a,b] [] pos) (LI X.K Ξ (wpI P (.itR2 ma mb))) :=
 (aN5 hg hm (G0 hP ha (G0 hP hb (V0 hP) (by rw [hs2];rfl)) (by rw [hs,hs2])) hs hs2).imp fun σv H R ⟨σ,g,ρ,s,Rr,h⟩=>by
  simp only [wpI] at h
  refine thA hP (m:=.cons ma (.cons mb .nil)) s Rr (.refl _ _) (Q0:=fun xs g1=>∃ i j:Int,xs=[.int i,.int j]/\(-(2 ^ 62) <= i/\i < 2 ^ 62/\-(2 ^ 62) <= j/\j < 2 ^ 62)/\∀ ρ' H' J,Ext ρ H ρ' H'->Rl X.K ρ' g1 H'->ap4 X.K ρ' H' (.fix (j0 i (j - i).toNat)) J->R J H') ?_ fun xs g1 ρ1 H1 vs e1 R1 r1 h=>?_
  ·simp only [wpA]
   exact c9 hP ma _ _ _ _ _ _ (fun x g1 h=>c9 hP mb _ _ _ _ _ _ (fun y g2 ⟨i,j,e,e',h1,h⟩=>⟨i,j,by rw [e,e'],h1,h⟩) (fun _ _ z=>z) h) (fun _ _ z=>z) h
  ·obtain ⟨i,j,rfl,h1,h⟩:=h
   obtain ⟨v,w,rfl,rv,rw'⟩:=r1.two
   obtain rfl:=rv.k9
   obtain rfl:=rw'.k9
   exact ⟨_,_,rfl,h1,h ρ1 H1 _ e1 R1 a75⟩
end
section
variable {X:Cx} {pos:Pos}
theorem bl0 {i:Nat} {x:Str} (hN:X.N.Nodup) (hi:X.N[i]?=some x) (hx:Loc X.env.scope x) (hf:X.fn x=true \/ X.env.scope.names.lookup x=some .local):PG X (.Name x pos) (LG X.K (.one i)) :=
 (aC7 hN hi hx hf).imp fun v σv H Q ⟨d,σ,g,ρ,s,R,r,h⟩=>h _ (s.set i r)
inductive SlotsOk (X:Cx):List Expr->List Nat->Prop
 | nil:SlotsOk X [] []
 | cons {x:Str} {p:Pos} {i:Nat} {es:List Expr} {is:List Nat} (hi:X.N[i]?=some x) (hx:Loc X.env.scope x) (hf:X.fn x=true \/ X.env.scope.names.lookup x=some .local) (r:SlotsOk X es is):SlotsOk X (.Name x p :: es) (i :: is)
noncomputable def ax8:List Nat->TGs
 | []=>bs7
 | i :: is=>a76 (ad4 i) (ax8 is)
theorem ap9 (hN:X.N.Nodup):∀ {es:List Expr} {is:List Nat},SlotsOk X es is->PGs X es (ax8 is)
 | _,_,.nil=>bd1
 | _,_,.cons hi hx hf r=>aW5 (aC7 hN hi hx hf) (ap9 hN r) rfl
theorem Z7:∀ {es:List Expr} {is:List Nat},SlotsOk X es is->(assignEach es X.env).length=is.length/\(assignEach es X.env).findIdx? (·.1)=none
 | _,_,.nil=>⟨rfl,rfl⟩
 | _,_,.cons (x:=x) (p:=p) (es:=es) hi hx hf r=>by
  obtain ⟨h1,h2⟩:=Z7 r
  have e:assignEach (.Name x p :: es) X.env=(false,assign (.Name x p) X.env) :: assignEach es X.env:=rfl
  rw [e]
  refine ⟨by simp [h1],?_⟩
  rw [List.findIdx?_cons,h2]
  rfl
theorem aq9 {K:PySem.W.Frag} {ρ:List Addr} {H:Hp} {k:S->Prop} {Q:L2.St->Hp->Prop}:∀ {is:List Nat} {l:List D} {vs:List V} {σ σ':S} {σv:L2.St},B8 is l σ=some σ'->a9 K ρ H l vs->n4 K ρ H σ σv->(∀ σv',n4 K ρ H σ' σv'->Q σv' H)->ax8 is vs σv H Q
 | [],_,_,_,_,_,h,.nil,s,q=>by
  simp only [B8] at h
  cases h
  exact ⟨rfl,q _ s⟩
 | [],_,_,_,_,_,h,.cons _ _,s,q=>by simp only [B8] at h;cases h
 | i :: is,_,_,_,_,_,h,.nil,s,q=>by simp only [B8] at h;cases h
 | i :: is,_,_,_,_,_,h,.cons r rr,s,q=>by
  simp only [B8] at h
  exact ⟨_,_,rfl,aq9 (k:=k) h rr (s.set i r) q⟩
theorem W8:∀ {is:List Nat} {l:List D} {σ σ':S},B8 is l σ=some σ'->l.length=is.length
 | [],[],_,_,_=>rfl
 | [],_ :: _,_,_,h=>by simp only [B8] at h;cases h
 | _ :: _,[],_,_,h=>by simp only [B8] at h;cases h
 | _ :: is,_ :: l,_,_,h=>by simp only [B8] at h;simp [W8 h]
theorem aC0 {es:List Expr} {is:List Nat} {k:Nat} (hc:X.calm=true) (hN:X.N.Nodup) (hs:SlotsOk X es is):PG X (.Tuple es k pos) (LG X.K (.many is)) :=
 (bo1 hc (ap9 hN hs) (Z7 hs).1 (Z7 hs).2).imp fun v σv H Q ⟨d,σ,g,ρ,s,R,r,h⟩=>by
  obtain ⟨l,σ',rfl,e,h⟩:=h
  obtain ⟨a',vs,rfl,ht,rs⟩:=r.A2
  exact ⟨_,_,rfl,ht.sq,by rw [<- rs.length];exact W8 e,aq9 (k:=fun _=>True) e rs s h⟩
end
theorem LN.ext {K ρ H N ρ1 H1} (e:Ext ρ H ρ1 H1):(LN K ρ H N).le (LN K ρ1 H1 N) :=
 ⟨fun σ g h ρ' H' σv' e' R s=>h ρ' H' σv' (e.trans e') R s,fun d g h=>h.ext e,fun σ g h ρ' H' σv' e' R s=>h ρ' H' σv' (e.trans e') R s,fun σ g h ρ' H' σv' e' R s=>h ρ' H' σv' (e.trans e') R s⟩
section
variable {X:Cx} {Ξ:XKE} {P:Sig} (hP:j9 P) {a b c tg:Expr} {ma mb mc:ME} {st:Stmt} {rest:List Stmt} {mst mrest:MS} {pos p:Pos}
include hP
theorem aM0:PSs X [] (LS X.K Ξ (wpS P .pass)) :=
 (bc5 (X:=X)).imp fun N σv H ⟨σ,g,ρ,s,R,h⟩=>h ρ H σv (.refl _ _) R s
theorem aB8 (h1:PS X st (LS X.K Ξ (wpS P mst))) (h2:PSs X rest (LS X.K Ξ (wpS P mrest))):PSs X (st :: rest) (LS X.K Ξ (wpS P (.seq mst mrest))) :=
 (aV9 h1 h2).imp fun N σv H ⟨σ,g,ρ,s,R,h⟩ =>
  thS hP s R (.refl _ _) (show wpS P mst { LN X.K ρ H N with nx:=fun σ1 g1=>wpS P mrest (LN X.K ρ H N) σ1 g1 (LX X.K ρ H Ξ) } σ g (LX X.K ρ H Ξ) from h) ⟨fun σ1 g1 h ρ1 H1 σv1 e1 R1 s1=>thS hP s1 R1 e1 h (LN.ext e1),fun _ _ z=>z,fun _ _ z=>z,fun _ _ z=>z⟩
theorem ba0 (ha:PE X a (LE X.K Ξ (wpE P ma))) (hs:swapsWith a none pos.line X.env=pure false):PS X (.Expr a pos) (LS X.K Ξ (wpS P (.expr ma))) :=
 (bc8 ha hs).imp fun N σv H ⟨σ,g,ρ,s,R,h⟩=>thE hP s R (.refl _ _) h fun x g1 ρ1 H1 v1 e1 R1 r1 h=>h ρ1 H1 σv e1 R1 (s.ext e1)
theorem aL7 {i:Nat} {x:Str} {p:Pos} (h0:PS X (.Assign [.Name x p] a pos) (au3 (LE X.K Ξ (wpE P ma)) (ad4 i))):PS X (.Assign [.Name x p] a pos) (LS X.K Ξ (wpS P (.set i ma))) :=
 h0.imp fun N σv H ⟨σ,g,ρ,s,R,h⟩=>thE hP s R (.refl _ _) h fun x g1 ρ1 H1 v1 e1 R1 r1 h=>h ρ1 H1 _ e1 R1 ((s.ext e1).set i r1)
theorem bj7 {t:MT} (h0:PS X (.Assign [tg] a pos) (au3 (LE X.K Ξ (wpE P ma)) (LG X.K t))):PS X (.Assign [tg] a pos) (LS X.K Ξ (wpS P (.unp t ma))) :=
 h0.imp fun N σv H ⟨σ,g,ρ,s,R,h⟩=>thE hP s R (.refl _ _) h fun x g1 ρ1 H1 v1 e1 R1 r1 h=>⟨x,σ,g1,ρ1,s.ext e1,R1,r1,K5 (fun σ' h σv' s'=>h ρ1 H1 σv' e1 R1 s') h⟩
theorem aT8 (hu:X.A.units + 100 < cLine) {o i:Expr} {mo mi:ME} {tp:Pos} (ha:PE X a (LE X.K Ξ (wpE P ma))) (ho:PE X o (LE X.K Ξ (wpE P mo))) (hi:PE X i (LE X.K Ξ (wpE P mi)))
  (hs:swapsWithSole [.Subscript o i tp] a pos.line X.env=pure false)
  (ha':∀ v,assign (.Subscript o i tp) X.env v=(do
   let ov <- holding [v] (eval o X.env)
   let iv <- holding [v,ov] (eval i X.env)
   standAt tp
   holding [v,ov,iv] (setItem ov iv v)
   release [v,ov,iv] [])):PS X (.Assign [.Subscript o i tp] a pos) (LS X.K Ξ (wpS P (.setix mo mi ma))) :=
 (aN2 ha (bo2 ho hi (bl1 hu) ha') hs).imp fun N σv H ⟨σ,g,ρ,s,R,h⟩ =>
  thE hP s R (.refl _ _) h fun x g1 ρ1 H1 v1 e1 R1 r1 h=>thE hP (s.ext e1) R1 e1 h fun y g2 ρ2 H2 v2 e2 R2 r2 h=>thE hP (s.ext (e1.trans e2)) R2 (e1.trans e2) h fun z g3 ρ3 H3 v3 e3 R3 r3 h =>
   ⟨y,z,x,g3,ρ3,R3,r2.ext e3,r3,r1.ext (e2.trans e3),ap7 (fun g4 h ρ4 H4 e4 R4=>h ρ4 H4 σv (e1.trans (e2.trans (e3.trans e4))) R4 (s.ext (e1.trans (e2.trans (e3.trans e4))))) h⟩
omit hP in
noncomputable def am1 (K:PySem.W.Frag) (f:Str) (cs:List Str):Prop:=∀ c C,c ∈ cs->n6 K c C->t9 K C f
omit hP in
theorem ba8 {f:Str} {cs:List Str} (hF:am1 X.K f cs) {ρ:List Addr} {H:Hp} {g g':G} {x v:D} {xv vv:V} (R:Rl X.K ρ g H) (rx:d9 X.K ρ H x xv) (rv:d9 X.K ρ H v vv) (h:a34 f cs x v g g') :
  ∃ a C dx fs,xv=.ref a/\H a=some (.ins C dx fs)/\Cls X.K C/\t9 X.K C f/\fs.length < 1000/\Rl X.K ρ g' (upd H a (.ins C dx (q8 f vv fs)))/\Ext ρ H ρ (upd H a (.ins C dx (q8 f vv fs))):=by
 obtain ⟨i,c,fs,rfl,hi,hc,hz,rfl⟩:=h
 obtain ⟨a',rfl,ra⟩:=rx.l9
 obtain ⟨C,dx,vs,hH,hC,hcl,rk,na⟩:=R.ins hi ra
 obtain ⟨R',e'⟩:=R.put (o':=.ins c (v8 f v fs)) (u:=.ins C dx (q8 f vv vs)) hi rfl ra ⟨hC,hcl,rk.q8 rv,X0 (p:=fun y=>t9 X.K C y) (hF c C hc hC) na⟩
 exact ⟨a',C,dx,vs,rfl,hH,hcl,hF c C hc hC,by rw [<- rk.length];omega,R',e'⟩
theorem a99 {f:Str} {cs:List Str} {o:Expr} {mo:ME} {tp:Pos} (hF:am1 X.K f cs) (ho:PE X o (LE X.K Ξ (wpE P mo))) (ha:PE X a (LE X.K Ξ (wpE P ma))) (hs:swapsWith a (some (.Attribute o f tp)) pos.line X.env=pure false):PS X (.Assign [.Attribute o f tp] a pos) (LS X.K Ξ (wpS P (.setf f cs mo ma))) :=
 (bn9 ho ha hs).imp fun N σv H ⟨σ,g,ρ,s,R,h⟩=>thE hP s R (.refl _ _) h fun x g1 ρ1 H1 v1 e1 R1 r1 h=>thE hP (s.ext e1) R1 e1 h fun y g2 ρ2 H2 v2 e2 R2 r2 h=>by
  obtain ⟨g3,h,q⟩:=h
  obtain ⟨a',C,dx,fs,hx,hH,hcl,na,hz,R3,e3⟩:=ba8 hF R2 r2 (r1.ext e2) h
  exact ⟨a',C,dx,fs,hx,hH,hcl,na,hz,q ρ2 _ σv (e1.trans (e2.trans e3)) R3 (s.ext (e1.trans (e2.trans e3)))⟩
theorem ba1 {f:Str} {cs:List Str} {o:Expr} {mo:ME} {tp:Pos} (hF:am1 X.K f cs) (ho:PE X o (LE X.K Ξ (wpE P mo))) (ha:PE X a (LE X.K Ξ (wpE P ma))):PS X (.AugAssign (.Attribute o f tp) .Add a pos) (LS X.K Ξ (wpS P (.augf f cs mo ma))) :=
 (aN1 ho ha bf7).imp fun N σv H ⟨σ,g,ρ,s,R,h⟩=>thE hP s R (.refl _ _) h fun y g1 ρ1 H1 v1 e1 R1 r1 h=>by
  obtain ⟨i,c,fs,x,rfl,hi,hc,hf,h⟩:=h
  obtain ⟨a',rfl,ra⟩:=r1.l9
  obtain ⟨C,dx,vs,hH,hC,hcl,rk,na⟩:=R1.ins hi ra
  have lk:=rk.look f
  rw [hf] at lk
  obtain ⟨v,hv,rv⟩:=lk.some
  refine ⟨a',C,dx,vs,v,rfl,hH,hcl,hF c C hc hC,hv,thE hP (s.ext e1) R1 e1 h fun z g3 ρ3 H3 v3 e3 R3 r3 h=>?_⟩
  obtain ⟨d',g',hR,fs',hi',hz,q⟩:=h
  have fin:∀ {ρ4:List Addr} {H4:Hp} {vv:V},Ext ρ3 H3 ρ4 H4->Rl X.K ρ4 g' H4->d9 X.K ρ4 H4 d' vv->∃ dx' fs',H4 a'=some (.ins C dx' fs')/\fs'.length < 1000/\N.nx σv (upd H4 a' (.ins C dx' (q8 f vv fs'))):=by
   intro ρ4 H4 vv e4 R4 r4
   obtain ⟨C2,dx2,vs2,hH2,hC2,hcl2,rk2,na2⟩:=R4.ins hi' ((e3.trans e4).get ra)
   have:C2=C:=by have h1:=hC2.symm.trans hC;cases h1;rfl
   subst this
   obtain ⟨R5,e5⟩:=R4.put (o':=.ins c (v8 f d' fs')) (u:=.ins C2 dx2 (q8 f vv vs2)) hi' rfl ((e3.trans e4).get ra) ⟨hC2,hcl2,rk2.q8 r4,X0 (p:=fun y=>t9 X.K C2 y) (hF c C2 hc hC2) na2⟩
   exact ⟨dx2,vs2,hH2,by rw [<- rk2.length];omega,q ρ4 _ σv (e1.trans (e3.trans (e4.trans e5))) R5 (s.ext (e1.trans (e3.trans (e4.trans e5))))⟩
  rcases hR with ⟨j,l,ex,rfl,rfl⟩ | ⟨l,m,ex,hz2,rfl,rfl⟩
  ·obtain ⟨rfl,rfl⟩:=w5 ex
   obtain rfl:=rv.k9
   obtain rfl:=r3.k9
   exact .inl ⟨_,_,rfl,rfl,fin (.refl _ _) R3 (.int _)⟩
  ·obtain ⟨rfl,rfl⟩:=w5 ex
   obtain ⟨p1,vs1,rfl,t1,rs1⟩:=(rv.ext e3).A2
   obtain ⟨p2,vs2,rfl,t2,rs2⟩:=r3.A2
   refine .inr ⟨p1,p2,vs1,vs2,rfl,rfl,t1.sq,t2.sq,by rw [<- rs1.length,<- rs2.length];exact m9 hz2,fun z=>?_,fun z=>?_,fun p hp=>?_⟩
   ·subst z
    cases rs1
    exact fin (.refl _ _) R3 (.tup t2 rs2)
   ·subst z
    cases rs2
    rw [List.append_nil] at fin
    exact fin (.refl _ _) R3 (.tup t1 rs1)
   ·exact fin (u6 hp) (R3.grow hp) (.tup (.inl o9) ((rs1.append rs2).ext (u6 hp)))
theorem bw2 {sa sb:List Stmt} {msa msb:MS} (hc:PT X c (LT X.K Ξ (wpT P mc))) (ha:PSs X sa (LS X.K Ξ (wpS P msa))) (hb:PSs X sb (LS X.K Ξ (wpS P msb))):PS X (.If c sa sb pos) (LS X.K Ξ (wpS P (.ifs mc msa msb))) :=
 (by3 hc ha hb).imp fun N σv H ⟨σ,g,ρ,s,R,h⟩=>thT hP s R (.refl _ _) h fun t g1 ρ1 H1 e1 R1 h=>by
  cases t
  ·exact thS hP (s.ext e1) R1 e1 h (LN.ext e1)
  ·exact thS hP (s.ext e1) R1 e1 h (LN.ext e1)
theorem aL8 (ha:PE X a (LE X.K Ξ (wpE P ma))):PS X (.Return (some a) pos) (LS X.K Ξ (wpS P (.ret ma))) :=
 (bn6 ha).imp fun N σv H ⟨σ,g,ρ,s,R,h⟩=>⟨σ,g,ρ,s,R,h⟩
theorem aT7 {body:List Stmt} {mb:MS} (hp:PassesOwn (model X.prog X.w) X.A X.env X.xe) (hc:PT X c (LT X.K Ξ (wpT P mc))) (hb:PSs X body (LS X.K Ξ (wpS P mb))):PS X (.While c body [] pos) (LS X.K Ξ (wpS P (.whil mc mb))) :=
 (aW0 hp hc hb).imp fun N σv H ⟨σ,g,ρ,s,R,h⟩=>by
  obtain ⟨W,⟨m0,w0⟩,h⟩:=h
  refine ⟨fun m σv' H'=>∃ σ' g' ρ',Ext ρ H ρ' H'/\n4 X.K ρ' H' σ' σv'/\Rl X.K ρ' g' H'/\W m σ' g',⟨m0,σ,g,ρ,.refl _ _,s,R,w0⟩,?_⟩
  rintro m σv' H' ⟨σ',g',ρ',e1,s',R',w'⟩
  refine thT hP s' R' e1 (h m σ' g' w') fun t g1 ρ1 H1 e2 R1 q=>?_
  cases t
  ·exact q ρ1 H1 σv' (e1.trans e2) R1 (s'.ext e2)
  ·obtain ⟨N2,hN2,q⟩:=q
   refine ⟨fun σv2 H2=>∃ σ2 g2 ρ2,Ext ρ H ρ2 H2/\n4 X.K ρ2 H2 σ2 σv2/\Rl X.K ρ2 g2 H2/\N2 σ2 g2,?_,?_⟩
   ·rintro σv2 H2 ⟨σ2,g2,ρ2,e3,s2,R2,n2⟩
    obtain ⟨m',hm,w2⟩:=hN2 σ2 g2 n2
    exact ⟨m',hm,σ2,g2,ρ2,e3,s2,R2,w2⟩
   ·refine thS hP (s'.ext e2) R1 (e1.trans e2) q ⟨?_,?_,?_,?_⟩
    ·exact fun σ3 g3 n3 ρ3 H3 σv3 e3 R3 s3=>⟨σ3,g3,ρ3,(e1.trans e2).trans e3,s3,R3,n3⟩
    ·exact fun d g3 h=>h.ext (e1.trans e2)
    ·exact fun σ3 g3 h ρ3 H3 σv3 e3 R3 s3=>h ρ3 H3 σv3 ((e1.trans e2).trans e3) R3 s3
    ·exact fun σ3 g3 n3 ρ3 H3 σv3 e3 R3 s3=>⟨σ3,g3,ρ3,(e1.trans e2).trans e3,s3,R3,n3⟩
theorem bk0 {iter:Expr} {mi:ME} {body:List Stmt} {mb:MS} {t:MT} (hp:PassesOwn (model X.prog X.w) X.A X.env X.xe) (hc:X.calm=true) (hi:PI X tg iter (LI X.K Ξ (wpI P mi))) (hg:PG X tg (LG X.K t)) (hb:PSs X body (LS X.K Ξ (wpS P mb)))
  (hs:∀ x,foldedSetIterable iter X.env x=pure x):PS X (.For tg iter body [] pos) (LS X.K Ξ (wpS P (.for_ t mi mb))) :=
 (bn8 hp hc hi hg hb hs).imp fun N σv H ⟨σ,g,ρ,s,R,h⟩=>by
  refine ⟨σ,g,ρ,s,R,F0 hP mi _ _ _ _ _ _ (fun k g1 h ρ1 H1 J e1 R1 j1=>?_) (fun _ _ z=>z) h⟩
  obtain ⟨W,⟨m0,w0⟩,h⟩:=h
  refine ⟨fun i m σv' H'=>∃ σ' g' ρ',Ext ρ1 H1 ρ' H'/\n4 X.K ρ' H' σ' σv'/\Rl X.K ρ' g' H'/\W i m σ' g',⟨m0,σ,g1,ρ1,.refl _ _,s.ext e1,R1,w0⟩,?_⟩
  rintro i m σv' H' ⟨σ',g',ρ',e',s',R',w'⟩
  obtain ⟨j1a,j1b⟩:=j1 ρ' g' H' e' R' i
  rcases h i m σ' g' w' with ⟨ek,q⟩ | ⟨x,ek,N2,hN2,q⟩
  ·exact .inl ⟨j1a ek,q ρ' H' σv' (e1.trans e') R' s'⟩
  ·obtain ⟨go,yl⟩:=j1b x ek
   refine .inr ⟨go,fun σv2 H2=>∃ σ2 g2 ρ2,Ext ρ1 H1 ρ2 H2/\n4 X.K ρ2 H2 σ2 σv2/\Rl X.K ρ2 g2 H2/\N2 σ2 g2,?_,?_⟩
   ·rintro σv2 H2 ⟨σ2,g2,ρ2,e2,s2,R2,n2⟩
    obtain ⟨m',hm,w2⟩:=hN2 σ2 g2 n2
    exact ⟨m',hm,σ2,g2,ρ2,e2,s2,R2,w2⟩
   ·intro v H2 y
    obtain ⟨e2,R2,r2⟩:=yl v H2 y
    refine ⟨x,σ',g',ρ',s'.ext e2,R2,r2,K5 (fun σ2 q σv2 s2=>?_) q⟩
    refine thS hP s2 R2 (e1.trans (e'.trans e2)) q ⟨?_,?_,?_,?_⟩
    ·exact fun σ3 g3 n3 ρ3 H3 σv3 e3 R3 s3=>⟨σ3,g3,ρ3,(e'.trans e2).trans e3,s3,R3,n3⟩
    ·exact fun d g3 h=>h.ext (e1.trans (e'.trans e2))
    ·exact fun σ3 g3 h ρ3 H3 σv3 e3 R3 s3=>h ρ3 H3 σv3 (e1.trans ((e'.trans e2).trans e3)) R3 s3
    ·exact fun σ3 g3 n3 ρ3 H3 σv3 e3 R3 s3=>⟨σ3,g3,ρ3,(e'.trans e2).trans e3,s3,R3,n3⟩
theorem ay4 {i6:List Nat} {n:Nat} {t:MT} {mi mcond me:ME}:∀ σv H Q,LE X.K Ξ (wpE P (.comp i6 n t mi mcond me)) σv H Q->aF3 (LI X.K Ξ (wpI P mi)) i6 n (LG X.K t) (LT X.K (XK0 Ξ.1) (wpT P mcond)) (LE X.K (XK0 Ξ.1) (wpE P me)) σv H Q:=fun σv H Q ⟨σ,g,ρ,s,R,h⟩=>by
 simp only [wpE] at h
 refine ⟨σ,g,ρ,s,R,F0 hP mi _ _ _ _ _ _ (fun k g1 h ρ1 H1 J e1 R1 j1=>?_) (fun _ _ z=>z) h⟩
 obtain ⟨W,⟨m0,w0⟩,h⟩:=h
 refine ⟨fun i m ysv σv' H'=>∃ ys σ' g' ρ',Ext ρ1 H1 ρ' H'/\n4 X.K ρ' H' σ' σv'/\Rl X.K ρ' g' H'/\a9 X.K ρ' H' ys ysv/\W i m ys σ' g',⟨m0,[],_,g1,ρ1,.refl _ _,(s.ext e1).i6 i6 n,R1,.nil,w0⟩,?_⟩
 rintro i m ysv σv' H' ⟨ys,σ',g',ρ',e',s',R',ry,w'⟩
 obtain ⟨j1a,j1b⟩:=j1 ρ' g' H' e' R' i
 rcases h i m ys σ' g' w' with ⟨ek,q⟩ | ⟨x,ek,hz,q⟩
 ·exact .inl ⟨j1a ek,fun p hp=>(q.ext (e1.trans e')).new R' hp ry⟩
 ·obtain ⟨go,yl⟩:=j1b x ek
  refine .inr ⟨go,by rw [<- ry.length];exact am9 hz,fun v H2 y=>?_⟩
  obtain ⟨e2,R2,r2⟩:=yl v H2 y
  refine ⟨x,σ',g',ρ',s'.ext e2,R2,r2,K5 (fun σ2 q σv2 s2=>?_) q⟩
  refine ⟨σ2,g',ρ',s2,R2,u7 hP mcond _ _ _ _ _ _ (fun b g3 q ρ3 H3 e3 R3=>?_) (fun _ _ z=>z.elim) q⟩
  cases b
  ·obtain ⟨m',hm,w3⟩:=q
   exact ⟨m',hm,ys,σ2,g3,ρ3,(e'.trans e2).trans e3,s2.ext e3,R3,(ry.ext e2).ext e3,by simpa using w3⟩
  ·refine ⟨σ2,g3,ρ3,s2.ext e3,R3,c9 hP me _ _ _ _ _ _ (fun z g4 q ρ4 H4 v4 e4 R4 r4=>?_) (fun _ _ z=>z.elim) q⟩
   obtain ⟨m',hm,w4⟩:=q
   exact ⟨m',hm,ys ++ [z],σ2,g4,ρ4,(e'.trans e2).trans (e3.trans e4),(s2.ext e3).ext e4,R4,(((ry.ext e2).ext e3).ext e4).append (.cons r4 .nil),by simpa using w4⟩
end
end M

namespace M
open PySem L2 PySem.Spec PyProof.Rows
section
variable {X:Cx} {Ξ:XKE} {P:Sig} (hP:j9 P)
include hP
theorem aT9 {x:Str} {C:Addr} {B newId initId:String} {bm:List Value} {np cpos pos:Pos} {e₀:Expr} {rest:List Expr} {mes:ME} (hc:X.calm=true) (O:OwnCls x C bm newId X.mg X.base) (FB:ExcBaseFacts B newId initId bm) (hg:Gl X x)
  (ha:PA X (e₀ :: rest) (LA X.K Ξ (wpA P mes))) (hr:ae2 X Ξ.2) (hx:x ∈ Ξ.1) (hC:n6 X.K x C) (he:starEach (e₀ :: rest) X.env=(false,eval e₀ X.env) :: starEach rest X.env) (hplain:(backTo cpos (starEach rest X.env)).any (·.1)=false)
  (hd:(x == ("__debug__":Str))=false):PS X (.Raise (some (.Call (.Name x np) (e₀ :: rest) [] cpos)) none pos) (LS X.K Ξ (wpS P (.raise x mes))) :=
 (aW1 hc O FB hg ha hr he hplain hd).imp fun N σv H ⟨σ,g,ρ,s,R,h⟩=>by
  refine thA hP s R (.refl _ _) h fun ds g1 ρ1 H1 vs e1 R1 r1 h=>?_
  exact ⟨by rw [<- r1.length];exact m9 (Nat.le_trans h.1 (by decide)),h.2 ρ1 H1 C e1 R1 hx hC⟩
noncomputable def aE3 (X:Cx) (ex:List Str) (D:L2.Ends) (hs:List ExceptHandler):XKE:=(ex,fun v _ H=>∃ C,v=.ref C/\Z0 X D C H hs)
inductive HsOk (X:Cx) (Ξ:XKE) (P:Sig):List ExceptHandler->List (Str × ME)->Prop
 | nil (hh:ab6 X Ξ.2):HsOk X Ξ P [] []
 | cons {y:Str} {C':Addr} {p p1 p2:Pos} {e:Expr} {me:ME} {hs:List ExceptHandler} {ms:List (Str × ME)} (hg:Gl X y) (hd:(y == ("__debug__":Str))=false) (hm:X.mg y=some (.ref C'))
   (hx:∀ x C,x ∈ Ξ.1->n6 X.K x C->PySem.W.exmOne X.K (.ref C) (.ref C')=some (decide (x=y \/ y="MintError"))) (he:∀ ea,PE (B0 X ea) e (LE X.K (XK0 Ξ.1) (wpE P me))) (r:HsOk X Ξ P hs ms) :
   HsOk X Ξ P (.ExceptHandler (some (.Name y p)) none [.Return (some e) p1] p2 :: hs) ((y,me) :: ms)
theorem au1 {N:L2.Ends} {ρ ρ':List Addr} {H H':Hp} {σ:S} {g:G} {x:Xn} {C:Addr} (hl:σ.length=X.N.length) (e:Ext ρ H ρ' H') (R:Rl X.K ρ' g H') (hx:x.cls ∈ Ξ.1) (hC:n6 X.K x.cls C) :
  ∀ {hs:List ExceptHandler} {ms:List (Str × ME)},HsOk X Ξ P hs ms->wpH P (LN X.K ρ H N) (σ.map fun _=>none) (LX X.K ρ H Ξ) ms x g->Z0 X N C H' hs
 | _,_,.nil hh,q=>⟨Ξ.2,hh,q ρ' H' C e R hx hC⟩
 | _,_,.cons (me:=me) hg hd hm hxm he r,q=>by
  refine ⟨hg,hd,_,_,hm,hxm _ _ hx hC,?_⟩
  unfold wpH at q
  split at q
  ·rename_i ex
   rw [if_pos (by simpa using ex)]
   refine ⟨LS X.K (XK0 Ξ.1) (wpS P (.seq (.ret me) .pass)),fun ea=>aB8 (X:=B0 X ea) (Ξ:=XK0 Ξ.1) hP (aL8 (X:=B0 X ea) hP (he ea)) (aM0 (X:=B0 X ea) hP),?_⟩
   refine ⟨σ.map fun _=>none,g,ρ',⟨by simp [hl],fun i d z=>?_⟩,R,?_⟩
   ·rw [List.getElem?_map] at z
    cases e:σ[i]? with
    | none=>rw [e] at z;cases z
    | some y=>rw [e] at z;cases z
   ·simp only [wpS]
    refine c9 hP me _ _ _ _ _ _ (fun d g1 h=>?_) (fun _ _ z=>z.elim) q
    exact h.ext e
  ·rename_i ex
   rw [if_neg (by simpa using ex)]
   exact au1 hl e R hx hC r q
theorem bj8 {h₀:ExceptHandler} {hs:List ExceptHandler} {ms:List (Str × ME)} {body:List Stmt} {mb:MS} {pos:Pos} (hst:X.stack=X.env :: X.outer) (hf:X.env.frame=some X.env.locals)
  (hb:∀ pins D,PSs (T8 X pins (ab8 X pins D (h₀ :: hs))) body (LS X.K (aE3 X Ξ.1 D (h₀ :: hs)) (wpS P mb))) (hh:HsOk X Ξ P (h₀ :: hs) ms):PS X (.Try body (h₀ :: hs) [] [] pos) (LS X.K Ξ (wpS P (.W4 mb ms))):=by
 intro pins s σv H N I ⟨σ,g,ρ,sr,R,h⟩
 refine bn5 (t:=fun D=>LS X.K (aE3 X Ξ.1 D (h₀ :: hs)) (wpS P mb)) (Ξ:=fun D=>(aE3 X Ξ.1 D (h₀ :: hs)).2) hst hf (fun pins D _=>hb pins D) pins s σv H N I ⟨fun C H' ⟨C',e,z⟩=>by cases e;exact z,?_⟩
 simp only [wpS] at h
 refine ⟨σ,g,ρ,sr,R,wpS_mono hP mb _ _ _ _ _ _ ⟨fun _ _ z=>z,fun _ _ z=>z,fun _ _ z=>z,fun _ _ z=>z⟩ (fun x g1 q ρ' H' C e' R' hm hc=>⟨C,rfl,?_⟩) h⟩
 exact au1 (Ξ:=Ξ) hP (sr.len.trans I.len) e' R' hm hc hh q
end
end M

namespace M
open PySem L2 PySem.Spec PyProof.Rows
structure i3 where
 N:List Str
 nm:List (Str × NameKind)
 fnb:Bool
 fns:List (Str × Nat)
 con:List (Str × D)
 blt:List Str
 exc:List Str
 gd:List (Str × List D)
 cls:List (Str × Nat)
 mts:List (Str × Str × Nat)
 fls:List (Str × Str)
 rais:Bool
 tryb:Bool
noncomputable def okE:Expr->Bool
 | .Set ..=>false
 | .Starred ..=>false
 | .Slice ..=>false
 | _=>true
noncomputable def w9:Expr->Bool
 | .ListComp ..=>false
 | .SetComp ..=>false
 | .DictComp ..=>false
 | _=>true
noncomputable def aj7:Expr->Bool
 | .Tuple ..=>false
 | _=>true
noncomputable def aa1:Expr->Bool
 | .Name ..=>true
 | .Call ..=>true
 | .Subscript ..=>true
 | .Constant ..=>true
 | .Attribute ..=>true
 | _=>false
noncomputable def aa4:Expr->Bool
 | .Call (.Name ..) ..=>false
 | _=>true
noncomputable def i3.idx (c:i3) (x:Str):Option Nat:=c.N.findIdx? fun y=>decide (y=x)
noncomputable def i3.vis (c:i3) (x:Str):Bool:=match c.nm.lookup x with
 | some .local=>true
 | some .cell=>true
 | some .free=>true
 | _=>false
noncomputable def i3.gl (c:i3) (x:Str):Bool:=decide (c.nm.lookup x=some .globalImplicit)
noncomputable def i3.A7 (c:i3) (x:Str):Bool:=decide (c.nm.lookup x=some .local) || (c.fnb && decide (c.nm.lookup x=some .cell))
noncomputable def X4 (x:Str):Bool:=(x == ("__debug__":Str)) == false && (x == ("__classdict__":Str)) == false && decide (x ≠ "__name__")
noncomputable def aE8:List (Str × String):=[("int","int"),("bool","bool"),("str","str"),("tuple","tuple"),("list","list")]
noncomputable def az3:List (Str × Pr):=[("len",.len),("list",.list),("tuple",.tuple),("isinstance",.isin),("all",.all),("int",.int)]
noncomputable def V6:List (Str × Pr):=[("clear",.clear),("pop",.pop0)]
noncomputable def aw6:List (Str × Pr):=[("append",.append),("pop",.pop)]
noncomputable def W2:Expr->Option (Str × List Expr)
 | .Call (.Name x _) args [] _=>some (x,args)
 | _=>none
noncomputable def asName:Expr->Option Str
 | .Name x _=>some x
 | _=>none
noncomputable def frees (sc:Scope):List Str:=(sc.names.filter fun y=>decide (y.2=.free)).map (·.1)
noncomputable def locals (sc:Scope):List Str:=(sc.names.filter fun y=>decide (y.2=.local)).map (·.1)
noncomputable def i3.inner (c:i3) (sc:Scope):i3:={ c with N:=frees sc ++ locals sc,nm:=sc.names,fnb:=false,rais:=false,tryb:=false }
noncomputable def i3.i6 (c:i3) (sc:Scope):List Nat:=(frees sc).map fun x=>(c.idx x).getD 0
noncomputable def i3.am6 (c:i3) (sc:Scope):Bool :=
 decide (sc.kind=.function) && sc.names.all (fun y=>decide (y.2 ≠ .cell)) && sc.names.all (fun y=>!decide (y.2=.local) || decide (sc.names.lookup y.1=some .local)) &&
 decide (frees sc ++ locals sc).Nodup && (frees sc).all (fun x=>(c.idx x).isSome && decide (sc.names.lookup x=some .free) && (decide (c.nm.lookup x=some .cell) || decide (c.nm.lookup x=some .free)))
noncomputable def i3.slot (c:i3) (e:Expr):Option Nat:=(asName e).bind fun x=>if c.A7 x then c.idx x else none
noncomputable def i3.slots (c:i3):List Expr->Option (List Nat)
 | []=>some []
 | e :: r=>(c.slot e).bind fun i=>(c.slots r).map fun is=>i :: is
noncomputable def i3.tg (c:i3) (e:Expr):Option MT:=((c.slot e).map .one).orElse fun _=>match e with
 | .Tuple es _ _=>(c.slots es).map .many
 | _=>none
noncomputable def Y7:Const->Option D
 | .int i=>some (.int i)
 | .bool b=>some (.bl b)
 | .none=>some .non
 | .str x=>some (.str x)
 | _=>none
structure CF where
 e:i3->Expr->Option ME
 t:i3->Expr->Option ME
 s:i3->Stmt->Option MS
section
variable (r:CF) (c:i3)
noncomputable def c1 (p:Pr) (a:Expr):Option ME:=(r.e c a).map fun m=>.prim p (.cons m .nil)
noncomputable def c2 (p:Pr) (a b:Expr):Option ME:=(r.e c a).bind fun ma=>(r.e c b).map fun mb=>.prim p (.cons ma (.cons mb .nil))
noncomputable def D6:List Expr->Option ME
 | []=>some .nil
 | e :: es=>if okE e then (r.e c e).bind fun m=>(D6 es).map fun ms=>.cons m ms else none
noncomputable def al5:List (Option Expr)->List Expr->Option ME
 | [],[]=>some .nil
 | some k :: ks,v :: vs=>(r.e c k).bind fun mk=>(r.e c v).bind fun mv=>(al5 ks vs).map fun ms=>.cons mk (.cons mv ms)
 | _,_=>none
noncomputable def as8 (op:BoolOp):List Expr->Option ME
 | []=>none
 | [a]=>r.e c a
 | a :: b :: rs=>(r.e c a).bind fun ma=>(as8 op (b :: rs)).map fun mb=>match op with
  | .And=>.and_ ma mb
  | .Or=>.or_ ma mb
noncomputable def as7 (op:BoolOp):List Expr->Option ME
 | []=>none
 | [a]=>r.t c a
 | a :: b :: rs=>(r.t c a).bind fun ma=>(as7 op (b :: rs)).map fun mb=>match op with
  | .And=>.and_ ma mb
  | .Or=>.or_ ma mb
noncomputable def aS1:List Expr->Option ME
 | []=>some .no
 | [e]=>r.t c e
 | _=>none
noncomputable def d0:List Stmt->Option MS
 | []=>some .pass
 | s :: rs=>(r.s c s).bind fun m=>(d0 rs).map fun ms=>.seq m ms
noncomputable def aE4 (x:Str):Option ME :=
 if X4 x then (if c.vis x then (c.idx x).map .var else if c.gl x then ((c.con.lookup x).map .lit).orElse fun _=>if c.blt.contains x then (aE8.lookup x).map fun t=>.lit (.ty t) else none else none) else none
noncomputable def xUn (op:UnaryOp) (a:Expr):Option ME:=if op=.Not then (r.e c a).map .not_ else c1 r c (.un op) a
noncomputable def i3.aI6 (b:Expr):Option (List D):=(fun (_:i3) (_:Expr)=>none) c b
noncomputable def bN8:CmpOp->Option Bool
 | .In=>some false
 | .NotIn=>some true
 | _=>none
noncomputable def at0 (a:Expr) (ops:List CmpOp) (bs:List Expr):Option ME:=match ops,bs with
 | [op],[b]=>if behindInMarks op b then none else ((bN8 op).bind fun neg=>(c.aI6 b).bind fun kvs=>(r.e c a).map fun ma=>.prim (bB5 neg) (.cons (.lit (.tup kvs)) (.cons ma .nil))).orElse fun _=>c2 r c (.cmp op) a b
 | [op,op'],[b,d]=>if lastMarks [op,op'] [b,d] then none else (r.e c a).bind fun ma=>(r.e c b).bind fun mb=>(r.e c d).map fun md=>.chain op op' ma mb md
 | _,_=>none
noncomputable def az4:Expr->Bool
 | .UnaryOp .USub (.Constant (.int i) _ _) _=>decide (i=1)
 | _=>false
noncomputable def bS5:Expr->Option (Option Expr × Option Expr × Option Expr)
 | .Slice lo hi st _=>some (lo,hi,st)
 | _=>none
noncomputable def xSl (a:Expr):Option Expr->Option Expr->Option Expr->Option ME
 | none,none,none=>c1 r c (.slc false false) a
 | some b,none,none=>c2 r c (.slc true false) a b
 | none,some b,none=>c2 r c (.slc false true) a b
 | none,none,some d=>if az4 d then c1 r c .rev a else none
 | _,_,_=>none
noncomputable def aT1 (a b:Expr):Option ME:=((bS5 b).bind fun q=>xSl r c a q.1 q.2.1 q.2.2).orElse fun _=>if okE b then ((c.aI6 a).bind fun kvs=>(r.e c b).map fun mb=>.prim .gget (.cons (.lit (.tup kvs)) (.cons mb .nil))).orElse fun _=>c2 r c .ix a b else none
noncomputable def xSp (x:Str) (e:Expr):Option ME:=(W2 e).bind fun q =>
 if x="list" && q.1="range" && c.blt.contains "list" && c.blt.contains "range" && c.gl "range" then (match q.2 with
  | [a]=>if okE a then c1 r c .lrng1 a else none
  | [a,b]=>if okE a && okE b then c2 r c .lrng2 a b else none
  | _=>none)
 else none
noncomputable def bF4 (x:Str) (e:Expr):List Expr->Option ME
 | []=>xSp r c x e
 | _=>none
noncomputable def at5 (x:Str):Option ME:=if X4 x && c.gl x then (c.cls.lookup x).map fun f=>.make x f .nil else none
noncomputable def at4 (x:Str) (e:Expr) (es:List Expr):Option ME:=if X4 x && c.gl x then (bF4 r c x e es).orElse fun _=>(D6 r c (e :: es)).bind fun ms=>((c.fns.lookup x).map fun f=>.call f ms).orElse fun _=>((c.cls.lookup x).map fun f=>.make x f ms).orElse fun _=>if c.blt.contains x then (az3.lookup x).map fun p=>.prim p ms else none else none
noncomputable def aK7 (x:Str):List Expr->Option ME
 | []=>at5 c x
 | e :: es=>at4 r c x e es
noncomputable def i3.meths (m:Str):List (Str × Nat):=(c.mts.filter fun y=>decide (y.1=m)).map (·.2)
noncomputable def at3 (o:Expr) (m:Str) (apos pos:Pos) (args:List Expr):Option ME :=
 if aa4 o && (apos.endLine == pos.line) && decide (args.length < 20) then (r.e c o).bind fun mo=>(D6 r c args).bind fun ms=>if m="index" then (if args.isEmpty then none else some (.meth .index mo ms)) else if args.isEmpty && (V6.lookup m).isSome then (V6.lookup m).map fun p=>.meth p mo ms else (match aw6.lookup m with
  | some p=>if args.isEmpty then none else some (.meth p mo ms)
  | none=>some (.methc m (c.meths m) mo ms)) else none
noncomputable def aE5 (f:Expr) (args:List Expr) (kws:List Keyword) (pos:Pos):Option ME:=if kws.isEmpty then (match f with
 | .Name x _=>aK7 r c x args
 | .Attribute o m apos=>at3 r c o m apos pos args
 | _=>none) else none
noncomputable def al3 (tg e:Expr):Option ME:=(((W2 e).bind fun q =>
  if q.1="range" then (match q.2 with
   | [a]=>if c.gl "range" && c.blt.contains "range" && okE a then (r.e c a).map .itR1 else none
   | [a,b]=>if c.gl "range" && c.blt.contains "range" && okE a && okE b then (r.e c a).bind fun ma=>(r.e c b).map fun mb=>.itR2 ma mb else none
   | _=>none)
  else none):Option ME).orElse fun _=>if okE e then (r.e c e).map .itE else none
noncomputable def ab7 (elt:Expr) (gens:List Comprehension) (sc:Scope):Option ME:=match gens with
 | [⟨tg,it,ifs,isa⟩]=>if c.am6 sc && decide (isa=0) && okE it then ((c.inner sc).tg tg).bind fun t=>(al3 r c tg it).bind fun mi=>(aS1 r (c.inner sc) ifs).bind fun mc=>(r.e (c.inner sc) elt).map fun me=>.comp (c.i6 sc) (frees sc ++ locals sc).length t mi mc me else none
 | _=>none
noncomputable def bS6:Expr->Option Str
 | .Name x _=>some x
 | _=>none
noncomputable def xSC (f:Expr) (args:List Expr) (kws:List Keyword):Option ME:=(fun (_:CF) (_:i3)=>none) r c
noncomputable def bt9:Expr->Option (Expr × Expr)
 | .BinOp a .BitOr b _=>some (a,b)
 | _=>none
noncomputable def a13:List Expr->Option Str
 | [.Name x _]=>some x
 | _=>none
noncomputable def xSU (f:Expr) (args:List Expr) (kws:List Keyword):Option ME:=match args with
 | [a]=>if kws.isEmpty && decide (bS6 f=some "sorted") && c.gl "sorted" && c.blt.contains "sorted" && c.gl "set" && c.blt.contains "set" then (bt9 a).bind fun q=>(W2 q.1).bind fun u=>(W2 q.2).bind fun v=>if decide (u.1="set") && decide (v.1="set") then (a13 u.2).bind fun x=>(a13 v.2).bind fun y=>if X4 x && X4 y && c.vis x && c.vis y then (c.idx x).bind fun i=>(c.idx y).map fun j=>.prim .sun (.cons (.var i) (.cons (.var j) .nil)) else none else none else none
 | _=>none
noncomputable def a33:Expr->Option ME
 | .Name x _=>aE4 c x
 | .Constant k _ _=>(Y7 k).map .lit
 | .BinOp a op b _=>c2 r c (.bin op) a b
 | .UnaryOp op a _=>xUn r c op a
 | .Compare a ops bs _=>at0 r c a ops bs
 | .BoolOp op vs _=>as8 r c op vs
 | .IfExp t a b _=>(r.t c t).bind fun mt=>(r.e c a).bind fun ma=>(r.e c b).map fun mb=>.ite mt ma mb
 | .Tuple es _ _=>(D6 r c es).map (.prim .tup)
 | .List es _=>(D6 r c es).map (.prim .lst)
 | .Subscript a b _=>aT1 r c a b
 | .Dict ks vs _=>if ks.isEmpty && vs.isEmpty then some (.prim .dnew .nil) else if decide (ks.length <= 15) then (al5 r c ks vs).map .dct else none
 | .Attribute o f _=>if aa4 o then c1 r c (.fld f) o else none
 | .Call f args kws pos=>(xSC r c f args kws).orElse fun _=>(xSU c f args kws).orElse fun _=>aE5 r c f args kws pos
 | .ListComp elt gens sc _=>ab7 r c elt gens sc
 | _=>none
noncomputable def stepT:Expr->Option ME
 | .UnaryOp op a _=>if op=.Not then (r.t c a).map .not_ else none
 | .BoolOp op vs _=>as7 r c op vs
 | .Compare a ops bs _=>(at0 r c a ops bs).map .tst
 | e=>if aa1 e then (r.e c e).map .tst else none
noncomputable def i3.aG4:List Expr->Expr->Bool
 | [.Name x px,.Name y py],.Tuple [a,b] _ _=>decide (c.nm.lookup x=some .local) && decide (c.nm.lookup y=some .local) && decide (x ≠ y) && decide (py.line=px.line) && okE a && okE b && !([a,b].all (foldedForSure 8)) && !([a,b].all (constantsAlone 8))
 | _,_=>false
noncomputable def a82:Expr->Option ME
 | .Constant k _ _=>(Y7 k).map .lit
 | _=>none
noncomputable def al2:List Expr->Option ME
 | []=>some .nil
 | e :: es=>(a82 e).bind fun m=>(al2 es).map fun ms=>.cons m ms
noncomputable def a83:Expr->Option ME
 | .List es _=>(al2 es).map (.prim .lst)
 | .Constant k _ _=>(Y7 k).map .lit
 | _=>none
noncomputable def az6:ExceptHandler->Option (Str × Expr)
 | .ExceptHandler (some (.Name y _)) none [.Return (some e) _] _=>some (y,e)
 | _=>none
noncomputable def al4:List ExceptHandler->Option (List (Str × ME))
 | []=>some []
 | h :: hs=>(az6 h).bind fun q=>if c.exc.contains q.1 && c.gl q.1 && X4 q.1 then (a83 q.2).bind fun m=>(al4 hs).map fun ms=>(q.1,m) :: ms else none
noncomputable def ao9:Option Expr->Option Expr->Option (Str × Expr × List Expr)
 | some (.Call (.Name x _) (e :: es) [] _),none=>some (x,e,es)
 | _,_=>none
noncomputable def i3.ao3 (f:Str):List Str:=(c.fls.filter fun y=>decide (y.1=f)).map (·.2)
noncomputable def bm6 (tg e:Expr):Option MS:=match tg with
 | .Name x _=>if c.A7 x then (c.idx x).bind fun i=>(r.e c e).map fun m=>.set i m else none
 | .Tuple es _ _=>if (aj7 e && w9 e) || c.aG4 es e then (c.slots es).bind fun is=>(r.e c e).map fun m=>.unp (.many is) m else none
 | .Subscript o i _=>if okE i && w9 e then (r.e c o).bind fun mo=>(r.e c i).bind fun mi=>(r.e c e).map fun m=>.setix mo mi m else none
 | .Attribute o f _=>if w9 e then (r.e c o).bind fun mo=>(r.e c e).map fun m=>.setf f (c.ao3 f) mo m else none
 | _=>none
noncomputable def a32:Stmt->Option MS
 | .Expr e _=>if w9 e then (r.e c e).map .expr else none
 | .Assign tgs e _=>(match tgs with
  | [tg]=>bm6 r c tg e
  | _=>none)
 | .AugAssign tg op e _=>(match tg with
  | .Attribute o f _=>if decide (op=.Add) then (r.e c o).bind fun mo=>(r.e c e).map fun m=>.augf f (c.ao3 f) mo m else none
  | _=>none)
 | .If t a b _=>(r.t c t).bind fun mt=>(d0 r c a).bind fun ma=>(d0 r c b).map fun mb=>.ifs mt ma mb
 | .For tg it body els _=>if els.isEmpty && okE it then (c.tg tg).bind fun t=>(al3 r c tg it).bind fun mi=>(d0 r c body).map fun mb=>.for_ t mi mb else none
 | .While t body els _=>if els.isEmpty then (r.t c t).bind fun mt=>(d0 r c body).map fun mb=>.whil mt mb else none
 | .Return e _=>(match e with
  | some e=>(r.e c e).map .ret
  | none=>some .retn)
 | .Pass _=>some .pass
 | .Raise e f _=>(ao9 e f).bind fun q=>if c.rais && c.exc.contains q.1 && c.gl q.1 && X4 q.1 then (D6 r c (q.2.1 :: q.2.2)).map (.raise q.1) else none
 | .Try body hs el fi _=>if c.tryb && !hs.isEmpty && el.isEmpty && fi.isEmpty then (d0 r { c with rais:=false,tryb:=false } body).bind fun mb=>(al4 c hs).map fun ms=>.W4 mb ms else none
 | _=>none
end
noncomputable def comp:Nat->CF
 | 0=>⟨fun _ _=>none,fun _ _=>none,fun _ _=>none⟩
 | n + 1=>⟨a33 (comp n),stepT (comp n),a32 (comp n)⟩
end M

namespace M
open PySem L2 PySem.Spec PyProof.Rows
structure COk (X:Cx) (c:i3) (P:Sig) (Ξ:XKE):Prop where
 N:X.N=c.N
 nd:c.N.Nodup
 loc:∀ x,c.nm.lookup x=some .local->X.env.scope.names.lookup x=some .local
 cel:∀ x,c.nm.lookup x=some .cell->X.env.scope.names.lookup x=some .cell
 fre:∀ x,c.nm.lookup x=some .free->X.env.scope.names.lookup x=some .cell \/ X.env.scope.names.lookup x=some .free
 glo:∀ x,c.nm.lookup x=some .globalImplicit->X.env.scope.names.lookup x=some .globalImplicit
 cells:∀ x,(c.nm.lookup x=some .cell \/ c.nm.lookup x=some .free)->∃ a,X.env.cells.lookup x=some a
 fnb:c.fnb=true->∀ x,X.fn x=true
 calm:X.calm=true
 units:X.A.units + 100 < cLine
 own:PassesOwn (model X.prog X.w) X.A X.env X.xe
 mono:j9 P
 con:∀ x d,c.con.lookup x=some d->∃ v u,X.mg x=some u/\RelV v u/\∀ ρ H,d9 X.K ρ H d v
 blt:∀ x,c.blt.contains x=true->X.mg x=none
 fns:∀ x f,c.fns.lookup x=some f->∃ k fa fd ps,FnR X P Ξ.1 k f fa fd ps/\p8 k X.A/\X.mg x=some (.ref fa)/\PySem.W.keepIn X.K (.ref fa)=true
 cls:∀ x f,c.cls.lookup x=some f->∃ k C fa fd ps,FnR X P Ξ.1 k f fa fd ps/\p8 (k + 1) X.A/\X.mg x=some (.ref C)/\n6 X.K x C/\Cls X.K C/\Mk X.K C fa
 mts:∀ m y f C,(m,y,f) ∈ c.mts->n6 X.K y C->∃ k fa fd ps,Meth X.K C m fa/\FnR X P Ξ.1 k f fa fd ps/\p8 k X.A
 fls:∀ f y C,(f,y) ∈ c.fls->n6 X.K y C->t9 X.K C f
 exq:Ξ.1=c.exc
 pass:Passes (CXE X.prog X.w) X Ξ.2
 rais:c.rais=true->ae2 X Ξ.2
 tryb:c.tryb=true->X.stack=X.env :: X.outer/\X.env.frame=some X.env.locals/\ab6 X Ξ.2
 exc:∀ x,c.exc.contains x=true->∃ C,X.mg x=some (.ref C)/\n6 X.K x C/\∃ B newId initId bm,OwnCls x C bm newId X.mg X.base/\ExcBaseFacts B newId initId bm
 exm:∀ x y C C',c.exc.contains x=true->c.exc.contains y=true->n6 X.K x C->n6 X.K y C'->PySem.W.exmOne X.K (.ref C) (.ref C')=some (decide (x=y \/ y="MintError"))
 gdc:∀ x kvs,c.gd.lookup x=some kvs->bF3 X x kvs
section
variable {X:Cx} {c:i3} {P:Sig} {Ξ:XKE}
theorem bf8 {c:i3} {x:Str} {i:Nat} (h:c.idx x=some i):c.N[i]?=some x:=by
 unfold i3.idx at h
 rw [List.findIdx?_eq_some_iff_getElem] at h
 obtain ⟨h1,h2,_⟩:=h
 rw [List.getElem?_eq_getElem h1,of_decide_eq_true h2]
theorem COk.aE7 (C:COk X c P Ξ) {x:Str} (h:c.vis x=true):Vis X.env.scope x:=by
 unfold i3.vis at h
 split at h
 ·rename_i e;exact .inl (C.loc x e)
 ·rename_i e;exact .inr (.inl (C.cel x e))
 ·rename_i e
  rcases C.fre x e with z | z
  ·exact .inr (.inl z)
  ·exact .inr (.inr z)
 ·cases h
theorem COk.D9 (C:COk X c P Ξ) {x:Str} (h:c.gl x=true):Gl X x:=C.glo x (of_decide_eq_true h)
theorem COk.A7 (C:COk X c P Ξ) {x:Str} (h:c.A7 x=true):Loc X.env.scope x/\(X.fn x=true \/ X.env.scope.names.lookup x=some .local):=by
 unfold i3.A7 at h
 rw [Bool.or_eq_true] at h
 rcases h with h | h
 ·have:=C.loc x (of_decide_eq_true h)
  exact ⟨.inl this,.inr this⟩
 ·rw [Bool.and_eq_true] at h
  exact ⟨.inr (C.cel x (of_decide_eq_true h.2)),.inl (C.fnb h.1 x)⟩
theorem COk.aa9 (C:COk X c P Ξ) {x:Str} {i:Nat} (h:c.idx x=some i):X.N[i]?=some x:=by rw [C.N];exact bf8 h
theorem COk.ndN (C:COk X c P Ξ):X.N.Nodup:=by rw [C.N];exact C.nd
theorem aJ9 {e:Expr} {x:Str} (h:asName e=some x):∃ p,e=.Name x p:=by
 cases e <;> first | (cases h;exact ⟨_,rfl⟩) | cases h
theorem au7 {e:Expr} {i:Nat} (h:c.slot e=some i):∃ x p,e=.Name x p/\c.A7 x=true/\c.idx x=some i:=by
 unfold i3.slot at h
 obtain ⟨x,hx,h2⟩:=Option.bind_eq_some_iff.mp h
 obtain ⟨p,rfl⟩:=aJ9 hx
 split at h2
 ·exact ⟨x,p,rfl,by assumption,h2⟩
 ·cases h2
theorem COk.slots (C:COk X c P Ξ):∀ {es:List Expr} {is:List Nat},c.slots es=some is->SlotsOk X es is:=by
 intro es
 induction es with
 | nil=>intro is h;cases h;exact .nil
 | cons e r ih =>
  intro is h
  unfold i3.slots at h
  obtain ⟨i,hi,h⟩:=Option.bind_eq_some_iff.mp h
  obtain ⟨is',hs,rfl⟩:=Option.map_eq_some_iff.mp h
  obtain ⟨x,p,rfl,hl,hx⟩:=au7 hi
  exact .cons (C.aa9 hx) (C.A7 hl).1 (C.A7 hl).2 (ih hs)
theorem orElse_some {α:Type} {a:Option α} {b:Unit->Option α} {m:α} (h:a.orElse b=some m):a=some m \/ b ()=some m:=by
 cases a with
 | none=>exact .inr h
 | some x=>exact .inl h
theorem COk.bj0 (C:COk X c P Ξ) {tg:Expr} {t:MT} (h:c.tg tg=some t):PG X tg (LG X.K t):=by
 unfold i3.tg at h
 rcases orElse_some h with h | h
 ·obtain ⟨i,hi,rfl⟩:=Option.map_eq_some_iff.mp h
  obtain ⟨x,p,rfl,hl,hx⟩:=au7 hi
  exact bl0 C.ndN (C.aa9 hx) (C.A7 hl).1 (C.A7 hl).2
 ·cases tg <;> first | (cases h;done) | skip
  obtain ⟨is,hs,rfl⟩:=Option.map_eq_some_iff.mp (show (c.slots _).map MT.many=some t from h)
  exact aC0 C.calm C.ndN (C.slots hs)
theorem n5 {e:Expr} {es:List Expr} {env:Env} (h:okE e=true):starEach (e :: es) env=(false,eval e env) :: starEach es env:=by
 cases e <;> first | rfl | cases h
theorem ag3 {e:Expr} {env:Env} (h:okE e=true):∀ x,foldedSetIterable e env x=pure x:=by
 intro x
 cases e <;> first | rfl | cases h
theorem bq4 {e:Expr} (h:okE e=true):aE2 e:=by
 intro o i
 cases e <;> first | rfl | cases h
theorem be4 {o i:Expr} {tp:Pos} {env:Env} (h:okE i=true):∀ v,assign (.Subscript o i tp) env v=(do
      let ov <- holding [v] (eval o env)
      let iv <- holding [v,ov] (eval i env)
      standAt tp
      holding [v,ov,iv] (setItem ov iv v)
      release [v,ov,iv] []):=by
  intro v
  cases i <;> first | rfl | cases h
theorem T9 {e:Expr} {t:Option Expr} {n:Nat} {env:Env} (h:w9 e=true):swapsWith e t n env=pure false:=by
 cases e <;> first | rfl | cases h
theorem aX8 {e:Expr} {es:List Expr} {k:Nat} {p:Pos} {env:Env} (h:aj7 e=true):swappedStores [.Tuple es k p] e env=pure none:=by
 cases e <;> first | rfl | cases h
theorem aN4 {e:Expr} {env:Env} (h:aa1 e=true):∀ whole,isTrue e env whole=(do let v <- whole;standAt e.pos;holding [v] (truthy v)):=by
 intro w
 cases e <;> first | rfl | cases h
theorem N3 {e:Expr} {q:Str × List Expr} (h:W2 e=some q):∃ p pos,e=.Call (.Name q.1 p) q.2 [] pos:=by
 cases e <;> first | (cases h;done) | skip
 rename_i f as kws pos
 cases f <;> first | (cases h;done) | skip
 cases kws <;> first | (cases h;done) | skip
 cases h
 exact ⟨_,_,rfl⟩
theorem az5 {l:List Expr} {x:Str} (h:a13 l=some x):∃ p,l=[.Name x p]:=by
 rcases l with _ | ⟨e,_ | ⟨_,_⟩⟩
 ·cases h
 ·cases e <;> first | (cases h;exact ⟨_,rfl⟩) | cases h
 ·cases e <;> cases h
theorem a14 {e:Expr} {q:Expr × Expr} (h:bt9 e=some q):∃ p,e=.BinOp q.1 .BitOr q.2 p:=by
 cases e <;> first | (cases h;done) | skip
 rename_i a op b p
 cases op <;> first | (cases h;exact ⟨_,rfl⟩) | cases h
theorem G5 {o:Expr} {f:Str} {env:Env} (h:aa4 o=true):attributeBase o f env (eval o env)=eval o env:=by
 cases o <;> first | rfl | skip
 rename_i f as kws pos
 cases f <;> first | rfl | cases h
theorem ao6 {env:Env}:∀ (names:List (Str × NameKind)) (acc:List (Str × Addr)),(∀ y ∈ names,y.2=.free->∃ a,env.cells.lookup y.1=some a)->(∀ x a,acc.lookup x=some a->env.cells.lookup x=some a) ->
  ∃ cl,(forIn names acc fun (y:Str × NameKind) (cs:List (Str × Addr))=>(match y with
   | (name,kind)=>if (kind == NameKind.free)=true then do
     let __do_lift <- cellOf env name
     pure (ForInStep.yield ((name,__do_lift) :: cs))
    else pure (ForInStep.yield cs):Sem (ForInStep (List (Str × Addr)))))=pure cl/\(∀ x a,cl.lookup x=some a->env.cells.lookup x=some a)/\(∀ y ∈ names,y.2=.free->∃ a,cl.lookup y.1=some a)/\∀ x a,acc.lookup x=some a->∃ a',cl.lookup x=some a'
 | [],acc,_,h2=>⟨acc,rfl,h2,fun y hy=>absurd hy (by simp),fun x a h=>⟨a,h⟩⟩
 | (n,k) :: r,acc,h1,h2=>by
  rw [List.forIn_cons]
  by_cases hk:k=.free
  ·subst hk
   obtain ⟨a,ha⟩:=h1 (n,.free) (by simp) rfl
   have hc:cellOf env n=pure a:=by unfold cellOf;rw [ha]
   obtain ⟨cl,e,q1,q2,q3⟩:=ao6 r ((n,a) :: acc) (fun y hy=>h1 y (by simp [hy])) (fun x b hb=>by
    rw [List.lookup_cons] at hb
    cases hx:x == n with
    | true=>rw [hx] at hb;cases hb;rw [eq_of_beq hx];exact ha
    | false=>rw [hx] at hb;exact h2 x b hb)
   refine ⟨cl,?_,q1,fun y hy hf=>?_,fun x b hb=>?_⟩
   ·simp only [beq_self_eq_true,if_true,hc]
    exact e
   ·rcases List.mem_cons.mp hy with z | z
    ·subst z
     exact q3 n a (by simp [List.lookup_cons])
    ·exact q2 y z hf
   ·cases hx:x == n with
    | true=>exact q3 x a (by rw [List.lookup_cons,hx])
    | false=>exact q3 x b (by rw [List.lookup_cons,hx];exact hb)
  ·have hb:(k == NameKind.free)=false:=by simpa using hk
   obtain ⟨cl,e,q1,q2,q3⟩:=ao6 r acc (fun y hy=>h1 y (by simp [hy])) h2
   refine ⟨cl,?_,q1,fun y hy hf=>?_,q3⟩
   ·simp only [hb,Bool.false_eq_true,if_false]
    exact e
   ·rcases List.mem_cons.mp hy with z | z
    ·subst z;exact absurd hf hk
    ·exact q2 y z hf
end
end M

namespace M
open PySem L2 PySem.Spec PyProof.Rows
theorem aO1 {P:Program} {w:World} {X:Cx}:Passes (CXE P w) X (fun _ _ _=>False):=fun _ _ _ _ _ _ _ h=>by
 obtain ⟨_,_,_,_,_,_,_,z⟩:=h
 exact z.elim
theorem P7 {env:Env}:∀ {names:List (Str × NameKind)} {x:Str},names.lookup x=some .globalImplicit ->
  (names.map fun (n,k)=>if (k == NameKind.free && env.scope.kind == .function && env.kindOf n == some .cell) then (n,NameKind.cell) else (n,k)).lookup x=some .globalImplicit
 | [],_,h=>by simp at h
 | (n,k) :: r,x,h=>by
  have ih:=@P7 env r x
  show List.lookup x ((if (k == NameKind.free && env.scope.kind == .function && env.kindOf n == some .cell)=true then (n,NameKind.cell) else (n,k)) :: _)=_
  cases hx:x == n with
  | true =>
   simp only [List.lookup_cons,hx] at h
   cases h
   simp [List.lookup_cons,hx]
  | false =>
   simp only [List.lookup_cons,hx] at h
   by_cases hc:(k == NameKind.free && env.scope.kind == .function && env.kindOf n == some .cell)=true
   ·rw [if_pos hc];simp only [List.lookup_cons,hx];exact ih h
   ·rw [if_neg hc];simp only [List.lookup_cons,hx];exact ih h
section
variable {X:Cx} {c:i3} {P:Sig} {Ξ:XKE}
theorem COk.comp (C:COk X c P Ξ) {sc:Scope} (h:c.am6 sc=true):∃ cl,CompScope X sc (frees sc ++ locals sc) (c.i6 sc) cl/\∀ pins A s H fp,COk (j7 X pins sc (frees sc ++ locals sc) cl A s H fp) (c.inner sc) P (XK0 Ξ.1):=by
 unfold i3.am6 at h
 simp only [Bool.and_eq_true,decide_eq_true_eq,List.all_eq_true] at h
 obtain ⟨⟨⟨⟨h1,h2⟩,h3⟩,h4⟩,h5⟩:=h
 have hfree:∀ x,sc.names.lookup x=some .free->x ∈ frees sc:=fun x hx=>by
  unfold frees
  exact List.mem_map.mpr ⟨(x,.free),List.mem_filter.mpr ⟨PySem.mem_of_lookup hx,by simp⟩,rfl⟩
 have fr:∀ x ∈ frees sc,(∃ i,c.idx x=some i)/\sc.names.lookup x=some .free/\(c.nm.lookup x=some .cell \/ c.nm.lookup x=some .free):=fun x hx=>by
  have:=h5 x hx
  rw [Option.isSome_iff_exists,Bool.or_eq_true] at this
  simp only [decide_eq_true_eq] at this
  exact ⟨this.1.1,this.1.2,this.2⟩
 have cellOk:∀ y ∈ sc.names,y.2=.free->∃ a,X.env.cells.lookup y.1=some a:=fun y hy hf=>by
  have hm:y.1 ∈ frees sc:=List.mem_map.mpr ⟨y,List.mem_filter.mpr ⟨hy,by simp [hf]⟩,rfl⟩
  exact C.cells y.1 (fr y.1 hm).2.2
 obtain ⟨cl,e,q1,q2,_⟩:=ao6 sc.names [] cellOk (fun x a h=>by simp at h)
 refine ⟨cl,⟨h1,h2,fun y hy hl=>?_,?_,q1,fun x hx=>q2 (x,.free) (PySem.mem_of_lookup hx) rfl,h4,fun i j hij=>?_,?_⟩,fun pins A s H fp=>?_⟩
 ·have:=h3 y hy
  rw [Bool.or_eq_true] at this
  simp only [Bool.not_eq_true',decide_eq_false_iff_not,decide_eq_true_eq] at this
  exact this.resolve_left fun z=>z hl
 ·simp only [closureFor]
  rw [e]
  rfl
 ·unfold i3.i6 at hij
  rw [List.getElem?_map] at hij
  cases ex:(frees sc)[i]? with
  | none=>rw [ex] at hij;cases hij
  | some x =>
   rw [ex] at hij
   have hx:x ∈ frees sc:=List.mem_of_getElem? ex
   obtain ⟨⟨k,hk⟩,hl,hc⟩:=fr x hx
   have hj:k=j:=by
    have:=Option.some.inj hij
    dsimp only at this
    rw [hk] at this
    exact this
   subst hj
   refine ⟨x,?_,C.aa9 hk,hl,?_⟩
   ·rw [List.getElem?_append_left (List.getElem?_eq_some_iff.mp ex).1]
    exact ex
   ·rcases hc with z | z
    ·exact .inl (C.cel x z)
    ·exact C.fre x z
 ·unfold i3.i6
  rw [List.length_map,List.length_append]
  omega
 ·refine ⟨rfl,h4,fun x hx=>lookup_relabel_local hx,fun x hx=>?_,fun x hx=>B4 hx,fun x hx=>P7 hx,fun x hx=>?_,fun z=>?_,rfl,C.units,PassesOwn.never,C.mono,C.con,C.blt,C.fns,C.cls,C.mts,C.fls,C.exq,aO1,(fun z=>by cases z),(fun z=>by cases z),C.exc,C.exm,C.gdc⟩
  ·exact absurd rfl (h2 _ (PySem.mem_of_lookup hx))
  ·rcases hx with hx | hx
   ·exact absurd rfl (h2 _ (PySem.mem_of_lookup hx))
   ·exact q2 (x,.free) (PySem.mem_of_lookup hx) rfl
  ·cases z
theorem K8 {x:Str} (h:X4 x=true):(x == ("__debug__":Str))=false/\(x == ("__classdict__":Str))=false/\x ≠ "__name__":=by
 unfold X4 at h
 simp only [Bool.and_eq_true,decide_eq_true_eq,beq_iff_eq] at h
 exact ⟨h.1.1,h.1.2,h.2⟩
theorem aT4 {x:Str} {t:String} (h:aE8.lookup x=some t):bootBuiltins x=some (.type t):=by
 have hm:=PySem.mem_of_lookup h
 simp only [aE8,List.mem_cons,List.mem_nil_iff,or_false] at hm
 rcases hm with z | z | z | z | z <;> (cases z;first | exact PyProof.Rows.boot_int | exact PyProof.Rows.boot_bool | exact PyProof.Rows.boot_str | exact PyProof.Rows.boot_tuple | exact PyProof.Rows.boot_list | decide +kernel | rfl)
theorem aS4 {x:Str} {p:Pr} (hc:X.calm=true) (h:az3.lookup x=some p):∃ v,((∃ id,v=.builtin id) \/ ∃ T,v=.type T)/\bootBuiltins x=some v/\t6 X v (rN X.K p):=by
 have hm:=PySem.mem_of_lookup h
 simp only [az3,List.mem_cons,List.mem_nil_iff,or_false] at hm
 rcases hm with z | z | z | z | z | z
 ·cases z;exact ⟨.builtin "len",.inl ⟨_,rfl⟩,PySem.boot_len,br1⟩
 ·cases z;exact ⟨.type "list",.inr ⟨_,rfl⟩,by first | exact PyProof.Rows.boot_list | decide +kernel,bf1⟩
 ·cases z;exact ⟨.type "tuple",.inr ⟨_,rfl⟩,by first | exact PyProof.Rows.boot_tuple | decide +kernel,aT6⟩
 ·cases z;exact ⟨.builtin "isinstance",.inl ⟨_,rfl⟩,by first | exact PyProof.Rows.boot_isinstance | decide +kernel,bf5⟩
 ·cases z;exact ⟨.builtin "all",.inl ⟨_,rfl⟩,by first | exact PyProof.Rows.boot_all | decide +kernel,bu0 hc⟩
 ·cases z;exact ⟨.type "int",.inr ⟨_,rfl⟩,by first | exact PyProof.Rows.boot_int | decide +kernel,bs0⟩
theorem aH3 {x:Str} {p:Pr} (h:V6.lookup x=some p):∃ T id,PlainAttrs T/\Slot T x id/\typeOf (.builtin id)=pure (.type "method_descriptor")/\MtR X id (rM X.K p) /\
  ∀ {d:D} {v:V} {g:G} {ρ:List Addr} {H:Hp},Rl X.K ρ g H->d9 X.K ρ H d v->mkP p d g->tyV X.K T v H:=by
 have hm:=PySem.mem_of_lookup h
 simp only [V6,List.mem_cons,List.mem_nil_iff,or_false] at hm
 rcases hm with z | z
 ·cases z;exact ⟨_,_,PySem.F.plainAttrs_list,PySem.F.slot_list_clear,PySem.F.type_list_clear,a05,fun R r h=>ty_list R r h⟩
 ·cases z;exact ⟨_,_,PySem.F.plainAttrs_list,PySem.F.slot_list_pop,PySem.F.type_list_pop,bd0,fun R r h=>ty_list R r h⟩
theorem aP3 {x:Str} {p:Pr} (hu:X.A.units + 100 < cLine) (h:aw6.lookup x=some p):∃ T id,PlainAttrs T/\Slot T x id/\typeOf (.builtin id)=pure (.type "method_descriptor")/\MtR X id (rM X.K p) /\
  ∀ {d:D} {v:V} {g:G} {ρ:List Addr} {H:Hp},Rl X.K ρ g H->d9 X.K ρ H d v->mkP p d g->tyV X.K T v H:=by
 have hm:=PySem.mem_of_lookup h
 simp only [aw6,List.mem_cons,List.mem_nil_iff,or_false] at hm
 rcases hm with z | z
 ·cases z;exact ⟨_,_,PySem.F.plainAttrs_list,PySem.F.slot_list_append,PySem.F.type_list_append,aS5,fun R r h=>ty_list R r h⟩
 ·cases z;exact ⟨_,_,PySem.F.plainAttrs_list,PySem.F.slot_list_pop,PySem.F.type_list_pop,aW3,fun R r h=>ty_list R r h⟩
theorem au5 {pos:Pos} {env:Env}:∀ {es:List Expr},(∀ e ∈ es,okE e=true)->(backTo pos (starEach es env)).all (fun x=>!x.1)=true
 | [],_=>rfl
 | e :: es,h=>by
  rw [n5 (h e (by simp))]
  have ih:=au5 (pos:=pos) (env:=env) (es:=es) fun x hx=>h x (by simp [hx])
  unfold backTo at ih ⊢
  rw [List.map_cons,List.all_cons,ih]
  rfl
theorem S4 {pos:Pos} {env:Env}:∀ {es:List Expr},(∀ e ∈ es,okE e=true)->(backTo pos (starEach es env)).any (·.1)=false
 | [],_=>rfl
 | e :: es,h=>by
  rw [n5 (h e (by simp))]
  have ih:=S4 (pos:=pos) (env:=env) (es:=es) fun x hx=>h x (by simp [hx])
  unfold backTo at ih ⊢
  rw [List.map_cons,List.any_cons,ih]
  rfl
theorem ah8 {r:CF}:∀ {es:List Expr} {m:ME},D6 r c es=some m->∀ e ∈ es,okE e=true:=by
 intro es
 induction es with
 | nil=>intro m _ e he;exact absurd he (by simp)
 | cons a es ih =>
  intro m h e he
  unfold D6 at h
  split at h
  ·obtain ⟨m1,h1,h⟩:=Option.bind_eq_some_iff.mp h
   obtain ⟨m2,h2,_⟩:=Option.map_eq_some_iff.mp h
   rcases List.mem_cons.mp he with z | z
   ·rw [z];assumption
   ·exact ih h2 e z
  ·cases h
end
structure Snd (P:Sig) (r:CF):Prop where
 e:∀ X c Ξ,COk X c P Ξ->∀ e m,r.e c e=some m->PE X e (LE X.K Ξ (wpE P m))
 t:∀ X c Ξ,COk X c P Ξ->∀ e m,r.t c e=some m->PT X e (LT X.K Ξ (wpT P m))
 s:∀ X c Ξ,COk X c P Ξ->∀ st m,r.s c st=some m->PS X st (LS X.K Ξ (wpS P m))
section
variable {X:Cx} {c:i3} {P:Sig} {Ξ:XKE} {r:CF} (S:Snd P r) (C:COk X c P Ξ) {a b d e:Expr} {m:ME} {pos:Pos}
include S C
theorem ab3 {p:Pr} (h:c1 r c p a=some m):∃ ma,PE X a (LE X.K Ξ (wpE P ma))/\m=.prim p (.cons ma .nil):=by
 obtain ⟨ma,ha,rfl⟩:=Option.map_eq_some_iff.mp h
 exact ⟨ma,S.e X c Ξ C _ _ ha,rfl⟩
theorem W0 {p:Pr} (h:c2 r c p a b=some m):∃ ma mb,PE X a (LE X.K Ξ (wpE P ma))/\PE X b (LE X.K Ξ (wpE P mb))/\m=.prim p (.cons ma (.cons mb .nil)):=by
 obtain ⟨ma,ha,h⟩:=Option.bind_eq_some_iff.mp h
 obtain ⟨mb,hb,rfl⟩:=Option.map_eq_some_iff.mp h
 exact ⟨ma,mb,S.e X c Ξ C _ _ ha,S.e X c Ξ C _ _ hb,rfl⟩
theorem n_A:∀ {es:List Expr} {m:ME},D6 r c es=some m->PA X es (LA X.K Ξ (wpA P m)):=by
 intro es
 induction es with
 | nil=>intro m h;cases h;exact V0 C.mono
 | cons a es ih =>
  intro m h
  unfold D6 at h
  split at h
  ·rename_i hok
   obtain ⟨m1,h1,h⟩:=Option.bind_eq_some_iff.mp h
   obtain ⟨m2,h2,rfl⟩:=Option.map_eq_some_iff.mp h
   exact G0 C.mono (S.e X c Ξ C _ _ h1) (ih h2) (n5 hok)
  ·cases h
theorem n_D:∀ {ks:List (Option Expr)} {vs:List Expr} {m:ME},al5 r c ks vs=some m->∃ trs,DOk X Ξ P ks vs m trs:=by
 intro ks
 induction ks with
 | nil=>intro vs m h;cases vs <;> first | (cases h;exact ⟨_,.nil⟩) | cases h
 | cons k ks ih =>
  intro vs m h
  cases k <;> first | (cases h;done) | skip
  cases vs <;> first | (cases h;done) | skip
  unfold al5 at h
  obtain ⟨m1,h1,h⟩:=Option.bind_eq_some_iff.mp h
  obtain ⟨m2,h2,h⟩:=Option.bind_eq_some_iff.mp h
  obtain ⟨m3,h3,rfl⟩:=Option.map_eq_some_iff.mp h
  obtain ⟨trs,D⟩:=ih h3
  exact ⟨_,.cons (S.e X c Ξ C _ _ h1) (S.e X c Ξ C _ _ h2) D⟩
theorem n_B {op:BoolOp}:∀ {vs:List Expr} {m:ME},as8 r c op vs=some m->PE X (.BoolOp op vs pos) (LE X.K Ξ (wpE P m)):=by
 intro vs
 induction vs with
 | nil=>intro m h;cases h
 | cons a vs ih =>
  intro m h
  cases vs with
  | nil=>exact bo6 (S.e X c Ξ C _ _ h)
  | cons b vs =>
   unfold as8 at h
   obtain ⟨m1,h1,h⟩:=Option.bind_eq_some_iff.mp h
   obtain ⟨m2,h2,rfl⟩:=Option.map_eq_some_iff.mp h
   cases op
   ·exact bm3 C.mono (S.e X c Ξ C _ _ h1) (ih h2)
   ·exact bw6 C.mono (S.e X c Ξ C _ _ h1) (ih h2)
theorem n_W {op:BoolOp}:∀ {vs:List Expr} {m:ME},as7 r c op vs=some m->PW X (.BoolOp op vs pos) (LT X.K Ξ (wpT P m)):=by
 intro vs
 induction vs with
 | nil=>intro m h;cases h
 | cons a vs ih =>
  intro m h
  cases vs with
  | nil =>
   cases op
   ·exact bc1 (S.t X c Ξ C _ _ h)
   ·exact bn2 (S.t X c Ξ C _ _ h)
  | cons b vs =>
   unfold as7 at h
   obtain ⟨m1,h1,h⟩:=Option.bind_eq_some_iff.mp h
   obtain ⟨m2,h2,rfl⟩:=Option.map_eq_some_iff.mp h
   cases op
   ·exact bk1 C.mono (S.t X c Ξ C _ _ h1) (ih h2)
   ·exact bw3 C.mono (S.t X c Ξ C _ _ h1) (ih h2)
theorem bM8 {es:List Expr} (h:aS1 r c es=some m):PTs X es (LT X.K Ξ (wpT P m)):=by
 rcases es with _ | ⟨e,_ | ⟨_,_⟩⟩
 ·cases h;exact ba2 C.mono
 ·exact bc2 (S.t X c Ξ C _ _ h)
 ·cases h
theorem am7:∀ {sts:List Stmt} {m:MS},d0 r c sts=some m->PSs X sts (LS X.K Ξ (wpS P m)):=by
 intro es
 induction es with
 | nil=>intro m h;cases h;exact aM0 C.mono
 | cons a es ih =>
  intro m h
  unfold d0 at h
  obtain ⟨m1,h1,h⟩:=Option.bind_eq_some_iff.mp h
  obtain ⟨m2,h2,rfl⟩:=Option.map_eq_some_iff.mp h
  exact aB8 C.mono (S.s X c Ξ C _ _ h1) (ih h2)
end
theorem ae9 {e t:Expr} {n:Nat} {env:Env} (h:w9 e=true):swapsWithSole [t] e n env=pure false:=by
 show swapsWith e (some t) n env=pure false
 exact T9 h
theorem aG3 {x y:Str} {px py pt pt2:Pos} {kt k2:Nat} {a b:Expr} {env:Env} (hk:env.scope.kind=.function) (hx:env.kindOf x=some .local) (hy:env.kindOf y=some .local) (hne:x ≠ y) (hl:py.line=px.line) (ha:okE a=true) (hb:okE b=true)
  (h1:[a,b].all (foldedForSure 8)=false) (h2:[a,b].all (constantsAlone 8)=false):swappedStores [.Tuple [.Name x px,.Name y py] kt pt] (.Tuple [a,b] k2 pt2) env=pure (some [x,y]):=by
 have hbk:env.blockKind=.function:=by simp [Env.blockKind,hk,ScopeKind.isAnnotationScope]
 have hd:[x,y].eraseDups.length=2:=by
  have:(y == x)=false:=by simpa using Ne.symm hne
  simp [List.eraseDups_cons,this]
 have hx':(env.kindOf x == some NameKind.local && px.line == px.line)=true:=by simp [hx]
 have hy':(env.kindOf y == some NameKind.local && py.line == px.line)=true:=by simp [hy,hl]
 have hp:Expr.pos (.Name x px)=px:=rfl
 unfold swappedStores
 simp only [List.length_cons,List.length_nil,hbk,List.head?_cons,Option.map_some,Option.getD_some,hp,List.filterMap_cons,List.filterMap_nil,hx',hy',if_true,hd,h1,h2]
 rw [if_neg (by decide),if_neg ?_]
 ·rfl
 ·simp only [List.any_cons,List.any_nil,Bool.or_false,Bool.or_eq_true,not_or]
  constructor
  ·cases a <;> first | (intro h;cases h;done) | cases ha
  ·cases b <;> first | (intro h;cases h;done) | cases hb
theorem bj9 {X:Cx} {Ξ:XKE} {P:Sig} (hP:j9 P) {i j:Nat} {x y:Str} {a b:Expr} {px py pt pt2 pos:Pos} {kt k2:Nat} {mes:ME} (hc:X.calm=true) (hN:X.N.Nodup) (hi:X.N[i]?=some x) (hj:X.N[j]?=some y) (hne:x ≠ y) (hl:py.line=px.line)
  (hx:X.env.scope.names.lookup x=some .local) (hy:X.env.scope.names.lookup y=some .local) (oa:okE a=true) (ob:okE b=true) (h1:[a,b].all (foldedForSure 8)=false) (h2:[a,b].all (constantsAlone 8)=false)
  (ha:PA X [a,b] (LA X.K Ξ (wpA P mes))):PS X (.Assign [.Tuple [.Name x px,.Name y py] kt pt] (.Tuple [a,b] k2 pt2) pos) (LS X.K Ξ (wpS P (.unp (.many [i,j]) (.prim .tup mes)))):=by
 intro pins s σv H D I h
 have hij:i ≠ j:=by
  rintro rfl
  rw [hi] at hj;cases hj;exact hne rfl
 refine bn7 hc hN hi hj hij hx hy ha (aG3 I.ok.kind hx hy hne hl oa ob h1 h2) rfl pins s σv H D I ?_
 obtain ⟨σ,g,ρ,sr,R,h⟩:=h
 refine thA hP sr R (.refl _ _) (show wpA P mes σ g (fun xs g1=>prP .tup xs g1 _) _ from h) fun ds g1 ρ1 H1 vs e1 R1 r1 h=>?_
 obtain ⟨d',g',⟨_,rfl,rfl⟩,l,σ',ex,hs,h⟩:=h
 cases ex
 have hl:=W8 hs
 have e2:∃ d1 d2,ds=[d1,d2]:=by
  rcases ds with _ | ⟨d1,_ | ⟨d2,_ | ⟨d3,r⟩⟩⟩ <;> first | exact ⟨_,_,rfl⟩ | (simp at hl;done) | (simp at hl;omega)
 obtain ⟨d1,d2,rfl⟩:=e2
 obtain ⟨v,w,rfl,q1,q2⟩:=r1.two
 cases hs
 exact ⟨_,_,rfl,h ρ1 H1 _ e1 R1 (((sr.ext e1).set i q1).set j q2)⟩
theorem COk.W4 {X:Cx} {c:i3} {Ξ:XKE} {P:Sig} (C:COk X c P Ξ) (hst:X.stack=X.env :: X.outer) (hf:X.env.frame=some X.env.locals) (pins:List (Addr × Obj)) (D:L2.Ends) (hs:List ExceptHandler) :
  COk (T8 X pins (ab8 X pins D hs)) { c with rais:=false,tryb:=false } P (aE3 X Ξ.1 D hs) :=
 ⟨C.N,C.nd,C.loc,C.cel,C.fre,C.glo,C.cells,C.fnb,C.calm,C.units,PassesOwn.looking,C.mono,C.con,C.blt,C.fns,C.cls,C.mts,C.fls,C.exq,aX2 hst hf fun C H' ⟨C',e,z⟩=>(by cases e;exact z),(fun z=>by cases z),(fun z=>by cases z),C.exc,C.exm,C.gdc⟩
end M

namespace M
open PySem L2 PySem.Spec PyProof.Rows
theorem bl7 {X:Cx} {Ξ:XKE} {P:Sig} (hP:j9 P) {a d:Expr} {ma:ME} {pos p2:Pos} (ha:PE X a (LE X.K Ξ (wpE P ma))) (hd:PE X d (LE X.K Ξ (wpE P (.prim (.un .USub) (.cons (.lit (.int 1)) .nil))))):PE X (.Subscript a (.Slice none none (some d) p2) pos) (LE X.K Ξ (wpE P (.prim .rev (.cons ma .nil)))) :=
 (bo5 ha hd).imp fun σv H Q ⟨σ,g,ρ,s,R,h⟩=>by
  simp only [wpE,wpA] at h
  refine thE hP s R (.refl _ _) h fun x g1 ρ1 H1 v1 e1 R1 r1 h=>?_
  obtain ⟨d',g',hr,q⟩:=h
  rcases hr with ⟨l,ex,rfl,rfl⟩ | ⟨a,l,ex,hl,rfl,rfl⟩
  ·cases ex
   obtain ⟨a',vs,rfl,ht,rs⟩:=r1.A2
   refine ⟨σ,g',ρ1,s.ext e1,R1,?_⟩
   simp only [wpE,wpA]
   refine ⟨_,_,⟨rfl,1,rfl,rfl,rfl⟩,fun ρ2 H2 v2 e2 R2 r2=>?_⟩
   refine ⟨r2.k9,_,_,rfl,.inl ⟨(ht.ext e2).sq,fun p hp=>?_⟩⟩
   exact (q.ext (e1.trans e2)).tup R2 hp (rs.ext e2).reverse
  ·cases ex
   obtain ⟨a',rfl,ha⟩:=r1.l9
   refine ⟨σ,_,ρ1,s.ext e1,R1,?_⟩
   simp only [wpE,wpA]
   refine ⟨_,_,⟨rfl,1,rfl,rfl,rfl⟩,fun ρ2 H2 v2 e2 R2 r2=>?_⟩
   obtain ⟨vs,hq,rs⟩:=R2.items hl (e2.get ha)
   refine ⟨r2.k9,_,_,rfl,.inr ⟨hq,fun p hp=>?_⟩⟩
   exact (q.ext (e1.trans e2)).new R2 hp rs.reverse
theorem aq1 {o:Expr} {m:Str} {apos pos:Pos} {args:List Expr} {env:Env} (hb:aa4 o=true) (hl:(apos.endLine == pos.line)=true) (hf:methodCallForm args.length (backTo pos (starEach args env)) (backToKw pos (keywordEach [] env))=true) :
  eval (.Call (.Attribute o m apos) args [] pos) env=(do
   let ov <- eval o env
   standAt apos.atName
   let (f,first) <- holding [ov] (getMethod ov m (do return (<- importBound o env).getD true))
   callWith pos f first (backTo pos (starEach args env)) (backToKw pos (keywordEach [] env))):=by
 have h1:eval (.Call (.Attribute o m apos) args [] pos) env=(do
   let ov <- attributeBase o m env (eval o env)
   standAt apos.atName
   methodCall o m apos pos env ov (args.length + 0) (backTo pos (starEach args env)) (backToKw pos (keywordEach [] env))):=rfl
 rw [h1,G5 hb]
 have h2:∀ ov,methodCall o m apos pos env ov (args.length + 0) (backTo pos (starEach args env)) (backToKw pos (keywordEach [] env))=(do
   let (f,first) <- holding [ov] (getMethod ov m (do return (<- importBound o env).getD true))
   callWith pos f first (backTo pos (starEach args env)) (backToKw pos (keywordEach [] env))):=fun ov=>by
  unfold methodCall calleeOf methodCallPos
  rw [Nat.add_zero,hf,hl]
  simp only [if_true,Bool.not_true,Bool.false_or,pure_bind]
 simp only [h2]
section
variable {X:Cx} {c:i3} {P:Sig} {Ξ:XKE} {r:CF} (S:Snd P r) (C:COk X c P Ξ) {a b d e:Expr} {m:ME} {pos:Pos}
include C
theorem bq5 {x:Str} (h:aE4 c x=some m):PE X (.Name x pos) (LE X.K Ξ (wpE P m)):=by
 unfold aE4 at h
 split at h
 ·rename_i hdb
  obtain ⟨d1,d2,d3⟩:=K8 hdb
  split at h
  ·rename_i hv
   obtain ⟨i,hi,rfl⟩:=Option.map_eq_some_iff.mp h
   exact bl4 (C.aa9 hi) (C.aE7 hv) d1 d2
  ·split at h
   ·rename_i hg
    rcases orElse_some h with h | h
    ·obtain ⟨d,hd,rfl⟩:=Option.map_eq_some_iff.mp h
     obtain ⟨v,u,hm,r,rr⟩:=C.con x d hd
     exact U9 (bd3 (C.D9 hg) hm r d1) rr
    ·split at h
     ·rename_i hb
      obtain ⟨t,ht,rfl⟩:=Option.map_eq_some_iff.mp h
      exact U9 (v:=.ty t) (bd7 (C.D9 hg) (C.blt x hb) (aT4 ht) rfl d3 d1) fun _ _=>.ty t
     ·cases h
   ·cases h
 ·cases h
omit C in
theorem n_K {k:Const} {j:Nat} {d:D} (h:Y7 k=some d):PE X (.Constant k j pos) (LE X.K Ξ (wpE P (.lit d))):=by
 cases k <;> first | (cases h;done) | skip
 ·cases h;exact U9 bo8 fun _ _=>.non
 ·cases h;exact U9 bz0 fun _ _=>.bl _
 ·cases h;exact U9 bp0 fun _ _=>.int _
 ·cases h;exact U9 bo4 fun _ _=>.str _
include S
theorem bM7 {op:UnaryOp} (h:xUn r c op a=some m):PE X (.UnaryOp op a pos) (LE X.K Ξ (wpE P m)):=by
 unfold xUn at h
 split at h
 ·rename_i ho
  subst ho
  obtain ⟨ma,ha,rfl⟩:=Option.map_eq_some_iff.mp h
  exact bl8 C.mono (S.e X c Ξ C _ _ ha)
 ·obtain ⟨ma,ha,rfl⟩:=ab3 S C h
  exact a35 C.mono ha
theorem a70 {ops:List CmpOp} {bs:List Expr} (h:at0 r c a ops bs=some m):PE X (.Compare a ops bs pos) (LE X.K Ξ (wpE P m))/\PT X (.Compare a ops bs pos) (LT X.K Ξ (wpT P (.tst m))):=by
 unfold at0 at h
 split at h
 ·rename_i op b
  split at h
  ·cases h
  ·rename_i hm
   have hm:behindInMarks op b=false:=by simpa using hm
   rcases orElse_some h with h | h
   ·obtain ⟨neg,hn,h⟩:=Option.bind_eq_some_iff.mp h
    obtain ⟨kvs,hk,h⟩:=Option.bind_eq_some_iff.mp h
    unfold i3.aI6 at hk
    cases hk
   ·obtain ⟨ma,mb,ha,hb,rfl⟩:=W0 S C h
    exact ⟨av2 C.mono (bd5 (V4 C.units op) ha hb hm),bk3 C.mono (bc4 (V4 C.units op) ha hb hm)⟩
 ·split at h
  ·cases h
  ·rename_i hm
   obtain ⟨ma,ha,h⟩:=Option.bind_eq_some_iff.mp h
   obtain ⟨mb,hb,h⟩:=Option.bind_eq_some_iff.mp h
   obtain ⟨md,hd,rfl⟩:=Option.map_eq_some_iff.mp h
   exact ⟨aV4 C.mono C.units (S.e X c Ξ C _ _ ha) (S.e X c Ξ C _ _ hb) (S.e X c Ξ C _ _ hd) (by simpa using hm),aU1 C.mono C.units (S.e X c Ξ C _ _ ha) (S.e X c Ξ C _ _ hb) (S.e X c Ξ C _ _ hd) (by simpa using hm)⟩
 ·cases h
omit S C in
theorem aJ8 {d:Expr} (h:az4 d=true):∃ j p q,d=.UnaryOp .USub (.Constant (.int 1) j p) q:=by
 cases d with
 | UnaryOp op a q=>cases op with
  | USub=>cases a with
   | Constant k j p=>cases k with
    | int i=>rw [show i=1 from of_decide_eq_true h];exact ⟨_,_,_,rfl⟩
    | _=>cases h
   | _=>cases h
  | _=>cases h
 | _=>cases h
theorem bN0 {lo hi st:Option Expr} {p2:Pos} (h:xSl r c a lo hi st=some m):PE X (.Subscript a (.Slice lo hi st p2) pos) (LE X.K Ξ (wpE P m)):=by
 cases lo <;> cases hi <;> cases st <;> first | (cases h;done) | skip
 ·obtain ⟨ma,ha,rfl⟩:=ab3 S C h
  exact aU7 C.mono ha
 ·rename_i d
  have h2:(if az4 d=true then c1 r c .rev a else none)=some m:=h
  split at h2
  ·rename_i hn
   obtain ⟨j,p,q,rfl⟩:=aJ8 hn
   obtain ⟨ma,ha,rfl⟩:=ab3 S C h2
   exact bl7 C.mono ha (a35 C.mono (n_K (k:=.int 1) rfl))
  ·cases h2
 ·obtain ⟨ma,mb,ha,hb,rfl⟩:=W0 S C h
  exact aU6 C.mono ha hb
 ·obtain ⟨ma,mb,ha,hb,rfl⟩:=W0 S C h
  exact aU5 C.mono ha hb
theorem bz9 (h:aT1 r c a b=some m):PE X (.Subscript a b pos) (LE X.K Ξ (wpE P m)):=by
 unfold aT1 at h
 rcases orElse_some h with h | h
 ·obtain ⟨q,hq,h⟩:=Option.bind_eq_some_iff.mp h
  have eb:∃ p,b=.Slice q.1 q.2.1 q.2.2 p:=by cases b <;> first | (cases hq;exact ⟨_,rfl⟩) | cases hq
  obtain ⟨p,rfl⟩:=eb
  exact bN0 S C h
 ·split at h
  ·rename_i hb
   rcases orElse_some h with h | h
   ·obtain ⟨kvs,hk,h⟩:=Option.bind_eq_some_iff.mp h
    unfold i3.aI6 at hk
    cases hk
   ·obtain ⟨ma,mb,ha,hb',rfl⟩:=W0 S C h
    exact av2 C.mono (by8 (bA7 C.units) ha hb' (bq4 hb))
  ·cases h
theorem bM9 {x:Str} {px:Pos} (hg:c.gl x=true) (h:xSp r c x e=some m):PE X (.Call (.Name x px) [e] [] pos) (LE X.K Ξ (wpE P m)):=by
 unfold xSp at h
 obtain ⟨q,hq,h'⟩:=Option.bind_eq_some_iff.mp h
 clear h
 have h:=h'
 clear h'
 obtain ⟨p,pos',rfl⟩:=N3 hq
 obtain ⟨y,as⟩:=q
 dsimp only at h ⊢
 split at h
 ·rename_i hc
  simp only [Bool.and_eq_true,decide_eq_true_eq] at hc
  obtain ⟨⟨⟨⟨rfl,rfl⟩,hl⟩,hr⟩,hgr⟩:=hc
  rcases as with _ | ⟨a,_ | ⟨b,_ | ⟨_,_⟩⟩⟩
  ·cases h
  ·dsimp only at h
   split at h
   ·rename_i ho
    obtain ⟨ma,ha,rfl⟩:=ab3 S C h
    exact aV2 C.mono C.calm ha (C.D9 hg) (C.blt _ hl) (C.D9 hgr) (C.blt _ hr) (n5 ho)
   ·cases h
  ·dsimp only at h
   split at h
   ·rename_i ho
    rw [Bool.and_eq_true] at ho
    obtain ⟨ma,mb,ha,hb,rfl⟩:=W0 S C h
    exact aV1 C.mono C.calm ha hb (C.D9 hg) (C.blt _ hl) (C.D9 hgr) (C.blt _ hr) (by rw [n5 ho.1,n5 ho.2];rfl) (n5 ho.2)
   ·cases h
  ·cases h
 ·cases h
theorem be7 {x:Str} {px:Pos} {args:List Expr} (h:aK7 r c x args=some m):PE X (.Call (.Name x px) args [] pos) (LE X.K Ξ (wpE P m)):=by
 cases args with
 | nil =>
  have h2:at5 c x=some m:=h
  unfold at5 at h2
  split at h2
  ·rename_i hdb
   rw [Bool.and_eq_true] at hdb
   obtain ⟨f,hf,rfl⟩:=Option.map_eq_some_iff.mp h2
   obtain ⟨k,C',fa,fd,ps,F,hr,hm,hC,hcl,M⟩:=C.cls x f hf
   exact aV0 C.mono C.pass F M hC hcl hr (C.D9 hdb.2) hm (K8 hdb.1).1
  ·cases h2
 | cons e es =>
  have h0:at4 r c x e es=some m:=h
  clear h
  have h:=h0
  clear h0
  unfold at4 at h
  split at h
  ·rename_i hdb
   rw [Bool.and_eq_true] at hdb
   obtain ⟨d1,d2,d3⟩:=K8 hdb.1
   rcases orElse_some h with h | h
   ·cases es with
    | nil=>exact bM9 S C hdb.2 h
    | cons _ _=>cases h
   ·obtain ⟨ms,hms,h⟩:=Option.bind_eq_some_iff.mp h
    have ok:=ah8 hms
    have pa:=n_A S C hms
    have hst:=n5 (env:=X.env) (es:=es) (ok e (by simp))
    have hpl:=S4 (pos:=pos) (env:=X.env) (es:=es) fun z hz=>ok z (by simp [hz])
    rcases orElse_some h with h | h
    ·obtain ⟨f,hf,rfl⟩:=Option.map_eq_some_iff.mp h
     obtain ⟨k,fa,fd,ps,F,hr,hm,hk⟩:=C.fns x f hf
     exact bb4 C.mono C.pass F hr (C.D9 hdb.2) hm hk pa d1 hst hpl
    ·rcases orElse_some h with h | h
     ·obtain ⟨f,hf,rfl⟩:=Option.map_eq_some_iff.mp h
      obtain ⟨k,C',fa,fd,ps,F,hr,hm,hC,hcl,M⟩:=C.cls x f hf
      exact bb2 C.mono C.pass F M hC hcl hr (C.D9 hdb.2) hm pa d1 hst hpl
     ·split at h
      ·rename_i hb
       obtain ⟨p,hp,rfl⟩:=Option.map_eq_some_iff.mp h
       obtain ⟨v,hv,hbb,hc⟩:=aS4 (X:=X) C.calm hp
       exact bm2 C.mono hv hc (C.D9 hdb.2) (C.blt x hb) hbb pa d3 d1 hst hpl
      ·cases h
  ·cases h
omit S in
theorem aw5 {m:Str}:ap3 X P Ξ.1 m (c.meths m):=fun y f C' h hC=>by
 have hm:=PySem.mem_of_lookup h
 unfold i3.meths at hm
 obtain ⟨⟨m',y',f'⟩,h1,h2⟩:=List.mem_map.mp hm
 obtain ⟨h3,h4⟩:=List.mem_filter.mp h1
 cases h2
 have:m'=m:=by simpa using h4
 subst this
 exact C.mts m' y f C' h3 hC
theorem be8 {o:Expr} {mt:Str} {apos:Pos} {args:List Expr} (h:at3 r c o mt apos pos args=some m):PE X (.Call (.Attribute o mt apos) args [] pos) (LE X.K Ξ (wpE P m)):=by
 unfold at3 at h
 split at h
 ·rename_i hc
  simp only [Bool.and_eq_true,decide_eq_true_eq] at hc
  obtain ⟨⟨hb,hl⟩,hn⟩:=hc
  obtain ⟨mo,ho,h⟩:=Option.bind_eq_some_iff.mp h
  obtain ⟨ms,hms,h⟩:=Option.bind_eq_some_iff.mp h
  have ok:=ah8 hms
  have pa:=n_A S C hms
  have po:=S.e X c Ξ C _ _ ho
  have hf:methodCallForm args.length (backTo pos (starEach args X.env)) (backToKw pos (keywordEach [] X.env))=true:=by
   unfold methodCallForm
   rw [au5 ok]
   have:args.length + 0 < 30:=by omega
   show (true && true && decide (args.length + 0 < 30))=true
   rw [decide_eq_true this]
   rfl
  by_cases hix:mt="index"
  ·subst hix
   rw [if_pos rfl] at h
   cases args with
   | nil=>cases h
   | cons e es =>
    cases h
    exact aV3 C.mono po pa (G5 hb) hf hl (n5 (env:=X.env) (es:=es) (ok e (by simp))) (S4 (pos:=pos) (env:=X.env) (es:=es) fun z hz=>ok z (by simp [hz]))
  rw [if_neg hix] at h
  cases args with
  | nil =>
   cases hms
   by_cases h0:(V6.lookup mt).isSome=true
   ·rw [if_pos (by rw [h0];rfl)] at h
    obtain ⟨p,hp,rfl⟩:=Option.map_eq_some_iff.mp h
    obtain ⟨T,id,pa',sl,ty,mt',hk⟩:=aH3 (X:=X) hp
    exact aU9 C.mono pa' sl ty mt' hk po (G5 hb) hl
   rw [if_neg (by rw [Bool.and_eq_true];exact fun z=>h0 z.2)] at h
   split at h
   ·cases h
   ·cases h
    exact aM4 C.mono C.pass (aw5 C) po (aq1 hb hl hf)
  | cons e es =>
   have hst:=n5 (env:=X.env) (es:=es) (ok e (by simp))
   have hpl:=S4 (pos:=pos) (env:=X.env) (es:=es) fun z hz=>ok z (by simp [hz])
   rw [if_neg (by simp)] at h
   split at h
   ·rename_i p hp
    cases h
    obtain ⟨T,id,pa',sl,ty,mt',hk⟩:=aP3 (X:=X) C.units hp
    exact bb1 C.mono pa' sl ty mt' hk po pa (G5 hb) hf hl hst hpl
   ·cases h
    exact aU8 C.mono C.pass (aw5 C) po pa hst hpl (aq1 hb hl hf)
 ·cases h
theorem n_I {tg:Expr} (h:al3 r c tg e=some m):PI X tg e (LI X.K Ξ (wpI P m)):=by
 unfold al3 at h
 rcases orElse_some h with h | h
 ·obtain ⟨q,hq,h'⟩:=Option.bind_eq_some_iff.mp h
  rename_i h0
  clear h h0
  have h:=h'
  clear h'
  obtain ⟨p,pos',rfl⟩:=N3 hq
  obtain ⟨y,as⟩:=q
  dsimp only at h ⊢
  ·split at h
   ·rename_i hy
    subst hy
    rcases as with _ | ⟨a,_ | ⟨b,_ | ⟨_,_⟩⟩⟩
    ·cases h
    ·dsimp only at h
     split at h
     ·rename_i hc
      simp only [Bool.and_eq_true] at hc
      obtain ⟨⟨hg,hb⟩,ho⟩:=hc
      obtain ⟨ma,ha,rfl⟩:=Option.map_eq_some_iff.mp h
      exact ba7 C.mono (S.e X c Ξ C _ _ ha) (C.D9 hg) (C.blt _ hb) (n5 ho)
     ·cases h
    ·dsimp only at h
     split at h
     ·rename_i hc
      simp only [Bool.and_eq_true] at hc
      obtain ⟨⟨⟨hg,hb⟩,ho⟩,ho2⟩:=hc
      obtain ⟨ma,ha,h⟩:=Option.bind_eq_some_iff.mp h
      obtain ⟨mb,hb',rfl⟩:=Option.map_eq_some_iff.mp h
      exact ba6 C.mono (S.e X c Ξ C _ _ ha) (S.e X c Ξ C _ _ hb') (C.D9 hg) (C.blt _ hb) (by rw [n5 ho,n5 ho2];rfl) (n5 ho2)
     ·cases h
    ·cases h
   ·cases h
 ·split at h
  ·obtain ⟨ma,ha,rfl⟩:=Option.map_eq_some_iff.mp h
   exact bk9 C.mono (S.e X c Ξ C _ _ ha)
  ·cases h
theorem aD0 {elt:Expr} {gens:List Comprehension} {sc:Scope} (h:ab7 r c elt gens sc=some m):∃ tg it ifs t mi mc me cl,gens=[⟨tg,it,ifs,0⟩]/\m=.comp (c.i6 sc) (frees sc ++ locals sc).length t mi mc me/\okE it=true /\
  CompScope X sc (frees sc ++ locals sc) (c.i6 sc) cl/\PI X tg it (LI X.K Ξ (wpI P mi))/\(∀ pins A s H fp,PG (j7 X pins sc (frees sc ++ locals sc) cl A s H fp) tg (LG X.K t)) /\
   (∀ pins A s H fp,PTs (j7 X pins sc (frees sc ++ locals sc) cl A s H fp) ifs (LT X.K (XK0 Ξ.1) (wpT P mc)))/\∀ pins A s H fp,PE (j7 X pins sc (frees sc ++ locals sc) cl A s H fp) elt (LE X.K (XK0 Ξ.1) (wpE P me)):=by
 unfold ab7 at h
 rcases gens with _ | ⟨⟨tg,it,ifs,isa⟩,_ | ⟨_,_⟩⟩
 ·cases h
 ·dsimp only at h
  split at h
  ·rename_i hs
   simp only [Bool.and_eq_true,decide_eq_true_eq] at hs
   obtain ⟨⟨hs,rfl⟩,hit⟩:=hs
   obtain ⟨t,h1,h⟩:=Option.bind_eq_some_iff.mp h
   obtain ⟨mi,h2,h⟩:=Option.bind_eq_some_iff.mp h
   obtain ⟨mc,h3,h⟩:=Option.bind_eq_some_iff.mp h
   obtain ⟨me,h4,rfl⟩:=Option.map_eq_some_iff.mp h
   obtain ⟨cl,Sc,I⟩:=C.comp hs
   exact ⟨tg,it,ifs,t,mi,mc,me,cl,rfl,rfl,hit,Sc,n_I S C h2,fun pins A s H fp=>(I pins A s H fp).bj0 h1,fun pins A s H fp=>bM8 S (I pins A s H fp) h3,fun pins A s H fp=>S.e _ _ _ (I pins A s H fp) elt me h4⟩
  ·cases h
 ·cases h
omit S in
theorem bN1 {f:Expr} {args:List Expr} {kws:List Keyword} (h:xSU c f args kws=some m):PE X (.Call f args kws pos) (LE X.K Ξ (wpE P m)):=by
 unfold xSU at h
 rcases args with _ | ⟨a,_ | ⟨_,_⟩⟩
 ·cases h
 ·dsimp only at h
  split at h
  ·rename_i hk
   simp only [Bool.and_eq_true,decide_eq_true_eq] at hk
   obtain ⟨⟨⟨⟨⟨hk,hf⟩,hgl⟩,hb⟩,hgs⟩,hbs⟩:=hk
   cases kws <;> first | (cases hk;done) | skip
   obtain ⟨q,hq,h⟩:=Option.bind_eq_some_iff.mp h
   obtain ⟨u,hu,h⟩:=Option.bind_eq_some_iff.mp h
   obtain ⟨v,hv,h⟩:=Option.bind_eq_some_iff.mp h
   split at h
   ·rename_i hs
    simp only [Bool.and_eq_true,decide_eq_true_eq] at hs
    obtain ⟨x,hx,h⟩:=Option.bind_eq_some_iff.mp h
    obtain ⟨y,hy,h⟩:=Option.bind_eq_some_iff.mp h
    split at h
    ·rename_i hw
     simp only [Bool.and_eq_true] at hw
     obtain ⟨⟨⟨nx,ny⟩,vx⟩,vy⟩:=hw
     obtain ⟨i,hi,h⟩:=Option.bind_eq_some_iff.mp h
     obtain ⟨j,hj,rfl⟩:=Option.map_eq_some_iff.mp h
     obtain ⟨x1,x2,_⟩:=K8 nx
     obtain ⟨y1,y2,_⟩:=K8 ny
     cases f <;> first | (cases hf;done) | skip
     cases hf
     obtain ⟨p,pp,e1⟩:=N3 hu
     obtain ⟨p',pp',e2⟩:=N3 hv
     obtain ⟨u1,u2⟩:=u
     obtain ⟨v1,v2⟩:=v
     dsimp only at hs e1 e2 hx hy
     obtain ⟨rfl,rfl⟩:=hs
     obtain ⟨p1,rfl⟩:=az5 hx
     obtain ⟨p2,rfl⟩:=az5 hy
     obtain ⟨p3,rfl⟩:=a14 hq
     rw [e1,e2]
     exact bl6 C.mono C.calm (C.aa9 hi) (C.aa9 hj) (C.aE7 vx) (C.aE7 vy) x1 x2 y1 y2 (C.D9 hgl) (C.blt _ hb) (C.D9 hgs) (C.blt _ hbs)
    ·cases h
   ·cases h
  ·cases h
 ·cases h
theorem n_E:∀ e m,a33 r c e=some m->PE X e (LE X.K Ξ (wpE P m)):=by
 intro e m h
 cases e with
 | Name x p=>exact bq5 C h
 | Constant k j p =>
  obtain ⟨d,hd,rfl⟩:=Option.map_eq_some_iff.mp (show (Y7 k).map ME.lit=some m from h)
  exact n_K hd
 | BinOp a op b p =>
  obtain ⟨ma,mb,ha,hb,rfl⟩:=W0 S C h
  exact av2 C.mono (a69 (bq1 op) ha hb)
 | UnaryOp op a p=>exact bM7 S C h
 | Compare a ops bs p=>exact (a70 S C h).1
 | BoolOp op vs p=>exact n_B S C h
 | IfExp t a b p =>
  obtain ⟨mt,ht,h⟩:=Option.bind_eq_some_iff.mp h
  obtain ⟨ma,ha,h⟩:=Option.bind_eq_some_iff.mp h
  obtain ⟨mb,hb,rfl⟩:=Option.map_eq_some_iff.mp h
  exact bl9 C.mono (S.t X c Ξ C _ _ ht) (S.e X c Ξ C _ _ ha) (S.e X c Ξ C _ _ hb)
 | Tuple es k p =>
  obtain ⟨ma,ha,rfl⟩:=Option.map_eq_some_iff.mp h
  exact bl5 C.mono (n_A S C ha)
 | List es p =>
  obtain ⟨ma,ha,rfl⟩:=Option.map_eq_some_iff.mp h
  exact aM5 C.mono (n_A S C ha)
 | Subscript a b p=>exact bz9 S C h
 | Dict ks vs p =>
  have h2:(if ks.isEmpty && vs.isEmpty then some (ME.prim .dnew .nil) else if decide (ks.length <= 15) then (al5 r c ks vs).map .dct else none)=some m:=h
  split at h2
  ·rename_i hc
   cases ks <;> cases vs <;> first | (cases hc;done) | skip
   cases h2
   exact bb3
  ·rename_i hc
   split at h2
   ·rename_i hl
    obtain ⟨ms,hm,rfl⟩:=Option.map_eq_some_iff.mp h2
    obtain ⟨trs,D⟩:=n_D S C hm
    refine bm1 C.mono D (fun z=>hc ?_) (of_decide_eq_true hl)
    have:=D.len.2
    subst z
    cases vs <;> first | rfl | cases this
   ·cases h2
 | Attribute o f p =>
  have h2:(if aa4 o then c1 r c (.fld f) o else none)=some m:=h
  split at h2
  ·rename_i hb
   obtain ⟨ma,ha,rfl⟩:=ab3 S C h2
   exact bm0 C.mono ha (G5 hb)
  ·cases h2
 | Call f args kws pos =>
  have h1:((xSC r c f args kws).orElse fun _=>(xSU c f args kws).orElse fun _=>aE5 r c f args kws pos)=some m:=h
  rcases orElse_some h1 with h2 | h2
  ·unfold xSC at h2
   cases h2
  clear h h1
  rcases orElse_some h2 with h3 | h3
  ·exact bN1 C h3
  clear h2
  unfold aE5 at h3
  split at h3
  ·rename_i hk
   cases kws <;> first | (cases hk;done) | skip
   cases f with
   | Name x p=>exact be7 S C h3
   | Attribute o a p=>exact be8 S C h3
   | _=>cases h3
  ·cases h3
 | ListComp elt gens sc p =>
  obtain ⟨tg,it,ifs,t,mi,mc,me,cl,rfl,rfl,hit,Sc,q1,q2,q3,q4⟩:=aD0 S C h
  exact (aC8 Sc C.calm q1 q2 q3 q4 (ag3 hit)).imp fun σ H Q h=>ay4 C.mono σ H Q h
 | _=>cases h
theorem n_T:∀ e m,stepT r c e=some m->PT X e (LT X.K Ξ (wpT P m)):=by
 intro e m h
 have plain:∀ {e:Expr} {m:ME},(if aa1 e then (r.e c e).map ME.tst else none)=some m->PT X e (LT X.K Ξ (wpT P m)):=fun {e m} h=>by
  split at h
  ·rename_i hp
   obtain ⟨ma,ha,rfl⟩:=Option.map_eq_some_iff.mp h
   exact bk2 C.mono (S.e X c Ξ C _ _ ha) (aN4 hp)
  ·cases h
 cases e with
 | UnaryOp op a p =>
  have h2:(if op=.Not then (r.t c a).map ME.not_ else none)=some m:=h
  split at h2
  ·rename_i ho
   subst ho
   obtain ⟨ma,ha,rfl⟩:=Option.map_eq_some_iff.mp h2
   exact bk4 C.mono (S.t X c Ξ C _ _ ha)
  ·cases h2
 | BoolOp op vs p=>exact (n_W S C h).pt
 | Compare a ops bs p =>
  obtain ⟨ma,ha,rfl⟩:=Option.map_eq_some_iff.mp (show (at0 r c a ops bs).map ME.tst=some m from h)
  exact (a70 S C ha).2
 | _=>exact plain h
end
end M

namespace M
open PySem L2 PySem.Spec PyProof.Rows
section
variable {X:Cx} {c:i3} {P:Sig} {Ξ:XKE}
theorem ay5 {e:Expr} {m:ME} (h:a82 e=some m):PE X e (LE X.K Ξ (wpE P m))/\okE e=true:=by
 cases e <;> first | (cases h;done) | skip
 obtain ⟨d,hd,rfl⟩:=Option.map_eq_some_iff.mp (show (Y7 _).map ME.lit=some m from h)
 exact ⟨n_K hd,rfl⟩
theorem aS0 (hP:j9 P):∀ {es:List Expr} {m:ME},al2 es=some m->PA X es (LA X.K Ξ (wpA P m)):=by
 intro es
 induction es with
 | nil=>intro m h;cases h;exact V0 hP
 | cons e es ih =>
  intro m h
  unfold al2 at h
  obtain ⟨m1,h1,h⟩:=Option.bind_eq_some_iff.mp h
  obtain ⟨m2,h2,rfl⟩:=Option.map_eq_some_iff.mp h
  exact G0 hP (ay5 h1).1 (ih h2) (n5 (ay5 (X:=X) (Ξ:=Ξ) (P:=P) h1).2)
theorem a02 (hP:j9 P) {e:Expr} {m:ME} (h:a83 e=some m):PE X e (LE X.K Ξ (wpE P m)):=by
 cases e <;> first | (cases h;done) | skip
 ·obtain ⟨d,hd,rfl⟩:=Option.map_eq_some_iff.mp (show (Y7 _).map ME.lit=some m from h)
  exact n_K hd
 ·obtain ⟨ms,hm,rfl⟩:=Option.map_eq_some_iff.mp h
  exact aM5 hP (aS0 hP hm)
theorem aK0 {h:ExceptHandler} {q:Str × Expr} (hq:az6 h=some q):∃ p p1 p2,h=.ExceptHandler (some (.Name q.1 p)) none [.Return (some q.2) p1] p2:=by
 unfold az6 at hq
 split at hq
 ·cases hq;exact ⟨_,_,_,rfl⟩
 ·cases hq
theorem a03 (C:COk X c P Ξ) (hhd:ab6 X Ξ.2):∀ {hs:List ExceptHandler} {ms:List (Str × ME)},al4 c hs=some ms->HsOk X Ξ P hs ms:=by
 intro hs
 induction hs with
 | nil=>intro ms h;cases h;exact .nil hhd
 | cons hd hs ih =>
  intro ms h
  unfold al4 at h
  obtain ⟨q,hq,h'⟩:=Option.bind_eq_some_iff.mp h
  clear h
  have h:=h'
  clear h'
  obtain ⟨p,p1,p2,rfl⟩:=aK0 hq
  obtain ⟨y,e⟩:=q
  dsimp only at h ⊢
  split at h
  ·rename_i hc
   simp only [Bool.and_eq_true] at hc
   obtain ⟨m,h1,h⟩:=Option.bind_eq_some_iff.mp h
   obtain ⟨ms',h2,rfl⟩:=Option.map_eq_some_iff.mp h
   obtain ⟨C',hm,hi,_⟩:=C.exc y hc.1.1
   refine .cons (C.D9 hc.1.2) (K8 hc.2).1 hm (fun x C1 hx h1=>C.exm x y C1 C' ?_ hc.1.1 h1 hi) (fun ea=>a02 (X:=B0 X ea) C.mono h1) (ih h2)
   rw [C.exq] at hx
   simpa using hx
  ·cases h
theorem aB5 {e f:Option Expr} {q:Str × Expr × List Expr} (h:ao9 e f=some q):f=none/\∃ p p',e=some (.Call (.Name q.1 p) (q.2.1 :: q.2.2) [] p'):=by
 unfold ao9 at h
 split at h
 ·cases h;exact ⟨rfl,_,_,rfl⟩
 ·cases h
theorem aD8 (C:COk X c P Ξ) {f:Str}:am1 X.K f (c.ao3 f):=fun y C' h hC=>by
 unfold i3.ao3 at h
 obtain ⟨⟨f',y'⟩,h1,h2⟩:=List.mem_map.mp h
 obtain ⟨h3,h4⟩:=List.mem_filter.mp h1
 cases h2
 have:f'=f:=by simpa using h4
 subst this
 exact C.fls f' y' C' h3 hC
variable {r:CF} (S:Snd P r) (C:COk X c P Ξ) {pos:Pos}
include S C
theorem bA0 {tg e:Expr} {m:MS} (hS:∀ e m,r.e c e=some m->w9 e=false->∃ elt gens sc p,e=.ListComp elt gens sc p/\∃ r',Snd P r'/\ab7 r' c elt gens sc=some m) (hT:∀ a b k p m,r.e c (.Tuple [a,b] k p)=some m->∃ r' ms,Snd P r'/\D6 r' c [a,b]=some ms/\m=.prim .tup ms) (h:bm6 r c tg e=some m):PS X (.Assign [tg] e pos) (LS X.K Ξ (wpS P m)):=by
 cases tg with
 | Name x px =>
  have h2:(if c.A7 x then (c.idx x).bind fun i=>(r.e c e).map fun m=>MS.set i m else none)=some m:=h
  split at h2
  ·rename_i hl
   obtain ⟨i,hi,h2⟩:=Option.bind_eq_some_iff.mp h2
   obtain ⟨me,he,rfl⟩:=Option.map_eq_some_iff.mp h2
   cases hn:w9 e with
   | true=>exact aL7 C.mono (aN0 C.ndN (C.aa9 hi) (C.A7 hl).1 (S.e X c Ξ C _ _ he) (T9 hn) (C.A7 hl).2)
   | false =>
    obtain ⟨elt,gens,sc,p,rfl,r',S',hx⟩:=hS e me he hn
    obtain ⟨tg,it,ifs,t,mi,mc,me,cl,rfl,rfl,hit,Sc,q1,q2,q3,q4⟩:=aD0 S' C hx
    refine aL7 C.mono ?_
    exact (aA4 Sc C.calm q1 q2 q3 q4 (ag3 hit) C.ndN (C.aa9 hi) (C.A7 hl).1 (C.A7 hl).2).imp fun N σ H h=>ay4 C.mono σ H _ h
  ·cases h2
 | Tuple es k pt =>
  have h2:(if (aj7 e && w9 e) || c.aG4 es e then (c.slots es).bind fun is=>(r.e c e).map fun m=>MS.unp (.many is) m else none)=some m:=h
  split at h2
  ·rename_i hn
   rw [Bool.or_eq_true,Bool.and_eq_true] at hn
   obtain ⟨is,hs,h2⟩:=Option.bind_eq_some_iff.mp h2
   obtain ⟨me,he,rfl⟩:=Option.map_eq_some_iff.mp h2
   rcases hn with hn | hn
   ·exact bj7 C.mono (aN2 (S.e X c Ξ C _ _ he) (aC0 C.calm C.ndN (C.slots hs)) (ae9 hn.2) (aX8 hn.1))
   ·unfold i3.aG4 at hn
    split at hn
    ·rename_i x px y py a b k2 pt2 _
     simp only [Bool.and_eq_true,decide_eq_true_eq,Bool.not_eq_true'] at hn
     obtain ⟨⟨⟨⟨⟨⟨⟨l1,l2⟩,hne⟩,hl⟩,oa⟩,ob⟩,f1⟩,f2⟩:=hn
     obtain ⟨r',ms,S',hms,rfl⟩:=hT _ _ _ _ _ he
     have so:=C.slots hs
     cases so with
     | cons hi _ _ so =>
     cases so with
     | cons hj _ _ so =>
     cases so
     exact bj9 C.mono C.calm C.ndN hi hj hne hl (C.loc x l1) (C.loc y l2) oa ob f1 f2 (n_A S' C hms)
    ·cases hn
  ·cases h2
 | Subscript o i pt =>
  have h2:(if okE i && w9 e then (r.e c o).bind fun mo=>(r.e c i).bind fun mi=>(r.e c e).map fun m=>MS.setix mo mi m else none)=some m:=h
  split at h2
  ·rename_i hn
   rw [Bool.and_eq_true] at hn
   obtain ⟨mo,ho,h2⟩:=Option.bind_eq_some_iff.mp h2
   obtain ⟨mi,hi,h2⟩:=Option.bind_eq_some_iff.mp h2
   obtain ⟨me,he,rfl⟩:=Option.map_eq_some_iff.mp h2
   exact aT8 C.mono C.units (S.e X c Ξ C _ _ he) (S.e X c Ξ C _ _ ho) (S.e X c Ξ C _ _ hi) (ae9 hn.2) (be4 hn.1)
  ·cases h2
 | Attribute o f pt =>
  have h2:(if w9 e then (r.e c o).bind fun mo=>(r.e c e).map fun m=>MS.setf f (c.ao3 f) mo m else none)=some m:=h
  split at h2
  ·rename_i hn
   obtain ⟨mo,ho,h2⟩:=Option.bind_eq_some_iff.mp h2
   obtain ⟨me,he,rfl⟩:=Option.map_eq_some_iff.mp h2
   exact a99 C.mono (aD8 C) (S.e X c Ξ C _ _ ho) (S.e X c Ξ C _ _ he) (T9 hn)
  ·cases h2
 | _=>cases h
theorem n_S (hS:∀ e m,r.e c e=some m->w9 e=false->∃ elt gens sc p,e=.ListComp elt gens sc p/\∃ r',Snd P r'/\ab7 r' c elt gens sc=some m) (hT:∀ a b k p m,r.e c (.Tuple [a,b] k p)=some m->∃ r' ms,Snd P r'/\D6 r' c [a,b]=some ms/\m=.prim .tup ms) :
  ∀ st m,a32 r c st=some m->PS X st (LS X.K Ξ (wpS P m)):=by
 intro st m h
 have hP:=C.mono
 cases st with
 | AugAssign tg op e p =>
  cases tg with
  | Attribute o f tp =>
   have h2:(if decide (op=Operator.Add) then (r.e c o).bind fun mo=>(r.e c e).map fun m=>MS.augf f (c.ao3 f) mo m else none)=some m:=h
   split at h2
   ·rename_i ho
    obtain rfl:=of_decide_eq_true ho
    obtain ⟨mo,ho,h2⟩:=Option.bind_eq_some_iff.mp h2
    obtain ⟨me,he,rfl⟩:=Option.map_eq_some_iff.mp h2
    exact ba1 C.mono (aD8 C) (S.e X c Ξ C _ _ ho) (S.e X c Ξ C _ _ he)
   ·cases h2
  | _=>cases h
 | Expr e p =>
  have h2:(if w9 e then (r.e c e).map MS.expr else none)=some m:=h
  split at h2
  ·rename_i hn
   obtain ⟨me,he,rfl⟩:=Option.map_eq_some_iff.mp h2
   exact ba0 hP (S.e X c Ξ C _ _ he) (T9 hn)
  ·cases h2
 | Assign tgs e p =>
  rcases tgs with _ | ⟨tg,_ | ⟨_,_⟩⟩
  ·cases h
  ·exact bA0 S C hS hT h
  ·cases h
 | If t a b p =>
  obtain ⟨mt,ht,h⟩:=Option.bind_eq_some_iff.mp h
  obtain ⟨ma,ha,h⟩:=Option.bind_eq_some_iff.mp h
  obtain ⟨mb,hb,rfl⟩:=Option.map_eq_some_iff.mp h
  exact bw2 hP (S.t X c Ξ C _ _ ht) (am7 S C ha) (am7 S C hb)
 | For tg it body els p =>
  have h2:(if els.isEmpty && okE it then (c.tg tg).bind fun t=>(al3 r c tg it).bind fun mi=>(d0 r c body).map fun mb=>MS.for_ t mi mb else none)=some m:=h
  split at h2
  ·rename_i hc
   rw [Bool.and_eq_true] at hc
   cases els <;> first | (cases hc.1;done) | skip
   obtain ⟨t,h1,h2⟩:=Option.bind_eq_some_iff.mp h2
   obtain ⟨mi,h3,h2⟩:=Option.bind_eq_some_iff.mp h2
   obtain ⟨mb,h4,rfl⟩:=Option.map_eq_some_iff.mp h2
   exact bk0 hP C.own C.calm (n_I S C h3) (C.bj0 h1) (am7 S C h4) (ag3 hc.2)
  ·cases h2
 | While t body els p =>
  have h2:(if els.isEmpty then (r.t c t).bind fun mt=>(d0 r c body).map fun mb=>MS.whil mt mb else none)=some m:=h
  split at h2
  ·rename_i hc
   cases els <;> first | (cases hc;done) | skip
   obtain ⟨mt,h1,h2⟩:=Option.bind_eq_some_iff.mp h2
   obtain ⟨mb,h4,rfl⟩:=Option.map_eq_some_iff.mp h2
   exact aT7 hP C.own (S.t X c Ξ C _ _ h1) (am7 S C h4)
  ·cases h2
 | Return e p =>
  cases e with
  | none=>cases h;exact (bc6 (X:=X)).imp fun N σv H ⟨σ,g,ρ,s,R,h⟩=>LQ.now h R .non
  | some e =>
   obtain ⟨me,he,rfl⟩:=Option.map_eq_some_iff.mp (show (r.e c e).map MS.ret=some m from h)
   exact aL8 hP (S.e X c Ξ C _ _ he)
 | Raise e f p =>
  obtain ⟨q,hq,h2⟩:=Option.bind_eq_some_iff.mp h
  clear h
  obtain ⟨rfl,px,p2,rfl⟩:=aB5 hq
  obtain ⟨x,e,es⟩:=q
  dsimp only at h2 ⊢
  split at h2
  ·rename_i hc
   simp only [Bool.and_eq_true] at hc
   obtain ⟨ma,ha,rfl⟩:=Option.map_eq_some_iff.mp h2
   have ok:=ah8 ha
   obtain ⟨C',hm,hi,B,nI,iI,bm,O,FB⟩:=C.exc x hc.1.1.2
   exact aT9 hP C.calm O FB (C.D9 hc.1.2) (n_A S C ha) (C.rais hc.1.1.1) (by rw [C.exq];simpa using hc.1.1.2) hi (n5 (ok e (by simp))) (S4 fun z hz=>ok z (by simp [hz])) (K8 hc.2).1
  ·cases h2
 | Try body hs el fi p =>
  have h2:(if c.tryb && !hs.isEmpty && el.isEmpty && fi.isEmpty then (d0 r { c with rais:=false,tryb:=false } body).bind fun mb=>(al4 c hs).map fun ms=>MS.W4 mb ms else none)=some m:=h
  split at h2
  ·rename_i hc
   simp only [Bool.and_eq_true] at hc
   obtain ⟨⟨⟨ht,hh⟩,he⟩,hf⟩:=hc
   cases el <;> first | (cases he;done) | skip
   cases fi <;> first | (cases hf;done) | skip
   cases hs <;> first | (cases hh;done) | skip
   obtain ⟨mb,h1,h2⟩:=Option.bind_eq_some_iff.mp h2
   obtain ⟨ms,h3,rfl⟩:=Option.map_eq_some_iff.mp h2
   obtain ⟨hst,hf,hhd⟩:=C.tryb ht
   exact bj8 hP hst hf (fun pins D=>am7 S (C.W4 hst hf pins D _) h1) (a03 C hhd h3)
  ·cases h2
 | Pass p=>cases h;exact (bc7 (X:=X)).imp fun N σv H ⟨σ,g,ρ,s,R,h⟩=>h ρ H σv (.refl _ _) R s
 | _=>cases h
end
theorem aB2 {n:Nat} {c:i3} {e:Expr} {m:ME} (h:(comp (n + 1)).e c e=some m) (hn:w9 e=false):∃ elt gens sc p,e=.ListComp elt gens sc p/\ab7 (comp n) c elt gens sc=some m:=by
 cases e <;> first | (cases hn;done) | (cases h;done) | exact ⟨_,_,_,_,rfl,h⟩
theorem snd {P:Sig}:∀ n,(∀ k,k <= n->Snd P (comp k)):=by
 intro n
 induction n with
 | zero =>
  intro k hk
  obtain rfl:=Nat.le_zero.mp hk
  exact ⟨fun _ _ _ _ _ _ h=>(by cases h),fun _ _ _ _ _ _ h=>(by cases h),fun _ _ _ _ _ _ h=>(by cases h)⟩
 | succ n ih =>
  intro k hk
  rcases Nat.lt_or_ge k (n + 1) with hlt | hge
  ·exact ih k (by omega)
  obtain rfl:k=n + 1:=by omega
  have I:=ih n (Nat.le_refl n)
  refine ⟨fun X c Ξ C e m h=>n_E I C e m h,fun X c Ξ C e m h=>n_T I C e m h,fun X c Ξ C st m h=>n_S I C (fun e m he hn=>?_) (fun a b k p m he=>?_) st m h⟩
  ·cases n with
   | zero=>cases he
   | succ n =>
    obtain ⟨elt,gens,sc,p,rfl,hx⟩:=aB2 he hn
    exact ⟨_,_,_,_,rfl,comp n,ih n (by omega),hx⟩
  ·cases n with
   | zero=>cases he
   | succ n =>
    obtain ⟨ms,hm,rfl⟩:=Option.map_eq_some_iff.mp (show (D6 (comp n) c [a,b]).map (ME.prim .tup)=some m from he)
    exact ⟨comp n,ms,ih n (by omega),hm,rfl⟩
end M

namespace M
open PySem L2 PySem.Spec PyProof.Rows
structure DefI where
 nm:Str
 qn:Str
 N:List Str
 ps:List Str
 st:Stmt
noncomputable def i3.at (c:i3) (d:DefI):i3:={ c with N:=d.N,nm:=(b0 d.st).names,fnb:=true,rais:=true,tryb:=true }
structure DefOk (K:PySem.W.Frag) (c:i3) (d:DefI) (m:MDef) (f:Addr) (fd:FuncData):Prop where
 fn:Fun K d.nm d.qn d.st f fd
 bi:Binds K fd d.ps []
 sc:FnScope d.N d.ps (b0 d.st)
 co:d0 (comp 60) (c.at d) (c8 d.st)=some m.body
 ar:m.ar=d.ps.length
 nn:m.n=d.N.length
structure TabOk (w:World) (K:PySem.W.Frag) (mg:Str->Option Value) (c:i3) (T:Nat->Option MDef):Prop where
 fns:∀ x i,c.fns.lookup x=some i->∃ d m f fd,T i=some m/\DefOk K c d m f fd/\mg x=some (.ref f)
 cls:∀ x i,c.cls.lookup x=some i->∃ C d m f fd,T i=some m/\DefOk K c d m f fd/\mg x=some (.ref C)/\n6 K x C/\Cls K C/\Mk K C f
 mts:∀ x y i C,(x,y,i) ∈ c.mts->n6 K y C->∃ d m f fd,T i=some m/\DefOk K c d m f fd/\Meth K C x f
 fls:∀ f y C,(f,y) ∈ c.fls->n6 K y C->t9 K C f
 con:∀ x d,c.con.lookup x=some d->∃ v u,mg x=some u/\RelV v u/\∀ ρ H,d9 K ρ H d v
 blt:∀ x,c.blt.contains x=true->mg x=none
 excs:∀ x,c.exc.contains x=true->∃ C,mg x=some (.ref C)/\n6 K x C/\∀ base:Heap,K.In base->base.Ns mainGlobals mg->∃ B newId initId bm,OwnCls x C bm newId mg base/\ExcBaseFacts B newId initId bm
 exms:∀ x y C C',c.exc.contains x=true->c.exc.contains y=true->n6 K x C->n6 K y C'->PySem.W.exmOne K (.ref C) (.ref C')=some (decide (x=y \/ y="MintError"))
 gdcs:∀ x kvs,c.gd.lookup x=some kvs->∃ A vs,mg x=some (.ref A)/\a90 K w.params A vs/\ai2 K kvs vs
section
variable {Pg:Program} {w:World} {K:PySem.W.Frag} {mg:Str->Option Value} {base:Heap} {c:i3} {T:Nat->Option MDef}
theorem bd8 {N:List Str} {qual:Str} {scope:Scope} {f:Addr} {cd:Value} {A:Around} {outer:List Env} {s:Shared} {H:Hp} {E:XK}:Passes (CXE Pg w) (Y5 (CXE Pg w) Pg w K mg base N qual scope f cd A outer s H E) E:=fun pins σ H1 s1 e s' I h=>by
 obtain ⟨C,H',J,fl,hE⟩:=I.flew h
 exact ax2 J fl (fun b o q=>I.base.there b o q (by intro z;cases z)) rfl rfl rfl hE
theorem aV6 {N:List Str} {qual:Str} {scope:Scope} {f:Addr} {cd:Value} {A:Around} {outer:List Env} {s:Shared} {H:Hp} {E:XK}:ae2 (Y5 (CXE Pg w) Pg w K mg base N qual scope f cd A outer s H E) E:=fun pins σ H1 s1 h' ea C vs I hm hE =>
 aI0 I hm rfl rfl rfl hE
theorem bf9 {N:List Str} {qual:Str} {scope:Scope} {f:Addr} {cd:Value} {A:Around} {outer:List Env} {s:Shared} {H:Hp} {E:XK}:ab6 (Y5 (CXE Pg w) Pg w K mg base N qual scope f cd A outer s H E) E:=fun pins σ H1 H2 s1 s2 B ea C a0 I l hh hE =>
 leave_held I l hh rfl rfl rfl hE
theorem ao7 {k i:Nat} {m:MDef} (hT:T i=some m) {ds:List D} {g:G} {Q:KD} {E:KX} (h:b9 T k i ds g Q E):ds.length=m.ar:=by
 cases k with
 | zero=>exact h.elim
 | succ k =>
  obtain ⟨m',e,h,_⟩:=h
  rw [hT] at e
  cases e
  exact h
theorem bu1 (kin:K.In base) (gns:base.Ns mainGlobals mg) (A:TabOk w K mg c T):∀ (k i:Nat) d m f fd,T i=some m->DefOk K c d m f fd->FnOk Pg w K mg base (CXE Pg w) (2 * k) f fd d.ps (spD c.exc K d.ps.length (b9 T k i)):=by
 intro k
 induction k with
 | zero =>
  intro i d m f fd hm O
  refine ⟨fun vs H Q E h=>h.1,fun A outer s H args us vs Q E _ _ _ _ h=>?_⟩
  obtain ⟨_,_,_,_,_,_,q⟩:=h
  exact q.elim
 | succ k ih =>
  intro i d m f fd hm O
  obtain ⟨oc,od,kV,doc,pm,an,cdv,ct,osl,rfl,lk,hcd⟩:=O.fn.ex
  refine bB8 (k:=2 * k + 1) lk hcd O.sc (fun vs H Q E h=>h.1) (fun A0 outer s H vs Q E hr h=>?_)
  obtain ⟨hl,xs,g,ρ,rs,R,q⟩:=h
  have C:COk (Y5 (CXE Pg w) Pg w K mg base d.N d.qn (b0 d.st) f cdv A0 outer s H E) (c.at d) (b9 T k) (c.exc,E):=by
   refine ⟨rfl,O.sc.nd,fun x h=>h,fun x h=>h,fun x h=>.inr h,fun x h=>h,fun x h=>?_,fun _ _=>rfl,rfl,?_,PassesOwn.leaving,g0 T k,A.con,A.blt,fun x j hj=>?_,fun x j hj=>?_,fun x y j C' hj hC=>?_,A.fls,rfl,bd8,fun _=>aV6,fun _=>⟨rfl,rfl,bf9⟩,fun x hx=>?_,A.exms,A.gdcs⟩
   ·rcases h with h | h
    ·exact ah9 h
    ·exact absurd rfl (O.sc.nofree _ (PySem.mem_of_lookup h))
   ·have:=hr.un
    show (A0.deeper _).units + 100 < cLine
    omega
   ·obtain ⟨d',m',f',fd',hT,O',hmg⟩:=A.fns x j hj
    exact ⟨2 * k,f',fd',d'.ps,⟨ih j d' m' f' fd' hT O',O'.bi,fun ds' g' Q' E' h'=>(ao7 hT h').trans O'.ar⟩,hr.mono (by omega),hmg,O'.fn.kp⟩
   ·obtain ⟨C',d',m',f',fd',hT,O',hmg,hC,hcl,M⟩:=A.cls x j hj
    exact ⟨2 * k,C',f',fd',d'.ps,⟨ih j d' m' f' fd' hT O',O'.bi,fun ds' g' Q' E' h'=>(ao7 hT h').trans O'.ar⟩,hr,hmg,hC,hcl,M⟩
   ·obtain ⟨d',m',f',fd',hT,O',M⟩:=A.mts x y j C' hj hC
    exact ⟨2 * k,f',fd',d'.ps,M,⟨ih j d' m' f' fd' hT O',O'.bi,fun ds' g' Q' E' h'=>(ao7 hT h').trans O'.ar⟩,hr.mono (by omega)⟩
   ·obtain ⟨C,h1,h2,h3⟩:=A.excs x hx
    exact ⟨C,h1,h2,h3 base kin gns⟩
  refine ⟨_,am7 (snd (P:=b9 T k) 60 60 (Nat.le_refl _)) C O.co,?_⟩
  obtain ⟨m',e,q1,q⟩:=q
  rw [hm] at e
  cases e
  refine ⟨d8 m xs,g,ρ,?_,R,wpS_mono (g0 T k) m.body ⟨fun _ g'=>LQ K ρ H Q .non g',LQ K ρ H Q,fun _ _=>False,fun _ _=>False⟩ _ _ _ _ _ ⟨fun σ g' h ρ' H' σv' e R' s'=>h ρ' H' _ e R' .non,fun d g' h=>h,fun _ _ h=>h.elim,fun _ _ h=>h.elim⟩ (fun _ _ z=>z) q⟩
  have:=n4.start (n:=d.N.length) rs
  unfold d8 L2.start
  rw [O.nn]
  exact this
theorem br3 {L k0:Nat} {H:Hp} {a:Addr} {ns:List Int} (hO:aK3 H) (hS:SqL K H a (ns.map V.int)) (h:b9 T k0 L [.ref 0] [.fro (ns.map .int)] (fun d _=>d=.bl true) NoX) :
  spD exc K 1 (b9 T k0 L) [.ref a] H (fun v _=>v=.bl true) fun _ _ _=>False:=by
 refine ⟨rfl,[.ref 0],[.fro (ns.map .int)],[a],.cons (.ref rfl) .nil,⟨rfl,fun i o b h1 h2=>?_,fun i j l m b h1 h2 m1=>?_⟩,g0 T k0 _ _ _ _ _ _ _ (fun d g' e ρ' H' v _ _ r=>?_) (fun _ _ z=>z.elim) h⟩
 ·cases i with
  | zero =>
   cases h1;cases h2
   refine ⟨_,?_,a9.ofInts ns⟩
   rcases hS with (z | ⟨o,z⟩) | z
   ·rcases hO a with q | ⟨o,xs,q⟩
    ·rw [z] at q;cases q
    ·rw [z] at q;cases q
   ·exact .inl ⟨o,z⟩
   ·exact .inr z
  | succ i=>simp at h1
 ·cases i with
  | zero=>cases h1;cases m1
  | succ i=>simp at h1
 ·subst e
  cases r
  rfl
end
end M

namespace M
open PySem L2
section
variable {P:Sig} {σ:S} {g:G} {Q:KD} {E:KX} {N:Ends} {a b c o:ME} {x y:MS} {p:Pr}
theorem B6 (h:N.nx σ g):wpS P .pass N σ g E:=h
theorem a24 (h:wpS P x ⟨fun σ1 g1=>wpS P y N σ1 g1 E,N.rt,N.bk,N.ct⟩ σ g E):wpS P (.seq x y) N σ g E:=h
theorem aK8 (h:wpS P x N σ g E):wpS P (.seq x .pass) N σ g E:=h
theorem bi3 (h:wpE P a σ g (fun _ g1=>N.nx σ g1) E):wpS P (.expr a) N σ g E:=h
theorem a23 {i:Nat} (h:wpE P a σ g (fun x g1=>N.nx (σ.set i (some x)) g1) E):wpS P (.set i a) N σ g E:=h
theorem a93 {o i:ME} (h:wpE P a σ g (fun x g1=>wpE P o σ g1 (fun y g2=>wpE P i σ g2 (fun z g3=>ag1 y z x g3 fun g4=>N.nx σ g4) E) E) E):wpS P (.setix o i a) N σ g E:=h
theorem bh9 {f:Str} {cs:List Str} (h:wpE P a σ g (fun x g1=>wpE P o σ g1 (fun y g2=>aj1 f cs y x g2 fun g3=>N.nx σ g3) E) E):wpS P (.setf f cs o a) N σ g E:=h
theorem aL0 {f:Str} {cs:List Str} (h:wpE P o σ g (fun y g1=>∃ a' c fs x,y=.ref a'/\g1[a']?=some (.ins c fs)/\c ∈ cs/\fs.lookup f=some x/\wpE P a σ g1 (fun z g3=>prP .iadd [x,z] g3 fun w g4=>∃ fs',g4[a']?=some (.ins c fs')/\fs'.length < 100/\N.nx σ (g4.set a' (.ins c (v8 f w fs')))) E) E):wpS P (.augf f cs o a) N σ g E:=h
theorem a26 (h:wpT P c σ g (fun t g1=>if t=true then wpS P x N σ g1 E else wpS P y N σ g1 E) E):wpS P (.ifs c x y) N σ g E:=h
theorem bu7 (h:wpE P a σ g N.rt E):wpS P (.ret a) N σ g E:=h
theorem a94 {x:Str} (h:wpA P a σ g (fun vs g1=>vs.length <= 1000/\E ⟨x⟩ g1) E):wpS P (.raise x a) N σ g E:=h
theorem bu5 {hs:List (Str × ME)} (h:wpS P x N σ g (wpH P N (σ.map fun _=>none) E hs)):wpS P (.W4 x hs) N σ g E:=h
theorem bB4 {x:Xn} {e:ME} {r:List (Str × ME)} (h:wpE P e σ g N.rt NoX):wpH P N σ E (("MintError",e) :: r) x g:=by unfold wpH;rw [if_pos (.inr rfl)];exact h
theorem w_var {i:Nat} {d:D} (e:σ[i]?=some (some d)) (h:Q d g):wpE P (.var i) σ g Q E:=by rw [wpE];exact ⟨d,e,h⟩
theorem w_lit {d:D} (h:Q d g):wpE P (.lit d) σ g Q E:=by rw [wpE];exact h
theorem bi0 (h:wpA P a σ g (fun xs g1=>prP p xs g1 Q) E):wpE P (.prim p a) σ g Q E:=by rw [wpE];exact h
theorem bF5 (h:prP p [] g Q):wpE P (.prim p .nil) σ g Q E:=by rw [wpE,wpA];exact h
theorem aE6 (h:wpE P a σ g (fun x g1=>prP p [x] g1 Q) E):wpE P (.prim p (.cons a .nil)) σ g Q E:=by simp only [wpE,wpA];exact h
theorem am2 (h:wpE P a σ g (fun x g1=>wpE P b σ g1 (fun y g2=>prP p [x,y] g2 Q) E) E):wpE P (.prim p (.cons a (.cons b .nil))) σ g Q E:=by simp only [wpE,wpA];exact h
theorem a96 {o1 o2:CmpOp} (h:wpE P a σ g (fun x g1=>wpE P b σ g1 (fun y g2=>prP (.cmp o1) [x,y] g2 fun z g3=>∃ t,z=.bl t/\if t=true then wpE P c σ g3 (fun w g4=>prP (.cmp o2) [y,w] g4 Q) E else Q (.bl false) g3) E) E):wpE P (.chain o1 o2 a b c) σ g Q E:=by rw [wpE];exact h
theorem w_and (h:wpE P a σ g (fun x g1=>∃ t,x=.bl t/\if t=true then wpE P b σ g1 Q E else Q (.bl false) g1) E):wpE P (.and_ a b) σ g Q E:=by rw [wpE];exact h
theorem w_not (h:wpE P a σ g (fun x g1=>∃ t,x=.bl t/\Q (.bl (!t)) g1) E):wpE P (.not_ a) σ g Q E:=by rw [wpE];exact h
theorem w_ite (h:wpT P c σ g (fun t g1=>if t=true then wpE P a σ g1 Q E else wpE P b σ g1 Q E) E):wpE P (.ite c a b) σ g Q E:=by rw [wpE];exact h
theorem aK9 {f:Nat} (h:wpA P a σ g (fun xs g1=>P f xs g1 Q E) E):wpE P (.call f a) σ g Q E:=by rw [wpE];exact h
theorem bi2 {f:Nat} {c:Str} (h:wpA P a σ g (fun xs g1=>P f (.ref g1.length :: xs) (g1 ++ [.ins c []]) (fun d g2=>d=.non/\Q (.ref g1.length) g2) E) E):wpE P (.make c f a) σ g Q E:=by rw [wpE];exact h
theorem a95 {m:Str} {cs:List (Str × Nat)} (h:wpE P o σ g (fun x g1=>∃ a' c fs f,x=.ref a'/\g1[a']?=some (.ins c fs)/\fs.lookup m=none/\cs.lookup c=some f/\wpA P a σ g1 (fun xs g2=>P f (x :: xs) g2 Q E) E) E):wpE P (.methc m cs o a) σ g Q E:=by rw [wpE];exact h
theorem bi1 (h:wpE P o σ g (fun x g1=>mkP p x g1/\wpA P a σ g1 (fun xs g2=>prP p (x :: xs) g2 Q) E) E):wpE P (.meth p o a) σ g Q E:=by rw [wpE];exact h
theorem bu8 (h:wpA P a σ (g ++ [.dic []]) (fun xs g1=>∃ kvs,ao4 xs []=some kvs/\xs.length <= 30/\g1[g.length]?=some (.dic [])/\Q (.ref g.length) (g1.set g.length (.dic kvs))) E):wpE P (.dct a) σ g Q E:=by rw [wpE];exact h
theorem a25 {Q:List D->G->Prop} (h:Q [] g):wpA P .nil σ g Q E:=by rw [wpA];exact h
theorem at7 {Q:List D->G->Prop} (h:wpE P a σ g (fun x g1=>wpA P b σ g1 (fun xs g2=>Q (x :: xs) g2) E) E):wpA P (.cons a b) σ g Q E:=by rw [wpA];exact h
theorem bh8 {Q:Bool->G->Prop} (h:wpT P a σ g (fun t g1=>if t=true then wpT P b σ g1 Q E else Q false g1) E):wpT P (.and_ a b) σ g Q E:=by rw [wpT];exact h
theorem bu6 {Q:Bool->G->Prop} (h:wpT P a σ g (fun t g1=>if t=true then Q true g1 else wpT P b σ g1 Q E) E):wpT P (.or_ a b) σ g Q E:=by rw [wpT];exact h
theorem bh7 {Q:Bool->G->Prop} (h:wpT P a σ g (fun t g1=>Q (!t) g1) E):wpT P (.not_ a) σ g Q E:=by rw [wpT];exact h
theorem a22 {Q:Bool->G->Prop} (h:Q true g):wpT P .no σ g Q E:=by rw [wpT];exact h
theorem a21 {Q:Bool->G->Prop} (h:wpE P a σ g (fun x g1=>af8 g1 x fun b=>Q b g1) E):wpT P (.tst a) σ g Q E:=by rw [wpT];exact h
end
section
variable {g:G} {Q:KD} {i j:Int} {kb:Bool->Prop} {t s:Bool} {l m:List D}
theorem bF1 (h:Q (.int (i + j)) g):prP (.bin .Add) [.int i,.int j] g Q:=⟨_,_,.inl ⟨i,j,_,rfl,rfl,rfl,rfl⟩,h⟩
theorem bF0 (h:Q (.int (i - j)) g):prP (.bin .Sub) [.int i,.int j] g Q:=⟨_,_,.inl ⟨i,j,_,rfl,rfl,rfl,rfl⟩,h⟩
theorem ae1 (c:ai5 i j) (h:Q (.int (i * j)) g):prP (.bin .Mult) [.int i,.int j] g Q:=⟨_,_,.inl ⟨i,j,_,rfl,⟨c,rfl⟩,rfl,rfl⟩,h⟩
theorem U4 (c:0 < j) (h:Q (.int (i % j)) g):prP (.bin .Mod) [.int i,.int j] g Q:=⟨_,_,.inl ⟨i,j,_,rfl,⟨c,rfl⟩,rfl,rfl⟩,h⟩
theorem a89 (c:a20 i j) (h:Q (.int (i / j)) g):prP (.bin .FloorDiv) [.int i,.int j] g Q:=⟨_,_,.inl ⟨i,j,_,rfl,⟨c,rfl⟩,rfl,rfl⟩,h⟩
theorem as9 (c:ai4 i j) (h:Q (.int (i ^ j.toNat)) g):prP (.bin .Pow) [.int i,.int j] g Q:=⟨_,_,.inl ⟨i,j,_,rfl,⟨c,rfl⟩,rfl,rfl⟩,h⟩
theorem aJ7 (hl:l.length + m.length <= 100000) (h:Q (.tup (l ++ m)) g):prP (.bin .Add) [.tup l,.tup m] g Q:=⟨_,_,.inr (.inl ⟨rfl,.inl ⟨l,m,rfl,hl,rfl,rfl⟩⟩),h⟩
theorem bE9 {i j:Nat} (hi:g[i]?=some (.lst l)) (hj:g[j]?=some (.lst m)) (hl:l.length + m.length <= 100000) (h:Q (.ref g.length) (g ++ [.lst (l ++ m)])):prP (.bin .Add) [.ref i,.ref j] g Q:=⟨_,_,.inr (.inl ⟨rfl,.inr (.inl ⟨i,j,l,m,rfl,hi,hj,hl,rfl,rfl⟩)⟩),h⟩
theorem a85 {i:Nat} {n:Int} (hi:g[i]?=some (.lst l)) (h1:-(2 ^ 62) <= n) (h2:n < 2 ^ 62) (hl:l.length * n.toNat <= 100000) (h:Q (.ref g.length) (g ++ [.lst (List.replicate n.toNat l).flatten])):prP (.bin .Mult) [.ref i,.int n] g Q:=⟨_,_,.inr (.inr ⟨rfl,.inl ⟨i,l,n,rfl,hi,h1,h2,hl,rfl,rfl⟩⟩),h⟩
theorem bt8 {n:Int} (hne:l ≠ []) (h1:1 <= n) (h2:n < 2 ^ 62) (hl:l.length * n.toNat <= 100000) (h:Q (.tup (List.replicate n.toNat l).flatten) g):prP (.bin .Mult) [.tup l,.int n] g Q:=⟨_,_,.inr (.inr ⟨rfl,.inr ⟨l,n,rfl,hne,h1,h2,hl,rfl,rfl⟩⟩),h⟩
theorem bu9 (h:Q (.int (-i)) g):prP (.un .USub) [.int i] g Q:=⟨_,_,⟨rfl,i,rfl,rfl,rfl⟩,h⟩
theorem U7 {op:CmpOp} {x y:D} {b:Bool} (hb:bt5 g x y b op) (h:Q (.bl b) g):prP (.cmp op) [x,y] g Q:=⟨_,_,⟨x,y,b,rfl,hb,rfl,rfl⟩,h⟩
theorem bS0 (h:Q (.bl (decide (i < j))) g):prP (.cmp .Lt) [.int i,.int j] g Q:=U7 ⟨i,j,rfl,rfl,rfl⟩ h
theorem bS1 (h:Q (.bl (decide (i <= j))) g):prP (.cmp .LtE) [.int i,.int j] g Q:=U7 ⟨i,j,rfl,rfl,rfl⟩ h
theorem bS2 (h:Q (.bl (decide (j < i))) g):prP (.cmp .Gt) [.int i,.int j] g Q:=U7 ⟨i,j,rfl,rfl,rfl⟩ h
theorem bS3 (h:Q (.bl (decide (j <= i))) g):prP (.cmp .GtE) [.int i,.int j] g Q:=U7 ⟨i,j,rfl,rfl,rfl⟩ h
theorem a09 {x y:D} (h:eqP g x y fun b=>Q (.bl b) g):prP (.cmp .Eq) [x,y] g Q:=let ⟨_,hb,h⟩:=h;U7 hb h
theorem az2 {x y:D} (h:eqP g x y fun b=>Q (.bl (!b)) g):prP (.cmp .NotEq) [x,y] g Q:=let ⟨b,hb,h⟩:=h;U7 (b:=!b) (show eqR g x y (!(!b)) from by rw [Bool.not_not];exact hb) h
theorem T6 {x y:D} (h:inP g x y fun b=>Q (.bl b) g):prP (.cmp .In) [x,y] g Q:=let ⟨_,hb,h⟩:=h;U7 hb h
theorem P9 {x y:D} (h:inP g x y fun b=>Q (.bl (!b)) g):prP (.cmp .NotIn) [x,y] g Q:=let ⟨b,hb,h⟩:=h;U7 (b:=!b) (show inR g x y (!(!b)) from by rw [Bool.not_not];exact hb) h
theorem a50 (h:kb (decide (i=j))):eqP g (.int i) (.int j) kb:=⟨_,.inl ⟨i,j,rfl,rfl,rfl⟩,h⟩
theorem bn1 (h:kb (t == s)):eqP g (.bl t) (.bl s) kb:=⟨_,.inr (.inl ⟨t,s,rfl,rfl,rfl⟩),h⟩
theorem a49 {x y:Str} (h:kb (decide (x=y))):eqP g (.str x) (.str y) kb:=⟨_,.inr (.inr (.inl ⟨x,y,rfl,rfl,rfl⟩)),h⟩
theorem bE7 (h:Q (.bl (decide (i=j))) g):prP (.cmp .Eq) [.int i,.int j] g Q:=a09 (a50 h)
theorem a84 (h:Q (.bl (!decide (i=j))) g):prP (.cmp .NotEq) [.int i,.int j] g Q:=az2 (a50 h)
theorem bE8 (h:Q (.bl (t == s)) g):prP (.cmp .Eq) [.bl t,.bl s] g Q:=a09 (bn1 h)
theorem bD7 (h:Q (.bl (!(t == s))) g):prP (.cmp .NotEq) [.bl t,.bl s] g Q:=az2 (bn1 h)
theorem bE6 {p q:Str} (h:Q (.bl (decide (p=q))) g):prP (.cmp .Eq) [.str p,.str q] g Q:=a09 (a49 h)
theorem bD6 {p q:Str} (h:Q (.bl (!decide (p=q))) g):prP (.cmp .NotEq) [.str p,.str q] g Q:=az2 (a49 h)
theorem ai0 {d:D} (h:Q (.bl (U3 d)) g):prP (.cmp .Is) [d,.non] g Q:=U7 ⟨rfl,rfl⟩ h
theorem aJ4 {d:D} (h:Q (.bl (!U3 d)) g):prP (.cmp .IsNot) [d,.non] g Q:=U7 ⟨rfl,rfl⟩ h
theorem bE3 (h:Q (.bl true) g):prP (.cmp .Is) [.non,.non] g Q:=ai0 h
theorem bE1 (h:Q (.bl false) g):prP (.cmp .Is) [.int i,.non] g Q:=ai0 h
theorem bE2 (h:Q (.bl false) g):prP (.cmp .Is) [.bl t,.non] g Q:=ai0 h
theorem bD9 {x:Str} (h:Q (.bl false) g):prP (.cmp .Is) [.str x,.non] g Q:=ai0 h
theorem bD8 (h:Q (.bl false) g):prP (.cmp .Is) [.tup l,.non] g Q:=ai0 h
theorem bE0 {n:Nat} (h:Q (.bl false) g):prP (.cmp .Is) [.ref n,.non] g Q:=ai0 h
theorem bE5 (h:Q (.bl false) g):prP (.cmp .IsNot) [.non,.non] g Q:=aJ4 h
theorem bE4 (h:Q (.bl true) g):prP (.cmp .IsNot) [.int i,.non] g Q:=aJ4 h
theorem bF8 (h:kb t):af8 g (.bl t) kb:=⟨t,.inr (.inl rfl),h⟩
theorem bh0 {t:Bool} {p:Bool->Prop} (h:p t):∃ s,D.bl t=D.bl s/\p s:=⟨t,rfl,h⟩
theorem bs1 {p:Int->Prop} (h:p i):∃ s,D.int i=D.int s/\p s:=⟨i,rfl,h⟩
theorem if2 {c:Prop} [Decidable c] {A B:Prop} (h1:c->A) (h2:¬ c->B):if decide c=true then A else B:=by
 by_cases h:c
 ·rw [if_pos (decide_eq_true h)];exact h1 h
 ·rw [if_neg (by rw [decide_eq_false h];decide)];exact h2 h
theorem ift {A B:Prop} (h:A):if true=true then A else B:=by rw [if_pos rfl];exact h
theorem aa8 {A B:Prop} (h:B):if false=true then A else B:=by rw [if_neg (by decide)];exact h
theorem bO0 {A B:Prop} (h:A):if (!false)=true then A else B:=by rw [if_pos (show (!false)=true from rfl)];exact h
theorem bN9 {A B:Prop} (h:B):if (!true)=true then A else B:=by rw [if_neg (by decide)];exact h
theorem ifF {b:Bool} {A B:Prop} (hb:b=false) (h:B):if b=true then A else B:=by rw [hb];exact aa8 h
theorem ifT {b:Bool} {A B:Prop} (hb:b=true) (h:A):if b=true then A else B:=by rw [hb];exact ift h
theorem L6 {a:Nat} {d:D} (hl:i4 g a=some l) (h2:atI l i=some d) (h:Q d g):prP .ix [.ref a,.int i] g Q:=⟨_,_,⟨rfl,.inl ⟨_,l,i,rfl,hl,h2⟩⟩,h⟩
theorem aI2 {d:D} (h2:atI l i=some d) (h:Q d g):prP .ix [.tup l,.int i] g Q:=⟨_,_,⟨rfl,.inl ⟨_,l,i,rfl,rfl,h2⟩⟩,h⟩
theorem j8 {i:Nat} {kvs:List (Key × D)} {y v:D} {k:Key} (hg:g[i]?=some (.dic kvs)) (hk:Y0 y=some k) (hv:K4 kvs k=some v) (h:Q v g):prP .ix [.ref i,y] g Q:=⟨_,_,⟨rfl,.inr (.inl ⟨i,kvs,y,k,rfl,hg,hk,hv⟩)⟩,h⟩
theorem P8 {a n:Nat} {v:D} {kg:G->Prop} (hl:g[a]?=some (.lst l)) (hn:ixN l.length i=some n) (h:kg (g.set a (.lst (l.set n v)))):ag1 (.ref a) (.int i) v g kg:=⟨_,.inl ⟨a,i,l,n,rfl,rfl,hl,hn,rfl⟩,h⟩
theorem bw5 {i:Nat} {kvs:List (Key × D)} {y v:D} {k:Key} {kg:G->Prop} (hg:g[i]?=some (.dic kvs)) (hk:Y0 y=some k) (hl:kvs.length < 100000) (h:kg (g.set i (.dic (putD kvs k v)))):ag1 (.ref i) y v g kg:=⟨_,.inr ⟨i,kvs,k,rfl,hg,hk,hl,rfl⟩,h⟩
theorem G9 {f c:Str} {cs:List Str} {a:Nat} {fs:List (Str × D)} {v:D} {kg:G->Prop} (hg:g[a]?=some (.ins c fs)) (hc:c ∈ cs) (hl:fs.length < 100) (h:kg (g.set a (.ins c (v8 f v fs)))):aj1 f cs (.ref a) v g kg:=⟨_,⟨a,c,fs,rfl,hg,hc,hl,rfl⟩,h⟩
theorem A1 {f c:Str} {a:Nat} {fs:List (Str × D)} {d:D} (hg:g[a]?=some (.ins c fs)) (hf:fs.lookup f=some d) (h:Q d g):prP (.fld f) [.ref a] g Q:=⟨_,_,⟨a,c,fs,rfl,hg,hf,rfl⟩,h⟩
theorem a8 {a:Nat} (h:g[a]?=some (.lst l)):i4 g a=some l:=by simp only [i4,h,ax3]
theorem aQ1 {a:Nat} (h:g[a]?=some (.fro l)):i4 g a=some l:=by simp only [i4,h,ax3]
theorem p6 {a:Nat} (hl:i4 g a=some l) (h:Q (.int l.length) g):prP .len [.ref a] g Q:=⟨_,_,⟨rfl,.inl ⟨_,l,rfl,hl,rfl⟩⟩,h⟩
theorem bA4 (h:Q (.int l.length) g):prP .len [.tup l] g Q:=⟨_,_,⟨rfl,.inl ⟨_,l,rfl,rfl,rfl⟩⟩,h⟩
theorem bk6 (h:Q (.tup (cut l (some i) none)) g):prP (.slc true false) [.tup l,.int i] g Q:=⟨_,_,⟨_,i,rfl,.inl ⟨l,rfl,rfl,rfl⟩⟩,h⟩
theorem bk7 (h:Q (.tup (cut l none (some i))) g):prP (.slc false true) [.tup l,.int i] g Q:=⟨_,_,⟨_,i,rfl,.inl ⟨l,rfl,rfl,rfl⟩⟩,h⟩
theorem bk8 {a:Nat} (hl:i4 g a=some l) (h:Q (.ref g.length) (g ++ [.lst (cut l none (some i))])):prP (.slc false true) [.ref a,.int i] g Q:=⟨_,_,⟨_,i,rfl,.inr ⟨a,l,rfl,hl,rfl,rfl⟩⟩,h⟩
theorem a39 {a:Nat} (hl:i4 g a=some l) (h:Q (.ref g.length) (g ++ [.lst l.reverse])):prP .rev [.ref a] g Q:=⟨_,_,.inr ⟨a,l,rfl,hl,rfl,rfl⟩,h⟩
theorem aG5 (hl:l.length <= 1000) (h:Q (.tup l) g):prP .tup l g Q:=⟨_,_,⟨hl,rfl,rfl⟩,h⟩
theorem aG6 (hl:l.length <= 1000) (h:Q (.ref g.length) (g ++ [.lst l])):prP .lst l g Q:=⟨_,_,⟨hl,rfl,rfl⟩,h⟩
theorem as6 {a:Nat} (hl:i4 g a=some l) (h:Q (.ref g.length) (g ++ [.lst l])):prP .list [.ref a] g Q:=⟨_,_,⟨_,l,rfl,hl,rfl,rfl⟩,h⟩
theorem bA1 (h:Q (.ref g.length) (g ++ [.lst l])):prP .list [.tup l] g Q:=⟨_,_,⟨_,l,rfl,rfl,rfl,rfl⟩,h⟩
theorem a27 {a:Nat} (hl:i4 g a=some l) (h:Q (.tup l) g):prP .tuple [.ref a] g Q:=⟨_,_,⟨_,l,rfl,hl,rfl,rfl⟩,h⟩
theorem isi {d:D} {c:String} {b:Bool} (hc:c ∈ ["int","bool","str","tuple","list"]) (hb:ag7 g d c=some b) (h:Q (.bl b) g):prP .isin [d,.ty c] g Q:=⟨_,_,⟨d,c,b,rfl,hc,hb,rfl,rfl⟩,h⟩
theorem aH7 {i:Nat} {y:D} (hg:g[i]?=some (.lst l)) (hl:l.length < 100000) (h:Q .non (g.set i (.lst (l ++ [y])))):prP .append [.ref i,y] g Q:=⟨_,_,⟨i,y,l,rfl,hg,hl,rfl,rfl⟩,h⟩
theorem aP1 {l:List D}:mkP .index (.tup l) g:=.inl ⟨l,rfl⟩
theorem aP2 {a:Nat} {l:List D} (hl:i4 g a=some l):mkP .index (.ref a) g:=.inr ⟨a,l,rfl,hl⟩
theorem a73 {l:List D} {y:D} {n:Nat} (W:P5 l y n) (hz:l.length <= 100000) (h:Q (.int n) g):prP .index [.tup l,y] g Q:=⟨_,_,⟨_,y,l,n,rfl,rfl,W,hz,rfl,rfl⟩,h⟩
theorem a74 {a:Nat} {l:List D} {y:D} {n:Nat} (hl:i4 g a=some l) (W:P5 l y n) (hz:l.length <= 100000) (h:Q (.int n) g):prP .index [.ref a,y] g Q:=⟨_,_,⟨_,y,l,n,rfl,hl,W,hz,rfl,rfl⟩,h⟩
theorem aQ4 {l m:List D} (hl:l.length + m.length <= 100000) (h:Q (.tup (l ++ m)) g):prP .iadd [.tup l,.tup m] g Q:=⟨_,_,.inr ⟨l,m,rfl,hl,rfl,rfl⟩,h⟩
theorem aj9 {i:Nat} (hg:g[i]?=some (.lst l)):mkP .append (.ref i) g:=⟨i,l,rfl,a8 hg⟩
theorem lr1 {j:Int} (h1:-(2 ^ 62) <= j) (h2:j <= 100000) (h:Q (.ref g.length) (g ++ [.lst (j0 0 j.toNat)])):prP .lrng1 [.int j] g Q:=⟨_,_,⟨j,rfl,h1,h2,rfl,rfl⟩,h⟩
theorem lr2 {i j:Int} (h1:-(2 ^ 62) <= i/\i < 2 ^ 62/\-(2 ^ 62) <= j/\j < 2 ^ 62/\j - i <= 100000) (h:Q (.ref g.length) (g ++ [.lst (j0 i (j - i).toNat)])):prP .lrng2 [.int i,.int j] g Q:=⟨_,_,⟨i,j,rfl,h1,rfl,rfl⟩,h⟩
theorem bz1 {ns ms:List Int} (h1:∀ k ∈ ns,ST.Spot k) (h2:∀ k ∈ ms,ST.Spot k) (hl:ns.length + ms.length < 50) (h:Q (.ref g.length) (g ++ [.lst ((G7 (ns ++ ms)).map .int)])):prP .sun [.tup (ns.map .int),.tup (ms.map .int)] g Q:=⟨_,_,⟨ns,ms,rfl,h1,h2,hl,rfl,rfl⟩,h⟩
theorem aD3 {i:Nat} (hg:g[i]?=some (.lst l)) (h:Q .non (g.set i (.lst []))):prP .clear [.ref i] g Q:=⟨_,_,⟨i,l,rfl,hg,rfl,rfl⟩,h⟩
theorem aw4 {i:Nat} (hg:g[i]?=some (.lst l)):mkP .clear (.ref i) g:=⟨i,l,rfl,a8 hg⟩
theorem bB0 {v:Bool} (h:Q (.int (if v then 1 else 0)) g):prP .int [.bl v] g Q:=⟨_,_,⟨rfl,.inr ⟨v,rfl,rfl⟩⟩,h⟩
theorem a87 {i:Nat} {v:Bool} (hl:i4 g i=some l) (hv:N4 l=some v) (h:Q (.bl v) g):prP .all [.ref i] g Q:=⟨_,_,⟨i,l,v,rfl,hl,hv,rfl,rfl⟩,h⟩
theorem A3 {i:Nat} {x:D} {σ:S} {k:S->Prop} (h:k (σ.set i (some x))):tgP (.one i) x σ k:=h
end
theorem aS7:∀ (bs:List Bool),N4 (bs.map D.bl)=some (bs.all id):=by
 intro bs
 induction bs with
 | nil=>rfl
 | cons b r ih=>simp [N4,ih]
theorem call_of {T:Nat->Option MDef} {k f:Nat} {m:MDef} {ds:List D} {g:G} {Q:KD} {E:KX} (hT:T f=some m) (hl:ds.length=m.ar)
  (h:wpS (b9 T k) m.body ⟨fun _ g'=>Q .non g',Q,fun _ _=>False,fun _ _=>False⟩ (d8 m ds) g E):b9 T (k + 1) f ds g Q E:=⟨m,hT,hl,h⟩
theorem i8 {P:Sig} {σ:S} {g:G} {Q:KD} {E:KX} {a:ME} {i f:Nat} {c m:Str} {fs:List (Str × D)} {cs:List (Str × Nat)} (hg:g[i]?=some (.ins c fs)) (hf:fs.lookup m=none) (hc:cs.lookup c=some f) (h:wpA P a σ g (fun xs g2=>P f (.ref i :: xs) g2 Q E) E) :
  ∃ a' c fs f,D.ref i=.ref a'/\g[a']?=some (.ins c fs)/\fs.lookup m=none/\cs.lookup c=some f/\wpA P a σ g (fun xs g2=>P f (.ref i :: xs) g2 Q E) E:=⟨i,c,fs,f,rfl,hg,hf,hc,h⟩
noncomputable def IK.Is (k:IK) (l:List D) (g:G):Prop:=∀ i,k.at i g=some l[i]?
theorem aa7 {l:List D} {g:G}:(IK.fix l).Is l g:=fun _=>rfl
theorem E6 {a:Nat} {l:List D} {g:G} (h:i4 g a=some l):(IK.lst a).Is l g:=fun i=>by simp only [IK.at,h]
theorem R0 {lo:Int} {n i:Nat} {x:D} (h:(j0 lo n)[i]?=some x):i < n/\x=.int (lo + i):=by
 unfold j0 at h
 have hi:i < n:=by
  have:=(List.getElem?_eq_some_iff.mp h).1
  simpa using this
 rw [List.getElem?_map,List.getElem?_range hi] at h
 cases h
 exact ⟨hi,rfl⟩
theorem w6 (lo:Int) (n:Nat):(j0 lo n).length=n:=by simp [j0]
section
variable {P:Sig} {σ:S} {g:G} {E:KX} {N:Ends} {it a b c o:ME} {s:MS} {t:MT} {Q:KD}
theorem aT5 {k:IK} {l:List D} {fin:S->G->Prop} {turn:D->(S->G->Prop)->S->G->Prop} (I:Nat->S->G->Prop) (hk:∀ i σ g,I i σ g->k.Is l g) (h0:I 0 σ g) (hs:∀ i x σ g,l[i]?=some x->I i σ g->turn x (I (i + 1)) σ g) (hd:∀ σ g,I l.length σ g->fin σ g):turns k σ g fin turn:=by
 refine ⟨fun i m σ g=>m=l.length - i/\i <= l.length/\I i σ g,⟨l.length,by simp,Nat.zero_le _,h0⟩,?_⟩
 rintro i m σ g ⟨rfl,hi,p⟩
 rw [hk i σ g p i]
 by_cases hlt:i < l.length
 ·rw [List.getElem?_eq_getElem hlt]
  exact .inr ⟨_,rfl,I (i + 1),fun σ' g' p'=>⟨l.length - (i + 1),by omega,rfl,hlt,p'⟩,hs i l[i] σ g (List.getElem?_eq_getElem hlt) p⟩
 ·have e:i=l.length:=by omega
  subst e
  rw [List.getElem?_eq_none (Nat.le_refl _)]
  exact .inl ⟨rfl,hd σ g p⟩
theorem as4 (hP:j9 P) (h:wpI P it σ g (fun k g1=>∃ (l:List D) (I:Nat->S->G->Prop),(∀ i σ g,I i σ g->k.Is l g)/\I 0 σ g1 /\
      (∀ i x σ g,l[i]?=some x->I i σ g->tgP t x σ fun σ2=>wpS P s ⟨I (i + 1),N.rt,N.nx,I (i + 1)⟩ σ2 g E)/\∀ σ g,I l.length σ g->N.nx σ g) E):wpS P (.for_ t it s) N σ g E :=
  F0 hP it _ _ _ _ _ _ (fun k g1 ⟨l,I,hk,h0,hs,hd⟩=>aT5 I hk h0 hs hd) (fun _ _ z=>z) h
theorem S2 {i6:List Nat} {n:Nat} {cond elt:ME} (hP:j9 P) (h:wpI P it σ g (fun k g1=>∃ (l:List D) (I:Nat->List D->S->G->Prop),l.length <= 1000/\(∀ i ys σ g,I i ys σ g->k.Is l g/\ys.length <= i)/\I 0 [] (Y8 σ i6 n) g1 /\
      (∀ i x ys σ g,l[i]?=some x->I i ys σ g->tgP t x σ fun σ2=>wpT P cond σ2 g (fun c g3=>if c=true then wpE P elt σ2 g3 (fun y g4=>I (i + 1) (ys ++ [y]) σ2 g4) NoX else I (i + 1) ys σ2 g3) NoX) /\
      ∀ ys σ g,I l.length ys σ g->Q (.ref g.length) (g ++ [.lst ys])) E):wpE P (.comp i6 n t it cond elt) σ g Q E:=by
  rw [wpE]
  refine F0 hP it _ _ _ _ _ _ (fun k g1 h=>?_) (fun _ _ z=>z) h
  obtain ⟨l,I,hl,hk,h0,hs,hd⟩:=h
  refine ⟨fun i m ys σ g=>m=l.length - i/\i <= l.length/\I i ys σ g,⟨l.length,by simp,Nat.zero_le _,h0⟩,?_⟩
  rintro i m ys σ g ⟨rfl,hi,p⟩
  obtain ⟨hk',hy⟩:=hk i ys σ g p
  rw [hk' i]
  by_cases hlt:i < l.length
  · rw [List.getElem?_eq_getElem hlt]
    refine .inr ⟨_,rfl,by omega,K5 (fun σ2 q=>u7 hP cond _ _ _ _ _ _ (fun c g3 q=>?_) (fun _ _ z=>z) q) (hs i l[i] ys σ g (List.getElem?_eq_getElem hlt) p)⟩
    cases c
    · exact ⟨l.length - (i + 1),by omega,rfl,hlt,by simpa using (show I (i + 1) ys σ2 g3 from q)⟩
    · exact c9 hP elt _ _ _ _ _ _ (fun y g4 q=>⟨l.length - (i + 1),by omega,rfl,hlt,by simpa using q⟩) (fun _ _ z=>z) q
  · have e:i=l.length:=by omega
    subst e
    rw [List.getElem?_eq_none (Nat.le_refl _)]
    exact .inl ⟨rfl,hd ys σ g p⟩
theorem ai6 {i6:List Nat} {n:Nat} {cond elt:ME} (hP:j9 P) (h:wpE P a σ g (fun x g1=>∃ j:Nat,x=.int j/\j <= 1000/\∃ I:Nat->List D->S->G->Prop,I 0 [] (Y8 σ i6 n) g1/\(∀ i ys σ g,I i ys σ g->ys.length <= i) /\
      (∀ (i:Nat) ys σ g,i < j->I i ys σ g->tgP t (.int i) σ fun σ2=>wpT P cond σ2 g (fun c g3=>if c=true then wpE P elt σ2 g3 (fun y g4=>I (i + 1) (ys ++ [y]) σ2 g4) NoX else I (i + 1) ys σ2 g3) NoX) /\
      ∀ ys σ g,I j ys σ g->Q (.ref g.length) (g ++ [.lst ys])) E):wpE P (.comp i6 n t (.itR1 a) cond elt) σ g Q E:=by
  refine S2 hP ?_
  rw [wpI]
  refine c9 hP a _ _ _ _ _ _ (fun x g1 h=>?_) (fun _ _ z=>z) h
  obtain ⟨j,rfl,hj,I,h0,hz,hs,hd⟩:=h
  refine ⟨j,rfl,by omega,by omega,_,I,by rw [w6];simpa using hj,fun i ys σ g p=>⟨aa7,hz i ys σ g p⟩,h0,fun i x ys σ g hx p=>?_,fun ys σ g p=>hd ys σ g (by rw [w6] at p;simpa using p)⟩
  obtain ⟨hi,rfl⟩:=R0 hx
  rw [show (0:Int) + (i:Int)=i by omega]
  exact hs i ys σ g (by simpa using hi) p
theorem bs5 (hP:j9 P) {R:IK->G->Prop} (h:wpE P a σ g (fun x g1=>∃ j:Int,x=.int j/\-(2 ^ 62) <= j/\j < 2 ^ 62/\R (.fix (j0 0 j.toNat)) g1) E):wpI P (.itR1 a) σ g R E:=by rw [wpI];exact h
theorem bs4 (hP:j9 P) {R:IK->G->Prop} (h:wpE P a σ g (fun x g1=>wpE P b σ g1 (fun y g2=>∃ i j:Int,x=.int i/\y=.int j/\(-(2 ^ 62) <= i/\i < 2 ^ 62/\-(2 ^ 62) <= j/\j < 2 ^ 62)/\R (.fix (j0 i (j - i).toNat)) g2) E) E):wpI P (.itR2 a b) σ g R E:=by rw [wpI];exact h
theorem i_l (hP:j9 P) {R:IK->G->Prop} (h:wpE P a σ g (fun x g1=>∃ i l,x=.ref i/\i4 g1 i=some l/\R (.lst i) g1) E):wpI P (.itE a) σ g R E:=by
 rw [wpI];exact c9 hP a _ _ _ _ _ _ (fun x g1 h=>.inr h) (fun _ _ z=>z) h
end
end M

namespace M
open PySem L2
local macro_rules | `(tactic| walk_at "w1") => `(tactic| first
 | with_reducible refine aK8 ?_ | with_reducible refine a24 ?_ | with_reducible refine a23 ?_ | with_reducible refine bu7 ?_ | with_reducible refine bi3 ?_ | with_reducible refine w_unp ?_ | with_reducible refine a93 ?_ | with_reducible refine bh9 ?_ | with_reducible refine a26 ?_ | with_reducible refine B6 ?_ | with_reducible refine w_retn ?_
 | (with_reducible refine w_var (d:=?_) ?_ ?_;rotate_left;· with_unfolding_all rfl) | with_reducible refine w_lit ?_ | with_reducible refine am2 ?_ | with_reducible refine aE6 ?_ | with_reducible refine bF5 ?_ | with_reducible refine bi0 ?_ | with_reducible refine a96 ?_ | with_reducible refine w_and ?_ | with_reducible refine w_or ?_ | with_reducible refine w_not ?_ | with_reducible refine w_ite ?_
 | with_reducible refine aK9 ?_ | with_reducible refine bi2 ?_ | with_reducible refine a95 ?_ | with_reducible refine a25 ?_ | with_reducible refine at7 ?_
 | with_reducible refine bh8 ?_ | with_reducible refine bu6 ?_ | with_reducible refine bh7 ?_ | with_reducible refine a22 ?_ | with_reducible refine a21 ?_
 | with_reducible refine bF1 ?_ | with_reducible refine bF0 ?_ | with_reducible refine bu9 ?_ | with_reducible refine bS0 ?_ | with_reducible refine bS1 ?_ | with_reducible refine bS2 ?_ | with_reducible refine bS3 ?_ | with_reducible refine bE7 ?_ | with_reducible refine a84 ?_ | with_reducible refine bE8 ?_ | with_reducible refine bD7 ?_ | with_reducible refine bE6 ?_ | with_reducible refine bE3 ?_ | with_reducible refine bE1 ?_ | with_reducible refine bE2 ?_ | with_reducible refine bD9 ?_ | with_reducible refine bD8 ?_ | with_reducible refine bE0 ?_ | with_reducible refine ai0 ?_ | with_reducible refine bE5 ?_ | with_reducible refine bE4 ?_ | with_reducible refine c_inT ?_ | with_reducible refine c_inR ?_ | with_reducible refine aJ4 ?_
 | with_reducible refine bF8 ?_ | with_reducible refine bh0 ?_ | with_reducible refine bs1 ?_ | with_reducible refine ift ?_ | with_reducible refine aa8 ?_ | with_reducible refine bO0 ?_ | with_reducible refine bN9 ?_
 | with_reducible refine bA4 ?_ | with_reducible refine sl00_t ?_ | with_reducible refine bk6 ?_ | with_reducible refine bk7 ?_ | with_reducible refine rev_t ?_ | with_reducible refine bA1 ?_ | with_reducible refine tup_t ?_)
local macro_rules | `(tactic| walk_at "w2") => `(tactic| repeat (first | walk_at "w1" | with_reducible refine aG5 (by simp) ?_ | with_reducible refine aG6 (by simp) ?_ | with_reducible refine L6 (a8 (by assumption)) (by with_unfolding_all rfl) ?_ | with_reducible refine p6 (a8 (by assumption)) ?_ | with_reducible refine as9 (by unfold ai4; decide) ?_))
local macro_rules | `(tactic| walk_at "w3") => `(tactic| repeat (first | walk_at "w1" | with_reducible refine aG5 (by simp) ?_ | with_reducible refine aG6 (by simp) ?_ | with_reducible refine L6 (a8 (by assumption)) (by with_unfolding_all rfl) ?_ | with_reducible refine p6 (a8 (by assumption)) ?_ | with_reducible refine as9 (by unfold ai4; decide) ?_ | with_reducible refine And.intro (show List.length _ <= 1000 from by simp) ?_ | with_reducible refine tg_many (by with_unfolding_all rfl) ?_ | with_reducible refine A3 ?_ | with_reducible refine aI2 (by with_unfolding_all rfl) ?_))
local macro_rules | `(tactic| walk_at "w5") => `(tactic| repeat (first | walk_at "w1" | with_reducible refine a94 ?_ | with_reducible refine bu5 ?_ | with_reducible refine bi1 ?_ | with_reducible refine bD6 ?_ | with_reducible refine t_int ?_ | with_reducible refine t_non ?_ | with_reducible refine max2 ?_ | with_reducible refine min2 ?_ | with_reducible refine bB0 ?_ | with_reducible refine dnew ?_ | with_reducible refine g_in ?_ | with_reducible refine g_nin ?_ | with_reducible refine aG5 (by simp) ?_ | with_reducible refine aG6 (by simp) ?_ | with_reducible refine L6 (a8 (by assumption)) (by with_unfolding_all rfl) ?_ | with_reducible refine p6 (a8 (by assumption)) ?_ | with_reducible refine as9 (by unfold ai4; decide) ?_ | with_reducible refine And.intro (show List.length _ <= 1000 from by simp) ?_ | with_reducible refine tg_many (by with_unfolding_all rfl) ?_ | with_reducible refine A3 ?_ | with_reducible refine aI2 (by with_unfolding_all rfl) ?_ | with_reducible refine And.intro (aj9 (by assumption)) ?_ | with_reducible refine And.intro (mk_pop (by assumption)) ?_ | with_reducible refine And.intro (mk_d (by assumption)) ?_ | with_reducible refine U4 (by decide) ?_ | with_reducible refine a_divL (by decide) (by decide) ?_ | with_reducible refine i_n ?_))
noncomputable def E8:MDef:=⟨2,5,(.seq (.ifs (.and_ (.tst (.prim (.cmp .Lt) (.cons (.prim .ix (.cons (.var 0) (.cons (.lit (.int 2)) .nil))) (.cons (.var 1) .nil)))) (.tst (.prim (.cmp .Lt) (.cons (.prim .ix (.cons (.var 0) (.cons (.lit (.int 1)) .nil))) (.cons (.prim .len (.cons (.prim .ix (.cons (.var 0) (.cons (.lit (.int 0)) .nil))) .nil)) .nil))))) (.seq (.set 2 (.prim .ix (.cons (.prim .ix (.cons (.var 0) (.cons (.lit (.int 0)) .nil))) (.cons (.prim .ix (.cons (.var 0) (.cons (.lit (.int 1)) .nil))) .nil)))) (.seq (.setix (.var 0) (.lit (.int 1)) (.prim (.bin .Add) (.cons (.prim .ix (.cons (.var 0) (.cons (.lit (.int 1)) .nil))) (.cons (.lit (.int 1)) .nil)))) (.seq (.setix (.var 0) (.lit (.int 2)) (.lit (.int 0))) (.seq (.ifs (.tst (.prim (.cmp .GtE) (.cons (.var 2) (.cons (.prim (.bin .Pow) (.cons (.lit (.int 10)) (.cons (.lit (.int 18)) .nil))) .nil)))) (.seq (.setix (.var 0) (.lit (.int 2)) (.var 2)) .pass) (.seq (.setix (.var 0) (.lit (.int 3)) (.prim (.bin .Mod) (.cons (.prim (.bin .Add) (.cons (.prim (.bin .Add) (.cons (.prim (.bin .Mult) (.cons (.prim .ix (.cons (.var 0) (.cons (.lit (.int 3)) .nil))) (.cons (.lit (.int 48271)) .nil))) (.cons (.prim (.bin .Mult) (.cons (.prim (.bin .Mod) (.cons (.var 2) (.cons (.lit (.int 2147483629)) .nil))) (.cons (.lit (.int 69621)) .nil))) .nil))) (.cons (.lit (.int 12345)) .nil))) (.cons (.lit (.int 2147483647)) .nil)))) .pass)) .pass)))) .pass) (.seq (.ifs (.tst (.prim (.cmp .GtE) (.cons (.prim .ix (.cons (.var 0) (.cons (.lit (.int 2)) .nil))) (.cons (.var 1) .nil)))) (.seq (.set 3 (.prim (.bin .Mod) (.cons (.prim .ix (.cons (.var 0) (.cons (.lit (.int 2)) .nil))) (.cons (.var 1) .nil)))) (.seq (.setix (.var 0) (.lit (.int 2)) (.prim (.bin .FloorDiv) (.cons (.prim .ix (.cons (.var 0) (.cons (.lit (.int 2)) .nil))) (.cons (.var 1) .nil)))) (.seq (.ret (.var 3)) .pass))) .pass) (.seq (.set 4 (.prim .ix (.cons (.var 0) (.cons (.lit (.int 3)) .nil)))) (.seq (.setix (.var 0) (.lit (.int 3)) (.prim (.bin .Mod) (.cons (.prim (.bin .Add) (.cons (.prim (.bin .Add) (.cons (.prim (.bin .Mult) (.cons (.prim (.bin .Mod) (.cons (.prim (.bin .Mult) (.cons (.var 4) (.cons (.var 4) .nil))) (.cons (.lit (.int 2147483629)) .nil))) (.cons (.lit (.int 5)) .nil))) (.cons (.prim (.bin .Mult) (.cons (.var 4) (.cons (.lit (.int 16811)) .nil))) .nil))) (.cons (.lit (.int 2531011)) .nil))) (.cons (.lit (.int 2147483647)) .nil)))) (.seq (.ret (.prim (.bin .Mod) (.cons (.prim (.bin .Add) (.cons (.prim (.bin .FloorDiv) (.cons (.prim .ix (.cons (.var 0) (.cons (.lit (.int 3)) .nil))) (.cons (.lit (.int 59)) .nil))) (.cons (.prim (.bin .Mult) (.cons (.prim (.bin .Mod) (.cons (.prim .ix (.cons (.var 0) (.cons (.lit (.int 3)) .nil))) (.cons (.lit (.int 8191)) .nil))) (.cons (.lit (.int 31)) .nil))) .nil))) (.cons (.var 1) .nil)))) .pass)))))⟩
noncomputable def X8:MDef:=⟨1,2,(.seq (.set 1 (.call 4 (.cons (.var 0) (.cons (.prim (.bin .Pow) (.cons (.lit (.int 10)) (.cons (.lit (.int 9)) .nil))) .nil)))) (.seq (.ifs (.tst (.prim (.cmp .Eq) (.cons (.call 4 (.cons (.var 0) (.cons (.lit (.int 2)) .nil))) (.cons (.lit (.int 0)) .nil)))) (.seq (.set 1 (.prim (.bin .Add) (.cons (.var 1) (.cons (.prim (.bin .Pow) (.cons (.lit (.int 10)) (.cons (.lit (.int 25)) .nil))) .nil)))) .pass) .pass) (.seq (.ifs (.tst (.prim (.cmp .Eq) (.cons (.call 4 (.cons (.var 0) (.cons (.lit (.int 2)) .nil))) (.cons (.lit (.int 0)) .nil)))) (.seq (.ret (.prim (.bin .Sub) (.cons (.prim (.un .USub) (.cons (.lit (.int 1)) .nil)) (.cons (.var 1) .nil)))) .pass) .pass) (.seq (.ret (.var 1)) .pass))))⟩
structure k8 (g:G) (d:Nat):Prop where
 ex:∃ (s:Nat) (p b r:Int) (xs:List Int),g[d]?=some (.lst [.ref s,.int p,.int b,.int r])/\g[s]?=some (.lst (xs.map .int))/\s < d/\0 <= p/\0 <= b/\0 <= r/\r < 2147483647
structure Gr (d:Nat) (g g':G):Prop where
 len:g.length <= g'.length
 old:∀ i,i ≠ d->i < g.length->g'[i]?=g[i]?
theorem Gr.refl (d:Nat) (g:G):Gr d g g:=⟨Nat.le_refl _,fun _ _ _=>rfl⟩
theorem Gr.trans {d:Nat} {g g1 g2:G} (a:Gr d g g1) (b:Gr d g1 g2):Gr d g g2:=⟨Nat.le_trans a.len b.len,fun i h1 h2=>(b.old i h1 (Nat.lt_of_lt_of_le h2 a.len)).trans (a.old i h1 h2)⟩
theorem Gr.set (d:Nat) (g:G) (o:O):Gr d g (g.set d o):=⟨by simp,fun i h1 h2=>List.getElem?_set_ne (Ne.symm h1)⟩
theorem Gr.snoc (d:Nat) (g:G) (o:O):Gr d g (g ++ [o]):=⟨by simp,fun i h1 h2=>List.getElem?_append_left h2⟩
theorem Gr.at {d:Nat} {g g':G} (h:Gr d g g') {i:Nat} {o:O} (hi:i ≠ d) (e:g[i]?=some o):g'[i]?=some o:=(h.old i hi (List.getElem?_eq_some_iff.mp e).1).trans e
theorem B2 {g:G} {i:Nat} {o:O} (h:g[i]?=some o):i < g.length:=(List.getElem?_eq_some_iff.mp h).1
theorem k8.lt {g:G} {d:Nat} (h:k8 g d):d < g.length:=let ⟨_,_,_,_,_,e,_⟩:=h.ex;B2 e
theorem k8.snoc {g:G} {d:Nat} (h:k8 g d) (o:O):k8 (g ++ [o]) d:=by
 obtain ⟨s,p,b,r,xs,e1,e2,q⟩:=h.ex
 exact ⟨s,p,b,r,xs,by rw [List.getElem?_append_left (B2 e1)];exact e1,by rw [List.getElem?_append_left (B2 e2)];exact e2,q⟩
noncomputable def ac0:MS->MS
 | .seq _ b=>b
 | x=>x
theorem bt4 {i j:Int} (h1:-(2 ^ 64) < i) (h2:i < 2 ^ 64):ai5 i j:=.inl ⟨h1,h2⟩
theorem ab0 {i j:Int} (h1:-(2 ^ 64) < j) (h2:j < 2 ^ 64):ai5 i j:=.inr ⟨h1,h2⟩
theorem aM9 {P:Sig} {d:Nat} {n:Int} {g:G} {Q:KD} {E:KX} {N:Ends} {c2:Option D} (hN:N.rt=Q) (D0:k8 g d) (hn:0 < n) (hn2:n < 1073741824)
  (h:∀ r g',0 <= r->r < n->k8 g' d->Gr d g g'->Q (.int r) g'):wpS P (ac0 E8.body) N [some (.ref d),some (.int n),c2,none,none] g E:=by
 obtain ⟨s,p,b,r,xs,e1,e2,hsd,hp,hb,hr,hr2⟩:=D0.ex
 have hlt:=B2 e1
 subst hN
 dsimp [E8,ac0]
 walk_at "w2"
 refine if2 (fun c=>?_) (fun c=>?_)
 ·walk_at "w2"
  refine U4 hn ?_
  walk_at "w2"
  refine a89 ⟨hn,hn2⟩ ?_
  walk_at "w2"
  refine P8 e1 (by with_unfolding_all rfl) ?_
  walk_at "w2"
  refine h _ _ (Int.emod_nonneg _ (by omega)) (Int.emod_lt_of_pos _ hn) ⟨s,p,b / n,r,xs,?_,?_,hsd,hp,Int.ediv_nonneg hb (by omega),hr,hr2⟩ (Gr.set d g _)
  ·rw [List.getElem?_set_self hlt];rfl
  ·rw [List.getElem?_set_ne (Nat.ne_of_gt hsd)];exact e2
 ·walk_at "w2"
  have r64:-(2 ^ 64) < r/\r < 2 ^ 64:=⟨by omega,by omega⟩
  refine ae1 (bt4 r64.1 r64.2) ?_
  walk_at "w2"
  refine U4 (by decide) ?_
  walk_at "w2"
  refine ae1 (ab0 (by decide) (by decide)) ?_
  walk_at "w2"
  refine ae1 (ab0 (by decide) (by decide)) ?_
  walk_at "w2"
  refine U4 (by decide) ?_
  walk_at "w2"
  refine P8 e1 (by with_unfolding_all rfl) ?_
  generalize hr':(r * r % 2147483629 * 5 + r * 16811 + 2531011) % 2147483647=r'
  have q0:0 <= r':=by rw [<- hr'];exact Int.emod_nonneg _ (by decide)
  have q1:r' < 2147483647:=by rw [<- hr'];exact Int.emod_lt_of_pos _ (by decide)
  have e1':(g.set d (.lst [.ref s,.int p,.int b,.int r']))[d]?=some (.lst [.ref s,.int p,.int b,.int r']):=List.getElem?_set_self hlt
  show wpS P _ _ _ (g.set d (.lst [.ref s,.int p,.int b,.int r'])) E
  walk_at "w2"
  refine a89 ⟨by decide,by decide⟩ ?_
  walk_at "w2"
  refine U4 (by decide) ?_
  walk_at "w2"
  refine ae1 (ab0 (by decide) (by decide)) ?_
  walk_at "w2"
  refine U4 hn ?_
  walk_at "w2"
  refine h _ _ (Int.emod_nonneg _ (by omega)) (Int.emod_lt_of_pos _ hn) ⟨s,p,b,r',xs,e1',?_,hsd,hp,hb,q0,q1⟩ (Gr.set d g _)
  rw [List.getElem?_set_ne (Nat.ne_of_gt hsd)];exact e2
theorem n8 {T:Nat->Option MDef} (hT:T 4=some E8) {k d:Nat} {n:Int} {g:G} {Q:KD} {E:KX} (D0:k8 g d) (hn:0 < n) (hn2:n < 1073741824)
  (h:∀ r g',0 <= r->r < n->k8 g' d->Gr d g g'->Q (.int r) g'):b9 T (k + 1) 4 [.ref d,.int n] g Q E:=by
 obtain ⟨s,p,b,r,xs,e1,e2,hsd,hp,hb,hr,hr2⟩:=D0.ex
 have hlt:=B2 e1
 refine call_of hT rfl ?_
 have tail:∀ (g':G) (c2:Option D),k8 g' d->Gr d g g'->wpS (b9 T k) (ac0 E8.body) ⟨fun _ g'=>Q .non g',Q,fun _ _=>False,fun _ _=>False⟩ [some (.ref d),some (.int n),c2,none,none] g' E :=
  fun g' c2 D1 gr=>aM9 rfl D1 hn hn2 fun r g2 a b c e=>h r g2 a b c (gr.trans e)
 dsimp [E8,d8,List.replicate]
 walk_at "w2"
 refine if2 (fun c=>?_) (fun c=>?_)
 ·walk_at "w2"
  refine if2 (fun c'=>?_) (fun c'=>?_)
  ·walk_at "w2"
   have hp':p.toNat < xs.length:=by
    rw [List.length_map] at c'
    omega
   have ea:atI (xs.map D.int) p=some (.int xs[p.toNat]):=by
    have:=S1 (xs:=xs.map D.int) (j:=p.toNat) (v:=.int xs[p.toNat]) (by rw [List.getElem?_map,List.getElem?_eq_getElem hp'];rfl)
    rwa [show ((p.toNat:Nat):Int)=p by omega] at this
   refine L6 (a8 e2) ea ?_
   generalize xs[p.toNat]=cell
   walk_at "w2"
   refine P8 e1 (by with_unfolding_all rfl) ?_
   have f1:(g.set d (.lst [.ref s,.int (p + 1),.int b,.int r]))[d]?=some (.lst [.ref s,.int (p + 1),.int b,.int r]):=List.getElem?_set_self hlt
   show wpS (b9 T k) _ _ _ (g.set d (.lst [.ref s,.int (p + 1),.int b,.int r])) E
   walk_at "w2"
   refine P8 f1 (by with_unfolding_all rfl) ?_
   rw [List.set_set]
   have f2:(g.set d (.lst [.ref s,.int (p + 1),.int 0,.int r]))[d]?=some (.lst [.ref s,.int (p + 1),.int 0,.int r]):=List.getElem?_set_self hlt
   show wpS (b9 T k) _ _ _ (g.set d (.lst [.ref s,.int (p + 1),.int 0,.int r])) E
   walk_at "w2"
   refine if2 (fun c2=>?_) (fun c2=>?_)
   ·walk_at "w2"
    refine P8 f2 (by with_unfolding_all rfl) ?_
    rw [List.set_set]
    refine tail _ _ ⟨s,p + 1,cell,r,xs,List.getElem?_set_self hlt,by rw [List.getElem?_set_ne (Nat.ne_of_gt hsd)];exact e2,hsd,by omega,?_,hr,hr2⟩ (Gr.set d g _)
    have:(10:Int) ^ (18:Int).toNat <= cell:=c2
    have h10:(0:Int) <= 10 ^ (18:Int).toNat:=by decide
    omega
   ·walk_at "w2"
    refine ae1 (ab0 (by decide) (by decide)) ?_
    walk_at "w2"
    refine U4 (by decide) ?_
    walk_at "w2"
    refine ae1 (ab0 (by decide) (by decide)) ?_
    walk_at "w2"
    refine U4 (by decide) ?_
    walk_at "w2"
    refine P8 f2 (by with_unfolding_all rfl) ?_
    rw [List.set_set]
    exact tail _ _ ⟨s,p + 1,0,_,xs,List.getElem?_set_self hlt,by rw [List.getElem?_set_ne (Nat.ne_of_gt hsd)];exact e2,hsd,by omega,by decide,Int.emod_nonneg _ (by decide),Int.emod_lt_of_pos _ (by decide)⟩ (Gr.set d g _)
  ·walk_at "w1"
   exact tail _ _ D0 (Gr.refl _ _)
 ·walk_at "w1"
  walk_at "w1"
  exact tail _ _ D0 (Gr.refl _ _)
theorem aR3 {T:Nat->Option MDef} (hT:T 4=some E8) (hT5:T 5=some X8) {k d:Nat} {g:G} {Q:KD} {E:KX} (D0:k8 g d)
  (h:∀ r g',k8 g' d->Gr d g g'->Q (.int r) g'):b9 T (k + 2) 5 [.ref d] g Q E:=by
 refine call_of hT5 rfl ?_
 dsimp [X8,d8,List.replicate]
 walk_at "w2"
 refine n8 hT D0 (by decide) (by decide) fun r1 g1 _ _ D1 G1=>?_
 walk_at "w2"
 refine n8 hT D1 (by decide) (by decide) fun r2 g2 _ _ D2 G2=>?_
 walk_at "w2"
 have G12:=G1.trans G2
 have last:∀ (x:Int),wpS (b9 T (k + 1)) (ac0 (ac0 X8.body)) ⟨fun _ g'=>Q .non g',Q,fun _ _=>False,fun _ _=>False⟩ [some (.ref d),some (.int x)] g2 E:=fun x=>by
  dsimp [X8,ac0]
  walk_at "w2"
  refine n8 hT D2 (by decide) (by decide) fun r3 g3 _ _ D3 G3=>?_
  walk_at "w2"
  refine if2 (fun c=>?_) (fun c=>?_)
  ·walk_at "w2"
   exact h _ _ D3 (G12.trans G3)
  ·walk_at "w2"
   exact h _ _ D3 (G12.trans G3)
 refine if2 (fun c=>?_) (fun c=>?_)
 ·refine aK8 ?_
  refine a23 ?_
  refine am2 ?_
  walk_at "w1"
  refine am2 ?_
  walk_at "w1"
  walk_at "w1"
  refine as9 (by unfold ai4;decide) ?_
  walk_at "w1"
  exact last _
 ·exact last _
noncomputable def P1:MDef:=⟨1,1,(.seq (.ret (.and_ (.prim .isin (.cons (.var 0) (.cons (.lit (.ty "int")) .nil))) (.not_ (.prim .isin (.cons (.var 0) (.cons (.lit (.ty "bool")) .nil)))))) .pass)⟩
noncomputable def E0:MDef:=⟨3,3,(.seq (.ret (.and_ (.call 38 (.cons (.var 0) .nil)) (.chain .LtE .LtE (.var 1) (.var 0) (.var 2)))) .pass)⟩
structure NF (T:Nat->Option MDef):Prop where
 nf:T 1=some E0
 is:T 38=some P1
noncomputable def ac4:MDef:=⟨1,1,(.seq (.ret (.prim .lst (.cons (.prim .list (.cons (.prim (.slc false true) (.cons (.var 0) (.cons (.lit (.int 63)) .nil))) .nil)) (.cons (.lit (.int 0)) (.cons (.lit (.int 0)) (.cons (.lit (.int 29)) .nil)))))) .pass)⟩
noncomputable def X6:MDef:=⟨1,1,(.seq (.ret (.and_ (.prim .isin (.cons (.var 0) (.cons (.lit (.ty "int")) .nil))) (.not_ (.prim .isin (.cons (.var 0) (.cons (.lit (.ty "bool")) .nil)))))) .pass)⟩
noncomputable def u4:MDef:=⟨2,2,(.seq (.ifs (.tst (.prim (.cmp .Is) (.cons (.var 1) (.cons (.lit .non) .nil)))) (.seq (.ret (.prim (.cmp .Is) (.cons (.var 0) (.cons (.lit .non) .nil)))) .pass) .pass) (.seq (.ifs (.tst (.prim .isin (.cons (.var 1) (.cons (.lit (.ty "bool")) .nil)))) (.seq (.ret (.and_ (.prim .isin (.cons (.var 0) (.cons (.lit (.ty "bool")) .nil))) (.prim (.cmp .Eq) (.cons (.var 0) (.cons (.var 1) .nil))))) .pass) .pass) (.seq (.ifs (.tst (.prim .isin (.cons (.var 1) (.cons (.lit (.ty "int")) .nil)))) (.seq (.ret (.and_ (.call 6 (.cons (.var 0) .nil)) (.prim (.cmp .Eq) (.cons (.var 0) (.cons (.var 1) .nil))))) .pass) .pass) (.seq (.ifs (.tst (.prim .isin (.cons (.var 1) (.cons (.lit (.ty "str")) .nil)))) (.seq (.ret (.and_ (.prim .isin (.cons (.var 0) (.cons (.lit (.ty "str")) .nil))) (.prim (.cmp .Eq) (.cons (.var 0) (.cons (.var 1) .nil))))) .pass) .pass) (.seq (.ifs (.or_ (.tst (.prim (.cmp .NotEq) (.cons (.prim .isin (.cons (.var 1) (.cons (.lit (.ty "tuple")) .nil))) (.cons (.prim .isin (.cons (.var 0) (.cons (.lit (.ty "tuple")) .nil))) .nil)))) (.tst (.prim (.cmp .NotEq) (.cons (.prim .isin (.cons (.var 1) (.cons (.lit (.ty "list")) .nil))) (.cons (.prim .isin (.cons (.var 0) (.cons (.lit (.ty "list")) .nil))) .nil))))) (.seq (.ret (.lit (.bl false))) .pass) .pass) (.seq (.ifs (.tst (.prim (.cmp .NotEq) (.cons (.prim .len (.cons (.var 0) .nil)) (.cons (.prim .len (.cons (.var 1) .nil)) .nil)))) (.seq (.ret (.lit (.bl false))) .pass) .pass) (.seq (.ret (.prim .all (.cons (.comp [1,0] 4 (.one 3) (.itR1 (.prim .len (.cons (.var 1) .nil))) .no (.call 7 (.cons (.prim .ix (.cons (.var 1) (.cons (.var 3) .nil))) (.cons (.prim .ix (.cons (.var 0) (.cons (.var 3) .nil))) .nil)))) .nil))) .pass)))))))⟩
theorem U2 {g:G} {n:Nat}:∀ ms:List Int,(ms.map D.int).mapM (rd g n)=some (ms.map PyData.int)
 | []=>rfl
 | m :: r=>by
  rw [List.map_cons,List.mapM_cons,U2 r]
  cases n <;> rfl
theorem lay_ints:∀ ms:List Int,PyData.canLayAll0 (ms.map PyData.int)=true
 | []=>by simp [PyData.canLayAll0]
 | m :: r=>by simp [PyData.canLayAll0,PyData.canLay0,lay_ints r]
theorem af2:∀ ms ns:List Int,PyData.eqvAll (ms.map PyData.int) (ns.map PyData.int)=decide (ms=ns)
 | [],[]=>by simp [PyData.eqvAll]
 | [],_ :: _=>by simp [PyData.eqvAll]
 | _ :: _,[]=>by simp [PyData.eqvAll]
 | m :: r,n :: q=>by
  simp only [List.map_cons,PyData.eqvAll,PyData.eqv,af2 r q]
  by_cases h:m=n
  ·subst h;simp
  ·simp [h]
theorem aR4 {g:G} {a b:Nat} {ms ns:List Int} {k:Bool->Prop} (ha:i4 g a=some (ms.map .int)) (hb:i4 g b=some (ns.map .int)) (h:k (decide (ms=ns))):eqP g (.ref a) (.ref b) k:=by
 refine ⟨_,.inr (.inr (.inr ⟨.list (ms.map .int),.list (ns.map .int),?_,?_,?_,?_,rfl⟩)),?_⟩
 ·simp only [rd];rw [ha];dsimp only;rw [U2];rfl
 ·simp only [rd];rw [hb];dsimp only;rw [U2];rfl
 ·simp [PyData.canLay0,lay_ints]
 ·simp [PyData.canLay0,lay_ints]
 ·simp only [PyData.eqv,af2];exact h
section
variable {T:Nat->Option MDef} {k d:Nat} {g:G} {Q:KD} {E:KX}
theorem ax4 (h1:NF T) {i:Int} (h:Q (.bl true) g):b9 T (k + 1) 38 [.int i] g Q E:=by
 refine call_of h1.is rfl ?_
 dsimp [P1,d8,List.replicate]
 walk_at "w2"
 refine isi (c:="int") (b:=true) (by decide) rfl ?_
 walk_at "w2"
 refine isi (c:="bool") (b:=false) (by decide) rfl ?_
 walk_at "w2"
 exact h
theorem A5 (h1:NF T) {i l m:Int} (h:Q (.bl (decide (l <= i) && decide (i <= m))) g):b9 T (k + 2) 1 [.int i,.int l,.int m] g Q E:=by
 refine call_of h1.nf rfl ?_
 dsimp [E0,d8,List.replicate]
 walk_at "w2"
 refine ax4 h1 ?_
 walk_at "w2"
 refine if2 (fun c=>?_) (fun c=>?_)
 ·rw [decide_eq_true c] at h
  walk_at "w2"
  exact h
 ·rw [decide_eq_false c] at h
  exact h
theorem bd9 (h3:T 3=some ac4) {a:Nat} {ns:List Int} (hg:g[a]?=some (.fro (ns.map .int))) (h:∀ d g',k8 g' d->g.length <= d->(∀ i,i < g.length->g'[i]?=g[i]?)->Q (.ref d) g'):b9 T (k + 1) 3 [.ref a] g Q E:=by
 refine call_of h3 rfl ?_
 dsimp [ac4,d8,List.replicate]
 walk_at "w2"
 refine bk8 (aQ1 hg) ?_
 walk_at "w2"
 refine as6 (l:=cut (ns.map D.int) none (some 63)) (a8 (by simp)) ?_
 walk_at "w2"
 have ec:cut (ns.map D.int) none (some 63)=(cut ns none (some 63)).map D.int:=by
  unfold cut
  simp [List.map_take,List.map_drop]
 refine h _ _ ⟨g.length + 1,0,0,29,cut ns none (some 63),?_,?_,?_,by decide,by decide,by decide,by decide⟩ (by simp) (fun i hi=>?_)
 ·simp
 ·rw [<- ec];simp
 ·simp
 ·simp [List.getElem?_append,hi,Nat.lt_of_lt_of_le hi (by omega:g.length <= g.length + 1),Nat.lt_of_lt_of_le hi (by omega:g.length <= g.length + 1 + 1)]
end
theorem Y9 {α:Type} {l:List α} {r:Int} (h0:0 <= r) (h1:r < l.length):∃ v,atI l r=some v/\v ∈ l:=by
 have hi:r.toNat < l.length:=by omega
 refine ⟨l[r.toNat],?_,List.getElem_mem hi⟩
 have:=S1 (xs:=l) (j:=r.toNat) (v:=l[r.toNat]) (List.getElem?_eq_getElem hi)
 rwa [show ((r.toNat:Nat):Int)=r by omega] at this
section
variable {T:Nat->Option MDef} {k d:Nat} {g:G} {Q:KD} {E:KX}
theorem aD4 (h7:T 7=some u4) {a b:Bool} (h:Q (.bl (a == b)) g):b9 T (k + 1) 7 [.bl a,.bl b] g Q E:=by
 refine call_of h7 rfl ?_
 dsimp [u4,d8,List.replicate]
 walk_at "w2"
 walk_at "w2"
 refine isi (c:="bool") (b:=true) (by decide) rfl ?_
 walk_at "w2"
 refine isi (c:="bool") (b:=true) (by decide) rfl ?_
 walk_at "w2"
 exact h
end
section
variable {T:Nat->Option MDef} {k d:Nat} {g:G} {Q:KD} {E:KX}
end
theorem k8.av0 {g:G} {d x:Nat} {o:O} (h:k8 g d) (hx:d < x):k8 (g.set x o) d:=by
 obtain ⟨s,p,b,r,xs,e1,e2,hs,q⟩:=h.ex
 exact ⟨s,p,b,r,xs,by rw [List.getElem?_set_ne (by omega)];exact e1,by rw [List.getElem?_set_ne (by omega)];exact e2,hs,q⟩
theorem i5 {g:G} {o:O}:(g ++ [o])[g.length]?=some o:=by simp
theorem get_set {g:G} {i:Nat} {o o':O} (h:g[i]?=some o):(g.set i o')[i]?=some o':=List.getElem?_set_self (B2 h)
theorem b8 {g:G} {i j:Nat} {o o':O} (h:g[i]?=some o) (hn:j ≠ i):(g.set j o')[i]?=some o:=by rw [List.getElem?_set_ne hn];exact h
section
variable {T:Nat->Option MDef} {k d:Nat} {g:G} {Q:KD} {E:KX}
end
section
variable {T:Nat->Option MDef} {k d:Nat} {g:G} {Q:KD} {E:KX}
end
section
variable {T:Nat->Option MDef} {k d:Nat} {g:G} {Q:KD} {E:KX}
end
section
variable {T:Nat->Option MDef} {k d:Nat} {g:G} {Q:KD} {E:KX}
end
section
variable {T:Nat->Option MDef} {k d:Nat} {g:G} {Q:KD} {E:KX}
end
section
variable {T:Nat->Option MDef} {k d:Nat} {g:G} {Q:KD} {E:KX}
end
noncomputable def D5:MDef:=⟨1,1,(.seq (.ifs (.tst (.prim (.cmp .NotIn) (.cons (.var 0) (.cons (.lit (.tup [(.str "lower"),(.str "upper")])) .nil)))) (.seq (.raise "BadSide" (.cons (.lit (.str "a side is lower or upper")) .nil)) .pass) .pass) .pass)⟩
structure Ex (g g':G):Prop where
 len:g.length <= g'.length
 old:∀ i,i < g.length->g'[i]?=g[i]?
theorem Ex.refl (g:G):Ex g g:=⟨Nat.le_refl _,fun _ _=>rfl⟩
theorem Ex.trans {g g1 g2:G} (a:Ex g g1) (b:Ex g1 g2):Ex g g2:=⟨Nat.le_trans a.len b.len,fun i h=>(b.old i (Nat.lt_of_lt_of_le h a.len)).trans (a.old i h)⟩
theorem Ex.snoc (g:G) (o:O):Ex g (g ++ [o]):=⟨by simp,fun i h=>List.getElem?_append_left h⟩
theorem Ex.at {g g':G} (h:Ex g g') {i:Nat} {o:O} (e:g[i]?=some o):g'[i]?=some o:=(h.old i (B2 e)).trans e
theorem Ex.gr {g g':G} (h:Ex g g') (d:Nat):Gr d g g':=⟨h.len,fun i _ h2=>h.old i h2⟩
theorem Ex.draw {g g':G} {d:Nat} (h:Ex g g') (D0:k8 g d):k8 g' d:=by
 obtain ⟨s,p,b,r,xs,e1,e2,q⟩:=D0.ex
 exact ⟨s,p,b,r,xs,h.at e1,h.at e2,q⟩
inductive u5 (g:G):Nat->D->D->Prop
 | non {n:Nat}:u5 g n .non .non
 | bl {n:Nat} (b:Bool):u5 g n (.bl b) (.bl b)
 | int {n:Nat} (i:Int):u5 g n (.int i) (.int i)
 | str {n:Nat} (x:Str):u5 g n (.str x) (.str x)
 | tup {n:Nat} {l m:List D} (hl:l.length=m.length) (h:∀ (i:Nat) x y,l[i]?=some x->m[i]?=some y->u5 g n x y) (hz:m.length <= 1000):u5 g (n + 1) (.tup l) (.tup m)
 | lst {n a b:Nat} {l m:List D} (ha:g[a]?=some (.lst l)) (hb:g[b]?=some (.lst m)) (hl:l.length=m.length) (h:∀ (i:Nat) x y,l[i]?=some x->m[i]?=some y->u5 g n x y) (hz:m.length <= 1000):u5 g (n + 1) (.ref a) (.ref b)
theorem u5.ex {g g':G} (e:Ex g g') {n:Nat} {x y:D} (h:u5 g n x y):u5 g' n x y:=by
 induction h with
 | non=>exact .non
 | bl b=>exact .bl b
 | int i=>exact .int i
 | str x=>exact .str x
 | tup hl h hz ih=>exact .tup hl ih hz
 | lst ha hb hl h hz ih=>exact .lst (e.at ha) (e.at hb) hl ih hz
section
variable {T:Nat->Option MDef} {k d:Nat} {g:G} {Q:KD} {E:KX}
theorem aO4 (h6:T 6=some X6) {i:Int} (h:Q (.bl true) g):b9 T (k + 1) 6 [.int i] g Q E:=by
 refine call_of h6 rfl ?_
 dsimp [X6,d8,List.replicate]
 walk_at "w5"
 refine isi (c:="int") (b:=true) (by decide) rfl ?_
 walk_at "w5"
 refine isi (c:="bool") (b:=false) (by decide) rfl ?_
 walk_at "w5"
 exact h
noncomputable def aD5:MS:=match u4.body with
 | .seq _ (.seq _ (.seq _ (.seq _ (.seq _ b))))=>b
 | x=>x
theorem t7 (h6:T 6=some X6) (h7:T 7=some u4):∀ (n:Nat) {k:Nat} {g:G} {x y:D} {Q:KD} {E:KX},u5 g n x y->(∀ g',Ex g g'->Q (.bl true) g')->b9 T (k + n + 2) 7 [x,y] g Q E:=by
 have seqs:∀ (n:Nat),(∀ {k:Nat} {g:G} {x y:D} {Q:KD} {E:KX},u5 g n x y->(∀ g',Ex g g'->Q (.bl true) g')->b9 T (k + n + 2) 7 [x,y] g Q E) ->
   ∀ {k:Nat} {g:G} {x y:D} {l m:List D} {Q:KD} {E:KX},(∀ g',Ex g g'->B1 g' x=some l)->(∀ g',Ex g g'->B1 g' y=some m)->l.length=m.length->m.length <= 1000->(∀ (i:Nat) x y,l[i]?=some x->m[i]?=some y->u5 g n x y)->(∀ g',Ex g g'->Q (.bl true) g') ->
   wpS (b9 T (k + n + 2)) aD5 ⟨fun _ g'=>Q .non g',Q,fun _ _=>False,fun _ _=>False⟩ [some x,some y] g E:=by
  intro n ih k g x y l m Q E hx hy hl hz hs hQ
  have len:∀ (z:D) (l:List D) (g':G) (Q':KD),B1 g' z=some l->Q' (.int l.length) g'->prP .len [z] g' Q':=fun z l g' Q' e q=>⟨_,_,⟨rfl,.inl ⟨z,l,rfl,e,rfl⟩⟩,q⟩
  dsimp [aD5,u4]
  refine a24 (a26 (a21 (am2 (aE6 (w_var rfl (len _ _ _ _ (hx g (Ex.refl g)) ?_))))))
  refine aE6 (w_var rfl (len _ _ _ _ (hy g (Ex.refl g)) ?_))
  refine a84 ?_
  rw [hl,decide_eq_true rfl]
  walk_at "w5"
  refine S2 (g0 T _) (bs5 (g0 T _) ?_)
  refine aE6 (w_var rfl (len _ _ _ _ (hy g (Ex.refl g)) ?_))
  refine ⟨_,rfl,by omega,by omega,j0 0 m.length,fun i ys σ g'=>∃ z w,ys=List.replicate i (.bl true)/\σ=[some y,some x,z,w]/\Ex g g',by rw [w6];exact hz,fun i ys σ g' p=>⟨aa7,?_⟩,⟨none,none,rfl,rfl,Ex.refl g⟩,fun i z ys σ g' hz p=>?_,fun ys σ g' p=>?_⟩
  ·obtain ⟨z,w,rfl,_⟩:=p
   simp
  ·obtain ⟨z,w,rfl,rfl,e⟩:=p
   obtain ⟨hi,rfl⟩:=R0 hz
   have h1:l[i]?=some l[i]:=List.getElem?_eq_getElem (by omega)
   have h2:m[i]?=some m[i]:=List.getElem?_eq_getElem hi
   have a1:atI l (0 + (i:Int))=some l[i]:=by rw [Int.zero_add];exact S1 h1
   have a2:atI m (0 + (i:Int))=some m[i]:=by rw [Int.zero_add];exact S1 h2
   show wpT _ _ _ _ _ _
   refine a22 (ift (aK9 (at7 (am2 (w_var rfl (w_var rfl ⟨_,_,⟨rfl,.inl ⟨_,l,_,rfl,hx g' e,a1⟩⟩,?_⟩))))))
   refine at7 (am2 (w_var rfl (w_var rfl ⟨_,_,⟨rfl,.inl ⟨_,m,_,rfl,hy g' e,a2⟩⟩,?_⟩)))
   refine a25 (ih ((hs i _ _ h1 h2).ex e) fun g2 e2=>?_)
   exact ⟨_,_,by rw [List.replicate_succ'],rfl,e.trans e2⟩
  ·obtain ⟨z,w,rfl,rfl,e⟩:=p
   refine a87 (a8 i5) (v:=true) ?_ (hQ _ (e.trans (Ex.snoc _ _)))
   have:List.replicate (j0 0 m.length).length (D.bl true)=(List.replicate (j0 0 m.length).length true).map D.bl:=by simp
   rw [this,aS7]
   simp
 intro n
 induction n with
 | zero =>
  intro k g x y Q E h hQ
  have h0:=hQ g (Ex.refl g)
  cases h with
  | non =>
   refine call_of h7 rfl ?_
   dsimp [u4,d8,List.replicate]
   walk_at "w5"
   exact h0
  | bl b=>exact aD4 h7 (by simpa using h0)
  | int i =>
   refine call_of h7 rfl ?_
   dsimp [u4,d8,List.replicate]
   walk_at "w5"
   try show wpS _ _ _ _ _ _
   walk_at "w5"
   refine isi (c:="bool") (b:=false) (by decide) rfl ?_
   walk_at "w5"
   refine isi (c:="int") (b:=true) (by decide) rfl ?_
   walk_at "w5"
   refine aO4 h6 ?_
   walk_at "w5"
   simpa using h0
  | str x =>
   refine call_of h7 rfl ?_
   dsimp [u4,d8,List.replicate]
   walk_at "w5"
   try show wpS _ _ _ _ _ _
   walk_at "w5"
   refine isi (c:="bool") (b:=false) (by decide) rfl ?_
   walk_at "w5"
   refine isi (c:="int") (b:=false) (by decide) rfl ?_
   walk_at "w5"
   refine isi (c:="str") (b:=true) (by decide) rfl ?_
   walk_at "w5"
   refine isi (c:="str") (b:=true) (by decide) rfl ?_
   walk_at "w5"
   simpa using h0
 | succ n ih =>
  intro k g x y Q E h hQ
  have h0:=hQ g (Ex.refl g)
  cases h with
  | non =>
   refine call_of h7 rfl ?_
   dsimp [u4,d8,List.replicate]
   walk_at "w5"
   exact h0
  | bl b=>exact aD4 h7 (by simpa using h0)
  | int i =>
   refine call_of h7 rfl ?_
   dsimp [u4,d8,List.replicate]
   walk_at "w5"
   try show wpS _ _ _ _ _ _
   walk_at "w5"
   refine isi (c:="bool") (b:=false) (by decide) rfl ?_
   walk_at "w5"
   refine isi (c:="int") (b:=true) (by decide) rfl ?_
   walk_at "w5"
   refine aO4 h6 ?_
   walk_at "w5"
   simpa using h0
  | str x =>
   refine call_of h7 rfl ?_
   dsimp [u4,d8,List.replicate]
   walk_at "w5"
   try show wpS _ _ _ _ _ _
   walk_at "w5"
   refine isi (c:="bool") (b:=false) (by decide) rfl ?_
   walk_at "w5"
   refine isi (c:="int") (b:=false) (by decide) rfl ?_
   walk_at "w5"
   refine isi (c:="str") (b:=true) (by decide) rfl ?_
   walk_at "w5"
   refine isi (c:="str") (b:=true) (by decide) rfl ?_
   walk_at "w5"
   simpa using h0
  | @tup _ l m hl hs hz =>
   refine call_of h7 rfl ?_
   have body:=seqs n ih (k:=k) (x:=.tup l) (y:=.tup m) (E:=E) (fun _ _=>rfl) (fun _ _=>rfl) hl hz hs hQ
   dsimp [u4,d8,List.replicate]
   walk_at "w5"
   try show wpS _ _ _ _ _ _
   walk_at "w5"
   refine isi (c:="bool") (b:=false) (by decide) rfl ?_
   walk_at "w5"
   refine isi (c:="int") (b:=false) (by decide) rfl ?_
   walk_at "w5"
   refine isi (c:="str") (b:=false) (by decide) rfl ?_
   walk_at "w5"
   refine isi (c:="tuple") (b:=true) (by decide) rfl ?_
   walk_at "w5"
   refine isi (c:="tuple") (b:=true) (by decide) rfl ?_
   walk_at "w5"
   refine ifF rfl ?_
   walk_at "w5"
   refine isi (c:="list") (b:=false) (by decide) rfl ?_
   walk_at "w5"
   refine isi (c:="list") (b:=false) (by decide) rfl ?_
   walk_at "w5"
   refine ifF rfl (B6 ?_)
   exact body
  | @lst _ a b l m ha hb hl hs hz =>
   refine call_of h7 rfl ?_
   have body:=seqs n ih (k:=k) (x:=.ref a) (y:=.ref b) (E:=E) (fun g' e=>a8 (e.at ha)) (fun g' e=>a8 (e.at hb)) hl hz hs hQ
   have ta:∀ c,ag7 g (.ref a) c=some (c == "list"):=fun c=>by simp only [ag7,ha]
   have tb:∀ c,ag7 g (.ref b) c=some (c == "list"):=fun c=>by simp only [ag7,hb]
   dsimp [u4,d8,List.replicate]
   walk_at "w5"
   try show wpS _ _ _ _ _ _
   walk_at "w5"
   refine isi (c:="bool") (b:=false) (by decide) (tb _) ?_
   walk_at "w5"
   refine isi (c:="int") (b:=false) (by decide) (tb _) ?_
   walk_at "w5"
   refine isi (c:="str") (b:=false) (by decide) (tb _) ?_
   walk_at "w5"
   refine isi (c:="tuple") (b:=false) (by decide) (tb _) ?_
   walk_at "w5"
   refine isi (c:="tuple") (b:=false) (by decide) (ta _) ?_
   walk_at "w5"
   refine ifF rfl ?_
   walk_at "w5"
   refine isi (c:="list") (b:=true) (by decide) (tb _) ?_
   walk_at "w5"
   refine isi (c:="list") (b:=true) (by decide) (ta _) ?_
   walk_at "w5"
   refine ifF rfl (B6 ?_)
   exact body
end
section
variable {T:Nat->Option MDef} {k d:Nat} {g:G} {Q:KD} {E:KX}
theorem aZ3 {g:G} {x:Str} {kb:Bool->Prop} (hx:PyData.strOk x=true) (h:kb (decide (x="lower") || decide (x="upper"))):inP g (.str x) (.tup [.str "lower",.str "upper"]) kb:=by
 refine ⟨_,.inr ⟨_,[.str "lower",.str "upper"],.str x,rfl,rfl,rfl,by simp only [PyData.canLayAll0,PyData.canLay0,Bool.and_true];decide +kernel,by simp only [PyData.canLay0];exact hx,rfl⟩,?_⟩
 have e:∀ y:Str,PyData.eqv (.str y) (.str x)=decide (x=y):=fun y=>by
  simp only [PyData.eqv]
  rw [Bool.eq_iff_iff,beq_iff_eq,decide_eq_true_iff]
  exact eq_comm
 simp only [List.any_cons,List.any_nil,Bool.or_false,e]
 exact h
theorem as2 (h40:T 40=some D5) {x:Str} (ho:PyData.strOk x=true) (h1:x="lower" \/ x="upper"->Q .non g) (h3:x ≠ "lower"->x ≠ "upper"->E ⟨"BadSide"⟩ g):b9 T (k + 1) 40 [.str x] g Q E:=by
 refine call_of h40 rfl ?_
 dsimp [D5,d8,List.replicate]
 walk_at "w5"
 refine P9 (aZ3 ho ?_)
 walk_at "w5"
 by_cases e:x="lower" \/ x="upper"
 ·refine ifF (by rw [Bool.not_eq_false',Bool.or_eq_true,decide_eq_true_iff,decide_eq_true_iff];exact e) ?_
  walk_at "w5"
  exact h1 e
 ·refine ifT (by rw [Bool.not_eq_true',Bool.or_eq_false_iff,decide_eq_false_iff_not,decide_eq_false_iff_not];exact not_or.mp e) ?_
  walk_at "w5"
  exact h3 (fun z=>e (.inl z)) (fun z=>e (.inr z))
end
noncomputable def ac3:MDef:=⟨1,1,(.seq (.ifs (.tst (.prim (.cmp .Eq) (.cons (.call 4 (.cons (.var 0) (.cons (.lit (.int 14)) .nil))) (.cons (.lit (.int 9)) .nil)))) (.seq (.ret (.prim .ix (.cons (.prim .lst (.cons (.lit (.str "")) (.cons (.lit (.str "Lower")) (.cons (.lit (.str "both")) (.cons (.lit (.str "upper ")) .nil))))) (.cons (.call 4 (.cons (.var 0) (.cons (.lit (.int 4)) .nil))) .nil)))) .pass) .pass) (.seq (.ret (.prim .ix (.cons (.prim .lst (.cons (.lit (.str "lower")) (.cons (.lit (.str "upper")) .nil))) (.cons (.call 4 (.cons (.var 0) (.cons (.lit (.int 2)) .nil))) .nil)))) .pass))⟩
section
variable {T:Nat->Option MDef} {k d:Nat} {g:G} {Q:KD} {E:KX}
theorem aB9 (h4:T 4=some E8) (h29:T 29=some ac3) (D0:k8 g d) (h:∀ x g',PyData.strOk x=true->k8 g' d->Gr d g g'->Q (.str x) g'):b9 T (k + 2) 29 [.ref d] g Q E:=by
 refine call_of h29 rfl ?_
 dsimp [ac3,d8,List.replicate]
 walk_at "w5"
 refine n8 h4 D0 (by decide) (by decide) fun r g1 _ _ D1 G1=>?_
 walk_at "w5"
 refine if2 (fun c=>?_) (fun c=>?_)
 ·walk_at "w5"
  refine n8 h4 (D1.snoc _) (by decide) (by decide) fun r g2 r0 r1 D2 G2=>?_
  have e2:=G2.at (i:=g1.length) (by have:=D1.lt;omega) (o:=.lst (([("":Str),("Lower":Str),("both":Str),("upper ":Str)]:List Str).map D.str)) (by simp)
  obtain ⟨v,hv,hm⟩:=Y9 (l:=([("":Str),("Lower":Str),("both":Str),("upper ":Str)]:List Str).map D.str) r0 (by simpa using r1)
  obtain ⟨x,hx,rfl⟩:=List.mem_map.mp hm
  refine L6 (a8 e2) hv ?_
  walk_at "w5"
  refine h x g2 ?_ D2 (G1.trans ((Gr.snoc _ _ _).trans G2))
  simp only [List.mem_cons,List.mem_nil_iff,or_false] at hx
  rcases hx with rfl | rfl | rfl | rfl <;> decide +kernel
 ·walk_at "w5"
  refine n8 h4 (D1.snoc _) (by decide) (by decide) fun r g2 r0 r1 D2 G2=>?_
  have e2:=G2.at (i:=g1.length) (by have:=D1.lt;omega) (o:=.lst (([("lower":Str),("upper":Str)]:List Str).map D.str)) (by simp)
  obtain ⟨v,hv,hm⟩:=Y9 (l:=([("lower":Str),("upper":Str)]:List Str).map D.str) r0 (by simpa using r1)
  obtain ⟨x,hx,rfl⟩:=List.mem_map.mp hm
  refine L6 (a8 e2) hv ?_
  walk_at "w5"
  refine h x g2 ?_ D2 (G1.trans ((Gr.snoc _ _ _).trans G2))
  simp only [List.mem_cons,List.mem_nil_iff,or_false] at hx
  rcases hx with rfl | rfl <;> decide +kernel
end
theorem aq7 {g:G} {a:Nat} {x:Str} {kb:Bool->Prop} (ha:g[a]?=some (.lst [.str "lower",.str "upper"])) (hx:PyData.strOk x=true) (h:kb (decide (x="lower") || decide (x="upper"))):inP g (.str x) (.ref a) kb:=by
 refine ⟨_,.inr ⟨_,[.str "lower",.str "upper"],.str x,a8 ha,rfl,rfl,by simp only [PyData.canLayAll0,PyData.canLay0,Bool.and_true];decide +kernel,by simp only [PyData.canLay0];exact hx,rfl⟩,?_⟩
 have e:∀ y:Str,PyData.eqv (.str y) (.str x)=decide (x=y):=fun y=>by
  simp only [PyData.eqv]
  rw [Bool.eq_iff_iff,beq_iff_eq,decide_eq_true_iff]
  exact eq_comm
 simp only [List.any_cons,List.any_nil,Bool.or_false,e]
 exact h
noncomputable def C3:MDef:=⟨1,1,(.seq (.ifs (.not_ (.tst (.call 1 (.cons (.var 0) (.cons (.lit (.int 1)) (.cons (.lit (.int 9)) .nil)))))) (.seq (.raise "BadAnvils" (.cons (.lit (.str "there are from one to nine anvils")) .nil)) .pass) .pass) .pass)⟩
noncomputable def P2:MDef:=⟨2,2,(.seq (.ifs (.not_ (.tst (.call 1 (.cons (.var 1) (.cons (.lit (.int 1)) (.cons (.prim .len (.cons (.var 0) .nil)) .nil)))))) (.seq (.raise "NoDie" (.cons (.lit (.str "no such die was cut")) .nil)) .pass) .pass) .pass)⟩
noncomputable def ac5:MDef:=⟨2,2,(.seq (.ifs (.tst (.prim (.cmp .Eq) (.cons (.call 4 (.cons (.var 0) (.cons (.lit (.int 12)) .nil))) (.cons (.lit (.int 7)) .nil)))) (.seq (.ret (.call 5 (.cons (.var 0) .nil))) .pass) .pass) (.seq (.ret (.prim (.bin .Sub) (.cons (.call 4 (.cons (.var 0) (.cons (.prim (.bin .Add) (.cons (.var 1) (.cons (.lit (.int 4)) .nil))) .nil))) (.cons (.lit (.int 2)) .nil)))) .pass))⟩
noncomputable def V7:MDef:=⟨1,1,(.seq (.ret (.dct (.cons (.lit (.str "seats")) (.cons (.prim (.bin .Mult) (.cons (.prim .lst (.cons (.lit .non) .nil)) (.cons (.var 0) .nil))) (.cons (.lit (.str "lower")) (.cons (.prim .lst .nil) (.cons (.lit (.str "upper")) (.cons (.prim .lst .nil) (.cons (.lit (.str "gone")) (.cons (.prim .lst .nil) (.cons (.lit (.str "year")) (.cons (.lit (.int 0)) (.cons (.lit (.str "coins")) (.cons (.prim .lst .nil) .nil)))))))))))))) .pass)⟩
noncomputable def ac8:MDef:=⟨2,2,(.seq (.ifs (.tst (.prim (.cmp .NotIn) (.cons (.var 1) (.cons (.prim .lst (.cons (.lit (.str "lower")) (.cons (.lit (.str "upper")) .nil))) .nil)))) (.seq (.ret (.prim .tup (.cons (.lit (.str "BadSide")) (.cons (.lit .non) .nil)))) .pass) .pass) (.seq (.ifs (.tst (.prim (.cmp .Gt) (.cons (.prim .len (.cons (.prim .ix (.cons (.var 0) (.cons (.var 1) .nil))) .nil)) (.cons (.lit (.int 98)) .nil)))) (.seq (.ret (.prim .tup (.cons (.lit (.str "Full")) (.cons (.lit .non) .nil)))) .pass) .pass) (.seq (.expr (.meth .append (.prim .ix (.cons (.var 0) (.cons (.var 1) .nil))) (.cons (.prim .tup .nil) .nil))) (.seq (.ret (.prim .tup (.cons (.lit (.str "")) (.cons (.prim .len (.cons (.prim .ix (.cons (.var 0) (.cons (.var 1) .nil))) .nil)) .nil)))) .pass))))⟩
noncomputable def B3:MDef:=⟨2,5,(.seq (.ifs (.or_ (.not_ (.tst (.call 7 (.cons (.methc "anvils" [("Mint",60)] (.var 0) .nil) (.cons (.prim .ix (.cons (.var 1) (.cons (.lit (.str "seats")) .nil))) .nil))))) (.not_ (.tst (.call 7 (.cons (.methc "year" [("Mint",64)] (.var 0) .nil) (.cons (.prim .ix (.cons (.var 1) (.cons (.lit (.str "year")) .nil))) .nil)))))) (.seq (.ret (.lit (.bl false))) .pass) .pass) (.seq (.for_ (.one 2) (.itE (.prim .lst (.cons (.lit (.str "lower")) (.cons (.lit (.str "upper")) .nil)))) (.seq (.ifs (.not_ (.tst (.call 7 (.cons (.methc "dies" [("Mint",61)] (.var 0) (.cons (.var 2) .nil)) (.cons (.prim .len (.cons (.prim .ix (.cons (.var 1) (.cons (.var 2) .nil))) .nil)) .nil))))) (.seq (.ret (.lit (.bl false))) .pass) .pass) (.seq (.ifs (.not_ (.tst (.prim .all (.cons (.comp [1,0,2] 5 (.one 4) (.itR1 (.prim .len (.cons (.prim .ix (.cons (.var 1) (.cons (.var 2) .nil))) .nil))) .no (.call 7 (.cons (.methc "marks" [("Mint",62)] (.var 1) (.cons (.var 2) (.cons (.prim (.bin .Add) (.cons (.var 4) (.cons (.lit (.int 1)) .nil))) .nil))) (.cons (.prim .ix (.cons (.prim .ix (.cons (.var 0) (.cons (.var 2) .nil))) (.cons (.var 4) .nil))) .nil)))) .nil)))) (.seq (.ret (.lit (.bl false))) .pass) .pass) .pass))) (.seq (.for_ (.one 3) (.itR2 (.lit (.int 1)) (.prim (.bin .Add) (.cons (.prim .len (.cons (.prim .ix (.cons (.var 1) (.cons (.lit (.str "lower")) .nil))) .nil)) (.cons (.lit (.int 1)) .nil)))) (.seq (.set 4 (.ite (.tst (.prim (.cmp .In) (.cons (.var 3) (.cons (.prim .ix (.cons (.var 1) (.cons (.lit (.str "gone")) .nil))) .nil)))) (.lit (.str "gone")) (.ite (.tst (.prim (.cmp .In) (.cons (.var 3) (.cons (.prim .ix (.cons (.var 1) (.cons (.lit (.str "seats")) .nil))) .nil)))) (.lit (.str "fixed")) (.lit (.str "new"))))) (.seq (.ifs (.not_ (.tst (.call 7 (.cons (.methc "state" [("Mint",63)] (.var 0) (.cons (.var 3) .nil)) (.cons (.var 4) .nil))))) (.seq (.ret (.lit (.bl false))) .pass) .pass) .pass))) (.seq (.ifs (.not_ (.tst (.call 7 (.cons (.methc "struck" [("Mint",65)] (.var 0) .nil) (.cons (.prim .len (.cons (.prim .ix (.cons (.var 1) (.cons (.lit (.str "coins")) .nil))) .nil)) .nil))))) (.seq (.ret (.lit (.bl false))) .pass) .pass) (.seq (.ret (.call 7 (.cons (.methc "hoard" [("Mint",67)] (.var 0) (.cons (.prim .lrng1 (.cons (.prim .len (.cons (.prim .ix (.cons (.var 1) (.cons (.lit (.str "coins")) .nil))) .nil)) .nil)) .nil)) (.cons (.prim .ix (.cons (.var 1) (.cons (.lit (.str "coins")) .nil))) .nil)))) .pass)))))⟩
noncomputable def O2:MDef:=⟨2,2,(.seq (.expr (.call 42 (.cons (.var 1) .nil))) (.seq (.setf "bench" ["Mint"] (.var 0) (.prim (.bin .Mult) (.cons (.prim .tup (.cons (.lit .non) .nil)) (.cons (.var 1) .nil)))) (.seq (.setf "laid_off" ["Mint"] (.var 0) (.prim .tup .nil)) (.seq (.setf "lower_wear" ["Mint"] (.var 0) (.prim .tup .nil)) (.seq (.setf "upper_wear" ["Mint"] (.var 0) (.prim .tup .nil)) (.seq (.setf "present" ["Mint"] (.var 0) (.lit (.int 0))) (.seq (.setf "output" ["Mint"] (.var 0) (.prim .tup .nil)) .pass)))))))⟩
noncomputable def E1:MDef:=⟨2,2,(.seq (.expr (.call 40 (.cons (.var 1) .nil))) (.seq (.ifs (.tst (.prim (.cmp .Eq) (.cons (.var 1) (.cons (.lit (.str "lower")) .nil)))) (.seq (.ret (.prim (.fld "lower_wear") (.cons (.var 0) .nil))) .pass) .pass) (.seq (.ret (.prim (.fld "upper_wear") (.cons (.var 0) .nil))) .pass)))⟩
noncomputable def B9:MDef:=⟨3,3,(.seq (.ifs (.tst (.prim (.cmp .Eq) (.cons (.var 1) (.cons (.lit (.str "lower")) .nil)))) (.seq (.setf "lower_wear" ["Mint"] (.var 0) (.var 2)) .pass) (.seq (.setf "upper_wear" ["Mint"] (.var 0) (.var 2)) .pass)) .pass)⟩
noncomputable def S9:MDef:=⟨2,3,(.seq (.set 2 (.methc "wear_of" [("Mint",52)] (.var 0) (.cons (.var 1) .nil))) (.seq (.ifs (.tst (.prim (.cmp .Eq) (.cons (.prim .len (.cons (.var 2) .nil)) (.cons (.lit (.int 99)) .nil)))) (.seq (.raise "Full" (.cons (.lit (.str "no more dies of that side are cut")) .nil)) .pass) .pass) (.seq (.expr (.methc "put_wear" [("Mint",53)] (.var 0) (.cons (.var 1) (.cons (.prim (.bin .Add) (.cons (.var 2) (.cons (.prim .tup (.cons (.prim .tup .nil) .nil)) .nil))) .nil)))) (.seq (.ret (.prim (.bin .Add) (.cons (.prim .len (.cons (.var 2) .nil)) (.cons (.lit (.int 1)) .nil)))) .pass))))⟩
noncomputable def E5:MDef:=⟨1,1,(.seq (.ret (.prim .list (.cons (.prim (.fld "bench") (.cons (.var 0) .nil)) .nil))) .pass)⟩
noncomputable def O8:MDef:=⟨2,2,(.seq (.ret (.prim .len (.cons (.methc "wear_of" [("Mint",52)] (.var 0) (.cons (.var 1) .nil)) .nil))) .pass)⟩
noncomputable def J5:MDef:=⟨3,4,(.seq (.set 3 (.methc "wear_of" [("Mint",52)] (.var 0) (.cons (.var 1) .nil))) (.seq (.expr (.call 43 (.cons (.var 3) (.cons (.var 2) .nil)))) (.seq (.ret (.prim .ix (.cons (.var 3) (.cons (.prim (.bin .Sub) (.cons (.var 2) (.cons (.lit (.int 1)) .nil))) .nil)))) .pass)))⟩
noncomputable def J1:MDef:=⟨2,2,(.seq (.expr (.call 43 (.cons (.prim (.fld "lower_wear") (.cons (.var 0) .nil)) (.cons (.var 1) .nil)))) (.seq (.ifs (.tst (.prim (.cmp .In) (.cons (.var 1) (.cons (.prim (.fld "bench") (.cons (.var 0) .nil)) .nil)))) (.seq (.ret (.lit (.str "fixed"))) .pass) .pass) (.seq (.ifs (.tst (.prim (.cmp .In) (.cons (.var 1) (.cons (.prim (.fld "laid_off") (.cons (.var 0) .nil)) .nil)))) (.seq (.ret (.lit (.str "gone"))) .pass) .pass) (.seq (.ret (.lit (.str "new"))) .pass))))⟩
noncomputable def O0:MDef:=⟨1,1,(.seq (.ret (.prim (.fld "present") (.cons (.var 0) .nil))) .pass)⟩
noncomputable def E2:MDef:=⟨1,1,(.seq (.ret (.prim .len (.cons (.prim (.fld "output") (.cons (.var 0) .nil)) .nil))) .pass)⟩
noncomputable def O9:MDef:=⟨2,2,(.seq (.ifs (.not_ (.tst (.call 1 (.cons (.var 1) (.cons (.lit (.int 0)) (.cons (.prim (.bin .Sub) (.cons (.prim .len (.cons (.prim (.fld "output") (.cons (.var 0) .nil)) .nil)) (.cons (.lit (.int 1)) .nil))) .nil)))))) (.seq (.raise "NoCoin" (.cons (.lit (.str "no coin has that number")) .nil)) .pass) .pass) (.seq (.ret (.prim .ix (.cons (.prim (.fld "output") (.cons (.var 0) .nil)) (.cons (.var 1) .nil)))) .pass))⟩
noncomputable def C9:MDef:=⟨2,2,(.seq (.ret (.comp [0] 3 (.one 2) (.itE (.var 1)) .no (.methc "coin" [("Mint",66)] (.var 0) (.cons (.var 2) .nil)))) .pass)⟩
noncomputable abbrev unw (a:Nat):D:=.tup (List.replicate a (.tup []))
noncomputable def a71 (be la:D) (a b:Nat):O:=.ins "Mint" [("bench",be),("laid_off",la),("lower_wear",unw a),("upper_wear",unw b),("present",.int 0),("output",.tup [])]
noncomputable abbrev a72 (n a b:Nat):O:=a71 (.tup (List.replicate n .non)) (.tup []) a b
theorem aa0 {f:Str} {v:D} {fs:List (Str × D)} {n:Nat} (h:fs.length < n):(v8 f v fs).length < n + 1:=by
 induction fs generalizing n with
 | nil=>simp [v8];omega
 | cons p r ih =>
  obtain ⟨y,z⟩:=p
  simp only [v8]
  split
  ·simp at h ⊢;omega
  ·have:=ih (n:=n - 1) (by simp at h;omega)
   simp at h ⊢;omega
structure TM (T:Nat->Option MDef):Prop where
 nf:NF T
 h40:T 40=some D5
 h42:T 42=some C3
 h43:T 43=some P2
 h51:T 51=some O2
 h52:T 52=some E1
 h53:T 53=some B9
 h54:T 54=some S9
 h60:T 60=some E5
 h61:T 61=some O8
 h62:T 62=some J5
 h63:T 63=some J1
 h64:T 64=some O0
 h65:T 65=some E2
 h66:T 66=some O9
 h67:T 67=some C9
section
variable {T:Nat->Option MDef} {k d:Nat} {g:G} {Q:KD} {E:KX} {m n a b:Nat} {x:Str} {be la:D}
theorem al6 (hT:TM T) {v:Int} (h1:1 <= v/\v <= 9->Q .non g) (h2:¬ (1 <= v/\v <= 9)->E ⟨"BadAnvils"⟩ g):b9 T (k + 3) 42 [.int v] g Q E:=by
 refine call_of hT.h42 rfl ?_
 dsimp [C3,d8,List.replicate]
 walk_at "w5"
 refine A5 hT.nf ?_
 walk_at "w5"
 by_cases hv:1 <= v/\v <= 9
 ·rw [decide_eq_true hv.1,decide_eq_true hv.2]
  walk_at "w5"
  exact h1 hv
 ·have:(decide (1 <= v) && decide (v <= 9))=false:=by
   rw [Bool.and_eq_false_iff,decide_eq_false_iff_not,decide_eq_false_iff_not]
   exact Classical.not_and_iff_not_or_not.mp hv
  rw [this]
  walk_at "w5"
  exact h2 hv
theorem bf6 (hT:TM T) {v:Int} (hm:g[m]?=some (.ins "Mint" [])) (h1:∀ n:Nat,v=n->1 <= n->n <= 9->Q .non (g.set m (a72 n 0 0))) (h2:¬ (1 <= v/\v <= 9)->E ⟨"BadAnvils"⟩ g):b9 T (k + 4) 51 [.ref m,.int v] g Q E:=by
 refine call_of hT.h51 rfl ?_
 dsimp [O2,d8,List.replicate]
 walk_at "w5"
 refine al6 hT (fun hv=>?_) h2
 walk_at "w5"
 refine bt8 (by simp) hv.1 (by omega) (by simp;omega) ?_
 walk_at "w5"
 refine G9 hm (by simp) (by simp) ?_
 walk_at "w5"
 refine G9 (get_set hm) (by simp) (by repeat (first | (simp;done) | refine aa0 ?_)) ?_
 rw [List.set_set]
 walk_at "w5"
 refine G9 (get_set hm) (by simp) (by repeat (first | (simp;done) | refine aa0 ?_)) ?_
 rw [List.set_set]
 walk_at "w5"
 refine G9 (get_set hm) (by simp) (by repeat (first | (simp;done) | refine aa0 ?_)) ?_
 rw [List.set_set]
 walk_at "w5"
 refine G9 (get_set hm) (by simp) (by repeat (first | (simp;done) | refine aa0 ?_)) ?_
 rw [List.set_set]
 walk_at "w5"
 refine G9 (get_set hm) (by simp) (by repeat (first | (simp;done) | refine aa0 ?_)) ?_
 rw [List.set_set]
 walk_at "w5"
 obtain ⟨n,rfl⟩:∃ n:Nat,v=n:=⟨v.toNat,by omega⟩
 have:=h1 n rfl (by omega) (by omega)
 have e:(List.replicate (Int.toNat (n:Int)) [D.non]).flatten=List.replicate n .non:=by
  rw [Int.toNat_natCast,List.flatten_replicate_singleton]
 rw [e]
 exact this
theorem ab1 (hT:TM T) {l:List D} {v:Int} (h1:1 <= v/\v <= l.length->Q .non g) (h2:¬ (1 <= v/\v <= l.length)->E ⟨"NoDie"⟩ g):b9 T (k + 3) 43 [.tup l,.int v] g Q E:=by
 refine call_of hT.h43 rfl ?_
 dsimp [P2,d8,List.replicate]
 walk_at "w5"
 refine A5 hT.nf ?_
 walk_at "w5"
 by_cases hv:1 <= v/\v <= l.length
 ·rw [decide_eq_true hv.1,decide_eq_true hv.2]
  walk_at "w5"
  exact h1 hv
 ·have:(decide (1 <= v) && decide (v <= (l.length:Int)))=false:=by
   rw [Bool.and_eq_false_iff,decide_eq_false_iff_not,decide_eq_false_iff_not]
   exact Classical.not_and_iff_not_or_not.mp hv
  rw [this]
  walk_at "w5"
  exact h2 hv
end
noncomputable def C8:MDef:=⟨3,3,(.seq (.ret (.prim (.bin .Add) (.cons (.prim (.bin .Add) (.cons (.prim (.slc false true) (.cons (.var 0) (.cons (.var 1) .nil))) (.cons (.prim .tup (.cons (.var 2) .nil)) .nil))) (.cons (.prim (.slc true false) (.cons (.var 0) (.cons (.prim (.bin .Add) (.cons (.var 1) (.cons (.lit (.int 1)) .nil))) .nil))) .nil)))) .pass)⟩
noncomputable def S8:MDef:=⟨2,4,(.seq (.set 2 (.methc "state" [("Mint",63)] (.var 0) (.cons (.var 1) .nil))) (.seq (.ifs (.tst (.prim (.cmp .Eq) (.cons (.var 2) (.cons (.lit (.str "fixed")) .nil)))) (.seq (.raise "Fixed" (.cons (.lit (.str "the die is on an anvil")) .nil)) .pass) .pass) (.seq (.ifs (.tst (.prim (.cmp .Eq) (.cons (.var 2) (.cons (.lit (.str "gone")) .nil)))) (.seq (.raise "Gone" (.cons (.lit (.str "the die was laid off")) .nil)) .pass) .pass) (.seq (.ifs (.tst (.prim (.cmp .NotIn) (.cons (.lit .non) (.cons (.prim (.fld "bench") (.cons (.var 0) .nil)) .nil)))) (.seq (.raise "NoAnvil" (.cons (.lit (.str "no anvil is free")) .nil)) .pass) .pass) (.seq (.set 3 (.meth .index (.prim (.fld "bench") (.cons (.var 0) .nil)) (.cons (.lit .non) .nil))) (.seq (.setf "bench" ["Mint"] (.var 0) (.call 177 (.cons (.prim (.fld "bench") (.cons (.var 0) .nil)) (.cons (.var 3) (.cons (.var 1) .nil))))) (.seq (.ret (.var 3)) .pass)))))))⟩
noncomputable def E4:MDef:=⟨2,3,(.seq (.ifs (.tst (.prim (.cmp .NotEq) (.cons (.methc "state" [("Mint",63)] (.var 0) (.cons (.var 1) .nil)) (.cons (.lit (.str "fixed")) .nil)))) (.seq (.raise "NotFixed" (.cons (.lit (.str "the die is on no anvil")) .nil)) .pass) .pass) (.seq (.set 2 (.meth .index (.prim (.fld "bench") (.cons (.var 0) .nil)) (.cons (.var 1) .nil))) (.seq (.setf "bench" ["Mint"] (.var 0) (.call 177 (.cons (.prim (.fld "bench") (.cons (.var 0) .nil)) (.cons (.var 2) (.cons (.lit .non) .nil))))) (.seq (.augf "laid_off" ["Mint"] (.var 0) (.prim .tup (.cons (.var 1) .nil))) (.seq (.ret (.var 2)) .pass)))))⟩
noncomputable def n0 (x:D):Prop:=x=.non \/ ∃ i,x=.int i
noncomputable def eqS (y z:D):Bool:=eqV (toV z) (toV y)
noncomputable def pyS:D->PyData
 | .int i=>.int i
 | _=>.none
theorem aC2 {g:G} {x:D} (h:n0 x) {n:Nat}:rd g n x=some (pyS x):=by
 rcases h with rfl | ⟨i,rfl⟩ <;> cases n <;> rfl
theorem av1 {x:D} (h:n0 x):(pyS x).canLay0=true:=by
 rcases h with rfl | ⟨i,rfl⟩ <;> simp [pyS,PyData.canLay0]
theorem aU4 {x y:D} (hx:n0 x) (hy:n0 y):PyData.eqv (pyS x) (pyS y)=eqS y x:=by
 rcases hx with rfl | ⟨i,rfl⟩ <;> rcases hy with rfl | ⟨j,rfl⟩ <;> simp [pyS,PyData.eqv,eqS,eqV,toV]
theorem aU3 {g:G} {l:List D} (h:∀ x ∈ l,n0 x):rds g l=some (l.map pyS):=by
 unfold rds
 induction l with
 | nil=>rfl
 | cons x r ih =>
  rw [List.mapM_cons,aC2 (h x (by simp)),ih fun z hz=>h z (by simp [hz])]
  rfl
theorem aM3 {l:List D} (h:∀ x ∈ l,n0 x):PyData.canLayAll0 (l.map pyS)=true:=by
 induction l with
 | nil=>rfl
 | cons x r ih =>
  rw [List.map_cons]
  simp only [PyData.canLayAll0,av1 (h x (by simp)),ih fun z hz=>h z (by simp [hz])]
  rfl
theorem p7 {g:G} {x y:D} {l:List D} {kb:Bool->Prop} (hi:B1 g x=some l) (hl:∀ z ∈ l,n0 z) (hy:n0 y) (h:kb (l.any (eqS y))):inP g y x kb:=by
 refine ⟨_,.inr ⟨l,l.map pyS,pyS y,hi,aU3 hl,aC2 hy,aM3 hl,av1 hy,rfl⟩,?_⟩
 have e:((l.map pyS).any fun q=>PyData.eqv q (pyS y))=l.any (eqS y):=by
  rw [List.any_map]
  clear h hi
  induction l with
  | nil=>rfl
  | cons z r ih =>
   rw [List.any_cons,List.any_cons,ih fun w hw=>hl w (by simp [hw])]
   show (PyData.eqv (pyS z) (pyS y) || _)=_
   rw [aU4 (hl z (by simp)) hy]
 rw [e]
 exact h
theorem R9 {y z:D} (hy:n0 y) (hz:n0 z):eqS y z=true ↔ z=y:=by
 rcases hy with rfl | ⟨i,rfl⟩ <;> rcases hz with rfl | ⟨j,rfl⟩ <;> simp [eqS,eqV,toV]
theorem ap8 {x:D} (h:n0 x):ad5 x=true:=by rcases h with rfl | ⟨i,rfl⟩ <;> rfl
theorem aZ7 {l:List D} {y:D} (hl:∀ z ∈ l,n0 z) (hy:n0 y) (h:l.any (eqS y)=true):∃ n,P5 l y n/\n < l.length/\l[n]?=some y:=by
 have hall:l.all ad5=true:=List.all_eq_true.mpr fun x hx=>ap8 (hl x hx)
 suffices ∃ n,n < l.length/\l[n]?=some y/\∀ (m:Nat) z,m < n->l[m]?=some z->eqV (toV z) (toV y)=false by
  obtain ⟨n,h1,h2,h3⟩:=this
  exact ⟨n,⟨hall,ap8 hy,⟨y,h2,(R9 hy hy).mpr rfl⟩,h3⟩,h1,h2⟩
 clear hall
 induction l with
 | nil=>simp at h
 | cons x r ih =>
  cases e:eqS y x with
  | true =>
   have:=(R9 hy (hl x (by simp))).mp e
   subst this
   exact ⟨0,by simp,rfl,fun m z hm=>absurd hm (by omega)⟩
  | false =>
   rw [List.any_cons,e,Bool.false_or] at h
   obtain ⟨n,h1,h2,h3⟩:=ih (fun z hz=>hl z (by simp [hz])) h
   refine ⟨n + 1,by simpa using h1,by simpa using h2,fun m z hm hz=>?_⟩
   cases m with
   | zero=>cases hz;exact e
   | succ m=>exact h3 m z (by omega) (by simpa using hz)
theorem bC4 {α:Type} {l:List α} {n:Nat}:cut l (some (n:Int)) none=l.drop n:=by
 have:¬ ((n:Int) < 0):=by omega
 unfold cut HT.sIx
 simp [this]
 by_cases h:n <= l.length
 ·rw [Nat.min_eq_left h,List.take_of_length_le (by simp)]
 ·rw [Nat.min_eq_right (by omega),List.drop_eq_nil_of_le (Nat.le_refl _),List.drop_eq_nil_of_le (by omega)]
  simp
theorem bC5 {α:Type} {l:List α} {n:Nat}:cut l none (some (n:Int))=l.take n:=by
 have:¬ ((n:Int) < 0):=by omega
 unfold cut HT.sIx
 simp [this]
section
variable {T:Nat->Option MDef} {k d:Nat} {g:G} {Q:KD} {E:KX} {m a:Nat} {bl:List D} {go:List Int}
theorem P6 (h177:T 177=some C8) {l:List D} {n:Nat} {x:D} (hn:n < l.length) (hz:l.length <= 1000) (h:Q (.tup (l.set n x)) g):b9 T (k + 1) 177 [.tup l,.int n,x] g Q E:=by
 refine call_of h177 rfl ?_
 dsimp [C8,d8,List.replicate]
 walk_at "w5"
 rw [bC5]
 refine aJ7 (by simp;omega) ?_
 walk_at "w5"
 rw [show ((n:Int) + 1)=((n + 1:Nat):Int) by omega,bC4]
 refine aJ7 (by simp;omega) ?_
 have e:l.take n ++ [x] ++ l.drop (n + 1)=l.set n x:=by
  rw [List.set_eq_take_append_cons_drop,if_pos hn]
  simp
 rw [e]
 exact h
theorem C5 {go:List Int}:∀ z ∈ go.map D.int,n0 z:=fun z hz=>by
 obtain ⟨i,_,rfl⟩:=List.mem_map.mp hz
 exact .inr ⟨i,rfl⟩
end
noncomputable def ac7:MDef:=⟨2,3,(.seq (.ifs (.not_ (.tst (.chain .LtE .LtE (.lit (.int 1)) (.var 1) (.prim .len (.cons (.prim .ix (.cons (.var 0) (.cons (.lit (.str "lower")) .nil))) .nil))))) (.seq (.ret (.prim .tup (.cons (.lit (.str "NoDie")) (.cons (.lit .non) .nil)))) .pass) .pass) (.seq (.ifs (.tst (.prim (.cmp .In) (.cons (.var 1) (.cons (.prim .ix (.cons (.var 0) (.cons (.lit (.str "seats")) .nil))) .nil)))) (.seq (.ret (.prim .tup (.cons (.lit (.str "Fixed")) (.cons (.lit .non) .nil)))) .pass) .pass) (.seq (.ifs (.tst (.prim (.cmp .In) (.cons (.var 1) (.cons (.prim .ix (.cons (.var 0) (.cons (.lit (.str "gone")) .nil))) .nil)))) (.seq (.ret (.prim .tup (.cons (.lit (.str "Gone")) (.cons (.lit .non) .nil)))) .pass) .pass) (.seq (.ifs (.tst (.prim (.cmp .NotIn) (.cons (.lit .non) (.cons (.prim .ix (.cons (.var 0) (.cons (.lit (.str "seats")) .nil))) .nil)))) (.seq (.ret (.prim .tup (.cons (.lit (.str "NoAnvil")) (.cons (.lit .non) .nil)))) .pass) .pass) (.seq (.set 2 (.meth .index (.prim .ix (.cons (.var 0) (.cons (.lit (.str "seats")) .nil))) (.cons (.lit .non) .nil))) (.seq (.setix (.prim .ix (.cons (.var 0) (.cons (.lit (.str "seats")) .nil))) (.var 2) (.var 1)) (.seq (.ret (.prim .tup (.cons (.lit (.str "")) (.cons (.var 2) .nil)))) .pass)))))))⟩
noncomputable def ac6:MDef:=⟨2,3,(.seq (.ifs (.not_ (.tst (.chain .LtE .LtE (.lit (.int 1)) (.var 1) (.prim .len (.cons (.prim .ix (.cons (.var 0) (.cons (.lit (.str "lower")) .nil))) .nil))))) (.seq (.ret (.prim .tup (.cons (.lit (.str "NoDie")) (.cons (.lit .non) .nil)))) .pass) .pass) (.seq (.ifs (.tst (.prim (.cmp .NotIn) (.cons (.var 1) (.cons (.prim .ix (.cons (.var 0) (.cons (.lit (.str "seats")) .nil))) .nil)))) (.seq (.ret (.prim .tup (.cons (.lit (.str "NotFixed")) (.cons (.lit .non) .nil)))) .pass) .pass) (.seq (.set 2 (.meth .index (.prim .ix (.cons (.var 0) (.cons (.lit (.str "seats")) .nil))) (.cons (.var 1) .nil))) (.seq (.setix (.prim .ix (.cons (.var 0) (.cons (.lit (.str "seats")) .nil))) (.var 2) (.lit .non)) (.seq (.expr (.meth .append (.prim .ix (.cons (.var 0) (.cons (.lit (.str "gone")) .nil))) (.cons (.var 1) .nil))) (.seq (.ret (.prim .tup (.cons (.lit (.str "")) (.cons (.var 2) .nil)))) .pass))))))⟩
theorem ay0 {l:List D} {y:D} {n n':Nat} (h:P5 l y n) (h':P5 l y n'):n=n':=by
 obtain ⟨_,_,⟨z,hz,ez⟩,hn⟩:=h
 obtain ⟨_,_,⟨z',hz',ez'⟩,hn'⟩:=h'
 rcases Nat.lt_trichotomy n n' with c | c | c
 ·rw [hn' n z c hz] at ez
  cases ez
 ·exact c
 ·rw [hn n' z' c hz'] at ez'
  cases ez'
theorem S6 {l:List D} {n:Nat} {x:D} (h:∀ z ∈ l,n0 z) (hx:n0 x):∀ z ∈ l.set n x,n0 z:=fun z hz=>by
 rcases List.mem_or_eq_of_mem_set hz with hz | rfl
 ·exact h z hz
 ·exact hx
noncomputable def ae5 (l:List D):Prop:=∀ (i j:Nat) (v:Int),l[i]?=some (.int v)->l[j]?=some (.int v)->i=j
theorem L8 {l:List D} {v:Int} (h:∀ z ∈ l,n0 z):l.any (eqS (.int v))=true ↔ ∃ i:Nat,l[i]?=some (.int v):=by
 rw [List.any_eq_true]
 constructor
 ·rintro ⟨z,hz,e⟩
  rw [(R9 (.inr ⟨v,rfl⟩) (h z hz))] at e
  subst e
  exact List.getElem?_of_mem hz
 ·rintro ⟨i,hi⟩
  exact ⟨_,List.mem_of_getElem? hi,(R9 (.inr ⟨v,rfl⟩) (.inr ⟨v,rfl⟩)).mpr rfl⟩
theorem aZ8 {l:List D} {n:Nat} {v:Int} (h:∀ z ∈ l,n0 z) (hd:ae5 l) (hn:l.any (eqS (.int v))=false):ae5 (l.set n (.int v)):=by
 have no:∀ i:Nat,l[i]? ≠ some (.int v):=fun i hi=>by
  rw [(L8 h).mpr ⟨i,hi⟩] at hn
  cases hn
 intro i j w hi hj
 by_cases ei:n=i <;> by_cases ej:n=j
 ·omega
 ·subst ei
  rw [List.getElem?_set_ne ej] at hj
  rw [List.getElem?_set] at hi
  split at hi
  ·split at hi
   ·cases hi;exact absurd hj (no j)
   ·cases hi
  ·contradiction
 ·subst ej
  rw [List.getElem?_set_ne ei] at hi
  rw [List.getElem?_set] at hj
  split at hj
  ·split at hj
   ·cases hj;exact absurd hi (no i)
   ·cases hj
  ·contradiction
 ·rw [List.getElem?_set_ne ei] at hi
  rw [List.getElem?_set_ne ej] at hj
  exact hd i j w hi hj
theorem J7 {l:List D} {n i:Nat} {x y:D} (h:(l.set n x)[i]?=some y):(i=n/\y=x) \/ l[i]?=some y:=by
 by_cases e:n=i
 ·subst e
  rw [List.getElem?_set] at h
  split at h
  ·split at h
   ·cases h;exact .inl ⟨rfl,rfl⟩
   ·cases h
  ·contradiction
 ·rw [List.getElem?_set_ne e] at h
  exact .inr h
theorem aZ9 {l:List D} {n:Nat} (hd:ae5 l):ae5 (l.set n .non):=fun i j v hi hj=>by
 rcases J7 hi with ⟨_,z⟩ | hi
 ·cases z
 ·rcases J7 hj with ⟨_,z⟩ | hj
  ·cases z
  ·exact hd i j v hi hj
theorem aB6 {l:List D} {n:Nat} {w:Int} (h:∀ z ∈ l,n0 z) (e:(l.set n .non).any (eqS (.int w))=true):l.any (eqS (.int w))=true:=by
 obtain ⟨i,hi⟩:=(L8 (S6 h (.inl rfl))).mp e
 rcases J7 hi with ⟨_,z⟩ | hi
 ·cases z
 ·exact (L8 h).mpr ⟨i,hi⟩
theorem aB7 {l:List D} {n:Nat} {v w:Int} (h:∀ z ∈ l,n0 z) (e:(l.set n (.int v)).any (eqS (.int w))=true):w=v \/ l.any (eqS (.int w))=true:=by
 obtain ⟨i,hi⟩:=(L8 (S6 h (.inr ⟨v,rfl⟩))).mp e
 rcases J7 hi with ⟨_,z⟩ | hi
 ·cases z;exact .inl rfl
 ·exact .inr ((L8 h).mpr ⟨i,hi⟩)
theorem aX4 {l:List D} {n:Nat} {v:Int} (h:∀ z ∈ l,n0 z) (hd:ae5 l) (hn:l[n]?=some (.int v)):(l.set n .non).any (eqS (.int v))=false:=by
 cases e:(l.set n .non).any (eqS (.int v)) with
 | false=>rfl
 | true =>
  obtain ⟨i,hi⟩:=(L8 (S6 h (.inl rfl))).mp e
  rcases J7 hi with ⟨_,z⟩ | hi'
  ·cases z
  ·have:i=n:=hd i n v hi' hn
   subst this
   rw [List.getElem?_set_self (List.getElem?_eq_some_iff.mp hn).1] at hi
   cases hi
theorem an9 {n k:Nat} (h:k < n):ixN n (k:Int)=some k:=by
 unfold ixN
 rw [if_pos (by omega),if_pos (by omega),Int.toNat_natCast]
section
variable {T:Nat->Option MDef} {k d:Nat} {g:G} {Q:KD} {E:KX} {m q a:Nat} {bl cl:List D} {go co:List Int}
end
structure MSt where
 bl:List D
 go:List Int
 lo:List (List Int)
 up:List (List Int)
 yr:Int
 co:List D
noncomputable abbrev mk (l:List Int):D:=.tup (l.map .int)
noncomputable abbrev mks (l:List (List Int)):List D:=l.map mk
noncomputable def i0 (s:MSt):O:=.ins "Mint" [("bench",.tup s.bl),("laid_off",.tup (s.go.map .int)),("lower_wear",.tup (mks s.lo)),("upper_wear",.tup (mks s.up)),("present",.int s.yr),("output",.tup s.co)]
noncomputable def MSt.side (s:MSt) (x:Str):List (List Int):=if x="lower" then s.lo else s.up
noncomputable def MSt.put (s:MSt) (x:Str) (w:List (List Int)):MSt:=if x="lower" then { s with lo:=w } else { s with up:=w }
theorem F9 {s:MSt}:s.side "lower"=s.lo:=by unfold MSt.side;rw [if_pos rfl]
theorem F8 {s:MSt}:s.side "upper"=s.up:=by unfold MSt.side;rw [if_neg (by decide)]
noncomputable abbrev y9 (x:Str):Prop:=x="lower" \/ x="upper"
noncomputable def W9:List Int:=[0,1,2,3,4,5,6,7]
noncomputable def markL (l:List Int) (k:Int):List Int:=W9.filter fun i=>decide (i=k \/ i ∈ l)
noncomputable abbrev Rs:=Str × D × MSt
noncomputable def v7 (s:MSt) (x:Str):Rs:=if y9 x then (if (s.side x).length < 99 then ("",.int ((s.side x).length + 1),s.put x (s.side x ++ [[]])) else ("Full",.non,s)) else ("BadSide",.non,s)
noncomputable abbrev v9 (s:MSt) (v:Int):Bool:=s.bl.any (eqS (.int v))
noncomputable abbrev F2 (s:MSt) (v:Int):Bool:=(s.go.map D.int).any (eqS (.int v))
noncomputable abbrev plN (l:List D) (y:D):Nat:=l.findIdx (eqS y)
noncomputable def o6 (s:MSt) (v:Int):Rs:=if 1 <= v/\v <= s.lo.length then (if v9 s v=true then ("Fixed",.non,s) else if F2 s v=true then ("Gone",.non,s) else if s.bl.any (eqS .non)=true then ("",.int (plN s.bl .non),{ s with bl:=s.bl.set (plN s.bl .non) (.int v) }) else ("NoAnvil",.non,s)) else ("NoDie",.non,s)
noncomputable def v5 (s:MSt) (v:Int):Rs:=if 1 <= v/\v <= s.lo.length then (if v9 s v=true then ("",.int (plN s.bl (.int v)),{ s with bl:=s.bl.set (plN s.bl (.int v)) .non,go:=s.go ++ [v] }) else ("NotFixed",.non,s)) else ("NoDie",.non,s)
noncomputable abbrev at1 (l:List (List Int)) (v:Int):List Int:=l.getD (v - 1).toNat []
noncomputable def j4 (s:MSt) (x:Str) (v k:Int):Rs:=if y9 x then (if 1 <= v/\v <= (s.side x).length then (if x="lower"/\F2 s v=true then ("Gone",.non,s) else if 0 <= k/\k <= 7 then (if k ∈ at1 (s.side x) v then ("Marked",.non,s) else ("",.non,s.put x ((s.side x).set (v - 1).toNat (markL (at1 (s.side x) v) k)))) else ("BadSpot",.non,s)) else ("NoDie",.non,s)) else ("BadSide",.non,s)
noncomputable def N1 (s:MSt) (a b:Int):D:=.tup [.int a,mk (at1 s.lo a),.int b,mk (at1 s.up b),.int s.yr]
noncomputable def j3 (s:MSt) (a b:Int):Rs:=if (1 <= a/\a <= s.lo.length)/\(1 <= b/\b <= s.up.length) then (if v9 s a=true then (if s.co.length < 200 then ("",.int s.co.length,{ s with co:=s.co ++ [N1 s a b] }) else ("Full",.non,s)) else ("NotFixed",.non,s)) else ("NoDie",.non,s)
noncomputable def u3 (s:MSt) (n:Int):Rs:=if s.yr + 1 <= n/\n <= 9999 then ("",.non,{ s with yr:=n }) else ("BadYear",.non,s)
noncomputable def Mk (l:List Int):Prop:=(∀ k ∈ l,ST.Spot k)/\l.length <= 8
noncomputable def aK4 (c:D):Prop:=∃ a l b m y,c=.tup [.int a,mk l,.int b,mk m,.int y]/\l.length <= 8/\m.length <= 8
structure WS (s:MSt):Prop where
 se:∀ z ∈ s.bl,n0 z
 di:ae5 s.bl
 dj:∀ v,v9 s v=true->F2 s v=false
 bn:s.bl.length <= 9
 gn:s.go.Nodup
 gb:∀ v ∈ s.go,1 <= v/\v <= s.lo.length
 ln:s.lo.length <= 99
 un:s.up.length <= 99
 lm:∀ l ∈ s.lo,Mk l
 um:∀ l ∈ s.up,Mk l
 y0:0 <= s.yr
 cn:s.co.length <= 200
 cs:∀ c ∈ s.co,aK4 c
theorem aM7:W9.Pairwise (· < ·):=by unfold W9;decide
theorem aw7 {k:Int}:k ∈ W9 ↔ ST.Spot k:=by
 unfold W9 ST.Spot
 simp only [List.mem_cons,List.mem_nil_iff,or_false]
 omega
theorem aP4 {l:List Int} {k i:Int} (hl:∀ j ∈ l,ST.Spot j) (hk:ST.Spot k):i ∈ markL l k ↔ i=k \/ i ∈ l:=by
 unfold markL
 rw [List.mem_filter,decide_eq_true_iff,aw7]
 constructor
 ·exact fun h=>h.2
 ·rintro (rfl | h)
  ·exact ⟨hk,.inl rfl⟩
  ·exact ⟨hl i h,.inr h⟩
theorem aw8 {l:List Int} {k:Int}:Mk (markL l k):=by
 unfold markL
 refine ⟨fun i hi=>aw7.mp (List.mem_filter.mp hi).1,?_⟩
 exact Nat.le_trans (List.length_filter_le _ _) (by decide)
theorem aU0 {l:List Int} {k:Int} (hl:∀ j ∈ l,ST.Spot j) (hk:ST.Spot k):G7 (l ++ [k])=markL l k:=by
 have h1:(markL l k).Pairwise (· < ·):=aM7.sublist List.filter_sublist
 refine aa3 ?_ (ai9 _) (h1.imp fun h=>Int.le_of_lt h)
 refine (W6 _).trans ?_
 refine (List.perm_ext_iff_of_nodup (ST.U0 _ _ List.nodup_nil) (h1.imp fun h=>Int.ne_of_lt h)).mpr fun i=>?_
 rw [ST.C7,aP4 hl hk]
 simp [or_comm]
theorem aR0 {s:MSt} (W:WS s):s.go.length <= 99:=by
 have hp:s.go.Perm (((List.range 99).map fun n:Nat=>(n:Int) + 1).filter (· ∈ s.go)):=by
  refine (List.perm_ext_iff_of_nodup W.gn ?_).mpr fun v=>?_
  ·exact List.Nodup.sublist List.filter_sublist (by decide)
  ·rw [List.mem_filter]
   constructor
   ·intro hv
    refine ⟨?_,by simpa using hv⟩
    have:=W.gb v hv
    have:=W.ln
    rw [List.mem_map]
    exact ⟨(v - 1).toNat,List.mem_range.mpr (by omega),by omega⟩
   ·rintro ⟨_,hv⟩
    simpa using hv
 rw [hp.length_eq]
 exact Nat.le_trans (List.length_filter_le _ _) (by simp)
theorem N7 {l:List D} {y:D} (hl:∀ z ∈ l,n0 z) (hy:n0 y) (h:l.any (eqS y)=true):P5 l y (plN l y)/\plN l y < l.length/\l[plN l y]?=some y:=by
 obtain ⟨n,W,hn,e⟩:=aZ7 hl hy h
 have:plN l y=n:=by
  have hlt:plN l y < l.length:=List.findIdx_lt_length_of_exists (by simpa [List.any_eq_true] using h)
  have h1:eqS y l[plN l y]=true:=List.findIdx_getElem (w:=hlt)
  refine ay0 ⟨W.1,W.2.1,⟨_,List.getElem?_eq_getElem hlt,h1⟩,fun m z hm hz=>?_⟩ W
  have:=List.not_of_lt_findIdx hm
  obtain ⟨hm',rfl⟩:=List.getElem?_eq_some_iff.mp hz
  simpa [eqS] using this
 rw [this]
 exact ⟨W,hn,e⟩
theorem bu4 {s:MSt} {x:Str} (W:WS s):WS (v7 s x).2.2:=by
 unfold v7
 split
 ·rename_i hx
  split
  ·rename_i hl
   rcases hx with rfl | rfl
   ·rw [F9] at hl ⊢
    unfold MSt.put
    rw [if_pos rfl]
    refine ⟨W.se,W.di,W.dj,W.bn,W.gn,fun v hv=>?_,?_,W.un,fun l h=>?_,W.um,W.y0,W.cn,W.cs⟩
    ·have:=W.gb v hv
     rw [List.length_append]
     simp
     omega
    ·rw [List.length_append]
     simp
     omega
    ·rcases List.mem_append.mp h with h | h
     ·exact W.lm l h
     ·simp at h;subst h;exact ⟨fun k hk=>by simp at hk,by simp⟩
   ·rw [F8] at hl ⊢
    unfold MSt.put
    rw [if_neg (by decide)]
    refine ⟨W.se,W.di,W.dj,W.bn,W.gn,W.gb,W.ln,?_,W.lm,fun l h=>?_,W.y0,W.cn,W.cs⟩
    ·rw [List.length_append]
     simp
     omega
    ·rcases List.mem_append.mp h with h | h
     ·exact W.um l h
     ·simp at h;subst h;exact ⟨fun k hk=>by simp at hk,by simp⟩
  ·exact W
 ·exact W
theorem bu3 {s:MSt} {v:Int} (W:WS s):WS (o6 s v).2.2:=by
 unfold o6
 repeat' split
 all_goals first | exact W | skip
 rename_i hv e1 e2 e3
 have e1':v9 s v=false:=by simpa using e1
 have e2':F2 s v=false:=by simpa using e2
 refine ⟨S6 W.se (.inr ⟨v,rfl⟩),aZ8 W.se W.di e1',fun w hw=>?_,by rw [List.length_set];exact W.bn,W.gn,W.gb,W.ln,W.un,W.lm,W.um,W.y0,W.cn,W.cs⟩
 rcases aB7 W.se hw with rfl | hw
 ·exact e2'
 ·exact W.dj w hw
theorem bu2 {s:MSt} {v:Int} (W:WS s):WS (v5 s v).2.2:=by
 unfold v5
 repeat' split
 all_goals first | exact W | skip
 rename_i hv e1
 obtain ⟨F,hn,e⟩:=N7 W.se (.inr ⟨v,rfl⟩) e1
 have hg:=W.dj v e1
 have hgm:v ∉ s.go:=fun hv=>by
  have:F2 s v=true:=List.any_eq_true.mpr ⟨.int v,List.mem_map.mpr ⟨v,hv,rfl⟩,(R9 (.inr ⟨v,rfl⟩) (.inr ⟨v,rfl⟩)).mpr rfl⟩
  rw [hg] at this
  cases this
 refine ⟨S6 W.se (.inl rfl),aZ9 W.di,fun w hw=>?_,by rw [List.length_set];exact W.bn,?_,?_,W.ln,W.un,W.lm,W.um,W.y0,W.cn,W.cs⟩
 ·have hb:=W.dj w (aB6 W.se hw)
  show ((s.go ++ [v]).map D.int).any (eqS (.int w))=false
  rw [List.map_append,List.any_append]
  show (F2 s w || _)=false
  rw [hb,Bool.false_or]
  cases e5:(List.map D.int [v]).any (eqS (.int w)) with
  | false=>rfl
  | true =>
   rw [List.map_cons,List.map_nil,List.any_cons,List.any_nil,Bool.or_false] at e5
   have:=(R9 (.inr ⟨w,rfl⟩) (.inr ⟨v,rfl⟩)).mp e5
   cases this
   have h1:v9 { s with bl:=s.bl.set (plN s.bl (.int v)) .non,go:=s.go ++ [v] } v=false:=aX4 W.se W.di e
   rw [h1] at hw
   cases hw
 ·show (s.go ++ [v]).Nodup
  rw [List.nodup_append]
  exact ⟨W.gn,by simp,fun a ha b hb=>by simp at hb;subst hb;exact fun z=>hgm (z ▸ ha)⟩
 ·intro w hw
  rcases List.mem_append.mp hw with hw | hw
  ·exact W.gb w hw
  ·simp at hw;subst hw;exact hv
theorem bh4 {s:MSt} {x:Str} {v k:Int} (W:WS s):WS (j4 s x v k).2.2:=by
 unfold j4
 repeat' split
 all_goals first | exact W | skip
 rename_i hx hv e1 hk e2
 rcases hx with rfl | rfl
 ·unfold MSt.put
  rw [if_pos rfl,F9]
  refine ⟨W.se,W.di,W.dj,W.bn,W.gn,by simpa using W.gb,by simpa using W.ln,W.un,fun l h=>?_,W.um,W.y0,W.cn,W.cs⟩
  rcases List.mem_or_eq_of_mem_set h with h | rfl
  ·exact W.lm l h
  ·exact aw8
 ·unfold MSt.put
  rw [if_neg (by decide),F8]
  refine ⟨W.se,W.di,W.dj,W.bn,W.gn,W.gb,W.ln,by simpa using W.un,W.lm,fun l h=>?_,W.y0,W.cn,W.cs⟩
  rcases List.mem_or_eq_of_mem_set h with h | rfl
  ·exact W.um l h
  ·exact aw8
theorem ae0 {l:List (List Int)} {v:Int} (hv:1 <= v/\v <= l.length):l[(v - 1).toNat]?=some (at1 l v)/\at1 l v ∈ l:=by
 have h:(v - 1).toNat < l.length:=by omega
 have e:l[(v - 1).toNat]?=some (at1 l v):=by
  rw [List.getElem?_eq_getElem h,at1,List.getD_eq_getElem?_getD,List.getElem?_eq_getElem h]
  rfl
 exact ⟨e,List.mem_of_getElem? e⟩
theorem aS8 {s:MSt} {a b:Int} (W:WS s):WS (j3 s a b).2.2:=by
 unfold j3
 repeat' split
 all_goals first | exact W | skip
 rename_i hv e1 hl
 refine ⟨W.se,W.di,W.dj,W.bn,W.gn,W.gb,W.ln,W.un,W.lm,W.um,W.y0,by simp;omega,fun c hc=>?_⟩
 rcases List.mem_append.mp hc with hc | hc
 ·exact W.cs c hc
 ·simp at hc
  subst hc
  exact ⟨_,_,_,_,_,rfl,(W.lm _ (ae0 hv.1).2).2,(W.um _ (ae0 hv.2).2).2⟩
theorem bh3 {s:MSt} {n:Int} (W:WS s):WS (u3 s n).2.2:=by
 unfold u3
 split
 ·rename_i h
  exact ⟨W.se,W.di,W.dj,W.bn,W.gn,W.gb,W.ln,W.un,W.lm,W.um,by have:=W.y0;show 0 <= n;omega,W.cn,W.cs⟩
 ·exact W
noncomputable def ak1:MDef:=⟨2,2,(.seq (.ret (.prim .tuple (.cons (.prim .sun (.cons (.var 0) (.cons (.var 1) .nil))) .nil))) .pass)⟩
noncomputable def C0:MDef:=⟨4,5,(.seq (.set 4 (.methc "marks" [("Mint",62)] (.var 0) (.cons (.var 1) (.cons (.var 2) .nil)))) (.seq (.ifs (.and_ (.tst (.prim (.cmp .Eq) (.cons (.var 1) (.cons (.lit (.str "lower")) .nil)))) (.tst (.prim (.cmp .In) (.cons (.var 2) (.cons (.prim (.fld "laid_off") (.cons (.var 0) .nil)) .nil))))) (.seq (.raise "Gone" (.cons (.lit (.str "the die was laid off")) .nil)) .pass) .pass) (.seq (.ifs (.not_ (.tst (.call 1 (.cons (.var 3) (.cons (.lit (.int 0)) (.cons (.lit (.int 7)) .nil)))))) (.seq (.raise "BadSpot" (.cons (.lit (.str "a die has no such spot")) .nil)) .pass) .pass) (.seq (.ifs (.tst (.prim (.cmp .In) (.cons (.var 3) (.cons (.var 4) .nil)))) (.seq (.raise "Marked" (.cons (.lit (.str "the die has that mark")) .nil)) .pass) .pass) (.seq (.expr (.methc "put_wear" [("Mint",53)] (.var 0) (.cons (.var 1) (.cons (.call 177 (.cons (.methc "wear_of" [("Mint",52)] (.var 0) (.cons (.var 1) .nil)) (.cons (.prim (.bin .Sub) (.cons (.var 2) (.cons (.lit (.int 1)) .nil))) (.cons (.call 16 (.cons (.var 4) (.cons (.prim .tup (.cons (.var 3) .nil)) .nil))) .nil)))) .nil)))) .pass)))))⟩
noncomputable def E3:MDef:=⟨3,4,(.seq (.set 3 (.prim .tup (.cons (.var 1) (.cons (.methc "marks" [("Mint",62)] (.var 0) (.cons (.lit (.str "lower")) (.cons (.var 1) .nil))) (.cons (.var 2) (.cons (.methc "marks" [("Mint",62)] (.var 0) (.cons (.lit (.str "upper")) (.cons (.var 2) .nil))) (.cons (.prim (.fld "present") (.cons (.var 0) .nil)) .nil))))))) (.seq (.ifs (.tst (.prim (.cmp .NotIn) (.cons (.var 1) (.cons (.prim (.fld "bench") (.cons (.var 0) .nil)) .nil)))) (.seq (.raise "NotFixed" (.cons (.lit (.str "the lower die is on no anvil")) .nil)) .pass) .pass) (.seq (.ifs (.tst (.prim (.cmp .Eq) (.cons (.prim .len (.cons (.prim (.fld "output") (.cons (.var 0) .nil)) .nil)) (.cons (.lit (.int 200)) .nil)))) (.seq (.raise "Full" (.cons (.lit (.str "no more coins are struck")) .nil)) .pass) .pass) (.seq (.augf "output" ["Mint"] (.var 0) (.prim .tup (.cons (.var 3) .nil))) (.seq (.ret (.prim (.bin .Sub) (.cons (.prim .len (.cons (.prim (.fld "output") (.cons (.var 0) .nil)) .nil)) (.cons (.lit (.int 1)) .nil)))) .pass)))))⟩
noncomputable def A6:MDef:=⟨2,2,(.seq (.ifs (.not_ (.tst (.call 1 (.cons (.var 1) (.cons (.prim (.bin .Add) (.cons (.prim (.fld "present") (.cons (.var 0) .nil)) (.cons (.lit (.int 1)) .nil))) (.cons (.lit (.int 9999)) .nil)))))) (.seq (.raise "BadYear" (.cons (.lit (.str "no such year can begin")) .nil)) .pass) .pass) (.seq (.setf "present" ["Mint"] (.var 0) (.var 1)) .pass))⟩
structure TQ (T:Nat->Option MDef):Prop where
 tm:TM T
 h16:T 16=some ak1
 h55:T 55=some S8
 h56:T 56=some E4
 h57:T 57=some C0
 h58:T 58=some E3
 h59:T 59=some A6
 h177:T 177=some C8
section
variable {T:Nat->Option MDef} {k d:Nat} {g:G} {Q:KD} {E:KX} {m:Nat} {s:MSt} {x:Str}
theorem bg9 (hT:TQ T) {l:List Int} {i:Int} (hl:Mk l) (hi:ST.Spot i) (h:∀ g',Ex g g'->Q (mk (markL l i)) g'):b9 T (k + 1) 16 [mk l,.tup [.int i]] g Q E:=by
 refine call_of hT.h16 rfl ?_
 dsimp [ak1,d8,List.replicate]
 walk_at "w5"
 refine bz1 (ns:=l) (ms:=[i]) hl.1 (fun k hk=>by simp at hk;subst hk;exact hi) (by have:=hl.2;simp;omega) ?_
 rw [aU0 hl.1 hi]
 refine a27 (a8 i5) ?_
 walk_at "w5"
 exact h _ (Ex.snoc _ _)
theorem W3 (hT:TQ T) (hm:g[m]?=some (i0 s)) (ho:PyData.strOk x=true) (h1:y9 x->Q (.tup (mks (s.side x))) g) (h3:¬ y9 x->E ⟨"BadSide"⟩ g):b9 T (k + 2) 52 [.ref m,.str x] g Q E:=by
 refine call_of hT.tm.h52 rfl ?_
 dsimp [E1,d8,List.replicate]
 walk_at "w5"
 refine as2 hT.tm.h40 ho (fun hx=>?_) (fun z1 z2=>h3 (fun z=>z.elim z1 z2))
 walk_at "w5"
 refine if2 (fun c=>?_) (fun c=>?_)
 ·walk_at "w5"
  have:=h1 hx
  rw [c,F9] at this
  exact A1 hm rfl this
 ·walk_at "w5"
  have:=h1 hx
  rw [hx.resolve_left c,F8] at this
  exact A1 hm rfl this
theorem aC5 (hT:TQ T) (hm:g[m]?=some (i0 s)) {w:List (List Int)} (h:Q .non (g.set m (i0 (s.put x w)))):b9 T (k + 1) 53 [.ref m,.str x,.tup (mks w)] g Q E:=by
 refine call_of hT.tm.h53 rfl ?_
 dsimp [B9,d8,List.replicate]
 walk_at "w5"
 refine if2 (fun c=>?_) (fun c=>?_)
 ·walk_at "w5"
  refine G9 hm (by simp) (by simp) ?_
  walk_at "w5"
  unfold MSt.put at h
  rw [if_pos c] at h
  exact h
 ·walk_at "w5"
  refine G9 hm (by simp) (by simp) ?_
  walk_at "w5"
  unfold MSt.put at h
  rw [if_neg c] at h
  exact h
theorem bg6 (hT:TQ T) (hm:g[m]?=some (i0 s)) (W:WS s) (ho:PyData.strOk x=true) (h1:(v7 s x).1=""->Q (v7 s x).2.1 (g.set m (i0 (v7 s x).2.2))) (h2:(v7 s x).1 ≠ ""->E ⟨(v7 s x).1⟩ g):b9 T (k + 3) 54 [.ref m,.str x] g Q E:=by
 refine call_of hT.tm.h54 rfl ?_
 dsimp [S9,d8,List.replicate]
 walk_at "w5"
 refine i8 hm rfl rfl ?_
 walk_at "w5"
 refine W3 (k:=k) hT hm ho (fun hx=>?_) (fun hx=>?_)
 ·have hl:(s.side x).length <= 99:=by
   rcases hx with rfl | rfl
   ·rw [F9];exact W.ln
   ·rw [F8];exact W.un
  walk_at "w5"
  rw [List.length_map]
  refine if2 (fun c=>?_) (fun c=>?_)
  ·have e:v7 s x=(("Full",.non,s):Rs):=by unfold v7;rw [if_pos hx,if_neg (by omega)]
   rw [e] at h2
   walk_at "w5"
   exact h2 (by dsimp only;decide)
  ·have e:v7 s x=(("",.int ((s.side x).length + 1),s.put x (s.side x ++ [[]])):Rs):=by unfold v7;rw [if_pos hx,if_pos (by omega)]
   rw [e] at h1
   walk_at "w5"
   refine i8 hm rfl rfl ?_
   walk_at "w5"
   refine aJ7 (by simp;omega) ?_
   have e2:mks (s.side x) ++ [D.tup []]=mks (s.side x ++ [[]]):=by rw [mks,mks,List.map_append];rfl
   rw [e2]
   walk_at "w5"
   refine aC5 hT hm ?_
   walk_at "w5"
   rw [List.length_map]
   exact h1 rfl
 ·have e:v7 s x=(("BadSide",.non,s):Rs):=by unfold v7;rw [if_neg hx]
  rw [e] at h2
  exact h2 (by dsimp only;decide)
theorem a00 (hT:TQ T) (hm:g[m]?=some (i0 s)) (ho:PyData.strOk x=true) (h1:y9 x->Q (.int (s.side x).length) g) (h3:¬ y9 x->E ⟨"BadSide"⟩ g):b9 T (k + 3) 61 [.ref m,.str x] g Q E:=by
 refine call_of hT.tm.h61 rfl ?_
 dsimp [O8,d8,List.replicate]
 walk_at "w5"
 refine i8 hm rfl rfl ?_
 walk_at "w5"
 refine W3 (k:=k) hT hm ho (fun hx=>?_) h3
 walk_at "w5"
 rw [List.length_map]
 exact h1 hx
theorem ab4 {l:List (List Int)} {v:Int} (hv:1 <= v/\v <= l.length):atI (mks l) (v - 1)=some (mk (at1 l v)):=by
 have h:=(ae0 hv).1
 have:=S1 (xs:=mks l) (j:=(v - 1).toNat) (v:=mk (at1 l v)) (by rw [List.getElem?_map,h];rfl)
 rwa [show (((v - 1).toNat:Nat):Int)=v - 1 by omega] at this
theorem U1 (hT:TQ T) (hm:g[m]?=some (i0 s)) (ho:PyData.strOk x=true) {v:Int} (h1:y9 x->1 <= v/\v <= (s.side x).length->Q (mk (at1 (s.side x) v)) g) (h2:y9 x->¬ (1 <= v/\v <= (s.side x).length)->E ⟨"NoDie"⟩ g) (h3:¬ y9 x->E ⟨"BadSide"⟩ g):b9 T (k + 4) 62 [.ref m,.str x,.int v] g Q E:=by
 refine call_of hT.tm.h62 rfl ?_
 dsimp [J5,d8,List.replicate]
 walk_at "w5"
 refine i8 hm rfl rfl ?_
 walk_at "w5"
 refine W3 (k:=k + 1) hT hm ho (fun hx=>?_) h3
 walk_at "w5"
 refine ab1 hT.tm (fun hv=>?_) (fun hv=>?_)
 ·rw [List.length_map] at hv
  walk_at "w5"
  refine aI2 (ab4 hv) ?_
  walk_at "w5"
  exact h1 hx hv
 ·rw [List.length_map] at hv
  exact h2 hx hv
theorem N6 (hT:TQ T) (hm:g[m]?=some (i0 s)) (W:WS s) {v:Int} (h0:¬ (1 <= v/\v <= s.lo.length)->E ⟨"NoDie"⟩ g) (h1:1 <= v/\v <= s.lo.length->v9 s v=true->Q (.str "fixed") g)
  (h2:1 <= v/\v <= s.lo.length->v9 s v=false->F2 s v=true->Q (.str "gone") g) (h3:1 <= v/\v <= s.lo.length->v9 s v=false->F2 s v=false->Q (.str "new") g) :
  b9 T (k + 4) 63 [.ref m,.int v] g Q E:=by
 refine call_of hT.tm.h63 rfl ?_
 dsimp [J1,d8,List.replicate]
 walk_at "w5"
 refine A1 hm rfl ?_
 walk_at "w5"
 refine ab1 hT.tm (fun hv=>?_) (fun z=>h0 (fun y=>z ⟨y.1,by rw [List.length_map];exact y.2⟩))
 rw [List.length_map] at hv
 walk_at "w5"
 refine A1 hm rfl ?_
 walk_at "w5"
 refine T6 (p7 (l:=s.bl) rfl W.se (.inr ⟨v,rfl⟩) ?_)
 walk_at "w5"
 cases e1:v9 s v with
 | true =>
  refine ifT e1 ?_
  walk_at "w5"
  exact h1 hv e1
 | false =>
  refine ifF e1 ?_
  walk_at "w5"
  refine A1 hm rfl ?_
  walk_at "w5"
  refine T6 (p7 (l:=s.go.map D.int) rfl C5 (.inr ⟨v,rfl⟩) ?_)
  walk_at "w5"
  cases e2:F2 s v with
  | true =>
   refine ifT e2 ?_
   walk_at "w5"
   exact h2 hv e1 e2
  | false =>
   refine ifF e2 ?_
   walk_at "w5"
   exact h3 hv e1 e2
theorem ftt {b:Bool} (h:b=false):¬ b=true:=by rw [h];decide
theorem bg1 (hT:TQ T) (hm:g[m]?=some (i0 s)) (W:WS s) {v:Int} (h1:(o6 s v).1=""->Q (o6 s v).2.1 (g.set m (i0 (o6 s v).2.2))) (h2:(o6 s v).1 ≠ ""->E ⟨(o6 s v).1⟩ g):b9 T (k + 5) 55 [.ref m,.int v] g Q E:=by
 refine call_of hT.h55 rfl ?_
 dsimp [S8,d8,List.replicate]
 walk_at "w5"
 refine i8 hm rfl rfl ?_
 walk_at "w5"
 refine N6 (k:=k) hT hm W (fun hv=>?_) (fun hv e1=>?_) (fun hv e1 e2=>?_) (fun hv e1 e2=>?_)
 ·have e:o6 s v=(("NoDie",.non,s):Rs):=by unfold o6;rw [if_neg hv]
  rw [e] at h2
  exact h2 (by dsimp only;decide)
 ·have e:o6 s v=(("Fixed",.non,s):Rs):=by unfold o6;rw [if_pos hv,if_pos e1]
  rw [e] at h2
  walk_at "w5"
  refine ifT (by decide +kernel) ?_
  walk_at "w5"
  exact h2 (by dsimp only;decide)
 ·have e:o6 s v=(("Gone",.non,s):Rs):=by unfold o6;rw [if_pos hv,if_neg (ftt e1),if_pos e2]
  rw [e] at h2
  walk_at "w5"
  refine ifF (by decide +kernel) ?_
  walk_at "w5"
  refine ifT (by decide +kernel) ?_
  walk_at "w5"
  exact h2 (by dsimp only;decide)
 ·walk_at "w5"
  refine ifF (by decide +kernel) ?_
  walk_at "w5"
  refine ifF (by decide +kernel) ?_
  walk_at "w5"
  refine A1 hm rfl ?_
  walk_at "w5"
  refine P9 (p7 (l:=s.bl) rfl W.se (.inl rfl) ?_)
  walk_at "w5"
  cases e3:s.bl.any (eqS .non) with
  | false =>
   have e:o6 s v=(("NoAnvil",.non,s):Rs):=by unfold o6;rw [if_pos hv,if_neg (ftt e1),if_neg (ftt e2),if_neg (ftt e3)]
   rw [e] at h2
   refine ifT rfl ?_
   walk_at "w5"
   exact h2 (by dsimp only;decide)
  | true =>
   have e:o6 s v=(("",.int (plN s.bl .non),{ s with bl:=s.bl.set (plN s.bl .non) (.int v) }):Rs):=by unfold o6;rw [if_pos hv,if_neg (ftt e1),if_neg (ftt e2),if_pos e3]
   rw [e] at h1
   refine ifF rfl ?_
   obtain ⟨F,hn,_⟩:=N7 W.se (.inl rfl) e3
   have bn:=W.bn
   walk_at "w5"
   refine A1 hm rfl ?_
   refine ⟨aP1,?_⟩
   walk_at "w5"
   refine a73 F (by omega) ?_
   walk_at "w5"
   refine A1 hm rfl ?_
   walk_at "w5"
   refine P6 (k:=k + 3) hT.h177 hn (by omega) ?_
   walk_at "w5"
   refine G9 hm (by simp) (by simp) ?_
   walk_at "w5"
   exact h1 rfl
theorem be5 (hT:TQ T) (hm:g[m]?=some (i0 s)) (W:WS s) {v:Int} (h1:(v5 s v).1=""->Q (v5 s v).2.1 (g.set m (i0 (v5 s v).2.2))) (h2:(v5 s v).1 ≠ ""->E ⟨(v5 s v).1⟩ g):b9 T (k + 5) 56 [.ref m,.int v] g Q E:=by
 refine call_of hT.h56 rfl ?_
 dsimp [E4,d8,List.replicate]
 walk_at "w5"
 refine i8 hm rfl rfl ?_
 walk_at "w5"
 have no:1 <= v/\v <= s.lo.length->v9 s v=false->E ⟨"NotFixed"⟩ g:=fun hv e1=>by
  have e:v5 s v=(("NotFixed",.non,s):Rs):=by unfold v5;rw [if_pos hv,if_neg (ftt e1)]
  rw [e] at h2
  exact h2 (by dsimp only;decide)
 refine N6 (k:=k) hT hm W (fun hv=>?_) (fun hv e1=>?_) (fun hv e1 e2=>?_) (fun hv e1 e2=>?_)
 ·have e:v5 s v=(("NoDie",.non,s):Rs):=by unfold v5;rw [if_neg hv]
  rw [e] at h2
  exact h2 (by dsimp only;decide)
 ·have e:v5 s v=(("",.int (plN s.bl (.int v)),{ s with bl:=s.bl.set (plN s.bl (.int v)) .non,go:=s.go ++ [v] }):Rs):=by unfold v5;rw [if_pos hv,if_pos e1]
  rw [e] at h1
  obtain ⟨F,hn,_⟩:=N7 W.se (.inr ⟨v,rfl⟩) e1
  have bn:=W.bn
  have gl:=aR0 W
  walk_at "w5"
  refine ifF (by decide +kernel) ?_
  walk_at "w5"
  refine A1 hm rfl ?_
  refine ⟨aP1,?_⟩
  walk_at "w5"
  refine a73 F (by omega) ?_
  walk_at "w5"
  refine A1 hm rfl ?_
  walk_at "w5"
  refine P6 (k:=k + 3) hT.h177 hn (by omega) ?_
  walk_at "w5"
  refine G9 hm (by simp) (by simp) ?_
  have e2:(O.ins "Mint" (v8 "bench" (.tup (s.bl.set (plN s.bl (.int v)) .non)) [("bench",.tup s.bl),("laid_off",.tup (s.go.map .int)),("lower_wear",.tup (mks s.lo)),("upper_wear",.tup (mks s.up)),("present",.int s.yr),("output",.tup s.co)]))=i0 { s with bl:=s.bl.set (plN s.bl (.int v)) .non }:=rfl
  rw [e2]
  have hm2:(g.set m (i0 { s with bl:=s.bl.set (plN s.bl (.int v)) .non }))[m]?=some (i0 { s with bl:=s.bl.set (plN s.bl (.int v)) .non }):=get_set hm
  walk_at "w5"
  refine aL0 ?_
  walk_at "w5"
  refine ⟨m,_,_,_,rfl,hm2,by simp,rfl,?_⟩
  walk_at "w5"
  refine aQ4 (by simp;omega) ?_
  refine ⟨_,hm2,by simp,?_⟩
  rw [List.set_set]
  have e3:(O.ins "Mint" (v8 "laid_off" (.tup (s.go.map .int ++ [.int v])) [("bench",.tup (s.bl.set (plN s.bl (.int v)) .non)),("laid_off",.tup (s.go.map .int)),("lower_wear",.tup (mks s.lo)),("upper_wear",.tup (mks s.up)),("present",.int s.yr),("output",.tup s.co)]))=i0 { s with bl:=s.bl.set (plN s.bl (.int v)) .non,go:=s.go ++ [v] }:=by
   unfold i0
   rw [List.map_append]
   rfl
  rw [e3]
  walk_at "w5"
  exact h1 rfl
 ·walk_at "w5"
  refine ifT (by decide +kernel) ?_
  walk_at "w5"
  exact no hv e1
 ·walk_at "w5"
  refine ifT (by decide +kernel) ?_
  walk_at "w5"
  exact no hv e1
theorem am5 {s:MSt} (W:WS s) (hx:y9 x) {v:Int} (hv:1 <= v/\v <= (s.side x).length):Mk (at1 (s.side x) v):=by
 have h:=(ae0 hv).2
 rcases hx with rfl | rfl
 ·rw [F9] at h ⊢;exact W.lm _ h
 ·rw [F8] at h ⊢;exact W.um _ h
theorem W7 {s:MSt} (W:WS s):(s.side x).length <= 99:=by
 unfold MSt.side
 split
 ·exact W.ln
 ·exact W.un
theorem ad3 {g:G} {y:D} {l:List Int} {v:Int} {kb:Bool->Prop} (hi:B1 g y=some (l.map .int)) (h:kb (decide (v ∈ l))):inP g (.int v) y kb:=by
 refine p7 hi C5 (.inr ⟨v,rfl⟩) ?_
 have e:(l.map D.int).any (eqS (.int v))=decide (v ∈ l):=by
  rw [Bool.eq_iff_iff,L8 C5,decide_eq_true_iff]
  constructor
  ·rintro ⟨i,hi⟩
   rw [List.getElem?_map,Option.map_eq_some_iff] at hi
   obtain ⟨a,h1,h2⟩:=hi
   cases h2
   exact List.mem_of_getElem? h1
  ·intro hm
   obtain ⟨i,hi⟩:=List.getElem?_of_mem hm
   exact ⟨i,by rw [List.getElem?_map,hi];rfl⟩
 rw [e]
 exact h
theorem aY4 (hT:TQ T) (hm:g[m]?=some (i0 s)) (W:WS s) (ho:PyData.strOk x=true) {v j:Int} (h1:(j4 s x v j).1=""->∀ g',Ex g g'->Q .non (g'.set m (i0 (j4 s x v j).2.2))) (h2:(j4 s x v j).1 ≠ ""->E ⟨(j4 s x v j).1⟩ g):b9 T (k + 5) 57 [.ref m,.str x,.int v,.int j] g Q E:=by
 refine call_of hT.h57 rfl ?_
 dsimp [C0,d8,List.replicate]
 walk_at "w5"
 refine i8 hm rfl rfl ?_
 walk_at "w5"
 refine U1 (k:=k) hT hm ho (fun hx hv=>?_) (fun hx hv=>?_) (fun hx=>?_)
 ·have mkl:=am5 W hx hv
  have sl:=W7 (x:=x) W
  have fin:∀ (N:Ends),¬ (x="lower"/\F2 s v=true)->(∀ (g':G) σ,(∀ g1:G,Ex g g1->g'=g1.set m (i0 (j4 s x v j).2.2)->(j4 s x v j).1=""->N.nx σ g'))->wpS (b9 T (k + 4)) (match C0.body with | .seq _ (.seq _ b)=>b | x=>x) N [some (.ref m),some (.str x),some (.int v),some (.int j),some (mk (at1 (s.side x) v))] g E:=by
   intro N hgo hN
   dsimp [C0]
   walk_at "w5"
   refine A5 hT.tm.nf ?_
   walk_at "w5"
   by_cases hj:0 <= j/\j <= 7
   ·rw [decide_eq_true hj.1,decide_eq_true hj.2]
    refine ifF rfl ?_
    walk_at "w5"
    refine T6 (ad3 (l:=at1 (s.side x) v) rfl ?_)
    walk_at "w5"
    by_cases hq:j ∈ at1 (s.side x) v
    ·have e:j4 s x v j=(("Marked",.non,s):Rs):=by unfold j4;rw [if_pos hx,if_pos hv,if_neg hgo,if_pos hj,if_pos hq]
     rw [e] at h2
     rw [decide_eq_true hq]
     refine ift ?_
     walk_at "w5"
     exact h2 (by dsimp only;decide)
    ·have e:j4 s x v j=(("",.non,s.put x ((s.side x).set (v - 1).toNat (markL (at1 (s.side x) v) j))):Rs):=by unfold j4;rw [if_pos hx,if_pos hv,if_neg hgo,if_pos hj,if_neg hq]
     rw [e] at hN
     rw [decide_eq_false hq]
     refine aa8 ?_
     walk_at "w5"
     refine i8 hm rfl rfl ?_
     walk_at "w5"
     refine i8 hm rfl rfl ?_
     walk_at "w5"
     refine W3 (k:=k + 2) hT hm ho (fun _=>?_) (fun z=>absurd hx z)
     walk_at "w5"
     refine bg9 (k:=k + 3) hT mkl ⟨hj.1,by omega⟩ fun g1 e1=>?_
     walk_at "w5"
     have hvn:v - 1=(((v - 1).toNat:Nat):Int):=by omega
     rw [hvn]
     refine P6 (k:=k + 3) hT.h177 (by rw [List.length_map];omega) (by rw [List.length_map];omega) ?_
     have es:(mks (s.side x)).set (v - 1).toNat (mk (markL (at1 (s.side x) v) j))=mks ((s.side x).set (v - 1).toNat (markL (at1 (s.side x) v) j)):=by rw [mks,mks,List.map_set]
     rw [es]
     walk_at "w5"
     refine aC5 (k:=k + 3) hT (e1.at hm) ?_
     walk_at "w5"
     exact hN _ _ g1 e1 rfl rfl
   ·have e:j4 s x v j=(("BadSpot",.non,s):Rs):=by unfold j4;rw [if_pos hx,if_pos hv,if_neg hgo,if_neg hj]
    rw [e] at h2
    have:(decide (0 <= j) && decide (j <= 7))=false:=by
     rw [Bool.and_eq_false_iff,decide_eq_false_iff_not,decide_eq_false_iff_not]
     exact Classical.not_and_iff_not_or_not.mp hj
    rw [this]
    refine ifT rfl ?_
    walk_at "w5"
    exact h2 (by dsimp only;decide)
  walk_at "w5"
  refine if2 (fun hlo=>?_) (fun hlo=>?_)
  ·walk_at "w5"
   refine A1 hm rfl ?_
   walk_at "w5"
   refine T6 (p7 (l:=s.go.map D.int) rfl C5 (.inr ⟨v,rfl⟩) ?_)
   walk_at "w5"
   cases e2:F2 s v with
   | true =>
    have e:j4 s x v j=(("Gone",.non,s):Rs):=by unfold j4;rw [if_pos hx,if_pos hv,if_pos ⟨hlo,e2⟩]
    rw [e] at h2
    refine ifT e2 ?_
    walk_at "w5"
    exact h2 (by dsimp only;decide)
   | false =>
    refine ifF e2 ?_
    refine B6 ?_
    exact fin _ (fun z=>ftt e2 z.2) (fun g' σ g1 e1 eg er=>by subst eg;exact h1 er g1 e1)
  ·try refine aa8 ?_
   try with_reducible refine B6 ?_
   exact fin _ (fun z=>hlo z.1) (fun g' σ g1 e1 eg er=>by subst eg;exact h1 er g1 e1)
 ·have e:j4 s x v j=(("NoDie",.non,s):Rs):=by unfold j4;rw [if_pos hx,if_neg hv]
  rw [e] at h2
  exact h2 (by dsimp only;decide)
 ·have e:j4 s x v j=(("BadSide",.non,s):Rs):=by unfold j4;rw [if_neg hx]
  rw [e] at h2
  exact h2 (by dsimp only;decide)
theorem aF5 (hT:TQ T) (hm:g[m]?=some (i0 s)) (W:WS s) {a b:Int} (h1:(j3 s a b).1=""->Q (j3 s a b).2.1 (g.set m (i0 (j3 s a b).2.2))) (h2:(j3 s a b).1 ≠ ""->E ⟨(j3 s a b).1⟩ g):b9 T (k + 5) 58 [.ref m,.int a,.int b] g Q E:=by
 refine call_of hT.h58 rfl ?_
 dsimp [E3,d8,List.replicate]
 have no:¬ ((1 <= a/\a <= s.lo.length)/\(1 <= b/\b <= s.up.length))->E ⟨"NoDie"⟩ g:=fun hv=>by
  have e:j3 s a b=(("NoDie",.non,s):Rs):=by unfold j3;rw [if_neg hv]
  rw [e] at h2
  exact h2 (by dsimp only;decide)
 walk_at "w5"
 refine i8 hm rfl rfl ?_
 walk_at "w5"
 refine U1 (k:=k) hT hm (by decide +kernel) (fun _ ha=>?_) (fun _ ha=>no (fun z=>ha (by rw [F9];exact z.1))) (fun z=>absurd (.inl rfl) z)
 rw [F9] at ha ⊢
 walk_at "w5"
 refine i8 hm rfl rfl ?_
 walk_at "w5"
 refine U1 (k:=k) hT hm (by decide +kernel) (fun _ hb=>?_) (fun _ hb=>no (fun z=>hb (by rw [F8];exact z.2))) (fun z=>absurd (.inr rfl) z)
 rw [F8] at hb ⊢
 walk_at "w5"
 refine A1 hm rfl ?_
 walk_at "w5"
 refine A1 hm rfl ?_
 walk_at "w5"
 refine P9 (p7 (l:=s.bl) rfl W.se (.inr ⟨a,rfl⟩) ?_)
 walk_at "w5"
 cases e1:v9 s a with
 | false =>
  have e:j3 s a b=(("NotFixed",.non,s):Rs):=by unfold j3;rw [if_pos ⟨ha,hb⟩,if_neg (ftt e1)]
  rw [e] at h2
  refine ifT (show (!v9 s a)=true by rw [e1];rfl) ?_
  walk_at "w5"
  exact h2 (by dsimp only;decide)
 | true =>
  refine ifF (show (!v9 s a)=false by rw [e1];rfl) ?_
  have cn:=W.cn
  walk_at "w5"
  refine A1 hm rfl ?_
  walk_at "w5"
  refine if2 (fun hl=>?_) (fun hl=>?_)
  ·have e:j3 s a b=(("Full",.non,s):Rs):=by unfold j3;rw [if_pos ⟨ha,hb⟩,if_pos e1,if_neg (by omega)]
   rw [e] at h2
   walk_at "w5"
   exact h2 (by dsimp only;decide)
  ·have e:j3 s a b=(("",.int s.co.length,{ s with co:=s.co ++ [N1 s a b] }):Rs):=by unfold j3;rw [if_pos ⟨ha,hb⟩,if_pos e1,if_pos (by omega)]
   rw [e] at h1
   walk_at "w5"
   refine aL0 ?_
   walk_at "w5"
   refine ⟨m,_,_,_,rfl,hm,by simp,rfl,?_⟩
   walk_at "w5"
   refine aQ4 (by simp;omega) ?_
   refine ⟨_,hm,by simp,?_⟩
   have e3:(O.ins "Mint" (v8 "output" (.tup (s.co ++ [.tup [.int a,mk (at1 s.lo a),.int b,mk (at1 s.up b),.int s.yr]])) [("bench",.tup s.bl),("laid_off",.tup (s.go.map .int)),("lower_wear",.tup (mks s.lo)),("upper_wear",.tup (mks s.up)),("present",.int s.yr),("output",.tup s.co)]))=i0 { s with co:=s.co ++ [N1 s a b] }:=rfl
   rw [e3]
   have hm2:(g.set m (i0 { s with co:=s.co ++ [N1 s a b] }))[m]?=some (i0 { s with co:=s.co ++ [N1 s a b] }):=get_set hm
   walk_at "w5"
   refine A1 hm2 rfl ?_
   walk_at "w5"
   have:=h1 rfl
   rw [show ((s.co ++ [N1 s a b]).length:Int) - 1=s.co.length by rw [List.length_append];simp]
   exact this
theorem aS9 (hT:TQ T) (hm:g[m]?=some (i0 s)) {n:Int} (h1:(u3 s n).1=""->Q .non (g.set m (i0 (u3 s n).2.2))) (h2:(u3 s n).1 ≠ ""->E ⟨(u3 s n).1⟩ g):b9 T (k + 3) 59 [.ref m,.int n] g Q E:=by
 refine call_of hT.h59 rfl ?_
 dsimp [A6,d8,List.replicate]
 walk_at "w5"
 refine A1 hm rfl ?_
 walk_at "w5"
 refine A5 hT.tm.nf ?_
 walk_at "w5"
 by_cases hv:s.yr + 1 <= n/\n <= 9999
 ·have e:u3 s n=(("",.non,{ s with yr:=n }):Rs):=by unfold u3;rw [if_pos hv]
  rw [e] at h1
  rw [decide_eq_true hv.1,decide_eq_true hv.2]
  refine ifF rfl ?_
  walk_at "w5"
  refine G9 hm (by simp) (by simp) ?_
  walk_at "w5"
  exact h1 rfl
 ·have e:u3 s n=(("BadYear",.non,s):Rs):=by unfold u3;rw [if_neg hv]
  rw [e] at h2
  have:(decide (s.yr + 1 <= n) && decide (n <= 9999))=false:=by
   rw [Bool.and_eq_false_iff,decide_eq_false_iff_not,decide_eq_false_iff_not]
   exact Classical.not_and_iff_not_or_not.mp hv
  rw [this]
  refine ifT rfl ?_
  walk_at "w5"
  exact h2 (by dsimp only;decide)
theorem am0 (hT:TQ T) (hm:g[m]?=some (i0 s)) (h:Q (.ref g.length) (g ++ [.lst s.bl])):b9 T (k + 1) 60 [.ref m] g Q E:=by
 refine call_of hT.tm.h60 rfl ?_
 dsimp [E5,d8,List.replicate]
 walk_at "w5"
 refine A1 hm rfl ?_
 walk_at "w5"
 exact h
theorem bh5 (hT:TQ T) (hm:g[m]?=some (i0 s)) (h:Q (.int s.yr) g):b9 T (k + 1) 64 [.ref m] g Q E:=by
 refine call_of hT.tm.h64 rfl ?_
 dsimp [O0,d8,List.replicate]
 walk_at "w5"
 exact A1 hm rfl h
theorem aF4 (hT:TQ T) (hm:g[m]?=some (i0 s)) (h:Q (.int s.co.length) g):b9 T (k + 1) 65 [.ref m] g Q E:=by
 refine call_of hT.tm.h65 rfl ?_
 dsimp [E2,d8,List.replicate]
 walk_at "w5"
 refine A1 hm rfl ?_
 walk_at "w5"
 exact h
theorem ay7 (hT:TQ T) (hm:g[m]?=some (i0 s)) {i:Int} (h1:∀ c,0 <= i->i < s.co.length->s.co[i.toNat]?=some c->Q c g) (h2:¬ (0 <= i/\i < s.co.length)->E ⟨"NoCoin"⟩ g):b9 T (k + 3) 66 [.ref m,.int i] g Q E:=by
 refine call_of hT.tm.h66 rfl ?_
 dsimp [O9,d8,List.replicate]
 walk_at "w5"
 refine A1 hm rfl ?_
 walk_at "w5"
 refine A5 hT.tm.nf ?_
 walk_at "w5"
 by_cases hv:0 <= i/\i < s.co.length
 ·rw [decide_eq_true hv.1,decide_eq_true (show i <= (s.co.length:Int) - 1 by omega)]
  refine ifF rfl ?_
  walk_at "w5"
  refine A1 hm rfl ?_
  walk_at "w5"
  have hi:i.toNat < s.co.length:=by omega
  have e:=List.getElem?_eq_getElem hi
  have e2:=S1 (xs:=s.co) (j:=i.toNat) e
  rw [show ((i.toNat:Nat):Int)=i by omega] at e2
  refine aI2 e2 ?_
  walk_at "w5"
  exact h1 _ hv.1 hv.2 e
 ·have:(decide (0 <= i) && decide (i <= (s.co.length:Int) - 1))=false:=by
   rw [Bool.and_eq_false_iff,decide_eq_false_iff_not,decide_eq_false_iff_not]
   rcases Classical.not_and_iff_not_or_not.mp hv with z | z
   ·exact .inl z
   ·exact .inr (by omega)
  rw [this]
  refine ifT rfl ?_
  walk_at "w5"
  exact h2 hv
theorem aQ6 (hT:TQ T) (hm:g[m]?=some (i0 s)) {c:Nat} (hc:g[c]?=some (.lst (j0 0 s.co.length))) (hz:s.co.length <= 1000) (h:Q (.ref g.length) (g ++ [.lst s.co])):b9 T (k + 4) 67 [.ref m,.ref c] g Q E:=by
 refine call_of hT.tm.h67 rfl ?_
 dsimp [C9,d8,List.replicate]
 walk_at "w5"
 refine S2 (g0 T _) (i_l (g0 T _) ?_)
 walk_at "w5"
 refine ⟨c,_,rfl,a8 hc,j0 0 s.co.length,fun i ys σ g'=>ys=s.co.take i/\g'=g/\∃ z1 z2,σ=[some (.ref m),z1,z2],by rw [w6];exact hz,fun i ys σ g' p=>?_,⟨by simp,rfl,_,_,rfl⟩,fun i y ys σ g' hy p=>?_,fun ys σ g' p=>?_⟩
 ·obtain ⟨rfl,rfl,_⟩:=p
  exact ⟨E6 (a8 hc),by rw [List.length_take];omega⟩
 ·obtain ⟨rfl,rfl,z1,z2,rfl⟩:=p
  obtain ⟨hi,rfl⟩:=R0 hy
  refine A3 ?_
  try show wpT _ _ _ _ _ _
  walk_at "w5"
  refine i8 hm rfl rfl ?_
  walk_at "w5"
  refine ay7 (k:=k) hT hm (fun c' _ _ e=>?_) (fun z=>absurd ⟨by omega,by omega⟩ z)
  refine ⟨?_,rfl,_,_,rfl⟩
  rw [show ((0:Int) + (i:Int)).toNat=i by omega] at e
  rw [List.take_add_one,e]
  rfl
 ·obtain ⟨rfl,rfl,_⟩:=p
  rw [w6,List.take_length]
  exact h
end
noncomputable def P0:MDef:=⟨4,5,(.seq (.ifs (.tst (.prim (.cmp .NotIn) (.cons (.var 1) (.cons (.prim .lst (.cons (.lit (.str "lower")) (.cons (.lit (.str "upper")) .nil))) .nil)))) (.seq (.ret (.prim .tup (.cons (.lit (.str "BadSide")) (.cons (.lit .non) .nil)))) .pass) .pass) (.seq (.ifs (.not_ (.tst (.chain .LtE .LtE (.lit (.int 1)) (.var 2) (.prim .len (.cons (.prim .ix (.cons (.var 0) (.cons (.var 1) .nil))) .nil))))) (.seq (.ret (.prim .tup (.cons (.lit (.str "NoDie")) (.cons (.lit .non) .nil)))) .pass) .pass) (.seq (.ifs (.and_ (.tst (.prim (.cmp .Eq) (.cons (.var 1) (.cons (.lit (.str "lower")) .nil)))) (.tst (.prim (.cmp .In) (.cons (.var 2) (.cons (.prim .ix (.cons (.var 0) (.cons (.lit (.str "gone")) .nil))) .nil))))) (.seq (.ret (.prim .tup (.cons (.lit (.str "Gone")) (.cons (.lit .non) .nil)))) .pass) .pass) (.seq (.ifs (.not_ (.tst (.chain .LtE .LtE (.lit (.int 0)) (.var 3) (.lit (.int 7))))) (.seq (.ret (.prim .tup (.cons (.lit (.str "BadSpot")) (.cons (.lit .non) .nil)))) .pass) .pass) (.seq (.set 4 (.prim .ix (.cons (.prim .ix (.cons (.var 0) (.cons (.var 1) .nil))) (.cons (.prim (.bin .Sub) (.cons (.var 2) (.cons (.lit (.int 1)) .nil))) .nil)))) (.seq (.ifs (.tst (.prim (.cmp .In) (.cons (.var 3) (.cons (.var 4) .nil)))) (.seq (.ret (.prim .tup (.cons (.lit (.str "Marked")) (.cons (.lit .non) .nil)))) .pass) .pass) (.seq (.setix (.prim .ix (.cons (.var 0) (.cons (.var 1) .nil))) (.prim (.bin .Sub) (.cons (.var 2) (.cons (.lit (.int 1)) .nil))) (.prim .tuple (.cons (.comp [4,3] 4 (.one 3) (.itR1 (.lit (.int 8))) (.or_ (.tst (.prim (.cmp .Eq) (.cons (.var 3) (.cons (.var 1) .nil)))) (.tst (.prim (.cmp .In) (.cons (.var 3) (.cons (.var 0) .nil))))) (.var 3)) .nil))) (.seq (.ret (.prim .tup (.cons (.lit (.str "")) (.cons (.lit .non) .nil)))) .pass))))))))⟩
noncomputable def L4:MDef:=⟨3,3,(.seq (.ifs (.or_ (.not_ (.tst (.chain .LtE .LtE (.lit (.int 1)) (.var 1) (.prim .len (.cons (.prim .ix (.cons (.var 0) (.cons (.lit (.str "lower")) .nil))) .nil))))) (.not_ (.tst (.chain .LtE .LtE (.lit (.int 1)) (.var 2) (.prim .len (.cons (.prim .ix (.cons (.var 0) (.cons (.lit (.str "upper")) .nil))) .nil)))))) (.seq (.ret (.prim .tup (.cons (.lit (.str "NoDie")) (.cons (.lit .non) .nil)))) .pass) .pass) (.seq (.ifs (.tst (.prim (.cmp .NotIn) (.cons (.var 1) (.cons (.prim .ix (.cons (.var 0) (.cons (.lit (.str "seats")) .nil))) .nil)))) (.seq (.ret (.prim .tup (.cons (.lit (.str "NotFixed")) (.cons (.lit .non) .nil)))) .pass) .pass) (.seq (.ifs (.tst (.prim (.cmp .Gt) (.cons (.prim .len (.cons (.prim .ix (.cons (.var 0) (.cons (.lit (.str "coins")) .nil))) .nil)) (.cons (.lit (.int 199)) .nil)))) (.seq (.ret (.prim .tup (.cons (.lit (.str "Full")) (.cons (.lit .non) .nil)))) .pass) .pass) (.seq (.expr (.meth .append (.prim .ix (.cons (.var 0) (.cons (.lit (.str "coins")) .nil))) (.cons (.prim .tup (.cons (.var 1) (.cons (.prim .ix (.cons (.prim .ix (.cons (.var 0) (.cons (.lit (.str "lower")) .nil))) (.cons (.prim (.bin .Sub) (.cons (.var 1) (.cons (.lit (.int 1)) .nil))) .nil))) (.cons (.var 2) (.cons (.prim .ix (.cons (.prim .ix (.cons (.var 0) (.cons (.lit (.str "upper")) .nil))) (.cons (.prim (.bin .Sub) (.cons (.var 2) (.cons (.lit (.int 1)) .nil))) .nil))) (.cons (.prim .ix (.cons (.var 0) (.cons (.lit (.str "year")) .nil))) .nil)))))) .nil))) (.seq (.ret (.prim .tup (.cons (.lit (.str "")) (.cons (.prim (.bin .Sub) (.cons (.prim .len (.cons (.prim .ix (.cons (.var 0) (.cons (.lit (.str "coins")) .nil))) .nil)) (.cons (.lit (.int 1)) .nil))) .nil)))) .pass)))))⟩
noncomputable def mKv (q:Nat) (y:Int):List (Key × D):=[(.inr "seats",.ref (q + 2)),(.inr "lower",.ref (q + 3)),(.inr "upper",.ref (q + 4)),(.inr "gone",.ref (q + 5)),(.inr "year",.int y),(.inr "coins",.ref (q + 6))]
structure MD (g:G) (q:Nat) (t:MSt):Prop where
 dic:g[q]?=some (.dic (mKv q t.yr))
 seats:g[q + 2]?=some (.lst t.bl)
 lower:g[q + 3]?=some (.lst (mks t.lo))
 upper:g[q + 4]?=some (.lst (mks t.up))
 gone:g[q + 5]?=some (.lst (t.go.map .int))
 coins:g[q + 6]?=some (.lst t.co)
structure Kq (q:Nat) (g g':G):Prop where
 len:g.length <= g'.length
 old:∀ i,(i < q \/ q + 7 <= i)->i < g.length->g'[i]?=g[i]?
theorem Kq.at {q:Nat} {g g':G} (h:Kq q g g') {i:Nat} {o:O} (hi:i < q \/ q + 7 <= i) (e:g[i]?=some o):g'[i]?=some o:=(h.old i hi (B2 e)).trans e
theorem Kq.refl {q:Nat} {g:G}:Kq q g g:=⟨Nat.le_refl _,fun _ _ _=>rfl⟩
theorem Kq.trans {q:Nat} {g g1 g2:G} (a:Kq q g g1) (b:Kq q g1 g2):Kq q g g2:=⟨Nat.le_trans a.len b.len,fun i h hi=>(b.old i h (Nat.lt_of_lt_of_le hi a.len)).trans (a.old i h hi)⟩
theorem Kq.ex {q:Nat} {g g':G} (h:Ex g g'):Kq q g g':=⟨h.len,fun i _ hi=>h.old i hi⟩
theorem Kq.set {q i:Nat} {g:G} {o:O} (h:q <= i/\i < q + 7):Kq q g (g.set i o):=⟨by simp,fun j hj _=>by rw [List.getElem?_set_ne (by omega)]⟩
theorem Kq.draw {q d:Nat} {g g':G} (h:Kq q g g') (hd:d < q) (D0:k8 g d):k8 g' d:=by
 obtain ⟨s,p,b,r,xs,h1,h2,h3,h4⟩:=D0.ex
 exact ⟨s,p,b,r,xs,h.at (by omega) h1,h.at (by omega) h2,h3,h4⟩
theorem MD.ex {g g':G} {q:Nat} {t:MSt} (h:MD g q t) (x:Ex g g'):MD g' q t:=⟨x.at h.dic,x.at h.seats,x.at h.lower,x.at h.upper,x.at h.gone,x.at h.coins⟩
theorem MD.gr {g g':G} {q d:Nat} {t:MSt} (h:MD g q t) (x:Gr d g g') (hd:d < q):MD g' q t:=⟨x.at (by omega) h.dic,x.at (by omega) h.seats,x.at (by omega) h.lower,x.at (by omega) h.upper,x.at (by omega) h.gone,x.at (by omega) h.coins⟩
theorem MD.av0 {g:G} {q i:Nat} {t:MSt} {o:O} (h:MD g q t) (hi:i < q \/ q + 7 <= i):MD (g.set i o) q t:=⟨b8 h.dic (by omega),b8 h.seats (by omega),b8 h.lower (by omega),b8 h.upper (by omega),b8 h.gone (by omega),b8 h.coins (by omega)⟩
theorem MD.bl2 {g:G} {q:Nat} {t:MSt} (h:MD g q t) (w:List D):MD (g.set (q + 2) (.lst w)) q { t with bl:=w }:=⟨b8 h.dic (by omega),get_set h.seats,b8 h.lower (by omega),b8 h.upper (by omega),b8 h.gone (by omega),b8 h.coins (by omega)⟩
theorem MD.bH9 {g:G} {q:Nat} {t:MSt} (h:MD g q t) (w:List (List Int)):MD (g.set (q + 3) (.lst (mks w))) q { t with lo:=w }:=⟨b8 h.dic (by omega),b8 h.seats (by omega),get_set h.lower,b8 h.upper (by omega),b8 h.gone (by omega),b8 h.coins (by omega)⟩
theorem MD.bH7 {g:G} {q:Nat} {t:MSt} (h:MD g q t) (w:List (List Int)):MD (g.set (q + 4) (.lst (mks w))) q { t with up:=w }:=⟨b8 h.dic (by omega),b8 h.seats (by omega),b8 h.lower (by omega),get_set h.upper,b8 h.gone (by omega),b8 h.coins (by omega)⟩
theorem MD.setG {g:G} {q:Nat} {t:MSt} (h:MD g q t) (w:List Int):MD (g.set (q + 5) (.lst (w.map .int))) q { t with go:=w }:=⟨b8 h.dic (by omega),b8 h.seats (by omega),b8 h.lower (by omega),b8 h.upper (by omega),get_set h.gone,b8 h.coins (by omega)⟩
theorem MD.setC {g:G} {q:Nat} {t:MSt} (h:MD g q t) (w:List D):MD (g.set (q + 6) (.lst w)) q { t with co:=w }:=⟨b8 h.dic (by omega),b8 h.seats (by omega),b8 h.lower (by omega),b8 h.upper (by omega),b8 h.gone (by omega),get_set h.coins⟩
theorem MD.bH6 {g:G} {q:Nat} {t:MSt} (h:MD g q t) (n:Int):MD (g.set q (.dic (mKv q n))) q { t with yr:=n }:=⟨get_set h.dic,b8 h.seats (by omega),b8 h.lower (by omega),b8 h.upper (by omega),b8 h.gone (by omega),b8 h.coins (by omega)⟩
theorem kvS {q:Nat} {y:Int}:K4 (mKv q y) (.inr "seats")=some (.ref (q + 2)):=rfl
theorem kvL {q:Nat} {y:Int}:K4 (mKv q y) (.inr "lower")=some (.ref (q + 3)):=rfl
theorem kvU {q:Nat} {y:Int}:K4 (mKv q y) (.inr "upper")=some (.ref (q + 4)):=rfl
theorem kvG {q:Nat} {y:Int}:K4 (mKv q y) (.inr "gone")=some (.ref (q + 5)):=rfl
theorem kvY {q:Nat} {y:Int}:K4 (mKv q y) (.inr "year")=some (.int y):=rfl
theorem kvC {q:Nat} {y:Int}:K4 (mKv q y) (.inr "coins")=some (.ref (q + 6)):=rfl
theorem MD.side {g:G} {q:Nat} {t:MSt} {x:Str} (h:MD g q t) (hx:y9 x):∃ r,(r=q + 3 \/ r=q + 4)/\K4 (mKv q t.yr) (.inr x)=some (.ref r)/\g[r]?=some (.lst (mks (t.side x)))/\∀ w,MD (g.set r (.lst (mks w))) q (t.put x w):=by
 rcases hx with rfl | rfl
 ·refine ⟨q + 3,.inl rfl,kvL,by rw [F9];exact h.lower,fun w=>?_⟩
  unfold MSt.put
  rw [if_pos rfl]
  exact h.bH9 w
 ·refine ⟨q + 4,.inr rfl,kvU,by rw [F8];exact h.upper,fun w=>?_⟩
  unfold MSt.put
  rw [if_neg (by decide)]
  exact h.bH7 w
section
variable {T:Nat->Option MDef} {k d:Nat} {g:G} {Q:KD} {E:KX} {q:Nat} {s:MSt} {x:Str}
noncomputable abbrev ap2 (q:Nat) (g:G) (r:Rs) (Q:KD):Prop:=∀ g',Kq q g g'->MD g' q r.2.2->Q (.tup [.str r.1,r.2.1]) g'
theorem aY3 (h46:T 46=some ac8) (M0:MD g q s) (W:WS s) (ho:PyData.strOk x=true) (h:ap2 q g (v7 s x) Q):b9 T (k + 1) 46 [.ref q,.str x] g Q E:=by
 refine call_of h46 rfl ?_
 dsimp [ac8,d8,List.replicate]
 walk_at "w5"
 have e1:Ex g (g ++ [O.lst [.str "lower",.str "upper"]]):=Ex.snoc _ _
 refine P9 (aq7 i5 ho ?_)
 have M1:=M0.ex e1
 have k1:=Kq.ex (q:=q) e1
 have sl:=W7 (x:=x) W
 generalize g ++ [O.lst [.str "lower",.str "upper"]]=g1 at *
 walk_at "w5"
 by_cases hx:y9 x
 ·refine ifF (by rw [Bool.not_eq_false',Bool.or_eq_true,decide_eq_true_iff,decide_eq_true_iff];exact hx) ?_
  obtain ⟨r,hr,hkv,hrl,hset⟩:=M1.side hx
  walk_at "w5"
  refine j8 M1.dic rfl hkv ?_
  refine p6 (a8 hrl) ?_
  walk_at "w5"
  rw [List.length_map]
  refine if2 (fun c=>?_) (fun c=>?_)
  ·have e:v7 s x=(("Full",.non,s):Rs):=by unfold v7;rw [if_pos hx,if_neg (by omega)]
   rw [e] at h
   walk_at "w5"
   exact h _ k1 M1
  ·have e:v7 s x=(("",.int ((s.side x).length + 1),s.put x (s.side x ++ [[]])):Rs):=by unfold v7;rw [if_pos hx,if_pos (by omega)]
   rw [e] at h
   walk_at "w5"
   refine j8 M1.dic rfl hkv ?_
   refine ⟨aj9 hrl,?_⟩
   walk_at "w5"
   refine aH7 hrl (by simp;omega) ?_
   have e2:mks (s.side x) ++ [D.tup []]=mks (s.side x ++ [[]]):=by rw [mks,mks,List.map_append];rfl
   rw [e2]
   have M2:=hset (s.side x ++ [[]])
   have hr2:(g1.set r (.lst (mks (s.side x ++ [[]]))))[r]?=some (.lst (mks (s.side x ++ [[]]))):=get_set hrl
   have hd2:(g1.set r (.lst (mks (s.side x ++ [[]]))))[q]?=some (.dic (mKv q s.yr)):=b8 M1.dic (by omega)
   walk_at "w5"
   refine j8 hd2 rfl hkv ?_
   refine p6 (a8 hr2) ?_
   walk_at "w5"
   rw [List.length_map,List.length_append]
   have:=h _ (k1.trans (Kq.set (i:=r) (by omega))) M2
   exact this
 ·refine ifT (by rw [Bool.not_eq_true',Bool.or_eq_false_iff,decide_eq_false_iff_not,decide_eq_false_iff_not];exact not_or.mp hx) ?_
  have e:v7 s x=(("BadSide",.non,s):Rs):=by unfold v7;rw [if_neg hx]
  rw [e] at h
  walk_at "w5"
  exact h _ k1 M1
theorem aY2 (hi:T 178=some ac7) (M0:MD g q s) (W:WS s) {v:Int} (h:ap2 q g (o6 s v) Q):b9 T (k + 1) 178 [.ref q,.int v] g Q E:=by
 refine call_of hi rfl ?_
 dsimp [ac7,d8,List.replicate]
 walk_at "w5"
 have no:¬ (1 <= v/\v <= s.lo.length)->Q (.tup [.str "NoDie",.non]) g:=fun hv=>by
  have e:o6 s v=(("NoDie",.non,s):Rs):=by unfold o6;rw [if_neg hv]
  rw [e] at h
  exact h _ Kq.refl M0
 by_cases hv1:1 <= v
 ·rw [decide_eq_true hv1]
  walk_at "w5"
  refine j8 M0.dic rfl kvL ?_
  refine p6 (a8 M0.lower) ?_
  walk_at "w5"
  rw [List.length_map]
  by_cases hv2:v <= (s.lo.length:Int)
  ·rw [decide_eq_true hv2]
   walk_at "w5"
   refine j8 M0.dic rfl kvS ?_
   refine T6 (p7 (l:=s.bl) (a8 M0.seats) W.se (.inr ⟨v,rfl⟩) ?_)
   walk_at "w5"
   cases e1:v9 s v with
   | true =>
    have e:o6 s v=(("Fixed",.non,s):Rs):=by unfold o6;rw [if_pos ⟨hv1,hv2⟩,if_pos e1]
    rw [e] at h
    refine ifT e1 ?_
    walk_at "w5"
    exact h _ Kq.refl M0
   | false =>
    refine ifF e1 ?_
    walk_at "w5"
    refine j8 M0.dic rfl kvG ?_
    refine T6 (p7 (l:=s.go.map D.int) (a8 M0.gone) C5 (.inr ⟨v,rfl⟩) ?_)
    walk_at "w5"
    cases e2:F2 s v with
    | true =>
     have e:o6 s v=(("Gone",.non,s):Rs):=by unfold o6;rw [if_pos ⟨hv1,hv2⟩,if_neg (ftt e1),if_pos e2]
     rw [e] at h
     refine ifT e2 ?_
     walk_at "w5"
     exact h _ Kq.refl M0
    | false =>
     refine ifF e2 ?_
     walk_at "w5"
     refine j8 M0.dic rfl kvS ?_
     refine P9 (p7 (l:=s.bl) (a8 M0.seats) W.se (.inl rfl) ?_)
     walk_at "w5"
     cases e3:s.bl.any (eqS .non) with
     | false =>
      have e:o6 s v=(("NoAnvil",.non,s):Rs):=by unfold o6;rw [if_pos ⟨hv1,hv2⟩,if_neg (ftt e1),if_neg (ftt e2),if_neg (ftt e3)]
      rw [e] at h
      refine ifT rfl ?_
      walk_at "w5"
      exact h _ Kq.refl M0
     | true =>
      have e:o6 s v=(("",.int (plN s.bl .non),{ s with bl:=s.bl.set (plN s.bl .non) (.int v) }):Rs):=by unfold o6;rw [if_pos ⟨hv1,hv2⟩,if_neg (ftt e1),if_neg (ftt e2),if_pos e3]
      rw [e] at h
      refine ifF rfl ?_
      obtain ⟨F,hn,_⟩:=N7 W.se (.inl rfl) e3
      have bn:=W.bn
      walk_at "w5"
      refine j8 M0.dic rfl kvS ?_
      refine ⟨aP2 (a8 M0.seats),?_⟩
      walk_at "w5"
      refine a74 (a8 M0.seats) F (by omega) ?_
      walk_at "w5"
      refine j8 M0.dic rfl kvS ?_
      walk_at "w5"
      refine P8 M0.seats (an9 hn) ?_
      walk_at "w5"
      exact h _ (Kq.set (i:=q + 2) (by omega)) (M0.bl2 _)
  ·rw [decide_eq_false hv2]
   walk_at "w5"
   exact no fun z=>hv2 z.2
 ·rw [decide_eq_false hv1]
  walk_at "w5"
  exact no fun z=>hv1 z.1
theorem aY1 (hi:T 179=some ac6) (M0:MD g q s) (W:WS s) {v:Int} (h:ap2 q g (v5 s v) Q):b9 T (k + 1) 179 [.ref q,.int v] g Q E:=by
 refine call_of hi rfl ?_
 dsimp [ac6,d8,List.replicate]
 walk_at "w5"
 have no:¬ (1 <= v/\v <= s.lo.length)->Q (.tup [.str "NoDie",.non]) g:=fun hv=>by
  have e:v5 s v=(("NoDie",.non,s):Rs):=by unfold v5;rw [if_neg hv]
  rw [e] at h
  exact h _ Kq.refl M0
 by_cases hv1:1 <= v
 ·rw [decide_eq_true hv1]
  walk_at "w5"
  refine j8 M0.dic rfl kvL ?_
  refine p6 (a8 M0.lower) ?_
  walk_at "w5"
  rw [List.length_map]
  by_cases hv2:v <= (s.lo.length:Int)
  ·rw [decide_eq_true hv2]
   walk_at "w5"
   refine j8 M0.dic rfl kvS ?_
   refine P9 (p7 (l:=s.bl) (a8 M0.seats) W.se (.inr ⟨v,rfl⟩) ?_)
   walk_at "w5"
   cases e1:v9 s v with
   | false =>
    have e:v5 s v=(("NotFixed",.non,s):Rs):=by unfold v5;rw [if_pos ⟨hv1,hv2⟩,if_neg (ftt e1)]
    rw [e] at h
    refine ifT (show (!v9 s v)=true by rw [e1];rfl) ?_
    walk_at "w5"
    exact h _ Kq.refl M0
   | true =>
    have e:v5 s v=(("",.int (plN s.bl (.int v)),{ s with bl:=s.bl.set (plN s.bl (.int v)) .non,go:=s.go ++ [v] }):Rs):=by unfold v5;rw [if_pos ⟨hv1,hv2⟩,if_pos e1]
    rw [e] at h
    refine ifF (show (!v9 s v)=false by rw [e1];rfl) ?_
    obtain ⟨F,hn,_⟩:=N7 W.se (.inr ⟨v,rfl⟩) e1
    have bn:=W.bn
    have gl:=aR0 W
    walk_at "w5"
    refine j8 M0.dic rfl kvS ?_
    refine ⟨aP2 (a8 M0.seats),?_⟩
    walk_at "w5"
    refine a74 (a8 M0.seats) F (by omega) ?_
    walk_at "w5"
    refine j8 M0.dic rfl kvS ?_
    walk_at "w5"
    refine P8 M0.seats (an9 hn) ?_
    have M1:=M0.bl2 (s.bl.set (plN s.bl (.int v)) .non)
    walk_at "w5"
    refine j8 M1.dic rfl kvG ?_
    refine ⟨aj9 M1.gone,?_⟩
    walk_at "w5"
    refine aH7 M1.gone (by simp;omega) ?_
    have M2:=M1.setG (s.go ++ [v])
    rw [List.map_append] at M2
    walk_at "w5"
    exact h _ ((Kq.set (i:=q + 2) (by omega)).trans (Kq.set (i:=q + 5) (by omega))) M2
  ·rw [decide_eq_false hv2]
   walk_at "w5"
   exact no fun z=>hv2 z.2
 ·rw [decide_eq_false hv1]
  walk_at "w5"
  exact no fun z=>hv1 z.1
theorem ba9 {l:List (List Int)} {v:Int} {w:List Int}:(mks l).set (v - 1).toNat (mk w)=mks (l.set (v - 1).toNat w):=by rw [mks,mks,List.map_set]
theorem bA8 {n:Nat} {v:Int} (hv:1 <= v/\v <= n):ixN n (v - 1)=some (v - 1).toNat:=by
 have:=an9 (n:=n) (k:=(v - 1).toNat) (by omega)
 rwa [show (((v - 1).toNat:Nat):Int)=v - 1 by omega] at this
theorem aP0 (hi:T 181=some P0) (M0:MD g q s) (W:WS s) (ho:PyData.strOk x=true) {v j:Int} (h:ap2 q g (j4 s x v j) Q):b9 T (k + 1) 181 [.ref q,.str x,.int v,.int j] g Q E:=by
 refine call_of hi rfl ?_
 dsimp [P0,d8,List.replicate]
 walk_at "w5"
 have e1:Ex g (g ++ [O.lst [.str "lower",.str "upper"]]):=Ex.snoc _ _
 refine P9 (aq7 i5 ho ?_)
 have M1:=M0.ex e1
 have k1:=Kq.ex (q:=q) e1
 have sl:=W7 (x:=x) W
 generalize g ++ [O.lst [.str "lower",.str "upper"]]=g1 at *
 walk_at "w5"
 by_cases hx:y9 x
 ·refine ifF (by rw [Bool.not_eq_false',Bool.or_eq_true,decide_eq_true_iff,decide_eq_true_iff];exact hx) ?_
  obtain ⟨r,hr,hkv,hrl,hset⟩:=M1.side hx
  have no:¬ (1 <= v/\v <= (s.side x).length)->Q (.tup [.str "NoDie",.non]) g1:=fun hv=>by
   have e:j4 s x v j=(("NoDie",.non,s):Rs):=by unfold j4;rw [if_pos hx,if_neg hv]
   rw [e] at h
   exact h _ k1 M1
  walk_at "w5"
  by_cases hv1:1 <= v
  ·rw [decide_eq_true hv1]
   walk_at "w5"
   refine j8 M1.dic rfl hkv ?_
   refine p6 (a8 hrl) ?_
   walk_at "w5"
   rw [List.length_map]
   by_cases hv2:v <= ((s.side x).length:Int)
   ·rw [decide_eq_true hv2]
    have hv:1 <= v/\v <= (s.side x).length:=⟨hv1,hv2⟩
    have mkl:=am5 W hx hv
    have fin:∀ (N:Ends),N.rt=Q->¬ (x="lower"/\F2 s v=true)->wpS (b9 T k) (match P0.body with | .seq _ (.seq _ (.seq _ b))=>b | x=>x) N [some (.ref q),some (.str x),some (.int v),some (.int j),none] g1 E:=by
     intro N hN hgo
     dsimp [P0]
     have bad:¬ (0 <= j/\j <= 7)->N.rt (.tup [.str "BadSpot",.non]) g1:=fun hj=>by
      have e:j4 s x v j=(("BadSpot",.non,s):Rs):=by unfold j4;rw [if_pos hx,if_pos hv,if_neg hgo,if_neg hj]
      rw [e] at h
      rw [hN]
      exact h _ k1 M1
     walk_at "w5"
     by_cases hj1:0 <= j
     ·rw [decide_eq_true hj1]
      walk_at "w5"
      by_cases hj2:j <= 7
      ·rw [decide_eq_true hj2]
       walk_at "w5"
       refine j8 M1.dic rfl hkv ?_
       walk_at "w5"
       refine L6 (a8 hrl) (ab4 hv) ?_
       walk_at "w5"
       refine T6 (ad3 (l:=at1 (s.side x) v) rfl ?_)
       walk_at "w5"
       by_cases hq:j ∈ at1 (s.side x) v
       ·have e:j4 s x v j=(("Marked",.non,s):Rs):=by unfold j4;rw [if_pos hx,if_pos hv,if_neg hgo,if_pos ⟨hj1,hj2⟩,if_pos hq]
        rw [e] at h
        rw [decide_eq_true hq]
        refine ift ?_
        walk_at "w5"
        rw [hN]
        exact h _ k1 M1
       ·have e:j4 s x v j=(("",.non,s.put x ((s.side x).set (v - 1).toNat (markL (at1 (s.side x) v) j))):Rs):=by unfold j4;rw [if_pos hx,if_pos hv,if_neg hgo,if_pos ⟨hj1,hj2⟩,if_neg hq]
        rw [e] at h
        rw [decide_eq_false hq]
        refine aa8 ?_
        walk_at "w5"
        refine ai6 (g0 T _) ?_
        walk_at "w5"
        refine ⟨8,rfl,by omega,fun i ys σ g2=>∃ z2 z3,ys=((W9.take i).filter fun i=>decide (i=j \/ i ∈ at1 (s.side x) v)).map .int/\σ=[some (mk (at1 (s.side x) v)),some (.int j),z2,z3]/\g2=g1,⟨none,none,rfl,rfl,rfl⟩,fun i ys σ g2 p=>?_,fun i ys σ g2 hi p=>?_,fun ys σ g2 p=>?_⟩
        ·obtain ⟨_,_,rfl,_⟩:=p
         rw [List.length_map]
         exact Nat.le_trans (List.length_filter_le _ _) (by rw [List.length_take];omega)
        ·obtain ⟨z2,z3,rfl,rfl,rfl⟩:=p
         refine A3 ?_
         try show wpT _ _ _ _ _ _
         have tk:W9.take (i + 1)=W9.take i ++ [(i:Int)]:=by
          have:i=0 \/ i=1 \/ i=2 \/ i=3 \/ i=4 \/ i=5 \/ i=6 \/ i=7:=by omega
          rcases this with rfl | rfl | rfl | rfl | rfl | rfl | rfl | rfl <;> rfl
         walk_at "w5"
         by_cases hij:(i:Int)=j
         ·rw [decide_eq_true hij]
          walk_at "w5"
          refine ⟨_,_,?_,rfl,rfl⟩
          rw [tk,List.filter_append,List.map_append,show List.filter (fun i=>decide (i=j \/ i ∈ at1 (s.side x) v)) [(i:Int)]=[(i:Int)] by rw [List.filter_cons,if_pos (decide_eq_true (Or.inl hij))];rfl]
          rfl
         ·rw [decide_eq_false hij]
          walk_at "w5"
          refine T6 (ad3 (l:=at1 (s.side x) v) rfl ?_)
          walk_at "w5"
          by_cases him:(i:Int) ∈ at1 (s.side x) v
          ·rw [decide_eq_true him]
           walk_at "w5"
           refine ⟨_,_,?_,rfl,rfl⟩
           rw [tk,List.filter_append,List.map_append,show List.filter (fun i=>decide (i=j \/ i ∈ at1 (s.side x) v)) [(i:Int)]=[(i:Int)] by rw [List.filter_cons,if_pos (decide_eq_true (Or.inr him))];rfl]
           rfl
          ·rw [decide_eq_false him]
           walk_at "w5"
           refine ⟨_,_,?_,rfl,rfl⟩
           rw [tk,List.filter_append,List.map_append,show List.filter (fun i=>decide (i=j \/ i ∈ at1 (s.side x) v)) [(i:Int)]=[] by rw [List.filter_cons,if_neg (by rw [decide_eq_true_iff];exact not_or.mpr ⟨hij,him⟩)];rfl]
           simp
        ·obtain ⟨z2,z3,rfl,rfl,rfl⟩:=p
         have e2:(W9.take 8).filter (fun i=>decide (i=j \/ i ∈ at1 (s.side x) v))=markL (at1 (s.side x) v) j:=rfl
         rw [e2]
         have e3:Ex g2 (g2 ++ [O.lst ((markL (at1 (s.side x) v) j).map .int)]):=Ex.snoc _ _
         refine a27 (a8 i5) ?_
         have M3:=M1.ex e3
         obtain ⟨r',hr',hkv',hrl',hset'⟩:=M3.side hx
         generalize g2 ++ [O.lst ((markL (at1 (s.side x) v) j).map .int)]=g3 at *
         walk_at "w5"
         refine j8 M3.dic rfl hkv' ?_
         walk_at "w5"
         refine P8 hrl' (by rw [List.length_map];exact bA8 hv) ?_
         have es:=ba9 (l:=s.side x) (v:=v) (w:=markL (at1 (s.side x) v) j)
         rw [show D.tup ((markL (at1 (s.side x) v) j).map .int)=mk (markL (at1 (s.side x) v) j) from rfl,es]
         walk_at "w5"
         rw [hN]
         exact h _ (k1.trans ((Kq.ex e3).trans (Kq.set (i:=r') (by omega)))) (hset' _)
      ·rw [decide_eq_false hj2]
       walk_at "w5"
       exact bad fun z=>hj2 z.2
     ·rw [decide_eq_false hj1]
      walk_at "w5"
      exact bad fun z=>hj1 z.1
    walk_at "w5"
    refine if2 (fun hlo=>?_) (fun hlo=>?_)
    ·walk_at "w5"
     refine j8 M1.dic rfl kvG ?_
     refine T6 (p7 (l:=s.go.map D.int) (a8 M1.gone) C5 (.inr ⟨v,rfl⟩) ?_)
     walk_at "w5"
     cases e2:F2 s v with
     | true =>
      have e:j4 s x v j=(("Gone",.non,s):Rs):=by unfold j4;rw [if_pos hx,if_pos hv,if_pos ⟨hlo,e2⟩]
      rw [e] at h
      refine ifT e2 ?_
      walk_at "w5"
      exact h _ k1 M1
     | false =>
      refine ifF e2 ?_
      refine B6 ?_
      exact fin _ rfl (fun z=>ftt e2 z.2)
    ·try refine aa8 ?_
     try with_reducible refine B6 ?_
     exact fin _ rfl (fun z=>hlo z.1)
   ·rw [decide_eq_false hv2]
    walk_at "w5"
    exact no fun z=>hv2 z.2
  ·rw [decide_eq_false hv1]
   walk_at "w5"
   exact no fun z=>hv1 z.1
 ·refine ifT (by rw [Bool.not_eq_true',Bool.or_eq_false_iff,decide_eq_false_iff_not,decide_eq_false_iff_not];exact not_or.mp hx) ?_
  have e:j4 s x v j=(("BadSide",.non,s):Rs):=by unfold j4;rw [if_neg hx]
  rw [e] at h
  walk_at "w5"
  exact h _ k1 M1
theorem aA5 (hi:T 182=some L4) (M0:MD g q s) (W:WS s) {a b:Int} (h:ap2 q g (j3 s a b) Q):b9 T (k + 1) 182 [.ref q,.int a,.int b] g Q E:=by
 refine call_of hi rfl ?_
 dsimp [L4,d8,List.replicate]
 have no:¬ ((1 <= a/\a <= s.lo.length)/\(1 <= b/\b <= s.up.length))->Q (.tup [.str "NoDie",.non]) g:=fun hv=>by
  have e:j3 s a b=(("NoDie",.non,s):Rs):=by unfold j3;rw [if_neg hv]
  rw [e] at h
  exact h _ Kq.refl M0
 walk_at "w5"
 by_cases ha1:1 <= a
 ·rw [decide_eq_true ha1]
  walk_at "w5"
  refine j8 M0.dic rfl kvL ?_
  refine p6 (a8 M0.lower) ?_
  walk_at "w5"
  rw [List.length_map]
  by_cases ha2:a <= (s.lo.length:Int)
  ·rw [decide_eq_true ha2]
   walk_at "w5"
   by_cases hb1:1 <= b
   ·rw [decide_eq_true hb1]
    walk_at "w5"
    refine j8 M0.dic rfl kvU ?_
    refine p6 (a8 M0.upper) ?_
    walk_at "w5"
    rw [List.length_map]
    by_cases hb2:b <= (s.up.length:Int)
    ·rw [decide_eq_true hb2]
     have ha:1 <= a/\a <= s.lo.length:=⟨ha1,ha2⟩
     have hb:1 <= b/\b <= s.up.length:=⟨hb1,hb2⟩
     walk_at "w5"
     refine j8 M0.dic rfl kvS ?_
     refine P9 (p7 (l:=s.bl) (a8 M0.seats) W.se (.inr ⟨a,rfl⟩) ?_)
     walk_at "w5"
     cases e1:v9 s a with
     | false =>
      have e:j3 s a b=(("NotFixed",.non,s):Rs):=by unfold j3;rw [if_pos ⟨ha,hb⟩,if_neg (ftt e1)]
      rw [e] at h
      refine ifT (show (!v9 s a)=true by rw [e1];rfl) ?_
      walk_at "w5"
      exact h _ Kq.refl M0
     | true =>
      refine ifF (show (!v9 s a)=false by rw [e1];rfl) ?_
      have cn:=W.cn
      walk_at "w5"
      refine j8 M0.dic rfl kvC ?_
      refine p6 (a8 M0.coins) ?_
      walk_at "w5"
      refine if2 (fun hl=>?_) (fun hl=>?_)
      ·have e:j3 s a b=(("Full",.non,s):Rs):=by unfold j3;rw [if_pos ⟨ha,hb⟩,if_pos e1,if_neg (by omega)]
       rw [e] at h
       walk_at "w5"
       exact h _ Kq.refl M0
      ·have e:j3 s a b=(("",.int s.co.length,{ s with co:=s.co ++ [N1 s a b] }):Rs):=by unfold j3;rw [if_pos ⟨ha,hb⟩,if_pos e1,if_pos (by omega)]
       rw [e] at h
       walk_at "w5"
       refine j8 M0.dic rfl kvC ?_
       refine ⟨aj9 M0.coins,?_⟩
       walk_at "w5"
       refine j8 M0.dic rfl kvL ?_
       walk_at "w5"
       refine L6 (a8 M0.lower) (ab4 ha) ?_
       walk_at "w5"
       refine j8 M0.dic rfl kvU ?_
       walk_at "w5"
       refine L6 (a8 M0.upper) (ab4 hb) ?_
       walk_at "w5"
       refine j8 M0.dic rfl kvY ?_
       walk_at "w5"
       refine aH7 M0.coins (by omega) ?_
       have M1:=M0.setC (s.co ++ [N1 s a b])
       have e3:s.co ++ [D.tup [.int a,mk (at1 s.lo a),.int b,mk (at1 s.up b),.int s.yr]]=s.co ++ [N1 s a b]:=rfl
       rw [e3]
       walk_at "w5"
       refine j8 M1.dic rfl kvC ?_
       refine p6 (a8 M1.coins) ?_
       walk_at "w5"
       have:=h _ (Kq.set (i:=q + 6) (by omega)) M1
       dsimp only
       rw [show ((s.co ++ [N1 s a b]).length:Int) - 1=s.co.length by rw [List.length_append];simp]
       exact this
    ·rw [decide_eq_false hb2]
     walk_at "w5"
     exact no fun z=>hb2 z.2.2
   ·rw [decide_eq_false hb1]
    walk_at "w5"
    exact no fun z=>hb1 z.2.1
  ·rw [decide_eq_false ha2]
   walk_at "w5"
   exact no fun z=>ha2 z.1.2
 ·rw [decide_eq_false ha1]
  walk_at "w5"
  exact no fun z=>ha1 z.1.1
end
noncomputable def ax0:MDef:=⟨2,3,(.seq (.set 2 (.prim .ix (.cons (.var 1) (.cons (.lit (.int 0)) .nil)))) (.seq (.ifs (.tst (.prim (.cmp .Eq) (.cons (.var 2) (.cons (.lit (.str "cut")) .nil)))) (.seq (.ret (.call 46 (.cons (.var 0) (.cons (.prim .ix (.cons (.var 1) (.cons (.lit (.int 1)) .nil))) .nil)))) .pass) .pass) (.seq (.ifs (.tst (.prim (.cmp .Eq) (.cons (.var 2) (.cons (.lit (.str "fix")) .nil)))) (.seq (.ret (.call 178 (.cons (.var 0) (.cons (.prim .ix (.cons (.var 1) (.cons (.lit (.int 1)) .nil))) .nil)))) .pass) .pass) (.seq (.ifs (.tst (.prim (.cmp .Eq) (.cons (.var 2) (.cons (.lit (.str "off")) .nil)))) (.seq (.ret (.call 179 (.cons (.var 0) (.cons (.prim .ix (.cons (.var 1) (.cons (.lit (.int 1)) .nil))) .nil)))) .pass) .pass) (.seq (.ifs (.tst (.prim (.cmp .Eq) (.cons (.var 2) (.cons (.lit (.str "mark")) .nil)))) (.seq (.ret (.call 181 (.cons (.var 0) (.cons (.prim .ix (.cons (.var 1) (.cons (.lit (.int 1)) .nil))) (.cons (.prim .ix (.cons (.var 1) (.cons (.lit (.int 2)) .nil))) (.cons (.prim .ix (.cons (.var 1) (.cons (.lit (.int 3)) .nil))) .nil)))))) .pass) .pass) (.seq (.ifs (.tst (.prim (.cmp .Eq) (.cons (.var 2) (.cons (.lit (.str "strike")) .nil)))) (.seq (.ret (.call 182 (.cons (.var 0) (.cons (.prim .ix (.cons (.var 1) (.cons (.lit (.int 1)) .nil))) (.cons (.prim .ix (.cons (.var 1) (.cons (.lit (.int 2)) .nil))) .nil))))) .pass) .pass) (.seq (.ifs (.or_ (.not_ (.tst (.chain .LtE .LtE (.lit (.int 1)) (.prim .ix (.cons (.var 1) (.cons (.lit (.int 1)) .nil))) (.lit (.int 9999))))) (.tst (.prim (.cmp .LtE) (.cons (.prim .ix (.cons (.var 1) (.cons (.lit (.int 1)) .nil))) (.cons (.prim .ix (.cons (.var 0) (.cons (.lit (.str "year")) .nil))) .nil))))) (.seq (.ret (.prim .tup (.cons (.lit (.str "BadYear")) (.cons (.lit .non) .nil)))) .pass) .pass) (.seq (.setix (.var 0) (.lit (.str "year")) (.prim .ix (.cons (.var 1) (.cons (.lit (.int 1)) .nil)))) (.seq (.ret (.prim .tup (.cons (.lit (.str "")) (.cons (.lit .non) .nil)))) .pass)))))))))⟩
noncomputable def L3:MDef:=⟨2,3,(.seq (.set 2 (.prim .ix (.cons (.var 1) (.cons (.lit (.int 0)) .nil)))) (.seq (.ifs (.tst (.prim (.cmp .Eq) (.cons (.var 2) (.cons (.lit (.str "cut")) .nil)))) (.seq (.ret (.methc "cut" [("Mint",54)] (.var 0) (.cons (.prim .ix (.cons (.var 1) (.cons (.lit (.int 1)) .nil))) .nil))) .pass) .pass) (.seq (.ifs (.tst (.prim (.cmp .Eq) (.cons (.var 2) (.cons (.lit (.str "fix")) .nil)))) (.seq (.ret (.methc "fix" [("Mint",55)] (.var 0) (.cons (.prim .ix (.cons (.var 1) (.cons (.lit (.int 1)) .nil))) .nil))) .pass) .pass) (.seq (.ifs (.tst (.prim (.cmp .Eq) (.cons (.var 2) (.cons (.lit (.str "off")) .nil)))) (.seq (.ret (.methc "lay_off" [("Mint",56)] (.var 0) (.cons (.prim .ix (.cons (.var 1) (.cons (.lit (.int 1)) .nil))) .nil))) .pass) .pass) (.seq (.ifs (.tst (.prim (.cmp .Eq) (.cons (.var 2) (.cons (.lit (.str "mark")) .nil)))) (.seq (.ret (.methc "mark" [("Mint",57)] (.var 0) (.cons (.prim .ix (.cons (.var 1) (.cons (.lit (.int 1)) .nil))) (.cons (.prim .ix (.cons (.var 1) (.cons (.lit (.int 2)) .nil))) (.cons (.prim .ix (.cons (.var 1) (.cons (.lit (.int 3)) .nil))) .nil))))) .pass) .pass) (.seq (.ifs (.tst (.prim (.cmp .Eq) (.cons (.var 2) (.cons (.lit (.str "strike")) .nil)))) (.seq (.ret (.methc "strike" [("Mint",58)] (.var 0) (.cons (.prim .ix (.cons (.var 1) (.cons (.lit (.int 1)) .nil))) (.cons (.prim .ix (.cons (.var 1) (.cons (.lit (.int 2)) .nil))) .nil)))) .pass) .pass) (.seq (.ret (.methc "begin_year" [("Mint",59)] (.var 0) (.cons (.prim .ix (.cons (.var 1) (.cons (.lit (.int 1)) .nil))) .nil))) .pass)))))))⟩
inductive Dd where
 | cut (x:Str) | fix (v:Int) | off (v:Int) | mark (x:Str) (v j:Int) | strike (a b:Int) | year (n:Int)
noncomputable def Dd.d:Dd->D
 | .cut x=>.tup [.str "cut",.str x]
 | .fix v=>.tup [.str "fix",.int v]
 | .off v=>.tup [.str "off",.int v]
 | .mark x v j=>.tup [.str "mark",.str x,.int v,.int j]
 | .strike a b=>.tup [.str "strike",.int a,.int b]
 | .year n=>.tup [.str "year",.int n]
noncomputable def Dd.ok:Dd->Prop
 | .cut x=>PyData.strOk x=true
 | .mark x _ _=>PyData.strOk x=true
 | _=>True
noncomputable def doS (s:MSt):Dd->Rs
 | .cut x=>v7 s x
 | .fix v=>o6 s v
 | .off v=>v5 s v
 | .mark x v j=>j4 s x v j
 | .strike a b=>j3 s a b
 | .year n=>u3 s n
theorem bF2 {s:MSt} {dd:Dd} (W:WS s):WS (doS s dd).2.2:=by
 cases dd
 ·exact bu4 W
 ·exact bu3 W
 ·exact bu2 W
 ·exact bh4 W
 ·exact aS8 W
 ·exact bh3 W
theorem aY5 {s:MSt} {x:Str} {v j:Int}:(j4 s x v j).2.1=.non:=by unfold j4;(repeat' split) <;> rfl
theorem aT0 {s:MSt} {n:Int}:(u3 s n).2.1=.non:=by unfold u3;(repeat' split) <;> rfl
noncomputable def aR9:List Str:=["NotFixed","BadSpot","Marked","BadYear","Full","BadSide","NoDie","Fixed","Gone","NoAnvil"]
theorem bg2 {s:MSt} {dd:Dd}:(doS s dd).1="" \/ ((doS s dd).1 ∈ aR9/\(doS s dd).2=(D.non,s)):=by
 cases dd <;> (simp only [doS];first | unfold v7 | unfold o6 | unfold v5 | unfold j4 | unfold j3 | unfold u3) <;> (repeat' split) <;> first | exact .inl rfl | exact .inr ⟨by simp [aR9],rfl⟩
theorem bg3 {s:MSt} {dd:Dd}:n0 (doS s dd).2.1:=by
 cases dd <;> (simp only [doS];first | unfold v7 | unfold o6 | unfold v5 | unfold j4 | unfold j3 | unfold u3) <;> (repeat' split) <;> first | exact .inl rfl | exact .inr ⟨_,rfl⟩
structure TR (T:Nat->Option MDef):Prop where
 tq:TQ T
 h46:T 46=some ac8
 h178:T 178=some ac7
 h179:T 179=some ac6
 h181:T 181=some P0
 h182:T 182=some L4
 h183:T 183=some ax0
section
variable {T:Nat->Option MDef} {k d:Nat} {g:G} {Q:KD} {E:KX} {m q:Nat} {s:MSt} {x:Str} {dd:Dd}
theorem aH2 (hT:TQ T) (h184:T 184=some L3) (hm:g[m]?=some (i0 s)) (W:WS s) (ho:dd.ok) (h1:(doS s dd).1=""->∀ g',Ex g g'->Q (doS s dd).2.1 (g'.set m (i0 (doS s dd).2.2))) (h2:(doS s dd).1 ≠ ""->E ⟨(doS s dd).1⟩ g):b9 T (k + 6) 184 [.ref m,dd.d] g Q E:=by
 refine call_of h184 rfl ?_
 cases dd <;> dsimp [L3,d8,List.replicate,Dd.d,doS] at h1 h2 ⊢
 ·walk_at "w5"
  refine ifT (by decide +kernel) ?_
  walk_at "w5"
  refine i8 hm rfl rfl ?_
  walk_at "w5"
  exact bg6 (k:=k + 2) hT hm W ho (fun e=>h1 e g (Ex.refl _)) h2
 ·walk_at "w5"
  refine ifF (by decide +kernel) ?_
  walk_at "w5"
  refine ifT (by decide +kernel) ?_
  walk_at "w5"
  refine i8 hm rfl rfl ?_
  walk_at "w5"
  exact bg1 (k:=k) hT hm W (fun e=>h1 e g (Ex.refl _)) h2
 ·walk_at "w5"
  refine ifF (by decide +kernel) ?_
  walk_at "w5"
  refine ifF (by decide +kernel) ?_
  walk_at "w5"
  refine ifT (by decide +kernel) ?_
  walk_at "w5"
  refine i8 hm rfl rfl ?_
  walk_at "w5"
  exact be5 (k:=k) hT hm W (fun e=>h1 e g (Ex.refl _)) h2
 ·walk_at "w5"
  refine ifF (by decide +kernel) ?_
  walk_at "w5"
  refine ifF (by decide +kernel) ?_
  walk_at "w5"
  refine ifF (by decide +kernel) ?_
  walk_at "w5"
  refine ifT (by decide +kernel) ?_
  walk_at "w5"
  refine i8 hm rfl rfl ?_
  walk_at "w5"
  rw [aY5] at h1
  exact aY4 (k:=k) hT hm W ho h1 h2
 ·walk_at "w5"
  refine ifF (by decide +kernel) ?_
  walk_at "w5"
  refine ifF (by decide +kernel) ?_
  walk_at "w5"
  refine ifF (by decide +kernel) ?_
  walk_at "w5"
  refine ifF (by decide +kernel) ?_
  walk_at "w5"
  refine ifT (by decide +kernel) ?_
  walk_at "w5"
  refine i8 hm rfl rfl ?_
  walk_at "w5"
  exact aF5 (k:=k) hT hm W (fun e=>h1 e g (Ex.refl _)) h2
 ·walk_at "w5"
  refine ifF (by decide +kernel) ?_
  walk_at "w5"
  refine ifF (by decide +kernel) ?_
  walk_at "w5"
  refine ifF (by decide +kernel) ?_
  walk_at "w5"
  refine ifF (by decide +kernel) ?_
  walk_at "w5"
  refine ifF (by decide +kernel) ?_
  walk_at "w5"
  refine i8 hm rfl rfl ?_
  walk_at "w5"
  rw [aT0] at h1
  exact aS9 (k:=k + 2) hT hm (fun e=>h1 e g (Ex.refl _)) h2
theorem bf0 (hT:TR T) (M0:MD g q s) (W:WS s) (ho:dd.ok) (h:ap2 q g (doS s dd) Q):b9 T (k + 2) 183 [.ref q,dd.d] g Q E:=by
 refine call_of hT.h183 rfl ?_
 cases dd <;> dsimp [ax0,d8,List.replicate,Dd.d,doS] at h ⊢
 ·walk_at "w5"
  refine ifT (by decide +kernel) ?_
  walk_at "w5"
  exact aY3 (k:=k) hT.h46 M0 W ho h
 ·walk_at "w5"
  refine ifF (by decide +kernel) ?_
  walk_at "w5"
  refine ifT (by decide +kernel) ?_
  walk_at "w5"
  exact aY2 (k:=k) hT.h178 M0 W h
 ·walk_at "w5"
  refine ifF (by decide +kernel) ?_
  walk_at "w5"
  refine ifF (by decide +kernel) ?_
  walk_at "w5"
  refine ifT (by decide +kernel) ?_
  walk_at "w5"
  exact aY1 (k:=k) hT.h179 M0 W h
 ·walk_at "w5"
  refine ifF (by decide +kernel) ?_
  walk_at "w5"
  refine ifF (by decide +kernel) ?_
  walk_at "w5"
  refine ifF (by decide +kernel) ?_
  walk_at "w5"
  refine ifT (by decide +kernel) ?_
  walk_at "w5"
  exact aP0 (k:=k) hT.h181 M0 W ho h
 ·walk_at "w5"
  refine ifF (by decide +kernel) ?_
  walk_at "w5"
  refine ifF (by decide +kernel) ?_
  walk_at "w5"
  refine ifF (by decide +kernel) ?_
  walk_at "w5"
  refine ifF (by decide +kernel) ?_
  walk_at "w5"
  refine ifT (by decide +kernel) ?_
  walk_at "w5"
  exact aA5 (k:=k) hT.h182 M0 W h
 ·rename_i n
  have no:¬ (s.yr + 1 <= n/\n <= 9999)->Q (.tup [.str "BadYear",.non]) g:=fun hv=>by
   have e:u3 s n=(("BadYear",.non,s):Rs):=by unfold u3;rw [if_neg hv]
   rw [e] at h
   exact h _ Kq.refl M0
  have y0:=W.y0
  walk_at "w5"
  refine ifF (by decide +kernel) ?_
  walk_at "w5"
  refine ifF (by decide +kernel) ?_
  walk_at "w5"
  refine ifF (by decide +kernel) ?_
  walk_at "w5"
  refine ifF (by decide +kernel) ?_
  walk_at "w5"
  refine ifF (by decide +kernel) ?_
  walk_at "w5"
  by_cases h1:1 <= n
  ·rw [decide_eq_true h1]
   walk_at "w5"
   by_cases h2:n <= 9999
   ·rw [decide_eq_true h2]
    walk_at "w5"
    refine j8 M0.dic rfl kvY ?_
    walk_at "w5"
    refine if2 (fun c=>?_) (fun c=>?_)
    ·walk_at "w5"
     exact no (by omega)
    ·have e:u3 s n=(("",.non,{ s with yr:=n }):Rs):=by unfold u3;rw [if_pos (by omega)]
     rw [e] at h
     walk_at "w5"
     refine bw5 M0.dic rfl (by simp [mKv]) ?_
     have e2:(O.dic (putD (mKv q s.yr) (.inr "year") (.int n)))=.dic (mKv q n):=rfl
     rw [e2]
     walk_at "w5"
     exact h _ (Kq.set (i:=q) (by omega)) (M0.bH6 n)
   ·rw [decide_eq_false h2]
    walk_at "w5"
    exact no (by omega)
  ·rw [decide_eq_false h1]
   walk_at "w5"
   exact no (by omega)
theorem an2 {n:Nat} {a b:Nat} {l:List D} (ha:g[a]?=some (.lst l)) (hb:g[b]?=some (.lst l)) (h:∀ x ∈ l,u5 g n x x) (hz:l.length <= 1000):u5 g (n + 1) (.ref a) (.ref b):=by
 refine .lst ha hb rfl (fun i x y hx hy=>?_) hz
 rw [hx] at hy
 cases hy
 exact h x (List.mem_of_getElem? hx)
theorem aj4 {n:Nat} {y:D} (h:n0 y):u5 g n y y:=by
 rcases h with rfl | ⟨i,rfl⟩
 ·exact .non
 ·exact .int _
theorem an0 {n:Nat} {l:List Int} (h:l.length <= 1000):u5 g (n + 1) (mk l) (mk l):=by
 refine .tup rfl (fun i x y hx hy=>?_) (by rw [List.length_map];exact h)
 rw [hx] at hy
 cases hy
 obtain ⟨j,_,rfl⟩:=List.mem_map.mp (List.mem_of_getElem? hx)
 exact .int _
theorem aq3 {c:D} (h:aK4 c):u5 g 2 c c:=by
 obtain ⟨a,l,b,m,y,rfl,h1,h2⟩:=h
 refine .tup rfl (fun i x y hx hy=>?_) (by simp)
 rw [hx] at hy
 cases hy
 have:=List.mem_of_getElem? hx
 simp only [List.mem_cons,List.mem_nil_iff,or_false] at this
 rcases this with rfl | rfl | rfl | rfl | rfl
 ·exact .int _
 ·exact an0 (by omega)
 ·exact .int _
 ·exact an0 (by omega)
 ·exact .int _
theorem bS7 {c:Nat}:N4 (List.replicate c (D.bl true))=some true:=by
 induction c with
 | zero=>rfl
 | succ c ih=>rw [List.replicate_succ,N4,ih];rfl
theorem aF6 (hT:TQ T) (h6:T 6=some X6) (h7:T 7=some u4) (h47:T 47=some B3) (hm:g[m]?=some (i0 s)) (M0:MD g q s) (W:WS s) (h:∀ g',Ex g g'->Q (.bl true) g'):b9 T (k + 6) 47 [.ref m,.ref q] g Q E:=by
 have ln:=W.ln
 have un:=W.un
 have bn:=W.bn
 have cn:=W.cn
 refine call_of h47 rfl ?_
 dsimp [B3,d8,List.replicate]
 walk_at "w5"
 refine i8 hm rfl rfl ?_
 walk_at "w5"
 refine am0 (k:=k + 4) hT hm ?_
 have e1:Ex g (g ++ [O.lst s.bl]):=Ex.snoc _ _
 have hl:(g ++ [O.lst s.bl])[g.length]?=some (.lst s.bl):=i5
 have M1:=M0.ex e1
 have m1:=e1.at hm
 generalize g ++ [O.lst s.bl]=g1 at *
 walk_at "w5"
 refine j8 M1.dic rfl kvS ?_
 walk_at "w5"
 refine t7 h6 h7 1 (k:=k + 2) (an2 hl M1.seats (fun y hy=>aj4 (W.se y hy)) (by omega)) fun g2 e2=>?_
 have M2:=M1.ex e2
 have m2:=e2.at m1
 walk_at "w5"
 refine i8 m2 rfl rfl ?_
 walk_at "w5"
 refine bh5 (k:=k + 4) hT m2 ?_
 walk_at "w5"
 refine j8 M2.dic rfl kvY ?_
 walk_at "w5"
 refine t7 h6 h7 0 (k:=k + 3) (.int _) fun g3 e3=>?_
 have M3:=M2.ex e3
 have m3:=e3.at m2
 have x3:=e1.trans (e2.trans e3)
 walk_at "w5"
 have e4:Ex g3 (g3 ++ [O.lst [.str "lower",.str "upper"]]):=Ex.snoc _ _
 have hs4:(g3 ++ [O.lst [.str "lower",.str "upper"]])[g3.length]?=some (.lst [.str "lower",.str "upper"]):=i5
 refine as4 (g0 T _) (i_l (g0 T _) ?_)
 walk_at "w5"
 have M4:=M3.ex e4
 have m4:=e4.at m3
 generalize g3 ++ [O.lst [.str "lower",.str "upper"]]=g4 at *
 have x4:=x3.trans e4
 refine ⟨g3.length,_,rfl,a8 hs4,[.str "lower",.str "upper"],fun i σ g'=>Ex g4 g'/\∃ z2 z3 z4,σ=[some (.ref m),some (.ref q),z2,z3,z4],fun i σ g' p=>E6 (a8 (p.1.at hs4)),⟨Ex.refl _,none,none,none,rfl⟩,fun i y σ g' hy p=>?_,fun σ g' p=>?_⟩
 ·obtain ⟨e5,z2,z3,z4,rfl⟩:=p
  have M5:=M4.ex e5
  have m5:=e5.at m4
  obtain ⟨x,rfl,ho,hx⟩:∃ x:Str,y=.str x/\PyData.strOk x=true/\y9 x:=by
   match i,hy with
   | 0,hy=>cases hy;exact ⟨"lower",rfl,by decide +kernel,.inl rfl⟩
   | 1,hy=>cases hy;exact ⟨"upper",rfl,by decide +kernel,.inr rfl⟩
   | i + 2,hy=>simp at hy
  obtain ⟨r,_,hkv,hr,_⟩:=M5.side hx
  have sl:=W7 (x:=x) W
  refine A3 ?_
  try show wpS _ _ _ _ _ _
  walk_at "w5"
  refine i8 m5 rfl rfl ?_
  walk_at "w5"
  refine a00 (k:=k + 2) hT m5 ho (fun _=>?_) (fun z=>absurd hx z)
  walk_at "w5"
  refine j8 M5.dic rfl hkv ?_
  refine p6 (a8 hr) ?_
  walk_at "w5"
  rw [List.length_map]
  refine t7 h6 h7 0 (k:=k + 3) (.int _) fun g6 e6=>?_
  have M6:=M5.ex e6
  have m6:=e6.at m5
  have r6:=e6.at hr
  walk_at "w5"
  refine ai6 (g0 T _) ?_
  walk_at "w5"
  refine j8 M6.dic rfl hkv ?_
  refine p6 (a8 r6) ?_
  refine ⟨(s.side x).length,by rw [List.length_map],by omega,fun i ys σ g7=>∃ z3 z4,ys=List.replicate i (.bl true)/\σ=[some (.ref q),some (.ref m),some (.str x),z3,z4]/\Ex g6 g7,⟨none,none,rfl,rfl,Ex.refl _⟩,fun i ys σ g7 p=>?_,fun i ys σ g7 hi p=>?_,fun ys σ g7 p=>?_⟩
  ·obtain ⟨_,_,rfl,_⟩:=p
   simp
  ·obtain ⟨z3,z4,rfl,rfl,e7⟩:=p
   have M7:=M6.ex e7
   have m7:=e7.at m6
   have hv:1 <= (i:Int) + 1/\(i:Int) + 1 <= (s.side x).length:=⟨by omega,by omega⟩
   have mkl:=am5 W hx hv
   refine A3 ?_
   try show wpT _ _ _ _ _ _
   walk_at "w5"
   refine i8 m7 rfl rfl ?_
   walk_at "w5"
   refine U1 (k:=k + 1) hT m7 ho (fun _ _=>?_) (fun _ z=>absurd hv z) (fun z=>absurd hx z)
   walk_at "w5"
   refine j8 M7.dic rfl hkv ?_
   walk_at "w5"
   have ea:=ab4 hv
   rw [show (i:Int) + 1 - 1=i by omega] at ea
   refine L6 (a8 (e7.at r6)) ea ?_
   walk_at "w5"
   refine t7 h6 h7 1 (k:=k + 2) (an0 (by have:=mkl.2;omega)) fun g8 e8=>?_
   exact ⟨_,_,by rw [List.replicate_succ'],rfl,e7.trans e8⟩
  ·obtain ⟨z3,z4,rfl,rfl,e7⟩:=p
   refine a87 (a8 i5) bS7 ?_
   walk_at "w5"
   exact ⟨e5.trans (e6.trans (e7.trans (Ex.snoc _ _))),_,_,_,rfl⟩
 ·obtain ⟨e5,z2,z3,z4,rfl⟩:=p
  have M5:=M4.ex e5
  have m5:=e5.at m4
  have x5:=x4.trans e5
  try show wpS _ _ _ _ _ _
  walk_at "w5"
  refine as4 (g0 T _) (bs4 (g0 T _) ?_)
  walk_at "w5"
  refine j8 M5.dic rfl kvL ?_
  refine p6 (a8 M5.lower) ?_
  walk_at "w5"
  rw [List.length_map]
  refine ⟨1,(s.lo.length:Int) + 1,rfl,rfl,by omega,j0 1 s.lo.length,fun i σ g6=>Ex g' g6/\∃ z2 z3 z4,σ=[some (.ref m),some (.ref q),z2,z3,z4],fun i σ g6 p=>?_,⟨Ex.refl _,_,_,_,rfl⟩,fun i y σ g6 hy p=>?_,fun σ g6 p=>?_⟩
  ·rw [show ((s.lo.length:Int) + 1 - 1).toNat=s.lo.length by omega]
   exact aa7
  ·obtain ⟨e6,z2,z3,z4,rfl⟩:=p
   have M6:=M5.ex e6
   have m6:=e6.at m5
   obtain ⟨hi,rfl⟩:=R0 hy
   have hv:1 <= 1 + (i:Int)/\1 + (i:Int) <= s.lo.length:=⟨by omega,by omega⟩
   refine A3 ?_
   try show wpS _ _ _ _ _ _
   walk_at "w5"
   refine j8 M6.dic rfl kvG ?_
   refine T6 (p7 (l:=s.go.map D.int) (a8 M6.gone) C5 (.inr ⟨_,rfl⟩) ?_)
   walk_at "w5"
   cases e2:F2 s (1 + (i:Int)) with
   | true =>
    refine ifT e2 ?_
    walk_at "w5"
    refine i8 m6 rfl rfl ?_
    walk_at "w5"
    refine N6 (k:=k + 1) hT m6 W (fun z=>absurd hv z) (fun _ e1=>by rw [W.dj _ e1] at e2;cases e2) (fun _ _ _=>?_) (fun _ _ e=>by rw [e2] at e;cases e)
    walk_at "w5"
    refine t7 h6 h7 0 (k:=k + 3) (.str _) fun g7 e7=>?_
    walk_at "w5"
    exact ⟨e6.trans e7,_,_,_,rfl⟩
   | false =>
    refine ifF e2 ?_
    walk_at "w5"
    refine j8 M6.dic rfl kvS ?_
    refine T6 (p7 (l:=s.bl) (a8 M6.seats) W.se (.inr ⟨_,rfl⟩) ?_)
    walk_at "w5"
    cases e1:v9 s (1 + (i:Int)) with
    | true =>
     refine ifT e1 ?_
     walk_at "w5"
     refine i8 m6 rfl rfl ?_
     walk_at "w5"
     refine N6 (k:=k + 1) hT m6 W (fun z=>absurd hv z) (fun _ _=>?_) (fun _ e _=>by rw [e1] at e;cases e) (fun _ e _=>by rw [e1] at e;cases e)
     walk_at "w5"
     refine t7 h6 h7 0 (k:=k + 3) (.str _) fun g7 e7=>?_
     walk_at "w5"
     exact ⟨e6.trans e7,_,_,_,rfl⟩
    | false =>
     refine ifF e1 ?_
     walk_at "w5"
     refine i8 m6 rfl rfl ?_
     walk_at "w5"
     refine N6 (k:=k + 1) hT m6 W (fun z=>absurd hv z) (fun _ e=>by rw [e1] at e;cases e) (fun _ _ e=>by rw [e2] at e;cases e) (fun _ _ _=>?_)
     walk_at "w5"
     refine t7 h6 h7 0 (k:=k + 3) (.str _) fun g7 e7=>?_
     walk_at "w5"
     exact ⟨e6.trans e7,_,_,_,rfl⟩
  ·obtain ⟨e6,z2,z3,z4,rfl⟩:=p
   have M6:=M5.ex e6
   have m6:=e6.at m5
   try show wpS _ _ _ _ _ _
   walk_at "w5"
   refine i8 m6 rfl rfl ?_
   walk_at "w5"
   refine aF4 (k:=k + 4) hT m6 ?_
   walk_at "w5"
   refine j8 M6.dic rfl kvC ?_
   refine p6 (a8 M6.coins) ?_
   walk_at "w5"
   refine t7 h6 h7 0 (k:=k + 3) (.int _) fun g7 e7=>?_
   have M7:=M6.ex e7
   have m7:=e7.at m6
   walk_at "w5"
   refine i8 m7 rfl rfl ?_
   walk_at "w5"
   refine j8 M7.dic rfl kvC ?_
   refine p6 (a8 M7.coins) ?_
   refine lr1 (by omega) (by omega) ?_
   walk_at "w5"
   rw [show Int.toNat ((s.co.length:Nat):Int)=s.co.length by omega]
   have e8:Ex g7 (g7 ++ [O.lst (j0 0 s.co.length)]):=Ex.snoc _ _
   have hz:(g7 ++ [O.lst (j0 0 s.co.length)])[g7.length]?=some (.lst (j0 0 s.co.length)):=i5
   have M8:=M7.ex e8
   have m8:=e8.at m7
   refine aQ6 (k:=k + 1) hT m8 hz (by omega) ?_
   generalize g7 ++ [O.lst (j0 0 s.co.length)]=g8 at *
   have e9:Ex g8 (g8 ++ [O.lst s.co]):=Ex.snoc _ _
   walk_at "w5"
   refine j8 (M8.ex e9).dic rfl kvC ?_
   walk_at "w5"
   refine t7 h6 h7 3 (k:=k) (an2 i5 (M8.ex e9).coins (fun y hy=>aq3 (W.cs y hy)) (by omega)) fun g10 e10=>?_
   exact h _ (x5.trans (e6.trans (e7.trans (e8.trans (e9.trans e10)))))
end
noncomputable def N9:MDef:=⟨2,2,(.seq (.ifs (.or_ (.tst (.prim (.cmp .Eq) (.cons (.prim .len (.cons (.var 1) .nil)) (.cons (.lit (.int 0)) .nil)))) (.tst (.prim (.cmp .Eq) (.cons (.call 4 (.cons (.var 0) (.cons (.lit (.int 10)) .nil))) (.cons (.lit (.int 4)) .nil))))) (.seq (.ret (.call 36 (.cons (.var 0) (.cons (.prim (.bin .Add) (.cons (.lit (.int 3)) (.cons (.prim .len (.cons (.var 1) .nil)) .nil))) .nil)))) .pass) .pass) (.seq (.ret (.prim .ix (.cons (.var 1) (.cons (.call 4 (.cons (.var 0) (.cons (.prim .len (.cons (.var 1) .nil)) .nil))) .nil)))) .pass))⟩
noncomputable def E9:MDef:=⟨2,9,(.seq (.set 2 (.call 4 (.cons (.var 0) (.cons (.lit (.int 20)) .nil)))) (.seq (.set 3 (.comp [] 2 (.one 1) (.itE (.prim .ix (.cons (.var 1) (.cons (.lit (.str "seats")) .nil)))) (.tst (.prim (.cmp .IsNot) (.cons (.var 1) (.cons (.lit .non) .nil)))) (.var 1))) (.seq (.set 4 (.comp [3] 3 (.one 2) (.itR2 (.lit (.int 1)) (.prim (.bin .Add) (.cons (.prim .len (.cons (.prim .ix (.cons (.var 1) (.cons (.lit (.str "lower")) .nil))) .nil)) (.cons (.lit (.int 1)) .nil)))) (.tst (.prim (.cmp .NotIn) (.cons (.var 2) (.cons (.var 0) .nil)))) (.var 2))) (.seq (.set 5 (.prim .lrng2 (.cons (.lit (.int 1)) (.cons (.prim (.bin .Add) (.cons (.prim .len (.cons (.prim .ix (.cons (.var 1) (.cons (.lit (.str "upper")) .nil))) .nil)) (.cons (.lit (.int 1)) .nil))) .nil)))) (.seq (.ifs (.or_ (.tst (.prim (.cmp .Lt) (.cons (.var 2) (.cons (.lit (.int 2)) .nil)))) (.and_ (.tst (.prim (.cmp .Eq) (.cons (.prim .len (.cons (.var 5) .nil)) (.cons (.lit (.int 0)) .nil)))) (.tst (.prim (.cmp .Lt) (.cons (.var 2) (.cons (.lit (.int 6)) .nil)))))) (.seq (.ret (.prim .tup (.cons (.lit (.str "cut")) (.cons (.ite (.tst (.prim (.cmp .Eq) (.cons (.prim .len (.cons (.var 5) .nil)) (.cons (.lit (.int 0)) .nil)))) (.lit (.str "upper")) (.call 29 (.cons (.var 0) .nil))) .nil)))) .pass) .pass) (.seq (.ifs (.or_ (.tst (.prim (.cmp .Lt) (.cons (.var 2) (.cons (.lit (.int 5)) .nil)))) (.tst (.prim (.cmp .Eq) (.cons (.prim .len (.cons (.var 3) .nil)) (.cons (.lit (.int 0)) .nil))))) (.seq (.ifs (.or_ (.tst (.prim (.cmp .Eq) (.cons (.prim .len (.cons (.var 4) .nil)) (.cons (.lit (.int 0)) .nil)))) (.tst (.prim (.cmp .Eq) (.cons (.call 4 (.cons (.var 0) (.cons (.lit (.int 4)) .nil))) (.cons (.lit (.int 0)) .nil))))) (.seq (.ret (.prim .tup (.cons (.lit (.str "cut")) (.cons (.lit (.str "lower")) .nil)))) .pass) .pass) (.seq (.ret (.prim .tup (.cons (.lit (.str "fix")) (.cons (.call 37 (.cons (.var 0) (.cons (.prim (.bin .Add) (.cons (.var 4) (.cons (.prim (.bin .Mult) (.cons (.var 3) (.cons (.prim .int (.cons (.prim (.cmp .Eq) (.cons (.call 4 (.cons (.var 0) (.cons (.lit (.int 5)) .nil))) (.cons (.lit (.int 0)) .nil))) .nil)) .nil))) .nil))) .nil))) .nil)))) .pass)) .pass) (.seq (.ifs (.tst (.prim (.cmp .Lt) (.cons (.var 2) (.cons (.lit (.int 6)) .nil)))) (.seq (.ret (.prim .tup (.cons (.lit (.str "off")) (.cons (.call 37 (.cons (.var 0) (.cons (.var 3) .nil))) .nil)))) .pass) .pass) (.seq (.ifs (.tst (.prim (.cmp .Lt) (.cons (.var 2) (.cons (.lit (.int 10)) .nil)))) (.seq (.set 6 (.call 29 (.cons (.var 0) .nil))) (.seq (.ret (.prim .tup (.cons (.lit (.str "mark")) (.cons (.var 6) (.cons (.call 37 (.cons (.var 0) (.cons (.ite (.tst (.prim (.cmp .Eq) (.cons (.var 6) (.cons (.lit (.str "lower")) .nil)))) (.var 3) (.var 5)) .nil))) (.cons (.prim (.bin .Sub) (.cons (.call 4 (.cons (.var 0) (.cons (.lit (.int 10)) .nil))) (.cons (.lit (.int 1)) .nil))) .nil)))))) .pass)) .pass) (.seq (.ifs (.tst (.prim (.cmp .Lt) (.cons (.var 2) (.cons (.lit (.int 18)) .nil)))) (.seq (.ret (.prim .tup (.cons (.lit (.str "strike")) (.cons (.call 37 (.cons (.var 0) (.cons (.var 3) .nil))) (.cons (.call 37 (.cons (.var 0) (.cons (.var 5) .nil))) .nil))))) .pass) .pass) (.seq (.set 7 (.prim .ix (.cons (.var 1) (.cons (.lit (.str "year")) .nil)))) (.seq (.set 8 (.prim .lst (.cons (.prim (.bin .Add) (.cons (.var 7) (.cons (.lit (.int 1)) .nil))) (.cons (.prim (.bin .Add) (.cons (.var 7) (.cons (.lit (.int 7)) .nil))) (.cons (.prim (.bin .Add) (.cons (.var 7) (.cons (.lit (.int 1)) .nil))) (.cons (.var 7) (.cons (.prim (.bin .Sub) (.cons (.var 7) (.cons (.lit (.int 3)) .nil))) (.cons (.lit (.int 1350)) (.cons (.lit (.int 1412)) (.cons (.lit (.int 9999)) (.cons (.lit (.int 10000)) (.cons (.call 5 (.cons (.var 0) .nil)) .nil)))))))))))) (.seq (.ret (.prim .tup (.cons (.lit (.str "year")) (.cons (.prim .ix (.cons (.var 8) (.cons (.call 4 (.cons (.var 0) (.cons (.lit (.int 10)) .nil))) .nil))) .nil)))) .pass))))))))))))⟩
theorem av5 {a:Int} {n:Nat}:∃ ns:List Int,j0 a n=ns.map .int/\ns.length=n:=⟨(List.range n).map fun k:Nat=>a + k,by unfold j0;rw [List.map_map];rfl,by simp⟩
structure TV (T:Nat->Option MDef):Prop where
 h4:T 4=some E8
 h5:T 5=some X8
 h29:T 29=some ac3
 h36:T 36=some ac5
 h37:T 37=some N9
 h188:T 188=some E9
section
variable {T:Nat->Option MDef} {k d:Nat} {g:G} {Q:KD} {E:KX} {m q:Nat} {s:MSt} {x:Str}
theorem aw3 (h4:T 4=some E8) (h5:T 5=some X8) (h36:T 36=some ac5) {j:Int} (hj:0 <= j/\j <= 1000) (D0:k8 g d) (h:∀ (v:Int) g',k8 g' d->Gr d g g'->Q (.int v) g'):b9 T (k + 3) 36 [.ref d,.int j] g Q E:=by
 refine call_of h36 rfl ?_
 dsimp [ac5,d8,List.replicate]
 walk_at "w5"
 refine n8 h4 D0 (by decide) (by decide) fun r g1 _ _ D1 G1=>?_
 walk_at "w5"
 refine if2 (fun _=>?_) (fun _=>?_)
 ·walk_at "w5"
  exact aR3 h4 h5 D1 fun f g2 D2 G2=>h _ _ D2 (G1.trans G2)
 ·walk_at "w5"
  refine n8 h4 D1 (by omega) (by omega) fun r g2 _ _ D2 G2=>?_
  walk_at "w5"
  exact h _ _ D2 (G1.trans G2)
theorem H9 (hT:TV T) {i:Nat} {ns:List Int} (hi:g[i]?=some (.lst (ns.map .int))) (hd:d < i) (hz:ns.length <= 900) (D0:k8 g d) (h:∀ (v:Int) g',k8 g' d->Gr d g g'->Q (.int v) g'):b9 T (k + 4) 37 [.ref d,.ref i] g Q E:=by
 refine call_of hT.h37 rfl ?_
 dsimp [N9,d8,List.replicate]
 walk_at "w5"
 rw [List.length_map]
 refine if2 (fun c=>?_) (fun c=>?_)
 ·walk_at "w5"
  refine aw3 (k:=k) hT.h4 hT.h5 hT.h36 (by rw [List.length_map];omega) D0 fun v g2 D2 G2=>?_
  exact h v g2 D2 G2
 ·walk_at "w5"
  refine n8 hT.h4 D0 (by decide) (by decide) fun r g1 _ _ D1 G1=>?_
  have hi1:=G1.at (by omega) hi
  walk_at "w5"
  refine if2 (fun _=>?_) (fun _=>?_)
  ·walk_at "w5"
   refine aw3 (k:=k) hT.h4 hT.h5 hT.h36 (by rw [List.length_map];omega) D1 fun v g2 D2 G2=>?_
   exact h v g2 D2 (G1.trans G2)
  ·walk_at "w5"
   rw [List.length_map]
   refine n8 hT.h4 D1 (by omega) (by omega) fun r2 g2 r0 r1 D2 G2=>?_
   obtain ⟨y,hy,hm⟩:=Y9 (l:=ns.map D.int) r0 (by rw [List.length_map];exact r1)
   obtain ⟨v,_,rfl⟩:=List.mem_map.mp hm
   refine L6 (a8 (G2.at (by omega) hi1)) hy ?_
   walk_at "w5"
   exact h v g2 D2 (G1.trans G2)
noncomputable abbrev aP7:MS:=match E9.body with | .seq _ (.seq _ (.seq _ (.seq _ (.seq (.ifs _ a _) _))))=>a | x=>x
noncomputable abbrev T1:MS:=match E9.body with | .seq _ (.seq _ (.seq _ (.seq _ (.seq _ b))))=>b | x=>x
noncomputable abbrev aP6:MS:=match T1 with | .seq _ c=>c | x=>x
noncomputable abbrev ak0:MS:=match T1 with | .seq (.ifs _ i _) _=>i | x=>x
noncomputable abbrev aP5:MS:=match ak0 with | .seq _ j=>j | x=>x
structure DC (g:G) (d q o p u:Nat) (s:MSt) (on idl ups:List Int):Prop where
 dr:k8 g d
 md:MD g q s
 ho:g[o]?=some (.lst (on.map .int))
 hp:g[p]?=some (.lst (idl.map .int))
 hu:g[u]?=some (.lst (ups.map .int))
 dq:d < q
 lo:d < o
 lp:d < p
 lu:d < u
 n1:on.length <= 9
 n2:idl.length <= 99
 n3:ups.length <= 99
theorem DC.gr {g':G} {o p u:Nat} {on idl ups:List Int} (h:DC g d q o p u s on idl ups) (x:Gr d g g') (D:k8 g' d):DC g' d q o p u s on idl ups:=by
 have h1:=h.lo
 have h2:=h.lp
 have h3:=h.lu
 exact ⟨D,h.md.gr x h.dq,x.at (by omega) h.ho,x.at (by omega) h.hp,x.at (by omega) h.hu,h.dq,h1,h2,h3,h.n1,h.n2,h.n3⟩
theorem a81 (hT:TV T) {o p u:Nat} {on idl ups:List Int} {r:Int} (C:DC g d q o p u s on idl ups) {N:Ends} (hN:N.rt=Q) (h:∀ (dd:Dd) g',dd.ok->k8 g' d->Gr d g g'->Q dd.d g') :
  wpS (b9 T (k + 4)) aP7 N [some (.ref d),some (.ref q),some (.int r),some (.ref o),some (.ref p),some (.ref u),none,none,none] g E:=by
 dsimp [aP7,E9]
 walk_at "w5"
 refine p6 (a8 C.hu) ?_
 walk_at "w5"
 refine if2 (fun c=>?_) (fun c=>?_)
 ·walk_at "w5"
  rw [hN]
  exact h (.cut "upper") _ (by show PyData.strOk _=true;decide +kernel) C.dr (Gr.refl _ _)
 ·walk_at "w5"
  refine aB9 (k:=k + 2) hT.h4 hT.h29 C.dr fun x g1 ho D1 G1=>?_
  walk_at "w5"
  rw [hN]
  exact h (.cut x) _ ho D1 G1
theorem bC1 (hT:TV T) {o p u:Nat} {on idl ups:List Int} {r:Int} (C:DC g d q o p u s on idl ups) {N:Ends} (hN:N.rt=Q) (h:∀ (dd:Dd) g',dd.ok->k8 g' d->Gr d g g'->Q dd.d g') :
  wpS (b9 T (k + 4)) aP5 N [some (.ref d),some (.ref q),some (.int r),some (.ref o),some (.ref p),some (.ref u),none,none,none] g E:=by
 have n1:=C.n1
 have n2:=C.n2
 dsimp [aP5,ak0,T1,E9]
 walk_at "w5"
 refine n8 hT.h4 C.dr (by decide) (by decide) fun r1 g1 _ _ D1 G1=>?_
 have C1:=C.gr G1 D1
 walk_at "w5"
 obtain ⟨w,hw,hw1⟩:∃ w:Int,(if decide (r1=0)=true then (1:Int) else 0)=w/\(w=0 \/ w=1):=by
  refine ⟨_,rfl,?_⟩
  split
  ·exact .inr rfl
  ·exact .inl rfl
 rw [hw]
 obtain ⟨ns,en,hnl⟩:∃ ns:List Int,(List.replicate w.toNat (on.map D.int)).flatten=ns.map .int/\ns.length <= 9:=by
  rcases hw1 with rfl | rfl
  ·exact ⟨[],rfl,by simp⟩
  ·exact ⟨on,by show (List.replicate 1 _).flatten=_;simp,n1⟩
 refine a85 C1.ho (by omega) (by omega) (by rw [List.length_map];rcases hw1 with rfl | rfl <;> (simp;try omega)) ?_
 rw [en]
 have e2:Ex g1 (g1 ++ [O.lst (ns.map .int)]):=Ex.snoc _ _
 have D2:=D1.snoc (O.lst (ns.map .int))
 have C2:=C1.gr (e2.gr d) D2
 refine bE9 C2.hp i5 (by simp;omega) ?_
 have l2:d < (g1 ++ [O.lst (ns.map .int)]).length:=D2.lt
 have x2:=G1.trans (e2.gr d)
 generalize g1 ++ [O.lst (ns.map .int)]=g2 at *
 have D3:=D2.snoc (O.lst (idl.map .int ++ ns.map .int))
 have e3:Ex g2 (g2 ++ [O.lst (idl.map .int ++ ns.map .int)]):=Ex.snoc _ _
 have h3:(g2 ++ [O.lst (idl.map .int ++ ns.map .int)])[g2.length]?=some (.lst ((idl ++ ns).map .int)):=by rw [List.map_append];exact i5
 generalize g2 ++ [O.lst (idl.map .int ++ ns.map .int)]=g3 at *
 walk_at "w5"
 refine H9 (k:=k) hT h3 l2 (by simp;omega) D3 fun v g4 D4 G4=>?_
 walk_at "w5"
 rw [hN]
 exact h (.fix v) _ trivial D4 (x2.trans ((e3.gr d).trans G4))
theorem a79 (hT:TV T) {o p u:Nat} {on idl ups:List Int} {r:Int} (C:DC g d q o p u s on idl ups) {N:Ends} (hN:N.rt=Q) (h:∀ (dd:Dd) g',dd.ok->k8 g' d->Gr d g g'->Q dd.d g') :
  wpS (b9 T (k + 4)) ak0 N [some (.ref d),some (.ref q),some (.int r),some (.ref o),some (.ref p),some (.ref u),none,none,none] g E:=by
 have lw:∀ g',k8 g' d->Gr d g g'->Q (.tup [.str "cut",.str "lower"]) g':=fun g' D G=>h (.cut "lower") g' (by show PyData.strOk _=true;decide +kernel) D G
 dsimp [ak0,T1,E9]
 walk_at "w5"
 refine p6 (a8 C.hp) ?_
 walk_at "w5"
 refine if2 (fun c=>?_) (fun c=>?_)
 ·walk_at "w5"
  rw [hN]
  exact lw _ C.dr (Gr.refl _ _)
 ·walk_at "w5"
  refine n8 hT.h4 C.dr (by decide) (by decide) fun r1 g1 _ _ D1 G1=>?_
  walk_at "w5"
  refine if2 (fun c=>?_) (fun c=>?_)
  ·walk_at "w5"
   rw [hN]
   exact lw _ D1 G1
  ·try with_reducible refine B6 ?_
   exact bC1 hT (C.gr G1 D1) hN fun dd g' ok D G=>h dd g' ok D (G1.trans G)
theorem bC2 (hT:TV T) {o p u:Nat} {on idl ups:List Int} {r:Int} (C:DC g d q o p u s on idl ups) {N:Ends} (hN:N.rt=Q) (h:∀ (dd:Dd) g',dd.ok->k8 g' d->Gr d g g'->Q dd.d g') :
  wpS (b9 T (k + 4)) aP6 N [some (.ref d),some (.ref q),some (.int r),some (.ref o),some (.ref p),some (.ref u),none,none,none] g E:=by
 have n1:=C.n1
 have n3:=C.n3
 dsimp [aP6,T1,E9]
 walk_at "w5"
 refine if2 (fun c=>?_) (fun c=>?_)
 ·walk_at "w5"
  refine H9 (k:=k) hT C.ho C.lo (by omega) C.dr fun v g1 D1 G1=>?_
  walk_at "w5"
  rw [hN]
  exact h (.off v) _ trivial D1 G1
 ·walk_at "w5"
  refine if2 (fun c=>?_) (fun c=>?_)
  ·walk_at "w5"
   refine aB9 (k:=k + 2) hT.h4 hT.h29 C.dr fun x g1 ho D1 G1=>?_
   have C1:=C.gr G1 D1
   have fin:∀ (i:Nat) (ns:List Int) (Q':KD) (E':KX),g1[i]?=some (.lst (ns.map .int))->d < i->ns.length <= 99->(∀ v g2,k8 g2 d->Gr d g g2->Q' (.int v) g2)->b9 T (k + 4) 37 [.ref d,.ref i] g1 Q' E':=fun i ns Q' E' hi hd hz q=>H9 (k:=k) hT hi hd (by omega) D1 fun v g2 D2 G2=>q v g2 D2 (G1.trans G2)
   walk_at "w5"
   refine if2 (fun c=>?_) (fun c=>?_)
   ·walk_at "w5"
    refine fin _ _ _ _ C1.ho C1.lo (by omega) fun v g2 D2 G2=>?_
    walk_at "w5"
    refine n8 hT.h4 D2 (by decide) (by decide) fun r3 g3 _ _ D3 G3=>?_
    walk_at "w5"
    rw [hN]
    exact h (.mark x v (r3 - 1)) _ ho D3 (G2.trans G3)
   ·walk_at "w5"
    refine fin _ _ _ _ C1.hu C1.lu (by omega) fun v g2 D2 G2=>?_
    walk_at "w5"
    refine n8 hT.h4 D2 (by decide) (by decide) fun r3 g3 _ _ D3 G3=>?_
    walk_at "w5"
    rw [hN]
    exact h (.mark x v (r3 - 1)) _ ho D3 (G2.trans G3)
  ·walk_at "w5"
   refine if2 (fun c=>?_) (fun c=>?_)
   ·walk_at "w5"
    refine H9 (k:=k) hT C.ho C.lo (by omega) C.dr fun v g1 D1 G1=>?_
    have C1:=C.gr G1 D1
    walk_at "w5"
    refine H9 (k:=k) hT C1.hu C1.lu (by omega) D1 fun w g2 D2 G2=>?_
    walk_at "w5"
    rw [hN]
    exact h (.strike v w) _ trivial D2 (G1.trans G2)
   ·walk_at "w5"
    refine j8 C.md.dic rfl kvY ?_
    walk_at "w5"
    refine aR3 hT.h4 hT.h5 C.dr fun f g1 D1 G1=>?_
    walk_at "w5"
    have e2:∀ l:List Int,Ex g1 (g1 ++ [O.lst (l.map .int)]):=fun l=>Ex.snoc _ _
    obtain ⟨l,el,hl⟩:∃ l:List Int,[D.int (s.yr + 1),.int (s.yr + 7),.int (s.yr + 1),.int s.yr,.int (s.yr - 3),.int 1350,.int 1412,.int 9999,.int 10000,.int f]=l.map .int/\l.length=10:=⟨[s.yr + 1,s.yr + 7,s.yr + 1,s.yr,s.yr - 3,1350,1412,9999,10000,f],rfl,rfl⟩
    rw [el]
    refine n8 hT.h4 (D1.snoc _) (by decide) (by decide) fun r3 g3 r30 r31 D3 G3=>?_
    have h3:=G3.at (i:=g1.length) (by have:=D1.lt;omega) (o:=.lst (l.map .int)) i5
    obtain ⟨y,hy,hm⟩:=Y9 (l:=l.map D.int) r30 (by rw [List.length_map,hl];exact r31)
    obtain ⟨n,_,rfl⟩:=List.mem_map.mp hm
    refine L6 (a8 h3) hy ?_
    walk_at "w5"
    rw [hN]
    exact h (.year n) _ trivial D3 ((G1.trans (Gr.snoc _ _ _)).trans G3)
theorem a80 (hT:TV T) {o p u:Nat} {on idl ups:List Int} {r:Int} (C:DC g d q o p u s on idl ups) {N:Ends} (hN:N.rt=Q) (h:∀ (dd:Dd) g',dd.ok->k8 g' d->Gr d g g'->Q dd.d g') :
  wpS (b9 T (k + 4)) T1 N [some (.ref d),some (.ref q),some (.int r),some (.ref o),some (.ref p),some (.ref u),none,none,none] g E:=by
 dsimp [T1,E9]
 walk_at "w5"
 refine if2 (fun c=>?_) (fun c=>?_)
 ·try refine ift ?_
  exact a79 hT C hN h
 ·walk_at "w5"
  refine p6 (a8 C.ho) ?_
  walk_at "w5"
  refine if2 (fun c=>?_) (fun c=>?_)
  ·exact a79 hT C hN h
  ·try with_reducible refine B6 ?_
   exact bC2 hT C hN h
theorem bg4 (hT:TV T) (M0:MD g q s) (W:WS s) (D0:k8 g d) (hdq:d < q) (h:∀ (dd:Dd) g',dd.ok->k8 g' d->Gr d g g'->Q dd.d g'):b9 T (k + 5) 188 [.ref d,.ref q] g Q E:=by
 have ln:=W.ln
 have un:=W.un
 have bn:=W.bn
 refine call_of hT.h188 rfl ?_
 dsimp [E9,d8,List.replicate]
 walk_at "w5"
 refine n8 hT.h4 D0 (by decide) (by decide) fun r g1 r0 r1 D1 G1=>?_
 have M1:=M0.gr G1 hdq
 walk_at "w5"
 refine S2 (g0 T _) (i_l (g0 T _) ?_)
 walk_at "w5"
 refine j8 M1.dic rfl kvS ?_
 refine ⟨q + 2,_,rfl,a8 M1.seats,s.bl,fun i ys σ g'=>∃ ns:List Int,ys=ns.map .int/\ns.length <= i/\g'=g1/\∃ z0 z1,σ=[z0,z1],by omega,fun i ys σ g' p=>?_,⟨[],rfl,by simp,rfl,none,none,rfl⟩,fun i y ys σ g' hy p=>?_,fun ys σ g' p=>?_⟩
 ·obtain ⟨ns,rfl,h1,rfl,_⟩:=p
  exact ⟨E6 (a8 M1.seats),by rw [List.length_map];exact h1⟩
 ·obtain ⟨ns,rfl,h1,rfl,z0,z1,rfl⟩:=p
  refine A3 ?_
  try show wpT _ _ _ _ _ _
  rcases W.se y (List.mem_of_getElem? hy) with rfl | ⟨v,rfl⟩
  ·walk_at "w5"
   exact ⟨ns,rfl,by omega,rfl,_,_,rfl⟩
  ·walk_at "w5"
   exact ⟨ns ++ [v],by rw [List.map_append];rfl,by rw [List.length_append];simp;omega,rfl,_,_,rfl⟩
 obtain ⟨on,rfl,hon,rfl,_⟩:=p
 have G2:=G1.trans (Gr.snoc d g' (O.lst (on.map .int)))
 have D2:=D1.snoc (O.lst (on.map .int))
 have M2:=M1.ex (Ex.snoc _ (O.lst (on.map .int)))
 have a2:(g' ++ [O.lst (on.map .int)])[g'.length]?=some (.lst (on.map .int)):=i5
 have l2:d < g'.length:=D1.lt
 generalize g'.length=o at *
 generalize g' ++ [O.lst (on.map .int)]=g2 at *
 clear M1 D1 G1
 walk_at "w5"
 refine S2 (g0 T _) (bs4 (g0 T _) ?_)
 walk_at "w5"
 refine j8 M2.dic rfl kvL ?_
 refine p6 (a8 M2.lower) ?_
 walk_at "w5"
 rw [List.length_map]
 refine ⟨1,(s.lo.length:Int) + 1,rfl,rfl,by omega,j0 1 s.lo.length,fun i ys σ g3=>∃ ns:List Int,ys=ns.map .int/\ns.length <= i/\g3=g2/\∃ z1 z2,σ=[some (.ref o),z1,z2],by rw [w6];omega,fun i ys σ g3 p=>?_,⟨[],rfl,by simp,rfl,none,none,rfl⟩,fun i y ys σ g3 hy p=>?_,fun ys σ g3 p=>?_⟩
 ·obtain ⟨ns,rfl,h1,rfl,_⟩:=p
  rw [show ((s.lo.length:Int) + 1 - 1).toNat=s.lo.length by omega]
  exact ⟨aa7,by rw [List.length_map];exact h1⟩
 ·obtain ⟨ns,rfl,h1,rfl,z1,z2,rfl⟩:=p
  obtain ⟨hi,rfl⟩:=R0 hy
  refine A3 ?_
  try show wpT _ _ _ _ _ _
  walk_at "w5"
  refine P9 (ad3 (l:=on) (a8 a2) ?_)
  walk_at "w5"
  by_cases hm:(1 + (i:Int)) ∈ on
  ·rw [decide_eq_true hm]
   refine aa8 ?_
   exact ⟨ns,rfl,by omega,rfl,_,_,rfl⟩
  ·rw [decide_eq_false hm]
   refine ift ?_
   walk_at "w5"
   exact ⟨ns ++ [1 + (i:Int)],by rw [List.map_append];rfl,by rw [List.length_append];simp;omega,rfl,_,_,rfl⟩
 obtain ⟨idl,rfl,hidl,rfl,_⟩:=p
 rw [w6] at hidl
 have G3:=G2.trans (Gr.snoc d g3 (O.lst (idl.map .int)))
 have D3:=D2.snoc (O.lst (idl.map .int))
 have M3:=M2.ex (Ex.snoc _ (O.lst (idl.map .int)))
 have a3:(g3 ++ [O.lst (idl.map .int)])[o]?=some (.lst (on.map .int)):=(Ex.snoc _ _).at a2
 have b3:(g3 ++ [O.lst (idl.map .int)])[g3.length]?=some (.lst (idl.map .int)):=i5
 have l3:d < g3.length:=D2.lt
 generalize g3.length=p at *
 generalize g3 ++ [O.lst (idl.map .int)]=g4 at *
 clear M2 D2 G2 a2
 walk_at "w5"
 refine j8 M3.dic rfl kvU ?_
 refine p6 (a8 M3.upper) ?_
 walk_at "w5"
 rw [List.length_map]
 refine lr2 (by omega) ?_
 rw [show ((s.up.length:Int) + 1 - 1).toNat=s.up.length by omega]
 obtain ⟨ups,eu,hul⟩:=av5 (a:=1) (n:=s.up.length)
 rw [eu]
 have G4:=G3.trans (Gr.snoc d g4 (O.lst (ups.map .int)))
 have D4:=D3.snoc (O.lst (ups.map .int))
 have M4:=M3.ex (Ex.snoc _ (O.lst (ups.map .int)))
 have a4:(g4 ++ [O.lst (ups.map .int)])[o]?=some (.lst (on.map .int)):=(Ex.snoc _ _).at a3
 have b4:(g4 ++ [O.lst (ups.map .int)])[p]?=some (.lst (idl.map .int)):=(Ex.snoc _ _).at b3
 have c4:(g4 ++ [O.lst (ups.map .int)])[g4.length]?=some (.lst (ups.map .int)):=i5
 have l4:d < g4.length:=D3.lt
 generalize g4.length=u at *
 generalize g4 ++ [O.lst (ups.map .int)]=g5 at *
 clear M3 D3 G3 a3 b3
 have C:DC g5 d q o p u s on idl ups:=⟨D4,M4,a4,b4,c4,hdq,l2,l3,l4,by omega,by omega,by omega⟩
 have h':∀ (dd:Dd) g',dd.ok->k8 g' d->Gr d g5 g'->Q dd.d g':=fun dd g' ok D G=>h dd g' ok D (G4.trans G)
 walk_at "w5"
 refine if2 (fun c=>?_) (fun c=>?_)
 ·try refine ift ?_
  exact a81 hT C rfl h'
 ·walk_at "w5"
  refine if2 (fun c=>?_) (fun c=>?_)
  ·walk_at "w5"
   refine if2 (fun c=>?_) (fun c=>?_)
   ·exact a81 hT C rfl h'
   ·try with_reducible refine B6 ?_
    exact a80 hT C rfl h'
  ·try refine aa8 ?_
   try with_reducible refine B6 ?_
   exact a80 hT C rfl h'
end
noncomputable def s0 (n:Nat):MSt:=⟨List.replicate n .non,[],[],[],0,[]⟩
theorem bS9 {n:Nat} (h:n <= 9):WS (s0 n):=by
 refine ⟨fun z hz=>.inl (List.eq_of_mem_replicate hz),fun i j v hi=>?_,fun v _=>rfl,by unfold s0;simpa using h,by unfold s0;simp,fun v hv=>?_,by unfold s0;simp,by unfold s0;simp,fun l hl=>?_,fun l hl=>?_,Int.le_refl 0,by unfold s0;simp,fun c hc=>?_⟩
 ·have:=List.eq_of_mem_replicate (List.mem_of_getElem? hi)
  cases this
 ·unfold s0 at hv;simp at hv
 ·unfold s0 at hl;simp at hl
 ·unfold s0 at hl;simp at hl
 ·unfold s0 at hc;simp at hc
section
variable {T:Nat->Option MDef} {k d:Nat} {g:G} {Q:KD} {E:KX} {m n q:Nat} {s:MSt} {x:Str} {dd:Dd}
theorem ax7 {g l:List O} {i:Nat}:(g ++ l)[g.length + i]?=l[i]?:=by rw [List.getElem?_append_right (by omega)];congr 1;omega
theorem aO9 (h45:T 45=some V7) (hn:n <= 9) (h:∀ g',Ex g g'->MD g' g.length (s0 n)->Q (.ref g.length) g'):b9 T (k + 1) 45 [.int n] g Q E:=by
 refine call_of h45 rfl ?_
 dsimp [V7,d8,List.replicate]
 walk_at "w5"
 refine bu8 ?_
 walk_at "w5"
 refine a85 i5 (by omega) (by omega) (by simp;omega) ?_
 walk_at "w5"
 rw [show (List.replicate (Int.toNat (n:Int)) [D.non]).flatten=List.replicate n .non by rw [Int.toNat_natCast,List.flatten_replicate_singleton]]
 simp only [List.append_assoc,List.cons_append,List.nil_append,List.length_append,List.length_cons,List.length_nil,Nat.zero_add,Nat.add_assoc,Nat.reduceAdd]
 have eg:∀ (o:O) (r:List O),List.set (g ++ (O.dic [] :: r)) g.length o=g ++ (o :: r):=fun o r=>by
  rw [List.set_append_right _ _ (Nat.le_refl _),Nat.sub_self]
  rfl
 refine ⟨mKv g.length 0,rfl,by simp,by simp,?_⟩
 rw [eg]
 exact h _ ⟨by simp,fun i hi=>List.getElem?_append_left hi⟩ ⟨by simp [s0],ax7,ax7,ax7,ax7,ax7⟩
theorem be9 (hT:TM T) (hn:1 <= n/\n <= 9) (h:Q .non (g ++ [i0 (s0 n)])):b9 T (k + 4) 51 [.ref g.length,.int n] (g ++ [.ins "Mint" []]) Q E:=by
 refine bf6 (k:=k) hT i5 (fun n' e1 n1 n9=>?_) (fun hv=>absurd ⟨by omega,by omega⟩ hv)
 obtain rfl:n=n':=by omega
 have es:(g ++ [O.ins "Mint" []]).set g.length (a72 n 0 0)=g ++ [i0 (s0 n)]:=by simp [s0,i0,a71]
 rw [es]
 exact h
end
structure InM (g:G) (d m q:Nat) (s:MSt):Prop where
 dr:k8 g d
 dm:d < m
 mq:m < q
 mi:g[m]?=some (i0 s)
 md:MD g q s
 ws:WS s
section
variable {T:Nat->Option MDef} {k d:Nat} {g g':G} {Q:KD} {E:KX} {m n q:Nat} {s:MSt} {x:Str} {dd:Dd}
theorem InM.ex (h:InM g d m q s) (e:Ex g g'):InM g' d m q s:=⟨e.draw h.dr,h.dm,h.mq,e.at h.mi,h.md.ex e,h.ws⟩
theorem InM.gr (h:InM g d m q s) (e:Gr d g g') (D:k8 g' d):InM g' d m q s:=by
 have h1:=h.dm
 have h2:=h.mq
 exact ⟨D,h1,h2,e.at (by omega) h.mi,h.md.gr e (by omega),h.ws⟩
theorem InM.half (h:InM g d m q s) {s':MSt} (e:Gr m g g') (hm:g'[m]?=some (i0 s')):k8 g' d/\MD g' q s:=by
 have h1:=h.dm
 have h2:=h.mq
 obtain ⟨a,p,b,r,xs,e1,e2,e3,e4⟩:=h.dr.ex
 exact ⟨⟨a,p,b,r,xs,e.at (by omega) e1,e.at (by omega) e2,e3,e4⟩,⟨e.at (by omega) h.md.dic,e.at (by omega) h.md.seats,e.at (by omega) h.md.lower,e.at (by omega) h.md.upper,e.at (by omega) h.md.gone,e.at (by omega) h.md.coins⟩⟩
theorem InM.both {s':MSt} (D:k8 g d) (dm:d < m) (mq:m < q) (hm:g[m]?=some (i0 s')) (K:Kq q g g') (M:MD g' q s') (W:WS s'):InM g' d m q s':=⟨K.draw (by omega) D,dm,mq,K.at (by omega) hm,M,W⟩
end
noncomputable def L1:MDef:=⟨2,2,(.seq (.W4 (.seq (.ret (.prim .lst (.cons (.lit (.str "")) (.cons (.call 184 (.cons (.var 0) (.cons (.var 1) .nil))) .nil)))) .pass) [("MintError",(.prim .lst (.cons (.lit (.str "refused")) (.cons (.lit .non) .nil))))]) .pass)⟩
noncomputable def K9:MDef:=⟨2,2,(.seq (.ret (.and_ (.prim (.cmp .Eq) (.cons (.prim (.cmp .Eq) (.cons (.prim .ix (.cons (.var 0) (.cons (.lit (.int 0)) .nil))) (.cons (.lit (.str "")) .nil))) (.cons (.prim (.cmp .Eq) (.cons (.prim .ix (.cons (.var 1) (.cons (.lit (.int 0)) .nil))) (.cons (.lit (.str "")) .nil))) .nil))) (.call 7 (.cons (.prim .ix (.cons (.var 0) (.cons (.lit (.int 1)) .nil))) (.cons (.prim .ix (.cons (.var 1) (.cons (.lit (.int 1)) .nil))) .nil))))) .pass)⟩
section
variable {T:Nat->Option MDef} {k d:Nat} {g g':G} {Q:KD} {E:KX} {m n q c:Nat} {s:MSt} {dd:Dd}
noncomputable def okW (r:Rs):Str:=if r.1="" then "" else "refused"
theorem bi6 (hT:TQ T) (h184:T 184=some L3) (h186:T 186=some L1) (hm:g[m]?=some (i0 s)) (W:WS s) (ho:dd.ok) (h:∀ g' j,Gr m g g'->g.length <= j->g'[m]?=some (i0 (doS s dd).2.2)->g'[j]?=some (.lst [.str (okW (doS s dd)),(doS s dd).2.1])->Q (.ref j) g'):b9 T (k + 7) 186 [.ref m,dd.d] g Q E:=by
 refine call_of h186 rfl ?_
 dsimp [L1,d8,List.replicate]
 walk_at "w5"
 refine aH2 (k:=k) hT h184 hm W ho (fun e g1 e1=>?_) (fun e=>?_)
 ·walk_at "w5"
  have hlen:g.length <= g1.length:=e1.len
  refine h _ _ ⟨by simp;omega,fun i hi hl=>?_⟩ (by simp;omega) ?_ (by unfold okW;rw [if_pos e];simp)
  ·rw [List.getElem?_append_left (by simp;omega),List.getElem?_set_ne (Ne.symm hi)]
   exact e1.old i hl
  ·rw [List.getElem?_append_left (by simp;exact B2 (e1.at hm))]
   exact get_set (e1.at hm)
 ·obtain ⟨_,h2⟩:=(bg2 (s:=s) (dd:=dd)).resolve_left e
  refine bB4 ?_
  walk_at "w5"
  exact h _ _ (Gr.snoc _ _ _) (Nat.le_refl _) (by rw [h2];exact (Ex.snoc _ _).at hm) (by unfold okW;rw [if_neg e,h2];exact i5)
theorem bb5 (h6:T 6=some X6) (h7:T 7=some u4) (h191:T 191=some K9) {r:Rs} {j:Nat} (hj:g[j]?=some (.lst [.str (okW r),r.2.1])) (hs:n0 r.2.1) (h:∀ g',Ex g g'->Q (.bl true) g'):b9 T (k + 3) 191 [.ref j,.tup [.str r.1,r.2.1]] g Q E:=by
 refine call_of h191 rfl ?_
 dsimp [K9,d8,List.replicate]
 walk_at "w5"
 have ew:decide (okW r="")=decide (r.1=""):=by
  unfold okW
  split
  ·rename_i e;rw [decide_eq_true rfl,decide_eq_true e]
  ·rename_i e;rw [decide_eq_false e];decide +kernel
 refine ifT (by rw [ew];simp) ?_
 walk_at "w5"
 exact t7 h6 h7 0 (k:=k) (aj4 hs) h
end
noncomputable def aH8:MDef:=⟨1,1,(.seq (.whil (.tst (.lit (.bl true))) (.seq .pass .pass)) .pass)⟩
noncomputable def X7:MDef:=⟨1,1,(.seq (.expr (.call 41 (.cons (.lit (.int 0)) .nil))) .pass)⟩
noncomputable def am8:MDef:=⟨1,12,(.seq (.set 1 (.call 3 (.cons (.var 0) .nil))) (.seq (.set 2 (.prim (.bin .Add) (.cons (.lit (.int 1)) (.cons (.call 4 (.cons (.var 1) (.cons (.lit (.int 3)) .nil))) .nil)))) (.seq (.set 3 (.make "Mint" 51 (.cons (.var 2) .nil))) (.seq (.set 4 (.call 45 (.cons (.var 2) .nil))) (.seq (.for_ (.one 5) (.itR1 (.prim (.bin .Add) (.cons (.lit (.int 8)) (.cons (.call 4 (.cons (.var 1) (.cons (.lit (.int 23)) .nil))) .nil)))) (.seq (.set 6 (.prim .rev (.cons (.prim .lrng1 (.cons (.prim .len (.cons (.prim .ix (.cons (.var 4) (.cons (.lit (.str "coins")) .nil))) .nil)) .nil)) .nil))) (.seq (.set 7 (.prim .list (.cons (.var 6) .nil))) (.seq (.set 8 (.prim .lst (.cons (.methc "anvils" [("Mint",60)] (.var 3) .nil) (.cons (.methc "hoard" [("Mint",67)] (.var 3) (.cons (.var 7) .nil)) .nil)))) (.seq (.set 10 (.comp [] 2 (.one 1) (.itE (.var 8)) .no (.prim .list (.cons (.var 1) .nil)))) (.seq (.ifs (.or_ (.tst (.prim (.cmp .NotEq) (.cons (.var 7) (.cons (.var 6) .nil)))) (.not_ (.tst (.call 7 (.cons (.prim .ix (.cons (.var 8) (.cons (.lit (.int 1)) .nil))) (.cons (.prim .rev (.cons (.prim .ix (.cons (.var 4) (.cons (.lit (.str "coins")) .nil))) .nil)) .nil)))))) (.seq (.ret (.lit (.bl false))) .pass) .pass) (.seq (.set 11 (.call 188 (.cons (.var 1) (.cons (.var 4) .nil)))) (.seq (.ifs (.or_ (.not_ (.tst (.call 191 (.cons (.call 186 (.cons (.var 3) (.cons (.var 11) .nil))) (.cons (.call 183 (.cons (.var 4) (.cons (.var 11) .nil))) .nil))))) (.tst (.prim (.cmp .NotEq) (.cons (.var 8) (.cons (.var 10) .nil))))) (.seq (.ret (.lit (.bl false))) .pass) .pass) (.seq (.for_ (.one 9) (.itE (.var 8)) (.seq (.expr (.meth .clear (.var 9) .nil)) .pass)) (.seq (.ifs (.not_ (.tst (.call 47 (.cons (.var 3) (.cons (.var 4) .nil))))) (.seq (.ret (.lit (.bl false))) .pass) .pass) .pass)))))))))) (.seq (.ret (.lit (.bl true))) .pass))))))⟩
structure T38 (T:Nat->Option MDef):Prop where
 tr:TR T
 tv:TV T
 h3:T 3=some ac4
 h6:T 6=some X6
 h7:T 7=some u4
 h11:T 11=some am8
 h45:T 45=some V7
 h47:T 47=some B3
 h184:T 184=some L3
 h186:T 186=some L1
 h191:T 191=some K9
section
variable {T:Nat->Option MDef} {k d:Nat} {g g':G} {Q:KD} {E:KX} {m n q c:Nat} {s:MSt}
theorem bb7 {n i:Nat} {y:D} (h:(j0 0 n).reverse[i]?=some y):i < n/\y=.int ((n:Int) - 1 - i):=by
 have hi:=(List.getElem?_eq_some_iff.mp h).1
 rw [List.length_reverse,w6] at hi
 rw [List.getElem?_reverse (by rw [w6];exact hi),w6] at h
 obtain ⟨_,rfl⟩:=R0 h
 exact ⟨hi,by congr 1;omega⟩
theorem aQ5 (hT:TQ T) (hm:g[m]?=some (i0 s)) (hc:g[c]?=some (.lst (j0 0 s.co.length).reverse)) (hz:s.co.length <= 1000) (h:Q (.ref g.length) (g ++ [.lst s.co.reverse])):b9 T (k + 4) 67 [.ref m,.ref c] g Q E:=by
 refine call_of hT.tm.h67 rfl ?_
 dsimp [C9,d8,List.replicate]
 walk_at "w5"
 refine S2 (g0 T _) (i_l (g0 T _) ?_)
 walk_at "w5"
 refine ⟨c,_,rfl,a8 hc,(j0 0 s.co.length).reverse,fun i ys σ g'=>ys=s.co.reverse.take i/\g'=g/\∃ z1 z2,σ=[some (.ref m),z1,z2],by rw [List.length_reverse,w6];exact hz,fun i ys σ g' p=>?_,⟨by simp,rfl,_,_,rfl⟩,fun i y ys σ g' hy p=>?_,fun ys σ g' p=>?_⟩
 ·obtain ⟨rfl,rfl,_⟩:=p
  exact ⟨E6 (a8 hc),by rw [List.length_take];omega⟩
 ·obtain ⟨rfl,rfl,z1,z2,rfl⟩:=p
  obtain ⟨hi,rfl⟩:=bb7 hy
  refine A3 ?_
  try show wpT _ _ _ _ _ _
  walk_at "w5"
  refine i8 hm rfl rfl ?_
  walk_at "w5"
  refine ay7 (k:=k) hT hm (fun c' _ _ e=>?_) (fun z=>absurd ⟨by omega,by omega⟩ z)
  refine ⟨?_,rfl,_,_,rfl⟩
  rw [show ((s.co.length:Int) - 1 - (i:Int)).toNat=s.co.length - 1 - i by omega] at e
  rw [List.take_add_one,List.getElem?_reverse hi,e]
  rfl
 ·obtain ⟨rfl,rfl,_⟩:=p
  rw [List.length_reverse,w6,<- List.length_reverse (as:=s.co),List.take_length]
  exact h
theorem L5 {n:Nat}:∀ {l:List D},(∀ x ∈ l,∃ p,rd g n x=some p/\p.canLay0=true)->∃ ps,l.mapM (rd g n)=some ps/\PyData.canLayAll0 ps=true
 | [],_=>⟨[],rfl,by simp [PyData.canLayAll0]⟩
 | x :: l,h=>by
  obtain ⟨p,h1,h2⟩:=h x (by simp)
  obtain ⟨ps,h3,h4⟩:=L5 (l:=l) fun y hy=>h y (List.mem_cons_of_mem _ hy)
  exact ⟨p :: ps,by rw [List.mapM_cons,h1,h3];rfl,by simp [PyData.canLayAll0,h2,h4]⟩
theorem V1 {n a:Nat} {l:List D} {ps:List PyData} (ha:g[a]?=some (.lst l)) (h:l.mapM (rd g n)=some ps):rd g (n + 1) (.ref a)=some (.list ps):=by
 simp only [rd]
 rw [a8 ha]
 dsimp only
 rw [h]
 rfl
theorem X9 {n:Nat} {y:D} (h:n0 y):∃ p,rd g n y=some p/\p.canLay0=true:=by
 rcases h with rfl | ⟨i,rfl⟩
 ·exact ⟨.none,by cases n <;> rfl,by simp [PyData.canLay0]⟩
 ·exact ⟨.int i,by cases n <;> rfl,by simp [PyData.canLay0]⟩
theorem aP8 {n:Nat} {l:List Int}:∃ p,rd g (n + 1) (mk l)=some p/\p.canLay0=true:=by
 refine ⟨.tuple (l.map .int),?_,by simp [PyData.canLay0,lay_ints]⟩
 simp only [rd]
 rw [U2]
 rfl
theorem aY9 {n:Nat} {y:D} (h:aK4 y):∃ p,rd g (n + 2) y=some p/\p.canLay0=true:=by
 obtain ⟨a,l,b,m,y,rfl,h1,h2⟩:=h
 obtain ⟨ps,e1,e2⟩:=L5 (g:=g) (n:=n + 1) (l:=[.int a,mk l,.int b,mk m,.int y]) fun x hx=>by
  simp only [List.mem_cons,List.mem_nil_iff,or_false] at hx
  rcases hx with rfl | rfl | rfl | rfl | rfl
  ·exact X9 (.inr ⟨_,rfl⟩)
  ·exact aP8
  ·exact X9 (.inr ⟨_,rfl⟩)
  ·exact aP8
  ·exact X9 (.inr ⟨_,rfl⟩)
 exact ⟨.tuple ps,by simp only [rd];rw [e1];rfl,by simpa [PyData.canLay0] using e2⟩
structure Ls (g:G) (q a b e a' b' e':Nat) (s:MSt):Prop where
 ha:g[a]?=some (.lst s.bl)
 hb:g[b]?=some (.lst s.co.reverse)
 he:g[e]?=some (.lst [.ref a,.ref b])
 ha':g[a']?=some (.lst s.bl)
 hb':g[b']?=some (.lst s.co.reverse)
 he':g[e']?=some (.lst [.ref a',.ref b'])
 lo:q + 7 <= a/\a < b/\b < e/\e < a'/\a' < b'/\b' < e'
variable {a b e a' b' e':Nat}
theorem Ls.keep (L:Ls g q a b e a' b' e' s) (h:∀ x o,q + 7 <= x->g[x]?=some o->g'[x]?=some o):Ls g' q a b e a' b' e' s:=by
 have lo:=L.lo
 exact ⟨h _ _ (by omega) L.ha,h _ _ (by omega) L.hb,h _ _ (by omega) L.he,h _ _ (by omega) L.ha',h _ _ (by omega) L.hb',h _ _ (by omega) L.he',lo⟩
theorem Ls.ne (L:Ls g q a b e a' b' e' s) (W:WS s) (h:Q (.bl false) g):prP (.cmp .NotEq) [.ref e,.ref e'] g Q:=by
 obtain ⟨p1,r1,c1⟩:=L5 (g:=g) (n:=4) (l:=s.bl) fun x hx=>X9 (W.se x hx)
 obtain ⟨p2,r2,c2⟩:=L5 (g:=g) (n:=4) (l:=s.co.reverse) fun x hx=>aY9 (n:=2) (W.cs x (List.mem_reverse.mp hx))
 have hl:(PyData.list [.list p1,.list p2]).canLay0=true:=by simp [PyData.canLay0,PyData.canLayAll0,c1,c2]
 have f1:rd g 6 (.ref e)=some (.list [.list p1,.list p2]):=V1 (n:=5) L.he (by rw [List.mapM_cons,List.mapM_cons,V1 L.ha r1,V1 L.hb r2];rfl)
 have f2:rd g 6 (.ref e')=some (.list [.list p1,.list p2]):=V1 (n:=5) L.he' (by rw [List.mapM_cons,List.mapM_cons,V1 L.ha' r1,V1 L.hb' r2];rfl)
 exact az2 ⟨true,.inr (.inr (.inr ⟨_,_,f1,f2,hl,hl,(PySem.SeqAt.eqv_refl _ hl).symm⟩)),h⟩
theorem aZ1 (hT:T38 T) {ns:List Int}:b9 T (k + 9) 11 [.ref 0] [.fro (ns.map .int)] (fun d _=>d=.bl true) NoX:=by
 refine call_of hT.h11 rfl ?_
 dsimp [am8,d8,List.replicate]
 walk_at "w5"
 refine bd9 hT.h3 (a:=0) (ns:=ns) rfl fun d g D0 _ _=>?_
 walk_at "w5"
 refine n8 hT.tv.h4 D0 (by decide) (by decide) fun r g1 r0 r1 D1 G1=>?_
 walk_at "w5"
 obtain ⟨n,hn⟩:∃ n:Nat,1 + r=n:=⟨(1 + r).toNat,by omega⟩
 rw [hn]
 have hn9:1 <= n/\n <= 9:=by omega
 refine be9 (k:=k + 4) hT.tr.tq.tm hn9 ?_
 refine ⟨rfl,?_⟩
 walk_at "w5"
 have m2:(g1 ++ [i0 (s0 n)])[g1.length]?=some (i0 (s0 n)):=i5
 have D2:=D1.snoc (i0 (s0 n))
 have dl:=D1.lt
 have l2:(g1 ++ [i0 (s0 n)]).length=g1.length + 1:=by simp
 generalize g1 ++ [i0 (s0 n)]=g2 at *
 refine aO9 (k:=k + 7) hT.h45 hn9.2 fun g3 e3 M3=>?_
 have I0:InM g3 d g1.length g2.length (s0 n):=⟨e3.draw D2,by omega,by omega,e3.at m2,M3,bS9 hn9.2⟩
 generalize g1.length=m at *
 generalize g2.length=q at *
 clear m2 D2 e3 M3
 walk_at "w5"
 refine as4 (g0 T _) (bs5 (g0 T _) ?_)
 walk_at "w5"
 refine n8 hT.tv.h4 I0.dr (by decide) (by decide) fun r8 g8 r80 r81 D8 G8=>?_
 walk_at "w5"
 refine ⟨by omega,by omega,j0 0 (8 + r8).toNat,fun i σ g=>∃ s,InM g d m q s/\∃ z5 z6 z7 z8 z9 z10 z11,σ=[some (.ref 0),some (.ref d),some (.int n),some (.ref m),some (.ref q),z5,z6,z7,z8,z9,z10,z11],fun i σ g p=>aa7,⟨_,I0.gr G8 D8,none,none,none,none,none,none,none,rfl⟩,fun i y σ g hy p=>?_,fun σ g p=>?_⟩
 ·obtain ⟨s,I,z5,z6,z7,z8,z9,z10,z11,rfl⟩:=p
  have W:=I.ws
  have cn:=W.cn
  have bn:=W.bn
  have ql:=B2 I.md.coins
  refine A3 ?_
  try show wpS _ _ _ _ _ _
  walk_at "w5"
  refine j8 I.md.dic rfl kvC ?_
  refine p6 (a8 I.md.coins) ?_
  refine lr1 (by omega) (by omega) ?_
  rw [show ((s.co.length:Nat):Int).toNat=s.co.length from Int.toNat_natCast _]
  refine a39 (a8 i5) ?_
  have x1:Ex g (g ++ [O.lst (j0 0 s.co.length)] ++ [O.lst (j0 0 s.co.length).reverse]):=(Ex.snoc _ _).trans (Ex.snoc _ _)
  have h1:(g ++ [O.lst (j0 0 s.co.length)] ++ [O.lst (j0 0 s.co.length).reverse])[(g ++ [O.lst (j0 0 s.co.length)]).length]?=some (.lst (j0 0 s.co.length).reverse):=i5
  generalize (g ++ [O.lst (j0 0 s.co.length)]).length=a1 at *
  generalize g ++ [O.lst (j0 0 s.co.length)] ++ [O.lst (j0 0 s.co.length).reverse]=g1' at *
  walk_at "w5"
  refine as6 (a8 h1) ?_
  have x2:Ex g1' (g1' ++ [O.lst (j0 0 s.co.length).reverse]):=Ex.snoc _ _
  have h2:(g1' ++ [O.lst (j0 0 s.co.length).reverse])[g1'.length]?=some (.lst (j0 0 s.co.length).reverse):=i5
  generalize g1'.length=a2 at *
  generalize g1' ++ [O.lst (j0 0 s.co.length).reverse]=g2' at *
  have I2:=I.ex (x1.trans x2)
  have ql2:=B2 I2.md.coins
  walk_at "w5"
  refine i8 I2.mi rfl rfl ?_
  walk_at "w5"
  refine am0 (k:=k + 7) hT.tr.tq I2.mi ?_
  have x3:Ex g2' (g2' ++ [O.lst s.bl]):=Ex.snoc _ _
  have h3:(g2' ++ [O.lst s.bl])[g2'.length]?=some (.lst s.bl):=i5
  have l3:(g2' ++ [O.lst s.bl]).length=g2'.length + 1:=by simp
  generalize g2' ++ [O.lst s.bl]=g3' at *
  have I3:=I2.ex x3
  walk_at "w5"
  refine i8 I3.mi rfl rfl ?_
  walk_at "w5"
  refine aQ5 (k:=k + 4) hT.tr.tq I3.mi (x3.at h2) (by omega) ?_
  have x4:Ex g3' (g3' ++ [O.lst s.co.reverse]):=Ex.snoc _ _
  have h4:(g3' ++ [O.lst s.co.reverse])[g3'.length]?=some (.lst s.co.reverse):=i5
  have l4:(g3' ++ [O.lst s.co.reverse]).length=g3'.length + 1:=by simp
  generalize g3' ++ [O.lst s.co.reverse]=g4' at *
  walk_at "w5"
  have x5:Ex g4' (g4' ++ [O.lst [.ref g2'.length,.ref g3'.length]]):=Ex.snoc _ _
  have h5:(g4' ++ [O.lst [.ref g2'.length,.ref g3'.length]])[g4'.length]?=some (.lst [.ref g2'.length,.ref g3'.length]):=i5
  have l5:(g4' ++ [O.lst [.ref g2'.length,.ref g3'.length]]).length=g4'.length + 1:=by simp
  generalize g4' ++ [O.lst [.ref g2'.length,.ref g3'.length]]=g5' at *
  have f3:=x5.at (x4.at h3)
  have f4:=x5.at h4
  refine S2 (g0 T _) (i_l (g0 T _) ?_)
  walk_at "w5"
  have n2:g2'.length >= q + 7:=by omega
  refine ⟨_,_,rfl,a8 h5,[.ref g2'.length,.ref g3'.length],fun i ys σ g'=>(∃ z0 z1,σ=[z0,z1])/\((i=0/\ys=[]/\g'=g5') \/ (i=1/\ys=[.ref g5'.length]/\g'=g5' ++ [.lst s.bl]) \/ (i=2/\ys=[.ref g5'.length,.ref (g5'.length + 1)]/\g'=g5' ++ [.lst s.bl] ++ [.lst s.co.reverse])),by simp,fun i ys σ g' p=>?_,⟨⟨_,_,rfl⟩,.inl ⟨rfl,rfl,rfl⟩⟩,fun i y ys σ g' hy p=>?_,fun ys σ g' p=>?_⟩
  ·obtain ⟨_,p⟩:=p
   rcases p with ⟨rfl,rfl,rfl⟩ | ⟨rfl,rfl,rfl⟩ | ⟨rfl,rfl,rfl⟩
   ·exact ⟨E6 (a8 h5),by simp⟩
   ·exact ⟨E6 (a8 ((Ex.snoc _ _).at h5)),by simp⟩
   ·exact ⟨E6 (a8 ((Ex.snoc _ _).at ((Ex.snoc _ _).at h5))),by simp⟩
  ·obtain ⟨⟨z0,z1,rfl⟩,p⟩:=p
   refine A3 ?_
   try show wpT _ _ _ _ _ _
   walk_at "w5"
   rcases p with ⟨rfl,rfl,rfl⟩ | ⟨rfl,rfl,rfl⟩ | ⟨rfl,rfl,rfl⟩
   ·cases hy
    refine as6 (a8 f3) ?_
    exact ⟨⟨_,_,rfl⟩,.inr (.inl ⟨rfl,rfl,rfl⟩)⟩
   ·cases hy
    refine as6 (a8 ((Ex.snoc _ _).at f4)) ?_
    exact ⟨⟨_,_,rfl⟩,.inr (.inr ⟨rfl,by simp,rfl⟩)⟩
   ·simp at hy
  ·obtain ⟨_,p⟩:=p
   rcases p with ⟨z,_⟩ | ⟨z,_⟩ | ⟨_,rfl,rfl⟩
   ·simp at z
   ·simp at z
   have l7:(g5' ++ [O.lst s.bl] ++ [O.lst s.co.reverse]).length=g5'.length + 2:=by simp
   have x6:Ex g5' (g5' ++ [O.lst s.bl] ++ [O.lst s.co.reverse]):=(Ex.snoc _ _).trans (Ex.snoc _ _)
   have k6:(g5' ++ [O.lst s.bl] ++ [O.lst s.co.reverse])[g5'.length]?=some (.lst s.bl):=(Ex.snoc _ _).at i5
   have k7:(g5' ++ [O.lst s.bl] ++ [O.lst s.co.reverse])[g5'.length + 1]?=some (.lst s.co.reverse):=by simp
   generalize g5' ++ [O.lst s.bl] ++ [O.lst s.co.reverse]=g6' at *
   have x7:Ex g6' (g6' ++ [O.lst [.ref g5'.length,.ref (g5'.length + 1)]]):=Ex.snoc _ _
   have L0:Ls (g6' ++ [O.lst [.ref g5'.length,.ref (g5'.length + 1)]]) q g2'.length g3'.length g4'.length g5'.length (g5'.length + 1) g6'.length s:=⟨(x6.trans x7).at f3,(x6.trans x7).at f4,(x6.trans x7).at h5,x7.at k6,x7.at k7,i5,by omega⟩
   have I7:=I3.ex (x4.trans (x5.trans (x6.trans x7)))
   have n7:=(x2.trans (x3.trans (x4.trans (x5.trans (x6.trans x7))))).at h1
   have o7:=(x3.trans (x4.trans (x5.trans (x6.trans x7)))).at h2
   generalize g6' ++ [O.lst [.ref g5'.length,.ref (g5'.length + 1)]]=g7' at *
   generalize g2'.length=a at *
   generalize g3'.length=b at *
   generalize g4'.length=e at *
   generalize g5'.length=a' at *
   generalize g6'.length=e' at *
   clear x1 h1 x2 h2 I2 x3 h3 I3 x4 h4 x5 h5 f3 f4 x6 k6 k7 x7
   have lo:=L0.lo
   obtain ⟨ms,hms,_⟩:=av5 (a:=0) (n:=s.co.length)
   have hr:(j0 0 s.co.length).reverse=ms.reverse.map .int:=by rw [hms,List.map_reverse]
   rw [hr] at n7 o7
   walk_at "w5"
   refine az2 (aR4 (ms:=ms.reverse) (ns:=ms.reverse) (a8 o7) (a8 n7) ?_)
   rw [decide_eq_true rfl]
   walk_at "w5"
   refine L6 (a8 L0.he) (d:=.ref b) (by with_unfolding_all rfl) ?_
   walk_at "w5"
   refine j8 I7.md.dic rfl kvC ?_
   refine a39 (a8 I7.md.coins) ?_
   walk_at "w5"
   refine t7 hT.h6 hT.h7 3 (k:=k + 3) (an2 (n:=2) ((Ex.snoc _ _).at L0.hb) i5 (fun x hx=>aq3 (W.cs x (List.mem_reverse.mp hx))) (by rw [List.length_reverse];omega)) fun g9 e9=>?_
   have x9:=(Ex.snoc g7' _).trans e9
   have I9:=I7.ex x9
   have L9:=L0.keep fun x o _ h=>x9.at h
   have dm:=I9.dm
   have mq:=I9.mq
   walk_at "w5"
   refine bg4 (k:=k + 3) hT.tv I9.md I9.ws I9.dr (by omega) fun dd g11 ok D11 G11=>?_
   have I11:=I9.gr G11 D11
   have L11:=L9.keep fun x o hx h=>G11.at (by omega) h
   have ql11:=B2 I11.md.coins
   walk_at "w5"
   refine bi6 (k:=k + 1) hT.tr.tq hT.h184 hT.h186 I11.mi I11.ws ok fun g12 j G12 hj m12 f12=>?_
   obtain ⟨D12,M12⟩:=I11.half G12 m12
   have L12:=L11.keep fun x o hx h=>G12.at (by omega) h
   walk_at "w5"
   refine bf0 (k:=k + 6) hT.tr M12 I11.ws ok fun g13 K13 M13=>?_
   have I13:InM g13 d m q (doS s dd).2.2:=InM.both D12 dm mq m12 K13 M13 (bF2 W)
   have L13:=L12.keep fun x o hx h=>K13.at (.inr hx) h
   have f13:=K13.at (.inr (by omega)) f12
   walk_at "w5"
   refine bb5 (k:=k + 5) hT.h6 hT.h7 hT.h191 f13 bg3 fun g14 e14=>?_
   have I14:=I13.ex e14
   have L14:=L13.keep fun x o _ h=>e14.at h
   walk_at "w5"
   refine L14.ne W ?_
   walk_at "w5"
   refine as4 (g0 T _) (i_l (g0 T _) ?_)
   walk_at "w5"
   refine ⟨_,_,rfl,a8 L14.he,[.ref a,.ref b],fun i σ g'=>(∃ z5 z9 z11,σ=[some (.ref 0),some (.ref d),some (.int n),some (.ref m),some (.ref q),z5,some (.ref a1),some (.ref a2),some (.ref e),z9,some (.ref e'),z11])/\((i=0/\g'=g14) \/ (i=1/\g'=g14.set a (.lst [])) \/ (i=2/\g'=(g14.set a (.lst [])).set b (.lst []))),fun i σ g' p=>?_,⟨⟨_,_,_,rfl⟩,.inl ⟨rfl,rfl⟩⟩,fun i y σ g' hy p=>?_,fun σ g' p=>?_⟩
   ·obtain ⟨_,p⟩:=p
    rcases p with ⟨rfl,rfl⟩ | ⟨rfl,rfl⟩ | ⟨rfl,rfl⟩
    ·exact E6 (a8 L14.he)
    ·exact E6 (a8 (b8 L14.he (by omega)))
    ·exact E6 (a8 (b8 (b8 L14.he (by omega)) (by omega)))
   ·obtain ⟨⟨z5,z9,z11,rfl⟩,p⟩:=p
    refine A3 ?_
    try show wpS _ _ _ _ _ _
    rcases p with ⟨rfl,rfl⟩ | ⟨rfl,rfl⟩ | ⟨rfl,rfl⟩
    ·cases hy
     walk_at "w5"
     refine ⟨aw4 L14.ha,?_⟩
     walk_at "w5"
     refine aD3 L14.ha ?_
     walk_at "w5"
     exact ⟨⟨_,_,_,rfl⟩,.inr (.inl ⟨rfl,rfl⟩)⟩
    ·cases hy
     have hb:(g14.set a (.lst []))[b]?=some (.lst s.co.reverse):=b8 L14.hb (by omega)
     walk_at "w5"
     refine ⟨aw4 hb,?_⟩
     walk_at "w5"
     refine aD3 hb ?_
     walk_at "w5"
     exact ⟨⟨_,_,_,rfl⟩,.inr (.inr ⟨rfl,rfl⟩)⟩
    ·simp at hy
   ·obtain ⟨⟨z5,z9,z11,rfl⟩,p⟩:=p
    rcases p with ⟨z,_⟩ | ⟨z,_⟩ | ⟨_,rfl⟩
    ·simp at z
    ·simp at z
    have I15:InM ((g14.set a (.lst [])).set b (.lst [])) d m q (doS s dd).2.2:=⟨(I14.dr.av0 (by omega)).av0 (by omega),dm,mq,b8 (b8 I14.mi (by omega)) (by omega),(I14.md.av0 (.inr (by omega))).av0 (.inr (by omega)),I14.ws⟩
    generalize (g14.set a (.lst [])).set b (.lst [])=g15 at *
    try show wpS _ _ _ _ _ _
    walk_at "w5"
    refine aF6 (k:=k + 2) hT.tr.tq hT.h6 hT.h7 hT.h47 I15.mi I15.md I15.ws fun g16 e16=>?_
    walk_at "w5"
    exact ⟨_,I15.ex e16,_,_,_,_,_,_,_,rfl⟩
 ·obtain ⟨s,I,z5,z6,z7,z8,z9,z10,z11,rfl⟩:=p
  try show wpS _ _ _ _ _ _
  walk_at "w5"
  try rfl
end
end M

namespace Lk
open PySem L2 M
abbrev Q1 (K:PySem.W.Frag) (x:Str) (a:Addr):Prop:=PySem.W.nsIn K mainGlobals x=some (some (.ref a))
abbrev Q2 (K:PySem.W.Frag) (x:Str):Prop:=PySem.W.nsIn K mainGlobals x=some none
abbrev Q3 (K:PySem.W.Frag) (c:Value) (x:Str):Prop:=PySem.W.codeIn K c x=true
abbrev Q4 (K:PySem.W.Frag) (a:Addr):Prop:=PySem.W.keepIn K (.ref a)=true
abbrev Q5 (K:PySem.W.Frag) (a:Addr):Prop:=PySem.W.isFn K (.ref a)=true
abbrev Q6 (K:PySem.W.Frag) (c:Addr) (x:Str) (a:Addr):Prop:=PySem.W.findIn K (.ref c) x=some (some (.ref a))
abbrev Q7 (K:PySem.W.Frag) (f:Addr) (x y:Str) (s:Stmt) (oc:Value) (od:Option Addr) (kV dc pm:Value) (an:Option Addr) (cd ct:Value) (sl:Array (Option Value)):Prop:=K.lookup f=some ⟨oc,od,.func (PySem.W.fnOf x y (V9 s) (c8 s) (b0 s) .none kV dc pm an cd ct),sl⟩
abbrev Q8 (K:PySem.W.Frag) (a:Addr):Prop:=PySem.W.excIn K a [.type "ValueError",.type "Exception",.type "BaseException",.type "object"] "ValueError.__new__"=true
noncomputable def top (i:Nat):Stmt:=PySem.Challenge.pw_trussel_k38_answers_of_mints_are_new.main.body.getD i (.Pass ⟨0,0,0,0⟩)
noncomputable def bg7:Stmt->List Stmt
 | .ClassDef (body:=b) ..=>b
 | _=>[]
noncomputable def i7 (i j:Nat):Stmt:=(bg7 (top i)).getD j (.Pass ⟨0,0,0,0⟩)
noncomputable def con:List (Str × D):=[("LAST_SPOT",.int 7),("LAST_DIE",.int 99),("LAST_YEAR",.int 9999),("SIDES",.tup [(.str "lower"),(.str "upper")]),("MOST_ANVILS",.int 9),("MOST_STRUCK",.int 200)]
noncomputable def gd:List (Str × List D):=[]
noncomputable def blt:List Str:=["len","list","tuple","isinstance","all","range","int","bool","str","sorted","set"]
noncomputable def exc:List Str:=["BadAnvils","BadSide","BadSpot","BadYear","Fixed","Full","Gone","Marked","MintError","NoAnvil","NoCoin","NoDie","NotFixed"]
noncomputable def fns:List (Str × Nat):=[(("_wall":Str),41),(("is_number":Str),38),(("number_from":Str),1),(("both":Str),16),(("check_side":Str),40),(("with_thing":Str),177),(("check_anvils":Str),42),(("check_cut":Str),43),(("_law_open":Str),3),(("_law_pull":Str),4),(("_law_far":Str),5),(("_law_near":Str),36),(("_law_num":Str),6),(("_law_like":Str),7),(("_law_model":Str),45),(("_law_m_cut":Str),46),(("_law_m_fix":Str),178),(("_law_m_off":Str),179),(("_law_m_mark":Str),181),(("_law_m_strike":Str),182),(("_law_m_do":Str),183),(("_law_number_of":Str),37),(("_law_side":Str),29),(("_law_deed":Str),188),(("_law_mint_do":Str),184),(("_law_mint_try":Str),186),(("_law_same_end":Str),191),(("_law_mint_stands":Str),47),(("law":Str),11)]
noncomputable def bt6:List (Str × Nat):=[("Mint",51)]
noncomputable def mts:List (Str × Str × Nat):=[(("wear_of":Str),("Mint":Str),52),(("put_wear":Str),("Mint":Str),53),(("cut":Str),("Mint":Str),54),(("fix":Str),("Mint":Str),55),(("lay_off":Str),("Mint":Str),56),(("mark":Str),("Mint":Str),57),(("strike":Str),("Mint":Str),58),(("begin_year":Str),("Mint":Str),59),(("anvils":Str),("Mint":Str),60),(("dies":Str),("Mint":Str),61),(("marks":Str),("Mint":Str),62),(("state":Str),("Mint":Str),63),(("year":Str),("Mint":Str),64),(("struck":Str),("Mint":Str),65),(("coin":Str),("Mint":Str),66),(("hoard":Str),("Mint":Str),67),(("twin":Str),("Mint":Str),68)]
noncomputable def fls:List (Str × Str):=[(("bench":Str),("Mint":Str)),(("laid_off":Str),("Mint":Str)),(("lower_wear":Str),("Mint":Str)),(("upper_wear":Str),("Mint":Str)),(("present":Str),("Mint":Str)),(("output":Str),("Mint":Str))]
noncomputable def c0:i3:=⟨[],[],true,fns,con,blt,exc,gd,bt6,mts,fls,true,true⟩
noncomputable def T:Nat->Option MDef
 | 41=>some aH8
 | 38=>some P1
 | 1=>some E0
 | 16=>some ak1
 | 40=>some D5
 | 177=>some C8
 | 42=>some C3
 | 43=>some P2
 | 3=>some ac4
 | 4=>some E8
 | 5=>some X8
 | 36=>some ac5
 | 6=>some X6
 | 7=>some u4
 | 45=>some V7
 | 46=>some ac8
 | 178=>some ac7
 | 179=>some ac6
 | 181=>some P0
 | 182=>some L4
 | 183=>some ax0
 | 37=>some N9
 | 29=>some ac3
 | 188=>some E9
 | 184=>some L3
 | 186=>some L1
 | 191=>some K9
 | 47=>some B3
 | 11=>some am8
 | 51=>some O2
 | 52=>some E1
 | 53=>some B9
 | 54=>some S9
 | 55=>some S8
 | 56=>some E4
 | 57=>some C0
 | 58=>some E3
 | 59=>some A6
 | 60=>some E5
 | 61=>some O8
 | 62=>some J5
 | 63=>some J1
 | 64=>some O0
 | 65=>some E2
 | 66=>some O9
 | 67=>some C9
 | 68=>some X7
 | _=>none
noncomputable abbrev d41:DefI:=⟨"_wall","_wall",["k"],["k"],top 0⟩
noncomputable abbrev d38:DefI:=⟨"is_number","is_number",["thing"],["thing"],top 17⟩
noncomputable abbrev d1:DefI:=⟨"number_from","number_from",["number","least","most"],["number","least","most"],top 18⟩
noncomputable abbrev d16:DefI:=⟨"both","both",["one","other"],["one","other"],top 19⟩
noncomputable abbrev d40:DefI:=⟨"check_side","check_side",["side"],["side"],top 24⟩
noncomputable abbrev ah7:DefI:=⟨"with_thing","with_thing",["things","at","thing"],["things","at","thing"],top 25⟩
noncomputable abbrev d42:DefI:=⟨"check_anvils","check_anvils",["anvils"],["anvils"],top 28⟩
noncomputable abbrev d43:DefI:=⟨"check_cut","check_cut",["wear","die"],["wear","die"],top 31⟩
noncomputable abbrev d3:DefI:=⟨"_law_open","_law_open",["_law_script"],["_law_script"],top 34⟩
noncomputable abbrev d4:DefI:=⟨"_law_pull","_law_pull",["_law_draw","_law_total_of","_law_cell","_law_got","_law_seed"],["_law_draw","_law_total_of"],top 35⟩
noncomputable abbrev d5:DefI:=⟨"_law_far","_law_far",["_law_draw","_law_number"],["_law_draw"],top 36⟩
noncomputable abbrev d36:DefI:=⟨"_law_near","_law_near",["_law_draw","_law_total_of"],["_law_draw","_law_total_of"],top 37⟩
noncomputable abbrev d6:DefI:=⟨"_law_num","_law_num",["_law_found"],["_law_found"],top 38⟩
noncomputable abbrev d7:DefI:=⟨"_law_like","_law_like",["_law_found","_law_due"],["_law_found","_law_due"],top 39⟩
noncomputable abbrev d45:DefI:=⟨"_law_model","_law_model",["_law_anvils"],["_law_anvils"],top 40⟩
noncomputable abbrev d46:DefI:=⟨"_law_m_cut","_law_m_cut",["_law_m","_law_side_here"],["_law_m","_law_side_here"],top 41⟩
noncomputable abbrev ah6:DefI:=⟨"_law_m_fix","_law_m_fix",["_law_m","_law_die","_law_seat"],["_law_m","_law_die"],top 42⟩
noncomputable abbrev ah5:DefI:=⟨"_law_m_off","_law_m_off",["_law_m","_law_die","_law_seat"],["_law_m","_law_die"],top 43⟩
noncomputable abbrev ah4:DefI:=⟨"_law_m_mark","_law_m_mark",["_law_m","_law_side_here","_law_die","_law_spot","_law_marks"],["_law_m","_law_side_here","_law_die","_law_spot"],top 44⟩
noncomputable abbrev ah3:DefI:=⟨"_law_m_strike","_law_m_strike",["_law_m","_law_lower","_law_upper"],["_law_m","_law_lower","_law_upper"],top 45⟩
noncomputable abbrev ah2:DefI:=⟨"_law_m_do","_law_m_do",["_law_m","_law_deed_here","_law_word"],["_law_m","_law_deed_here"],top 46⟩
noncomputable abbrev d37:DefI:=⟨"_law_number_of","_law_number_of",["_law_draw","_law_numbers"],["_law_draw","_law_numbers"],top 47⟩
noncomputable abbrev d29:DefI:=⟨"_law_side","_law_side",["_law_draw"],["_law_draw"],top 48⟩
noncomputable abbrev ag9:DefI:=⟨"_law_deed","_law_deed",["_law_draw","_law_m","_law_turn","_law_on","_law_idle","_law_uppers","_law_side_here","_law_year","_law_years"],["_law_draw","_law_m"],top 49⟩
noncomputable abbrev ah1:DefI:=⟨"_law_mint_do","_law_mint_do",["_law_mint","_law_deed_here","_law_word"],["_law_mint","_law_deed_here"],top 50⟩
noncomputable abbrev ah0:DefI:=⟨"_law_mint_try","_law_mint_try",["_law_mint","_law_deed_here"],["_law_mint","_law_deed_here"],top 51⟩
noncomputable abbrev ag8:DefI:=⟨"_law_same_end","_law_same_end",["_law_found","_law_due"],["_law_found","_law_due"],top 52⟩
noncomputable abbrev d47:DefI:=⟨"_law_mint_stands","_law_mint_stands",["_law_mint","_law_m","_law_side_here","_law_die","_law_word"],["_law_mint","_law_m"],top 53⟩
noncomputable abbrev d11:DefI:=⟨"law","law",["_law_script","_law_draw","_law_anvils","_law_mint","_law_m","_law_turn","_law_numbers","_law_handed","_law_lists","_law_one","_law_copies","_law_deed_here"],["_law_script"],top 54⟩
noncomputable abbrev d51:DefI:=⟨"__init__","Mint.__init__",["self","anvils"],["self","anvils"],i7 32 0⟩
noncomputable abbrev d52:DefI:=⟨"wear_of","Mint.wear_of",["self","side"],["self","side"],i7 32 1⟩
noncomputable abbrev d53:DefI:=⟨"put_wear","Mint.put_wear",["self","side","wear"],["self","side","wear"],i7 32 2⟩
noncomputable abbrev d54:DefI:=⟨"cut","Mint.cut",["self","side","wear"],["self","side"],i7 32 3⟩
noncomputable abbrev d55:DefI:=⟨"fix","Mint.fix",["self","die","state","anvil"],["self","die"],i7 32 4⟩
noncomputable abbrev d56:DefI:=⟨"lay_off","Mint.lay_off",["self","die","anvil"],["self","die"],i7 32 5⟩
noncomputable abbrev d57:DefI:=⟨"mark","Mint.mark",["self","side","die","spot","marks"],["self","side","die","spot"],i7 32 6⟩
noncomputable abbrev d58:DefI:=⟨"strike","Mint.strike",["self","lower","upper","coin"],["self","lower","upper"],i7 32 7⟩
noncomputable abbrev d59:DefI:=⟨"begin_year","Mint.begin_year",["self","number"],["self","number"],i7 32 8⟩
noncomputable abbrev d60:DefI:=⟨"anvils","Mint.anvils",["self"],["self"],i7 32 9⟩
noncomputable abbrev d61:DefI:=⟨"dies","Mint.dies",["self","side"],["self","side"],i7 32 10⟩
noncomputable abbrev d62:DefI:=⟨"marks","Mint.marks",["self","side","die","wear"],["self","side","die"],i7 32 11⟩
noncomputable abbrev d63:DefI:=⟨"state","Mint.state",["self","die"],["self","die"],i7 32 12⟩
noncomputable abbrev d64:DefI:=⟨"year","Mint.year",["self"],["self"],i7 32 13⟩
noncomputable abbrev d65:DefI:=⟨"struck","Mint.struck",["self"],["self"],i7 32 14⟩
noncomputable abbrev d66:DefI:=⟨"coin","Mint.coin",["self","number"],["self","number"],i7 32 15⟩
noncomputable abbrev d67:DefI:=⟨"hoard","Mint.hoard",["self","numbers"],["self","numbers"],i7 32 16⟩
noncomputable abbrev d68:DefI:=⟨"twin","Mint.twin",["self"],["self"],i7 32 17⟩
theorem bK4:FnScope d41.N d41.ps (b0 d41.st):=⟨rfl,rfl,rfl,by decide +kernel,rfl,by decide +kernel,by decide +kernel⟩
theorem bR1:d0 (comp 60) (c0.at d41) (c8 d41.st)=some aH8.body:=by kernel_rfl
theorem bK6:FnScope d38.N d38.ps (b0 d38.st):=⟨rfl,rfl,rfl,by decide +kernel,rfl,by decide +kernel,by decide +kernel⟩
theorem bR3:d0 (comp 60) (c0.at d38) (c8 d38.st)=some P1.body:=by kernel_rfl
theorem sc1:FnScope d1.N d1.ps (b0 d1.st):=⟨rfl,rfl,rfl,by decide +kernel,rfl,by decide +kernel,by decide +kernel⟩
theorem co1:d0 (comp 60) (c0.at d1) (c8 d1.st)=some E0.body:=by kernel_rfl
theorem bL0:FnScope d16.N d16.ps (b0 d16.st):=⟨rfl,rfl,rfl,by decide +kernel,rfl,by decide +kernel,by decide +kernel⟩
theorem bR7:d0 (comp 60) (c0.at d16) (c8 d16.st)=some ak1.body:=by kernel_rfl
theorem bK5:FnScope d40.N d40.ps (b0 d40.st):=⟨rfl,rfl,rfl,by decide +kernel,rfl,by decide +kernel,by decide +kernel⟩
theorem bR2:d0 (comp 60) (c0.at d40) (c8 d40.st)=some D5.body:=by kernel_rfl
theorem bx6:FnScope ah7.N ah7.ps (b0 ah7.st):=⟨rfl,rfl,rfl,by decide +kernel,rfl,by decide +kernel,by decide +kernel⟩
theorem bD5:d0 (comp 60) (c0.at ah7) (c8 ah7.st)=some C8.body:=by kernel_rfl
theorem bK3:FnScope d42.N d42.ps (b0 d42.st):=⟨rfl,rfl,rfl,by decide +kernel,rfl,by decide +kernel,by decide +kernel⟩
theorem bR0:d0 (comp 60) (c0.at d42) (c8 d42.st)=some C3.body:=by kernel_rfl
theorem bK2:FnScope d43.N d43.ps (b0 d43.st):=⟨rfl,rfl,rfl,by decide +kernel,rfl,by decide +kernel,by decide +kernel⟩
theorem bQ9:d0 (comp 60) (c0.at d43) (c8 d43.st)=some P2.body:=by kernel_rfl
theorem sc3:FnScope d3.N d3.ps (b0 d3.st):=⟨rfl,rfl,rfl,by decide +kernel,rfl,by decide +kernel,by decide +kernel⟩
theorem co3:d0 (comp 60) (c0.at d3) (c8 d3.st)=some ac4.body:=by kernel_rfl
theorem sc4:FnScope d4.N d4.ps (b0 d4.st):=⟨rfl,rfl,rfl,by decide +kernel,rfl,by decide +kernel,by decide +kernel⟩
theorem co4:d0 (comp 60) (c0.at d4) (c8 d4.st)=some E8.body:=by kernel_rfl
theorem sc5:FnScope d5.N d5.ps (b0 d5.st):=⟨rfl,rfl,rfl,by decide +kernel,rfl,by decide +kernel,by decide +kernel⟩
theorem co5:d0 (comp 60) (c0.at d5) (c8 d5.st)=some X8.body:=by kernel_rfl
theorem bK8:FnScope d36.N d36.ps (b0 d36.st):=⟨rfl,rfl,rfl,by decide +kernel,rfl,by decide +kernel,by decide +kernel⟩
theorem bR5:d0 (comp 60) (c0.at d36) (c8 d36.st)=some ac5.body:=by kernel_rfl
theorem sc6:FnScope d6.N d6.ps (b0 d6.st):=⟨rfl,rfl,rfl,by decide +kernel,rfl,by decide +kernel,by decide +kernel⟩
theorem co6:d0 (comp 60) (c0.at d6) (c8 d6.st)=some X6.body:=by kernel_rfl
theorem sc7:FnScope d7.N d7.ps (b0 d7.st):=⟨rfl,rfl,rfl,by decide +kernel,rfl,by decide +kernel,by decide +kernel⟩
theorem co7:d0 (comp 60) (c0.at d7) (c8 d7.st)=some u4.body:=by kernel_rfl
theorem bK1:FnScope d45.N d45.ps (b0 d45.st):=⟨rfl,rfl,rfl,by decide +kernel,rfl,by decide +kernel,by decide +kernel⟩
theorem bQ8:d0 (comp 60) (c0.at d45) (c8 d45.st)=some V7.body:=by kernel_rfl
theorem bK0:FnScope d46.N d46.ps (b0 d46.st):=⟨rfl,rfl,rfl,by decide +kernel,rfl,by decide +kernel,by decide +kernel⟩
theorem bQ7:d0 (comp 60) (c0.at d46) (c8 d46.st)=some ac8.body:=by kernel_rfl
theorem bx5:FnScope ah6.N ah6.ps (b0 ah6.st):=⟨rfl,rfl,rfl,by decide +kernel,rfl,by decide +kernel,by decide +kernel⟩
theorem bD4:d0 (comp 60) (c0.at ah6) (c8 ah6.st)=some ac7.body:=by kernel_rfl
theorem bx4:FnScope ah5.N ah5.ps (b0 ah5.st):=⟨rfl,rfl,rfl,by decide +kernel,rfl,by decide +kernel,by decide +kernel⟩
theorem bD3:d0 (comp 60) (c0.at ah5) (c8 ah5.st)=some ac6.body:=by kernel_rfl
theorem bx3:FnScope ah4.N ah4.ps (b0 ah4.st):=⟨rfl,rfl,rfl,by decide +kernel,rfl,by decide +kernel,by decide +kernel⟩
theorem bD2:d0 (comp 60) (c0.at ah4) (c8 ah4.st)=some P0.body:=by kernel_rfl
theorem bx2:FnScope ah3.N ah3.ps (b0 ah3.st):=⟨rfl,rfl,rfl,by decide +kernel,rfl,by decide +kernel,by decide +kernel⟩
theorem bD1:d0 (comp 60) (c0.at ah3) (c8 ah3.st)=some L4.body:=by kernel_rfl
theorem bx1:FnScope ah2.N ah2.ps (b0 ah2.st):=⟨rfl,rfl,rfl,by decide +kernel,rfl,by decide +kernel,by decide +kernel⟩
theorem bD0:d0 (comp 60) (c0.at ah2) (c8 ah2.st)=some ax0.body:=by kernel_rfl
theorem bK7:FnScope d37.N d37.ps (b0 d37.st):=⟨rfl,rfl,rfl,by decide +kernel,rfl,by decide +kernel,by decide +kernel⟩
theorem bR4:d0 (comp 60) (c0.at d37) (c8 d37.st)=some N9.body:=by kernel_rfl
theorem bK9:FnScope d29.N d29.ps (b0 d29.st):=⟨rfl,rfl,rfl,by decide +kernel,rfl,by decide +kernel,by decide +kernel⟩
theorem bR6:d0 (comp 60) (c0.at d29) (c8 d29.st)=some ac3.body:=by kernel_rfl
theorem bw8:FnScope ag9.N ag9.ps (b0 ag9.st):=⟨rfl,rfl,rfl,by decide +kernel,rfl,by decide +kernel,by decide +kernel⟩
theorem bC7:d0 (comp 60) (c0.at ag9) (c8 ag9.st)=some E9.body:=by kernel_rfl
theorem bx0:FnScope ah1.N ah1.ps (b0 ah1.st):=⟨rfl,rfl,rfl,by decide +kernel,rfl,by decide +kernel,by decide +kernel⟩
theorem bC9:d0 (comp 60) (c0.at ah1) (c8 ah1.st)=some L3.body:=by kernel_rfl
theorem bw9:FnScope ah0.N ah0.ps (b0 ah0.st):=⟨rfl,rfl,rfl,by decide +kernel,rfl,by decide +kernel,by decide +kernel⟩
theorem bC8:d0 (comp 60) (c0.at ah0) (c8 ah0.st)=some L1.body:=by kernel_rfl
theorem bw7:FnScope ag8.N ag8.ps (b0 ag8.st):=⟨rfl,rfl,rfl,by decide +kernel,rfl,by decide +kernel,by decide +kernel⟩
theorem bC6:d0 (comp 60) (c0.at ag8) (c8 ag8.st)=some K9.body:=by kernel_rfl
theorem bJ9:FnScope d47.N d47.ps (b0 d47.st):=⟨rfl,rfl,rfl,by decide +kernel,rfl,by decide +kernel,by decide +kernel⟩
theorem bQ6:d0 (comp 60) (c0.at d47) (c8 d47.st)=some B3.body:=by kernel_rfl
theorem bL1:FnScope d11.N d11.ps (b0 d11.st):=⟨rfl,rfl,rfl,by decide +kernel,rfl,by decide +kernel,by decide +kernel⟩
theorem bR8:d0 (comp 60) (c0.at d11) (c8 d11.st)=some am8.body:=by kernel_rfl
theorem bJ8:FnScope d51.N d51.ps (b0 d51.st):=⟨rfl,rfl,rfl,by decide +kernel,rfl,by decide +kernel,by decide +kernel⟩
theorem bQ5:d0 (comp 60) (c0.at d51) (c8 d51.st)=some O2.body:=by kernel_rfl
theorem bJ7:FnScope d52.N d52.ps (b0 d52.st):=⟨rfl,rfl,rfl,by decide +kernel,rfl,by decide +kernel,by decide +kernel⟩
theorem bQ4:d0 (comp 60) (c0.at d52) (c8 d52.st)=some E1.body:=by kernel_rfl
theorem bJ6:FnScope d53.N d53.ps (b0 d53.st):=⟨rfl,rfl,rfl,by decide +kernel,rfl,by decide +kernel,by decide +kernel⟩
theorem bQ3:d0 (comp 60) (c0.at d53) (c8 d53.st)=some B9.body:=by kernel_rfl
theorem bJ5:FnScope d54.N d54.ps (b0 d54.st):=⟨rfl,rfl,rfl,by decide +kernel,rfl,by decide +kernel,by decide +kernel⟩
theorem bQ2:d0 (comp 60) (c0.at d54) (c8 d54.st)=some S9.body:=by kernel_rfl
theorem bJ4:FnScope d55.N d55.ps (b0 d55.st):=⟨rfl,rfl,rfl,by decide +kernel,rfl,by decide +kernel,by decide +kernel⟩
theorem bQ1:d0 (comp 60) (c0.at d55) (c8 d55.st)=some S8.body:=by kernel_rfl
theorem bJ3:FnScope d56.N d56.ps (b0 d56.st):=⟨rfl,rfl,rfl,by decide +kernel,rfl,by decide +kernel,by decide +kernel⟩
theorem bQ0:d0 (comp 60) (c0.at d56) (c8 d56.st)=some E4.body:=by kernel_rfl
theorem bJ2:FnScope d57.N d57.ps (b0 d57.st):=⟨rfl,rfl,rfl,by decide +kernel,rfl,by decide +kernel,by decide +kernel⟩
theorem bP9:d0 (comp 60) (c0.at d57) (c8 d57.st)=some C0.body:=by kernel_rfl
theorem bJ1:FnScope d58.N d58.ps (b0 d58.st):=⟨rfl,rfl,rfl,by decide +kernel,rfl,by decide +kernel,by decide +kernel⟩
theorem bP8:d0 (comp 60) (c0.at d58) (c8 d58.st)=some E3.body:=by kernel_rfl
theorem bJ0:FnScope d59.N d59.ps (b0 d59.st):=⟨rfl,rfl,rfl,by decide +kernel,rfl,by decide +kernel,by decide +kernel⟩
theorem bP7:d0 (comp 60) (c0.at d59) (c8 d59.st)=some A6.body:=by kernel_rfl
theorem bI9:FnScope d60.N d60.ps (b0 d60.st):=⟨rfl,rfl,rfl,by decide +kernel,rfl,by decide +kernel,by decide +kernel⟩
theorem bP6:d0 (comp 60) (c0.at d60) (c8 d60.st)=some E5.body:=by kernel_rfl
theorem bI8:FnScope d61.N d61.ps (b0 d61.st):=⟨rfl,rfl,rfl,by decide +kernel,rfl,by decide +kernel,by decide +kernel⟩
theorem bP5:d0 (comp 60) (c0.at d61) (c8 d61.st)=some O8.body:=by kernel_rfl
theorem bI7:FnScope d62.N d62.ps (b0 d62.st):=⟨rfl,rfl,rfl,by decide +kernel,rfl,by decide +kernel,by decide +kernel⟩
theorem bP4:d0 (comp 60) (c0.at d62) (c8 d62.st)=some J5.body:=by kernel_rfl
theorem bI6:FnScope d63.N d63.ps (b0 d63.st):=⟨rfl,rfl,rfl,by decide +kernel,rfl,by decide +kernel,by decide +kernel⟩
theorem bP3:d0 (comp 60) (c0.at d63) (c8 d63.st)=some J1.body:=by kernel_rfl
theorem bI5:FnScope d64.N d64.ps (b0 d64.st):=⟨rfl,rfl,rfl,by decide +kernel,rfl,by decide +kernel,by decide +kernel⟩
theorem bP2:d0 (comp 60) (c0.at d64) (c8 d64.st)=some O0.body:=by kernel_rfl
theorem bI4:FnScope d65.N d65.ps (b0 d65.st):=⟨rfl,rfl,rfl,by decide +kernel,rfl,by decide +kernel,by decide +kernel⟩
theorem bP1:d0 (comp 60) (c0.at d65) (c8 d65.st)=some E2.body:=by kernel_rfl
theorem bI3:FnScope d66.N d66.ps (b0 d66.st):=⟨rfl,rfl,rfl,by decide +kernel,rfl,by decide +kernel,by decide +kernel⟩
theorem bP0:d0 (comp 60) (c0.at d66) (c8 d66.st)=some O9.body:=by kernel_rfl
theorem bI2:FnScope d67.N d67.ps (b0 d67.st):=⟨rfl,rfl,rfl,by decide +kernel,rfl,by decide +kernel,by decide +kernel⟩
theorem bO9:d0 (comp 60) (c0.at d67) (c8 d67.st)=some C9.body:=by kernel_rfl
theorem bI1:FnScope d68.N d68.ps (b0 d68.st):=⟨rfl,rfl,rfl,by decide +kernel,rfl,by decide +kernel,by decide +kernel⟩
theorem bO8:d0 (comp 60) (c0.at d68) (c8 d68.st)=some X7.body:=by kernel_rfl
theorem o8 {K:PySem.W.Frag} {h₀:Heap} {mg:Str->Option Value} {x:Str} {C:Addr} {bmB:List Value} {newId:String} (X:K.In h₀) (G:h₀.Ns mainGlobals mg) (e:PySem.W.nsIn K mainGlobals x=some (some (.ref C))) (q:PySem.W.excIn K C bmB newId=true):PyProof.Rows.OwnCls x C bmB newId mg h₀:=by
 refine ⟨PySem.W.mg_of X G e,?_⟩
 unfold PySem.W.excIn at q
 split at q
 ·rename_i dd cd sl ho
  split at q
  ·rename_i C' bm k0 k1 k2 k3 n k5 hm hs
   simp only [Bool.and_eq_true,beq_iff_eq,Bool.not_eq_true'] at q
   obtain ⟨⟨⟨⟨⟨z1,z2⟩,hdel⟩,ht⟩,hok⟩,hni⟩:=q
   subst z1;subst z2
   obtain ⟨nm,bs,mro,ns,qn,hd,sn,sub,ab,col,del⟩:=cd
   dsimp only at hm hdel hok hni
   subst hm hdel
   have hsl:sl=#[k0,k1,k2,k3,some (.builtin n),k5]:=by
    obtain ⟨l⟩:=sl
    simp only at hs
    rw [hs]
   subst hsl
   exact ⟨bm,ns,nm,qn,bs,hd,sn,sub,ab,col,dd,k0,k1,k2,k3,k5,_,X _ _ ho,.of_isNs (PySem.W.isNs_of_in X hok),PySem.W.nsMap_none_of_in X hok hni,PySem.W.tail_of_in X ht⟩
  ·cases q
 ·cases q
noncomputable def S0 (K:PySem.W.Frag) (x:Str):Addr:=match PySem.W.nsIn K mainGlobals x with
 | some (some (.ref C))=>C
 | _=>0
noncomputable def aD9 (K:PySem.W.Frag) (exc:List Str):Bool:=exc.all fun x=>exc.all fun y=>decide (PySem.W.exmOne K (.ref (S0 K x)) (.ref (S0 K y))=some (decide (x=y \/ y="MintError")))
theorem bs8 {K:PySem.W.Frag} {exc:List Str} (h:aD9 K exc=true) {x y:Str} {C C':Addr} (hx:exc.contains x=true) (hy:exc.contains y=true) (hC:n6 K x C) (hC':n6 K y C'):PySem.W.exmOne K (.ref C) (.ref C')=some (decide (x=y \/ y="MintError")):=by
 have h1:=List.all_eq_true.mp h x (by simpa using hx)
 have h2:=of_decide_eq_true (List.all_eq_true.mp h1 y (by simpa using hy))
 have e1:S0 K x=C:=by unfold S0;rw [show PySem.W.nsIn K mainGlobals x=_ from hC]
 have e2:S0 K y=C':=by unfold S0;rw [show PySem.W.nsIn K mainGlobals y=_ from hC']
 rw [e1,e2] at h2
 exact h2
theorem J6 {α:Type} {us:List α} (h:us.length=1):∃ x0,us=[x0]:=by
 rcases us with _ | ⟨x0,_ | ⟨y,ys⟩⟩ <;> first | exact ⟨_,rfl⟩ | (simp at h;done) | (simp at h;omega)
theorem t8 {α:Type} {us:List α} (h:us.length=2):∃ x0 x1,us=[x0,x1]:=by
 rcases us with _ | ⟨x0,_ | ⟨x1,_ | ⟨y,ys⟩⟩⟩ <;> first | exact ⟨_,_,rfl⟩ | (simp at h;done) | (simp at h;omega)
theorem an8 {α:Type} {us:List α} (h:us.length=3):∃ x0 x1 x2,us=[x0,x1,x2]:=by
 rcases us with _ | ⟨x0,_ | ⟨x1,_ | ⟨x2,_ | ⟨y,ys⟩⟩⟩⟩ <;> first | exact ⟨_,_,_,rfl⟩ | (simp at h;done) | (simp at h;omega)
theorem br2 {α:Type} {us:List α} (h:us.length=4):∃ x0 x1 x2 x3,us=[x0,x1,x2,x3]:=by
 rcases us with _ | ⟨x0,_ | ⟨x1,_ | ⟨x2,_ | ⟨x3,_ | ⟨y,ys⟩⟩⟩⟩⟩ <;> first | exact ⟨_,_,_,_,rfl⟩ | (simp at h;done) | (simp at h;omega)
theorem all_mk {l:PySem.W.OpenLaw} {w:World} {K:PySem.W.Frag} {h:Heap} {mg:Str->Option Value} {fa f41 f38 f1 f16 f40 f177 f42 f43 f3 f4 f5 f36 f6 f7 f45 f46 f178 f179 f181 f182 f183 f37 f29 f188 f184 f186 f191 f47 f11 f51 f52 f53 f54 f55 f56 f57 f58 f59 f60 f61 f62 f63 f64 f65 f66 f67 f68 ca_0 ca3 xa0 xa1 xa2 xa3 xa4 xa5 xa6 xa7 xa8 xa9 xa10 xa11 xa12:Addr} {t0 t1 t2 ct3_0 ct3_1 t4 t5:Tok} (X:K.In h) (G:h.Ns mainGlobals mg) (hfa:mg "law"=some (.ref fa))
  {od41 an41 od38 an38 od1 an1 od16 an16 od40 an40 od177 an177 od42 an42 od43 an43 od3 an3 od4 an4 od5 an5 od36 an36 od6 an6 od7 an7 od45 an45 od46 an46 od178 an178 od179 an179 od181 an181 od182 an182 od183 an183 od37 an37 od29 an29 od188 an188 od184 an184 od186 an186 od191 an191 od47 an47 od11 an11 od51 an51 od52 an52 od53 an53 od54 an54 od55 an55 od56 an56 od57 an57 od58 an58 od59 an59 od60 an60 od61 an61 od62 an62 od63 an63 od64 an64 od65 an65 od66 an66 od67 an67 od68 an68:Option Addr} {sl41 sl38 sl1 sl16 sl40 sl177 sl42 sl43 sl3 sl4 sl5 sl36 sl6 sl7 sl45 sl46 sl178 sl179 sl181 sl182 sl183 sl37 sl29 sl188 sl184 sl186 sl191 sl47 sl11 sl51 sl52 sl53 sl54 sl55 sl56 sl57 sl58 sl59 sl60 sl61 sl62 sl63 sl64 sl65 sl66 sl67 sl68:Array (Option Value)} {oc41 kV41 dc41 pm41 cd41 ct41 oc38 kV38 dc38 pm38 cd38 ct38 oc1 kV1 dc1 pm1 cd1 ct1 oc16 kV16 dc16 pm16 cd16 ct16 oc40 kV40 dc40 pm40 cd40 ct40 oc177 kV177 dc177 pm177 cd177 ct177 oc42 kV42 dc42 pm42 cd42 ct42 oc43 kV43 dc43 pm43 cd43 ct43 oc3 kV3 dc3 pm3 cd3 ct3 oc4 kV4 dc4 pm4 cd4 ct4 oc5 kV5 dc5 pm5 cd5 ct5 oc36 kV36 dc36 pm36 cd36 ct36 oc6 kV6 dc6 pm6 cd6 ct6 oc7 kV7 dc7 pm7 cd7 ct7 oc45 kV45 dc45 pm45 cd45 ct45 oc46 kV46 dc46 pm46 cd46 ct46 oc178 kV178 dc178 pm178 cd178 ct178 oc179 kV179 dc179 pm179 cd179 ct179 oc181 kV181 dc181 pm181 cd181 ct181 oc182 kV182 dc182 pm182 cd182 ct182 oc183 kV183 dc183 pm183 cd183 ct183 oc37 kV37 dc37 pm37 cd37 ct37 oc29 kV29 dc29 pm29 cd29 ct29 oc188 kV188 dc188 pm188 cd188 ct188 oc184 kV184 dc184 pm184 cd184 ct184 oc186 kV186 dc186 pm186 cd186 ct186 oc191 kV191 dc191 pm191 cd191 ct191 oc47 kV47 dc47 pm47 cd47 ct47 oc11 kV11 dc11 pm11 cd11 ct11 oc51 kV51 dc51 pm51 cd51 ct51 oc52 kV52 dc52 pm52 cd52 ct52 oc53 kV53 dc53 pm53 cd53 ct53 oc54 kV54 dc54 pm54 cd54 ct54 oc55 kV55 dc55 pm55 cd55 ct55 oc56 kV56 dc56 pm56 cd56 ct56 oc57 kV57 dc57 pm57 cd57 ct57 oc58 kV58 dc58 pm58 cd58 ct58 oc59 kV59 dc59 pm59 cd59 ct59 oc60 kV60 dc60 pm60 cd60 ct60 oc61 kV61 dc61 pm61 cd61 ct61 oc62 kV62 dc62 pm62 cd62 ct62 oc63 kV63 dc63 pm63 cd63 ct63 oc64 kV64 dc64 pm64 cd64 ct64 oc65 kV65 dc65 pm65 cd65 ct65 oc66 kV66 dc66 pm66 cd66 ct66 oc67 kV67 dc67 pm67 cd67 ct67 oc68 kV68 dc68 pm68 cd68 ct68:Value}{csl3:Array (Option Value)} {cnn3:Nat}
  (cn0:Q1 K "Mint" ca_0)
  (cp0:PySem.W.plainGet K ca_0 Str.empty=true)
  (chd0:PySem.W.hasDictIn K ca_0=true)
  (cpo0:PySem.W.plainOver K ca_0=true)
  (csa0:PySem.W.findIn K (.ref ca_0) "__setattr__"=some (some (.builtin "object.__setattr__")))
  (cmk0:PySem.W.makesIn K ca_0=true)
  (ckp0:Q4 K ca_0)
  (a41:Q1 K "_wall" f41)
  (l41:Q7 K f41 "_wall" "_wall" (top 0) oc41 od41 kV41 dc41 pm41 an41 cd41 ct41 sl41)
  (c41:Q3 K cd41 "_wall")
  (k41:Q4 K f41)
  (a38:Q1 K "is_number" f38)
  (l38:Q7 K f38 "is_number" "is_number" (top 17) oc38 od38 kV38 dc38 pm38 an38 cd38 ct38 sl38)
  (c38:Q3 K cd38 "is_number")
  (k38:Q4 K f38)
  (a1:Q1 K "number_from" f1)
  (l1:Q7 K f1 "number_from" "number_from" (top 18) oc1 od1 kV1 dc1 pm1 an1 cd1 ct1 sl1)
  (c1:Q3 K cd1 "number_from")
  (k1:Q4 K f1)
  (a16:Q1 K "both" f16)
  (l16:Q7 K f16 "both" "both" (top 19) oc16 od16 kV16 dc16 pm16 an16 cd16 ct16 sl16)
  (c16:Q3 K cd16 "both")
  (k16:Q4 K f16)
  (a40:Q1 K "check_side" f40)
  (l40:Q7 K f40 "check_side" "check_side" (top 24) oc40 od40 kV40 dc40 pm40 an40 cd40 ct40 sl40)
  (c40:Q3 K cd40 "check_side")
  (k40:Q4 K f40)
  (a177:Q1 K "with_thing" f177)
  (l177:Q7 K f177 "with_thing" "with_thing" (top 25) oc177 od177 kV177 dc177 pm177 an177 cd177 ct177 sl177)
  (c177:Q3 K cd177 "with_thing")
  (k177:Q4 K f177)
  (a42:Q1 K "check_anvils" f42)
  (l42:Q7 K f42 "check_anvils" "check_anvils" (top 28) oc42 od42 kV42 dc42 pm42 an42 cd42 ct42 sl42)
  (c42:Q3 K cd42 "check_anvils")
  (k42:Q4 K f42)
  (a43:Q1 K "check_cut" f43)
  (l43:Q7 K f43 "check_cut" "check_cut" (top 31) oc43 od43 kV43 dc43 pm43 an43 cd43 ct43 sl43)
  (c43:Q3 K cd43 "check_cut")
  (k43:Q4 K f43)
  (a3:Q1 K "_law_open" f3)
  (l3:Q7 K f3 "_law_open" "_law_open" (top 34) oc3 od3 kV3 dc3 pm3 an3 cd3 ct3 sl3)
  (c3:Q3 K cd3 "_law_open")
  (k3:Q4 K f3)
  (a4:Q1 K "_law_pull" f4)
  (l4:Q7 K f4 "_law_pull" "_law_pull" (top 35) oc4 od4 kV4 dc4 pm4 an4 cd4 ct4 sl4)
  (c4:Q3 K cd4 "_law_pull")
  (k4:Q4 K f4)
  (a5:Q1 K "_law_far" f5)
  (l5:Q7 K f5 "_law_far" "_law_far" (top 36) oc5 od5 kV5 dc5 pm5 an5 cd5 ct5 sl5)
  (c5:Q3 K cd5 "_law_far")
  (k5:Q4 K f5)
  (a36:Q1 K "_law_near" f36)
  (l36:Q7 K f36 "_law_near" "_law_near" (top 37) oc36 od36 kV36 dc36 pm36 an36 cd36 ct36 sl36)
  (c36:Q3 K cd36 "_law_near")
  (k36:Q4 K f36)
  (a6:Q1 K "_law_num" f6)
  (l6:Q7 K f6 "_law_num" "_law_num" (top 38) oc6 od6 kV6 dc6 pm6 an6 cd6 ct6 sl6)
  (c6:Q3 K cd6 "_law_num")
  (k6:Q4 K f6)
  (a7:Q1 K "_law_like" f7)
  (l7:Q7 K f7 "_law_like" "_law_like" (top 39) oc7 od7 kV7 dc7 pm7 an7 cd7 ct7 sl7)
  (c7:Q3 K cd7 "_law_like")
  (k7:Q4 K f7)
  (a45:Q1 K "_law_model" f45)
  (l45:Q7 K f45 "_law_model" "_law_model" (top 40) oc45 od45 kV45 dc45 pm45 an45 cd45 ct45 sl45)
  (c45:Q3 K cd45 "_law_model")
  (k45:Q4 K f45)
  (a46:Q1 K "_law_m_cut" f46)
  (l46:Q7 K f46 "_law_m_cut" "_law_m_cut" (top 41) oc46 od46 kV46 dc46 pm46 an46 cd46 ct46 sl46)
  (c46:Q3 K cd46 "_law_m_cut")
  (k46:Q4 K f46)
  (a178:Q1 K "_law_m_fix" f178)
  (l178:Q7 K f178 "_law_m_fix" "_law_m_fix" (top 42) oc178 od178 kV178 dc178 pm178 an178 cd178 ct178 sl178)
  (c178:Q3 K cd178 "_law_m_fix")
  (k178:Q4 K f178)
  (a179:Q1 K "_law_m_off" f179)
  (l179:Q7 K f179 "_law_m_off" "_law_m_off" (top 43) oc179 od179 kV179 dc179 pm179 an179 cd179 ct179 sl179)
  (c179:Q3 K cd179 "_law_m_off")
  (k179:Q4 K f179)
  (a181:Q1 K "_law_m_mark" f181)
  (l181:Q7 K f181 "_law_m_mark" "_law_m_mark" (top 44) oc181 od181 kV181 dc181 pm181 an181 cd181 ct181 sl181)
  (c181:Q3 K cd181 "_law_m_mark")
  (k181:Q4 K f181)
  (a182:Q1 K "_law_m_strike" f182)
  (l182:Q7 K f182 "_law_m_strike" "_law_m_strike" (top 45) oc182 od182 kV182 dc182 pm182 an182 cd182 ct182 sl182)
  (c182:Q3 K cd182 "_law_m_strike")
  (k182:Q4 K f182)
  (a183:Q1 K "_law_m_do" f183)
  (l183:Q7 K f183 "_law_m_do" "_law_m_do" (top 46) oc183 od183 kV183 dc183 pm183 an183 cd183 ct183 sl183)
  (c183:Q3 K cd183 "_law_m_do")
  (k183:Q4 K f183)
  (a37:Q1 K "_law_number_of" f37)
  (l37:Q7 K f37 "_law_number_of" "_law_number_of" (top 47) oc37 od37 kV37 dc37 pm37 an37 cd37 ct37 sl37)
  (c37:Q3 K cd37 "_law_number_of")
  (k37:Q4 K f37)
  (a29:Q1 K "_law_side" f29)
  (l29:Q7 K f29 "_law_side" "_law_side" (top 48) oc29 od29 kV29 dc29 pm29 an29 cd29 ct29 sl29)
  (c29:Q3 K cd29 "_law_side")
  (k29:Q4 K f29)
  (a188:Q1 K "_law_deed" f188)
  (l188:Q7 K f188 "_law_deed" "_law_deed" (top 49) oc188 od188 kV188 dc188 pm188 an188 cd188 ct188 sl188)
  (c188:Q3 K cd188 "_law_deed")
  (k188:Q4 K f188)
  (a184:Q1 K "_law_mint_do" f184)
  (l184:Q7 K f184 "_law_mint_do" "_law_mint_do" (top 50) oc184 od184 kV184 dc184 pm184 an184 cd184 ct184 sl184)
  (c184:Q3 K cd184 "_law_mint_do")
  (k184:Q4 K f184)
  (a186:Q1 K "_law_mint_try" f186)
  (l186:Q7 K f186 "_law_mint_try" "_law_mint_try" (top 51) oc186 od186 kV186 dc186 pm186 an186 cd186 ct186 sl186)
  (c186:Q3 K cd186 "_law_mint_try")
  (k186:Q4 K f186)
  (a191:Q1 K "_law_same_end" f191)
  (l191:Q7 K f191 "_law_same_end" "_law_same_end" (top 52) oc191 od191 kV191 dc191 pm191 an191 cd191 ct191 sl191)
  (c191:Q3 K cd191 "_law_same_end")
  (k191:Q4 K f191)
  (a47:Q1 K "_law_mint_stands" f47)
  (l47:Q7 K f47 "_law_mint_stands" "_law_mint_stands" (top 53) oc47 od47 kV47 dc47 pm47 an47 cd47 ct47 sl47)
  (c47:Q3 K cd47 "_law_mint_stands")
  (k47:Q4 K f47)
  (a11:Q1 K "law" f11)
  (l11:Q7 K f11 "law" "law" (top 54) oc11 od11 kV11 dc11 pm11 an11 cd11 ct11 sl11)
  (c11:Q3 K cd11 "law")
  (k11:Q4 K f11)
  (a51:Q6 K ca_0 "__init__" f51)
  (af51:Q5 K f51)
  (l51:Q7 K f51 "__init__" "Mint.__init__" (i7 32 0) oc51 od51 kV51 dc51 pm51 an51 cd51 ct51 sl51)
  (c51:Q3 K cd51 "Mint.__init__")
  (k51:Q4 K f51)
  (a52:Q6 K ca_0 "wear_of" f52)
  (af52:Q5 K f52)
  (l52:Q7 K f52 "wear_of" "Mint.wear_of" (i7 32 1) oc52 od52 kV52 dc52 pm52 an52 cd52 ct52 sl52)
  (c52:Q3 K cd52 "Mint.wear_of")
  (k52:Q4 K f52)
  (a53:Q6 K ca_0 "put_wear" f53)
  (af53:Q5 K f53)
  (l53:Q7 K f53 "put_wear" "Mint.put_wear" (i7 32 2) oc53 od53 kV53 dc53 pm53 an53 cd53 ct53 sl53)
  (c53:Q3 K cd53 "Mint.put_wear")
  (k53:Q4 K f53)
  (a54:Q6 K ca_0 "cut" f54)
  (af54:Q5 K f54)
  (l54:Q7 K f54 "cut" "Mint.cut" (i7 32 3) oc54 od54 kV54 dc54 pm54 an54 cd54 ct54 sl54)
  (c54:Q3 K cd54 "Mint.cut")
  (k54:Q4 K f54)
  (a55:Q6 K ca_0 "fix" f55)
  (af55:Q5 K f55)
  (l55:Q7 K f55 "fix" "Mint.fix" (i7 32 4) oc55 od55 kV55 dc55 pm55 an55 cd55 ct55 sl55)
  (c55:Q3 K cd55 "Mint.fix")
  (k55:Q4 K f55)
  (a56:Q6 K ca_0 "lay_off" f56)
  (af56:Q5 K f56)
  (l56:Q7 K f56 "lay_off" "Mint.lay_off" (i7 32 5) oc56 od56 kV56 dc56 pm56 an56 cd56 ct56 sl56)
  (c56:Q3 K cd56 "Mint.lay_off")
  (k56:Q4 K f56)
  (a57:Q6 K ca_0 "mark" f57)
  (af57:Q5 K f57)
  (l57:Q7 K f57 "mark" "Mint.mark" (i7 32 6) oc57 od57 kV57 dc57 pm57 an57 cd57 ct57 sl57)
  (c57:Q3 K cd57 "Mint.mark")
  (k57:Q4 K f57)
  (a58:Q6 K ca_0 "strike" f58)
  (af58:Q5 K f58)
  (l58:Q7 K f58 "strike" "Mint.strike" (i7 32 7) oc58 od58 kV58 dc58 pm58 an58 cd58 ct58 sl58)
  (c58:Q3 K cd58 "Mint.strike")
  (k58:Q4 K f58)
  (a59:Q6 K ca_0 "begin_year" f59)
  (af59:Q5 K f59)
  (l59:Q7 K f59 "begin_year" "Mint.begin_year" (i7 32 8) oc59 od59 kV59 dc59 pm59 an59 cd59 ct59 sl59)
  (c59:Q3 K cd59 "Mint.begin_year")
  (k59:Q4 K f59)
  (a60:Q6 K ca_0 "anvils" f60)
  (af60:Q5 K f60)
  (l60:Q7 K f60 "anvils" "Mint.anvils" (i7 32 9) oc60 od60 kV60 dc60 pm60 an60 cd60 ct60 sl60)
  (c60:Q3 K cd60 "Mint.anvils")
  (k60:Q4 K f60)
  (a61:Q6 K ca_0 "dies" f61)
  (af61:Q5 K f61)
  (l61:Q7 K f61 "dies" "Mint.dies" (i7 32 10) oc61 od61 kV61 dc61 pm61 an61 cd61 ct61 sl61)
  (c61:Q3 K cd61 "Mint.dies")
  (k61:Q4 K f61)
  (a62:Q6 K ca_0 "marks" f62)
  (af62:Q5 K f62)
  (l62:Q7 K f62 "marks" "Mint.marks" (i7 32 11) oc62 od62 kV62 dc62 pm62 an62 cd62 ct62 sl62)
  (c62:Q3 K cd62 "Mint.marks")
  (k62:Q4 K f62)
  (a63:Q6 K ca_0 "state" f63)
  (af63:Q5 K f63)
  (l63:Q7 K f63 "state" "Mint.state" (i7 32 12) oc63 od63 kV63 dc63 pm63 an63 cd63 ct63 sl63)
  (c63:Q3 K cd63 "Mint.state")
  (k63:Q4 K f63)
  (a64:Q6 K ca_0 "year" f64)
  (af64:Q5 K f64)
  (l64:Q7 K f64 "year" "Mint.year" (i7 32 13) oc64 od64 kV64 dc64 pm64 an64 cd64 ct64 sl64)
  (c64:Q3 K cd64 "Mint.year")
  (k64:Q4 K f64)
  (a65:Q6 K ca_0 "struck" f65)
  (af65:Q5 K f65)
  (l65:Q7 K f65 "struck" "Mint.struck" (i7 32 14) oc65 od65 kV65 dc65 pm65 an65 cd65 ct65 sl65)
  (c65:Q3 K cd65 "Mint.struck")
  (k65:Q4 K f65)
  (a66:Q6 K ca_0 "coin" f66)
  (af66:Q5 K f66)
  (l66:Q7 K f66 "coin" "Mint.coin" (i7 32 15) oc66 od66 kV66 dc66 pm66 an66 cd66 ct66 sl66)
  (c66:Q3 K cd66 "Mint.coin")
  (k66:Q4 K f66)
  (a67:Q6 K ca_0 "hoard" f67)
  (af67:Q5 K f67)
  (l67:Q7 K f67 "hoard" "Mint.hoard" (i7 32 16) oc67 od67 kV67 dc67 pm67 an67 cd67 ct67 sl67)
  (c67:Q3 K cd67 "Mint.hoard")
  (k67:Q4 K f67)
  (a68:Q6 K ca_0 "twin" f68)
  (af68:Q5 K f68)
  (l68:Q7 K f68 "twin" "Mint.twin" (i7 32 17) oc68 od68 kV68 dc68 pm68 an68 cd68 ct68 sl68)
  (c68:Q3 K cd68 "Mint.twin")
  (k68:Q4 K f68)
  (fl0:PySem.W.findIn K (.ref ca_0) "bench"=some none)
  (fl1:PySem.W.findIn K (.ref ca_0) "laid_off"=some none)
  (fl2:PySem.W.findIn K (.ref ca_0) "lower_wear"=some none)
  (fl3:PySem.W.findIn K (.ref ca_0) "upper_wear"=some none)
  (fl4:PySem.W.findIn K (.ref ca_0) "present"=some none)
  (fl5:PySem.W.findIn K (.ref ca_0) "output"=some none)
  (e0:PySem.W.nsIn K mainGlobals "LAST_SPOT"=some (some (Value.int 7 t0)))
  (e1:PySem.W.nsIn K mainGlobals "LAST_DIE"=some (some (Value.int 99 t1)))
  (e2:PySem.W.nsIn K mainGlobals "LAST_YEAR"=some (some (Value.int 9999 t2)))
  (e3:Q1 K "SIDES" ca3)
  (ce3:K.lookup ca3=some ⟨.type "tuple",none,.seq #[Value.str "lower" ct3_0,Value.str "upper" ct3_1] cnn3,csl3⟩)
  (e4:PySem.W.nsIn K mainGlobals "MOST_ANVILS"=some (some (Value.int 9 t4)))
  (e5:PySem.W.nsIn K mainGlobals "MOST_STRUCK"=some (some (Value.int 200 t5)))
  (z0:Q2 K "len")
  (z1:Q2 K "list")
  (z2:Q2 K "tuple")
  (z3:Q2 K "isinstance")
  (z4:Q2 K "all")
  (z5:Q2 K "range")
  (z6:Q2 K "int")
  (z7:Q2 K "bool")
  (z8:Q2 K "str")
  (z9:Q2 K "sorted")
  (z10:Q2 K "set")
  (x0:Q1 K "BadAnvils" xa0)
  (xq0:Q8 K xa0)
  (x1:Q1 K "BadSide" xa1)
  (xq1:Q8 K xa1)
  (x2:Q1 K "BadSpot" xa2)
  (xq2:Q8 K xa2)
  (x3:Q1 K "BadYear" xa3)
  (xq3:Q8 K xa3)
  (x4:Q1 K "Fixed" xa4)
  (xq4:Q8 K xa4)
  (x5:Q1 K "Full" xa5)
  (xq5:Q8 K xa5)
  (x6:Q1 K "Gone" xa6)
  (xq6:Q8 K xa6)
  (x7:Q1 K "Marked" xa7)
  (xq7:Q8 K xa7)
  (x8:Q1 K "MintError" xa8)
  (xq8:Q8 K xa8)
  (x9:Q1 K "NoAnvil" xa9)
  (xq9:Q8 K xa9)
  (x10:Q1 K "NoCoin" xa10)
  (xq10:Q8 K xa10)
  (x11:Q1 K "NoDie" xa11)
  (xq11:Q8 K xa11)
  (x12:Q1 K "NotFixed" xa12)
  (xq12:Q8 K xa12)
  (xm:aD9 K exc=true) :
  ∃ fd:FuncData,(∀ (s:Shared) (v:Value),BindsTo s fd ⟨[v],[]⟩ [("_law_script",v)])/\∀ base:Heap,K.In base->base.Ns mainGlobals mg->FnOk l.prog w K mg base (CXE l.prog w) 80 fa fd ["_law_script"] (spD exc K 1 (b9 T 40 11)):=by
 have e:=hfa.symm.trans (PySem.W.mg_of X G a11)
 cases e
 have F41:=f9 (st:=top 0) l41 c41 k41
 have b41:=F41.binds (ps:=d41.ps) fun _ _ _ _ _ _ us hl=>by obtain ⟨_,rfl⟩:=J6 hl;rfl
 have O41:DefOk K c0 d41 aH8 f41 _:=⟨F41,b41,bK4,bR1,rfl,rfl⟩
 have F38:=f9 (st:=top 17) l38 c38 k38
 have b38:=F38.binds (ps:=d38.ps) fun _ _ _ _ _ _ us hl=>by obtain ⟨_,rfl⟩:=J6 hl;rfl
 have O38:DefOk K c0 d38 P1 f38 _:=⟨F38,b38,bK6,bR3,rfl,rfl⟩
 have F1:=f9 (st:=top 18) l1 c1 k1
 have b1:=F1.binds (ps:=d1.ps) fun _ _ _ _ _ _ us hl=>by obtain ⟨_,_,_,rfl⟩:=an8 hl;rfl
 have O1:DefOk K c0 d1 E0 f1 _:=⟨F1,b1,sc1,co1,rfl,rfl⟩
 have F16:=f9 (st:=top 19) l16 c16 k16
 have b16:=F16.binds (ps:=d16.ps) fun _ _ _ _ _ _ us hl=>by obtain ⟨_,_,rfl⟩:=t8 hl;rfl
 have O16:DefOk K c0 d16 ak1 f16 _:=⟨F16,b16,bL0,bR7,rfl,rfl⟩
 have F40:=f9 (st:=top 24) l40 c40 k40
 have b40:=F40.binds (ps:=d40.ps) fun _ _ _ _ _ _ us hl=>by obtain ⟨_,rfl⟩:=J6 hl;rfl
 have O40:DefOk K c0 d40 D5 f40 _:=⟨F40,b40,bK5,bR2,rfl,rfl⟩
 have F177:=f9 (st:=top 25) l177 c177 k177
 have b177:=F177.binds (ps:=ah7.ps) fun _ _ _ _ _ _ us hl=>by obtain ⟨_,_,_,rfl⟩:=an8 hl;rfl
 have O177:DefOk K c0 ah7 C8 f177 _:=⟨F177,b177,bx6,bD5,rfl,rfl⟩
 have F42:=f9 (st:=top 28) l42 c42 k42
 have b42:=F42.binds (ps:=d42.ps) fun _ _ _ _ _ _ us hl=>by obtain ⟨_,rfl⟩:=J6 hl;rfl
 have O42:DefOk K c0 d42 C3 f42 _:=⟨F42,b42,bK3,bR0,rfl,rfl⟩
 have F43:=f9 (st:=top 31) l43 c43 k43
 have b43:=F43.binds (ps:=d43.ps) fun _ _ _ _ _ _ us hl=>by obtain ⟨_,_,rfl⟩:=t8 hl;rfl
 have O43:DefOk K c0 d43 P2 f43 _:=⟨F43,b43,bK2,bQ9,rfl,rfl⟩
 have F3:=f9 (st:=top 34) l3 c3 k3
 have b3:=F3.binds (ps:=d3.ps) fun _ _ _ _ _ _ us hl=>by obtain ⟨_,rfl⟩:=J6 hl;rfl
 have O3:DefOk K c0 d3 ac4 f3 _:=⟨F3,b3,sc3,co3,rfl,rfl⟩
 have F4:=f9 (st:=top 35) l4 c4 k4
 have b4:=F4.binds (ps:=d4.ps) fun _ _ _ _ _ _ us hl=>by obtain ⟨_,_,rfl⟩:=t8 hl;rfl
 have O4:DefOk K c0 d4 E8 f4 _:=⟨F4,b4,sc4,co4,rfl,rfl⟩
 have F5:=f9 (st:=top 36) l5 c5 k5
 have b5:=F5.binds (ps:=d5.ps) fun _ _ _ _ _ _ us hl=>by obtain ⟨_,rfl⟩:=J6 hl;rfl
 have O5:DefOk K c0 d5 X8 f5 _:=⟨F5,b5,sc5,co5,rfl,rfl⟩
 have F36:=f9 (st:=top 37) l36 c36 k36
 have b36:=F36.binds (ps:=d36.ps) fun _ _ _ _ _ _ us hl=>by obtain ⟨_,_,rfl⟩:=t8 hl;rfl
 have O36:DefOk K c0 d36 ac5 f36 _:=⟨F36,b36,bK8,bR5,rfl,rfl⟩
 have F6:=f9 (st:=top 38) l6 c6 k6
 have b6:=F6.binds (ps:=d6.ps) fun _ _ _ _ _ _ us hl=>by obtain ⟨_,rfl⟩:=J6 hl;rfl
 have O6:DefOk K c0 d6 X6 f6 _:=⟨F6,b6,sc6,co6,rfl,rfl⟩
 have F7:=f9 (st:=top 39) l7 c7 k7
 have b7:=F7.binds (ps:=d7.ps) fun _ _ _ _ _ _ us hl=>by obtain ⟨_,_,rfl⟩:=t8 hl;rfl
 have O7:DefOk K c0 d7 u4 f7 _:=⟨F7,b7,sc7,co7,rfl,rfl⟩
 have F45:=f9 (st:=top 40) l45 c45 k45
 have b45:=F45.binds (ps:=d45.ps) fun _ _ _ _ _ _ us hl=>by obtain ⟨_,rfl⟩:=J6 hl;rfl
 have O45:DefOk K c0 d45 V7 f45 _:=⟨F45,b45,bK1,bQ8,rfl,rfl⟩
 have F46:=f9 (st:=top 41) l46 c46 k46
 have b46:=F46.binds (ps:=d46.ps) fun _ _ _ _ _ _ us hl=>by obtain ⟨_,_,rfl⟩:=t8 hl;rfl
 have O46:DefOk K c0 d46 ac8 f46 _:=⟨F46,b46,bK0,bQ7,rfl,rfl⟩
 have F178:=f9 (st:=top 42) l178 c178 k178
 have b178:=F178.binds (ps:=ah6.ps) fun _ _ _ _ _ _ us hl=>by obtain ⟨_,_,rfl⟩:=t8 hl;rfl
 have O178:DefOk K c0 ah6 ac7 f178 _:=⟨F178,b178,bx5,bD4,rfl,rfl⟩
 have F179:=f9 (st:=top 43) l179 c179 k179
 have b179:=F179.binds (ps:=ah5.ps) fun _ _ _ _ _ _ us hl=>by obtain ⟨_,_,rfl⟩:=t8 hl;rfl
 have O179:DefOk K c0 ah5 ac6 f179 _:=⟨F179,b179,bx4,bD3,rfl,rfl⟩
 have F181:=f9 (st:=top 44) l181 c181 k181
 have b181:=F181.binds (ps:=ah4.ps) fun _ _ _ _ _ _ us hl=>by obtain ⟨_,_,_,_,rfl⟩:=br2 hl;rfl
 have O181:DefOk K c0 ah4 P0 f181 _:=⟨F181,b181,bx3,bD2,rfl,rfl⟩
 have F182:=f9 (st:=top 45) l182 c182 k182
 have b182:=F182.binds (ps:=ah3.ps) fun _ _ _ _ _ _ us hl=>by obtain ⟨_,_,_,rfl⟩:=an8 hl;rfl
 have O182:DefOk K c0 ah3 L4 f182 _:=⟨F182,b182,bx2,bD1,rfl,rfl⟩
 have F183:=f9 (st:=top 46) l183 c183 k183
 have b183:=F183.binds (ps:=ah2.ps) fun _ _ _ _ _ _ us hl=>by obtain ⟨_,_,rfl⟩:=t8 hl;rfl
 have O183:DefOk K c0 ah2 ax0 f183 _:=⟨F183,b183,bx1,bD0,rfl,rfl⟩
 have F37:=f9 (st:=top 47) l37 c37 k37
 have b37:=F37.binds (ps:=d37.ps) fun _ _ _ _ _ _ us hl=>by obtain ⟨_,_,rfl⟩:=t8 hl;rfl
 have O37:DefOk K c0 d37 N9 f37 _:=⟨F37,b37,bK7,bR4,rfl,rfl⟩
 have F29:=f9 (st:=top 48) l29 c29 k29
 have b29:=F29.binds (ps:=d29.ps) fun _ _ _ _ _ _ us hl=>by obtain ⟨_,rfl⟩:=J6 hl;rfl
 have O29:DefOk K c0 d29 ac3 f29 _:=⟨F29,b29,bK9,bR6,rfl,rfl⟩
 have F188:=f9 (st:=top 49) l188 c188 k188
 have b188:=F188.binds (ps:=ag9.ps) fun _ _ _ _ _ _ us hl=>by obtain ⟨_,_,rfl⟩:=t8 hl;rfl
 have O188:DefOk K c0 ag9 E9 f188 _:=⟨F188,b188,bw8,bC7,rfl,rfl⟩
 have F184:=f9 (st:=top 50) l184 c184 k184
 have b184:=F184.binds (ps:=ah1.ps) fun _ _ _ _ _ _ us hl=>by obtain ⟨_,_,rfl⟩:=t8 hl;rfl
 have O184:DefOk K c0 ah1 L3 f184 _:=⟨F184,b184,bx0,bC9,rfl,rfl⟩
 have F186:=f9 (st:=top 51) l186 c186 k186
 have b186:=F186.binds (ps:=ah0.ps) fun _ _ _ _ _ _ us hl=>by obtain ⟨_,_,rfl⟩:=t8 hl;rfl
 have O186:DefOk K c0 ah0 L1 f186 _:=⟨F186,b186,bw9,bC8,rfl,rfl⟩
 have F191:=f9 (st:=top 52) l191 c191 k191
 have b191:=F191.binds (ps:=ag8.ps) fun _ _ _ _ _ _ us hl=>by obtain ⟨_,_,rfl⟩:=t8 hl;rfl
 have O191:DefOk K c0 ag8 K9 f191 _:=⟨F191,b191,bw7,bC6,rfl,rfl⟩
 have F47:=f9 (st:=top 53) l47 c47 k47
 have b47:=F47.binds (ps:=d47.ps) fun _ _ _ _ _ _ us hl=>by obtain ⟨_,_,rfl⟩:=t8 hl;rfl
 have O47:DefOk K c0 d47 B3 f47 _:=⟨F47,b47,bJ9,bQ6,rfl,rfl⟩
 have F11:=f9 (st:=top 54) l11 c11 k11
 have b11:=F11.binds (ps:=d11.ps) fun _ _ _ _ _ _ us hl=>by obtain ⟨_,rfl⟩:=J6 hl;rfl
 have O11:DefOk K c0 d11 am8 fa _:=⟨F11,b11,bL1,bR8,rfl,rfl⟩
 have F51:=f9 (st:=i7 32 0) l51 c51 k51
 have b51:=F51.binds (ps:=d51.ps) fun _ _ _ _ _ _ us hl=>by obtain ⟨_,_,rfl⟩:=t8 hl;rfl
 have O51:DefOk K c0 d51 O2 f51 _:=⟨F51,b51,bJ8,bQ5,rfl,rfl⟩
 have F52:=f9 (st:=i7 32 1) l52 c52 k52
 have b52:=F52.binds (ps:=d52.ps) fun _ _ _ _ _ _ us hl=>by obtain ⟨_,_,rfl⟩:=t8 hl;rfl
 have O52:DefOk K c0 d52 E1 f52 _:=⟨F52,b52,bJ7,bQ4,rfl,rfl⟩
 have F53:=f9 (st:=i7 32 2) l53 c53 k53
 have b53:=F53.binds (ps:=d53.ps) fun _ _ _ _ _ _ us hl=>by obtain ⟨_,_,_,rfl⟩:=an8 hl;rfl
 have O53:DefOk K c0 d53 B9 f53 _:=⟨F53,b53,bJ6,bQ3,rfl,rfl⟩
 have F54:=f9 (st:=i7 32 3) l54 c54 k54
 have b54:=F54.binds (ps:=d54.ps) fun _ _ _ _ _ _ us hl=>by obtain ⟨_,_,rfl⟩:=t8 hl;rfl
 have O54:DefOk K c0 d54 S9 f54 _:=⟨F54,b54,bJ5,bQ2,rfl,rfl⟩
 have F55:=f9 (st:=i7 32 4) l55 c55 k55
 have b55:=F55.binds (ps:=d55.ps) fun _ _ _ _ _ _ us hl=>by obtain ⟨_,_,rfl⟩:=t8 hl;rfl
 have O55:DefOk K c0 d55 S8 f55 _:=⟨F55,b55,bJ4,bQ1,rfl,rfl⟩
 have F56:=f9 (st:=i7 32 5) l56 c56 k56
 have b56:=F56.binds (ps:=d56.ps) fun _ _ _ _ _ _ us hl=>by obtain ⟨_,_,rfl⟩:=t8 hl;rfl
 have O56:DefOk K c0 d56 E4 f56 _:=⟨F56,b56,bJ3,bQ0,rfl,rfl⟩
 have F57:=f9 (st:=i7 32 6) l57 c57 k57
 have b57:=F57.binds (ps:=d57.ps) fun _ _ _ _ _ _ us hl=>by obtain ⟨_,_,_,_,rfl⟩:=br2 hl;rfl
 have O57:DefOk K c0 d57 C0 f57 _:=⟨F57,b57,bJ2,bP9,rfl,rfl⟩
 have F58:=f9 (st:=i7 32 7) l58 c58 k58
 have b58:=F58.binds (ps:=d58.ps) fun _ _ _ _ _ _ us hl=>by obtain ⟨_,_,_,rfl⟩:=an8 hl;rfl
 have O58:DefOk K c0 d58 E3 f58 _:=⟨F58,b58,bJ1,bP8,rfl,rfl⟩
 have F59:=f9 (st:=i7 32 8) l59 c59 k59
 have b59:=F59.binds (ps:=d59.ps) fun _ _ _ _ _ _ us hl=>by obtain ⟨_,_,rfl⟩:=t8 hl;rfl
 have O59:DefOk K c0 d59 A6 f59 _:=⟨F59,b59,bJ0,bP7,rfl,rfl⟩
 have F60:=f9 (st:=i7 32 9) l60 c60 k60
 have b60:=F60.binds (ps:=d60.ps) fun _ _ _ _ _ _ us hl=>by obtain ⟨_,rfl⟩:=J6 hl;rfl
 have O60:DefOk K c0 d60 E5 f60 _:=⟨F60,b60,bI9,bP6,rfl,rfl⟩
 have F61:=f9 (st:=i7 32 10) l61 c61 k61
 have b61:=F61.binds (ps:=d61.ps) fun _ _ _ _ _ _ us hl=>by obtain ⟨_,_,rfl⟩:=t8 hl;rfl
 have O61:DefOk K c0 d61 O8 f61 _:=⟨F61,b61,bI8,bP5,rfl,rfl⟩
 have F62:=f9 (st:=i7 32 11) l62 c62 k62
 have b62:=F62.binds (ps:=d62.ps) fun _ _ _ _ _ _ us hl=>by obtain ⟨_,_,_,rfl⟩:=an8 hl;rfl
 have O62:DefOk K c0 d62 J5 f62 _:=⟨F62,b62,bI7,bP4,rfl,rfl⟩
 have F63:=f9 (st:=i7 32 12) l63 c63 k63
 have b63:=F63.binds (ps:=d63.ps) fun _ _ _ _ _ _ us hl=>by obtain ⟨_,_,rfl⟩:=t8 hl;rfl
 have O63:DefOk K c0 d63 J1 f63 _:=⟨F63,b63,bI6,bP3,rfl,rfl⟩
 have F64:=f9 (st:=i7 32 13) l64 c64 k64
 have b64:=F64.binds (ps:=d64.ps) fun _ _ _ _ _ _ us hl=>by obtain ⟨_,rfl⟩:=J6 hl;rfl
 have O64:DefOk K c0 d64 O0 f64 _:=⟨F64,b64,bI5,bP2,rfl,rfl⟩
 have F65:=f9 (st:=i7 32 14) l65 c65 k65
 have b65:=F65.binds (ps:=d65.ps) fun _ _ _ _ _ _ us hl=>by obtain ⟨_,rfl⟩:=J6 hl;rfl
 have O65:DefOk K c0 d65 E2 f65 _:=⟨F65,b65,bI4,bP1,rfl,rfl⟩
 have F66:=f9 (st:=i7 32 15) l66 c66 k66
 have b66:=F66.binds (ps:=d66.ps) fun _ _ _ _ _ _ us hl=>by obtain ⟨_,_,rfl⟩:=t8 hl;rfl
 have O66:DefOk K c0 d66 O9 f66 _:=⟨F66,b66,bI3,bP0,rfl,rfl⟩
 have F67:=f9 (st:=i7 32 16) l67 c67 k67
 have b67:=F67.binds (ps:=d67.ps) fun _ _ _ _ _ _ us hl=>by obtain ⟨_,_,rfl⟩:=t8 hl;rfl
 have O67:DefOk K c0 d67 C9 f67 _:=⟨F67,b67,bI2,bO9,rfl,rfl⟩
 have F68:=f9 (st:=i7 32 17) l68 c68 k68
 have b68:=F68.binds (ps:=d68.ps) fun _ _ _ _ _ _ us hl=>by obtain ⟨_,rfl⟩:=J6 hl;rfl
 have O68:DefOk K c0 d68 X7 f68 _:=⟨F68,b68,bI1,bO8,rfl,rfl⟩
 have A:TabOk w K mg c0 T:=by
  refine ⟨fun x i hx=>?_,fun x i hx=>?_,fun x y i C hx hC=>?_,fun f y C hx hC=>?_,fun x d hx=>?_,fun x hx=>?_,fun x hx=>?_,fun x y C C' hx hy hC hC'=>?_,fun x kvs hx=>?_⟩
  ·have hm:=PySem.mem_of_lookup hx
   simp only [c0,fns,List.mem_cons,List.mem_nil_iff,or_false] at hm
   rcases hm with z | z | z | z | z | z | z | z | z | z | z | z | z | z | z | z | z | z | z | z | z | z | z | z | z | z | z | z | z
   ·cases z;exact ⟨_,_,_,_,rfl,O41,PySem.W.mg_of X G a41⟩
   ·cases z;exact ⟨_,_,_,_,rfl,O38,PySem.W.mg_of X G a38⟩
   ·cases z;exact ⟨_,_,_,_,rfl,O1,PySem.W.mg_of X G a1⟩
   ·cases z;exact ⟨_,_,_,_,rfl,O16,PySem.W.mg_of X G a16⟩
   ·cases z;exact ⟨_,_,_,_,rfl,O40,PySem.W.mg_of X G a40⟩
   ·cases z;exact ⟨_,_,_,_,rfl,O177,PySem.W.mg_of X G a177⟩
   ·cases z;exact ⟨_,_,_,_,rfl,O42,PySem.W.mg_of X G a42⟩
   ·cases z;exact ⟨_,_,_,_,rfl,O43,PySem.W.mg_of X G a43⟩
   ·cases z;exact ⟨_,_,_,_,rfl,O3,PySem.W.mg_of X G a3⟩
   ·cases z;exact ⟨_,_,_,_,rfl,O4,PySem.W.mg_of X G a4⟩
   ·cases z;exact ⟨_,_,_,_,rfl,O5,PySem.W.mg_of X G a5⟩
   ·cases z;exact ⟨_,_,_,_,rfl,O36,PySem.W.mg_of X G a36⟩
   ·cases z;exact ⟨_,_,_,_,rfl,O6,PySem.W.mg_of X G a6⟩
   ·cases z;exact ⟨_,_,_,_,rfl,O7,PySem.W.mg_of X G a7⟩
   ·cases z;exact ⟨_,_,_,_,rfl,O45,PySem.W.mg_of X G a45⟩
   ·cases z;exact ⟨_,_,_,_,rfl,O46,PySem.W.mg_of X G a46⟩
   ·cases z;exact ⟨_,_,_,_,rfl,O178,PySem.W.mg_of X G a178⟩
   ·cases z;exact ⟨_,_,_,_,rfl,O179,PySem.W.mg_of X G a179⟩
   ·cases z;exact ⟨_,_,_,_,rfl,O181,PySem.W.mg_of X G a181⟩
   ·cases z;exact ⟨_,_,_,_,rfl,O182,PySem.W.mg_of X G a182⟩
   ·cases z;exact ⟨_,_,_,_,rfl,O183,PySem.W.mg_of X G a183⟩
   ·cases z;exact ⟨_,_,_,_,rfl,O37,PySem.W.mg_of X G a37⟩
   ·cases z;exact ⟨_,_,_,_,rfl,O29,PySem.W.mg_of X G a29⟩
   ·cases z;exact ⟨_,_,_,_,rfl,O188,PySem.W.mg_of X G a188⟩
   ·cases z;exact ⟨_,_,_,_,rfl,O184,PySem.W.mg_of X G a184⟩
   ·cases z;exact ⟨_,_,_,_,rfl,O186,PySem.W.mg_of X G a186⟩
   ·cases z;exact ⟨_,_,_,_,rfl,O191,PySem.W.mg_of X G a191⟩
   ·cases z;exact ⟨_,_,_,_,rfl,O47,PySem.W.mg_of X G a47⟩
   ·cases z;exact ⟨_,_,_,_,rfl,O11,hfa⟩
  ·have hm:=PySem.mem_of_lookup hx
   simp only [c0,bt6,List.mem_cons,List.mem_nil_iff,or_false] at hm
   have z:=hm
   ·cases z;exact ⟨ca_0,_,_,_,_,rfl,O51,PySem.W.mg_of X G cn0,cn0,⟨cp0,chd0,cpo0,csa0⟩,⟨cmk0,a51,af51,ckp0⟩⟩
  ·have hm:=hx
   simp only [c0,mts,List.mem_cons,List.mem_nil_iff,or_false] at hm
   rcases hm with z | z | z | z | z | z | z | z | z | z | z | z | z | z | z | z | z
   ·cases z;cases hC.symm.trans cn0;exact ⟨_,_,_,_,rfl,O52,⟨a52,af52,k52⟩⟩
   ·cases z;cases hC.symm.trans cn0;exact ⟨_,_,_,_,rfl,O53,⟨a53,af53,k53⟩⟩
   ·cases z;cases hC.symm.trans cn0;exact ⟨_,_,_,_,rfl,O54,⟨a54,af54,k54⟩⟩
   ·cases z;cases hC.symm.trans cn0;exact ⟨_,_,_,_,rfl,O55,⟨a55,af55,k55⟩⟩
   ·cases z;cases hC.symm.trans cn0;exact ⟨_,_,_,_,rfl,O56,⟨a56,af56,k56⟩⟩
   ·cases z;cases hC.symm.trans cn0;exact ⟨_,_,_,_,rfl,O57,⟨a57,af57,k57⟩⟩
   ·cases z;cases hC.symm.trans cn0;exact ⟨_,_,_,_,rfl,O58,⟨a58,af58,k58⟩⟩
   ·cases z;cases hC.symm.trans cn0;exact ⟨_,_,_,_,rfl,O59,⟨a59,af59,k59⟩⟩
   ·cases z;cases hC.symm.trans cn0;exact ⟨_,_,_,_,rfl,O60,⟨a60,af60,k60⟩⟩
   ·cases z;cases hC.symm.trans cn0;exact ⟨_,_,_,_,rfl,O61,⟨a61,af61,k61⟩⟩
   ·cases z;cases hC.symm.trans cn0;exact ⟨_,_,_,_,rfl,O62,⟨a62,af62,k62⟩⟩
   ·cases z;cases hC.symm.trans cn0;exact ⟨_,_,_,_,rfl,O63,⟨a63,af63,k63⟩⟩
   ·cases z;cases hC.symm.trans cn0;exact ⟨_,_,_,_,rfl,O64,⟨a64,af64,k64⟩⟩
   ·cases z;cases hC.symm.trans cn0;exact ⟨_,_,_,_,rfl,O65,⟨a65,af65,k65⟩⟩
   ·cases z;cases hC.symm.trans cn0;exact ⟨_,_,_,_,rfl,O66,⟨a66,af66,k66⟩⟩
   ·cases z;cases hC.symm.trans cn0;exact ⟨_,_,_,_,rfl,O67,⟨a67,af67,k67⟩⟩
   ·cases z;cases hC.symm.trans cn0;exact ⟨_,_,_,_,rfl,O68,⟨a68,af68,k68⟩⟩
  ·have hm:=hx
   simp only [c0,fls,List.mem_cons,List.mem_nil_iff,or_false] at hm
   rcases hm with z | z | z | z | z | z
   ·cases z;cases hC.symm.trans cn0;exact fl0
   ·cases z;cases hC.symm.trans cn0;exact fl1
   ·cases z;cases hC.symm.trans cn0;exact fl2
   ·cases z;cases hC.symm.trans cn0;exact fl3
   ·cases z;cases hC.symm.trans cn0;exact fl4
   ·cases z;cases hC.symm.trans cn0;exact fl5
  ·have hm:=PySem.mem_of_lookup hx
   simp only [c0,con,List.mem_cons,List.mem_nil_iff,or_false] at hm
   rcases hm with z | z | z | z | z | z
   ·cases z;exact ⟨(.int 7),_,PySem.W.mg_of X G e0,⟨_,rfl⟩,fun _ _=>.int _⟩
   ·cases z;exact ⟨(.int 99),_,PySem.W.mg_of X G e1,⟨_,rfl⟩,fun _ _=>.int _⟩
   ·cases z;exact ⟨(.int 9999),_,PySem.W.mg_of X G e2,⟨_,rfl⟩,fun _ _=>.int _⟩
   ·cases z;exact ⟨.ref ca3,_,PySem.W.mg_of X G e3,rfl,fun _ _=>.tup (vs:=[.str "lower",.str "upper"]) (.inr ⟨_,_,_,ce3,rfl,rfl,rfl,(by show 2 <= sizeLine;decide),.cons ⟨_,rfl⟩ (.cons ⟨_,rfl⟩ (.nil))⟩) (.cons (.str _) (.cons (.str _) (.nil)))⟩
   ·cases z;exact ⟨(.int 9),_,PySem.W.mg_of X G e4,⟨_,rfl⟩,fun _ _=>.int _⟩
   ·cases z;exact ⟨(.int 200),_,PySem.W.mg_of X G e5,⟨_,rfl⟩,fun _ _=>.int _⟩
  ·have hm:x ∈ blt:=by simpa [c0] using hx
   simp only [blt,List.mem_cons,List.mem_nil_iff,or_false] at hm
   rcases hm with z | z | z | z | z | z | z | z | z | z | z
   ·cases z;exact PySem.W.mg_none_of X G z0
   ·cases z;exact PySem.W.mg_none_of X G z1
   ·cases z;exact PySem.W.mg_none_of X G z2
   ·cases z;exact PySem.W.mg_none_of X G z3
   ·cases z;exact PySem.W.mg_none_of X G z4
   ·cases z;exact PySem.W.mg_none_of X G z5
   ·cases z;exact PySem.W.mg_none_of X G z6
   ·cases z;exact PySem.W.mg_none_of X G z7
   ·cases z;exact PySem.W.mg_none_of X G z8
   ·cases z;exact PySem.W.mg_none_of X G z9
   ·cases z;exact PySem.W.mg_none_of X G z10
  ·have hm:x ∈ exc:=by simpa [c0] using hx
   simp only [exc,List.mem_cons,List.mem_nil_iff,or_false] at hm
   rcases hm with z | z | z | z | z | z | z | z | z | z | z | z | z
   ·cases z;exact ⟨_,PySem.W.mg_of X G x0,x0,fun base kin gns=>⟨_,_,_,_,o8 kin gns x0 xq0,PySem.F.excBase_ValueError⟩⟩
   ·cases z;exact ⟨_,PySem.W.mg_of X G x1,x1,fun base kin gns=>⟨_,_,_,_,o8 kin gns x1 xq1,PySem.F.excBase_ValueError⟩⟩
   ·cases z;exact ⟨_,PySem.W.mg_of X G x2,x2,fun base kin gns=>⟨_,_,_,_,o8 kin gns x2 xq2,PySem.F.excBase_ValueError⟩⟩
   ·cases z;exact ⟨_,PySem.W.mg_of X G x3,x3,fun base kin gns=>⟨_,_,_,_,o8 kin gns x3 xq3,PySem.F.excBase_ValueError⟩⟩
   ·cases z;exact ⟨_,PySem.W.mg_of X G x4,x4,fun base kin gns=>⟨_,_,_,_,o8 kin gns x4 xq4,PySem.F.excBase_ValueError⟩⟩
   ·cases z;exact ⟨_,PySem.W.mg_of X G x5,x5,fun base kin gns=>⟨_,_,_,_,o8 kin gns x5 xq5,PySem.F.excBase_ValueError⟩⟩
   ·cases z;exact ⟨_,PySem.W.mg_of X G x6,x6,fun base kin gns=>⟨_,_,_,_,o8 kin gns x6 xq6,PySem.F.excBase_ValueError⟩⟩
   ·cases z;exact ⟨_,PySem.W.mg_of X G x7,x7,fun base kin gns=>⟨_,_,_,_,o8 kin gns x7 xq7,PySem.F.excBase_ValueError⟩⟩
   ·cases z;exact ⟨_,PySem.W.mg_of X G x8,x8,fun base kin gns=>⟨_,_,_,_,o8 kin gns x8 xq8,PySem.F.excBase_ValueError⟩⟩
   ·cases z;exact ⟨_,PySem.W.mg_of X G x9,x9,fun base kin gns=>⟨_,_,_,_,o8 kin gns x9 xq9,PySem.F.excBase_ValueError⟩⟩
   ·cases z;exact ⟨_,PySem.W.mg_of X G x10,x10,fun base kin gns=>⟨_,_,_,_,o8 kin gns x10 xq10,PySem.F.excBase_ValueError⟩⟩
   ·cases z;exact ⟨_,PySem.W.mg_of X G x11,x11,fun base kin gns=>⟨_,_,_,_,o8 kin gns x11 xq11,PySem.F.excBase_ValueError⟩⟩
   ·cases z;exact ⟨_,PySem.W.mg_of X G x12,x12,fun base kin gns=>⟨_,_,_,_,o8 kin gns x12 xq12,PySem.F.excBase_ValueError⟩⟩
  ·exact bs8 xm hx hy hC hC'
  ·have hm:=PySem.mem_of_lookup hx
   simp [c0,gd] at hm
 exact ⟨_,fun s v=>.of_eq rfl,fun base kin gns=>bu1 kin gns A 40 11 d11 am8 fa _ rfl O11⟩
theorem walk {l:PySem.W.OpenLaw} {q:Program} {loose:List Str} {XP:(Str->Option Value)->Heap->Prop} {YP:World->Heap->Prop} {d:DefRec} {K:Params->PySem.W.Frag} (hn:l.most=some 63) (hdf:d.params.defaults=[])
  (hY:∀ (w:World) (h:Heap),YP w h->(K w.params).In h)
  (F:∀ (w:World) (mg:Str->Option Value) (fa:Addr) (h:Heap),(K w.params).In h->h.Ns mainGlobals mg->mg d.name=some (.ref fa) ->
   ∃ fd:FuncData,(∀ (s:Shared) (u:Value),BindsTo s fd ⟨[u],[]⟩ [("_law_script",u)])/\∀ base:Heap,(K w.params).In base->base.Ns mainGlobals mg->FnOk l.prog w (K w.params) mg base (CXE l.prog w) 80 fa fd ["_law_script"] (spD exc (K w.params) 1 (b9 T 40 11))) :
  PySem.W.WalkO q loose XP YP l.row.toRowW d [] (fun f vs=>PySem.call f vs) :=
 L2.a91 (n:=63) (k:=80) (x:="_law_script") (CX:=fun w=>CXE l.prog w) (sp:=fun w=>spD exc (K w.params) 1 (b9 T 40 11)) hn (by decide) hdf ⟨rfl,by decide,by decide⟩ hY F (fun w H a ns hl hO hS=>br3 hO hS (aZ1 (k:=31) ⟨⟨⟨⟨⟨rfl,rfl⟩,rfl,rfl,rfl,rfl,rfl,rfl,rfl,rfl,rfl,rfl,rfl,rfl,rfl,rfl,rfl⟩,rfl,rfl,rfl,rfl,rfl,rfl,rfl⟩,rfl,rfl,rfl,rfl,rfl,rfl⟩,⟨rfl,rfl,rfl,rfl,rfl,rfl⟩,rfl,rfl,rfl,rfl,rfl,rfl,rfl,rfl,rfl⟩)) fun _ _ _ _ _ ⟨_,_,_,_,_,_,_,z⟩=>z
end Lk
open PySem PySem.W PyProof.Rows
set_option maxRecDepth 100000 in
set_option maxHeartbeats 0 in
theorem PySem.Challenge.cw_trussel_k38_answers_of_mints_are_new_holds : PySem.Challenge.rw_trussel_k38_answers_of_mints_are_new.Holds := by
 w_on;o_law;k_head;(case hw=>w_witness2)
 k_fill
 refine Lk.walk (l:=PySem.Challenge.rw_trussel_k38_answers_of_mints_are_new) rfl rfl (fun w h Y=>PySem.W.kIn_of Y) ?F
 case F =>
  intro w mg fa h KX G hmg
  refine' Lk.all_mk KX G hmg ?_ ?_ ?_ ?_ ?_ ?_ ?_ ?_ ?_ ?_ ?_ ?_ ?_ ?_ ?_ ?_ ?_ ?_ ?_ ?_ ?_ ?_ ?_ ?_ ?_ ?_ ?_ ?_ ?_ ?_ ?_ ?_ ?_ ?_ ?_ ?_ ?_ ?_ ?_ ?_ ?_ ?_ ?_ ?_ ?_ ?_ ?_ ?_ ?_ ?_ ?_ ?_ ?_ ?_ ?_ ?_ ?_ ?_ ?_ ?_ ?_ ?_ ?_ ?_ ?_ ?_ ?_ ?_ ?_ ?_ ?_ ?_ ?_ ?_ ?_ ?_ ?_ ?_ ?_ ?_ ?_ ?_ ?_ ?_ ?_ ?_ ?_ ?_ ?_ ?_ ?_ ?_ ?_ ?_ ?_ ?_ ?_ ?_ ?_ ?_ ?_ ?_ ?_ ?_ ?_ ?_ ?_ ?_ ?_ ?_ ?_ ?_ ?_ ?_ ?_ ?_ ?_ ?_ ?_ ?_ ?_ ?_ ?_ ?_ ?_ ?_ ?_ ?_ ?_ ?_ ?_ ?_ ?_ ?_ ?_ ?_ ?_ ?_ ?_ ?_ ?_ ?_ ?_ ?_ ?_ ?_ ?_ ?_ ?_ ?_ ?_ ?_ ?_ ?_ ?_ ?_ ?_ ?_ ?_ ?_ ?_ ?_ ?_ ?_ ?_ ?_ ?_ ?_ ?_ ?_ ?_ ?_ ?_ ?_ ?_ ?_ ?_ ?_ ?_ ?_ ?_ ?_ ?_ ?_ ?_ ?_ ?_ ?_ ?_ ?_ ?_ ?_ ?_ ?_ ?_ ?_ ?_ ?_ ?_ ?_ ?_ ?_ ?_ ?_ ?_ ?_ ?_ ?_ ?_ ?_ ?_ ?_ ?_ ?_ ?_ ?_ ?_ ?_ ?_ ?_ ?_ ?_ ?_ ?_ ?_ ?_ ?_ ?_ ?_ ?_ ?_ ?_ ?_ ?_ ?_ ?_ ?_ ?_ ?_ ?_ ?_ ?_ ?_ ?_ ?_ ?_ ?_ ?_ ?_ ?_ ?_ ?_ ?_ ?_ ?_ ?_ ?_ ?_ ?_ ?_ ?_ ?_ ?_ ?_
  all_goals try (show _=_;k_is)
  all_goals try (show _=_;k_exc)
  all_goals try kernel_rfl
#print axioms PySem.Challenge.cw_trussel_k38_answers_of_mints_are_new_holds
