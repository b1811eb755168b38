import PyProof.Rows.All
import Wide.All
import OpenK.AllK
import Wide.FinOn
import Lean
import PyProof.EqAt
import PyProof.EqKinds
import PyProof.TupleCall
import PySem.Challenge.RW_trussel_k29_whole_firsts_by_counts
set_option Elab.async false
set_option linter.all false
set_option maxRecDepth 100000
set_option maxHeartbeats 4000000
namespace PySem.W.Fast
def tw2403078960943945230:=()
def tw1136190647902614772:=()
def tw3486276344014193644:=()
def tw5560567328184834362:=()
def tw7039044918381688262:=()
def tw2450507821490579643:=()
def tw15299078811348295980:=()
def tw628910236825026565:=()
def tw13119686174211925107:=()
def tw12132723138423799842:=()
def tw9123305076028573816:=()
def tw6733681207745570978:=()
def tw5072776694827997043:=()
def tw15787771850306987059:=()
def tw1095183693873556816:=()
def tw6950975270773931655:=()
def tw7096811513160446054:=()
def tw6896105029739433132:=()
def tw13130681467967623466:=()
def tw7357288451852708166:=()
def tw208087091996374089:=()
def tw8719700188845675962:=()
def tw1732792311965895683:=()
def tw9017601942601294281:=()
def tw8919019183128979267:=()
def tw3733934036757493566:=()
def tw7233605492420961652:=()
def tw15869218895781582972:=()
def tw5715377024604379576:=()
def tw9195209384173072316:=()
def tw195123126557267245:=()
def tw109714623872353490:=()
def tw18146627790341297845:=()
def tw17941189184552389023:=()
def tw7208302297413823030:=()
def tw2564057749964598432:=()
def tw6479525360336387387:=()
def tw7052335026568144678:=()
def tw17591668608358232459:=()
def tw14153335070271134792:=()
def tw6539679832049641760:=()
def tw17695805650717338247:=()
def tw13677233756641829798:=()
def tw11259637783641847638:=()
def tw13850105683769982045:=()
def tw14008375162233494808:=()
def tw6358825543743530662:=()
def tw4756117181424084392:=()
def tw775239331264548857:=()
def tw4563646583437971633:=()
def tw5242688798937880749:=()
def tw11300205581795983899:=()
def tw10882855468463117555:=()
def tw181209445967603300:=()
def tw3538166876894728122:=()
def tw18122522735835085693:=()
def tw11758689506110299476:=()
def tw9718833918766799101:=()
def tw3519444280372189680:=()
def tw12486145590927457196:=()
def tw5159564489188804028:=()
def tw9175525458832056507:=()
def tw18438463768522123054:=()
def tw17182599102161374645:=()
def tw6600710604580127106:=()
def tw16817538925776604674:=()
def tw9659755065818389586:=()
def tw4555129529432702308:=()
def tw17563625269750929236:=()
def tw3954100038829665301:=()
def tw8456213307053311207:=()
def tw10860000435928627690:=()
def tw9373576203486527576:=()
def tw17880647968242094869:=()
def tw14766081291278110883:=()
def tw15323997836048376107:=()
def tw13828322508464541125:=()
def tw15129268041613603725:=()
def tw5192685687372308250:=()
def tw14349958098651547606:=()
def tw3808809455919360067:=()
def tw17983752571212935688:=()
def tw1712683127798863862:=()
def tw12623871660676439950:=()
def tw10570665611554053675:=()
def tw2065764693092909735:=()
def tw14768391882737828039:=()
def tw18169702416694382248:=()
def tw14186109632372605322:=()
def tw3263896566624031766:=()
def tw11551632326203122915:=()
def tw14101704191109634635:=()
def tw10439355565921487514:=()
def tw6088325497281860883:=()
def tw10908288190481777147:=()
def tw1069962967431121246:=()
def tw13427224741211276140:=()
def tw9204429031954940628:=()
def tw5839096218674994516:=()
def tw8643215423127584126:=()
def tw3243863154437704205:=()
def tw6365482162161611456:=()
def tw10324202163200978134:=()
def tw14646890888294465543:=()
def tw7825392437952872429:=()
def tw17624812208995576249:=()
def tw1182779030656159734:=()
def tw17232582643251165767:=()
def tw7346059763236343011:=()
def tw2673490516652298736:=()
def tw3759566779786814983:=()
def tw7884771986773129042:=()
def tw18401971613657098059:=()
def tw4444915490058565073:=()
def tw13391993195685232619:=()
def tw5330488769290334414:=()
def tw14880486913711808729:=()
def tw9834587734962484948:=()
def tw9888482852765299590:=()
def tw2268719445880204357:=()
def tw4129600535239382162:=()
def tw2918302675271662758:=()
def tw2534846564375875023:=()
def tw7453630053126019177:=()
def tw10380114971989094022:=()
def tw490278938543265200:=()
def tw7554737987100556143:=()
def tw11908439288386344767:=()
def tw16802930274282225262:=()
def tw13446202635511321653:=()
def tw14806011257192702504:=()
def tw5014910085361579637:=()
def tw12636497555603272436:=()
def tw2882188389111036470:=()
def tw16296163055985182189:=()
def tw13671064957650595974:=()
def tw15896224400346208953:=()
def tw3449194715813672288:=()
def tw9012718195157471076:=()
def tw14490867609742301567:=()
def tw17021505123736079844:=()
def tw5090728344411782190:=()
def tw8378134275665011658:=()
def tw12269319288074312686:=()
def tw15718181179964461823:=()
def tw10355015729857386135:=()
def tw10794605474678538986:=()
def tw17222709424410758791:=()
def tw9167580803656539884:=()
def tw14043640446507209018:=()
def tw7276934552393885741:=()
def tw15594723966650788205:=()
def tw11395251928406538029:=()
def tw14048151158508892456:=()
def tw14223296857982915033:=()
def tw1194085755709098533:=()
def tw4501837060355220605:=()
def tw17281385302992776429:=()
def tw12887744269720734605:=()
def tw17018528216649702709:=()
def tw16836448993251186818:=()
def tw8038402538841872064:=()
def tw17740220944111912319:=()
def tw8139490107263232956:=()
def tw15382387109398677702:=()
def tw4015969695127869027:=()
def tw7679768505692435:=()
def tw7598726744135088135:=()
def tw10718262708924017945:=()
def tw11269493744415582518:=()
def tw2161754790072867050:=()
def tw2196927438749834546:=()
def tw16797228573870829626:=()
def tw2877280631056248152:=()
def tw14557003035896437714:=()
def tw6158105265076951660:=()
def tw2732745014478609643:=()
def tw10352444059173562055:=()
def tw12598148661049431302:=()
def tw5663760889701921891:=()
def tw13621611115040625521:=()
def tw12985690576150128591:=()
def tw1302524691858025991:=()
def tw2391054332682086171:=()
def tw15056226579227363528:=()
def tw13252327383926002587:=()
def tw11415134256577066314:=()
def tw646261268352406828:=()
def tw9747102431483054906:=()
def tw16027535187953687080:=()
def tw8449909439858146409:=()
def tw6191860514667352145:=()
def tw16573914215504547151:=()
def tw3803006582378705400:=()
def tw5653145581926865747:=()
def tw8490732802566809027:=()
def tw13059811936410727460:=()
def tw4689455140833807269:=()
def tw14793199750876039388:=()
def tw11174954012577622168:=()
def tw5716113315007862931:=()
def tw17416146562325903986:=()
def tw313641619530147679:=()
def tw3021587110125425421:=()
def tw14742004848390276728:=()
def tw4152819106030950544:=()
def tw15088981947826958514:=()
def tw17871690853566461607:=()
def tw3760044922538082130:=()
def tw12477223482228192024:=()
def tw17726604721635734308:=()
def tw16110222440875725575:=()
def tw11336919500113421843:=()
def tw10939758694351451650:=()
def tw7813720141764052912:=()
def tw12618726866911993489:=()
def tw1881831946086593520:=()
def tw3210006136518572163:=()
def tw476539508662572219:=()
def tw13263858265019630875:=()
def tw11321331212931907206:=()
def tw8281687032219572344:=()
def tw6753585843557482041:=()
def tw4940293507769961548:=()
def tw15899166093976549293:=()
def tw1001063838989726257:=()
def tw1423881125477092911:=()
def tw5832452241927674735:=()
def tw4378326709268484409:=()
def tw3008198153994412526:=()
def tw16007453970332170951:=()
def tw4551279219989923549:=()
def tw11956241869718206214:=()
def tw2787389662489354395:=()
def tw14098381782562302289:=()
def tw8267422021805015448:=()
def tw9964588570435046523:=()
def tw17032039202215658283:=()
def tw13015828750392158363:=()
def tw1761389936798576707:=()
def tw13226245796723250309:=()
def tw9543631181771104594:=()
def tw4062528796195309865:=()
def tw1687175315998070125:=()
def tw10011425493459381566:=()
def tw6471466547960027875:=()
def tw8505445311486452452:=()
def tw10384473297354866745:=()
def tw14591490965949768606:=()
def tw6919757851181707848:=()
def tw17416401020947483655:=()
def tw7508280102919635770:=()
def tw17950843624966884493:=()
def tw9290050826876386362:=()
def tw9380238434946386937:=()
def tw10954142794278220136:=()
def tw4354068869527809979:=()
def tw5383962162823646992:=()
def tw2907834185234300971:=()
def tw9337142751345849514:=()
def tw9513142499512957853:=()
def tw4908815350576196374:=()
def tw10086076462277849800:=()
def tw645972573446880771:=()
def tw3547280208245250239:=()
def tw6818076211158281884:=()
def tw910462507468392037:=()
def tw15682471609453492080:=()
def tw968418207848973066:=()
def tw3577078270612884610:=()
def tw10438263544234438618:=()
def tw13126501986437261480:=()
def tw12791606806394862863:=()
def tw1121439061427327711:=()
def tw12604062170538974966:=()
def tw7570769600381795648:=()
def tw3020140675938285131:=()
def tw16234162570271571236:=()
def tw11806482337613154663:=()
def tw9166454700265787067:=()
def tw12094368195101013254:=()
def tw13548784650769132544:=()
def tw7141781218788534556:=()
def tw9433821859945210363:=()
def tw14248579171228957384:=()
def tw12943466031306585773:=()
def tw13002593884883745256:=()
def tw11685277475943050967:=()
def tw12440449980254311544:=()
def tw17877365611199208081:=()
def tw11446296654622670981:=()
def tw254051180063587321:=()
def tw14488631628225501072:=()
def tw3404115012652953384:=()
def tw7347261230189465211:=()
def tw14413624232573450059:=()
def tw12054056102044190185:=()
def tw1430841781402741317:=()
def tw13417657838994735723:=()
def tw7996307770308139960:=()
def tw12460894979554288089:=()
def tw11129018324643856083:=()
def tw5772405724476223358:=()
def tw10174270957754152004:=()
def tw4777705965923181798:=()
def tw11601142908190247824:=()
def tw3195737532796284183:=()
def tw10128681809023294176:=()
def tw8837531191999738803:=()
def tw7816150416856856246:=()
def tw15688017108844191127:=()
def tw4508584058746386003:=()
def tw6318359992425125900:=()
def tw14170888785671996896:=()
def tw17077278450562742716:=()
def tw4319818346519514265:=()
def tw3501136006992602925:=()
def tw16036228380083345854:=()
def tw16616119495969627400:=()
def tw12596558198093743232:=()
def tw11532815355393918665:=()
def tw2476097470060740865:=()
def tw14060212913670304260:=()
def tw17454944316165617984:=()
def tw5386578064612072699:=()
def tw2635023251358376281:=()
def tw2703469183961830040:=()
def tw314531456583584347:=()
def tw1423111845833133223:=()
def tw12646811250649305971:=()
def tw12794310967420726240:=()
def tw3226081239192797773:=()
def tw7076007415656421410:=()
def tw11353896870855414381:=()
def tw633747220608498589:=()
def tw7122461437653339426:=()
def tw12916838183329837267:=()
def tw7309535579724973364:=()
def tw5256738765545121171:=()
def tw10654908903283430722:=()
def tw1779588111209342566:=()
def tw16801430844002457160:=()
def tw4731183855693142974:=()
def tw1434094210367317921:=()
def tw14863891867436485059:=()
def tw9984880671382724181:=()
def tw520020784380090309:=()
def tw13290913543411796821:=()
def tw8129176837761868689:=()
def tw10387364120367111356:=()
def tw14724832896854811273:=()
def tw9040394259165509682:=()
def tw17641741667848097825:=()
def tw9003295739737656477:=()
def tw11751346861791009518:=()
def tw2464153375324812021:=()
def tw8259820839952111261:=()
def tw11061106143248917706:=()
def tw7834855728151456830:=()
def tw11037328950519516364:=()
def tw2544048601600016253:=()
def tw4876952374572577684:=()
def tw9128893881583793991:=()
def tw10126455000446218402:=()
def tw11474325890056249685:=()
def tw10536626974178025263:=()
def tw4964208039350997204:=()
def tw9730228667803884803:=()
def tw11187873997150204161:=()
def tw4499875006406269025:=()
def tw9849578248601445827:=()
def tw7642803054460625135:=()
def tw16941419987799437075:=()
def tw10961882919829049319:=()
def tw2411101408186216400:=()
def tw11767093804899553808:=()
def tw9305700404384382623:=()
def tw8150075577934166356:=()
def tw6182242134244029678:=()
def tw1117703487419500785:=()
def tw5971472861754424780:=()
def tw9860652382259630517:=()
def tw5999854644235394208:=()
def tw14036128574447687418:=()
def tw987508086759890741:=()
def tw9665264852700610244:=()
def tw3515429604048281965:=()
def tw6231780102221134398:=()
def tw17002432985091742348:=()
def tw12312407141643619586:=()
def tw455983830757844253:=()
def tw2169838867992755306:=()
def tw8973077911779206247:=()
def tw16815928024021396856:=()
def tw4771024173483962338:=()
def tw9663916560329461425:=()
def tw10066721947029991982:=()
def tw13473963962840362823:=()
def tw11949888444651877597:=()
def tw1782466879928142930:=()
def tw11826397102989272454:=()
def tw13452600738467399803:=()
def tw9831319772965773559:=()
def tw7945189891877687658:=()
def tw9564605627244725258:=()
def tw2934500785558909274:=()
def tw16608665038133166252:=()
def tw3260134880138746008:=()
def tw533643026275123375:=()
def tw5503916542661717869:=()
def tw7745614404707226031:=()
def tw9978240628126799654:=()
def tw7895166215631442013:=()
def tw18413326675765885770:=()
def tw13296699620366046665:=()
def tw13729945123775024002:=()
def tw6087395766071223523:=()
def tw2416549335213357430:=()
def tw4742395595663354248:=()
def tw5449353607587219435:=()
def tw8848479555066813017:=()
def tw13074486787665385365:=()
def tw14586934373472203830:=()
def tw14337363067780820833:=()
def tw2037438523182874930:=()
def tw17442994936010462502:=()
def tw16091776855644509532:=()
def tw9487075994201207515:=()
def tw9834110429964651678:=()
def tw5290537341413674724:=()
def tw5072439579066894645:=()
def tw10289733757115271783:=()
def tw566117808116792254:=()
def tw15593626665197324130:=()
def tw1026467973240124467:=()
def tw8418666250468401648:=()
def tw3665539373957943595:=()
def tw1686040922648967197:=()
def tw1282133474269822462:=()
def tw8961848532809946273:=()
def tw1868883334195230508:=()
def tw6521280723774190243:=()
def tw4601123887787003990:=()
def tw2034767687614181916:=()
def tw11017350890569052850:=()
def tw17557841110131422770:=()
def tw10740365293968113396:=()
def tw9660021120501707671:=()
def tw18330117867342619167:=()
def tw1129684610405403477:=()
def tw13928285516982784048:=()
def tw13148276048063006928:=()
def tw18417617043896021220:=()
def tw17006677865317753988:=()
def tw2077192888231997723:=()
def tw11266784898624018390:=()
def tw14542829069075351316:=()
def tw16152254174632437147:=()
def tw8035770277326643133:=()
def tw13486861301795340121:=()
def tw1270287637465010025:=()
def tw14739504462011211193:=()
def tw5203883593809320995:=()
def tw3290517804765342:=()
def tw2886204735294471014:=()
def tw5875504312709664986:=()
def tw3722882530549390389:=()
def tw12978968962604061567:=()
def tw14558386235004900812:=()
def tw1626173733840227226:=()
def tw14949809105060086054:=()
def tw18431456490102651462:=()
def tw657334023285994117:=()
def tw10346129866640743011:=()
def tw5163699872063228777:=()
def tw17090232283414887508:=()
def tw8370169420804450359:=()
def tw16584454102193914194:=()
def tw16289269880519474224:=()
def tw12198988808891828797:=()
def tw17378220394682457819:=()
def tw8357838026074792343:=()
def tw10789495236888433476:=()
def tw5620003793157594026:=()
def tw15964516631143009214:=()
def tw15244207713704708220:=()
def tw6348361840486737159:=()
def tw9868056467057821129:=()
def tw2956782672214359771:=()
def tw16658353229845866521:=()
def tw14359024370773182621:=()
def tw4777985175771018827:=()
def tw5299253940519093525:=()
def tw10225745868011519980:=()
def tw4740530414123923082:=()
def tw6272531446975078125:=()
def tw7618637212073314753:=()
def tw10443230509140475009:=()
def tw6898696008029058642:=()
def tw7182971103024746764:=()
def tw3833609313541409060:=()
def tw4758710449513201093:=()
def tw15970038432950524013:=()
def tw15172043748063376414:=()
def tw18041366897341788811:=()
end PySem.W.Fast
namespace L2
open PySem PySem.Spec PyProof.Rows
noncomputable abbrev Key:=Sum Int Str
noncomputable def ae8:Key->Value->Bool
 |.inl k,v=>Value.isInt k v
 |.inr x,v=>Value.isStrOf x v
noncomputable def bI7(w:World):Key->Int
 |.inl k=>hashInt k
 |.inr x=>hashStr w x
theorem u6:∀{k:Key} {v:Value},ae8 k v=true->(∃i t,k=Sum.inl i/\v=Value.int i t)\/(∃x t,k=Sum.inr x/\v=Value.str x t)
 |.inl i,v,h=>by
  obtain⟨t,e⟩:=Value.isInt_shape (k:=i) (v:=v) h;exact .inl ⟨i,t,rfl,e⟩
 |.inr x,v,h=>by
  obtain⟨t,e⟩:=Value.isStrOf_shape (x:=x) (v:=v) h;exact .inr ⟨x,t,rfl,e⟩
theorem aT5(i:Int)(t:Tok):ae8 (.inl i) (.int i t)=true:=by simp[ae8,Value.isInt]
theorem aT4(x:Str)(t:Tok):ae8 (.inr x) (.str x t)=true:=by simp[ae8,Value.isStrOf]
theorem br4(a b:Int):decide ((Sum.inl a:Key)=Sum.inl b)=(a==b):=by
 by_cases e:a=b
 ·subst e;simp
 ·have h:¬(Sum.inl a:Key)=Sum.inl b:=fun q=>e (Sum.inl.inj q);rw[decide_eq_false h];exact(beq_eq_false_iff_ne.mpr e).symm
theorem br1(a b:Str):decide ((Sum.inr a:Key)=Sum.inr b)=decide (a=b):=by
 by_cases e:a=b
 ·subst e;simp
 ·have h:¬(Sum.inr a:Key)=Sum.inr b:=fun q=>e (Sum.inr.inj q);rw[decide_eq_false h,decide_eq_false e]
theorem br3(a:Int)(b:Str):decide ((Sum.inl a:Key)=Sum.inr b)=false:=decide_eq_false (fun q=>nomatch q)
theorem br2(a:Str)(b:Int):decide ((Sum.inr a:Key)=Sum.inl b)=false:=decide_eq_false (fun q=>nomatch q)
noncomputable def o8(prog:Program)(w:World):PySem.KeyKind prog w Key where
 is:=ae8
 hash:=bI7 w
 inj:=fun v a b ha hb=>by
  rcases u6 ha with⟨i,t,rfl,rfl⟩|⟨x,t,rfl,rfl⟩
  ·rcases u6 hb with⟨j,u,rfl,e⟩|⟨y,u,rfl,e⟩
   ·injection e with e1 _;rw[e1]
   ·exact nomatch e
  ·rcases u6 hb with⟨j,u,rfl,e⟩|⟨y,u,rfl,e⟩
   ·exact nomatch e
   ·injection e with e1 _;rw[e1]
 byValue:=fun k v h=>by
  rcases u6 h with⟨i,t,rfl,rfl⟩|⟨x,t,rfl,rfl⟩<;>rfl
 pyHash:=fun hv h=>by
  rcases u6 hv with⟨i,t,rfl,rfl⟩|⟨x,t,rfl,rfl⟩
  ·exact wpAny_pyHash_int h
  ·exact wpAny_pyHash_str h
 eqBool:=fun hu hv h=>by
  rcases u6 hu with⟨i,t,rfl,rfl⟩|⟨x,t,rfl,rfl⟩
  ·rcases u6 hv with⟨j,u,rfl,rfl⟩|⟨y,u,rfl,rfl⟩
   ·rw[br4] at h;exact wpAny_eqBool_int h
   ·rw[br3] at h;exact SeqAt.EqAt.int_str i t y u _ _ _ _ h
  ·rcases u6 hv with⟨j,u,rfl,rfl⟩|⟨y,u,rfl,rfl⟩
   ·rw[br2] at h;exact SeqAt.EqAt.str_int x t j u _ _ _ _ h
   ·rw[br1] at h;exact wpAny_eqBool_str h
 «strs»:=fun k x t v h=>by
  rcases u6 h with⟨i,u,rfl,e⟩|⟨y,u,rfl,e⟩
  ·exact nomatch e
  ·injection e with e1 _;subst e1;cases v<;>rfl
theorem aD1(prog:Program)(w:World)(i:Int)(t:Tok):(o8 prog w).is (.inl i) (.int i t)=true:=aT5 i t
theorem aD0(prog:Program)(w:World)(x:Str)(t:Tok):(o8 prog w).is (.inr x) (.str x t)=true:=aT4 x t
end L2
namespace L2
open PySem PySem.Spec PyProof.Rows
inductive V where
 |non|bl (b:Bool)|int (i:Int)|str (x:Str)|byt (b:Array UInt8)|flt (b:UInt64)|ref (a:Addr)|ty (n:String)
 deriving DecidableEq
noncomputable def RelV:V->Value->Prop
 |.non,u=>u=Value.none
 |.bl b,u=>u=Value.bool b
 |.int i,u=>∃t,u=Value.int i t
 |.str x,u=>∃t,u=Value.str x t
 |.byt b,u=>∃t,u=Value.bytes b t
 |.flt b,u=>∃t,u=Value.float b t
 |.ref a,u=>u=Value.ref a
 |.ty n,u=>u=Value.type n
noncomputable abbrev Vals:List V->List Value->Prop:=Paired RelV
theorem Vals.length{xs:List V}{us:List Value}(r:Vals xs us):xs.length=us.length:=Paired.length r
theorem Vals.get:∀{xs:List V} {us:List Value} {i:Nat} {x:V},Vals xs us->xs[i]?=some x->∃u,us[i]?=some u/\RelV x u
 |_,_,_,_,.nil,e=>by simp at e
 |_,_,0,_,.cons r _,e=>by simp at e;subst e;exact⟨_,rfl,r⟩
 |_,_,i+1,x,.cons _ t,e=>by
  obtain⟨u,h1,h2⟩:=Vals.get (i:=i) (x:=x) t (by simpa using e);exact⟨u,by simpa using h1,h2⟩
theorem Vals.set{x:V}{u:Value}(r:RelV x u):∀{xs:List V} {us:List Value} (i:Nat),Vals xs us->Vals (xs.set i x) (us.set i u)
 |_,_,_,.nil=>.nil
 |_,_,0,.cons _ t=>.cons r t
 |_,_,i+1,.cons q t=>.cons q (Vals.set r i t)
theorem Vals.append:∀{xs ys:List V} {us ws:List Value},Vals xs us->Vals ys ws->Vals (xs++ys) (us++ws)
 |_,_,_,_,.nil,s=>s
 |_,_,_,_,.cons r t,s=>.cons r (Vals.append t s)
theorem Vals.take:∀{xs:List V} {us:List Value} (n:Nat),Vals xs us->Vals (xs.take n) (us.take n)
 |_,_,0,_=>.nil
 |_,_,_+1,.nil=>.nil
 |_,_,n+1,.cons r t=>.cons r (Vals.take n t)
theorem Vals.drop:∀{xs:List V} {us:List Value} (n:Nat),Vals xs us->Vals (xs.drop n) (us.drop n)
 |_,_,0,r=>r
 |_,_,_+1,.nil=>.nil
 |_,_,n+1,.cons _ t=>Vals.drop n t
noncomputable def E5:Option V->Option Value->Prop
 |some v,some u=>RelV v u
 |none,none=>True
 |_,_=>False
noncomputable def KV{κ:Type}:List (κ×V)->List (κ×Value)->Prop:=Paired fun(p:κ×V) (q:κ×Value)=>p.1=q.1/\RelV p.2 q.2
noncomputable def kV:Key->V
 |.inl i=>.int i
 |.inr x=>.str x
inductive HO where
 |lst (xs:List V)
 |tup (xs:List V)
 |dK (kvs:List (Key×V))|dT (kvs:List (List Key×V))
 |set (S:Int->Bool) (n:Nat)
 |ins (C dx:Addr) (fs:List (Str×V))
 |own (x:Addr)
 |xd (fs:List (Str×V))
 |met (f x:Addr)
 |rng (lo hi:Int)
 |frz (o:Obj) (u:HO)
 |tbl (ps:Array Value)
 |ext (φ:Heap->Prop)
noncomputable abbrev Hp:=Addr->Option HO
noncomputable def upd(H:Hp)(a:Addr)(o:HO):Hp:=fun b=>if b=a then some o else H b
theorem o6{H:Hp}{a:Addr}{o:HO}:upd H a o a=some o:=by unfold upd;rw[if_pos rfl]
theorem f7{H:Hp}{a b:Addr}{o:HO}(h:b≠a):upd H a o b=H b:=by unfold upd;rw[if_neg h]
theorem bz7{H:Hp}{a b:Addr}{o u:HO}(h:H a=some o)(h':H b=some u)(d:o≠u):a≠b:=by
 intro e;subst e;rw[h] at h';exact d (Option.some.inj h')
theorem j9{H:Hp}{a b:Addr}{o:HO}(h:H a=some o)(h':H b=none):a≠b:=by
 intro e;subst e;rw[h] at h';cases h'
noncomputable def F7(h:Heap)(a:Addr)(items:Array Value):Prop:=∃o,h.get? a=some o/\o.cls=.type "tuple"/\(∃n,o.data=.seq items n)/\o.dict=none
theorem F7.tup{h:Heap}{a:Addr}{items:Array Value}(x:F7 h a items):IsTup h a items:=let ⟨o,e,c,d,_⟩:=x;⟨o,e,c,d⟩
theorem F7.new(h:Heap)(items:Array Value):F7 (h.push { cls:=.type "tuple",data:=.seq items }) h.objs.size items:=⟨_,Heap.get?_push_size _ rfl,rfl,⟨_,rfl⟩,rfl⟩
section
variable(P:Program)(w:World)
noncomputable def l6(H:Hp)(h:Heap)(a:Addr):HO->Prop
 |.lst xs=>xs.length<=sizeLine/\∃(its:List Value) (n:Nat),Vals xs its/\h.get? a=some { cls:=.type "list",data:=.seq its.toArray n }
 |.tup xs=>xs.length<=sizeLine/\∃its:List Value,Vals xs its/\F7 h a its.toArray
 |.dK kvs=>kvs.length<=sizeLine/\(a==sysModules)=false/\∃vs,KV kvs vs/\h.DictOf (o8 P w) a vs
 |.dT kvs=>kvs.length<=sizeLine/\(a==sysModules)=false/\∃xs:List (List Key×Addr×Value),
   Paired (fun(p:List Key×V) (q:List Key×Addr×Value)=>p.1=q.1/\H q.2.1=some (.tup (p.1.map kV))/\RelV p.2 q.2.2) kvs xs /\
   ∃o es ep,h.get? a=some o/\o.ExactDict/\o.data=.dict es ep/\es.toList=xs.map (entryOfKey (tupleKind (o8 P w)))/\(xs.map (·.1)).Nodup
 |.set S n=>h.SetOf (intKind P w) a S n
 |.ins C dx fs=>H dx=some (.own a)/\fs.length<=1000/\dx≠a/\h.get? a=some (PySem.W.instObj C dx) /\
   ∃mA,h.Ns1 dx mA/\(∀f,E5 (fs.lookup f) (mA f))/\PySem.Within mA (fs.map (·.1))
 |.own _=>∃o,h.get? a=some o
 |.xd fs=>∃mA,h.Ns1 a mA/\∀f,E5 (fs.lookup f) (mA f)
 |.rng lo hi=>∃t u v,h.get? a=some { cls:=.type "range",data:=.fields #[.int lo t,.int hi u,.int 1 v] }
 |.frz o u=>h.get? a=some o/\l6 H h a u
 |.tbl ps=>h.get? a=some { cls:=.none,data:=.fields ps }
 |.met f x=>h.get? a=some (PySem.W.methodObj (.ref f) (.ref x))
 |.ext φ=>φ h/\(∃o,h.get? a=some o)/\∀h1 h2:Heap,φ h1->(∀o,h1.get? a=some o->h2.get? a=some o)->φ h2
noncomputable def HOk(H:Hp)(h:Heap):Prop:=∀a o,H a=some o->l6 P w H h a o
end
section
variable{P:Program}{w:World}{H H':Hp}{h h':Heap}{a:Addr}{o:HO}
theorem l6.lt(x:l6 P w H h a o):a<h.objs.size:=by
 cases o with
 |lst xs=>obtain⟨_,_,_,_,e⟩:=x;exact Heap.lt_size e
 |tup xs=>obtain⟨_,_,_,p⟩:=x;exact p.tup.lt
 |dK kvs=>obtain⟨_,_,_,_,o,_,_,e,_⟩:=x;exact Heap.lt_size e
 |dT kvs=>obtain⟨_,_,_,_,o,_,_,e,_⟩:=x;exact Heap.lt_size e
 |set S n=>obtain⟨o,_,_,_,e,_⟩:=x;exact Heap.lt_size e
 |ins C dx fs=>obtain⟨_,_,_,e,_⟩:=x;exact Heap.lt_size e
 |own y=>obtain⟨_,e⟩:=x;exact Heap.lt_size e
 |xd fs=>obtain⟨_,⟨_,_,_,e,_⟩,_⟩:=x;exact Heap.lt_size e
 |rng lo hi=>obtain⟨_,_,_,e⟩:=x;exact Heap.lt_size e
 |frz ob u=>obtain⟨e,_⟩:=x;exact Heap.lt_size e
 |tbl ps=>exact Heap.lt_size (show h.get? a=some _ from x)
 |met f y=>exact Heap.lt_size (show h.get? a=some _ from x)
 |ext φ=>obtain⟨_,⟨_,e⟩,_⟩:=x;exact Heap.lt_size e
theorem Paired.a20{α β:Type}{F G:α->β->Prop}:∀{l₁:List α} {l₂:List β},Paired F l₁ l₂->(∀a b,F a b->G a b)->Paired G l₁ l₂
 |_,_,.nil,_=>.nil
 |_,_,.cons r t,f=>.cons (f _ _ r) (Paired.a20 t f)
theorem l6.P2(x:l6 P w H h a o)(k:∀b u,(b=a\/H b=some (.own a))->h.get? b=some u->h'.get? b=some u)(ho:∀b,H b=some (.own a)->H' b=some (.own a))(ht:∀b xs,H b=some (.tup xs)->H' b=some (.tup xs)):l6 P w H' h' a o:=by
 induction o with
 |lst xs=>obtain⟨z,its,n,r,e⟩:=x;exact⟨z,its,n,r,k _ _ (.inl rfl) e⟩
 |tup xs=>obtain⟨z,its,r,ob,e,c⟩:=x;exact⟨z,its,r,ob,k _ _ (.inl rfl) e,c⟩
 |dK kvs=>obtain⟨z,y,vs,r,ob,es,ep,e,c⟩:=x;exact⟨z,y,vs,r,ob,es,ep,k _ _ (.inl rfl) e,c⟩
 |dT kvs =>
  obtain⟨z,y,xs,r,ob,es,ep,e,c⟩:=x;exact⟨z,y,xs,Paired.a20 r fun p q z=>⟨z.1,ht _ _ z.2.1,z.2.2⟩,ob,es,ep,k _ _ (.inl rfl) e,c⟩
 |set S n=>obtain⟨ob,es,ep,t,e,c⟩:=x;exact⟨ob,es,ep,t,k _ _ (.inl rfl) e,c⟩
 |ins C dx fs =>
  obtain⟨d,z,ne,e,mA,⟨od,es,ep,e2,c⟩,r⟩:=x;exact⟨ho _ d,z,ne,k _ _ (.inl rfl) e,mA,⟨od,es,ep,k _ _ (.inr d) e2,c⟩,r⟩
 |own y=>obtain⟨ob,e⟩:=x;exact⟨ob,k _ _ (.inl rfl) e⟩
 |xd fs=>obtain⟨mA,⟨od,es,ep,e,c⟩,r⟩:=x;exact⟨mA,⟨od,es,ep,k _ _ (.inl rfl) e,c⟩,r⟩
 |rng lo hi=>obtain⟨t,u,v,e⟩:=x;exact⟨t,u,v,k _ _ (.inl rfl) e⟩
 |frz ob u ih=>obtain⟨e,q⟩:=x;exact⟨k _ _ (.inl rfl) e,ih q⟩
 |tbl ps =>
  have e:h.get? a=some { cls:=.none,data:=.fields ps }:=x;show h'.get? a=some { cls:=.none,data:=.fields ps };exact k a _ (.inl rfl) e
 |met f y =>
  have e:h.get? a=some (PySem.W.methodObj (.ref f) (.ref y)):=x;show h'.get? a=some (PySem.W.methodObj (.ref f) (.ref y));exact k a _ (.inl rfl) e
 |ext φ=>obtain⟨p,⟨o,e⟩,st⟩:=x;exact⟨st _ _ p fun o q=>k _ _ (.inl rfl) q,⟨o,k _ _ (.inl rfl) e⟩,st⟩
theorem HOk.lt(x:HOk P w H h)(e:H a=some o):a<h.objs.size:=(x a o e).lt
theorem HOk.fresh(x:HOk P w H h)(e:h.objs.size<=a):H a=none:=by
 cases q:H a with
 |none=>rfl
 |some u=>exact absurd (Nat.lt_of_lt_of_le (x.lt q) e) (Nat.lt_irrefl _)
theorem HOk.kept(x:HOk P w H h)(k:∀b u,h.get? b=some u->h'.get? b=some u):HOk P w H h':=fun a o e =>
 (x a o e).P2 (fun b u _ q=>k b u q) (fun _ q=>q) fun _ _ q=>q
theorem HOk.laid(x:HOk P w H h)(k:∀b u,h.get? b=some u->h'.get? b=some u)(hp:h.objs.size<=a)(new:l6 P w (upd H a o) h' a o):HOk P w (upd H a o) h':=fun b u e=>by
 have hn:=x.fresh hp;by_cases hb:b=a
 ·subst hb;rw[o6] at e;cases e;exact new
 ·rw[f7 hb] at e;exact(x b u e).P2 (fun c v _ q=>k c v q) (fun c q=>by rw[f7 (j9 q hn)];exact q) fun c xs q=>by rw[f7 (j9 q hn)];exact q
end
noncomputable def Rd(H:Hp)(a:Addr)(u:HO):Prop:=H a=some u\/∃o,H a=some (.frz o u)
theorem Rd.ok{P:Program}{w:World}{H:Hp}{h:Heap}{a:Addr}{u:HO}(r:Rd H a u)(x:HOk P w H h):l6 P w H h a u:=by
 rcases r with r|⟨o,r⟩
 ·exact x a u r
 ·obtain⟨_,q⟩:=x a _ r;exact q
noncomputable def Mut:Option HO->Prop
 |some (.lst _)=>True
 |some (.dK _)=>True
 |some (.dT _)=>True
 |some (.set _ _)=>True
 |some (.ins _ _ _)=>True
 |some (.ext _)=>True
 |_=>False
section
variable{P:Program}{w:World}{H:Hp}{h h':Heap}{x e:Addr}{o':HO}
theorem HOk.write(ok:HOk P w H h)(mu:Mut (H x))(he:e=x\/H e=some (.own x))(k:∀b u,b≠e->h.get? b=some u->h'.get? b=some u)(heo:∃u,h'.get? e=some u)(new:l6 P w (upd H x o') h' x o'):HOk P w (upd H x o') h':=fun b u q=>by
 have nown:∀c y,H c=some (.own y)->c≠x:=fun c y r z=>by subst z;rw[r] at mu;exact mu
 have ntup:∀c xs,H c=some (.tup xs)->c≠x:=fun c xs r z=>by subst z;rw[r] at mu;exact mu
 by_cases hb:b=x
 ·subst hb;rw[o6] at q;cases q;exact new
 ·rw[f7 hb] at q;by_cases hbe:b=e
  ·have q':H b=some (.own x):=by
    rcases he with z|z
    ·exact absurd (hbe.trans z) hb
    ·rw[hbe];exact z
   rw[q] at q';cases q';obtain⟨v,hv⟩:=heo;exact⟨v,by rw[hbe];exact hv⟩
  ·refine(ok b u q).P2 (fun c v hc r=>k c v ?_ r) (fun c r=>by rw[f7 (nown c b r)];exact r) fun c xs r=>by rw[f7 (ntup c xs r)];exact r
   rcases hc with rfl|hc
   ·exact hbe
   ·rintro rfl;rcases he with z|z
    ·exact nown c b hc z
    ·rw[hc] at z;cases z;exact hb rfl
end
structure Un(fs ex:List Addr)(H H':Hp)(h h':Heap):Prop where
 keep:∀b o,h.get? b=some o->H b=none->b∉fs->b∉ex->h'.get? b=some o
 slot:∀b o,h.get? b=some o->H b=none->b∈fs->b∉ex->∃sl,h'.get? b=some { o with slots:=sl }
 free:∀b o,h.get? b=some o->H b=none->b∉ex->H' b=none
 there:∀b o,h.get? b=some o->b∉ex->∃o',h'.get? b=some o'
 tups:∀b xs,H b=some (.tup xs)->H' b=some (.tup xs)
 frzs:∀b o u,H b=some (.frz o u)->H' b=some (.frz o u)
 tbls:∀b ps,H b=some (.tbl ps)->∃more,H' b=some (.tbl (ps++more))
section
variable{fs fs' ex ex':List Addr}{H H1 H2:Hp}{h h1 h2 h':Heap}{a x e:Addr}{o:HO}
theorem Un.any(u:Un fs ex H H1 h h1){b:Addr}{ob:Obj}(q:h.get? b=some ob)(n:H b=none)(hx:b∉ex):∃sl,h1.get? b=some { ob with slots:=sl }:=by
 by_cases hb:b∈fs
 ·exact u.slot b ob q n hb hx
 ·exact⟨ob.slots,u.keep b ob q n hb hx⟩
theorem Un.kept(k:∀b u,h.get? b=some u->h'.get? b=some u):Un fs ex H H h h' :=
 ⟨fun b ob q _ _ _=>k b ob q,fun b ob q _ _ _=>⟨ob.slots,k b ob q⟩,fun _ _ _ n _=>n,fun b ob q _=>⟨ob,k b ob q⟩,fun _ _ q=>q,fun _ _ _ q=>q,fun _ ps q=>⟨#[],by rw[q];simp⟩⟩
theorem Un.refl:Un fs ex H H h h:=Un.kept fun _ _ q=>q
theorem Un.laid(k:∀b u,h.get? b=some u->h'.get? b=some u)(hp:h.objs.size<=a)(hn:H a=none):Un fs ex H (upd H a o) h h' where
 keep:=fun b u q _ _ _=>k b u q
 slot:=fun b u q _ _ _=>⟨u.slots,k b u q⟩
 free:=fun b u q n _=>by rw[f7 (Nat.ne_of_lt (Nat.lt_of_lt_of_le (Heap.lt_size q) hp))];exact n
 there:=fun b u q _=>⟨u,k b u q⟩
 tups:=fun b xs q=>by rw[f7 (j9 q hn)];exact q
 frzs:=fun b u xs q=>by rw[f7 (j9 q hn)];exact q
 tbls:=fun b ps q=>⟨#[],by rw[f7 (j9 q hn),q];simp⟩
theorem Un.write(mu:Mut (H x))(he:e=x\/H e=some (.own x))(k:∀b u,b≠e->h.get? b=some u->h'.get? b=some u)(heo:∃u,h'.get? e=some u):Un fs ex H (upd H x o) h h':=by
 have hx:∀b,H b=none->b≠x:=fun b n z=>by subst z;rw[n] at mu;exact mu
 have hb:∀b,H b=none->b≠e:=fun b n z=>by
  subst z;rcases he with r|r
  ·exact hx b n r
  ·rw[n] at r;cases r
 have hm:∀b u,H b=some u->¬Mut (some u)->b≠x:=fun b u q nm z=>by subst z;rw[q] at mu;exact nm mu
 refine ⟨fun b u q n _ _=>k b u (hb b n) q,fun b u q n _ _=>⟨u.slots,k b u (hb b n) q⟩,fun b u q n _=>by rw [f7 (hx b n)];exact n,fun b u q _=>?_,
  fun b xs q=>by rw [f7 (hm b _ q fun z=>z)];exact q,fun b u xs q=>by rw [f7 (hm b _ q fun z=>z)];exact q,fun b ps q=>⟨#[],by rw [f7 (hm b _ q fun z=>z),q];simp⟩⟩
 by_cases hbe:b=e
 ·subst hbe;exact heo
 ·exact⟨u,k b u hbe q⟩
end
noncomputable def trk(h:Heap)(H:Hp):List Addr:=(List.range h.objs.size).filter fun a=>(H a).isSome
noncomputable def Z0(h:Heap)(H:Hp):Heap:=PySem.W.hideAll h (trk h H)
theorem aU0(h:Heap)(H:Hp):(Z0 h H).objs.size=h.objs.size:=PySem.W.hideAll_size _ _
theorem a32{h:Heap}{H:Hp}{b:Addr}{o:Obj}(e:h.get? b=some o)(n:H b=none):(Z0 h H).get? b=some o :=
 PySem.W.hideAll_get _ e fun hm=>by
  have q:(H b).isSome=true:=(List.mem_filter.mp hm).2;rw[n] at q;simp at q
theorem be1{h:Heap}{H:Hp}{b:Addr}{o:Obj}(e:(Z0 h H).get? b=some o):h.get? b=some o/\H b=none:=by
 have e':h.get? b=some o:=PySem.W.of_hideAll (trk h H) e;refine⟨e',?_⟩;cases q:H b with
 |none=>rfl
 |some x =>
  have hm:b∈trk h H:=List.mem_filter.mpr ⟨List.mem_range.mpr (Heap.lt_size e'),by simp[q]⟩;have z:(Z0 h H).get? b=none:=PySem.W.hideAll_none (trk h H) hm;rw[z] at e;cases e
end L2
namespace L2
open PySem PySem.Spec PyProof.Rows
structure Mod(K:PySem.W.Frag)(mg:Str->Option Value)(base:Heap):Prop where
 kin:K.In base
 glob:base.Ns mainGlobals mg
 blt:∃mb,base.Ns builtinsNs mb/\∀x:Str,x≠"__name__"->mb x=bootBuiltins x
 nolimit:base.NoLimit
structure Cx where
 prog:Program
 w:World
 K:PySem.W.Frag
 mg:Str->Option Value
 base:Heap
 A:Around
 N:List Str
 s₀:Shared
 H₀:Hp
 env:Env
 outer:List Env
 stack:List Env
 ex:List Addr
 fn:Str->Bool
 calm:Bool
 pn:List (Addr×Obj)
 xe:Value->Shared->Prop
noncomputable def frs(l:List Env):List Addr:=l.filterMap (·.frame)
noncomputable abbrev Cx.fs(X:Cx):List Addr:=frs X.outer
noncomputable def Vis(sc:Scope)(x:Str):Prop:=sc.names.lookup x=some .local\/sc.names.lookup x=some .cell\/sc.names.lookup x=some .free
noncomputable def Loc(sc:Scope)(x:Str):Prop:=sc.names.lookup x=some .local\/sc.names.lookup x=some .cell
noncomputable def Look(env:Env)(h:Heap)(m:Str->Option Value)(x:Str)(u:Value):Prop :=
 (env.kindOf x=some .local/\m x=some u)\/((env.kindOf x=some .cell\/env.kindOf x=some .free)/\∃c,env.cells.lookup x=some c/\h.IsCell c (some u))
structure Cx.Ok(X:Cx):Prop where
 mod:Mod X.K X.mg X.base
 kind:X.env.scope.kind=.function
 glob:X.env.globals=mainGlobals
 blt:X.env.builtins=builtinsNs
 above:X.s₀.heap.objs.size<=X.env.locals
 inj:∀x y c,X.env.cells.lookup x=some c->X.env.cells.lookup y=some c->x=y
 has:∀x,(X.env.kindOf x=some .cell\/X.env.kindOf x=some .free)->∃c,X.env.cells.lookup x=some c
 cab:∀x c,X.fn x=true->X.env.cells.lookup x=some c->X.s₀.heap.objs.size<=c
 hd:X.calm=true->X.A.handled=none
 frames:X.A.frames=some X.stack
 stk:X.stack=X.outer\/(X.stack=X.env::X.outer/\X.env.frame=some X.env.locals)
 exf:∀b∈X.ex,b≠X.env.locals/\∀x c,X.env.cells.lookup x=some c->c≠b
 bs:∀b o,X.base.get? b=some o->X.s₀.heap.get? b=some o/\X.H₀ b=none
 bsz:X.base.objs.size<=X.s₀.heap.objs.size
 noex:∀b o,X.base.get? b=some o->b∉X.ex
 exfs:∀b∈X.ex,b∉X.fs
 F9:X.s₀.heap.FunFrames X.base X.outer
 frf:∀b∈X.fs,X.H₀ b=none
structure Inv(X:Cx)(pins:List (Addr×Obj))(σ:List (Option V))(H:Hp)(s:Shared):Prop where
 ok:X.Ok
 os:s.os=X.s₀.os
 bare:AllBare s.gens
 base:Un X.fs X.ex X.H₀ H X.s₀.heap s.heap
 loc:∃m,s.heap.Ns X.env.locals m/\∀(i:Nat) (x:Str) (v:V),X.N[i]?=some x->σ[i]?=some (some v)->Vis X.env.scope x->∃u,RelV v u/\Look X.env s.heap m x u
 cell:∀x c,X.env.cells.lookup x=some c->∃v,s.heap.IsCell c v
 free:H X.env.locals=none
 freeC:∀x c,X.env.cells.lookup x=some c->H c=none
 pin:∀p∈X.pn++pins,s.heap.get? p.1=some p.2/\H p.1=none/\p.1≠X.env.locals/\p.1∉X.fs/\∀v,p.2.data≠.cell v
 hok:HOk X.prog X.w H s.heap
 len:σ.length=X.N.length
section
variable{X:Cx}{pins:List (Addr×Obj)}{σ:List (Option V)}{H H':Hp}{s:Shared}{h':Heap}
theorem Cx.Ok.bH6(ok:X.Ok){b:Addr}{o:Obj}(e:X.base.get? b=some o):b∉X.fs:=fun hb=>by
 have:=(ok.F9.mem hb).1;rw[e] at this;cases this
theorem Inv.bs(I:Inv X pins σ H s):∀b o,X.base.get? b=some o->s.heap.get? b=some o/\H b=none:=fun b o e =>
 ⟨I.base.keep b o (I.ok.bs b o e).1 (I.ok.bs b o e).2 (I.ok.bH6 e) (I.ok.noex b o e),I.base.free b o (I.ok.bs b o e).1 (I.ok.bs b o e).2 (I.ok.noex b o e)⟩
theorem Inv.bk(I:Inv X pins σ H s):∀b o,X.base.get? b=some o->s.heap.get? b=some o:=fun b o e=>(I.bs b o e).1
theorem Inv.mod(I:Inv X pins σ H s):Mod X.K X.mg X.base:=I.ok.mod
theorem Inv.kIn(I:Inv X pins σ H s):X.K.In s.heap:=I.ok.mod.kin.keeps I.bk
theorem Inv.lt(I:Inv X pins σ H s):X.env.locals<s.heap.objs.size:=let ⟨_,hn,_⟩:=I.loc;hn.lt
theorem Inv.sz(I:Inv X pins σ H s):X.s₀.heap.objs.size<=s.heap.objs.size:=Nat.le_trans I.ok.above (Nat.le_of_lt I.lt)
theorem Inv.ay3(I:Inv X pins σ H s){a:Addr}(h:s.heap.objs.size<=a):a∉X.fs:=fun hb=>by
 obtain⟨_,o,ho,_⟩:=I.ok.F9.mem hb;exact absurd (Nat.lt_of_lt_of_le (Heap.lt_size ho) (Nat.le_trans I.sz h)) (Nat.lt_irrefl _)
theorem Inv.cne(I:Inv X pins σ H s):∀x c,X.env.cells.lookup x=some c->c≠X.env.locals:=fun x c e z=>by
 obtain⟨v,o,ho,hd⟩:=I.cell x c e;obtain⟨m,⟨o',es,ep,ho',hd',_⟩,_⟩:=I.loc;rw[z,ho'] at ho;cases ho;rw[hd'] at hd;cases hd
theorem Inv.F9(I:Inv X pins σ H s):s.heap.FunFrames X.base X.outer:=by
 have all:∀(l:List Env),(∀b∈frs l,b∈X.fs)->X.s₀.heap.FunFrames X.base l->s.heap.FunFrames X.base l:=by
  intro l
  induction l with
  |nil=>intro _ _;trivial
  |cons env r ih =>
   intro hs hl;obtain⟨hk,⟨L,o,hf,hn,ho,hd⟩,hr⟩:=hl;have hL:L∈X.fs:=hs L (by unfold frs;rw[List.filterMap_cons,hf];exact List.mem_cons_self);obtain⟨sl,e⟩:=I.base.slot L o ho (I.ok.frf L hL) hL fun z=>I.ok.exfs L z hL;exact⟨hk,⟨L,_,hf,hn,e,hd⟩,ih (fun b hb=>hs b (by unfold frs;rw[List.filterMap_cons,hf];exact List.mem_cons_of_mem _ hb)) hr⟩
 exact all X.outer (fun _ hb=>hb) I.ok.F9
theorem Inv.stack(I:Inv X pins σ H s):s.heap.FunFrames X.base X.stack:=by
 rcases I.ok.stk with e|⟨e,hf⟩
 ·rw[e];exact I.F9
 ·rw[e];obtain⟨m,hn,_⟩:=I.loc;refine .cons (by rw[I.ok.kind];decide) hf hn ?_ I.F9;exact Heap.get?_none_of_le (Nat.le_trans I.ok.bsz I.ok.above)
theorem Inv.J9(I:Inv X pins σ H s):∀b∈frs X.stack,b∈X.env.locals::X.fs:=fun b hb=>by
 rcases I.ok.stk with e|⟨e,hf⟩
 ·rw[e] at hb;exact List.mem_cons_of_mem _ hb
 ·rw[e] at hb;unfold frs at hb;rw[List.filterMap_cons,hf] at hb;exact hb
theorem Inv.ad8(I:Inv X pins σ H s):∀b∈frs X.stack,H b=none:=fun b hb=>by
 rcases List.mem_cons.mp (I.J9 b hb) with e|hb
 ·rw[e];exact I.free
 ·obtain⟨_,o,ho,_⟩:=I.ok.F9.mem hb;exact I.base.free b o ho (I.ok.frf b hb) fun z=>I.ok.exfs b z hb
theorem Inv.step{g':Array GenState}{t':Nat}{d':Drawn}{ch:List Addr}(I:Inv X pins σ H s)(hch:∀b∈ch,(b∈X.ex\/X.s₀.heap.objs.size<=b)/\b≠X.env.locals/\(∀x c,X.env.cells.lookup x=some c->c≠b)/\∀p∈X.pn++pins,p.1≠b)(keep:∀b o,b≠X.env.locals->b∉X.fs->b∉ch->s.heap.get? b=some o->H b=none->h'.get? b=some o)(slot:∀b o,b≠X.env.locals->b∈X.fs->b∉ch->s.heap.get? b=some o->H b=none->∃sl,h'.get? b=some { o with slots:=sl })(free:∀b o,b∉ch->s.heap.get? b=some o->H b=none->H' b=none)(there:∀b o,b∉ch->s.heap.get? b=some o->∃o',h'.get? b=some o')(tups:∀b xs,H b=some (.tup xs)->H' b=some (.tup xs))(frzs:∀b o u,H b=some (.frz o u)->H' b=some (.frz o u))(tbls:∀b ps,H b=some (.tbl ps)->∃more,H' b=some (.tbl (ps++more)))(ns:∀m,s.heap.Ns X.env.locals m->h'.Ns X.env.locals m)(hok:HOk X.prog X.w H' h')(hg:AllBare g') :
  Inv X pins σ H' { s with heap:=h',gens:=g',drawn:=d',toks:=t' }:=by
 have neL:∀b o,X.s₀.heap.get? b=some o->b≠X.env.locals:=fun b o e=>Nat.ne_of_lt (Nat.lt_of_lt_of_le (Heap.lt_size e) I.ok.above);have neC:∀b o,X.s₀.heap.get? b=some o->b∉X.ex->b∉ch:=fun b o e hx hb=>by
  rcases(hch b hb).1 with z|z
  ·exact hx z
  ·exact absurd (Nat.lt_of_lt_of_le (Heap.lt_size e) z) (Nat.lt_irrefl _)
 have cellK:∀x c,X.env.cells.lookup x=some c->∀v,s.heap.IsCell c v->h'.IsCell c v:=fun x c e v ⟨o,ho,hd⟩=>by
  have nch:c∉ch:=fun z=>(hch c z).2.2.1 x c e rfl;by_cases hc:c∈X.fs
  ·obtain⟨sl,q⟩:=slot c o (I.cne x c e) hc nch ho (I.freeC x c e);exact⟨_,q,hd⟩
  ·exact⟨o,keep c o (I.cne x c e) hc nch ho (I.freeC x c e),hd⟩
 refine⟨I.ok,I.os,hg,⟨fun b o e n hb hx=>?_,fun b o e n hb hx=>?_,fun b o e n hx=>?_,fun b o e hx=>?_,fun b xs e=>tups b xs (I.base.tups b xs e),fun b o xs e=>frzs b o xs (I.base.frzs b o xs e),fun b ps e=>?_⟩,?_,fun x c e=>?_,?_,fun x c e=>?_,fun p hp=>?_,hok,I.len⟩
 ·exact keep b o (neL b o e) hb (neC b o e hx) (I.base.keep b o e n hb hx) (I.base.free b o e n hx)
 ·obtain⟨sl,e1⟩:=I.base.slot b o e n hb hx;obtain⟨sl',e2⟩:=slot b _ (neL b o e) hb (neC b o e hx) e1 (I.base.free b o e n hx);exact⟨sl',e2⟩
 ·obtain⟨o',e1⟩:=I.base.there b o e hx;exact free b o' (neC b o e hx) e1 (I.base.free b o e n hx)
 ·obtain⟨o',e1⟩:=I.base.there b o e hx;exact there b o' (neC b o e hx) e1
 ·obtain⟨m1,e1⟩:=I.base.tbls b ps e;obtain⟨m2,e2⟩:=tbls b _ e1;exact⟨m1++m2,by rw[e2,Array.append_assoc]⟩
 ·obtain⟨m,hn,hl⟩:=I.loc;refine⟨m,ns m hn,fun i x v e1 e2 e3=>?_⟩;obtain⟨u,r,l⟩:=hl i x v e1 e2 e3;refine⟨u,r,?_⟩;rcases l with l|⟨k,c,e,z⟩
  ·exact .inl l
  ·exact .inr ⟨k,c,e,cellK x c e _ z⟩
 ·obtain⟨v,z⟩:=I.cell x c e;exact⟨v,cellK x c e v z⟩
 ·obtain⟨m,⟨o,_,_,ho,_⟩,_⟩:=I.loc;exact free _ o (fun z=>(hch _ z).2.1 rfl) ho I.free
 ·obtain⟨v,o,ho,hd⟩:=I.cell x c e;exact free c o (fun z=>(hch c z).2.2.1 x c e rfl) ho (I.freeC x c e)
 ·obtain⟨e,n,ne,nf,d⟩:=I.pin p hp;have nch:p.1∉ch:=fun z=>(hch p.1 z).2.2.2 p hp rfl;exact⟨keep p.1 p.2 ne nf nch e n,free p.1 p.2 nch e n,ne,nf,d⟩
theorem Inv.un{t':Nat}(I:Inv X pins σ H s)(u:Un X.fs [] H H' s.heap h')(hok:HOk X.prog X.w H' h'):Inv X pins σ H' { s with heap:=h',toks:=t' }:=by
 obtain⟨m,⟨o,es,ep,ho,r⟩,_⟩:=id I.loc;obtain⟨sl,hL⟩:=u.any ho I.free (by simp);exact I.step (g':=s.gens) (d':=s.drawn) (ch:=[]) (fun _ z=>nomatch z) (fun b o _ hb _ e n=>u.keep b o e n hb (by simp)) (fun b o _ hb _ e n=>u.slot b o e n hb (by simp)) (fun b o _ e n=>u.free b o e n (by simp)) (fun b o _ e=>u.there b o e (by simp)) u.tups u.frzs u.tbls (fun m' hm=>by
  obtain⟨o',es',ep',ho',r'⟩:=hm;rw[ho] at ho';cases ho';exact ⟨_,es',ep',hL,r'⟩) hok I.bare
theorem Inv.call{g':Array GenState}{t':Nat}{d':Drawn}{ch:List Addr}(I:Inv X pins σ H s)(u:Un (frs X.stack) ch H H' s.heap h')(hok:HOk X.prog X.w H' h')(hg:AllBare g')(hch:∀b∈ch,(b∈X.ex\/X.s₀.heap.objs.size<=b)/\b≠X.env.locals/\(∀x c,X.env.cells.lookup x=some c->c≠b)/\∀p∈X.pn++pins,p.1≠b) :
  Inv X pins σ H' { s with heap:=h',gens:=g',drawn:=d',toks:=t' }:=by
 obtain⟨m,⟨o,es,ep,ho,r⟩,_⟩:=id I.loc;obtain⟨sl,hL⟩:=u.any ho I.free fun z=>(hch _ z).2.1 rfl;exact I.step (ch:=ch) hch (fun b o hL hb hc e n=>u.keep b o e n (fun z=>(List.mem_cons.mp (I.J9 b z)).elim hL hb) hc) (fun b o _ _ hc e n=>u.any e n hc) (fun b o hc e n=>u.free b o e n hc) (fun b o hc e=>u.there b o e hc) u.tups u.frzs u.tbls (fun m' hm=>by
  obtain⟨o',es',ep',ho',r'⟩:=hm;rw[ho] at ho';cases ho';exact ⟨_,es',ep',hL,r'⟩) hok hg
theorem Inv.turned{t':Nat}{it:Addr}(I:Inv X pins σ H s)(k:∀b o,b≠it->s.heap.get? b=some o->h'.get? b=some o)(hn:H it=none)(hL:it≠X.env.locals)(h1:it∈X.ex\/X.s₀.heap.objs.size<=it)(h2:∀x c,X.env.cells.lookup x=some c->c≠it)(h3:∀p∈X.pn++pins,p.1≠it):Inv X pins σ H { s with heap:=h',toks:=t' }:=by
 have nit:∀b u,H b=some u->b≠it:=fun b u e z=>by rw[z,hn] at e;cases e
 refine I.step (g':=s.gens) (d':=s.drawn) (ch:=[it]) (fun b hb=>?_) (fun b o _ _ hc e _=>k b o (fun z=>hc (by simp[z])) e) (fun b o _ _ hc e _=>⟨o.slots,k b o (fun z=>hc (by simp[z])) e⟩) (fun _ _ _ _ n=>n)
  (fun b o hc e=>⟨o,k b o (fun z=>hc (by simp[z])) e⟩) (fun _ _ e=>e) (fun _ _ _ e=>e) (fun b ps e=>⟨#[],by rw[e];simp⟩) (fun m hm=>?_) (fun b u e=>?_) I.bare
 ·have e:b=it:=by simpa using hb
  subst e;exact⟨h1,hL,h2,h3⟩
 ·obtain⟨o,es,ep,ho,r⟩:=hm;exact⟨o,es,ep,k _ o (Ne.symm hL) ho,r⟩
 ·refine(I.hok b u e).P2 (fun c v hc q=>k c v ?_ q) (fun _ q=>q) fun _ _ q=>q;rcases hc with z|z
  ·rw[z];exact nit b u e
  ·exact nit c _ z
theorem Inv.tok(I:Inv X pins σ H s)(t:Nat):Inv X pins σ H { s with toks:=t }:=I.un (h':=s.heap) (t':=t) Un.refl I.hok
theorem Inv.kept{t':Nat}(I:Inv X pins σ H s)(k:∀b u,s.heap.get? b=some u->h'.get? b=some u):Inv X pins σ H { s with heap:=h',toks:=t' }:=I.un (Un.kept k) (I.hok.kept k)
theorem Inv.laid{a:Addr}{o:HO}{t':Nat}(I:Inv X pins σ H s)(k:∀b u,s.heap.get? b=some u->h'.get? b=some u)(hp:s.heap.objs.size<=a)(new:l6 X.prog X.w (upd H a o) h' a o) :
  Inv X pins σ (upd H a o) { s with heap:=h',toks:=t' }:=I.un (Un.laid k hp (I.hok.fresh hp)) (I.hok.laid k hp new)
theorem Inv.write{x e:Addr}{o:HO}{t':Nat}(I:Inv X pins σ H s)(mu:Mut (H x))(he:e=x\/H e=some (.own x))(k:∀b u,b≠e->s.heap.get? b=some u->h'.get? b=some u)(heo:∃u,h'.get? e=some u)(new:l6 X.prog X.w (upd H x o) h' x o):Inv X pins σ (upd H x o) { s with heap:=h',toks:=t' }:=I.un (Un.write mu he k heo) (I.hok.write mu he k heo new)
theorem Inv.weak{σ':List (Option V)}(I:Inv X pins σ H s)(hl:σ'.length=σ.length)(w:∀(i:Nat) v,σ'[i]?=some (some v)->σ[i]?=some (some v)):Inv X pins σ' H s :=
 ⟨I.ok,I.os,I.bare,I.base,let ⟨m,hn,hl'⟩:=I.loc;⟨m,hn,fun i x v e1 e2 e3=>hl' i x v e1 (w i v e2) e3⟩,I.cell,I.free,I.freeC,I.pin,I.hok,hl.trans I.len⟩
theorem Inv.J1{pins':List (Addr×Obj)}(I:Inv X pins σ H s)(h:∀p∈pins',s.heap.get? p.1=some p.2/\H p.1=none/\p.1≠X.env.locals/\p.1∉X.fs/\∀v,p.2.data≠.cell v):Inv X pins' σ H s :=
 ⟨I.ok,I.os,I.bare,I.base,I.loc,I.cell,I.free,I.freeC,fun p hp=>(List.mem_append.mp hp).elim (fun z=>I.pin p (List.mem_append_left _ z)) (h p),I.hok,I.len⟩
theorem ay4{N:List Str}(hN:N.Nodup){i j:Nat}{x:Str}(a:N[i]?=some x)(b:N[j]?=some x):i=j:=by
 obtain⟨h1,e1⟩:=List.getElem?_eq_some_iff.mp a;obtain⟨h2,e2⟩:=List.getElem?_eq_some_iff.mp b;exact(List.getElem_inj hN).mp (e1.trans e2.symm)
theorem aq6{M:Model}{A:Around}{E:Value->Shared->Prop}{i:Nat}{x:Str}{v:V}{u:Value}{Q:Unit->Shared->Prop}(I:Inv X pins σ H s)(hN:X.N.Nodup)(hi:X.N[i]?=some x)(hx:Loc X.env.scope x)(r:RelV v u)(h:∀s',Inv X pins (σ.set i (some v)) H s'->(∃a,Heap.SameBut a s.heap s'.heap/\(a=X.env.locals\/X.env.cells.lookup x=some a))->Q () s')(hf:X.fn x=true\/X.env.scope.names.lookup x=some .local:=by first|exact .inl rfl|exact .inr rfl|assumption):wpAny M A (storeName X.env x u) Q E s:=by
 obtain⟨m,hn,hl⟩:=id I.loc;have hcls:(X.env.scope.kind==.class||(X.env.scope.kind==.module&&X.env.locals != X.env.globals))=false:=by rw[I.ok.kind];rfl
 have hiσ:i<σ.length:=by rw[I.len];exact(List.getElem?_eq_some_iff.mp hi).1
 have cne:=I.cne;have tracked:∀{a:Addr} {h':Heap},(∃o,s.heap.get? a=some o/\H a=none)->Heap.SameBut a s.heap h'->HOk X.prog X.w H h':=fun{a h'} ha hs b ob e=>by
  obtain⟨_,_,hfree⟩:=ha;refine(I.hok b ob e).P2 (fun c w' hc q=>(hs.2 c ?_).trans q) (fun _ q=>q) fun _ _ q=>q;rintro rfl;rcases hc with rfl|hc
  ·rw[hfree] at e;cases e
  ·rw[hfree] at hc;cases hc
 rcases hx with hk|hk
 ·refine wpAny_storeName_local hk hn (fun h' hn' hs=>?_) hcls;obtain⟨oL,_,_,hoL,_⟩:=id hn;refine h _ ⟨I.ok,I.os,I.bare,⟨fun b o e n hb hx=>?_,fun b o e n hb hx=>?_,I.base.free,fun b o e hx=>?_,I.base.tups,I.base.frzs,I.base.tbls⟩,⟨_,hn',fun j y v' e1 e2 e3=>?_⟩,fun y c e=>?_,I.free,I.freeC,fun p hp=>?_,tracked ⟨oL,hoL,I.free⟩ hs,by simpa using I.len⟩ ⟨_,hs,.inl rfl⟩
  ·exact(hs.2 b (Nat.ne_of_lt (Nat.lt_of_lt_of_le (Heap.lt_size e) I.ok.above))).trans (I.base.keep b o e n hb hx)
  ·obtain⟨sl,e1⟩:=I.base.slot b o e n hb hx;exact⟨sl,(hs.2 b (Nat.ne_of_lt (Nat.lt_of_lt_of_le (Heap.lt_size e) I.ok.above))).trans e1⟩
  ·obtain⟨o',e1⟩:=I.base.there b o e hx;exact⟨o',(hs.2 b (Nat.ne_of_lt (Nat.lt_of_lt_of_le (Heap.lt_size e) I.ok.above))).trans e1⟩
  ·by_cases hj:j=i
   ·subst hj;rw[hi] at e1;cases e1;rw[List.getElem?_set_self hiσ] at e2;cases e2;exact⟨u,r,.inl ⟨hk,by simp⟩⟩
   ·rw[List.getElem?_set_ne (Ne.symm hj)] at e2;obtain⟨u',r',q⟩:=hl j y v' e1 e2 e3;refine⟨u',r',?_⟩;rcases q with⟨k,e⟩|⟨k,c,e,z⟩
    ·refine .inl ⟨k,?_⟩;have:y≠x:=fun e=>hj (ay4 hN e1 (e▸hi));simp[this,e]
    ·exact .inr ⟨k,c,e,z.sameBut hs (cne y c e)⟩
  ·obtain⟨w',z⟩:=I.cell y c e;exact⟨w',z.sameBut hs (cne y c e)⟩
  ·obtain⟨e,n,ne,nf,d⟩:=I.pin p hp;exact⟨(hs.2 p.1 ne).trans e,n,ne,nf,d⟩
 ·have hfn:X.fn x=true:=by
   rcases hf with z|z
   ·exact z
   ·rw[z] at hk;cases hk
  obtain⟨c,hc⟩:=I.ok.has x (.inl hk);obtain⟨w',z⟩:=I.cell x c hc;refine wpAny_storeName_cell I.ok.kind hk hc z (fun h' hc' hs=>?_);obtain⟨oc,hoc,hocd⟩:=id z;refine h { s with heap:=h' } ⟨I.ok,I.os,I.bare,⟨fun b o e n hb hx=>?_,fun b o e n hb hx=>?_,I.base.free,fun b o e hx=>?_,I.base.tups,I.base.frzs,I.base.tbls⟩,⟨m,hn.sameBut hs (Ne.symm (cne x c hc)),fun j y v' e1 e2 e3=>?_⟩,fun y c' e=>?_,I.free,I.freeC,fun p hp=>?_,tracked ⟨oc,hoc,I.freeC x c hc⟩ hs,by simpa using I.len⟩ ⟨c,hs,.inr hc⟩
  ·exact(hs.2 b (Nat.ne_of_lt (Nat.lt_of_lt_of_le (Heap.lt_size e) (I.ok.cab x c hfn hc)))).trans (I.base.keep b o e n hb hx)
  ·obtain⟨sl,e1⟩:=I.base.slot b o e n hb hx;exact⟨sl,(hs.2 b (Nat.ne_of_lt (Nat.lt_of_lt_of_le (Heap.lt_size e) (I.ok.cab x c hfn hc)))).trans e1⟩
  ·obtain⟨o',e1⟩:=I.base.there b o e hx;exact⟨o',(hs.2 b (Nat.ne_of_lt (Nat.lt_of_lt_of_le (Heap.lt_size e) (I.ok.cab x c hfn hc)))).trans e1⟩
  ·by_cases hj:j=i
   ·subst hj;rw[hi] at e1;cases e1;rw[List.getElem?_set_self hiσ] at e2;cases e2;exact⟨u,r,.inr ⟨.inl hk,c,hc,hc'⟩⟩
   ·rw[List.getElem?_set_ne (Ne.symm hj)] at e2;obtain⟨u',r',q⟩:=hl j y v' e1 e2 e3;refine⟨u',r',?_⟩;rcases q with q|⟨k,c',e,z'⟩
    ·exact .inl q
    ·refine .inr ⟨k,c',e,z'.sameBut hs ?_⟩;rintro rfl;exact hj (ay4 hN e1 (I.ok.inj _ _ _ e hc▸hi))
  ·by_cases hcc:c'=c
   ·subst hcc;exact⟨_,hc'⟩
   ·obtain⟨w2,z2⟩:=I.cell y c' e;exact⟨w2,z2.sameBut hs hcc⟩
  ·obtain⟨e,n,ne,nf,d⟩:=I.pin p hp;refine⟨(hs.2 p.1 ?_).trans e,n,ne,nf,d⟩;intro q;rw[q,hoc] at e;have q':oc=p.2:=Option.some.inj e;exact d w' (by rw[<- q'];exact hocd)
theorem P1{M:Model}{A:Around}{E:Value->Shared->Prop}{i:Nat}{x:Str}{v:V}{u:Value}{Q:Unit->Shared->Prop}(I:Inv X pins σ H s)(hN:X.N.Nodup)(hi:X.N[i]?=some x)(hx:Loc X.env.scope x)(r:RelV v u)(h:∀s',Inv X pins (σ.set i (some v)) H s'->Q () s')(hf:X.fn x=true\/X.env.scope.names.lookup x=some .local:=by first|exact .inl rfl|exact .inr rfl|assumption):wpAny M A (storeName X.env x u) Q E s :=
 aq6 I hN hi hx r (fun s' I' _=>h s' I') hf
theorem Inv.aM8{s':Shared}{ch:List Addr}(I:Inv X pins σ H s)(ho:s'.os=s.os)(u:Un (frs X.stack) ch H H' s.heap s'.heap)(hok:HOk X.prog X.w H' s'.heap)(hg:AllBare s'.gens)(hch:∀b∈ch,(b∈X.ex\/X.s₀.heap.objs.size<=b)/\b≠X.env.locals/\(∀x c,X.env.cells.lookup x=some c->c≠b)/\∀p∈X.pn++pins,p.1≠b):Inv X pins σ H' s':=by
 obtain⟨h',g',d',t',o'⟩:=s';have e:o'=s.os:=ho;subst e;exact I.call (g':=g') (t':=t') (d':=d') u hok hg hch
end
noncomputable abbrev XK:=Value->Option Addr->Hp->Prop
noncomputable abbrev St:=List (Option V)
noncomputable abbrev VK:=V->Hp->Prop
noncomputable abbrev TE:=St->Hp->VK->Prop
noncomputable abbrev TT:=St->Hp->(Bool->Hp->Prop)->Prop
noncomputable abbrev TA:=St->Hp->(List V->Hp->Prop)->Prop
structure Ends where
 nx:St->Hp->Prop
 rt:VK
 bk:St->Hp->Prop:=fun _ _=>False
 ct:St->Hp->Prop:=fun _ _=>False
noncomputable abbrev TS:=Ends->St->Hp->Prop
noncomputable def EP(X:Cx)(pins:List (Addr×Obj))(σ:St)(Q:VK)(u:Value)(s':Shared):Prop:=∃v H',Inv X pins σ H' s'/\RelV v u/\Q v H'
noncomputable def TP(X:Cx)(pins:List (Addr×Obj))(σ:St)(Q:Bool->Hp->Prop)(b:Bool)(s':Shared):Prop:=∃H',Inv X pins σ H' s'/\Q b H'
noncomputable def AP(X:Cx)(pins:List (Addr×Obj))(σ:St)(Q:List V->Hp->Prop)(us:List Value)(s':Shared):Prop:=∃vs H',Inv X pins σ H' s'/\Vals vs us/\Q vs H'
noncomputable def SP(X:Cx)(pins:List (Addr×Obj))(D:Ends)(f:Flow)(s':Shared):Prop :=
 match f with
 |.next=>∃σ' H',Inv X pins σ' H' s'/\D.nx σ' H'
 |.brk=>∃σ' H',Inv X pins σ' H' s'/\D.bk σ' H'
 |.cont=>∃σ' H',Inv X pins σ' H' s'/\D.ct σ' H'
 |.ret u=>∃v σ' H',Inv X pins σ' H' s'/\RelV v u/\D.rt v H'
noncomputable def PE(X:Cx)(e:Expr)(t:TE):Prop :=
 ∀(pins:List (Addr×Obj)) (s:Shared) (σ:St) (H:Hp) (Q:VK),Inv X pins σ H s->t σ H Q->wpAny (model X.prog X.w) X.A (eval e X.env) (EP X pins σ Q) X.xe s
noncomputable def PT(X:Cx)(e:Expr)(t:TT):Prop :=
 ∀(pins:List (Addr×Obj)) (s:Shared) (σ:St) (H:Hp) (Q:Bool->Hp->Prop),Inv X pins σ H s->t σ H Q->wpAny (model X.prog X.w) X.A (isTrue e X.env (eval e X.env)) (TP X pins σ Q) X.xe s
noncomputable def PW(X:Cx)(e:Expr)(t:TT):Prop :=
 ∀(whole:Sem Value) (pins:List (Addr×Obj)) (s:Shared) (σ:St) (H:Hp) (Q:Bool->Hp->Prop),Inv X pins σ H s->t σ H Q->wpAny (model X.prog X.w) X.A (isTrue e X.env whole) (TP X pins σ Q) X.xe s
theorem PW.pt{X:Cx}{e:Expr}{t:TT}(h:PW X e t):PT X e t:=h _
noncomputable def PA(X:Cx)(es:List Expr)(t:TA):Prop :=
 ∀(pos:Pos) (pins:List (Addr×Obj)) (s:Shared) (σ:St) (H:Hp) (Q:List V->Hp->Prop),Inv X pins σ H s->t σ H Q->wpAny (model X.prog X.w) X.A (spliced (backTo pos (starEach es X.env))) (AP X pins σ Q) X.xe s
noncomputable def PS(X:Cx)(st:Stmt)(t:TS):Prop :=
 ∀(pins:List (Addr×Obj)) (s:Shared) (σ:St) (H:Hp) (D:Ends),Inv X pins σ H s->t D σ H->wpAny (model X.prog X.w) X.A (exec st X.env) (SP X pins D) X.xe s
noncomputable def PSs(X:Cx)(st:List Stmt)(t:TS):Prop :=
 ∀(pins:List (Addr×Obj)) (s:Shared) (σ:St) (H:Hp) (D:Ends),Inv X pins σ H s->t D σ H->wpAny (model X.prog X.w) X.A (execs st X.env) (SP X pins D) X.xe s
theorem thn{α:Type}{t:Sem α}{Q Q':α->Shared->Prop}{M:Model}{A:Around}{E:Value->Shared->Prop}{s:Shared}(h:wpAny M A t Q E s)(hQ:∀a s,Q a s->Q' a s):wpAny M A t Q' E s:=wpAny_mono h hQ fun _ _ x=>x
end L2
namespace L2
open PySem PySem.Spec PyProof.Rows
section
variable{X:Cx}
noncomputable def bE4(i:Nat):TE:=fun σ H Q=>∃v,σ[i]?=some (some v)/\Q v H
noncomputable def tC(v:V):TE:=fun _ H Q=>Q v H
theorem bn5{i:Nat}{x:Str}{pos:Pos}(hN:X.N[i]?=some x)(hv:Vis X.env.scope x)(hd:(x==("__debug__":Str))=false:=by decide)(hcd:(x==("__classdict__":Str))=false:=by decide):PE X (.Name x pos) (bE4 i):=by
 intro pins s σ H Q I h;obtain⟨v,e,h⟩:=h;obtain⟨m,hn,hl⟩:=I.loc;obtain⟨u,r,l⟩:=hl i x v hN e hv;have fin:EP X pins σ Q u s:=⟨v,H,I,r,h⟩
 rcases l with⟨hk,hm⟩|⟨hk,c,hc,hcell⟩
 ·exact wpAny_Name (wpAny_loadName_local I.ok.kind hk hn hm fin) hd
 ·rcases hk with hk|hk
  ·exact wpAny_Name (wpAny_loadName_cell I.ok.kind hk hc hcell fin) hd
  ·exact wpAny_Name (wpAny_loadName_free I.ok.kind hk hc hcell fin hcd) hd
theorem bo1{i j pos}:PE X (.Constant (.int i) j pos) (tC (.int i)):=fun _ _ _ H _ I h=>wpAny_Constant_int ⟨.int i,H,I.tok _,⟨_,rfl⟩,h⟩
theorem by8{b j pos}:PE X (.Constant (.bool b) j pos) (tC (.bl b)):=fun _ _ _ H _ I h=>Constant_bool ⟨.bl b,H,I,rfl,h⟩
theorem bn9{j pos}:PE X (.Constant .none j pos) (tC .non):=fun _ _ _ H _ I h=>Constant_none ⟨.non,H,I,rfl,h⟩
theorem aR6{x j pos}:PE X (.Constant (.str x) j pos) (tC (.str x)):=fun _ _ _ H _ I h=>Calls.Constant_str ⟨.str x,H,I.tok _,⟨_,rfl⟩,h⟩
noncomputable def Gl(X:Cx)(x:Str):Prop:=X.env.kindOf x=some .globalImplicit
theorem O7{E:Value->Shared->Prop}{pins:List (Addr×Obj)}{s:Shared}{σ:St}{H:Hp}{x:Str}{u:Value}{pos:Pos}{Q:Value->Shared->Prop}(I:Inv X pins σ H s)(hg:Gl X x)(hm:X.mg x=some u)(h:Q u s)(hd:(x==("__debug__":Str))=false:=by decide):wpAny (model X.prog X.w) X.A (eval (.Name x pos) X.env) Q E s :=
 Calls.Name_function_global I.ok.kind hg (Calls.loadGlobal_global (by rw[I.ok.glob];exact I.mod.glob.keeps I.bk) hm h) hd
theorem K2{E:Value->Shared->Prop}{pins:List (Addr×Obj)}{s:Shared}{σ:St}{H:Hp}{x:Str}{u:Value}{pos:Pos}{Q:Value->Shared->Prop}(I:Inv X pins σ H s)(hg:Gl X x)(hm:X.mg x=none)(hv:bootBuiltins x=some u)(h:Q u s)(hn:x≠"__name__":=by decide)(hd:(x==("__debug__":Str))=false:=by decide):wpAny (model X.prog X.w) X.A (eval (.Name x pos) X.env) Q E s:=by
 obtain⟨mb,h1,h2⟩:=I.mod.blt;exact Calls.Name_function_global I.ok.kind hg (Calls.loadGlobal_builtin (by rw[I.ok.glob];exact I.mod.glob.keeps I.bk) hm (by rw[I.ok.blt];exact h1.keeps I.bk) ((h2 x hn).trans hv) h) hd
theorem ae0{x:Str}{v:V}{u:Value}{pos:Pos}(hg:Gl X x)(hm:X.mg x=some u)(r:RelV v u)(hd:(x==("__debug__":Str))=false:=by decide):PE X (.Name x pos) (tC v) :=
 fun _ _ _ H _ I h=>O7 I hg hm ⟨v,H,I,r,h⟩ hd
theorem bd2{x:Str}{v:V}{u:Value}{pos:Pos}(hg:Gl X x)(hm:X.mg x=none)(hv:bootBuiltins x=some u)(r:RelV v u)(hn:x≠"__name__":=by decide)(hd:(x==("__debug__":Str))=false:=by decide):PE X (.Name x pos) (tC v) :=
 fun _ _ _ H _ I h=>K2 I hg hm hv ⟨v,H,I,r,h⟩ hn hd
variable{a b:Expr}{ta tb:TE}{pos:Pos}
variable{tA tB':TT}{rest:List Expr}
noncomputable def bF7(t u:TT):TT:=fun σ H Q=>t σ H fun c H1=>if c=true then u σ H1 Q else Q false H1
noncomputable def tOr(t u:TT):TT:=fun σ H Q=>t σ H fun c H1=>if c=true then Q true H1 else u σ H1 Q
noncomputable def bF0(t:TT):TT:=fun σ H Q=>t σ H fun c H1=>Q (!c) H1
theorem bb7(ha:PT X a tA):PW X (.BoolOp .And [a] pos) tA:=by
 intro wh pins s σ H Q I h;refine isTrue_and (thn (ha pins s σ H Q I h) fun c s1 e=>?_);cases c with
 |true=>exact isTrue_and_nil e
 |false=>exact e
theorem bm2(ha:PT X a tA):PW X (.BoolOp .Or [a] pos) tA:=by
 intro wh pins s σ H Q I h;refine isTrue_or (thn (ha pins s σ H Q I h) fun c s1 e=>?_);cases c with
 |false=>exact isTrue_or_nil e
 |true=>exact e
theorem bm3(ha:PT X a tA)(hb:PW X (.BoolOp .And (b::rest) pos) tB'):PW X (.BoolOp .And (a::b::rest) pos) (bF7 tA tB'):=by
 intro wh pins s σ H Q I h;refine isTrue_and (thn (ha pins s σ H _ I h) fun c s1 ⟨H1,I1,q1⟩=>?_);cases c with
 |true=>exact hb wh pins s1 σ H1 Q I1 q1
 |false=>exact⟨H1,I1,q1⟩
theorem bx9(ha:PT X a tA)(hb:PW X (.BoolOp .Or (b::rest) pos) tB'):PW X (.BoolOp .Or (a::b::rest) pos) (tOr tA tB'):=by
 intro wh pins s σ H Q I h;refine isTrue_or (thn (ha pins s σ H _ I h) fun c s1 ⟨H1,I1,q1⟩=>?_);cases c with
 |true=>exact⟨H1,I1,q1⟩
 |false=>exact hb wh pins s1 σ H1 Q I1 q1
theorem bm4(ha:PT X a tA):PT X (.UnaryOp .Not a pos) (bF0 tA):=by
 intro pins s σ H Q I h;exact isTrue_not (ha pins s σ H (fun c H1=>Q (!c) H1) I h)
noncomputable def bw5(ta tb:TE):TE:=fun σ H Q=>ta σ H fun x H1=>∃c,x=.bl c/\if c=true then tb σ H1 Q else Q (.bl false) H1
noncomputable def bE9(ta tb:TE):TE:=fun σ H Q=>ta σ H fun x H1=>∃c,x=.bl c/\if c=true then Q (.bl true) H1 else tb σ H1 Q
noncomputable def bw0(ta:TE):TE:=fun σ H Q=>ta σ H fun x H1=>∃c,x=.bl c/\Q (.bl (!c)) H1
theorem bn7{op}{t:TE}(h:PE X a t):PE X (.BoolOp op [a] pos) t:=fun pins s σ H Q I hw=>BoolOp_one (h pins s σ H Q I hw)
theorem bo4(ha:PE X a ta)(hb:PE X (.BoolOp .And (b::rest) pos) tb):PE X (.BoolOp .And (a::b::rest) pos) (bw5 ta tb):=by
 intro pins s σ H Q I h;refine BoolOp_and (thn (ha pins s σ H _ I h) fun v s1 ⟨x,H1,I1,r1,q1⟩=>?_);obtain⟨c,rfl,q1⟩:=q1;cases r1;refine wpAny_truthy_bool ?_;cases c with
 |true=>exact hb pins s1 σ H1 Q I1 q1
 |false=>exact⟨.bl false,H1,I1,rfl,q1⟩
theorem by3(ha:PE X a ta)(hb:PE X (.BoolOp .Or (b::rest) pos) tb):PE X (.BoolOp .Or (a::b::rest) pos) (bE9 ta tb):=by
 intro pins s σ H Q I h;refine BoolOp_or (thn (ha pins s σ H _ I h) fun v s1 ⟨x,H1,I1,r1,q1⟩=>?_);obtain⟨c,rfl,q1⟩:=q1;cases r1;refine wpAny_truthy_bool ?_;cases c with
 |false=>exact hb pins s1 σ H1 Q I1 q1
 |true=>exact⟨.bl true,H1,I1,rfl,q1⟩
theorem bn8(ha:PE X a ta):PE X (.UnaryOp .Not a pos) (bw0 ta):=by
 intro pins s σ H Q I h;refine UnaryOp_ (thn (ha pins s σ H _ I h) fun v s1 ⟨x,H1,I1,r1,q1⟩=>?_);obtain⟨c,rfl,q1⟩:=q1;cases r1;exact not_of (wpAny_truthy_bool ⟨.bl (!c),H1,I1,rfl,q1⟩)
noncomputable def tIf(t:TT)(ta tb:TE):TE:=fun σ H Q=>t σ H fun c H1=>if c=true then ta σ H1 Q else tb σ H1 Q
theorem a10{c:Expr}(hc:PT X c tA)(ha:PE X a ta)(hb:PE X b tb):PE X (.IfExp c a b pos) (tIf tA ta tb):=by
 intro pins s σ H Q I h;refine wpAny_IfExp (thn (hc pins s σ H _ I h) fun d s1 ⟨H1,I1,q1⟩=>?_);cases d with
 |true=>exact ha pins s1 σ H1 Q I1 q1
 |false=>exact hb pins s1 σ H1 Q I1 q1
end
end L2
namespace L2
open PySem PySem.Spec PyProof.Rows
noncomputable def SqL(K:PySem.W.Frag)(H:Hp)(a:Addr)(xs:List V):Prop :=
 Rd H a (.lst xs) \/
  ∃(o:Obj) (its:Array Value) (n:Nat),K.lookup a=some o/\o.cls=.type "list"/\o.dict=none/\o.data=.seq its n/\its.size<=sizeLine/\Vals xs its.toList
noncomputable def SqT(K:PySem.W.Frag)(H:Hp)(a:Addr)(xs:List V):Prop :=
 Rd H a (.tup xs) \/
  ∃(o:Obj) (its:Array Value) (n:Nat),K.lookup a=some o/\o.cls=.type "tuple"/\o.data=.seq its n/\its.size<=sizeLine/\Vals xs its.toList
noncomputable def bK8:Value->Option V
 |.none=>some .non
 |.bool b=>some (.bl b)
 |.int i _=>some (.int i)
 |.str x _=>some (.str x)
 |.bytes b _=>some (.byt b)
 |.float b _=>some (.flt b)
 |.ref a=>some (.ref a)
 |.type n=>some (.ty n)
 |_=>none
theorem RelV.abs{x:V}{u:Value}(r:RelV x u):bK8 u=some x:=by
 cases x with
 |non=>cases r;rfl
 |bl _=>cases r;rfl
 |int _=>obtain⟨t,rfl⟩:=r;rfl
 |str _=>obtain⟨t,rfl⟩:=r;rfl
 |byt _=>obtain⟨t,rfl⟩:=r;rfl
 |flt _=>obtain⟨t,rfl⟩:=r;rfl
 |ref _=>cases r;rfl
 |ty _=>cases r;rfl
theorem RelV.inj{x y:V}{u:Value}(r:RelV x u)(q:RelV y u):x=y:=Option.some.inj (r.abs.symm.trans q.abs)
theorem Vals.inj:∀{xs ys:List V} {us:List Value},Vals xs us->Vals ys us->xs=ys
 |_,_,_,.nil,.nil=>rfl
 |_,_,_,.cons r t,.cons r' t'=>by rw[r.inj r',Vals.inj t t']
section
variable{X:Cx}{pins:List (Addr×Obj)}{σ:St}{H:Hp}{s:Shared}{a:Addr}{xs ys:List V}
theorem SqL.of{K:PySem.W.Frag}(h:H a=some (.lst xs)):SqL K H a xs:=.inl (.inl h)
theorem Inv.list(I:Inv X pins σ H s)(h:SqL X.K H a xs):∃its:List Value,Vals xs its/\PlainL s.heap a its.toArray/\xs.length<=sizeLine:=by
 rcases h with h|⟨o,its,n,hk,hc,hd,hs,hz,r⟩
 ·obtain⟨z,its,n,r,e⟩:=h.ok I.hok;exact⟨its,r,⟨_,n,e,rfl,rfl,rfl⟩,z⟩
 ·refine⟨its.toList,r,⟨o,n,I.kIn a o hk,hc,hd,by simpa using hs⟩,?_⟩;have e:=r.length;simp only[Array.length_toList] at e;omega
theorem Inv.tuple(I:Inv X pins σ H s)(h:SqT X.K H a xs):∃its:List Value,Vals xs its/\IsTup s.heap a its.toArray/\xs.length<=sizeLine:=by
 rcases h with h|⟨o,its,n,hk,hc,hs,hz,r⟩
 ·obtain⟨z,its,r,p⟩:=h.ok I.hok;exact⟨its,r,p.tup,z⟩
 ·refine⟨its.toList,r,⟨o,I.kIn a o hk,hc,n,by simpa using hs⟩,?_⟩;have e:=r.length;simp only[Array.length_toList] at e;omega
theorem Inv.ah9(I:Inv X pins σ H s)(h:SqL X.K H a xs)(h':SqL X.K H a ys):xs=ys:=by
 obtain⟨its,r,⟨o,n,e,_,_,d⟩,_⟩:=I.list h;obtain⟨its',r',⟨o',n',e',_,_,d'⟩,_⟩:=I.list h';rw[e] at e';cases e';rw[d] at d';injection d' with d1 _;have:its=its':=by simpa using congrArg Array.toList d1
 subst this;exact r.inj r'
theorem Inv.aO8(I:Inv X pins σ H s)(h:SqT X.K H a xs)(h':SqT X.K H a ys):xs=ys:=by
 obtain⟨its,r,⟨o,e,_,n,d⟩,_⟩:=I.tuple h;obtain⟨its',r',⟨o',e',_,n',d'⟩,_⟩:=I.tuple h';rw[e] at e';cases e';rw[d] at d';injection d' with d1 _;have:its=its':=by simpa using congrArg Array.toList d1
 subst this;exact r.inj r'
end
noncomputable abbrev Cx.W7(X:Cx)(E:Value->Shared->Prop):Cx:={ X with xe:=E }
theorem Cx.Ok.W7{X:Cx}(ok:X.Ok)(E:Value->Shared->Prop):(X.W7 E).Ok :=
 ⟨ok.mod,ok.kind,ok.glob,ok.blt,ok.above,ok.inj,ok.has,ok.cab,ok.hd,ok.frames,ok.stk,ok.exf,ok.bs,ok.bsz,ok.noex,ok.exfs,ok.F9,ok.frf⟩
theorem Cx.Ok.aw7{X:Cx}{E:Value->Shared->Prop}(ok:(X.W7 E).Ok):X.Ok :=
 ⟨ok.mod,ok.kind,ok.glob,ok.blt,ok.above,ok.inj,ok.has,ok.cab,ok.hd,ok.frames,ok.stk,ok.exf,ok.bs,ok.bsz,ok.noex,ok.exfs,ok.F9,ok.frf⟩
section
variable{X:Cx}{pins:List (Addr×Obj)}{σ:St}{H:Hp}{s:Shared}{E:Value->Shared->Prop}
theorem Inv.W7(I:Inv X pins σ H s)(E:Value->Shared->Prop):Inv (X.W7 E) pins σ H s:=⟨I.ok.W7 E,I.os,I.bare,I.base,I.loc,I.cell,I.free,I.freeC,I.pin,I.hok,I.len⟩
theorem Inv.aw7(I:Inv (X.W7 E) pins σ H s):Inv X pins σ H s:=⟨I.ok.aw7,I.os,I.bare,I.base,I.loc,I.cell,I.free,I.freeC,I.pin,I.hok,I.len⟩
end
section
variable{X:Cx}{st:Stmt}{rest:List Stmt}{t u:TS}{e:Expr}{te:TE}{pos:Pos}
noncomputable def a53:TS:=fun D σ H=>D.nx σ H
noncomputable def bE6(t u:TS):TS:=fun D σ H=>t { D with nx:=u D } σ H
theorem bc0:PSs X [] a53:=fun _ _ σ H _ I h=>wpAny_execs_nil ⟨σ,H,I,h⟩
theorem a00(h1:PS X st t)(h2:PSs X rest u):PSs X (st::rest) (bE6 t u):=by
 intro pins s σ H D I h;refine wpAny_execs_cons (thn (h1 pins s σ H { D with nx:=u D } I h) fun f s1 q=>?_);cases f with
 |next =>
  obtain⟨σ',H',I',q⟩:=q;exact h2 pins s1 σ' H' D I' q
 |ret v=>exact q
 |brk=>exact q
 |cont=>exact q
theorem bc2:PS X (.Pass pos) a53:=fun _ _ σ H _ I h=>wpAny_Pass ⟨σ,H,I,h⟩
theorem Inv.quiet{pins:List (Addr×Obj)}{σ:St}{H:Hp}{s:Shared}(I:Inv X pins σ H s):interactive X.env=false:=by simp[interactive,I.ok.kind]
noncomputable def bw1(te:TE):TS:=fun D σ H=>te σ H fun _ H1=>D.nx σ H1
theorem bc3(he:PE X e te)(hs:swapsWith e none pos.line X.env=pure false:=by rfl):PS X (.Expr e pos) (bw1 te):=by
 intro pins s σ H D I h;exact wpAny_Expr_any (thn (he pins s σ H _ I h) fun v s1 ⟨x,H1,I1,r1,q1⟩=>⟨σ,H1,I1,q1⟩) I.quiet hs
noncomputable def bE7(te:TE):TS:=fun D σ H=>te σ H D.rt
theorem bm6(he:PE X e te):PS X (.Return (some e) pos) (bE7 te):=by
 intro pins s σ H D I h;exact wpAny_Return_some (thn (he pins s σ H _ I h) fun v s1 ⟨x,H1,I1,r1,q1⟩=>⟨x,σ,H1,I1,r1,q1⟩)
noncomputable def bv8:TS:=fun D _ H=>D.rt .non H
theorem bc1:PS X (.Return none pos) bv8:=fun _ _ σ H _ I h=>wpAny_Return_none ⟨.non,σ,H,I,rfl,h⟩
noncomputable def bF2(c:TT)(t u:TS):TS:=fun D σ H=>c σ H fun b H1=>if b=true then t D σ H1 else u D σ H1
theorem by0{c:Expr}{a b:List Stmt}{tc:TT}(hc:PT X c tc)(ha:PSs X a t)(hb:PSs X b u):PS X (.If c a b pos) (bF2 tc t u):=by
 intro pins s σ H D I h;refine wpAny_If (thn (hc pins s σ H _ I h) fun d s1 ⟨H1,I1,q1⟩=>?_);cases d with
 |true=>exact ha pins s1 σ H1 D I1 q1
 |false=>exact hb pins s1 σ H1 D I1 q1
end
noncomputable abbrev TG:=V->St->Hp->(St->Hp->Prop)->Prop
noncomputable abbrev TGs:=List V->St->Hp->(St->Hp->Prop)->Prop
noncomputable def PG(X:Cx)(target:Expr)(t:TG):Prop :=
 ∀(pins:List (Addr×Obj)) (s:Shared) (σ:St) (H:Hp) (v:V) (u:Value) (Q:St->Hp->Prop),Inv X pins σ H s->RelV v u->t v σ H Q ->
  wpAny (model X.prog X.w) X.A (assign target X.env u) (fun _ s'=>∃σ' H',Inv X pins σ' H' s'/\Q σ' H') X.xe s
noncomputable def PGs(X:Cx)(ts:List Expr)(t:TGs):Prop :=
 ∀(pins:List (Addr×Obj)) (s:Shared) (σ:St) (H:Hp) (vs:List V) (us:List Value) (Q:St->Hp->Prop),Inv X pins σ H s->Vals vs us->t vs σ H Q ->
  wpAny (model X.prog X.w) X.A (assignInOrder ((assignEach ts X.env).map (·.2)) us) (fun _ s'=>∃σ' H',Inv X pins σ' H' s'/\Q σ' H') X.xe s
noncomputable abbrev a49:=V->V->V->Hp->(Hp->Prop)->Prop
noncomputable def a50(X:Cx)(t:a49):Prop :=
 ∀(pins:List (Addr×Obj)) (s:Shared) (σ:St) (H:Hp) (o i v:V) (ov iv u:Value) (Q:Hp->Prop),Inv X pins σ H s->RelV o ov->RelV i iv->RelV v u->t o i v H Q ->
  wpAny (model X.prog X.w) X.A (setItem ov iv u) (fun _ s'=>∃H',Inv X pins σ H' s'/\Q H') X.xe s
noncomputable abbrev TIp:=V->V->Hp->VK->Prop
noncomputable def PIp(X:Cx)(op:Operator)(t:TIp):Prop :=
 ∀(pins:List (Addr×Obj)) (s:Shared) (σ:St) (H:Hp) (x y:V) (v u:Value) (Q:VK),Inv X pins σ H s->RelV x v->RelV y u->t x y H Q ->
  wpAny (model X.prog X.w) X.A (inplaceOp op v u) (EP X pins σ Q) X.xe s
section
variable{X:Cx}{pos:Pos}
noncomputable def ae9(i:Nat):TG:=fun v σ H Q=>Q (σ.set i (some v)) H
theorem aF8{i:Nat}{x:Str}(hN:X.N.Nodup)(hi:X.N[i]?=some x)(hx:Loc X.env.scope x)(hf:X.fn x=true\/X.env.scope.names.lookup x=some .local:=by first|exact .inl rfl|exact .inr rfl|assumption):PG X (.Name x pos) (ae9 i):=by
 intro pins s σ H v u Q I r h;exact wpAny_assign_Name (P1 I hN hi hx r (fun s' I'=>⟨_,H,I',h⟩) hf)
noncomputable def bs8:TGs:=fun vs σ H Q=>vs=[]/\Q σ H
noncomputable def a69(t:TG)(u:TGs):TGs:=fun vs σ H Q=>∃v r,vs=v::r/\t v σ H fun σ' H'=>u r σ' H' Q
theorem bc6:PGs X [] bs8:=by
 intro pins s σ H vs us Q I r h;obtain⟨e,h⟩:=h;subst e;cases r;exact assignInOrder_nil ⟨σ,H,I,h⟩
theorem a07{e:Expr}{es:List Expr}{t:TG}{u:TGs}(h1:PG X e t)(h2:PGs X es u)(hs:(assignEach (e::es) X.env).map (·.2)=assign e X.env::(assignEach es X.env).map (·.2):=by rfl):PGs X (e::es) (a69 t u):=by
 intro pins s σ H vs us Q I r h;obtain⟨v,vr,e1,h⟩:=h;subst e1;cases r with
 |cons r rr =>
  rw[hs];refine assignInOrder_cons (thn (h1 pins s σ H _ _ _ I r h) fun _ s1 ⟨σ1,H1,I1,q1⟩=>?_);exact h2 pins s1 σ1 H1 _ _ Q I1 rr q1
noncomputable def bJ2(K:PySem.W.Frag)(n:Nat)(t:TGs):TG:=fun v σ H Q=>∃a xs,v=.ref a/\SqT K H a xs/\xs.length=n/\t xs σ H Q
theorem bn3{es:List Expr}{k:Nat}{t:TGs}{n:Nat}(hc:X.calm=true)(h:PGs X es t)(hn:(assignEach es X.env).length=n:=by rfl)(hst:(assignEach es X.env).findIdx? (·.1)=none:=by rfl):PG X (.Tuple es k pos) (bJ2 X.K n t):=by
 intro pins s σ H v u Q I r hw;obtain⟨a,xs,e1,hq,hl,hw⟩:=hw;subst e1;cases r;obtain⟨its,rv,ht,hz⟩:=I.tuple hq;refine assign_Tuple_tuple (I.ok.hd hc) ht (by simp[hn,<- hl,rv.length]) hst fun h' hx=>?_;have I1:Inv X pins σ H { s with heap:=h' }:=I.kept (t':=s.toks) fun b o e=>hx b o (Nat.ne_of_lt (Heap.lt_size e)) e;exact h pins _ σ H xs _ Q I1 (by simpa using rv) hw
noncomputable def bJ3(to ti:TE)(t:a49):TG:=fun v σ H Q=>to σ H fun o H1=>ti σ H1 fun i H2=>t o i v H2 fun H3=>Q σ H3
theorem bn4{o i:Expr}{to ti:TE}{t:a49}(ho:PE X o to)(hi:PE X i ti)(hs:a50 X t)(ha:∀ v,assign (.Subscript o i pos) X.env v=(do
   let ov <- holding [v] (eval o X.env)
   let iv <- holding [v,ov] (eval i X.env)
   standAt pos
   holding [v,ov,iv] (setItem ov iv v)
   release [v,ov,iv] []):=by intro _;rfl):PG X (.Subscript o i pos) (bJ3 to ti t):=by
 intro pins s σ H v u Q I r h;rw[ha];refine wpAny_bind (wpAny_holding (thn (ho pins s σ H _ I h) fun ov s1 ⟨x,H1,I1,r1,q1⟩=>?_));refine wpAny_bind (wpAny_holding (thn (hi pins s1 σ H1 _ I1 q1) fun iv s2 ⟨y,H2,I2,r2,q2⟩=>?_));refine wpAny_bind (wpAny_standAt (wpAny_bind (wpAny_holding (thn (hs pins s2 σ H2 x y v ov iv u _ I2 r1 r2 r q2) fun _ s3 ⟨H3,I3,q3⟩=>?_))));exact wpAny_release ⟨σ,H3,I3,q3⟩
noncomputable def ax1(te:TE)(g:TG):TS:=fun D σ H=>te σ H fun x H1=>g x σ H1 D.nx
theorem aQ9{tg e:Expr}{te:TE}{g:TG}(he:PE X e te)(hg:PG X tg g)(hs:swapsWithSole [tg] e pos.line X.env=pure false:=by rfl)(hw:swappedStores [tg] e X.env=pure none:=by rfl)(h1:(assignEach [tg] X.env).map (·.2)=[assign tg X.env]:=by rfl):PS X (.Assign [tg] e pos) (ax1 te g):=by
 intro pins s σ H D I h;refine wpAny_Assign_stores (thn (he pins s σ H _ I h) fun v s1 ⟨x,H1,I1,r1,q1⟩=>?_) hs hw;rw[h1];exact thn (hg pins s1 σ H1 x v _ I1 r1 q1) fun _ s2 q=>q
theorem aQ7{i:Nat}{x:Str}{e:Expr}{te:TE}{pos':Pos}(hN:X.N.Nodup)(hi:X.N[i]?=some x)(hx:Loc X.env.scope x)(he:PE X e te)(hs:swapsWith e (some (.Name x pos')) pos.line X.env=pure false:=by rfl)(hf:X.fn x=true\/X.env.scope.names.lookup x=some .local:=by first|exact .inl rfl|exact .inr rfl|assumption) :
  PS X (.Assign [.Name x pos'] e pos) (ax1 te (ae9 i)):=by
 intro pins s σ H D I h;refine wpAny_Assign_Name (thn (he pins s σ H _ I h) fun v s1 ⟨y,H1,I1,r1,q1⟩=>?_) hs;exact P1 I1 hN hi hx r1 (fun s2 I2=>⟨_,H1,I2,q1⟩) hf
noncomputable def bE8(i j:Nat)(ta:TA):TS:=fun D σ H=>ta σ H fun vs H1=>∃v w,vs=[v,w]/\D.nx ((σ.set i (some v)).set j (some w)) H1
theorem bm7{i j:Nat}{x y:Str}{a b:Expr}{ta:TA}{px py pt:Pos}{kt k2 pt2}(hc:X.calm=true)(hN:X.N.Nodup)(hi:X.N[i]?=some x)(hj:X.N[j]?=some y)(hij:i≠j)(hx:X.env.scope.names.lookup x=some .local)(hy:X.env.scope.names.lookup y=some .local)(ha:PA X [a,b] ta)(hw:swappedStores [.Tuple [.Name x px,.Name y py] kt pt] (.Tuple [a,b] k2 pt2) X.env=pure (some [x,y]))(hs:swapsWithSole [.Tuple [.Name x px,.Name y py] kt pt] (.Tuple [a,b] k2 pt2) pos.line X.env=pure false:=by rfl) :
  PS X (.Assign [.Tuple [.Name x px,.Name y py] kt pt] (.Tuple [a,b] k2 pt2) pos) (bE8 i j ta):=by
 intro pins s σ H D I h;rw[exec_Assign_arm];refine wpAny_bind (wpAny_standAt ?_);rw[hs];refine wpAny_bind (wpAny_pure ?_);rw[if_neg (by decide)];refine wpAny_bind (Tuple_ (thn (ha _ pins s σ H _ I h) fun us s1 ⟨vs,H1,I1,r1,q1⟩=>?_));obtain⟨v,w,e1,q1⟩:=q1;subst e1;obtain⟨u1,u2,rfl,rv,rw'⟩:∃u1 u2,us=[u1,u2]/\RelV v u1/\RelV w u2:=by
  cases r1 with
  |cons p q =>
   cases q with
   |cons p' q' =>
    cases q';exact⟨_,_,rfl,p,p'⟩
 refine wpAny_newObj_type ?_ (by show 2<=sizeLine;decide);have I2:Inv X pins σ H1 { s1 with heap:=s1.heap.push { cls:=.type "tuple",data:=.seq [u1,u2].toArray } }:=I1.kept (t':=s1.toks) fun b o e=>Heap.get?_push_of_some _ e;rw[hw];refine wpAny_bind (wpAny_pure ?_);show wpAny (model X.prog X.w) X.A (do rule "assign.swapped-stores";let items <- unpackItems (.ref s1.heap.objs.size) 2 none;assignInOrder [fun v=>bindName X.env y v,fun v=>bindName X.env x v] items.reverse;pure Flow.next) _ _ _;refine wpAny_bind (wpAny_rule (wpAny_bind (unpackItems_tuple (items:=#[u1,u2]) (I.ok.hd hc) (IsTup.new s1.heap _) fun h' hx'=>?_)));have I3:=I2.kept (h':=h') (t':=s1.toks) fun b o e=>hx' b o (Nat.ne_of_lt (Heap.lt_size e)) e;show wpAny _ _ (assignInOrder [fun v=>bindName X.env y v,fun v=>bindName X.env x v] [u2,u1] >>= fun _=>pure Flow.next) _ _ _;refine wpAny_bind (assignInOrder_cons (wpAny_bindName (P1 I3 hN hj (.inl hy) rw' (fun s2 I4=>?_) (.inr hy))));refine assignInOrder_cons (wpAny_bindName (P1 I4 hN hi (.inl hx) rv (fun s3 I5=>assignInOrder_nil (wpAny_pure ?_)) (.inr hx)));rw[List.set_comm _ _ (Ne.symm hij)] at I5;exact⟨_,H1,I5,q1⟩
noncomputable def bF6(i:Nat)(te:TE)(ti:TIp):TS:=fun D σ H=>∃x,σ[i]?=some (some x)/\te σ H fun y H1=>ti x y H1 fun z H2=>D.nx (σ.set i (some z)) H2
theorem bn0{i:Nat}{x:Str}{e:Expr}{te:TE}{op:Operator}{ti:TIp}{pos':Pos}(hN:X.N.Nodup)(hi:X.N[i]?=some x)(hx:Loc X.env.scope x)(he:PE X e te)(ho:PIp X op ti)(hf:X.fn x=true\/X.env.scope.names.lookup x=some .local:=by first|exact .inl rfl|exact .inr rfl|assumption) :
  PS X (.AugAssign (.Name x pos') op e pos) (bF6 i te ti):=by
 intro pins s σ H D I h;obtain⟨v,e1,h⟩:=h;obtain⟨m,hn,hl⟩:=I.loc;have vis:Vis X.env.scope x:=by rcases hx with k|k;exact .inl k;exact .inr (.inl k)
 obtain⟨u,r,l⟩:=hl i x v hi e1 vis;refine wpAny_AugAssign_Name ?_;have go:wpAny (model X.prog X.w) X.A (eval e X.env) (fun w s₂=>wpAny (model X.prog X.w) X.A (inplaceOp op u w) (fun r s₃=>wpAny (model X.prog X.w) X.A (storeName X.env x r) (fun _=>SP X pins D .next) X.xe s₃) X.xe s₂) X.xe s:=by
  refine thn (he pins s σ H _ I h) fun w s1 ⟨y,H1,I1,r1,q1⟩=>?_;refine thn (ho pins s1 σ H1 v y u w _ I1 r r1 q1) fun z s2 ⟨zv,H2,I2,r2,q2⟩=>?_;exact P1 I2 hN hi hx r2 (fun s3 I3=>⟨_,H2,I3,q2⟩) hf
 rcases l with⟨hk,hm⟩|⟨hk,c,hc,hcell⟩
 ·exact wpAny_loadName_local I.ok.kind hk hn hm go
 ·rcases hk with hk|hk
  ·exact wpAny_loadName_cell I.ok.kind hk hc hcell go
  ·rcases hx with k|k
   ·have:X.env.scope.names.lookup x=some .free:=hk;rw[k] at this;cases this
   ·have:X.env.scope.names.lookup x=some .free:=hk;rw[k] at this;cases this
end
section
variable{X:Cx}{pos:Pos}
noncomputable def bi1(c:TT)(tb:TS):TS:=fun D σ H=>∃W:Nat->St->Hp->Prop,(∃m,W m σ H)/\∀m σ H,W m σ H ->
 c σ H fun b H1=>if b=true then ∃N:St->Hp->Prop,(∀σ' H',N σ' H'->∃m',m'<m/\W m' σ' H')/\tb { D with nx:=N,ct:=N,bk:=D.nx } σ H1 else D.nx σ H1
theorem a01{c:Expr}{body:List Stmt}{tc:TT}{tb:TS}(hp:PassesOwn (model X.prog X.w) X.A X.env X.xe)(hc:PT X c tc)(hb:PSs X body tb):PS X (.While c body [] pos) (bi1 tc tb):=by
 intro pins s σ H D I h;obtain⟨W,⟨m0,w0⟩,turn⟩:=h;refine wpAny_While (codeAny_whileLoop (fun n s'=>∃σ' H',Inv X pins σ' H' s'/\W n σ' H') ?_ m0 ⟨σ,H,I,w0⟩);rintro n s1 ⟨σ1,H1,I1,w1⟩;refine wpAny_passesOwn hp (thn (hc pins s1 σ1 H1 _ I1 (turn n σ1 H1 w1)) fun b s2 ⟨H2,I2,q2⟩=>?_);cases b with
 |true =>
  obtain⟨N,hN,q2⟩:=q2;rw[if_pos rfl];refine wpAny_passesOwn hp (thn (hb pins s2 σ1 H2 _ I2 q2) fun f s3 q3=>?_);cases f with
  |next =>
   obtain⟨σ3,H3,I3,n3⟩:=q3;obtain⟨m',hm,w3⟩:=hN σ3 H3 n3;exact⟨m',hm,σ3,H3,I3,w3⟩
  |cont =>
   obtain⟨σ3,H3,I3,n3⟩:=q3;obtain⟨m',hm,w3⟩:=hN σ3 H3 n3;exact⟨m',hm,σ3,H3,I3,w3⟩
  |brk=>exact q3
  |ret v=>exact q3
 |false =>
  rw[if_neg Bool.false_ne_true];exact wpAny_execs_nil ⟨σ1,H2,I2,q2⟩
end
structure It where
 go:Nat->Hp->Prop
 yld:Nat->Hp->V->Hp->Prop
 stop:Nat->Hp->Prop
noncomputable def B1(X:Cx)(pins:List (Addr×Obj))(H:Hp)(b:Addr):Prop :=
 H b=none/\b≠X.env.locals/\b∉X.fs/\(b∈X.ex\/X.s₀.heap.objs.size<=b)/\(∀x c,X.env.cells.lookup x=some c->c≠b)/\∀p∈X.pn++pins,p.1≠b
theorem Inv.ac7{X:Cx}{pins:List (Addr×Obj)}{σ:St}{H H':Hp}{s:Shared}{b:Addr}(I:Inv X pins σ H s)(hb:s.heap.objs.size<=b)(hn:H' b=none):B1 X pins H' b:=by
 refine⟨hn,Nat.ne_of_gt (Nat.lt_of_lt_of_le I.lt hb),I.ay3 hb,.inr (Nat.le_trans I.sz hb),fun x c e z=>?_,fun p hp z=>?_⟩
 ·obtain⟨v,q⟩:=I.cell x c e;exact absurd (Nat.lt_of_lt_of_le q.lt (by rw[z];exact hb)) (Nat.lt_irrefl _)
 ·exact absurd (Nat.lt_of_lt_of_le (Heap.lt_size (I.pin p hp).1) (by rw[z];exact hb)) (Nat.lt_irrefl _)
structure Turn(P:Program)(w:World)(K:PySem.W.Frag)(tg:Expr)(J:It)(fp:List Addr)(it:Addr)(tn:Nat->Heap->Prop):Prop where
 mem:it∈fp
 obj:∀i h,tn i h->∀b∈fp,∃o,h.get? b=some o/\∀v,o.data≠.cell v
 keep:∀i h h',tn i h->(∀b∈fp,∀o,h.get? b=some o->h'.get? b=some o)->tn i h'
 item:∀(X:Cx),X.prog=P->X.w=w->X.K=K->X.calm=true->∀(i:Nat) (pins:List (Addr×Obj)) (s:Shared) (σ:St) (H:Hp) (E:Value->Shared->Prop),Inv X pins σ H s->(∀b∈fp,B1 X pins H b)->tn i s.heap->J.go i H ->
  wpAny (model P w) X.A (pyNext (.ref it)) (fun r s1=>∃ u,r=some u /\
   wpAny (model P w) X.A (letOwnedTupleGo tg (.ref it) u) (fun _ s2=>∃ x H',Inv X pins σ H' s2/\RelV x u/\J.yld i H x H'/\tn (i + 1) s2.heap/\∀ b ∈ fp,H' b=none) E s1) E s
 done:∀(X:Cx),X.prog=P->X.w=w->X.K=K->X.calm=true->∀(i:Nat) (pins:List (Addr×Obj)) (s:Shared) (σ:St) (H:Hp) (E:Value->Shared->Prop),Inv X pins σ H s->(∀b∈fp,B1 X pins H b)->tn i s.heap->J.stop i H ->
  wpAny (model P w) X.A (pyNext (.ref it)) (fun r s1=>r=none/\Inv X pins σ H s1) E s
 self:∀(A:Around) (i:Nat) (s:Shared) (Q:Value->Shared->Prop) (E:Value->Shared->Prop),tn i s.heap->Q (.ref it) s->wpAny (model P w) A (pyIter (.ref it)) Q E s
noncomputable abbrev TI:=St->Hp->(It->Hp->Prop)->Prop
noncomputable def PIE(X:Cx)(pins:List (Addr×Obj))(σ:St)(tg:Expr)(R:It->Hp->Prop)(itv:Value)(s2:Shared):Prop :=
 ∃(it:Addr) (fp:List Addr) (tn:Nat->Heap->Prop) (J:It) (H':Hp),itv=.ref it/\Inv X pins σ H' s2/\Turn X.prog X.w X.K tg J fp it tn/\tn 0 s2.heap/\(∀b∈fp,B1 X pins H' b)/\R J H'
noncomputable def PI(X:Cx)(tg iter:Expr)(wi:TI):Prop :=
 ∀(pins:List (Addr×Obj)) (s:Shared) (σ:St) (H:Hp) (R:It->Hp->Prop),Inv X pins σ H s->wi σ H R ->
  wpAny (model X.prog X.w) X.A (eval iter X.env) (fun v s1=>wpAny (model X.prog X.w) X.A (pyIter v) (PIE X pins σ tg R) X.xe s1) X.xe s
theorem av0{M:Model}{A:Around}{E:Value->Shared->Prop}{s:Shared}{tg:Expr}{it:Addr}{u:Value}{o:Obj}{n:String}{vs:Array Value}{Q:Unit->Shared->Prop}(ho:s.heap.get? it=some o)(hc:o.cls=.type n)(hd:o.data=.fields vs)(hn:["enumerate","zip","dict_itemiterator","dict_reverseitemiterator","odict_iterator","itertools.zip_longest","itertools.pairwise"].contains n=false)(hQ:Q () s):wpAny M A (letOwnedTupleGo tg (.ref it) u) Q E s:=by
  unfold letOwnedTupleGo;cases tg<;>first
    |exact wpAny_pure hQ
    | (cases u <;> first
        |exact wpAny_pure hQ
        | (refine wpAny_bind (wpAny_load ho ?_)
           rw[hc,hd];show wpAny M A (if(["enumerate","zip","dict_itemiterator","dict_reverseitemiterator","odict_iterator","itertools.zip_longest","itertools.pairwise"].contains n&&vs[0]?==some (rawInt _))=true then _ else _) Q E s;rw[if_neg (by intro h;rw[hn,Bool.false_and] at h;cases h)];exact wpAny_pure hQ))
noncomputable def Itl(K:PySem.W.Frag)(a:Addr):It :=
 ⟨fun i H=>∃xs x,SqL K H a xs/\xs[i]?=some x,fun i H x H'=>H'=H/\∀xs,SqL K H a xs->xs[i]?=some x,fun i H=>∃xs,SqL K H a xs/\xs.length<=i⟩
noncomputable def Itt(K:PySem.W.Frag)(a:Addr):It :=
 ⟨fun i H=>∃xs x,SqT K H a xs/\xs[i]?=some x,fun i H x H'=>H'=H/\∀xs,SqT K H a xs->xs[i]?=some x,fun i H=>∃xs,SqT K H a xs/\xs.length<=i⟩
noncomputable def Itr(lo:Int)(n:Nat):It:=⟨fun i _=>i<n,fun i H x H'=>H'=H/\x=.int (lo+i),fun i _=>n<=i⟩
theorem aO5{P:Program}{w:World}{K:PySem.W.Frag}{tg:Expr}(a it:Addr):Turn P w K tg (Itl K a) [it] it (fun i h=>h.IsListIter it a i) where
 mem:=by simp
 obj:=fun i h st b hb=>by
  have e:b=it:=by simpa using hb
  subst e;obtain⟨o,e,c,d⟩:=st;exact⟨o,e,fun v z=>by rw[d] at z;cases z⟩
 keep:=fun i h h' st k=>st.at fun o e=>k it (by simp) o e
 item:=by
  intro X hP hw hK hc i pins s σ H E I hf st hg;subst hP hw hK;obtain⟨xs,x,hq,hx⟩:=hg;obtain⟨its,rv,p,hz⟩:=I.list hq;obtain⟨u,hu,ru⟩:=rv.get hx;obtain⟨f0,f1,f2,f3,f4,f5⟩:=hf it (by simp);refine wpAny_pyNext_list_item st p.isList (x:=u) (by simpa using hu) fun h' st' sb=>?_;have I1:Inv X pins σ H { s with heap:=h' }:=I.turned (t':=s.toks) (fun b o hb e=>(sb.2 b hb).trans e) f0 f1 f3 f4 f5;obtain⟨o,e,c,d⟩:=id st';exact⟨u,rfl,av0 (s:={ s with heap:=h' }) e c d (by decide) ⟨x,H,I1,ru,⟨rfl,fun ys hy=>by rw[I.ah9 hy hq];exact hx⟩,st',fun b hb=>(hf b hb).1⟩⟩
 done:=by
  intro X hP hw hK hc i pins s σ H E I hf st hg;subst hP hw hK;obtain⟨xs,hq,hx⟩:=hg;obtain⟨its,rv,p,hz⟩:=I.list hq;obtain⟨f0,f1,f2,f3,f4,f5⟩:=hf it (by simp);have hl:=rv.length;exact wpAny_pyNext_list_end (I.ok.hd hc) st p.isList (by simp;omega) fun h' eb=>⟨rfl,I.turned (t':=s.toks) (fun b o hb e=>eb b o hb e) f0 f1 f3 f4 f5⟩
 self:=fun _ _ _ _ _ st h=>wpAny_pyIter_listiter st h
theorem aI6{P:Program}{w:World}{K:PySem.W.Frag}{tg:Expr}(a it:Addr):Turn P w K tg (Itt K a) [it] it (fun i h=>h.IsTupleIter it a i) where
 mem:=by simp
 obj:=fun i h st b hb=>by
  have e:b=it:=by simpa using hb
  subst e;obtain⟨o,e,c,d⟩:=st;exact⟨o,e,fun v z=>by rw[d] at z;cases z⟩
 keep:=fun i h h' st k=>st.at fun o e=>k it (by simp) o e
 item:=by
  intro X hP hw hK hc i pins s σ H E I hf st hg;subst hP hw hK;obtain⟨xs,x,hq,hx⟩:=hg;obtain⟨its,rv,p,hz⟩:=I.tuple hq;obtain⟨u,hu,ru⟩:=rv.get hx;obtain⟨f0,f1,f2,f3,f4,f5⟩:=hf it (by simp);refine wpAny_pyNext_tuple_item st (show s.heap.IsTuple a its.toArray from p) (x:=u) (by simpa using hu) fun h' st' sb=>?_;have I1:Inv X pins σ H { s with heap:=h' }:=I.turned (t':=s.toks) (fun b o hb e=>(sb.2 b hb).trans e) f0 f1 f3 f4 f5;obtain⟨o,e,c,d⟩:=id st';exact⟨u,rfl,av0 (s:={ s with heap:=h' }) e c d (by decide) ⟨x,H,I1,ru,⟨rfl,fun ys hy=>by rw[I.aO8 hy hq];exact hx⟩,st',fun b hb=>(hf b hb).1⟩⟩
 done:=by
  intro X hP hw hK hc i pins s σ H E I hf st hg;subst hP hw hK;obtain⟨xs,hq,hx⟩:=hg;obtain⟨its,rv,p,hz⟩:=I.tuple hq;obtain⟨f0,f1,f2,f3,f4,f5⟩:=hf it (by simp);have hl:=rv.length;exact wpAny_pyNext_tuple_end (I.ok.hd hc) st (show s.heap.IsTuple a its.toArray from p) (by simp;omega) fun h' eb=>⟨rfl,I.turned (t':=s.toks) (fun b o hb e=>eb b o hb e) f0 f1 f3 f4 f5⟩
 self:=fun _ _ _ _ _ st h=>wpAny_pyIter_tupleiter st h
theorem aI8{P:Program}{w:World}{K:PySem.W.Frag}{tg:Expr}(it:Addr)(lo:Int)(n:Nat):Turn P w K tg (Itr lo n) [it] it (fun i h=>IsRangeIter h it (lo+(i:Nat)*1) ((n:Int)-(i:Nat)) 1) where
 mem:=by simp
 obj:=fun i h st b hb=>by
  have e:b=it:=by simpa using hb
  subst e;exact ⟨_,st,fun v z=>by
   have z':Data.fields _=Data.cell v:=z;cases z'⟩
 keep:=fun i h h' st k=>k it (by simp) _ st
 item:=by
  intro X hP hw hK hc i pins s σ H E I hf st hg;subst hP hw hK;obtain⟨f0,f1,f2,f3,f4,f5⟩:=hf it (by simp);have W:=Walks.range (prog:=X.prog) (w:=X.w) (I.ok.hd hc) it lo 1 n;refine W.item i s _ _ hg st fun v h' tk hv st' kk=>?_;obtain⟨t,rfl⟩:=hv;have I1:Inv X pins σ H { s with heap:=h',toks:=tk }:=I.turned (fun b o hb e=>kk b o (by simpa using hb) e) f0 f1 f3 f4 f5;refine⟨_,rfl,av0 (s:={ s with heap:=h',toks:=tk }) (n:="range_iterator") st' rfl rfl (by decide) ⟨.int (lo+i),H,I1,⟨t,?_⟩,⟨rfl,rfl⟩,st',fun b hb=>(hf b hb).1⟩⟩;rw[Int.mul_one]
 done:=by
  intro X hP hw hK hc i pins s σ H E I hf st hg;subst hP hw hK;obtain⟨f0,f1,f2,f3,f4,f5⟩:=hf it (by simp);exact wpAny_pyNext_range_end (I.ok.hd hc) st (by have:n<=i:=hg;omega) fun h' eb=>⟨rfl,I.turned (t':=s.toks) (fun b o hb e=>eb b o hb e) f0 f1 f3 f4 f5⟩
 self:=fun _ _ _ _ _ st h=>wpAny_pyIter_rangeiter st h
end L2
namespace L2
open PySem PySem.Spec PyProof.Rows
section
variable{X:Cx}{tg:Expr}
theorem ay0{pins:List (Addr×Obj)}{σ:St}{H:Hp}{s:Shared}{R:It->Hp->Prop}{E:Value->Shared->Prop}{lo hi:Int}{t u v:Tok}{tk:Nat}(I:Inv X pins σ H s)(h1:-(2 ^ 62)<=lo)(h2:lo<2 ^ 62)(h3:-(2 ^ 62)<=hi)(h4:hi<2 ^ 62)(q:R (Itr lo (hi-lo).toNat) H):wpAny (model X.prog X.w) X.A (pyIter (.ref s.heap.objs.size)) (PIE X pins σ tg R) E { s with heap:=s.heap.push { cls:=.type "range",data:=.fields #[.int lo t,.int hi u,.int 1 v] },toks:=tk }:=by
 refine wpAny_pyIter_range (IsRange.new ..) (small_one h1 h2 h3 h4) ?_;have I1:Inv X pins σ H { s with heap:=s.heap.push { cls:=.type "range",data:=.fields #[.int lo t,.int hi u,.int 1 v] },toks:=tk }:=I.kept fun b o e=>Heap.get?_push_of_some _ e;refine ⟨(s.heap.push { cls:=.type "range",data:=.fields #[.int lo t,.int hi u,.int 1 v] }).objs.size,[(s.heap.push { cls:=.type "range",data:=.fields #[.int lo t,.int hi u,.int 1 v] }).objs.size],_,_,H,rfl,
  I1.kept (t':=tk) fun b o e=>Heap.get?_push_of_some _ e,aI8 _ lo (hi - lo).toNat,?_,fun b hb=>?_,q⟩
 ·have e1:lo+((0:Nat):Int)*1=lo:=by simp
  have e2:(((hi-lo).toNat:Nat):Int)-((0:Nat):Int)=Builtin.Range.rangeSize lo hi 1:=by rw[rangeSize_one];split<;>omega
  show IsRangeIter _ _ (lo+((0:Nat):Int)*1) ((((hi-lo).toNat:Nat):Int)-((0:Nat):Int)) 1;rw[e1,e2];exact Heap.get?_push_size _ rfl
 ·have e:b=(s.heap.push { cls:=.type "range",data:=.fields #[.int lo t,.int hi u,.int 1 v] }).objs.size:=by simpa using hb
  subst e;exact I1.ac7 (Nat.le_refl _) (I1.hok.fresh (Nat.le_refl _))
noncomputable def bB5(ta:TA):TI:=fun σ H R=>ta σ H fun vs H1=>∃j:Int,vs=[.int j]/\-(2 ^ 62)<=j/\j<2 ^ 62/\R (Itr 0 j.toNat) H1
noncomputable def bB4(ta:TA):TI:=fun σ H R=>ta σ H fun vs H1=>∃i j:Int,vs=[.int i,.int j]/\(-(2 ^ 62)<=i/\i<2 ^ 62/\-(2 ^ 62)<=j/\j<2 ^ 62)/\R (Itr i (j-i).toNat) H1
theorem aR4{a:Expr}{ta:TA}{p pos:Pos}(hg:Gl X "range")(hm:X.mg "range"=none)(ha:PA X [a] ta)(hs:starEach [a] X.env=[(false,eval a X.env)]:=by rfl):PI X tg (.Call (.Name "range" p) [a] [] pos) (bB5 ta):=by
 intro pins s σ H R I h;refine Call_ (K2 I hg hm boot_range (PyProof.Rows.callWith_type1 (thn (ha pos pins s σ H _ I h) fun us s1 ⟨vs,H1,I1,r1,q1⟩=>?_) hs rfl));obtain⟨j,e,q1,q2,q⟩:=q1;subst e;cases r1 with
 |cons r rr =>
  cases rr;obtain⟨t,rfl⟩:=r;exact call_range_1 (ay0 I1 (by omega) (by omega) q1 q2 (by simpa using q))
theorem aR3{a b:Expr}{ta:TA}{p pos:Pos}(hg:Gl X "range")(hm:X.mg "range"=none)(ha:PA X [a,b] ta)(hs:starEach [a,b] X.env=[(false,eval a X.env),(false,eval b X.env)]:=by rfl)(hs2:starEach [b] X.env=[(false,eval b X.env)]:=by rfl) :
  PI X tg (.Call (.Name "range" p) [a,b] [] pos) (bB4 ta):=by
 intro pins s σ H R I h;refine Call_ (K2 I hg hm boot_range (PyProof.Rows.callWith_type1 (thn (ha pos pins s σ H _ I h) fun us s1 ⟨vs,H1,I1,r1,q1⟩=>?_) (by rw[hs,hs2]) (by rw[hs2];rfl)));obtain⟨i,j,e,⟨q1,q2,q3,q4⟩,q⟩:=q1;subst e;cases r1 with
 |cons r rr =>
  cases rr with
  |cons r' rr =>
   cases rr;obtain⟨t,rfl⟩:=r;obtain⟨t',rfl⟩:=r';exact call_range_2 (ay0 I1 q1 q2 q3 q4 q)
noncomputable def bF3(wi:TI)(g:TG)(tb:TS):TS:=fun D σ H=>wi σ H fun J H1=>∃W:Nat->Nat->St->Hp->Prop,(∃m,W 0 m σ H1)/\∀i m σ H,W i m σ H ->
 (J.stop i H/\D.nx σ H)\/(J.go i H/\∃N:St->Hp->Prop,(∀σ' H',N σ' H'->∃m',m'<m/\W (i+1) m' σ' H')/\∀x H',J.yld i H x H'->g x σ H' fun σ2 H2=>tb { D with nx:=N,ct:=N,bk:=D.nx } σ2 H2)
noncomputable def U6(fp:List Addr)(h:Heap):List (Addr×Obj):=fp.filterMap fun b=>(h.get? b).map fun o=>(b,o)
theorem O0{fp:List Addr}{h:Heap}{b:Addr}{o:Obj}(hb:b∈fp)(e:h.get? b=some o):(b,o)∈U6 fp h:=List.mem_filterMap.mpr ⟨b,hb,by rw[e];rfl⟩
theorem aS5{fp:List Addr}{h:Heap}{p:Addr×Obj}(hp:p∈U6 fp h):p.1∈fp/\h.get? p.1=some p.2:=by
 obtain⟨b,hb,e⟩:=List.mem_filterMap.mp hp;cases q:h.get? b with
 |none=>rw[q] at e;cases e
 |some o =>
  rw[q] at e;have e':(b,o)=p:=Option.some.inj e;subst e';exact⟨hb,q⟩
theorem Inv.pinned{pins:List (Addr×Obj)}{σ:St}{H:Hp}{s:Shared}{fp:List Addr}(I:Inv X pins σ H s)(hf:∀b∈fp,B1 X pins H b)(ho:∀b∈fp,∃o,s.heap.get? b=some o/\∀v,o.data≠.cell v):Inv X (pins++U6 fp s.heap) σ H s :=
 I.J1 fun p hp=>(List.mem_append.mp hp).elim (fun z=>I.pin p (List.mem_append_right _ z)) fun z=>by
  obtain⟨hb,e⟩:=aS5 z;obtain⟨f0,f1,f2,_⟩:=hf p.1 hb;obtain⟨o,e',d⟩:=ho p.1 hb;rw[e] at e';cases e';exact⟨e,f0,f1,f2,d⟩
theorem Inv.ah3{pins pl:List (Addr×Obj)}{σ:St}{H:Hp}{s:Shared}(I:Inv X (pins++pl) σ H s):Inv X pins σ H s:=I.J1 fun p hp=>I.pin p (List.mem_append_right _ (List.mem_append_left _ hp))
theorem bm8{iter:Expr}{body:List Stmt}{wi:TI}{g:TG}{tb:TS}{pos:Pos}(hp:PassesOwn (model X.prog X.w) X.A X.env X.xe)(hc:X.calm=true)(hi:PI X tg iter wi)(hg:PG X tg g)(hb:PSs X body tb)(hs:∀x,foldedSetIterable iter X.env x=pure x:=by intro _;rfl):PS X (.For tg iter body [] pos) (bF3 wi g tb):=by
 intro pins s σ H D I h;refine wpAny_For (thn (hi pins s σ H _ I h) fun v s1 h1=>thn h1 fun itv s2 h2=>?_) hs;obtain⟨it,fp,tn,J,H2,e,I2,T,st2,f2,W,⟨m0,w0⟩,turn⟩:=h2;subst e;have stat:∀{H':Hp},(∀b∈fp,H' b=none)->∀b∈fp,B1 X pins H' b:=fun hn b hb=>⟨hn b hb,(f2 b hb).2⟩
 refine codeAny_forLoop_any (fun n s'=>∃i σ' H',Inv X pins σ' H' s'/\tn i s'.heap/\(∀b∈fp,H' b=none)/\W i n σ' H') ?_ m0 ⟨0,σ,H2,I2,st2,fun b hb=>(f2 b hb).1,w0⟩;rintro n s3 ⟨i,σ3,H3,I3,st3,fr3,w3⟩;rcases turn i n σ3 H3 w3 with⟨stop,qn⟩|⟨go,N,hN,step⟩
 ·refine wpAny_passesOwn hp (thn (T.done X rfl rfl rfl hc i pins s3 σ3 H3 X.xe I3 (stat fr3) st3 stop) fun r s4 ⟨hr,I4⟩=>?_);subst hr;exact wpAny_execs_nil ⟨σ3,H3,I4,qn⟩
 ·refine wpAny_passesOwn hp (thn (T.item X rfl rfl rfl hc i pins s3 σ3 H3 X.xe I3 (stat fr3) st3 go) fun r s4 ⟨u,hr,h4⟩=>?_);subst hr;refine wpAny_passesOwn hp (thn h4 fun _ s5 ⟨x,H5,I5,r5,y5,st5,fr5⟩=>?_);have I5':=I5.pinned (stat fr5) (T.obj _ _ st5);refine wpAny_passesOwn hp (thn (hg _ s5 σ3 H5 x u _ I5' r5 (step x H5 y5)) fun _ s6 ⟨σ6,H6,I6,q6⟩=>?_);refine wpAny_passesOwn hp (thn (hb _ s6 σ6 H6 _ I6 q6) fun f s7 q7=>?_);have again:∀{σ7:St} {H7:Hp},Inv X (pins++U6 fp s5.heap) σ7 H7 s7->N σ7 H7->∃m,m<n/\∃i σ' H',Inv X pins σ' H' s7/\tn i s7.heap/\(∀b∈fp,H' b=none)/\W i m σ' H':=fun{σ7 H7} I7 n7=>by
   obtain⟨m',hm,w7⟩:=hN σ7 H7 n7;refine⟨m',hm,i+1,σ7,H7,I7.ah3,T.keep _ _ _ st5 fun b hb o e=>(I7.pin (b,o) (List.mem_append_right _ (List.mem_append_right _ (O0 hb e)))).1,fun b hb=>?_,w7⟩;obtain⟨o,e,d⟩:=T.obj _ _ st5 b hb;exact(I7.pin (b,o) (List.mem_append_right _ (List.mem_append_right _ (O0 hb e)))).2.1
  cases f with
  |next=>obtain⟨σ7,H7,I7,n7⟩:=q7;exact again I7 n7
  |cont=>obtain⟨σ7,H7,I7,n7⟩:=q7;exact again I7 n7
  |brk=>obtain⟨σ7,H7,I7,q7⟩:=q7;exact⟨σ7,H7,I7.ah3,q7⟩
  |ret v=>obtain⟨x7,σ7,H7,I7,r7,q7⟩:=q7;exact⟨x7,σ7,H7,I7.ah3,r7,q7⟩
end
end L2
namespace L2
open PySem PySem.Spec PyProof.Rows
noncomputable abbrev R2:=V->V->Hp->VK->Prop
noncomputable def OpR(X:Cx)(f:Value->Value->Sem Value)(r:R2):Prop :=
 ∀(pins:List (Addr×Obj)) (s:Shared) (σ:St) (H:Hp) (x y:V) (v u:Value) (Q:VK),Inv X pins σ H s->RelV x v->RelV y u->r x y H Q ->
  wpAny (model X.prog X.w) X.A (f v u) (EP X pins σ Q) X.xe s
noncomputable def UnR(X:Cx)(f:Value->Sem Value)(r:V->Hp->VK->Prop):Prop :=
 ∀(pins:List (Addr×Obj)) (s:Shared) (σ:St) (H:Hp) (x:V) (v:Value) (Q:VK),Inv X pins σ H s->RelV x v->r x H Q ->
  wpAny (model X.prog X.w) X.A (f v) (EP X pins σ Q) X.xe s
noncomputable def l9(X:Cx)(f:Value)(r:List V->Hp->VK->Prop):Prop :=
 ∀(pins:List (Addr×Obj)) (s:Shared) (σ:St) (H:Hp) (xs:List V) (us:List Value) (Q:VK),Inv X pins σ H s->Vals xs us->r xs H Q ->
  wpAny (model X.prog X.w) X.A (call f us) (EP X pins σ Q) X.xe s
noncomputable def bL0(X:Cx)(r:V->Hp->(Bool->Hp->Prop)->Prop):Prop :=
 ∀(pins:List (Addr×Obj)) (s:Shared) (σ:St) (H:Hp) (x:V) (v:Value) (Q:Bool->Hp->Prop),Inv X pins σ H s->RelV x v->r x H Q ->
  wpAny (model X.prog X.w) X.A (truthy v) (TP X pins σ Q) X.xe s
noncomputable def tOp(r:R2)(ta tb:TE):TE:=fun σ H Q=>ta σ H fun x H1=>tb σ H1 fun y H2=>r x y H2 Q
noncomputable def tUn(r:V->Hp->VK->Prop)(ta:TE):TE:=fun σ H Q=>ta σ H fun x H1=>r x H1 Q
noncomputable def rI(C:Int->Int->Prop)(g:Int->Int->V):R2:=fun x y H Q=>∃i j,x=.int i/\y=.int j/\C i j/\Q (g i j) H
noncomputable def rI0(g:Int->Int->V):R2:=fun x y H Q=>∃i j,x=.int i/\y=.int j/\Q (g i j) H
noncomputable def rU(g:Int->V):V->Hp->VK->Prop:=fun x H Q=>∃i,x=.int i/\Q (g i) H
section
variable{X:Cx}{a b c:Expr}{ta tb tc:TE}{pos:Pos}
theorem a44(ha:PE X a ta)(hb:PE X b tb){pins:List (Addr×Obj)}{s:Shared}{σ:St}{H:Hp}{R:V->V->Hp->Prop}(I:Inv X pins σ H s)(h:ta σ H fun x H1=>tb σ H1 fun y H2=>R x y H2){Q:Value->Shared->Prop}{f:Value->Value->Sem Value}(hf:∀v u s2 x y H2,Inv X pins σ H2 s2->RelV x v->RelV y u->R x y H2->wpAny (model X.prog X.w) X.A (f v u) Q X.xe s2) :
  wpAny (model X.prog X.w) X.A (eval a X.env) (fun v s₁=>wpAny (model X.prog X.w) X.A (eval b X.env) (fun u s₂=>wpAny (model X.prog X.w) X.A (f v u) Q X.xe s₂) X.xe s₁) X.xe s:=by
 refine thn (ha pins s σ H _ I h) fun v s1 ⟨x,H1,I1,r1,q1⟩=>?_;refine thn (hb pins s1 σ H1 _ I1 q1) fun u s2 ⟨y,H2,I2,r2,q2⟩=>?_;exact hf v u s2 x y H2 I2 r1 r2 q2
theorem by5{op:Operator}{r:R2}(ho:OpR X (binaryOp op) r)(ha:PE X a ta)(hb:PE X b tb):PE X (.BinOp a op b pos) (tOp r ta tb):=by
 intro pins s σ H Q I h;exact wpAny_BinOp (a44 ha hb I h fun v u s2 x y H2 I2 rx ry q=>ho pins s2 σ H2 x y v u Q I2 rx ry q)
theorem by2{op:UnaryOp}{r:V->Hp->VK->Prop}(ho:UnR X (unaryOp op) r)(ha:PE X a ta):PE X (.UnaryOp op a pos) (tUn r ta):=by
 intro pins s σ H Q I h;exact UnaryOp_ (thn (ha pins s σ H _ I h) fun v s1 ⟨x,H1,I1,r1,q1⟩=>ho pins s1 σ H1 x v Q I1 r1 q1)
theorem opI{f:Value->Value->Sem Value}{C:Int->Int->Prop}{g:Int->Int->Int}(rule:∀(i j:Int) (t u:Tok) (s:Shared) (Q:Value->Shared->Prop) (E:Value->Shared->Prop),C i j->Q (.int (g i j) s.toks) { s with toks:=s.toks+1 }->wpAny (model X.prog X.w) X.A (f (.int i t) (.int j u)) Q E s) :
  OpR X f (rI C fun i j=>.int (g i j)):=by
 intro pins s σ H x y v u Q I rx ry h;obtain⟨i,j,rfl,rfl,hc,q⟩:=h;obtain⟨t,rfl⟩:=rx;obtain⟨t',rfl⟩:=ry;exact rule i j t t' s _ _ hc ⟨.int (g i j),H,I.tok _,⟨_,rfl⟩,q⟩
theorem an5{f:Value->Value->Sem Value}{g:Int->Int->Int}(rule:∀(i j:Int) (t u:Tok) (s:Shared) (Q:Value->Shared->Prop) (E:Value->Shared->Prop),Q (.int (g i j) s.toks) { s with toks:=s.toks+1 }->wpAny (model X.prog X.w) X.A (f (.int i t) (.int j u)) Q E s) :
  OpR X f (rI0 fun i j=>.int (g i j)):=by
 intro pins s σ H x y v u Q I rx ry h;obtain⟨i,j,rfl,rfl,q⟩:=h;obtain⟨t,rfl⟩:=rx;obtain⟨t',rfl⟩:=ry;exact rule i j t t' s _ _ ⟨.int (g i j),H,I.tok _,⟨_,rfl⟩,q⟩
theorem aK7{f:Value->Value->Sem Value}{g:Int->Int->Bool}(rule:∀(i j:Int) (t u:Tok) (s:Shared) (Q:Value->Shared->Prop) (E:Value->Shared->Prop),Q (.bool (g i j)) s->wpAny (model X.prog X.w) X.A (f (.int i t) (.int j u)) Q E s) :
  OpR X f (rI0 fun i j=>.bl (g i j)):=by
 intro pins s σ H x y v u Q I rx ry h;obtain⟨i,j,rfl,rfl,q⟩:=h;obtain⟨t,rfl⟩:=rx;obtain⟨t',rfl⟩:=ry;exact rule i j t t' s _ _ ⟨.bl (g i j),H,I,rfl,q⟩
noncomputable def a52(i j:Int):Prop:=0<j/\j<1073741824
noncomputable def aa3(i j:Int):Prop:=0<=j/\j<=1000000/\i.natAbs<2 ^ 64
noncomputable def ai9(i j:Int):Prop:=(-(2 ^ 64)<i/\i<2 ^ 64)\/(-(2 ^ 64)<j/\j<2 ^ 64)
theorem ai9.ok{i j:Int}(h:ai9 i j):IntMulOk i j:=by
 rcases h with⟨h1,h2⟩|⟨h1,h2⟩
 ·exact .of_left (intBits_le_64 h1 h2)
 ·exact .of_right (intBits_le_64 h1 h2)
theorem bp8:OpR X (binaryOp .Add) (rI0 fun i j=>.int (i+j)):=an5 fun _ _ _ _ _ _ _ q=>add_int q
theorem bo8:OpR X (binaryOp .Sub) (rI0 fun i j=>.int (i-j)):=an5 fun _ _ _ _ _ _ _ q=>sub_int q
theorem bp2:OpR X (binaryOp .Mult) (rI ai9 fun i j=>.int (i*j)):=opI fun _ _ _ _ _ _ _ hc q=>mul_int q hc.ok
theorem bd8:OpR X (binaryOp .FloorDiv) (rI a52 fun i j=>.int (i / j)):=opI fun i j _ _ _ _ _ hc q=>by
 have h1:(0:Int)<j:=hc.1;have h2:j<1073741824:=hc.2;exact floordiv_int (by omega) (by rw[Int.fdiv_eq_ediv_of_nonneg i (by omega)];exact q) (.inl (PyProof.noPylong_small (by omega)))
theorem bp3:OpR X (binaryOp .Mod) (rI (fun _ j=>0<j) fun i j=>.int (i % j)):=opI fun i j _ _ _ _ _ hc q=>by
 have h1:(0:Int)<j:=hc;exact mod_int' (by omega) (by rw[Int.fmod_eq_emod_of_nonneg i (by omega)];exact q)
theorem bp1:OpR X (binaryOp .Pow) (rI aa3 fun i j=>.int (i ^ j.toNat)):=opI fun _ _ _ _ _ _ _ hc q=>pow_int_small hc.1 hc.2.1 hc.2.2 q
theorem bo9:OpR X (binaryOp .LShift) (rI aa3 fun i j=>.int (i*2 ^ j.toNat)):=opI fun _ _ _ _ _ _ _ hc q=>lshift_int_small hc.1 hc.2.1 hc.2.2 q
theorem bp7:OpR X (binaryOp .BitAnd) (rI0 fun i j=>.int (Builtin.bitAnd i j)):=an5 fun _ _ _ _ _ _ _ q=>and_int q
theorem bz1:OpR X (binaryOp .BitOr) (rI0 fun i j=>.int (Builtin.bitOr i j)):=an5 fun _ _ _ _ _ _ _ q=>or_int q
theorem bf3:OpR X (inplaceOp .Add) (rI0 fun i j=>.int (i+j)):=an5 fun _ _ _ _ _ _ _ q=>iadd_int q
theorem bf2:OpR X (inplaceOp .Sub) (rI0 fun i j=>.int (i-j)):=an5 fun _ _ _ _ _ _ _ q=>isub_int q
theorem unI{f:Value->Sem Value}{g:Int->Int}(rule:∀(i:Int) (t:Tok) (s:Shared) (Q:Value->Shared->Prop) (E:Value->Shared->Prop),Q (.int (g i) s.toks) { s with toks:=s.toks+1 }->wpAny (model X.prog X.w) X.A (f (.int i t)) Q E s) :
  UnR X f (rU fun i=>.int (g i)):=by
 intro pins s σ H x v Q I rx h;obtain⟨i,rfl,q⟩:=h;obtain⟨t,rfl⟩:=rx;exact rule i t s _ _ ⟨.int (g i),H,I.tok _,⟨_,rfl⟩,q⟩
theorem bh3:UnR X (unaryOp .USub) (rU fun i=>.int (-i)):=unI fun _ _ _ _ _ q=>neg_int q
end
noncomputable def bl5:V->V->Bool
 |.non,.non=>true|.non,.int _=>true|.int _,.non=>true|.non,.bl _=>true|.bl _,.non=>true|.non,.str _=>true|.str _,.non=>true
 |.int _,.int _=>true|.bl _,.bl _=>true|.str _,.str _=>true|.byt _,.byt _=>true
 |.int _,.str _=>true|.str _,.int _=>true|.bl _,.str _=>true|.str _,.bl _=>true
 |_,_=>false
noncomputable def rEq:R2:=fun x y H Q=>bl5 x y=true/\Q (.bl (decide (x=y))) H
noncomputable def rNe:R2:=fun x y H Q=>bl5 x y=true/\Q (.bl (!decide (x=y))) H
theorem af3{i j:Int}:decide (V.int i=V.int j)=(i==j):=by
 rw[Bool.eq_iff_iff];simp
theorem al4{i j:Bool}:decide (V.bl i=V.bl j)=(i==j):=by
 rw[Bool.eq_iff_iff];simp
theorem af2{i j:Str}:decide (V.str i=V.str j)=(i==j):=by
 rw[Bool.eq_iff_iff];simp
theorem aH5{i j:Array UInt8}:decide (V.byt i=V.byt j)=(i.toList==j.toList):=by
 rw[Bool.eq_iff_iff];cases i;cases j;simp
section
variable{X:Cx}{a b c:Expr}{ta tb tc:TE}{pos:Pos}
theorem i9{pins:List (Addr×Obj)}{σ:St}{H:Hp}{s:Shared}{Q:VK}{k k':Bool}(I:Inv X pins σ H s)(q:Q (.bl k) H)(e:k=k'):EP X pins σ Q (.bool k') s:=by
 subst e;exact⟨.bl k,H,I,rfl,q⟩
theorem aK5:OpR X (compareOp .Eq) rEq:=by
 intro pins s σ H x y v u Q I rx ry h;obtain⟨hs,q⟩:=h;cases x with
 |non =>
  cases rx;cases y with
  |non=>cases ry;exact PySem.EqNone.eq_none_none (i9 I q (by simp))
  |bl j=>cases ry;exact PySem.EqNone.eq_none_bool (i9 I q (by simp))
  |int j=>obtain⟨t',rfl⟩:=ry;exact PySem.EqNone.eq_none_int (i9 I q (by simp))
  |str j=>obtain⟨t',rfl⟩:=ry;exact PySem.EqNone.eq_none_str (i9 I q (by simp))
  |_=>exact absurd (show false=true from hs) Bool.false_ne_true
 |bl i =>
  cases rx;cases y with
  |non=>cases ry;exact PySem.EqNone.eq_bool_none (i9 I q (by simp))
  |bl j=>cases ry;exact eq_bool (i9 I q al4)
  |str j=>obtain⟨t',rfl⟩:=ry;exact PySem.EqMixed.eq_bool_str (i9 I q (by simp))
  |_=>exact absurd (show false=true from hs) Bool.false_ne_true
 |int i =>
  obtain⟨t,rfl⟩:=rx;cases y with
  |non=>cases ry;exact PySem.EqNone.eq_int_none (i9 I q (by simp))
  |int j=>obtain⟨t',rfl⟩:=ry;exact eq_int (i9 I q af3)
  |str j=>obtain⟨t',rfl⟩:=ry;exact PySem.EqMixed.eq_int_str (i9 I q (by simp))
  |_=>exact absurd (show false=true from hs) Bool.false_ne_true
 |str i =>
  obtain⟨t,rfl⟩:=rx;cases y with
  |non=>cases ry;exact PySem.EqNone.eq_str_none (i9 I q (by simp))
  |bl j=>cases ry;exact PySem.EqMixed.eq_str_bool (i9 I q (by simp))
  |int j=>obtain⟨t',rfl⟩:=ry;exact PySem.EqMixed.eq_str_int (i9 I q (by simp))
  |str j=>obtain⟨t',rfl⟩:=ry;exact eq_str (i9 I q af2)
  |_=>exact absurd (show false=true from hs) Bool.false_ne_true
 |byt i =>
  obtain⟨t,rfl⟩:=rx;cases y with
  |byt j=>obtain⟨t',rfl⟩:=ry;exact PySem.W.eq_bytes (i9 I q aH5)
  |_=>exact absurd (show false=true from hs) Bool.false_ne_true
 |_=>cases y<;>exact absurd (show false=true from hs) Bool.false_ne_true
theorem aK4:OpR X (compareOp .NotEq) rNe:=by
 intro pins s σ H x y v u Q I rx ry h;obtain⟨hs,q⟩:=h;cases x with
 |non =>
  cases rx;cases y with
  |non=>cases ry;exact PySem.EqNone.ne_none_none (i9 I q (by simp))
  |bl j=>cases ry;exact PySem.EqNone.ne_none_bool (i9 I q (by simp))
  |int j=>obtain⟨t',rfl⟩:=ry;exact PySem.EqNone.ne_none_int (i9 I q (by simp))
  |str j=>obtain⟨t',rfl⟩:=ry;exact PySem.EqNone.ne_none_str (i9 I q (by simp))
  |_=>exact absurd (show false=true from hs) Bool.false_ne_true
 |bl i =>
  cases rx;cases y with
  |non=>cases ry;exact PySem.EqNone.ne_bool_none (i9 I q (by simp))
  |bl j=>cases ry;exact ne_bool (i9 I q (congrArg not al4))
  |str j=>obtain⟨t',rfl⟩:=ry;exact PySem.EqMixed.ne_bool_str (i9 I q (by simp))
  |_=>exact absurd (show false=true from hs) Bool.false_ne_true
 |int i =>
  obtain⟨t,rfl⟩:=rx;cases y with
  |non=>cases ry;exact PySem.EqNone.ne_int_none (i9 I q (by simp))
  |int j=>obtain⟨t',rfl⟩:=ry;exact ne_int (i9 I q (congrArg not af3))
  |str j=>obtain⟨t',rfl⟩:=ry;exact PySem.EqMixed.ne_int_str (i9 I q (by simp))
  |_=>exact absurd (show false=true from hs) Bool.false_ne_true
 |str i =>
  obtain⟨t,rfl⟩:=rx;cases y with
  |non=>cases ry;exact PySem.EqNone.ne_str_none (i9 I q (by simp))
  |bl j=>cases ry;exact PySem.EqMixed.ne_str_bool (i9 I q (by simp))
  |int j=>obtain⟨t',rfl⟩:=ry;exact PySem.EqMixed.ne_str_int (i9 I q (by simp))
  |str j=>obtain⟨t',rfl⟩:=ry;exact ne_str (i9 I q (congrArg not af2))
  |_=>exact absurd (show false=true from hs) Bool.false_ne_true
 |byt i =>
  obtain⟨t,rfl⟩:=rx;cases y with
  |byt j=>obtain⟨t',rfl⟩:=ry;exact PySem.W.ne_bytes (i9 I q (congrArg not aH5))
  |_=>exact absurd (show false=true from hs) Bool.false_ne_true
 |_=>cases y<;>exact absurd (show false=true from hs) Bool.false_ne_true
theorem bz2:OpR X (compareOp .Lt) (rI0 fun i j=>.bl (decide (i<j))):=aK7 fun _ _ _ _ _ _ _ q=>lt_int q
theorem bz3:OpR X (compareOp .LtE) (rI0 fun i j=>.bl (decide (i<=j))):=aK7 fun _ _ _ _ _ _ _ q=>le_int q
theorem bz4:OpR X (compareOp .Gt) (rI0 fun i j=>.bl (decide (j<i))):=aK7 fun _ _ _ _ _ _ _ q=>gt_int q
theorem bz5:OpR X (compareOp .GtE) (rI0 fun i j=>.bl (decide (j<=i))):=aK7 fun _ _ _ _ _ _ _ q=>ge_int q
theorem bp4:OpR X (compareOp .Is) (fun x y H Q=>y=.non/\Q (.bl (decide (x=.non))) H):=by
 intro pins s σ H x y v u Q I rx ry h;obtain⟨rfl,q⟩:=h;cases ry;refine is_none_gen (i9 I q ?_);cases x<;>first
  |(cases rx;rfl)
  |(obtain⟨t,rfl⟩:=rx;rfl)
theorem bd7:OpR X (compareOp .IsNot) (fun x y H Q=>y=.non/\Q (.bl (!decide (x=.non))) H):=by
 intro pins s σ H x y v u Q I rx ry h;obtain⟨rfl,q⟩:=h;cases ry;refine isnot_none_gen (i9 I q ?_);cases x<;>first
  |(cases rx;rfl)
  |(obtain⟨t,rfl⟩:=rx;rfl)
theorem aG0{op:CmpOp}{r:R2}(ho:OpR X (compareOp op) r)(ha:PE X a ta)(hb:PE X b tb)(hm:behindInMarks op b=false):PE X (.Compare a [op] [b] pos) (tOp r ta tb):=by
 intro pins s σ H Q I h;exact wpAny_Compare1 (a44 ha hb I h fun v u s2 x y H2 I2 rx ry q=>ho pins s2 σ H2 x y v u Q I2 rx ry q) hm
noncomputable def aJ0(t:TE):TT:=fun σ H Q=>t σ H fun x H'=>∃k,x=.bl k/\Q k H'
theorem aF6{op:CmpOp}{r:R2}(ho:OpR X (compareOp op) r)(ha:PE X a ta)(hb:PE X b tb)(hm:behindInMarks op b=false):PT X (.Compare a [op] [b] pos) (aJ0 (tOp r ta tb)):=by
 intro pins s σ H Q I h;refine wpAny_isTrue_Compare1 (thn (ha pins s σ H _ I h) fun v s1 ⟨x,H1,I1,r1,q1⟩=>thn (hb pins s1 σ H1 _ I1 q1) fun u s2 ⟨y,H2,I2,r2,q2⟩ =>
  thn (ho pins s2 σ H2 x y v u _ I2 r1 r2 q2) fun c s3 ⟨z,H3,I3,r3,k,e,q3⟩=>?_) hm
 subst e;cases r3;exact wpAny_truthy_bool ⟨H3,I3,q3⟩
noncomputable def ax0(r r':R2)(ta tb tc:TE):TE:=fun σ H Q=>ta σ H fun x H1=>tb σ H1 fun y H2=>r x y H2 fun z H3=>∃k,z=.bl k /\
 (if k=true then tc σ H3 fun w' H4=>r' y w' H4 Q else Q (.bl false) H3)
theorem a12{op op':CmpOp}{r r':R2}(ho:OpR X (compareOp op) r)(ho':OpR X (compareOp op') r')(ha:PE X a ta)(hb:PE X b tb)(hc:PE X c tc)(hm:lastMarks [op,op'] [b,c]=false:=by with_unfolding_all rfl):PE X (.Compare a [op,op'] [b,c] pos) (ax0 r r' ta tb tc):=by
 intro pins s σ H Q I h;refine Compare_chain (thn (ha pins s σ H _ I h) fun v s1 ⟨x,H1,I1,r1,q1⟩=>chain_link (thn (hb pins s1 σ H1 _ I1 q1) fun u s2 ⟨y,H2,I2,r2,q2⟩ =>
  thn (ho pins s2 σ H2 x y v u _ I2 r1 r2 q2) fun d s3 ⟨z,H3,I3,r3,k,e,q3⟩=>?_)) hm
 subst e;cases r3;refine wpAny_truthy_bool ?_;cases k with
 |false=>exact ite_ff ⟨.bl false,H3,I3,rfl,q3⟩
 |true=>exact ite_tt (chain_last (thn (hc pins s3 σ H3 _ I3 q3) fun w' s4 ⟨z',H4,I4,r4,q4⟩=>ho' pins s4 σ H4 y z' u w' Q I4 r2 r4 q4))
theorem aZ9{op op':CmpOp}{r r':R2}(ho:OpR X (compareOp op) r)(ho':OpR X (compareOp op') r')(ha:PE X a ta)(hb:PE X b tb)(hc:PE X c tc)(hm:lastMarks [op,op'] [b,c]=false:=by with_unfolding_all rfl):PT X (.Compare a [op,op'] [b,c] pos) (aJ0 (ax0 r r' ta tb tc)):=by
 intro pins s σ H Q I h;refine isTrue_chain (thn (ha pins s σ H _ I h) fun v s1 ⟨x,H1,I1,r1,q1⟩=>test_link (thn (hb pins s1 σ H1 _ I1 q1) fun u s2 ⟨y,H2,I2,r2,q2⟩ =>
  thn (ho pins s2 σ H2 x y v u _ I2 r1 r2 q2) fun d s3 ⟨z,H3,I3,r3,k,e,q3⟩=>?_)) hm
 subst e;cases r3;refine wpAny_truthy_bool ?_;cases k with
 |false =>
  obtain⟨k',e',q'⟩:=q3;cases e';exact ite_ff ⟨H3,I3,q'⟩
 |true =>
  refine ite_tt (test_last (thn (hc pins s3 σ H3 _ I3 q3) fun w' s4 ⟨z',H4,I4,r4,q4⟩=>thn (ho' pins s4 σ H4 y z' u w' _ I4 r2 r4 q4) fun d' s5 ⟨z2,H5,I5,r5,k2,e2,q5⟩=>?_));subst e2;cases r5;exact wpAny_truthy_bool ⟨H5,I5,q5⟩
noncomputable def a48(K:PySem.W.Frag)(x:V)(H:Hp)(k:Bool):Prop :=
 match x with
 |.non=>k=false
 |.bl b=>k=b
 |.int i=>k=(i != 0)
 |.str y=>y.length<=sizeLine/\k=((y.length:Int) != 0)
 |.byt y=>y.size<=sizeLine/\k=((y.size:Int) != 0)
 |.ref p=>(∃xs,SqL K H p xs/\k=!xs.isEmpty)\/(∃xs,SqT K H p xs/\k=!xs.isEmpty)\/∃kvs,H p=some (.dK kvs)/\k=!kvs.isEmpty
 |_=>False
theorem aM0{κ:Type}{kvs:List (κ×V)}{vs:List (κ×Value)}(r:KV kvs vs):(!vs.isEmpty)=!kvs.isEmpty:=by
 cases r<;>rfl
theorem ak9{xs:List V}{its:List Value}(r:Vals xs its):(!its.toArray.isEmpty)=!xs.isEmpty:=by
 cases r<;>simp
theorem P9:(sizeLine:Nat)<2 ^ 63:=by rw[sizeLine_eq];decide
theorem bh5:bL0 X (fun x H Q=>∃k,a48 X.K x H k/\Q k H):=by
 intro pins s σ H x v Q I rx h;obtain⟨k,e,q⟩:=h;have hl:=P9;have hs:sizeLine=16777216:=sizeLine_eq;cases x with
 |non =>
  cases rx;have e':k=false:=e;subst e';exact truthy_none ⟨H,I,q⟩
 |bl b =>
  cases rx;have e':k=b:=e;subst e';exact wpAny_truthy_bool ⟨H,I,q⟩
 |int i =>
  obtain⟨t,rfl⟩:=rx;have e':k=(i != 0):=e;subst e';exact PySem.P.truthy_int ⟨H,I,q⟩
 |str y =>
  obtain⟨t,rfl⟩:=rx;obtain⟨hy,e'⟩:y.length<=sizeLine/\k=((y.length:Int) != 0):=e;subst e';exact PySem.P.truthy_str (by omega) ⟨H,I.tok _,q⟩
 |byt y =>
  obtain⟨t,rfl⟩:=rx;obtain⟨hy,e'⟩:y.size<=sizeLine/\k=((y.size:Int) != 0):=e;subst e';exact PySem.W.truthy_bytes (by omega) ⟨H,I.tok _,q⟩
 |ref p =>
  cases rx;have e':(∃xs,SqL X.K H p xs/\k=!xs.isEmpty)\/(∃xs,SqT X.K H p xs/\k=!xs.isEmpty)\/∃kvs,H p=some (.dK kvs)/\k=!kvs.isEmpty:=e;rcases e' with⟨xs,hx,e'⟩|⟨xs,hx,e'⟩|⟨kvs,hx,e'⟩
  ·subst e';obtain⟨its,r,pl,hz⟩:=I.list hx;have hlen:=r.length;exact wpAny_truthy_list pl.isList (by simp only[List.size_toArray];omega) ⟨H,I.tok _,by rw[ak9 r];exact q⟩
  ·subst e';obtain⟨its,r,pl,hz⟩:=I.tuple hx;have hlen:=r.length;exact truthy_tuple pl (by simp only[List.size_toArray];omega) ⟨H,I.tok _,by rw[ak9 r];exact q⟩
  ·subst e';obtain⟨hz,hS,vs,r,m⟩:kvs.length<=sizeLine/\(p==sysModules)=false/\∃vs,KV kvs vs/\s.heap.DictOf (o8 X.prog X.w) p vs:=I.hok p _ hx;have hlen:kvs.length=vs.length:=Paired.length r;exact wpAny_truthy_dict hS m (by omega) ⟨H,I.tok _,by rw[aM0 r];exact q⟩
 |_=>exact(show False from e).elim
theorem aZ8(ha:PE X a ta)(he:∀whole,isTrue a X.env whole=(do let v <- whole;standAt a.pos;holding [v] (truthy v))) :
  PT X a (fun σ H Q=>ta σ H fun x H'=>∃k,a48 X.K x H' k/\Q k H'):=by
 intro pins s σ H Q I h;exact isTrue_plain (thn (ha pins s σ H _ I h) fun v s1 ⟨x,H1,I1,r1,q1⟩=>bh5 pins s1 σ H1 x v Q I1 r1 q1) (he _)
theorem aK6:OpR X (binaryOp .Add) (fun x y H Q=>∃i j,x=.str i/\y=.str j/\i.length+j.length<=sizeLine/\Q (.str (i++j)) H):=by
 intro pins s σ H x y v u Q I rx ry h;obtain⟨i,j,rfl,rfl,hz,q⟩:=h;obtain⟨t,rfl⟩:=rx;obtain⟨t',rfl⟩:=ry;exact add_str (fun t' tk=>⟨.str (i++j),H,I.tok _,⟨_,rfl⟩,q⟩) hz
theorem vals1{x:V}{us:List Value}(r:Vals [x] us):∃u,us=[u]/\RelV x u:=by
 cases r with
 |cons r1 r2=>cases r2;exact⟨_,rfl,r1⟩
theorem vals2{x y:V}{us:List Value}(r:Vals [x,y] us):∃u w',us=[u,w']/\RelV x u/\RelV y w':=by
 cases r with
 |cons r1 r2 =>
  cases r2 with
  |cons r3 r4=>cases r4;exact⟨_,_,rfl,r1,r3⟩
theorem aV8(hc:X.calm=true):l9 X (.builtin "max") (fun xs H Q=>∃i j,xs=[.int i,.int j]/\Q (.int (if j>i then j else i)) H):=by
 intro pins s σ H xs us Q I r h;obtain⟨i,j,rfl,q⟩:=h;obtain⟨u,w',rfl,⟨t,rfl⟩,⟨t',rfl⟩⟩:=vals2 r;refine max_two_ints (I.ok.hd hc) fun h' tk k=>⟨_,H,I.kept k,?_,q⟩
 by_cases hj:j>i
 ·rw[if_pos hj,if_pos hj];exact⟨_,rfl⟩
 ·rw[if_neg hj,if_neg hj];exact⟨_,rfl⟩
theorem aV6(hc:X.calm=true):l9 X (.builtin "min") (fun xs H Q=>∃i j,xs=[.int i,.int j]/\Q (.int (if j<i then j else i)) H):=by
 intro pins s σ H xs us Q I r h;obtain⟨i,j,rfl,q⟩:=h;obtain⟨u,w',rfl,⟨t,rfl⟩,⟨t',rfl⟩⟩:=vals2 r;refine min_two_ints (I.ok.hd hc) fun h' tk k=>⟨_,H,I.kept k,?_,q⟩
 by_cases hj:j<i
 ·rw[if_pos hj,if_pos hj];exact⟨_,rfl⟩
 ·rw[if_neg hj,if_neg hj];exact⟨_,rfl⟩
theorem as4:l9 X (.type "int") (fun xs H Q=>(∃i,xs=[.int i]/\Q (.int i) H)\/∃k,xs=[.bl k]/\Q (.int (if k then 1 else 0)) H):=by
 intro pins s σ H xs us Q I r h;rcases h with⟨i,rfl,q⟩|⟨k,rfl,q⟩
 ·obtain⟨u,rfl,t,rfl⟩:=vals1 r;exact call_int_int ⟨.int i,H,I,⟨_,rfl⟩,q⟩
 ·obtain⟨u,rfl,r1⟩:=vals1 r;cases r1;exact call_int_bool ⟨.int (if k then 1 else 0),H,I.tok _,⟨_,rfl⟩,q⟩
end
end L2
namespace L2
open PySem PySem.Spec PyProof.Rows
structure aq2(h:Heap)(x dx C:Addr)(mA:Str->Option Value):Prop where
 obj:h.get? x=some (PySem.W.instObj C dx)
 ns:h.Ns1 dx mA
 ne:dx≠x
theorem ar4{h:Heap}{dx:Addr}{mA:Str->Option Value}(n:h.Ns1 dx mA):∃od,h.get? dx=some od/\∀name,PySem.W.lookIn name od=some (mA name):=by
 obtain⟨o,es,ep,ho,hd,hk,_,hm⟩:=n;refine⟨o,ho,fun name=>?_⟩;have e:=hm name;unfold nsFind findBy at e;rw[<- Array.find?_toList] at e;unfold PySem.W.lookIn;rw[hd];dsimp only;split
 ·rename_i y q;rw[q] at e;exact congrArg some e
 ·rename_i q;rw[q] at e;have a:es.toList.any (·.refKey)=false:=by
   rw[List.any_eq_false];intro y hy;obtain⟨z,t,hkey⟩:=hk y (Array.mem_toList_iff.mp hy);simp[DictEntry.refKey,hkey]
  have a':¬es.toList.any (·.refKey)=true:=by rw[a];exact Bool.false_ne_true
  rw[if_neg a'];exact congrArg some e
theorem aq2.look{h:Heap}{x dx C:Addr}{mA:Str->Option Value}(I:aq2 h x dx C mA):∃od,PySem.W.InstAt h x (PySem.W.instObj C dx) C (some od)/\∀name,PySem.W.lookIn name od=some (mA name) :=
 let ⟨od,ho,hl⟩:=ar4 I.ns
 ⟨od,⟨I.obj,rfl,rfl,ho⟩,hl⟩
section
variable{prog:Program}{w:World}{A:Around}{E:Value->Shared->Prop}{s:Shared}{K:PySem.W.Frag}{x dx C f:Addr}{mA:Str->Option Value}{name:Str}{v:Value}
theorem get_map{expr:Bool}{Q:Value->Shared->Prop}(X:K.In s.heap)(I:aq2 s.heap x dx C mA)(hg:PySem.W.plainGet K C name=true)(hh:PySem.W.hasDictIn K C=true)(ha:PySem.W.findIn K (.ref C) name=some none)(hv:mA name=some v)(hv':PySem.W.handedIn v=true)(h:Q v { s with toks:=s.toks+1 }) :
  wpAny (model prog w) A (getAttr (.ref x) name expr) Q E s:=by
 obtain⟨od,J,hl⟩:=I.look;exact PySem.W.get_value X J (PySem.W.plainGet_of hg).1 (PySem.W.findObj_own hh ha rfl (by rw[hl,hv])) hv' h
theorem ba4{ns:List Str}{Q:Unit->Shared->Prop}(X:K.In s.heap)(I:aq2 s.heap x dx C mA)(hs:PySem.W.findIn K (.ref C) "__setattr__"=some (some (.builtin "object.__setattr__")))(hp:PySem.W.plainOver K C=true)(ht:PySem.W.takerIn K C name=some none)(hh:PySem.W.hasDictIn K C=true)(hw:PySem.Within mA ns)(hsz:ns.length<=sizeLine)(h:∀h',aq2 h' x dx C (fun y=>if y=name then some v else mA y)->Heap.SameBut dx s.heap h'->Q () { s with heap:=h',toks:=s.toks+2 }) :
  wpAny (model prog w) A (setAttr (.ref x) name v) Q E s:=by
 obtain⟨od,J,hl⟩:=I.look;refine PySem.W.set_plain X J hs (PySem.W.osa_open (s:={ s with toks:=s.toks+1 }) (r:=none) X J hp ht fun b=>?_);obtain⟨cd,hc,hd'⟩:=PySem.W.any_some hh;have hx:s.heap.get? x=some ⟨.ref C,some dx,.plain,#[]⟩:=I.obj;refine wpAny_bind (wpAny_pure (wpAny_bind (wpAny_bind (wpAny_loadPart hx (wpAny_bind (PySem.W.Looks.here (s:={ s with toks:=s.toks+1 }) (PySem.W.looks_clsIn X hc) ?_))))));rw[hd'];refine wpAny_pure (a:=some dx) (wpAny_bind (wpAny_pure (wpAny_bind ?_)));refine wpAny_nsSet1 (s:={ s with toks:=s.toks+1 }) I.ns fun h' hn2 hs2=>?_;obtain⟨oD,esD,epD,hoD,hdD,hcD⟩:=hn2.count (PySem.Within.cons name v hw);refine wpAny_bind (wpAny_lookBehind hoD (by rw[hdD];exact pastItsLine_dict (Nat.le_trans hcD (by rw[List.length_cons];omega))) ?_);exact wpAny_pure (h _ ⟨(hs2.2 _ (Ne.symm I.ne)).trans I.obj,hn2,I.ne⟩ hs2)
theorem a21{R:Result->Shared->Prop}{vs:List Value}{kw:List (Str×Value)}(X:K.In s.heap)(hm:PySem.W.makesIn K C=true)(hi:PySem.W.findIn K (.ref C) "__init__"=some (some (.ref f)))(hf:PySem.W.typeIn K (.ref f)=some (.type "function"))(h:codeAny (model prog w) (A.under (.builtin "type.__call__" ⟨.ref C :: vs,kw⟩)) (.call (.ref f) ⟨.ref (s.heap.objs.size + 1) :: vs,kw⟩) (PySem.W.InitBack (s.heap.objs.size + 1) R)
   { s with heap:=(s.heap.push PySem.W.emptyDict).push (PySem.W.instObj C s.heap.objs.size) }) :
  codeAny (model prog w) A (.call (.ref C) ⟨vs,kw⟩) R s:=by
 obtain⟨hh,g,d,t,os⟩:=s;exact PySem.W.make_core (PySem.W.makes_of X hm) (PySem.W.looks_findIn X hi) (fun self=>PySem.W.bind_fn X self hf) (.inl rfl) h
end
noncomputable def u4(f:Str)(v:V):List (Str×V)->List (Str×V)
 |[]=>[(f,v)]
 |(g,x)::r=>if g=f then(g,v)::r else(g,x)::u4 f v r
theorem ag4(f g:Str)(v:V):∀fs:List (Str×V),(u4 f v fs).lookup g=if g=f then some v else fs.lookup g
 |[]=>by
  show List.lookup g [(f,v)]=_;by_cases h:g=f
  ·have hb:(g==f)=true:=beq_iff_eq.mpr h;simp only[List.lookup,hb,if_pos h]
  ·have hb:(g==f)=false:=beq_eq_false_iff_ne.mpr h;simp only[List.lookup,hb,if_neg h]
 |(k,x)::r=>by
  have ih:=ag4 f g v r;rw[show u4 f v ((k,x)::r)=(if k=f then(k,v)::r else(k,x)::u4 f v r) from rfl];by_cases hk:k=f
  ·rw[if_pos hk];by_cases h:g=k
   ·have hb:(g==k)=true:=beq_iff_eq.mpr h;simp only[List.lookup,hb,if_pos (h.trans hk)]
   ·have hb:(g==k)=false:=beq_eq_false_iff_ne.mpr h;simp only[List.lookup,hb,if_neg (fun e:g=f=>h (e.trans hk.symm))]
  ·rw[if_neg hk];by_cases h:g=k
   ·have hb:(g==k)=true:=beq_iff_eq.mpr h;simp only[List.lookup,hb,if_neg (fun e:g=f=>hk (h.symm.trans e))]
   ·have hb:(g==k)=false:=beq_eq_false_iff_ne.mpr h;simp only[List.lookup,hb];exact ih
theorem ac4(f:Str)(v:V):∀fs:List (Str×V),f∈(u4 f v fs).map (·.1)/\∀g,g∈fs.map (·.1)->g∈(u4 f v fs).map (·.1)
 |[]=>⟨by simp[u4],fun g h=>by simp at h⟩
 |(k,x)::r=>by
  obtain⟨i1,i2⟩:=ac4 f v r;rw[show u4 f v ((k,x)::r)=(if k=f then(k,v)::r else(k,x)::u4 f v r) from rfl];by_cases hk:k=f
  ·rw[if_pos hk];subst hk;exact⟨by simp,fun g h=>by simpa using h⟩
  ·rw[if_neg hk];refine⟨?_,fun g h=>?_⟩
   ·rw[List.map_cons];exact List.mem_cons_of_mem _ i1
   ·rw[List.map_cons] at h ⊢;rcases List.mem_cons.mp h with e|e
    ·exact List.mem_cons.mpr (.inl e)
    ·exact List.mem_cons_of_mem _ (i2 g e)
theorem ag5(f:Str)(v:V):∀fs:List (Str×V),(u4 f v fs).length<=fs.length+1
 |[]=>by simp[u4]
 |(k,x)::r=>by
  have ih:=ag5 f v r;rw[show u4 f v ((k,x)::r)=(if k=f then(k,v)::r else(k,x)::u4 f v r) from rfl];by_cases hk:k=f
  ·rw[if_pos hk,List.length_cons,List.length_cons];omega
  ·rw[if_neg hk,List.length_cons,List.length_cons];omega
theorem E5.some_of{v:V}{o:Option Value}(r:E5 (some v) o):∃u,o=some u/\RelV v u:=by
 cases o with
 |none=>exact(show False from r).elim
 |some u=>exact⟨u,rfl,r⟩
theorem aU1{v:V}{u:Value}(r:RelV v u):PySem.W.handedIn u=true:=by
 cases v with
 |non=>cases (show u=Value.none from r);rfl
 |bl b=>cases (show u=Value.bool b from r);rfl
 |int i=>obtain⟨t,e⟩:=(show ∃t,u=Value.int i t from r);cases e;rfl
 |str x=>obtain⟨t,e⟩:=(show ∃t,u=Value.str x t from r);cases e;rfl
 |byt b=>obtain⟨t,e⟩:=(show ∃t,u=Value.bytes b t from r);cases e;rfl
 |flt b=>obtain⟨t,e⟩:=(show ∃t,u=Value.float b t from r);cases e;rfl
 |ref a=>cases (show u=Value.ref a from r);rfl
 |ty n=>cases (show u=Value.type n from r);rfl
section
variable{P:Program}{w:World}{H H':Hp}{h h':Heap}{a C dx:Addr}{fs fs':List (Str×V)}
theorem ao5(hok:HOk P w H h)(e:H a=some (.ins C dx fs)):∃mA,aq2 h a dx C mA/\(∀f,E5 (fs.lookup f) (mA f))/\PySem.Within mA (fs.map (·.1))/\fs.length<=1000/\H dx=some (.own a):=by
 obtain⟨d,z,ne,ob,mA,n,r,q⟩:=(show l6 P w H h a (.ins C dx fs) from hok a _ e)
 exact⟨mA,⟨ob,n,ne⟩,r,q,z,d⟩
end
structure Cls(K:PySem.W.Frag)(C:Addr):Prop where
 pg:PySem.W.plainGet K C Str.empty=true
 hd:PySem.W.hasDictIn K C=true
 po:PySem.W.plainOver K C=true
 sa:PySem.W.findIn K (.ref C) "__setattr__"=some (some (.builtin "object.__setattr__"))
theorem Cls.get{K:PySem.W.Frag}{C:Addr}(c:Cls K C)(f:Str):PySem.W.plainGet K C f=true:=c.pg
noncomputable def w5(K:PySem.W.Frag)(C:Addr)(f:Str):Prop:=PySem.W.findIn K (.ref C) f=some none
theorem w5.bv5{K:PySem.W.Frag}{C:Addr}{f:Str}(n:w5 K C f):PySem.W.takerIn K C f=some none:=by
 unfold PySem.W.takerIn;rw[show PySem.W.findIn K (.ref C) f=some none from n]
 rfl
structure Meth(K:PySem.W.Frag)(C:Addr)(m:Str)(f:Addr):Prop where
 at_:PySem.W.findIn K (.ref C) m=some (some (.ref f))
 fn:PySem.W.isFn K (.ref f)=true
 kp:PySem.W.keepIn K (.ref f)=true
section
variable{X:Cx}{pins:List (Addr×Obj)}{σ:St}{H:Hp}{s:Shared}{a C dx:Addr}{fs:List (Str×V)}{f:Str}{v:V}{A:Around}{E:Value->Shared->Prop}
theorem al1{b:Bool}{Q:Value->Shared->Prop}(I:Inv X pins σ H s)(e:H a=some (.ins C dx fs))(c:Cls X.K C)(n:w5 X.K C f)(l:fs.lookup f=some v)(h:∀u s',Inv X pins σ H s'->RelV v u->Q u s'):wpAny (model X.prog X.w) A (getAttr (.ref a) f b) Q E s:=by
 obtain⟨mA,O,r,_,_,_⟩:=ao5 I.hok e;obtain⟨u,hu,ru⟩:=E5.some_of (v:=v) (o:=mA f) (by rw[<- l];exact r f);exact get_map I.kIn O (c.get f) c.hd n hu (aU1 ru) (h u _ (I.tok _) ru)
theorem aj6{y:V}{u:Value}{Q:Unit->Shared->Prop}(I:Inv X pins σ H s)(e:H a=some (.ins C dx fs))(c:Cls X.K C)(n:w5 X.K C f)(hl:fs.length<1000)(ry:RelV y u)(h:∀s',Inv X pins σ (upd H a (.ins C dx (u4 f y fs))) s'->Q () s'):wpAny (model X.prog X.w) A (setAttr (.ref a) f u) Q E s:=by
 obtain⟨mA,O,r,wi,_,ho⟩:=ao5 I.hok e;have hz:(fs.map (·.1)).length<=sizeLine:=by rw[List.length_map,sizeLine_eq];omega
 refine ba4 I.kIn O c.sa c.po n.bv5 c.hd wi hz fun h' O' sb=>h _ ?_;have hd:∃o,h'.get? dx=some o:=let ⟨o,_,_,e',_⟩:=O'.ns;⟨o,e'⟩
 refine I.write (x:=a) (e:=dx) (by rw[e];exact True.intro) (.inr ho) (fun b q hb z=>(sb.2 b hb).trans z) hd ?_;refine⟨by rw[f7 O.ne];exact ho,?_,O.ne,O'.obj,_,O'.ns,fun g=>?_,fun g hg=>?_⟩
 ·have:=ag5 f y fs;omega
 ·show E5 ((u4 f y fs).lookup g) (if g=f then some u else mA g);rw[ag4];by_cases q:g=f
  ·rw[if_pos q,if_pos q];exact ry
  ·rw[if_neg q,if_neg q];exact r g
 ·by_cases q:g=f
  ·rw[q];exact(ac4 f y fs).1
  ·refine(ac4 f y fs).2 g (wi g fun z=>hg ?_);show(if g=f then some u else mA g)=none;rw[if_neg q];exact z
theorem Inv.made(I:Inv X pins σ H s):Inv X pins σ (upd (upd H s.heap.objs.size (.own (s.heap.objs.size+1))) (s.heap.objs.size+1) (.ins C s.heap.objs.size []))
  { s with heap:=(s.heap.push PySem.W.emptyDict).push (PySem.W.instObj C s.heap.objs.size) }:=by
 have e1:(s.heap.push PySem.W.emptyDict).get? s.heap.objs.size=some PySem.W.emptyDict:=Heap.get?_push_size s.heap rfl;have e2:((s.heap.push PySem.W.emptyDict).push (PySem.W.instObj C s.heap.objs.size)).get? (s.heap.objs.size+1)=some (PySem.W.instObj C s.heap.objs.size):=by
  have:=Heap.get?_push_size (s.heap.push PySem.W.emptyDict) (o:=PySem.W.instObj C s.heap.objs.size) rfl
  rwa [Heap.size_push] at this
 have e3:(s.heap.push PySem.W.emptyDict).Ns s.heap.objs.size (fun _=>none):=⟨PySem.W.emptyDict,#[],_,e1,rfl,(fun e he=>absurd he (by simp)),fun _=>rfl⟩
 have I1:=I.laid (a:=s.heap.objs.size) (o:=.own (s.heap.objs.size+1)) (h':=s.heap.push PySem.W.emptyDict) (t':=s.toks) (fun b u q=>Heap.get?_push_of_some _ q) (Nat.le_refl _) ⟨_,e1⟩;refine I1.laid (a:=s.heap.objs.size+1) (o:=.ins C s.heap.objs.size []) (t':=s.toks) (fun b u q=>Heap.get?_push_of_some _ q) (Nat.le_of_eq (Heap.size_push _ _)) ?_;have ne:s.heap.objs.size≠s.heap.objs.size+1:=Nat.ne_of_lt (Nat.lt_succ_self _);refine⟨by rw[f7 ne,o6],Nat.zero_le _,ne,e2,fun _=>none,(Heap.Ns1.of_empty e3).at fun o q=>Heap.get?_push_of_some _ q,fun _=>True.intro,fun y hy=>absurd rfl hy⟩
theorem bg3{prog:Program}{w:World}{env:Env}{e:Expr}{f:Str}{pos:Pos}{s:Shared}{Q:Value->Shared->Prop}(hb:attributeBase e f env (eval e env)=eval e env)(h:wpAny (model prog w) A (eval e env) (fun o s₁=>wpAny (model prog w) A (getAttr o f true) Q E s₁) E s):wpAny (model prog w) A (eval (.Attribute e f pos) env) Q E s :=
 Attribute_any_ h (by rw[arm_eval_Attribute,hb])
end
noncomputable def bF4(K:PySem.W.Frag)(ta:TE)(f:Str):TE:=fun σ H Q=>ta σ H fun x H1=>∃a C dx fs v,x=.ref a/\H1 a=some (.ins C dx fs)/\Cls K C/\w5 K C f/\fs.lookup f=some v/\Q v H1
noncomputable def bG4(K:PySem.W.Frag)(ta tv:TE)(f:Str):TS:=fun D σ H=>tv σ H fun y H1=>ta σ H1 fun x H2=>∃a C dx fs,x=.ref a/\H2 a=some (.ins C dx fs)/\Cls K C/\w5 K C f/\fs.length<1000 /\
 D.nx σ (upd H2 a (.ins C dx (u4 f y fs)))
noncomputable def a51(X:Cx)(op:Operator)(rd:V->V->Hp->VK->Prop):Prop :=
 ∀(pins:List (Addr×Obj)) (s:Shared) (σ:St) (H:Hp) (x y:V) (u v:Value) (Q:VK),Inv X pins σ H s->RelV x u->RelV y v->rd x y H Q->wpAny (model X.prog X.w) X.A (inplaceOp op u v) (EP X pins σ Q) X.xe s
noncomputable def bb5(K:PySem.W.Frag)(ta tv:TE)(rd:V->V->Hp->VK->Prop)(f:Str):TS:=fun D σ H=>ta σ H fun x H1=>∃a C dx fs v,x=.ref a/\H1 a=some (.ins C dx fs)/\Cls K C/\w5 K C f/\fs.lookup f=some v /\
 tv σ H1 fun y H2=>rd v y H2 fun z H3=>∃dx' fs',H3 a=some (.ins C dx' fs')/\fs'.length<1000/\D.nx σ (upd H3 a (.ins C dx' (u4 f z fs')))
section
variable{X:Cx}{o e value:Expr}{f:Str}{pos pos' tpos:Pos}{ta tv:TE}
theorem bo2(he:PE X e ta)(hb:attributeBase e f X.env (eval e X.env)=eval e X.env):PE X (.Attribute e f pos) (bF4 X.K ta f):=by
 intro pins s σ H Q I h;refine bg3 hb (thn (he pins s σ H _ I h) fun u s1 ⟨x,H1,I1,rx,a,C,dx,fs,v,ex,ea,c,n,l,q⟩=>?_);subst ex;obtain rfl:u=Value.ref a:=rx;exact al1 I1 ea c n l fun u' s2 I2 ru=>⟨v,H1,I2,ru,q⟩
theorem bm9(ha:PE X o ta)(hv:PE X value tv)(hs:swapsWith value (some (.Attribute o f pos')) pos.line X.env=pure false):PS X (.Assign [.Attribute o f pos'] value pos) (bG4 X.K ta tv f):=by
 intro pins s σ H D I h;refine plainObj_wpAny_Assign_Attribute (thn (hv pins s σ H _ I h) fun u s1 ⟨y,H1,I1,ry,q⟩=>thn (ha pins s1 σ H1 _ I1 q) fun ov s2 ⟨x,H2,I2,rx,a,C,dx,fs,ex,ea,c,n,l,q2⟩=>?_) hs;subst ex;obtain rfl:ov=Value.ref a:=rx;exact aj6 I2 ea c n l ry fun s3 I3=>⟨σ,_,I3,q2⟩
theorem aQ8{op:Operator}{rd:V->V->Hp->VK->Prop}(ha:PE X o ta)(hv:PE X value tv)(hop:a51 X op rd):PS X (.AugAssign (.Attribute o f tpos) op value pos) (bb5 X.K ta tv rd f):=by
 intro pins s σ H D I h;refine wpAny_AugAssign_AttributeAny (thn (ha pins s σ H _ I h) fun ov s1 ⟨x,H1,I1,rx,a,C,dx,fs,v,ex,ea,c,n,l,q⟩=>?_);subst ex;obtain rfl:ov=Value.ref a:=rx;refine al1 I1 ea c n l fun u s2 I2 ru=>thn (hv pins s2 σ H1 _ I2 q) fun w3 s3 ⟨y,H2,I3,ry,q3⟩=>thn (hop pins s3 σ H2 v y u w3 _ I3 ru ry q3) fun w4 s4 ⟨z,H3,I4,rz,dx',fs',ea',l',q4⟩=>?_;exact aj6 I4 ea' c n l' rz fun s5 I5=>⟨σ,_,I5,q4⟩
noncomputable def bH4:V->V->Hp->VK->Prop:=fun x y H Q=>∃i j,x=.int i/\y=.int j/\Q (.int (i+j)) H
theorem bs4:a51 X .Add bH4:=by
 rintro pins s σ H x y u v Q I rx ry ⟨i,j,rfl,rfl,q⟩;obtain⟨t,rfl⟩:=(show ∃t,u=Value.int i t from rx)
 obtain⟨t',rfl⟩:=(show ∃t',v=Value.int j t' from ry)
 exact PyProof.Rows.iadd_int ⟨.int (i+j),H,I.tok _,⟨_,rfl⟩,q⟩
end
section
variable{X:Cx}{pins:List (Addr×Obj)}{σ:St}{H:Hp}{s:Shared}{A:Around}{E:Value->Shared->Prop}{Q:Value->Shared->Prop}{c:Value}{b:Bool}
inductive TyOf(K:PySem.W.Frag)(H:Hp):V->Value->Prop where
 |non:TyOf K H .non (.type "NoneType")
 |bl (x:Bool):TyOf K H (.bl x) (.type "bool")
 |int (i:Int):TyOf K H (.int i) (.type "int")
 |str (x:Str):TyOf K H (.str x) (.type "str")
 |flt (x:UInt64):TyOf K H (.flt x) (.type "float")
 |lst {a:Addr} {xs:List V} (e:H a=some (.lst xs)):TyOf K H (.ref a) (.type "list")
 |frz {a:Addr} {o:Obj} {xs:List V} (e:H a=some (.frz o (.lst xs))):TyOf K H (.ref a) (.type "list")
 |tup {a:Addr} {xs:List V} (e:H a=some (.tup xs)):TyOf K H (.ref a) (.type "tuple")
 |dK {a:Addr} {kvs:List (Key×V)} (e:H a=some (.dK kvs)):TyOf K H (.ref a) (.type "dict")
 |dT {a:Addr} {kvs:List (List Key×V)} (e:H a=some (.dT kvs)):TyOf K H (.ref a) (.type "dict")
 |ins {a C dx:Addr} {fs:List (Str×V)} (e:H a=some (.ins C dx fs)) (cl:Cls K C) (ha:PySem.W.findIn K (.ref C) "__class__"=some (some (.builtin "object.__class__")))
   (hn:PySem.W.specialIn K (.builtin "object.__class__") "__get__"=some (some (.builtin "getset_descriptor.__get__"))) (htk:PySem.W.takesIn K (.builtin "object.__class__")=some true)
   (hm:PySem.W.mroIn K C (.type "object")=some true):TyOf K H (.ref a) (.ref C)
theorem aT7{x:V}{u t:Value}(I:Inv X pins σ H s)(rx:RelV x u)(ty:TyOf X.K H x t)(e:PySem.W.kitOne X.K t c=some b)(h:∀tk,Q (.bool b) { s with toks:=tk }) :
  wpAny (model X.prog X.w) A (call (.builtin "isinstance") [u,c]) Q E s:=by
 cases ty with
 |non=>cases (show u=Value.none from rx);exact PySem.W.kia_one PySem.W.kitx_none I.kIn True.intro e (fun z=>nomatch z) h
 |bl y=>cases (show u=Value.bool y from rx);exact PySem.W.kia_one PySem.W.kitx_bool I.kIn True.intro e (fun z=>nomatch z) h
 |int i=>obtain⟨t,q⟩:=(show ∃t,u=Value.int i t from rx);cases q;exact PySem.W.kia_one PySem.W.kitx_int I.kIn True.intro e (fun z=>nomatch z) h
 |str y=>obtain⟨t,q⟩:=(show ∃t,u=Value.str y t from rx);cases q;exact PySem.W.kia_one PySem.W.kitx_str I.kIn True.intro e (fun z=>nomatch z) h
 |flt y=>obtain⟨t,q⟩:=(show ∃t,u=Value.float y t from rx);cases q;exact PySem.W.kia_one PySem.W.kitx_float I.kIn True.intro e (fun z=>nomatch z) h
 |@lst a xs ea =>
  cases (show u=Value.ref a from rx);obtain⟨_,_,n,_,h1⟩:=(show l6 X.prog X.w H s.heap a (.lst xs) from I.hok a _ ea)
  exact PySem.W.kia_one PySem.W.kitx_list I.kIn ⟨_,h1,rfl⟩ e (fun z=>nomatch z) h
 |@frz a ob xs ea =>
  cases (show u=Value.ref a from rx);obtain⟨_,_,_,n,_,h1⟩:=(show l6 X.prog X.w H s.heap a (.frz ob (.lst xs)) from I.hok a _ ea)
  exact PySem.W.kia_one PySem.W.kitx_list I.kIn ⟨_,h1,rfl⟩ e (fun z=>nomatch z) h
 |@tup a xs ea =>
  cases (show u=Value.ref a from rx);obtain⟨_,_,_,p⟩:=(show l6 X.prog X.w H s.heap a (.tup xs) from I.hok a _ ea)
  obtain⟨o,h1,h2,_⟩:=p;exact PySem.W.kia_one PySem.W.kitx_tuple I.kIn ⟨o,h1,h2⟩ e (fun z=>nomatch z) h
 |@dK a kvs ea =>
  cases (show u=Value.ref a from rx);obtain⟨_,_,vs,_,p⟩:=(show l6 X.prog X.w H s.heap a (.dK kvs) from I.hok a _ ea)
  obtain⟨o,es,ep,h1,h2,_⟩:=p;exact PySem.W.kia_one PySem.W.kitx_dict I.kIn ⟨o,h1,h2.1⟩ e (fun z=>nomatch z) h
 |@dT a kvs ea =>
  cases (show u=Value.ref a from rx);obtain⟨_,_,xs,_,o,es,ep,h1,h2,_⟩:=(show l6 X.prog X.w H s.heap a (.dT kvs) from I.hok a _ ea)
  exact PySem.W.kia_one PySem.W.kitx_dict I.kIn ⟨o,h1,h2.1⟩ e (fun z=>nomatch z) h
 |@ins a C dx fs ea cl ha hn htk hm =>
  cases (show u=Value.ref a from rx);obtain⟨mA,O,_⟩:=ao5 I.hok ea;obtain⟨od,J,_⟩:=O.look;exact PySem.W.kia_one (PySem.W.kitx_own (cl.get _) cl.hd ha hn htk hm) I.kIn J e (fun z=>nomatch z) h
end
end L2
namespace L2
open PySem PySem.Spec PyProof.Rows
structure u9(k:Nat)(A:Around):Prop where
 hd:A.handled=none
 dp:A.depth+3*k+5<recursionLimit
 un:A.units+16*k+200<cLine
theorem u9.mono{j k:Nat}{A:Around}(r:u9 k A)(h:j<=k):u9 j A:=⟨r.hd,by have:=r.dp;omega,by have:=r.un;omega⟩
theorem u9.deeper{k:Nat}{A:Around}(r:u9 (k+1) A)(env:Env):u9 k (A.deeper env) :=
 ⟨r.hd,by have:=r.dp;show A.depth+1+3*k+5<_;omega,by have:=r.un;show A.units+3+16*k+200<_;omega⟩
theorem aL4{A:Around}{C:Addr}{us:List Value}{kw:List (Str×Value)}:(A.under (.builtin "type.__call__" ⟨.ref C::us,kw⟩)).depth=A.depth+1:=by
 first|rfl|simp[Around.under,Code.weight,Code.isCreation,Code.isGuard,Code.isCaller,Code.frames,Code.isFrame,guardIds]
theorem aL3{A:Around}{C:Addr}{us:List Value}{kw:List (Str×Value)}:(A.under (.builtin "type.__call__" ⟨.ref C::us,kw⟩)).units=A.units+1:=by
 first|rfl|simp[Around.under,Code.cUnits,Code.frames,Code.isFrame]
theorem u9.make{k:Nat}{A:Around}(r:u9 (k+1) A)(C:Addr)(us:List Value)(kw:List (Str×Value)):u9 k (A.under (.builtin "type.__call__" ⟨.ref C::us,kw⟩)) :=
 ⟨r.hd,by have:=r.dp;rw[aL4];omega,by have:=r.un;rw[aL3];omega⟩
theorem u9.depth{k:Nat}{A:Around}(r:u9 k A):A.depth<recursionLimit:=by have:=r.dp;omega
noncomputable def bi4:TA:=fun _ H Q=>Q [] H
noncomputable def bw3(ta:TE)(tr:TA):TA:=fun σ H Q=>ta σ H fun x H1=>tr σ H1 fun xs H2=>Q (x::xs) H2
section
variable{X:Cx}{e:Expr}{es:List Expr}{te:TE}{t:TA}{pos:Pos}
theorem U7:PA X [] bi4:=fun _ _ _ _ H Q I h=>Calls.spliced_nil ⟨[],H,I,.nil,h⟩
theorem O5(ha:PE X e te)(hr:PA X es t)(hs:starEach (e::es) X.env=(false,eval e X.env)::starEach es X.env:=by rfl):PA X (e::es) (bw3 te t):=by
 intro pos pins s σ H Q I h;rw[hs];show wpAny _ _ (spliced ((false,eval e X.env)::backTo pos (starEach es X.env))) _ _ s;refine Calls.spliced_cons (thn (ha pins s σ H _ I h) fun u s1 ⟨x,H1,I1,r1,q1⟩=>?_);exact thn (hr pos pins s1 σ H1 _ I1 q1) fun us s2 ⟨xs,H2,I2,r2,q2⟩=>⟨x::xs,H2,I2,.cons r1 r2,q2⟩
noncomputable def bE5(t:TA):TE:=fun σ H Q=>t σ H fun xs H1=>xs.length<=sizeLine/\∀p,H1 p=none->Q (.ref p) (upd H1 p (.tup xs))
noncomputable def bF1(t:TA):TE:=fun σ H Q=>t σ H fun xs H1=>xs.length<=sizeLine/\∀p,H1 p=none->Q (.ref p) (upd H1 p (.lst xs))
theorem bn6{x1}(h:PA X es t):PE X (.Tuple es x1 pos) (bE5 t):=by
 intro pins s σ H Q I hq;refine wpAny_Tuple_spliced (thn (h pos pins s σ H _ I hq) fun us s1 ⟨xs,H1,I1,r,z,q⟩=>⟨by rw[<- r.length];exact z,?_⟩);have hf:H1 s1.heap.objs.size=none:=I1.hok.fresh (Nat.le_refl _);refine⟨.ref s1.heap.objs.size,upd H1 s1.heap.objs.size (.tup xs),I1.laid (t':=s1.toks) (fun b u e=>Heap.get?_push_of_some _ e) (Nat.le_refl _) ?_,rfl,q _ hf⟩;exact⟨z,us,r,⟨_,Heap.get?_push_size _ rfl,rfl,⟨_,rfl⟩,rfl⟩⟩
theorem bo0(h:PA X es t):PE X (.List es pos) (bF1 t):=by
 intro pins s σ H Q I hq;refine wpAny_List_spliced (thn (h pos pins s σ H _ I hq) fun us s1 ⟨xs,H1,I1,r,z,q⟩=>⟨by rw[<- r.length];exact z,?_⟩);have hf:H1 s1.heap.objs.size=none:=I1.hok.fresh (Nat.le_refl _);refine⟨.ref s1.heap.objs.size,upd H1 s1.heap.objs.size (.lst xs),I1.laid (t':=s1.toks) (fun b u e=>Heap.get?_push_of_some _ e) (Nat.le_refl _) ?_,rfl,q _ hf⟩;exact⟨z,us,0,r,Heap.get?_push_size _ rfl⟩
end
noncomputable abbrev Sp:=List V->Hp->VK->XK->Prop
noncomputable abbrev CXT:=List Env->Hp->Shared->XK->Value->Shared->Prop
structure ai8(P:Program)(w:World)(K:PySem.W.Frag)(mg:Str->Option Value)(base:Heap)(A:Around)(outer:List Env)(s:Shared)(H:Hp):Prop where
 frames:A.frames=some outer
 mod:Mod K mg base
 bs:∀b o,base.get? b=some o->s.heap.get? b=some o/\H b=none
 bsz:base.objs.size<=s.heap.objs.size
 F9:s.heap.FunFrames base outer
 frf:∀b∈frs outer,H b=none
 hok:HOk P w H s.heap
 bare:AllBare s.gens
noncomputable def CE(outer:List Env)(P:Program)(w:World)(H:Hp)(s:Shared)(Q:VK)(u:Value)(s':Shared):Prop :=
 ∃v H',s'.os=s.os/\AllBare s'.gens/\Un (frs outer) [] H H' s.heap s'.heap/\HOk P w H' s'.heap/\RelV v u/\Q v H'
noncomputable def CR(CX:CXT)(outer:List Env)(P:Program)(w:World)(H:Hp)(s:Shared)(Q:VK)(E:XK)(r:Result)(s':Shared):Prop :=
 match r with
 |.ok (.ret u)=>CE outer P w H s Q u s'
 |.ok _=>False
 |.error e=>CX outer H s E e s'
structure FnOk(P:Program)(w:World)(K:PySem.W.Frag)(mg:Str->Option Value)(base:Heap)(CX:CXT)(k:Nat)(f:Addr)(fd:FuncData)(ps:List Str)(sp:Sp):Prop where
 len:∀vs H Q E,sp vs H Q E->vs.length=ps.length
 run:∀(A:Around) (outer:List Env) (s:Shared) (H:Hp) (args:Args) (us:List Value) (vs:List V) (Q:VK) (E:XK),u9 k A->ai8 P w K mg base A outer s H->BindsTo s fd args (ps.zip us)->Vals vs us->sp vs H Q E ->
  codeAny (model P w) A (.call (.ref f) args) (CR CX outer P w H s Q E) s
theorem ai8.make{P:Program}{w:World}{K:PySem.W.Frag}{mg:Str->Option Value}{base:Heap}{A:Around}{outer:List Env}{s:Shared}{H:Hp}(e:ai8 P w K mg base A outer s H)(C:Addr)(us:List Value)(kw:List (Str×Value)) :
  ai8 P w K mg base (A.under (.builtin "type.__call__" ⟨.ref C::us,kw⟩)) outer s H:=⟨by first|exact e.frames|(simpa[Around.under,Code.envs,Code.isFrame,pushEnvs] using e.frames),e.mod,e.bs,e.bsz,e.F9,e.frf,e.hok,e.bare⟩
section
variable{X:Cx}{pins:List (Addr×Obj)}{σ:St}{H:Hp}{s s':Shared}
theorem Inv.bt0(I:Inv X pins σ H s):ai8 X.prog X.w X.K X.mg X.base X.A X.stack s H :=
 ⟨I.ok.frames,I.ok.mod,I.bs,Nat.le_trans I.ok.bsz I.sz,I.stack,I.ad8,I.hok,I.bare⟩
theorem Inv.after{Q:VK}{u:Value}(I:Inv X pins σ H s)(h:CE X.stack X.prog X.w H s Q u s'):EP X pins σ Q u s':=by
 obtain⟨v,H',os,bare,un,hok,r,q⟩:=h;obtain⟨hh,g,d,t,os'⟩:=s';obtain rfl:os'=s.os:=os;exact⟨v,H',I.call (h':=hh) (g':=g) (d':=d) (t':=t) (ch:=[]) un hok bare (fun b z=>absurd z (by simp)),r,q⟩
end
noncomputable def bw4(sp:Sp)(dvs:List V)(E:XK)(t:TA):TE:=fun σ H Q=>t σ H fun vs H1=>sp (vs++dvs) H1 Q E
noncomputable def a54(C:Addr)(sp:Sp)(dvs:List V)(E:XK)(t:TA):TE:=fun σ H Q=>t σ H fun vs H1=>∀x dx,H1 x=none->H1 dx=none->dx≠x ->
 sp (.ref x::(vs++dvs)) (upd (upd H1 dx (.own x)) x (.ins C dx [])) (fun v H2=>v=.non/\Q (.ref x) H2) E
noncomputable def Binds(K:PySem.W.Frag)(fd:FuncData)(ps:List Str)(ds:List Value):Prop :=
 ∀(s:Shared) (us:List Value),K.In s.heap->(us++ds).length=ps.length->BindsTo s fd ⟨us,[]⟩ (ps.zip (us++ds))
theorem Binds.all{K:PySem.W.Frag}{fd:FuncData}{ps:List Str}(h:∀us:List Value,us.length=ps.length->bindArgs fd ⟨us,[]⟩=pure (ps.zip us)):Binds K fd ps []:=fun s us _ hl=>by
 rw[List.append_nil] at hl ⊢;exact .of_eq (h us hl)
noncomputable def Passes(CX:CXT)(X:Cx)(E:XK):Prop:=∀(pins:List (Addr×Obj)) (σ:St) (H:Hp) (s:Shared) (e:Value) (s':Shared),Inv X pins σ H s->CX X.stack H s E e s'->X.xe e s'
section
variable{X:Cx}{CX:CXT}{k:Nat}{f C:Addr}{fd:FuncData}{ps:List Str}{sp:Sp}{dvs:List V}{ds:List Value}{E:XK}{x m:Str}{p pos apos:Pos}{e o:Expr}{es:List Expr}{ta:TE}{t:TA}
theorem bl8{pins:List (Addr×Obj)}{σ:St}{H:Hp}{s:Shared}{Q:VK}{us:List Value}{vs:List V}(F:FnOk X.prog X.w X.K X.mg X.base CX k f fd ps sp)(hr:u9 k X.A)(hb:Binds X.K fd ps ds)(hd:Vals dvs ds)(hx:Passes CX X E)(I:Inv X pins σ H s)(r:Vals vs us)(h:sp (vs++dvs) H Q E):wpAny (model X.prog X.w) X.A (call (.ref f) us) (EP X pins σ Q) X.xe s:=by
 have r2:Vals (vs++dvs) (us++ds):=r.append hd;have hl:(us++ds).length=ps.length:=by rw[<- r2.length];exact F.len _ _ _ _ h
 refine wpAny_call (codeAny_mono (F.run X.A X.stack s H ⟨us,[]⟩ (us++ds) (vs++dvs) Q E hr I.bt0 (hb s us I.kIn hl) r2 h) fun r s' hq=>?_);cases r with
 |error e=>exact hx pins σ H s e s' I hq
 |ok fl =>
  cases fl with
  |ret u=>exact I.after hq
  |next=>exact False.elim hq
  |brk=>exact False.elim hq
  |cont=>exact False.elim hq
theorem bd1(F:FnOk X.prog X.w X.K X.mg X.base CX k f fd ps sp)(hr:u9 k X.A)(hg:Gl X x)(hm:X.mg x=some (.ref f))(hk:PySem.W.keepIn X.K (.ref f)=true)(hb:Binds X.K fd ps ds)(hd:Vals dvs ds)(hx:Passes CX X E)(ha:PA X (e::es) t)(hdb:(x==("__debug__":Str))=false:=by decide)(he:starEach (e::es) X.env=(false,eval e X.env)::starEach es X.env:=by rfl)(hpl:(backTo pos (starEach es X.env)).any (·.1)=false:=by rfl) :
  PE X (.Call (.Name x p) (e::es) [] pos) (bw4 sp dvs E t):=by
 intro pins s σ H Q I h;refine wpAny_Call_Name_kw (O7 I hg hm ?_ hdb);refine PySem.W.callWith_K (h₀:=X.base) I.ok.mod.kin hk (thn (ha pos pins s σ H _ I h) fun us s1 ⟨vs,H1,I1,r,q⟩=>⟨I1.kIn,?_⟩) he hpl;exact bl8 F hr hb hd hx I1 r q
structure Mk(K:PySem.W.Frag)(C f:Addr):Prop where
 makes:PySem.W.makesIn K C=true
 init:PySem.W.findIn K (.ref C) "__init__"=some (some (.ref f))
 fn:PySem.W.isFn K (.ref f)=true
 kp:PySem.W.keepIn K (.ref C)=true
theorem ax8{pins:List (Addr×Obj)}{σ:St}{H:Hp}{s:Shared}{Q:VK}{us:List Value}{vs:List V}(M:Mk X.K C f)(F:FnOk X.prog X.w X.K X.mg X.base CX k f fd ps sp)(hr:u9 (k+1) X.A)(hb:Binds X.K fd ps ds)(hd:Vals dvs ds)(hx:Passes CX X E)(I:Inv X pins σ H s)(r:Vals vs us)(h:∀x dx,H x=none->H dx=none->dx≠x->sp (.ref x::(vs++dvs)) (upd (upd H dx (.own x)) x (.ins C dx [])) (fun v H2=>v=.non/\Q (.ref x) H2) E) :
  wpAny (model X.prog X.w) X.A (call (.ref C) us) (EP X pins σ Q) X.xe s:=by
 have hq:=h (s.heap.objs.size+1) s.heap.objs.size (I.hok.fresh (Nat.le_succ _)) (I.hok.fresh (Nat.le_refl _)) (Nat.ne_of_lt (Nat.lt_succ_self _));have I2:=Inv.made (C:=C) I;have r2:Vals (V.ref (s.heap.objs.size+1)::(vs++dvs)) (Value.ref (s.heap.objs.size+1)::(us++ds)):=.cons rfl (r.append hd);have hl:(Value.ref (s.heap.objs.size+1)::us++ds).length=ps.length:=by
  have e:=r2.length;rw[F.len _ _ _ _ hq] at e;exact e.symm
 refine wpAny_call (a21 (f:=f) I.kIn M.makes M.init (beq_iff_eq.mp M.fn) (codeAny_mono (F.run _ X.stack _ _ ⟨Value.ref (s.heap.objs.size + 1) :: us,[]⟩ (Value.ref (s.heap.objs.size + 1) :: (us ++ ds)) _ _ E (hr.make C us [])
  (I2.bt0.make C us []) (hb _ (Value.ref (s.heap.objs.size + 1) :: us) I2.kIn hl) r2 hq) fun r s' hq'=>?_))
 cases r with
 |error e=>exact hx pins σ _ _ e s' I2 hq'
 |ok fl =>
  cases fl with
  |ret u =>
   obtain⟨v,H',I3,rv,ev,q3⟩:=I2.after hq';subst ev;exact⟨rv,⟨V.ref (s.heap.objs.size+1),H',I3,rfl,q3⟩⟩
  |next=>exact False.elim hq'
  |brk=>exact False.elim hq'
  |cont=>exact False.elim hq'
theorem bc8(M:Mk X.K C f)(F:FnOk X.prog X.w X.K X.mg X.base CX k f fd ps sp)(hr:u9 (k+1) X.A)(hg:Gl X x)(hm:X.mg x=some (.ref C))(hb:Binds X.K fd ps ds)(hd:Vals dvs ds)(hx:Passes CX X E)(ha:PA X (e::es) t)(hdb:(x==("__debug__":Str))=false:=by decide)(he:starEach (e::es) X.env=(false,eval e X.env)::starEach es X.env:=by rfl)(hpl:(backTo pos (starEach es X.env)).any (·.1)=false:=by rfl) :
  PE X (.Call (.Name x p) (e::es) [] pos) (a54 C sp dvs E t):=by
 intro pins s σ H Q I h;refine wpAny_Call_Name_kw (O7 I hg hm ?_ hdb);refine PySem.W.callWith_K (h₀:=X.base) I.ok.mod.kin M.kp (thn (ha pos pins s σ H _ I h) fun us s1 ⟨vs,H1,I1,r,q⟩=>⟨I1.kIn,?_⟩) he hpl;exact ax8 M F hr hb hd hx I1 r q
theorem a09(M:Mk X.K C f)(F:FnOk X.prog X.w X.K X.mg X.base CX k f fd ps sp)(hr:u9 (k+1) X.A)(hg:Gl X x)(hm:X.mg x=some (.ref C))(hb:Binds X.K fd ps ds)(hd:Vals dvs ds)(hx:Passes CX X E)(hdb:(x==("__debug__":Str))=false:=by decide):PE X (.Call (.Name x p) [] [] pos) (a54 C sp dvs E bi4):=by
 intro pins s σ H Q I h;refine wpAny_Call_Name_kw (O7 I hg hm ?_ hdb);exact PySem.W.callWith_K0 I.kIn M.kp (ax8 (us:=[]) M F hr hb hd hx I .nil h)
end
section
variable{X:Cx}{CX:CXT}{k:Nat}{f C:Addr}{fd:FuncData}{ps ks:List Str}{sp:Sp}{E:XK}{x m:Str}{p pos apos kpos:Pos}{e o:Expr}{es:List Expr}{kws:List Keyword}{te ta:TE}{t tk:TA}{nm:Option Str}
variable{g:List Value->List Value->List Value}{gV:List V->List V->List V}
end
structure FnScope(N P:List Str)(sc:Scope):Prop where
 kind:sc.kind=.function
 co:sc.isCoroutine=false
 gen:sc.isGenerator=false
 nd:N.Nodup
 pre:N.take P.length=P
 par:∀x∈P,sc.names.lookup x=some .local\/sc.names.lookup x=some .cell
 nofree:∀y∈sc.names,y.2≠.free
theorem as5{kindOf:Str->Option NameKind}{x:Str}:∀{binds:List (Str×Value)} {m:Str->Option Value},(∀v,(x,v)∉binds)->bindL kindOf binds m x=m x
 |[],_,_=>rfl
 |(n,v)::r,m,h=>by
  unfold bindL;rw[as5 fun w hw=>h w (List.mem_cons_of_mem _ hw)];split
  ·have:x≠n:=by rintro rfl;exact h v List.mem_cons_self
   simp[this]
  ·rfl
theorem as8{kindOf:Str->Option NameKind}{x:Str}:∀{binds:List (Str×Value)} {m:Str->Option Value},(∀v,(x,v)∉binds)->bindC kindOf binds m x=m x
 |[],_,_=>rfl
 |(n,v)::r,m,h=>by
  unfold bindC;rw[as8 fun w hw=>h w (List.mem_cons_of_mem _ hw)];split
  ·rfl
  ·have:x≠n:=by rintro rfl;exact h v List.mem_cons_self
   simp[this]
theorem as6{kindOf:Str->Option NameKind}{x:Str}{v:Value}:∀{P:List Str} {vs:List Value} {i:Nat} {m:Str->Option Value},P.Nodup->P[i]?=some x->vs[i]?=some v->kindOf x=some .local ->
  bindL kindOf (P.zip vs) m x=some v
 |[],_,_,_,_,h,_,_=>by simp at h
 |_::_,[],_,_,_,_,h,_=>by simp at h
 |p::P,w::vs,0,m,nd,h1,h2,hk=>by
  simp at h1 h2;subst h1;subst h2;show bindL kindOf ((p,w)::P.zip vs) m p=_;unfold bindL;rw[as5 fun v hv=>(List.nodup_cons.mp nd).1 (List.of_mem_zip hv).1,if_pos hk];simp
 |p::P,w::vs,i+1,m,nd,h1,h2,hk=>by
  show bindL kindOf ((p,w)::P.zip vs) m x=_;unfold bindL;exact as6 (i:=i) (List.nodup_cons.mp nd).2 (by simpa using h1) (by simpa using h2) hk
theorem as9{kindOf:Str->Option NameKind}{x:Str}{v:Value}:∀{P:List Str} {vs:List Value} {i:Nat} {m:Str->Option Value},P.Nodup->P[i]?=some x->vs[i]?=some v->kindOf x≠some .local ->
  bindC kindOf (P.zip vs) m x=some v
 |[],_,_,_,_,h,_,_=>by simp at h
 |_::_,[],_,_,_,_,h,_=>by simp at h
 |p::P,w::vs,0,m,nd,h1,h2,hk=>by
  simp at h1 h2;subst h1;subst h2;show bindC kindOf ((p,w)::P.zip vs) m p=_;unfold bindC;rw[as8 fun v hv=>(List.nodup_cons.mp nd).1 (List.of_mem_zip hv).1,if_neg hk];simp
 |p::P,w::vs,i+1,m,nd,h1,h2,hk=>by
  show bindC kindOf ((p,w)::P.zip vs) m x=_;unfold bindC;exact as9 (i:=i) (List.nodup_cons.mp nd).2 (by simpa using h1) (by simpa using h2) hk
noncomputable def start(N:List Str)(vs:List V):St:=vs.map some++List.replicate (N.length-vs.length) none
noncomputable def Z5(CX:CXT)(P:Program)(w:World)(K:PySem.W.Frag)(mg:Str->Option Value)(base:Heap)(N:List Str)(qual:Str)(scope:Scope)(f:Addr)(cd:Value)(A:Around)(outer:List Env)(s:Shared)(H:Hp)(E:XK):Cx where
 prog:=P
 w:=w
 K:=K
 mg:=mg
 base:=base
 A:=A.deeper (envOfC qual scope s.heap.objs.size f cd)
 N:=N
 s₀:=s
 H₀:=H
 env:=envOfC qual scope s.heap.objs.size f cd
 outer:=outer
 stack:=envOfC qual scope s.heap.objs.size f cd::outer
 ex:=[]
 calm:=true
 fn:=fun _=>true
 pn:=[]
 xe:=fun e s'=>wpAny (model P w) (A.deeper (envOfC qual scope s.heap.objs.size f cd)) (leaving (envOfC qual scope s.heap.objs.size f cd) e) (fun _ s''=>CX outer H s E e s'') (fun e' s''=>CX outer H s E e' s'') s'
theorem ai4{sc:Scope}{n:Nat}{x:Str}(h:sc.names.lookup x=some .cell):∃c,(cellsFrom n sc.names []).lookup x=some c:=by
 have q:=PySem.W.cellsFrom_some sc.names n [] (.inl h);exact Option.isSome_iff_exists.mp q
theorem aT8{CX:CXT}{P:Program}{w:World}{K:PySem.W.Frag}{mg:Str->Option Value}{base:Heap}{N ps:List Str}{qual:Str}{scope:Scope}{f:Addr}{cd:Value}{A:Around}{outer:List Env}{s s1:Shared}{H:Hp}{E:XK}{us:List Value}{vs:List V}(S:FnScope N ps scope)(hd:A.handled=none)(e0:ai8 P w K mg base A outer s H)(hl:vs.length=ps.length)(r:Vals vs us)(x:InCallC s s.heap.objs.size (bindL (envOfC qual scope s.heap.objs.size f cd).kindOf (ps.zip us) fun _=>none) (cellsFrom (s.heap.objs.size+1) scope.names []) (bindC (envOfC qual scope s.heap.objs.size f cd).kindOf (ps.zip us) fun _=>none) s1) :
  Inv (Z5 CX P w K mg base N qual scope f cd A outer s H E) [] (start N vs) H s1:=by
 have hpl:ps.length<=N.length:=by have:=congrArg List.length S.pre;rw[List.length_take] at this;omega
 obtain⟨h1,tk,rfl,hk⟩:=x.done;have noA:∀b:Addr,b∉(Z5 CX P w K mg base N qual scope f cd A outer s H E).ex:=fun b z=>absurd (show b∈([]:List Addr) from z) (by simp);refine ⟨⟨e0.mod,S.kind,rfl,rfl,Nat.le_refl _,fun y z c h1 h2=>?_,fun y hy=>?_,fun y c _ h=>?_,fun _=>hd,Around.frames_deeper e0.frames,.inr ⟨rfl,rfl⟩,fun b z=>absurd z (noA b),e0.bs,e0.bsz,fun b _ _=>noA b,fun b z=>absurd z (noA b),e0.F9,e0.frf⟩,
  rfl,e0.bare,Un.kept hk,⟨_,x.toInCall.ns,fun i y v h1 h2 h3=>?_⟩,fun y c h=>⟨_,x.cell y c h⟩,e0.hok.fresh (Nat.le_refl _),fun y c h=>?_,fun p hp=>absurd (show p ∈ ([]:List (Addr × Obj)) from hp) (by simp),e0.hok.kept hk,?_⟩
 ·exact name_of_addr x.apart (PySem.mem_of_lookup h1) (PySem.mem_of_lookup h2)
 ·have hy:scope.names.lookup y=some .cell\/scope.names.lookup y=some .free:=hy;rcases hy with hy|hy
  ·exact ai4 hy
  ·exact absurd rfl (S.nofree _ (PySem.mem_of_lookup hy))
 ·exact Nat.le_of_lt (x.above y c (PySem.mem_of_lookup h))
 ·have hi:i<vs.length:=by
   unfold start at h2;by_cases hi:i<vs.length
   ·exact hi
   ·rw[List.getElem?_append_right (by simpa using hi)] at h2;rw[List.getElem?_replicate] at h2;split at h2<;>cases h2
  have ha:vs[i]?=some v:=by
   unfold start at h2;rw[List.getElem?_append_left (by simpa using hi),List.getElem?_map] at h2;cases e:vs[i]? with
   |none=>rw[e] at h2;cases h2
   |some a=>rw[e] at h2;cases h2;rfl
  obtain⟨u,hu,rv⟩:=r.get ha;have hp:ps[i]?=some y:=by
   rw[<- S.pre,List.getElem?_take_of_lt (by omega)];exact h1
  have ndP:ps.Nodup:=by rw[<- S.pre];exact S.nd.sublist (List.take_sublist _ _)
  refine⟨u,rv,?_⟩;rcases S.par y (List.mem_of_getElem? hp) with k|k
  ·exact .inl ⟨k,as6 ndP hp hu k⟩
  ·obtain⟨c,e⟩:=ai4 (n:=s.heap.objs.size+1) k;refine .inr ⟨.inl k,c,e,?_⟩;have q:=x.cell y c e;rw[as9 ndP hp hu (by show scope.names.lookup y≠_;rw[k];decide)] at q;exact q
 ·exact e0.hok.fresh (Nat.le_of_lt (x.above y c (PySem.mem_of_lookup h)))
 ·unfold start;show _=N.length;rw[List.length_append,List.length_map,List.length_replicate];omega
theorem bB9{CX:CXT}{P:Program}{w:World}{K:PySem.W.Frag}{mg:Str->Option Value}{base:Heap}{k:Nat}{f:Addr}{name qual:Str}{params:Arguments}{body:List Stmt}{scope:Scope}{dV kV doc pm cdv ct oc:Value}{an od:Option Addr}{osl:Array (Option Value)}{N ps:List Str}{sp:Sp}(lk:K.lookup f=some ⟨oc,od,.func (PySem.W.fnOf name qual params body scope dV kV doc pm an cdv ct),osl⟩)(hcd:PySem.W.codeIn K cdv qual=true)(S:FnScope N ps scope)(len:∀vs H Q E,sp vs H Q E->vs.length=ps.length)(hbody:∀ (A:Around) (outer:List Env) (s:Shared) (H:Hp) (vs:List V) (Q:VK) (E:XK),u9 k (A.deeper (envOfC qual scope s.heap.objs.size f cdv))->sp vs H Q E ->
   ∃ t,PSs (Z5 CX P w K mg base N qual scope f cdv A outer s H E) body t/\t { nx:=fun _ H'=>Q .non H',rt:=Q } (start N vs) H) :
  FnOk P w K mg base CX (k+1) f (PySem.W.fnOf name qual params body scope dV kV doc pm an cdv ct) ps sp:=by
 refine⟨len,fun A outer s H args us vs Q E hr e0 hb r hsp=>?_⟩;have hl:=len _ _ _ _ hsp;have KX:K.In s.heap:=e0.mod.kin.keeps fun b o e=>(e0.bs b o e).1;have lim:s.heap.NoLimit:=e0.mod.nolimit.keeps fun b o e=>(e0.bs b o e).1;have hkind:∀y∈ps.zip us,scope.names.lookup y.1=some .local\/(scope.names.lookup y.1=some .cell/\((cellsFrom (s.heap.objs.size+1) scope.names []).lookup y.1).isSome=true):=fun⟨n,v⟩ hy=>by
  rcases S.par n (List.of_mem_zip hy).1 with q|q
  ·exact .inl q
  ·exact .inr ⟨q,PySem.W.cellsFrom_some _ _ _ (.inl q)⟩
 refine codeAny_call_function hr.depth (KX _ _ lk) rfl S.co S.gen rfl (PySem.W.codeRec_of KX hcd) (hb _ _ _ _ ?_);refine wpAny_newFunctionEnv_cells S.kind hkind fun env he s1 x=>?_;subst he;refine⟨lim.keeps x.toInCall.keep,codeAny_func ?_⟩;obtain⟨t,ht,hq⟩:=hbody A outer s H vs Q E (hr.deeper _) hsp;have I:Inv (Z5 CX P w K mg base N qual scope f cdv A outer s H E) [] (start N vs) H s1:=aT8 S hr.hd e0 hl r x;refine wpAny_mono (ht [] s1 (start N vs) H _ I hq) (fun fl s' hs=>?_) fun e s' hs=>hs;have fin:∀{σ':St} {H':Hp} {v:V} {u:Value},Inv (Z5 CX P w K mg base N qual scope f cdv A outer s H E) [] σ' H' s'->RelV v u->Q v H'->CE outer P w H s Q u s' :=
  fun{σ' H' v u} J rv q=>⟨v,H',J.os,J.bare,J.base,J.hok,rv,q⟩
 cases fl with
 |ret u =>
  obtain⟨v,σ',H',J,rv,q⟩:=hs;exact fin J rv q
 |next =>
  obtain⟨σ',H',J,q⟩:=hs;exact fin (v:=V.non) (u:=Value.none) J rfl q
 |brk =>
  obtain⟨_,_,_,q⟩:=hs;exact False.elim q
 |cont =>
  obtain⟨_,_,_,q⟩:=hs;exact False.elim q
end L2
namespace L2
open PySem PySem.Spec PyProof.Rows
section
variable{X:Cx}{x:Str}{p pos:Pos}{e:Expr}{es:List Expr}{t:TA}{id T:String}{r:List V->Hp->VK->Prop}
noncomputable def tCB(r:List V->Hp->VK->Prop)(t:TA):TE:=fun σ H Q=>t σ H fun vs H1=>r vs H1 Q
theorem X5(hc:l9 X (.builtin id) r)(hg:Gl X x)(hm:X.mg x=none)(hv:bootBuiltins x=some (.builtin id))(ha:PA X (e::es) t)(hn:x≠"__name__":=by decide)(hdb:(x==("__debug__":Str))=false:=by decide)(he:starEach (e::es) X.env=(false,eval e X.env)::starEach es X.env:=by rfl)(hpl:(backTo pos (starEach es X.env)).any (·.1)=false:=by rfl):PE X (.Call (.Name x p) (e::es) [] pos) (tCB r t):=by
 intro pins s σ H Q I h;refine wpAny_Call_Name_kw (K2 I hg hm hv ?_ hn hdb);exact PyProof.Rows.callWith_builtin1 (thn (ha pos pins s σ H _ I h) fun us s1 ⟨vs,H1,I1,r1,q1⟩=>hc pins s1 σ H1 vs us Q I1 r1 q1) he hpl
theorem M6(hc:l9 X (.type T) r)(hg:Gl X x)(hm:X.mg x=none)(hv:bootBuiltins x=some (.type T))(ha:PA X (e::es) t)(hn:x≠"__name__":=by decide)(hdb:(x==("__debug__":Str))=false:=by decide)(he:starEach (e::es) X.env=(false,eval e X.env)::starEach es X.env:=by rfl)(hpl:(backTo pos (starEach es X.env)).any (·.1)=false:=by rfl):PE X (.Call (.Name x p) (e::es) [] pos) (tCB r t):=by
 intro pins s σ H Q I h;refine wpAny_Call_Name_kw (K2 I hg hm hv ?_ hn hdb);exact PyProof.Rows.callWith_type1 (thn (ha pos pins s σ H _ I h) fun us s1 ⟨vs,H1,I1,r1,q1⟩=>hc pins s1 σ H1 vs us Q I1 r1 q1) he hpl
end
end L2

namespace HT
open PySem PyProof.Rows
section
open PySem.SeqAt
open PySem.AutoSeq1 (wpAny_loadPart')
open PySem.MeetsSeq PySem.MeetsSeq2 PySem.MeetsSeq3
end
section
variable{prog:Program}{w:World}{A:Around}{E:Value->Shared->Prop}{s:Shared}
theorem bg2{t b:Addr}{vs ws:List Value}{Q:Value->Shared->Prop}(ht:IsTup s.heap t vs.toArray)(hb:IsTup s.heap b ws.toArray)(hv:vs≠[])(h1:ws=[]->Q (.ref t) s)(h2:ws≠[]->Q (.ref s.heap.objs.size) { s with heap:=s.heap.push { cls:=.type "tuple",data:=.seq (vs++ws).toArray } })(hsz:vs.length+ws.length<=sizeLine):wpAny (model prog w) A (binaryOp .Add (.ref t) (.ref b)) Q E s:=by
 obtain⟨⟨cls,dd,data,sl⟩,ho,hc,n,hd⟩:=id ht;obtain⟨⟨cls2,dd2,data2,sl2⟩,ho2,hc2,n2,hd2⟩:=id hb;simp only at hc hd hc2 hd2;subst hc hd hc2 hd2;have e:vs.toArray++ws.toArray=(vs++ws).toArray:=by simp
 by_cases hw:ws=[]
 ·exact concat_meets ⟨_,ho,rfl⟩ ⟨_,ho2,rfl⟩ noFill_tuple_add seq_tuple_add PySem.F.slot_tuple_add PySem.F.entry_tuple_add (PySem.F.args_tuple_add_2 _ _)
   (tuple_addW1 t b vs.toArray ws.toArray n n2 dd dd2 sl sl2 (by simpa using hv) (by simp[hw])) ⟨ho,ho2,h1 hw⟩
 ·refine concat_meets ⟨_,ho,rfl⟩ ⟨_,ho2,rfl⟩ noFill_tuple_add seq_tuple_add PySem.F.slot_tuple_add PySem.F.entry_tuple_add (PySem.F.args_tuple_add_2 _ _)
   (tuple_addW2 t b vs.toArray ws.toArray n n2 dd dd2 sl sl2 (by simpa using hv) (by simpa using hw) (by rw[List.size_toArray,List.size_toArray];exact hsz)) ⟨ho,ho2,?_⟩
  rw[e];exact h2 hw
noncomputable def sIx(n d:Nat):Option Int->Nat
 |none=>d
 |some v=>if v<0 then(v+(n:Int)).toNat else min v.toNat n
theorem bl6(n d:Nat)(hd:d<=n)(o:Option Int):sIx n d o<=n:=by
 cases o with
 |none=>exact hd
 |some v =>
  show(if v<0 then(v+(n:Int)).toNat else min v.toNat n)<=n;by_cases hv:v<0
  ·rw[if_pos hv];omega
  ·rw[if_neg hv];exact Nat.min_le_right _ _
theorem aH6(v:Int)(n d:Nat):(if v<0 then max (v+(n:Int)) 0 else min v (n:Int))=((sIx n d (some v):Nat):Int):=by
 show(if v<0 then max (v+(n:Int)) 0 else min v (n:Int))=(((if v<0 then(v+(n:Int)).toNat else min v.toNat n):Nat):Int);by_cases hv:v<0
 ·simp only[if_pos hv];omega
 ·simp only[if_neg hv];omega
theorem aN4(lo hi:Option Int)(n:Nat):Builtin.Slice.sliceAdjust lo hi 1 (n:Int)=(((sIx n 0 lo:Nat):Int),((sIx n n hi:Nat):Int)):=by
 have h1:¬((1:Int)<0):=by omega
 unfold Builtin.Slice.sliceAdjust;simp only[h1,if_false];refine Prod.ext ?_ ?_
 ·cases lo with
  |none=>rfl
  |some v=>exact aH6 v n 0
 ·cases hi with
  |none=>rfl
  |some v=>exact aH6 v n n
theorem aK0(i j:Nat):Builtin.Slice.slicePlaces (i:Int) (j:Int) 1=j-i:=by
 unfold Builtin.Slice.slicePlaces;have h1:(1:Int)>0:=by omega
 simp only[h1,if_true,Int.ediv_one];split<;>omega
theorem aj4{v:Value}{o:Option Int}{Q:Option Int->Shared->Prop}(p:IsPart v o)(h:Q o s):wpAny (model prog w) A (Builtin.Slice.slicePartIndex v) Q E s:=by
 cases p with
 |none=>exact slicePart_none h
 |int i t=>exact slicePart_int h
theorem P4{sl:Addr}{vl vu:Value}{lo hi:Option Int}{n:Nat}{Q:Int×Int×Nat->Shared->Prop}(hs:s.heap.IsSliceOf sl vl vu .none)(pl:IsPart vl lo)(pu:IsPart vu hi)(h:Q (((sIx n 0 lo:Nat):Int),1,sIx n n hi-sIx n 0 lo) s):wpAny (model prog w) A (Builtin.Slice.sliceApplied (.ref sl) (pure (n:Int))) Q E s:=by
 obtain⟨os,hos,hcs,hds⟩:=id hs;unfold Builtin.Slice.sliceApplied Builtin.Slice.sliceFields;refine wpAny_bind (wpAny_bind (wpAny_field hos hds (x:=vl) rfl (wpAny_bind (wpAny_field hos hds (x:=vu) rfl (wpAny_bind (wpAny_field hos hds (x:=.none) rfl (wpAny_pure ?_)))))));refine wpAny_bind (slicePart_none ?_);show wpAny _ _ (if((1:Int)==0)=true then _ else _) _ _ s;rw[if_neg (by decide)];refine wpAny_bind (aj4 pl (wpAny_bind (aj4 pu (wpAny_bind (wpAny_pure ?_)))));show wpAny _ _ (match Builtin.Slice.sliceAdjust lo hi 1 (n:Int) with|(lo,hi)=>pure (lo,(1:Int),Builtin.Slice.slicePlaces lo hi 1)) _ _ s;rw[aN4 lo hi n];show wpAny _ _ (pure (((sIx n 0 lo:Nat):Int),(1:Int),Builtin.Slice.slicePlaces ((sIx n 0 lo:Nat):Int) ((sIx n n hi:Nat):Int) 1)) _ _ s;rw[aK0];exact wpAny_pure h
theorem a06(xs:Array Value)(i k:Nat):((List.range k).filterMap fun(m:Nat)=>xs[((i:Int)+(m:Int)*1).toNat]?).toArray=((xs.toList.drop i).take k).toArray:=by
 have e:(fun(m:Nat)=>xs[((i:Int)+(m:Int)*1).toNat]?)=fun m=>xs[i+m]?:=by
  funext m
  have:((i:Int)+(m:Int)*1).toNat=i+m:=by omega
  rw[this]
 rw[e];have:=pick_run xs i k;rw[List.filterMap_map] at this;have e2:((fun x=>xs[x]?) ∘ fun x=>i+x)=fun m=>xs[i+m]?:=rfl;rw[e2] at this;rw[this]
theorem af9{t sl:Addr}{items:Array Value}{vl vu:Value}{lo hi:Option Int}{Q:Value->Shared->Prop}(ht:IsTup s.heap t items)(hs:s.heap.IsSliceOf sl vl vu .none)(pl:IsPart vl lo)(pu:IsPart vu hi)(hw:¬(sIx items.size 0 lo=0/\sIx items.size items.size hi=items.size))(h:Q (.ref s.heap.objs.size) { s with heap:=s.heap.push { cls:=.type "tuple",data:=.seq ((items.toList.drop (sIx items.size 0 lo)).take (sIx items.size items.size hi-sIx items.size 0 lo)).toArray } })(hsz:items.size<=sizeLine):wpAny (model prog w) A (getItem (.ref t) (.ref sl)) Q E s:=by
 have htake:sizeOk (.seq ((items.toList.drop (sIx items.size 0 lo)).take (sIx items.size items.size hi-sIx items.size 0 lo)).toArray):=by
  show((items.toList.drop (sIx items.size 0 lo)).take (sIx items.size items.size hi-sIx items.size 0 lo)).toArray.size<=sizeLine;rw[List.size_toArray,List.length_take,List.length_drop,Array.length_toList];omega
 have hj:sIx items.size items.size hi<=items.size:=bl6 _ _ (Nat.le_refl _) hi;obtain⟨os,hos,hcs,hds⟩:=id hs;have hTs:s.TypeIs (.ref sl) "slice":=⟨os,hos,hcs⟩
 unfold getItem
 try with_reducible refine wpAny_holding ?_
 first|refine wpAny_bind (wpAny_pure ?_)|skip
 refine wpAny_bind (wpAny_sequenceKey ht.typeIs (by decide) ?_);refine wpAny_bind (wpAny_callSpecial?_slot (name:=Str.ofString "__getitem__") ht.typeIs PyProof.Rows.slot_tuple_getitem
  (wpAny_call_entry PyProof.Rows.slot_tuple_getitem ht.typeIs entry_tuple_getitem ?_ (args_tuple_getitem _ _)))
 show wpAny _ _ (Builtin.Tuple.tupleItemsOf (.ref t) >>= _) _ _ s;refine wpAny_bind (tupleItemsOf_ ht ?_);refine wpAny_bind (wpAny_typeOf hTs ?_);rw[if_pos (by decide)];refine wpAny_bind (P4 hs pl pu ?_);have hno:¬((((sIx items.size 0 lo:Nat):Int)==0&&(1:Int)==1&&(sIx items.size items.size hi-sIx items.size 0 lo)==items.size)=true):=by
  intro q;rw[Bool.and_eq_true,Bool.and_eq_true] at q;have q1:((sIx items.size 0 lo:Nat):Int)=0:=eq_of_beq q.1.1;have q2:sIx items.size items.size hi-sIx items.size 0 lo=items.size:=eq_of_beq q.2;exact hw ⟨by omega,by omega⟩
 show wpAny _ _ (if(((sIx items.size 0 lo:Nat):Int)==0&&(1:Int)==1&&(sIx items.size items.size hi-sIx items.size 0 lo)==items.size)=true then _ else _) _ _ s;rw[if_neg hno,a06]
 first
  |exact wpAny_bind (m:=Builtin.Tuple.tupleExact _) (wpAny_newObj_type (wpAny_pure ⟨_,rfl,wpAny_pure h⟩) htake)
  |exact wpAny_bind (m:=Builtin.Tuple.tupleExact _) (wpAny_newObj_type (wpAny_bind (wpAny_pure (wpAny_pure ⟨_,rfl,wpAny_pure h⟩))) htake)
  |exact wpAny_bind (wpAny_bind (m:=Builtin.Tuple.tupleExact _) (wpAny_newObj_type (wpAny_pure (wpAny_pure ⟨_,rfl,wpAny_pure h⟩)) htake))
  |exact wpAny_bind (wpAny_bind (m:=Builtin.Tuple.tupleExact _) (wpAny_newObj_type (wpAny_pure ⟨_,rfl,wpAny_pure h⟩) htake))
end
end HT
namespace L2
open PySem PySem.Spec PyProof.Rows
noncomputable abbrev TO:=St->Hp->(Option Int->Hp->Prop)->Prop
noncomputable def PO(X:Cx)(e:Option Expr)(t:TO):Prop :=
 ∀(pins:List (Addr×Obj)) (s:Shared) (σ:St) (H:Hp) (Q:Option Int->Hp->Prop),Inv X pins σ H s->t σ H Q ->
  wpAny (model X.prog X.w) X.A (evalPart e X.env) (fun u s'=>∃o H',Inv X pins σ H' s'/\IsPart u o/\Q o H') X.xe s
noncomputable def a91:TO:=fun _ H Q=>Q none H
noncomputable def bv9(t:TE):TO:=fun σ H Q=>t σ H fun x H1=>∃i,x=.int i/\Q (some i) H1
section
variable{X:Cx}{e:Expr}{te:TE}{lo hi:Option Expr}{tl th:TO}{pos p2:Pos}
theorem ad9:PO X none a91:=by
 intro pins s σ H Q I h;rw[evalPart_none];exact wpAny_pure ⟨none,H,I,.none,h⟩
theorem aF7(h:PE X e te):PO X (some e) (bv9 te):=by
 intro pins s σ H Q I hw;rw[evalPart_some];refine thn (h pins s σ H _ I hw) fun u s1 ⟨x,H1,I1,r1,q1⟩=>?_;obtain⟨i,rfl,q⟩:=q1;obtain⟨t,rfl⟩:=r1;exact⟨some i,H1,I1,.int i t,q⟩
noncomputable def SlR(X:Cx)(r:V->Option Int->Option Int->Hp->VK->Prop):Prop :=
 ∀(pins:List (Addr×Obj)) (s:Shared) (σ:St) (H:Hp) (x:V) (v vl vu:Value) (lo hi:Option Int) (sl:Addr) (Q:VK),Inv X pins σ H s->RelV x v->s.heap.IsSliceOf sl vl vu .none->IsPart vl lo->IsPart vu hi->r x lo hi H Q ->
  ∃T id,typeLookup (.type T) "__getitem__"=pure (some (.builtin id))/\s.TypeIs v T/\wpAny (model X.prog X.w) X.A (getItem v (.ref sl)) (EP X pins σ Q) X.xe s
noncomputable def tSl(r:V->Option Int->Option Int->Hp->VK->Prop)(te:TE)(tl th:TO):TE:=fun σ H Q=>te σ H fun x H1=>tl σ H1 fun l H2=>th σ H2 fun u H3=>r x l u H3 Q
theorem ah7{r:V->Option Int->Option Int->Hp->VK->Prop}(hr:SlR X r)(he:PE X e te)(hl:PO X lo tl)(hu:PO X hi th):PE X (.Subscript e (.Slice lo hi none p2) pos) (tSl r te tl th):=by
 intro pins s σ H Q I h;refine Subscript_ (thn (he pins s σ H _ I h) fun v s1 ⟨x,H1,I1,r1,q1⟩=>?_);refine wpAny_Slice (thn (hl pins s1 σ H1 _ I1 q1) fun vl s2 ⟨l,H2,I2,pl,q2⟩=>thn (hu pins s2 σ H2 _ I2 q2) fun vu s3 ⟨u,H3,I3,pu,q3⟩=>?_);rw[evalPart_none];refine wpAny_pure ?_;have I4:Inv X pins σ H3 { s3 with heap:=s3.heap.push { cls:=.type "slice",data:=.fields #[vl,vu,.none] } }:=I3.kept (t':=s3.toks) fun b ob q=>Heap.get?_push_of_some _ q;obtain⟨T,id,hT,ht,hg⟩:=hr pins { s3 with heap:=s3.heap.push { cls:=.type "slice",data:=.fields #[vl,vu,.none] } } σ H3 x v vl vu l u s3.heap.objs.size Q I4 r1 (Heap.IsSliceOf.new ..) pl pu q3;show wpAny (model X.prog X.w) X.A (subscriptTail e (.Slice lo hi none p2) v (.ref s3.heap.objs.size)) (EP X pins σ Q) X.xe { s3 with heap:=s3.heap.push { cls:=.type "slice",data:=.fields #[vl,vu,.none] } };exact tail_any (ops:=[.ref s3.heap.objs.size,v]) ht hT hg (by with_unfolding_all rfl)
noncomputable def Q4(xs:List V)(lo hi:Option Int):List V:=(xs.drop (HT.sIx xs.length 0 lo)).take (HT.sIx xs.length xs.length hi-HT.sIx xs.length 0 lo)
theorem ag8(xs:List V)(lo hi:Option Int):(Q4 xs lo hi).length<=xs.length:=by
 unfold Q4;rw[List.length_take,List.length_drop];omega
noncomputable def bG6(K:PySem.W.Frag):V->Option Int->Option Int->Hp->VK->Prop:=fun x lo hi H Q=>∃a xs,x=.ref a/\SqT K H a xs /\
 ¬(HT.sIx xs.length 0 lo=0/\HT.sIx xs.length xs.length hi=xs.length)/\∀p,H p=none->Q (.ref p) (upd H p (.tup (Q4 xs lo hi)))
theorem bj8:SlR X (bG6 X.K):=by
 intro pins s σ H x v vl vu lo hi sl Q I rx hs pl pu h;obtain⟨a,xs,rfl,hx,hw,q⟩:=h;cases rx;obtain⟨its,r,ht,hz⟩:=I.tuple hx;have hlen:its.toArray.size=xs.length:=by rw[List.size_toArray];exact r.length.symm
 refine⟨"tuple",_,PyProof.Rows.slot_tuple_getitem.lookup,ht.typeIs,?_⟩;refine HT.af9 ht hs pl pu (by rw[hlen];exact hw) ?_ (by rw[hlen];exact hz);rw[hlen];refine⟨.ref s.heap.objs.size,_,I.laid (t':=s.toks) (o:=.tup (Q4 xs lo hi)) (fun b ob q=>Heap.get?_push_of_some _ q) (Nat.le_refl _) ?_,rfl,q _ (I.hok.fresh (Nat.le_refl _))⟩;exact⟨Nat.le_trans (ag8 xs lo hi) hz,_,(r.drop (HT.sIx xs.length 0 lo)).take (HT.sIx xs.length xs.length hi-HT.sIx xs.length 0 lo),F7.new _ _⟩
noncomputable def bx7(K:PySem.W.Frag):R2:=fun x y H Q=>∃a b xs ys,x=.ref a/\y=.ref b/\SqT K H a xs/\SqT K H b ys/\xs≠[]/\xs.length+ys.length<=sizeLine /\
 (ys=[]->Q (.ref a) H)/\(ys≠[]->∀p,H p=none->Q (.ref p) (upd H p (.tup (xs++ys))))
theorem Vals.O6{xs:List V}{us:List Value}(r:Vals xs us):us=[]↔xs=[]:=by
 cases r with
 |nil=>simp
 |cons _ _=>simp
theorem bd9:OpR X (binaryOp .Add) (bx7 X.K):=by
 intro pins s σ H x y v u Q I rx ry h;obtain⟨a,b,xs,ys,rfl,rfl,ha,hb,hx,hz,q1,q2⟩:=h;cases rx;cases ry;obtain⟨its,r1,p1,_⟩:=I.tuple ha;obtain⟨its2,r2,p2,_⟩:=I.tuple hb;refine HT.bg2 p1 p2 (fun z=>hx (r1.O6.mp z)) (fun z=>⟨.ref a,H,I,rfl,q1 (r2.O6.mp z)⟩) (fun z=>?_) (by rw[<- r1.length,<- r2.length];exact hz);refine⟨.ref s.heap.objs.size,_,I.laid (t':=s.toks) (o:=.tup (xs++ys)) (fun b ob q=>Heap.get?_push_of_some _ q) (Nat.le_refl _) ?_,rfl,q2 (fun w=>z (r2.O6.mpr w)) _ (I.hok.fresh (Nat.le_refl _))⟩;exact⟨by rw[List.length_append];exact hz,_,r1.append r2,F7.new _ _⟩
end
end L2
namespace L2
open PySem PySem.Spec PyProof.Rows
noncomputable def ixN(n:Nat)(i:Int):Option Nat:=if 0<=i then(if i<n then some i.toNat else none) else if -(n:Int)<=i then some (i+n).toNat else none
noncomputable def atI{α:Type}(xs:List α)(i:Int):Option α:=(ixN xs.length i).bind fun j=>xs[j]?
theorem aG8{n:Nat}{i:Int}{j:Nat}(h:ixN n i=some j):seqIndex? i n=some j/\j<n/\-(n:Int)<=i/\i<n:=by
 unfold ixN at h;by_cases h0:0<=i
 ·rw[if_pos h0] at h;by_cases h1:i<n
  ·rw[if_pos h1] at h;have e:i.toNat=j:=Option.some.inj h;exact⟨by rw[seqIndex_of h0 h1,e],by omega,by omega,h1⟩
  ·rw[if_neg h1] at h;cases h
 ·rw[if_neg h0] at h;by_cases h1:-(n:Int)<=i
  ·rw[if_pos h1] at h;have e:(i+n).toNat=j:=Option.some.inj h;exact⟨by rw[seqIndex_neg (by omega) h1,e],by omega,h1,by omega⟩
  ·rw[if_neg h1] at h;cases h
theorem ap6{α:Type}{xs:List α}{i:Int}{v:α}(h:atI xs i=some v):∃j,seqIndex? i xs.length=some j/\xs[j]?=some v/\j<xs.length/\-(xs.length:Int)<=i/\i<xs.length:=by
 unfold atI at h;cases e:ixN xs.length i with
 |none=>rw[e] at h;cases h
 |some j =>
  rw[e] at h;obtain⟨h1,h2,h3,h4⟩:=aG8 e;exact⟨j,h1,h,h2,h3,h4⟩
theorem B0{α:Type}{xs:List α}{j:Nat}{v:α}(h:xs[j]?=some v):atI xs (j:Int)=some v:=by
 have hj:j<xs.length:=(List.getElem?_eq_some_iff.mp h).1;have e:ixN xs.length (j:Int)=some j:=by
  unfold ixN;rw[if_pos (by omega),if_pos (by omega)];simp
 unfold atI;rw[e];exact h
noncomputable def aq1(b:Expr):Prop:=∀o i,subscripted b false o i=operate [o,i] (getItem o i)
noncomputable def IxR(X:Cx)(r:R2):Prop :=
 ∀(value slice:Expr) (pins:List (Addr×Obj)) (s:Shared) (σ:St) (H:Hp) (x y:V) (v u:Value) (Q:VK),Inv X pins σ H s->RelV x v->RelV y u->r x y H Q ->
  subscripted slice false v u=operate [v,u] (getItem v u)->wpAny (model X.prog X.w) X.A (subscriptTail value slice v u) (EP X pins σ Q) X.xe s
noncomputable def MtR(X:Cx)(id:String)(r:V->List V->Hp->VK->Prop):Prop :=
 ∀(pins:List (Addr×Obj)) (s:Shared) (σ:St) (H:Hp) (x:V) (xs:List V) (v:Value) (us:List Value) (Q:VK),Inv X pins σ H s->RelV x v->Vals xs us->r x xs H Q ->
  wpAny (model X.prog X.w) X.A (call (.builtin id) (v::us)) (EP X pins σ Q) X.xe s
section
variable{X:Cx}{a b:Expr}{ta tb:TE}{pos:Pos}
theorem a63{r:R2}(hr:IxR X r)(ha:PE X a ta)(hb:PE X b tb)(hs:aq1 b):PE X (.Subscript a b pos) (tOp r ta tb):=by
 intro pins s σ H Q I h;exact Subscript_ (a44 ha hb I h fun v u s2 x y H2 I2 rx ry q=>hr a b pins s2 σ H2 x y v u Q I2 rx ry q (hs _ _))
noncomputable def bH2(K:PySem.W.Frag):R2:=fun x y H Q=>∃p xs i v,x=.ref p/\y=.int i/\SqL K H p xs/\atI xs i=some v/\Q v H
noncomputable def bH0(K:PySem.W.Frag):R2:=fun x y H Q=>∃p xs i v,x=.ref p/\y=.int i/\SqT K H p xs/\atI xs i=some v/\Q v H
noncomputable def bH1:R2:=fun x y H Q=>∃z i c,x=.str z/\y=.int i/\z.length<=sizeLine/\atI z.cps.toList i=some c/\Q (.str ⟨#[c]⟩) H
theorem be9:IxR X (bH2 X.K):=by
 intro value slice pins s σ H x y v u Q I rx ry h hs;obtain⟨p,xs,i,z,rfl,rfl,hq,he,q⟩:=h;cases rx;obtain⟨t,rfl⟩:=ry;obtain⟨its,r,pl,hz⟩:=I.list hq;obtain⟨j,h1,h2,h3,h4,h5⟩:=ap6 he;obtain⟨w,ew,rw'⟩:=r.get h2;have hl:=r.length;have hn:=P9;have fin:EP X pins σ Q w s:=⟨z,H,I,rw',q⟩
 by_cases h0:0<=i
 ·have hj:i.toNat=j:=by
   rw[seqIndex_of h0 h5] at h1;exact Option.some.inj h1
  exact item_listR pl.isList h0 (by omega) (by rw[hj];simpa using ew) fin hs
 ·have hj:(i+(its.toArray.size:Int)).toNat=j:=by
   rw[seqIndex_neg (by omega) h4] at h1;rw[List.size_toArray,<- hl];exact Option.some.inj h1
  exact subscriptTail_builtinR (x:=w) pl.isList.typeIs slot_list_getitem.lookup
   (wpAny_getItem_list_neg (Q:=fun r s'=>r=w/\EP X pins σ Q r s') pl.isList (by omega) (by rw[List.size_toArray]<;>omega) (by omega) (by rw[hj];simpa using ew) ⟨rfl,fin⟩) hs
theorem br6:IxR X (bH0 X.K):=by
 intro value slice pins s σ H x y v u Q I rx ry h hs;obtain⟨p,xs,i,z,rfl,rfl,hq,he,q⟩:=h;cases rx;obtain⟨t,rfl⟩:=ry;obtain⟨its,r,pl,hz⟩:=I.tuple hq;obtain⟨j,h1,h2,h3,h4,h5⟩:=ap6 he;obtain⟨w,ew,rw'⟩:=r.get h2;have hl:=r.length;have hn:=P9;have fin:EP X pins σ Q w s:=⟨z,H,I,rw',q⟩
 exact subscriptTail_builtinR (x:=w) pl.typeIs slot_tuple_getitem.lookup
  (getItem_tuple (j:=j) (Q:=fun r s'=>r=w/\EP X pins σ Q r s') pl (by omega) (by omega) (by rw[List.size_toArray,<- hl];exact h1) (by simpa using ew) ⟨rfl,fin⟩) hs
theorem br7:IxR X bH1:=by
 intro value slice pins s σ H x y v u Q I rx ry h hs;obtain⟨z,i,c,rfl,rfl,hz,he,q⟩:=h;obtain⟨t,rfl⟩:=rx;obtain⟨t',rfl⟩:=ry;obtain⟨j,h1,h2,h3,h4,h5⟩:=ap6 he;have hl:z.cps.toList.length=z.length:=by simp[Str.length]
 rw[hl] at h1 h4 h5;have hn:=P9;exact tail_any (typeIs_str s z t) slot_str_getitem.lookup (getItem_str (c:=c) (by
  have e1:decide (i < -(2 ^ 63:Int))=false:=decide_eq_false (by omega);have e2:decide (i>=2 ^ 63)=false:=decide_eq_false (by omega);rw [e1,e2,Bool.or_false]) (by rw [h1];simpa using h2) ⟨.str ⟨#[c]⟩,H,I.tok _,⟨_,rfl⟩,q⟩) hs
theorem aL2(its:List Value)(n j:Nat)(u:Value):Obj.mapSeq (·.setIfInBounds j u) { cls:=.type "list",data:=.seq its.toArray n }={ cls:=.type "list",data:=.seq (its.set j u).toArray n }:=by
 simp[Obj.mapSeq]
theorem Inv.lst{pins:List (Addr×Obj)}{σ:St}{H:Hp}{s:Shared}{p:Addr}{xs:List V}(I:Inv X pins σ H s)(h:H p=some (.lst xs)) :
  ∃(its:List Value) (n:Nat),Vals xs its/\s.heap.get? p=some { cls:=.type "list",data:=.seq its.toArray n }/\xs.length<=sizeLine:=by
 obtain⟨z,its,n,r,e⟩:=I.hok p _ h;exact⟨its,n,r,e,z⟩
theorem Inv.bq5{pins:List (Addr×Obj)}{σ:St}{H:Hp}{s:Shared}{p:Addr}{xs ys:List V}{its its':List Value}{n n':Nat}{f:Obj->Obj}(I:Inv X pins σ H s)(h:H p=some (.lst xs))(ho:s.heap.get? p=some { cls:=.type "list",data:=.seq its.toArray n })(hf:f { cls:=.type "list",data:=.seq its.toArray n }={ cls:=.type "list",data:=.seq its'.toArray n' })(r:Vals ys its')(hz:ys.length<=sizeLine)(t:Nat) :
  Inv X pins σ (upd H p (.lst ys)) { s with heap:=s.heap.update p f,toks:=t }:=by
 have e:(s.heap.update p f).get? p=some { cls:=.type "list",data:=.seq its'.toArray n' }:=by
  rw[Heap.get?_update_self f ho (by rw[hf]<;>rfl),hf]
 refine I.write (x:=p) (e:=p) (by rw[h];trivial) (.inl rfl) (fun b u hb q=>(Heap.get?_update_other _ _ (Ne.symm hb)).trans q) ⟨_,e⟩ ?_;exact⟨hz,its',n',r,e⟩
noncomputable def bx4:V->V->V->Hp->(Hp->Prop)->Prop:=fun o i v H Q=>∃p xs k j,o=.ref p/\i=.int k/\H p=some (.lst xs)/\ixN xs.length k=some j/\Q (upd H p (.lst (xs.set j v)))
theorem set_list:a50 X bx4:=by
 intro pins s σ H o i v ov iv u Q I ro ri rv h;obtain⟨p,xs,k,j,rfl,rfl,hp,hj,q⟩:=h;cases ro;obtain⟨t,rfl⟩:=ri;obtain⟨its,n,r,ho,hz⟩:=I.lst hp;obtain⟨h1,h2,h3,h4⟩:=aG8 hj;have hl:=r.length;have hn:=P9;have I':Inv X pins σ (upd H p (.lst (xs.set j v))) { s with heap:=s.heap.update p (Obj.mapSeq (·.setIfInBounds j u)) } :=
  I.bq5 hp ho (aL2 its n j u) (r.set rv j) (by rw[List.length_set];exact hz) s.toks
 by_cases h0:0<=k
 ·have hk:k.toNat=j:=by
   rw[seqIndex_of h0 h4] at h1;exact Option.some.inj h1
  exact PySem.W.ki_setAt ho h0 (by omega) (by rw[List.size_toArray,<- hl];exact h4) (by rw[hk];exact⟨_,I',q⟩)
 ·have hk:(k+(its.toArray.size:Int)).toNat=j:=by
   rw[seqIndex_neg (by omega) h3] at h1;rw[List.size_toArray,<- hl];exact Option.some.inj h1
  exact PySem.W.ki_setBack ho (by omega) (by rw[List.size_toArray,<- hl];exact h3) (by omega) (by rw[hk];exact⟨_,I',q⟩)
theorem ax6(lo hi:Option Int)(n:Nat):(sliceBounds lo hi none n).1=((HT.sIx n 0 lo:Nat):Int)/\(sliceBounds lo hi none n).2.1=((HT.sIx n n hi:Nat):Int)/\(sliceBounds lo hi none n).2.2=1:=by
 refine⟨?_,?_,rfl⟩
 ·cases lo with
  |none=>simp[sliceBounds,HT.sIx]
  |some i =>
   simp only[sliceBounds,HT.sIx,Option.getD_none,show(1:Int)>0 by decide,if_true];by_cases h:i<0
   ·simp only[h,if_true]<;>omega
   ·simp only[h,if_false]<;>omega
 ·cases hi with
  |none=>simp[sliceBounds,HT.sIx]
  |some i =>
   simp only[sliceBounds,HT.sIx,Option.getD_none,show(1:Int)>0 by decide,if_true];by_cases h:i<0
   ·simp only[h,if_true]<;>omega
   ·simp only[h,if_false]<;>omega
theorem at1(its:List Value)(lo hi:Option Int):slicePick its.toArray lo hi none=((its.drop (HT.sIx its.length 0 lo)).take (HT.sIx its.length its.length hi-HT.sIx its.length 0 lo)).toArray:=by
 obtain⟨h1,h2,h3⟩:=ax6 lo hi its.toArray.size;unfold slicePick;rw[h1,h2,h3];simp only[sliceRange_one,pick_run,List.size_toArray]<;>rfl
noncomputable def bG7(K:PySem.W.Frag):V->Option Int->Option Int->Hp->VK->Prop:=fun x lo hi H Q=>∃a xs,x=.ref a/\SqL K H a xs/\∀p,H p=none->Q (.ref p) (upd H p (.lst (Q4 xs lo hi)))
theorem a99:SlR X (bG7 X.K):=by
 intro pins s σ H x v vl vu lo hi sl Q I rx hs pl pu h;obtain⟨a,xs,rfl,hx,q⟩:=h;cases rx;obtain⟨its,r,ht,hz⟩:=I.list hx;have hlen:=r.length;refine⟨"list",_,slot_list_getitem.lookup,ht.isList.typeIs,?_⟩;refine wpAny_getItem_list_slice ht.isList hs pl pu .none (by simp) ?_ (by rw[List.size_toArray]<;>omega);rw[at1,<- hlen];refine⟨.ref s.heap.objs.size,_,I.laid (t':=s.toks) (o:=.lst (Q4 xs lo hi)) (fun b ob q=>Heap.get?_push_of_some _ q) (Nat.le_refl _) ?_,rfl,q _ (I.hok.fresh (Nat.le_refl _))⟩;exact⟨Nat.le_trans (ag8 xs lo hi) hz,_,0,(r.drop (HT.sIx xs.length 0 lo)).take (HT.sIx xs.length xs.length hi-HT.sIx xs.length 0 lo),Heap.get?_push_size _ rfl⟩
noncomputable def eqV:V->V->Bool
 |.non,.non=>true
 |.bl a,.bl b=>a==b
 |.bl a,.int b=>(if a then 1 else 0)==b
 |.int a,.bl b=>a==(if b then 1 else 0)
 |.int a,.int b=>a==b
 |.str a,.str b=>a==b
 |_,_=>false
theorem aB4:l9 X (.builtin "len") (fun xs H Q=>∃p ys,xs=[.ref p]/\(SqL X.K H p ys\/SqT X.K H p ys)/\Q (.int ys.length) H):=by
 intro pins s σ H xs us Q I r h;obtain⟨p,ys,rfl,hq,q⟩:=h;obtain⟨u,rfl,rx⟩:=vals1 r;cases rx;have hn:=P9;rcases hq with hq|hq
 ·obtain⟨its,r',pl,hz⟩:=I.list hq;have hlen:=r'.length;exact Calls.call_len_list pl.isList (by simp only[List.size_toArray]<;>omega) ⟨.int ys.length,H,I.tok _,⟨s.toks+1,by rw[List.size_toArray,hlen]⟩,q⟩
 ·obtain⟨its,r',pl,hz⟩:=I.tuple hq;have hlen:=r'.length;exact len_tuple pl (by simp only[List.size_toArray]<;>omega) ⟨.int ys.length,H,I.tok _,⟨s.toks+1,by rw[List.size_toArray,hlen]⟩,q⟩
theorem aB3:l9 X (.builtin "len") (fun xs H Q=>∃z,xs=[.str z]/\z.length<=sizeLine/\Q (.int z.length) H):=by
 intro pins s σ H xs us Q I r h;obtain⟨z,rfl,hz,q⟩:=h;obtain⟨u,rfl,t,rfl⟩:=vals1 r;have hn:=P9;exact len_str (by omega) ⟨.int z.length,H,I.tok _,⟨_,rfl⟩,q⟩
theorem aB2:l9 X (.type "list") (fun xs H Q=>∃p ys,xs=[.ref p]/\(SqL X.K H p ys\/SqT X.K H p ys)/\∀l,H l=none->Q (.ref l) (upd H l (.lst ys))):=by
 intro pins s σ H xs us Q I r h;obtain⟨p,ys,rfl,hq,q⟩:=h;obtain⟨u,rfl,rx⟩:=vals1 r;cases rx;have fin:∀(its:List Value),Vals ys its->ys.length<=sizeLine->∀(h':Heap) (c':Nat),(∀b o',s.heap.get? b=some o'->h'.get? b=some o') ->
   h'.get? s.heap.objs.size=some { cls:=.type "list",dict:=none,data:=.seq its.toArray c',slots:=#[] }->EP X pins σ Q (.ref s.heap.objs.size) { s with heap:=h' }:=fun its r' hz h' c' kp e =>
  ⟨.ref s.heap.objs.size,_,I.laid (t':=s.toks) kp (Nat.le_refl _) (show l6 X.prog X.w _ h' _ (.lst ys) from⟨hz,its,c',r',e⟩),rfl,q _ (I.hok.fresh (Nat.le_refl _))⟩
 rcases hq with hq|hq
 ·obtain⟨its,r',pl,hz⟩:=I.list hq;have hlen:=r'.length;obtain⟨o,ho,hc,n,hd⟩:=pl.isList;exact call_list_seq p (.inl rfl) ho hc hd (fun h' c' kp e=>fin its r' hz h' c' kp e) (by simp only[List.size_toArray]<;>omega)
 ·obtain⟨its,r',pl,hz⟩:=I.tuple hq;have hlen:=r'.length;obtain⟨o,ho,hc,n,hd⟩:=pl;exact call_list_seq p (.inr rfl) ho hc hd (fun h' c' kp e=>fin its r' hz h' c' kp e) (by simp only[List.size_toArray]<;>omega)
theorem at9:l9 X (.type "tuple") (fun xs H Q=>∃p ys,xs=[.ref p]/\((SqL X.K H p ys/\∀l,H l=none->Q (.ref l) (upd H l (.tup ys)))\/(SqT X.K H p ys/\Q (.ref p) H))):=by
 intro pins s σ H xs us Q I r h;obtain⟨p,ys,rfl,h⟩:=h;obtain⟨u,rfl,rx⟩:=vals1 r;cases rx;rcases h with⟨hq,q⟩|⟨hq,q⟩
 ·obtain⟨its,r',pl,hz⟩:=I.list hq;have hlen:=r'.length;refine call_tuple_list pl.isList (fun h' kp=>?_) (by simp only[List.size_toArray]<;>omega);have I1:Inv X pins σ H { s with heap:=h' }:=I.kept (t':=s.toks) kp;have I2:Inv X pins σ (upd H h'.objs.size (.tup ys)) { s with heap:=h'.push { cls:=.type "tuple",data:=.seq its.toArray } } :=
   I1.laid (t':=s.toks) (fun b o e=>Heap.get?_push_of_some _ e) (Nat.le_refl _) (show l6 X.prog X.w _ _ _ (.tup ys) from⟨hz,its,r',F7.new _ _⟩)
  exact⟨.ref h'.objs.size,_,I2,rfl,q _ (I1.hok.fresh (Nat.le_refl _))⟩
 ·obtain⟨its,r',pl,hz⟩:=I.tuple hq;exact call_tuple_same pl ⟨.ref p,H,I,rfl,q⟩
noncomputable def tyV(K:PySem.W.Frag)(T:String)(x:V)(H:Hp):Prop:=match x with
 |.str _=>T="str"
 |.int _=>T="int"
 |.ref p=>(T="list"/\∃xs,SqL K H p xs)\/(T="tuple"/\∃o,K.lookup p=some o/\o.cls=.type "tuple"/\o.dict=none) \/
   (T="dict"/\((∃kvs,H p=some (.dK kvs))\/∃kvs,H p=some (.dT kvs)))\/(T="set"/\∃S n,H p=some (.set S n))
 |_=>False
theorem aO4{pins:List (Addr×Obj)}{σ:St}{H:Hp}{s:Shared}{T:String}{x:V}{v:Value}(I:Inv X pins σ H s)(r:RelV x v)(ty:tyV X.K T x H) :
  s.TypeIs v T/\∀a,v=.ref a->∃ob,s.heap.get? a=some ob/\ob.dict=none:=by
 cases x with
 |str z =>
  obtain⟨t,rfl⟩:=r;cases (show T="str" from ty);exact⟨typeIs_str s z t,fun _ e=>nomatch e⟩
 |int i =>
  obtain⟨t,rfl⟩:=r;cases (show T="int" from ty);exact⟨typeIs_int s i t,fun _ e=>nomatch e⟩
 |ref p =>
  cases r;rcases ty with⟨rfl,xs,hq⟩|⟨rfl,o,hk,hc,hd⟩|⟨rfl,hk⟩|⟨rfl,S,n,hk⟩
  ·obtain⟨its,_,pl,_⟩:=I.list hq;refine⟨pl.isList.typeIs,fun a e=>?_⟩;cases e;obtain⟨o,n,e,c,hd,_⟩:=pl;exact⟨o,e,hd⟩
  ·refine⟨⟨o,I.kIn p o hk,hc⟩,fun a e=>?_⟩;cases e;exact⟨o,I.kIn _ o hk,hd⟩
  ·have z:∃o,s.heap.get? p=some o/\o.ExactDict:=by
    rcases hk with⟨kvs,hk⟩|⟨kvs,hk⟩
    ·obtain⟨_,_,_,_,o,_,_,e,ex,_⟩:=I.hok p _ hk;exact⟨o,e,ex⟩
    ·obtain⟨_,_,_,_,o,_,_,e,ex,_⟩:=I.hok p _ hk;exact⟨o,e,ex⟩
   obtain⟨o,e,ex⟩:=z;refine⟨⟨o,e,ex.1⟩,fun a e2=>?_⟩;cases e2;exact⟨o,e,ex.2.1⟩
  ·obtain⟨o,_,_,_,e,ex,_⟩:=I.hok p _ hk;refine⟨⟨o,e,ex.1⟩,fun a e2=>?_⟩;cases e2;exact⟨o,e,ex.2.1⟩
 |_=>exact False.elim ty
noncomputable def bF5(K:PySem.W.Frag)(T:String)(r:V->List V->Hp->VK->Prop)(to:TE):TE:=fun σ H Q=>to σ H fun x H1=>tyV K T x H1/\r x [] H1 Q
noncomputable def tBM(K:PySem.W.Frag)(T:String)(r:V->List V->Hp->VK->Prop)(to:TE)(t:TA):TE:=fun σ H Q=>to σ H fun x H1=>tyV K T x H1/\t σ H1 fun xs H2=>r x xs H2 Q
variable{o e:Expr}{es:List Expr}{to:TE}{t:TA}{name:Str}{apos cpos:Pos}{T id:String}{r:V->List V->Hp->VK->Prop}
theorem bo3(pa:PlainAttrs T)(slot:Slot T name id)(hty:typeOf (.builtin id)=pure (.type "method_descriptor"))(hm:MtR X id r)(ho:PE X o to)(hbase:attributeBase o name X.env (eval o X.env)=eval o X.env:=by rfl)(hline:(apos.endLine==cpos.line)=true:=by rfl):PE X (.Call (.Attribute o name apos) [] [] cpos) (bF5 X.K T r to):=by
 intro pins s σ H Q I h;refine wpAny_Call_method0_late hbase hline (thn (ho pins s σ H _ I h) fun v s1 ⟨x,H1,I1,r1,ty,q1⟩=>?_);obtain⟨h1,h2⟩:=aO4 I1 r1 ty;exact⟨T,id,pa,slot,hty,h1,h2,Calls.callWith_builtin rfl (PySem.evalArgs_none (hm pins s1 σ H1 x [] v [] Q I1 r1 .nil q1))⟩
theorem by7(pa:PlainAttrs T)(slot:Slot T name id)(hty:typeOf (.builtin id)=pure (.type "method_descriptor"))(hm:MtR X id r)(ho:PE X o to)(ha:PA X (e::es) t)(hbase:attributeBase o name X.env (eval o X.env)=eval o X.env:=by rfl)(hfew:((backTo cpos (starEach (e :: es) X.env)).all (fun x=>!x.1) && (backToKw cpos (keywordEach [] X.env)).all (fun x=>x.1.isSome)
   && decide ((e :: es).length + ([]:List Keyword).length + (if ([]:List Keyword).isEmpty then 0 else 1) < 30))=true:=by rfl)(hline:(apos.endLine==cpos.line)=true:=by rfl)(hs:starEach (e::es) X.env=(false,eval e X.env)::starEach es X.env:=by rfl)(hplain:(backTo cpos (starEach es X.env)).any (·.1)=false:=by rfl) :
  PE X (.Call (.Attribute o name apos) (e::es) [] cpos) (tBM X.K T r to t):=by
 intro pins s σ H Q I h;refine wpAny_Call_method_late hbase hfew hline rfl (thn (ho pins s σ H _ I h) fun v s1 ⟨x,H1,I1,r1,ty,q1⟩=>?_);obtain⟨h1,h2⟩:=aO4 I1 r1 ty;refine⟨T,id,pa,slot,hty,h1,h2,?_⟩;have hA:=ha cpos pins s1 σ H1 _ I1 q1;rw[hs] at hA ⊢;refine Calls.callWith_builtin (by show(false||(backTo cpos (starEach es X.env)).any (·.1))=false;rw[hplain]<;>rfl) (Calls.evalArgs_plain ?_);exact thn hA fun us s2 ⟨vs,H2,I2,r2,q2⟩=>hm pins s2 σ H2 x vs v us Q I2 r1 r2 q2
end
end L2
namespace L2
open PySem PySem.Spec PyProof.Rows
noncomputable def MtM(X:Cx)(id:String)(r:V->List V->Hp->VK->Prop):Prop :=
 ∀(pins:List (Addr×Obj)) (s:Shared) (σ:St) (H:Hp) (x:V) (xs:List V) (v:Value) (us:List Value) (Q:VK),Inv X pins σ H s->RelV x v->Vals xs us->r x xs H Q ->
  wpAny (model X.prog X.w) X.A (call (.builtin id) (v::us)) (EP X pins σ Q) X.xe s
theorem Vals.one:∀{x:V} {us:List Value},Vals [x] us->∃u,us=[u]/\RelV x u
 |_,_,.cons r .nil=>⟨_,rfl,r⟩
theorem Vals.eraseIdx:∀{xs:List V} {us:List Value} (i:Nat),Vals xs us->Vals (xs.eraseIdx i) (us.eraseIdx i)
 |_,_,_,.nil=>.nil
 |_,_,0,.cons _ t=>t
 |_,_,i+1,.cons r t=>.cons r (Vals.eraseIdx i t)
theorem Vals.rep{xs:List V}{us:List Value}(h:Vals xs us):∀k:Nat,Vals (List.replicate k xs).flatten (List.replicate k us).flatten
 |0=>.nil
 |k+1=>by
  rw[List.replicate_succ,List.replicate_succ,List.flatten_cons,List.flatten_cons];exact Vals.append h (Vals.rep h k)
theorem ar6{α:Type}:∀(l:List α) (i:Nat),(l.eraseIdx i).length<=l.length
 |[],_=>Nat.le_refl _
 |_::_,0=>Nat.le_succ _
 |_::r,i+1=>Nat.succ_le_succ (ar6 r i)
theorem foldl_rep(its:List Value):∀(k:Nat) (acc:List Value),
  List.foldl (fun x1 x2=>x1++x2) acc.toArray (List.replicate k its.toArray)=(acc++(List.replicate k its).flatten).toArray
 |0,acc=>by simp
 |k+1,acc=>by
  have e:acc.toArray++its.toArray=(acc++its).toArray:=by simp
  have e2:(acc++its)++(List.replicate k its).flatten=acc++(List.replicate (k+1) its).flatten:=by
   rw[List.replicate_succ,List.flatten_cons,List.append_assoc]
  rw[<- e2,<- foldl_rep its k (acc++its),<- e,List.replicate_succ,List.foldl_cons]
section
variable{X:Cx}{pins:List (Addr×Obj)}{σ:St}{H:Hp}{s:Shared}{l b:Addr}{xs ys zs:List V}
theorem Inv.ao1{its its':List Value}{n:Nat}{f:Array Value->Array Value}{t':Nat}(I:Inv X pins σ H s)(hH:H l=some (.lst xs))(e:s.heap.get? l=some { cls:=.type "list",data:=.seq its.toArray n })(hf:f its.toArray=its'.toArray)(hv:Vals ys its')(hz:ys.length<=sizeLine) :
  Inv X pins σ (upd H l (.lst ys)) { s with heap:=s.heap.update l (Obj.mapSeq f),toks:=t' }:=by
 have q:=PySem.IsL.update e f;rw[hf] at q;refine I.write (x:=l) (e:=l) (by rw[hH];exact trivial) (.inl rfl) (fun b' u hb hu=>(Heap.get?_update_other s.heap (Obj.mapSeq f) (Ne.symm hb)).trans hu) ⟨_,q⟩ ?_;exact⟨hz,its',_,hv,q⟩
theorem Inv.bq8{its:List Value}{t':Nat}(I:Inv X pins σ H s)(hv:Vals ys its)(hz:ys.length<=sizeLine) :
  Inv X pins σ (upd H s.heap.objs.size (.lst ys)) { s with heap:=s.heap.push { cls:=.type "list",data:=.seq its.toArray },toks:=t' } :=
 I.laid (fun _ _ q=>Heap.get?_push_of_some _ q) (Nat.le_refl _) ⟨hz,its,0,hv,Heap.get?_push_size _ rfl⟩
theorem Inv.fresh(I:Inv X pins σ H s):H s.heap.objs.size=none:=I.hok.fresh (Nat.le_refl _)
theorem Inv.az2(I:Inv X pins σ H s)(hH:H l=some (.lst xs)):xs.length<=sizeLine/\∃(its:List Value) (n:Nat),Vals xs its/\xs.length=its.length/\s.heap.get? l=some { cls:=.type "list",data:=.seq its.toArray n }:=by
 obtain⟨z,its,n,r,e⟩:=I.hok l _ hH;exact⟨z,its,n,r,r.length,e⟩
theorem a15{n:Nat}(h:n<=sizeLine):Builtin.List.listTooLong n=false:=by
 unfold Builtin.List.listTooLong;exact decide_eq_false (by omega)
end
section
variable{X:Cx}
noncomputable def bb6:V->List V->Hp->VK->Prop:=fun x vs H Q=>∃l xs y,x=.ref l/\vs=[y]/\H l=some (.lst xs)/\xs.length<sizeLine/\Q .non (upd H l (.lst (xs++[y])))
theorem aS9:MtM X "list.append" bb6:=by
 intro pins s σ H x vs v us Q I rx rv h;obtain⟨l,xs,y,rfl,rfl,hH,hz,q⟩:=h;cases rx;obtain⟨u,rfl,ru⟩:=rv.one;obtain⟨z,its,n,r,hl,e⟩:=I.az2 hH;refine call_meets F.slot_list_append ⟨_,e,rfl⟩ F.entry_list_append (F.args_list_append_2 _ _) (PySem.list_append l its.toArray n u (by rw[List.size_toArray];omega)) ⟨e,?_⟩;refine⟨.non,_,I.ao1 (its':=its++[u]) hH e (by simp) (r.append (.cons ru .nil)) ?_,rfl,q⟩;rw[List.length_append,List.length_singleton];omega
noncomputable def bl9:V->List V->Hp->VK->Prop:=fun x vs H Q=>∃l xs i k y,x=.ref l/\vs=[.int i]/\H l=some (.lst xs)/\-(2 ^ 63)<=i/\i<2 ^ 63/\seqIndex? i xs.length=some k/\xs[k]?=some y/\Q y (upd H l (.lst (xs.eraseIdx k)))
theorem a19:MtM X "list.pop" bl9:=by
 intro pins s σ H x vs v us Q I rx rv h;obtain⟨l,xs,i,k,y,rfl,rfl,hH,h1,h2,hk,hy,q⟩:=h;cases rx;obtain⟨u,rfl,ru⟩:=rv.one;obtain⟨t,rfl⟩:=ru;obtain⟨z,its,n,r,hl,e⟩:=I.az2 hH;obtain⟨w,hw,rw'⟩:=r.get hy;refine call_meets F.slot_list_pop ⟨_,e,rfl⟩ F.entry_list_pop (F.args_list_pop_2 _ _)
  (MeetsSeq.list_pop_at l its.toArray n i t k w (fitsIndex_both h1 h2) (by rw[List.size_toArray,<- hl];exact hk) (by rw[<- Array.getElem?_toList];exact hw) (by rw[List.size_toArray];omega)) ⟨e,?_⟩
 refine⟨y,_,I.ao1 (its':=its.eraseIdx k) hH e ?_ (r.eraseIdx k) ?_,rw',q⟩
 ·show its.toArray.eraseIdxIfInBounds k=(its.eraseIdx k).toArray;rw[List.eraseIdxIfInBounds_toArray]
 ·have:=ar6 xs k;omega
noncomputable def bH3:R2:=fun x y H Q=>∃l b xs zs,x=.ref l/\y=.ref b/\H l=some (.lst xs)/\H b=some (.lst zs)/\xs.length+zs.length<=sizeLine/\∀p,H p=none->Q (.ref p) (upd H p (.lst (xs++zs)))
theorem bp5:OpR X (binaryOp .Add) bH3:=by
 intro pins s σ H x y v u Q I rx ry h;obtain⟨l,b,xs,zs,rfl,rfl,hH,hB,hz,q⟩:=h;cases rx;cases ry;obtain⟨z,its,n,r,hl,e⟩:=I.az2 hH;obtain⟨z2,its2,n2,r2,hl2,e2⟩:=I.az2 hB;refine PySem.P.add_list e e2 ?_ (by rw[List.size_toArray,List.size_toArray];omega);have ea:its.toArray++its2.toArray=(its++its2).toArray:=by simp
 rw[ea];exact⟨.ref _,_,I.bq8 (t':=s.toks) (r.append r2) (by rw[List.length_append];omega),rfl,q _ I.fresh⟩
noncomputable def bG9:R2:=fun x y H Q=>∃l k xs,x=.ref l/\y=.int k/\H l=some (.lst xs)/\-(2 ^ 63)<=k/\k<2 ^ 63/\xs.length*k.toNat<=sizeLine /\
 ∀p,H p=none->Q (.ref p) (upd H p (.lst (List.replicate k.toNat xs).flatten))
theorem len_rep{α:Type}(xs:List α)(k:Nat):(List.replicate k xs).flatten.length=k*xs.length:=by
 induction k with
 |zero=>simp
 |succ k ih=>rw[List.replicate_succ,List.flatten_cons,List.length_append,ih,Nat.succ_mul,Nat.add_comm]
theorem bp0:OpR X (binaryOp .Mult) bG9:=by
 intro pins s σ H x y v u Q I rx ry h;obtain⟨l,k,xs,rfl,rfl,hH,h1,h2,hz,q⟩:=h;cases rx;obtain⟨t,rfl⟩:=ry;obtain⟨z,its,n,r,hl,e⟩:=I.az2 hH;have hlen:its.toArray.size*k.toNat<=sizeLine:=by rw[List.size_toArray,<- hl];exact hz
 have hcap:¬its.toArray.size*k.toNat>(2 ^ 63-1) / 8:=by
  have:(sizeLine:Nat)<=(2 ^ 63-1) / 8:=by decide
  omega
 have hfit:¬(!Builtin.List.listFitsIndex k)=true:=by
  rw[fitsIndex_both h1 h2];exact Bool.false_ne_true
 have hlong:¬Builtin.List.listTooLong (its.toArray.size*k.toNat)=true:=by
  rw[a15 hlen];exact Bool.false_ne_true
 have hnew:List.foldl (fun x1 x2=>x1++x2) #[] (List.replicate (if its.toArray.isEmpty=true then 0 else k.toNat) its.toArray)=(List.replicate k.toNat its).flatten.toArray:=by
  have f0:∀m:Nat,List.foldl (fun x1 x2=>x1++x2) #[] (List.replicate m its.toArray)=(List.replicate m its).flatten.toArray:=fun m=>by
   have:=foldl_rep its m [];rw[List.nil_append] at this;exact this
  rw[f0];cases its with
  |nil=>simp
  |cons a r'=>rw[if_neg (by simp)]
 refine wpAny_binaryOp_repeat_ref (T:="list") (U:="int") (by decide) ⟨_,e,rfl⟩ (fun s'=>typeIs_int s' k t) noFill_list_mul F.fills_int_mul F.slot_int_rmul repeat_list F.slot_int_index.lookup
  (call_meets F.slot_int_rmul (typeIs_int s k t) F.entry_int_rmul (F.args_int_rmul_2 _ _) (int___rmul___int_list k t l its.toArray n)
   ⟨e,rfl,⟨_,e,rfl⟩,call_meets F.slot_list_mul ⟨_,e,rfl⟩ F.entry_list_mul (F.args_list_mul_2 _ _) (AutoListH.list___mul___list_int_3 l its.toArray n k t hfit hcap hlong) ⟨e,?_⟩⟩)
 rw[hnew];exact⟨.ref _,_,I.bq8 (t':=s.toks) (r.rep k.toNat) (by rw[len_rep,Nat.mul_comm];exact hz),rfl,q _ I.fresh⟩
end
section
variable{prog:Program}{w:World}{A:Around}{E:Value->Shared->Prop}{s:Shared}
end
section
variable{X:Cx}
end
end L2

namespace L2
open PySem PySem.Spec PyProof.Rows
section
variable{κ:Type}[DecidableEq κ]
noncomputable def J7(kvs:List (κ×V))(k:κ):Option V:=(kvs.find? fun kv=>decide (kv.1=k)).map (·.2)
noncomputable def putK(kvs:List (κ×V))(k:κ)(v:V):List (κ×V) :=
 if(kvs.any fun kv=>decide (kv.1=k))=true then kvs.map (fun kv=>if kv.1=k then(kv.1,v) else kv) else kvs++[(k,v)]
theorem ah1{p:κ×V}{r:List (κ×V)}{k:κ}(e:p.1=k):J7 (p::r) k=some p.2:=by simp[J7,List.find?_cons,e]
theorem ah2{p:κ×V}{r:List (κ×V)}{k:κ}(e:¬p.1=k):J7 (p::r) k=J7 r k:=by simp[J7,List.find?_cons,e]
theorem aw5(k:κ):∀kvs:List (κ×V),(kvs.any fun kv=>decide (kv.1=k))=(J7 kvs k).isSome
 |[]=>rfl
 |p::r=>by
  rw[List.any_cons];by_cases e:p.1=k
  ·simp only[ah1 e,decide_eq_true e,Bool.true_or,Option.isSome_some]
  ·rw[ah2 e,decide_eq_false e,Bool.false_or];exact aw5 k r
theorem T9(kvs:List (κ×V))(k:κ)(v:V):(putK kvs k v).length<=kvs.length+1:=by
 unfold putK;split
 ·rw[List.length_map];omega
 ·rw[List.length_append,List.length_cons,List.length_nil];omega
theorem E5.M8{o:Option V}{u:Option Value}(r:E5 o u):o.isSome=u.isSome:=by
 cases o with
 |none=>cases u with
  |none=>rfl
  |some _=>exact(show False from r).elim
 |some _=>cases u with
  |none=>exact(show False from r).elim
  |some _=>rfl
theorem E5.getD{o:Option V}{u:Option Value}{d:V}{d':Value}(r:E5 o u)(rd:RelV d d'):RelV (o.getD d) (u.getD d'):=by
 cases o with
 |none=>cases u with
  |none=>exact rd
  |some _=>exact(show False from r).elim
 |some _=>cases u with
  |none=>exact(show False from r).elim
  |some _=>exact r
theorem KV.val{kvs:List (κ×V)}{vs:List (κ×Value)}(r:KV kvs vs)(k:κ):E5 (J7 kvs k) (valueAt vs k):=by
 unfold KV at r
 induction r with
 |nil=>exact True.intro
 |@cons p q ps qs h t ih =>
  obtain⟨h1,h2⟩:=h;by_cases e:p.1=k
  ·have e':q.1=k:=h1.symm.trans e;have b:valueAt (q::qs) k=some q.2:=by simp[valueAt,List.find?_cons,e']
   rw[ah1 e,b];exact h2
  ·have e':¬q.1=k:=fun z=>e (h1.trans z);have b:valueAt (q::qs) k=valueAt qs k:=by simp[valueAt,List.find?_cons,e']
   rw[ah2 e,b];exact ih
theorem KV.any{kvs:List (κ×V)}{vs:List (κ×Value)}(r:KV kvs vs)(k:κ):(kvs.any fun kv=>decide (kv.1=k))=vs.any fun kv=>decide (kv.1=k):=by
 unfold KV at r
 induction r with
 |nil=>rfl
 |cons h t ih=>rw[List.any_cons,List.any_cons,ih,h.1]
theorem KV.aZ2{kvs:List (κ×V)}{vs:List (κ×Value)}(r:KV kvs vs)(k:κ){y:V}{u:Value}(ry:RelV y u) :
  KV (kvs.map fun kv=>if kv.1=k then(kv.1,y) else kv) (vs.map fun kv=>if kv.1=k then(kv.1,u) else kv):=by
 unfold KV at r ⊢
 induction r with
 |nil=>exact .nil
 |@cons p q ps qs h t ih =>
  rw[List.map_cons,List.map_cons];refine .cons ?_ ih;obtain⟨h1,h2⟩:=h;by_cases e:p.1=k
  ·rw[if_pos e,if_pos (h1.symm.trans e)];exact⟨h1,ry⟩
  ·rw[if_neg e,if_neg (fun z=>e (h1.trans z))];exact⟨h1,h2⟩
theorem KV.put{kvs:List (κ×V)}{vs:List (κ×Value)}(r:KV kvs vs)(k:κ){y:V}{u:Value}(ry:RelV y u):KV (putK kvs k y) (stored vs k u):=by
 unfold putK stored;rw[r.any k];by_cases e:(vs.any fun kv=>decide (kv.1=k))=true
 ·rw[if_pos e,if_pos e];exact r.aZ2 k ry
 ·rw[if_neg e,if_neg e];exact Paired.snoc r ⟨rfl,ry⟩
theorem KV.length{kvs:List (κ×V)}{vs:List (κ×Value)}(r:KV kvs vs):kvs.length=vs.length:=Paired.length r
end
theorem Y9{P:Program}{w:World}{k:Key}{u:Value}(r:RelV (kV k) u):(o8 P w).is k u=true:=by
 cases k with
 |inl i=>obtain⟨t,e⟩:=(show ∃t,u=Value.int i t from r);subst e;exact aD1 P w i t
 |inr x=>obtain⟨t,e⟩:=(show ∃t,u=Value.str x t from r);subst e;exact aD0 P w x t
theorem ar7{P:Program}{w:World}:∀{ks:List Key} {us:List Value},Vals (ks.map kV) us->ItemsAre (o8 P w) ks us
 |[],_,r=>by rw[List.map_nil] at r;cases r;exact .nil
 |k::ks,_,r=>by
  rw[List.map_cons] at r;cases r with
  |cons h t=>exact .cons (Y9 h) (ar7 t)
noncomputable abbrev KT(H:Hp):List (List Key×V)->List (List Key×Addr×Value)->Prop:=Paired fun p q=>p.1=q.1/\H q.2.1=some (.tup (p.1.map kV))/\RelV p.2 q.2.2
theorem KT.val{H:Hp}{kvs:List (List Key×V)}{xs:List (List Key×Addr×Value)}(r:KT H kvs xs)(k:List Key):E5 (J7 kvs k) ((atKey xs k).map (·.2)):=by
 induction r with
 |nil=>exact True.intro
 |@cons p q ps qs h t ih =>
  obtain⟨h1,_,h2⟩:=h;by_cases e:p.1=k
  ·have e':q.1=k:=h1.symm.trans e;have b:atKey (q::qs) k=some q.2:=by simp[atKey,List.find?_cons,e']
   rw[ah1 e,b];exact h2
  ·have e':¬q.1=k:=fun z=>e (h1.trans z);have b:atKey (q::qs) k=atKey qs k:=by simp[atKey,List.find?_cons,e']
   rw[ah2 e,b];exact ih
theorem KT.aZ2{H:Hp}{kvs:List (List Key×V)}{xs:List (List Key×Addr×Value)}(r:KT H kvs xs)(k:List Key){y:V}{u:Value}(ry:RelV y u) :
  KT H (kvs.map fun kv=>if kv.1=k then(kv.1,y) else kv) (xs.map (putAt k u)):=by
 induction r with
 |nil=>exact .nil
 |@cons p q ps qs h t ih =>
  rw[List.map_cons,List.map_cons];refine .cons ?_ ih;obtain⟨h1,h2,h3⟩:=h;unfold putAt;by_cases e:p.1=k
  ·rw[if_pos e,if_pos (h1.symm.trans e)];exact⟨h1,h2,ry⟩
  ·rw[if_neg e,if_neg (fun z=>e (h1.trans z))];exact⟨h1,h2,h3⟩
theorem KT.put{H:Hp}{kvs:List (List Key×V)}{xs:List (List Key×Addr×Value)}(r:KT H kvs xs)(k:List Key){b:Addr}{y:V}{u:Value}(hb:H b=some (.tup (k.map kV)))(ry:RelV y u) :
  KT H (putK kvs k y) (storedH xs k b u):=by
 have e:(kvs.any fun kv=>decide (kv.1=k))=(atKey xs k).isSome:=by
  rw[aw5,(r.val k).M8,Option.isSome_map]
 unfold putK storedH;rw[e];by_cases q:(atKey xs k).isSome=true
 ·rw[if_pos q,if_pos q];exact r.aZ2 k ry
 ·rw[if_neg q,if_neg q];exact Paired.snoc r ⟨rfl,hb,ry⟩
theorem KT.keeps{H H':Hp}{kvs:List (List Key×V)}{xs:List (List Key×Addr×Value)}(r:KT H kvs xs)(ht:∀b ys,H b=some (.tup ys)->H' b=some (.tup ys)):KT H' kvs xs :=
 Paired.a20 r fun _ _ z=>⟨z.1,ht _ _ z.2.1,z.2.2⟩
section
variable{P:Program}{w:World}{H:Hp}{h:Heap}{a:Addr}
theorem a61{u:HO}(ok:HOk P w H h)(e:Rd H a u):l6 P w H h a u:=e.ok ok
theorem Z4{kvs:List (Key×V)}(ok:HOk P w H h)(e:Rd H a (.dK kvs)):kvs.length<=sizeLine/\(a==sysModules)=false/\∃vs,KV kvs vs/\h.DictOf (o8 P w) a vs :=
 show l6 P w H h a (.dK kvs) from a61 ok e
theorem a72{kvs:List (Key×V)}(ok:HOk P w H h)(e:H a=some (.dK kvs)):kvs.length<=sizeLine/\(a==sysModules)=false/\∃vs,KV kvs vs/\h.DictOf (o8 P w) a vs:=Z4 ok (.inl e)
theorem V1{ks:List Key}(ok:HOk P w H h)(e:H a=some (.tup (ks.map kV))):(tupleKind (o8 P w)).is h ks a:=by
 obtain⟨_,its,r,o,h1,h2,⟨n,h3⟩,_⟩:=(show l6 P w H h a (.tup (ks.map kV)) from ok a _ e)
 exact⟨o,its.toArray,n,h1,h2,h3,by simpa using ar7 r⟩
theorem af1{kvs:List (List Key×V)}(ok:HOk P w H h)(e:Rd H a (.dT kvs)):kvs.length<=sizeLine/\(a==sysModules)=false /\
  ∃xs,KT H kvs xs/\h.DictOfH (tupleKind (o8 P w)) a xs:=by
 obtain⟨z,y,xs,r,o,es,ep,h1,h2,h3,h4,h5⟩:=(show l6 P w H h a (.dT kvs) from a61 ok e)
 refine⟨z,y,xs,r,o,es,ep,h1,h2,h3,h4,fun x hx=>?_,h5⟩;have all:∀{l:List (List Key×V)} {m:List (List Key×Addr×Value)},KT H l m->∀x∈m,(tupleKind (o8 P w)).is h x.1 x.2.1:=by
  intro l m q
  induction q with
  |nil=>intro x hx;exact nomatch hx
  |@cons p q ps qs hq t ih =>
   intro x hx;rcases List.mem_cons.mp hx with e|hx
   ·subst e;exact V1 ok (by rw[<- hq.1];exact hq.2.1)
   ·exact ih x hx
 exact all r x hx
theorem bC0{kvs:List (List Key×V)}(ok:HOk P w H h)(e:H a=some (.dT kvs)):kvs.length<=sizeLine/\(a==sysModules)=false /\
  ∃xs,KT H kvs xs/\h.DictOfH (tupleKind (o8 P w)) a xs:=af1 ok (.inl e)
end
noncomputable def N1(H:Hp)(a:Addr)(y:V)(r:Option V):Prop :=
 (∃kvs k,Rd H a (.dK kvs)/\y=kV k/\r=J7 kvs k)\/∃kvs k b,Rd H a (.dT kvs)/\y=.ref b/\H b=some (.tup (k.map kV))/\r=J7 kvs k
noncomputable def aO0(H:Hp)(a:Addr)(y v:V)(H':Hp):Prop :=
 (∃kvs k,H a=some (.dK kvs)/\y=kV k/\kvs.length<sizeLine/\H'=upd H a (.dK (putK kvs k v))) \/
 ∃kvs k b,H a=some (.dT kvs)/\y=.ref b/\H b=some (.tup (k.map kV))/\kvs.length<sizeLine/\H'=upd H a (.dT (putK kvs k v))
theorem N1.k{H:Hp}{a:Addr}{kvs:List (Key×V)}{k:Key}(e:H a=some (.dK kvs)):N1 H a (kV k) (J7 kvs k):=.inl ⟨kvs,k,.inl e,rfl,rfl⟩
theorem aO0.k{H:Hp}{a:Addr}{kvs:List (Key×V)}{k:Key}{v:V}(e:H a=some (.dK kvs))(hl:kvs.length<sizeLine):aO0 H a (kV k) v (upd H a (.dK (putK kvs k v))):=.inl ⟨kvs,k,e,rfl,hl,rfl⟩
section
variable{X:Cx}{pins:List (Addr×Obj)}{σ:St}{H:Hp}{s:Shared}{a:Addr}{y v:V}{u r:Value}{o:Option V}{A:Around}{E:Value->Shared->Prop}
theorem Inv.big(I:Inv X pins σ H s):sysModules<s.heap.objs.size:=by
 have h:mainGlobals<s.heap.objs.size:=(I.mod.glob.keeps I.bk).lt;exact Nat.lt_trans (by decide) h
theorem aV0{Q:Value->Shared->Prop}(hu:A.units+1<cLine)(I:Inv X pins σ H s)(g:N1 H a y (some v))(ry:RelV y u)(h:∀w' s',Inv X pins σ H s'->RelV v w'->Q w' s') :
  wpAny (model X.prog X.w) A (getItem (.ref a) u) Q E s:=by
 rcases g with⟨kvs,k,e,ey,l⟩|⟨kvs,k,b,e,ey,eb,l⟩
 ·subst ey;obtain⟨z,hd,vs,rel,dd⟩:=Z4 I.hok e;obtain⟨w',hw,rw'⟩:=E5.some_of (v:=v) (o:=valueAt vs k) (by rw[l];exact rel.val k);exact wpAny_getItem_of (Y9 ry) dd.mapOf hw (h w' _ (I.tok _) rw')
 ·subst ey;cases (show u=Value.ref b from ry);obtain⟨z,hd,xs,rel,dd⟩:=af1 I.hok e;obtain⟨w',hw,rw'⟩:=E5.some_of (v:=v) (o:=(atKey xs k).map (·.2)) (by rw[l];exact rel.val k);obtain⟨p,hp,hp2⟩:=Option.map_eq_some_iff.mp hw;refine wpAny_getItem_heap (tupleKind_room_in1 hu) (V1 I.hok eb) dd hp ?_;rw[hp2];exact h w' _ (I.tok _) rw'
theorem bJ8{Q:Value->Shared->Prop}(hu:A.units+1<cLine)(I:Inv X pins σ H s)(g:N1 H a y o)(ry:RelV y u)(h:∀s',Inv X pins σ H s'->Q (.bool o.isSome) s') :
  wpAny (model X.prog X.w) A (compareOp .In u (.ref a)) Q E s:=by
 rcases g with⟨kvs,k,e,ey,l⟩|⟨kvs,k,b,e,ey,eb,l⟩
 ·subst ey;obtain⟨z,hd,vs,rel,dd⟩:=Z4 I.hok e;refine wpAny_in_of (Y9 ry) hd dd.mapOf ?_;rw[<- (rel.val k).M8,<- l];exact h _ (I.tok _)
 ·subst ey;cases (show u=Value.ref b from ry);obtain⟨z,hd,xs,rel,dd⟩:=af1 I.hok e;refine wpAny_in_heap (tupleKind_room_in1 hu) (V1 I.hok eb) hd dd ?_;have q:=(rel.val k).M8;rw[Option.isSome_map] at q;rw[<- q,<- l];exact h _ (I.tok _)
theorem bg0{Q:Value->Shared->Prop}(hu:A.units+1<cLine)(I:Inv X pins σ H s)(g:N1 H a y o)(ry:RelV y u)(h:∀s',Inv X pins σ H s'->Q (.bool (!o.isSome)) s') :
  wpAny (model X.prog X.w) A (compareOp .NotIn u (.ref a)) Q E s:=by
 rcases g with⟨kvs,k,e,ey,l⟩|⟨kvs,k,b,e,ey,eb,l⟩
 ·subst ey;obtain⟨z,hd,vs,rel,dd⟩:=Z4 I.hok e;refine wpAny_notIn_of (Y9 ry) hd dd.mapOf ?_;rw[<- (rel.val k).M8,<- l];exact h _ (I.tok _)
 ·subst ey;cases (show u=Value.ref b from ry);obtain⟨z,hd,xs,rel,dd⟩:=af1 I.hok e;refine wpAny_notIn_heap (tupleKind_room_in1 hu) (V1 I.hok eb) hd dd ?_;have q:=(rel.val k).M8;rw[Option.isSome_map] at q;rw[<- q,<- l];exact h _ (I.tok _)
theorem ap0{h':Heap}{t':Nat}{ob:HO}(I:Inv X pins σ H s)(mu:Mut (H a))(hs:Heap.SameBut a s.heap h')(he:∃q,h'.get? a=some q)(new:l6 X.prog X.w (upd H a ob) h' a ob) :
  Inv X pins σ (upd H a ob) { s with heap:=h',toks:=t' } :=
 I.write (x:=a) (e:=a) mu (.inl rfl) (fun b q hb z=>(hs.2 b hb).trans z) he new
theorem aU8{P:Program}{w:World}{H':Hp}{h':Heap}{kvs:List (Key×V)}{vs:List (Key×Value)}(z:kvs.length<=sizeLine)(hd:(a==sysModules)=false)(rel:KV kvs vs)(dd:h'.DictOf (o8 P w) a vs) :
  l6 P w H' h' a (.dK kvs):=⟨z,hd,vs,rel,dd⟩
theorem aU9{H':Hp}{Q:Unit->Shared->Prop}(hu:A.units+1<cLine)(I:Inv X pins σ H s)(g:aO0 H a y v H')(ry:RelV y u)(rv:RelV v r)(h:∀s',Inv X pins σ H' s'->Q () s') :
  wpAny (model X.prog X.w) A (setItem (.ref a) u r) Q E s:=by
 rcases g with⟨kvs,k,e,ey,l,eH⟩|⟨kvs,k,b,e,ey,eb,l,eH⟩
 ·subst ey eH;obtain⟨z,hd,vs,rel,dd⟩:=a72 I.hok e;have hz:vs.length<=sizeLine:=by rw[<- rel.length];exact z
  have hl:(putK kvs k v).length<=sizeLine:=by have:=T9 kvs k v;omega
  refine wpAny_setItem_pairs (hsz:=hz) (Y9 ry) dd fun h' dd' hs=>h _ ?_;have he:∃q,h'.get? a=some q:=let ⟨q,_,_,hq,_⟩:=dd';⟨q,hq⟩
  exact ap0 I (by rw[e];exact True.intro) hs he (aU8 hl hd (rel.put k rv) dd')
 ·subst ey eH;cases (show u=Value.ref b from ry);obtain⟨z,hd,xs,rel,dd⟩:=bC0 I.hok e;have hz:xs.length<=sizeLine:=by rw[<- Paired.length rel];exact z
  have hl:(putK kvs k v).length<=sizeLine:=by have:=T9 kvs k v;omega
  refine wpAny_setItem_heap (hsz:=hz) (tupleKind_room_in1 hu) (V1 I.hok eb) dd fun h' dd' hs=>h _ ?_;obtain⟨q,es,ep,hq,h2,h3,h4,_,h5⟩:=dd';refine ap0 I (by rw[e];exact True.intro) hs ⟨q,hq⟩ ⟨hl,hd,_,(rel.put k eb rv).keeps fun c ys ec=>?_,q,es,ep,hq,h2,h3,h4,h5⟩;rw[f7 (bz7 ec e (fun z=>nomatch z))];exact ec
end
section
variable{X:Cx}{pins:List (Addr×Obj)}{σ:St}{H:Hp}{s:Shared}{a:Addr}{kvs:List (Key×V)}{k:Key}{u:Value}{A:Around}{E:Value->Shared->Prop}
theorem bC2{Q:Value->Shared->Prop}(I:Inv X pins σ H s)(e:Rd H a (.dK kvs))(h:∀t s',Inv X pins σ H s'->Q (.int kvs.length t) s'):wpAny (model X.prog X.w) A (call (.builtin "len") [.ref a]) Q E s:=by
 obtain⟨z,hd,vs,rel,dd⟩:=Z4 I.hok e;refine call_len_dict hd dd (by rw[<- rel.length];rw[sizeLine_eq] at z;omega) ?_;rw[<- rel.length];exact h _ _ (I.tok _)
end
theorem aD7{X:Cx}{pins:List (Addr×Obj)}{σ:St}{H:Hp}{s:Shared}{a:Addr}{y:V}{o:Option V}(I:Inv X pins σ H s)(g:N1 H a y o):s.TypeIs (.ref a) "dict":=by
 rcases g with⟨kvs,k,e,_,_⟩|⟨kvs,k,b,e,_,_,_⟩
 ·obtain⟨_,_,vs,_,dd⟩:=Z4 I.hok e;exact dd.typeIs
 ·obtain⟨_,_,xs,_,dd⟩:=af1 I.hok e;exact dd.typeIs
section
variable{X:Cx}{o i e value:Expr}{pos pos' tpos:Pos}{td ty tv:TE}
end
theorem aA5{P:Program}{w:World}{H:Hp}(h:Heap)(hb:sysModules<h.objs.size):l6 P w H (h.push { cls:=.type "dict",data:=.dict #[] }) h.objs.size (.dK []) :=
 ⟨Nat.zero_le _,beq_eq_false_iff_ne.mpr (Ne.symm (Nat.ne_of_lt hb)),[],.nil,Heap.DictOf.new h⟩
noncomputable def bi5:TE:=fun _ H Q=>∀p,H p=none->Q (.ref p) (upd H p (.dK []))
section
variable{X:Cx}{pos:Pos}
theorem a11:PE X (.Dict [] [] pos) bi5:=fun pins s σ H Q I h =>
 wpAny_Dict_empty ⟨.ref s.heap.objs.size,_,I.laid (a:=s.heap.objs.size) (o:=.dK []) (t':=s.toks) (fun _ _ q=>Heap.get?_push_of_some _ q) (Nat.le_refl _) (aA5 s.heap I.big),rfl,h _ (I.hok.fresh (Nat.le_refl _))⟩
end
noncomputable def aj3:List (TE×TE)->St->Hp->(List (V×V)->Hp->Prop)->Prop
 |[],_,H,Q=>Q [] H
 |(tk,tv)::r,σ,H,Q=>tk σ H fun x H1=>tv σ H1 fun y H2=>aj3 r σ H2 fun ps H3=>Q ((x,y)::ps) H3
noncomputable abbrev VV:List (V×V)->List (Value×Value)->Prop:=Paired fun p q=>RelV p.1 q.1/\RelV p.2 q.2
noncomputable def PPs(X:Cx)(pos:Pos)(keys:List (Option Expr))(values:List Expr)(trs:List (TE×TE)):Prop :=
 ∀(pins:List (Addr×Obj)) (s:Shared) (σ:St) (H:Hp) (Q:List (V×V)->Hp->Prop),Inv X pins σ H s->aj3 trs σ H Q ->
  wpAny (model X.prog X.w) X.A (evalPairs (pairTrees keys values X.env pos)) (fun vs s'=>∃ps H',Inv X pins σ H' s'/\VV ps vs/\Q ps H') X.xe s
theorem bc4{X:Cx}{pos:Pos}:PPs X pos [] [] []:=fun pins s σ H Q I h=>pairTrees_nil_walk ⟨[],H,I,.nil,h⟩
theorem a03{X:Cx}{pos:Pos}{k v:Expr}{ks:List (Option Expr)}{vs:List Expr}{tk tv:TE}{trs:List (TE×TE)}(hk:PE X k tk)(hv:PE X v tv)(hr:PPs X pos ks vs trs) :
  PPs X pos (some k::ks) (v::vs) ((tk,tv)::trs):=fun pins s σ H Q I h =>
 pairTrees_cons_walk (thn (hk pins s σ H _ I h) fun u s1 ⟨x,H1,I1,rx,q1⟩=>thn (hv pins s1 σ H1 _ I1 q1) fun w2 s2 ⟨y,H2,I2,ry,q2⟩ =>
  thn (hr pins s2 σ H2 _ I2 q2) fun ws s3 ⟨ps,H3,I3,rel,q3⟩=>⟨(x,y) :: ps,H3,I3,.cons ⟨rx,ry⟩ rel,q3⟩)
noncomputable def P6(kvs more:List (Key×V)):List (Key×V):=more.foldl (fun acc kv=>putK acc kv.1 kv.2) kvs
theorem KV.merge:∀{more:List (Key×V)} {rs:List (Key×Value)} {kvs:List (Key×V)} {vs:List (Key×Value)},KV more rs->KV kvs vs->KV (P6 kvs more) (merged vs rs):=by
 intro more rs kvs vs r;unfold KV at r
 induction r generalizing kvs vs with
 |nil=>intro q;exact q
 |@cons p q ps qs h t ih =>
  intro r0;have e:KV (putK kvs p.1 p.2) (stored vs q.1 q.2):=by
   have:=r0.put p.1 h.2;rw[<- h.1];exact this
  exact ih e
theorem aa5:∀(more kvs:List (Key×V)),(P6 kvs more).length<=kvs.length+more.length
 |[],kvs=>by show kvs.length<=kvs.length+0;omega
 |p::r,kvs=>by
  have h1:=aa5 r (putK kvs p.1 p.2);have h2:=T9 kvs p.1 p.2;show(P6 (putK kvs p.1 p.2) r).length<=_;rw[List.length_cons];omega
theorem am2{P:Program}{w:World}:∀{kvs:List (Key×V)} {ws:List (Value×Value)},VV (kvs.map fun kv=>(kV kv.1,kv.2)) ws->∃rs,Carries (o8 P w) ws rs/\KV kvs rs
 |[],_,r=>by rw[List.map_nil] at r;cases r;exact⟨[],True.intro,.nil⟩
 |p::kvs,_,r=>by
  rw[List.map_cons] at r;cases r with
  |@cons a b as bs h t =>
   obtain⟨rs,c,q⟩:=am2 (P:=P) (w:=w) t;obtain⟨b1,b2⟩:=b;exact⟨(p.1,b2)::rs,⟨Y9 h.1,rfl,c⟩,.cons ⟨rfl,h.2⟩ q⟩
noncomputable def bw2(trs:List (TE×TE)):TE:=fun σ H Q=>∀p,H p=none->aj3 trs σ (upd H p (.dK [])) fun ps H2=>H2 p=some (.dK [])/\∃kvs:List (Key×V),ps=kvs.map (fun kv=>(kV kv.1,kv.2))/\kvs.length<=15/\Q (.ref p) (upd H2 p (.dK (P6 [] kvs)))
theorem bd0{X:Cx}{pos:Pos}{keys:List (Option Expr)}{values:List Expr}{trs:List (TE×TE)}(h:PPs X pos keys values trs)(hall:keys.all (·.isSome)=true)(hl:keys.length=values.length)(h0:keys≠[])(h15:keys.length<=15):PE X (.Dict keys values pos) (bw2 trs):=by
 intro pins s σ H Q I q;have hn:=I.hok.fresh (Nat.le_refl s.heap.objs.size);have I1:=I.laid (a:=s.heap.objs.size) (o:=.dK []) (h':=s.heap.push { cls:=.type "dict",data:=.dict #[] }) (t':=s.toks) (fun _ _ q=>Heap.get?_push_of_some _ q) (Nat.le_refl _) (aA5 s.heap I.big);refine wpAny_Dict_walk (knd:=o8 X.prog X.w) hall hl h0 h15 (thn (h pins _ σ _ _ I1 (q _ hn)) fun ws s2 ⟨ps,H2,I2,rel,e,kvs,ep,lk,q2⟩=>?_);subst ep;obtain⟨rs,c,rk⟩:=am2 (P:=X.prog) (w:=X.w) rel;obtain⟨z,hd,vs0,r0,dd⟩:=a72 I2.hok e;cases r0;refine⟨rs,c,dd,fun h' dd' hs=>⟨.ref s.heap.objs.size,_,?_,rfl,q2⟩⟩;have hz:(P6 [] kvs).length<=sizeLine:=by
  have h1:=aa5 kvs [];rw[List.length_nil] at h1;rw[sizeLine_eq];omega
 have he:∃q,h'.get? s.heap.objs.size=some q:=let ⟨q,_,_,hq,_⟩:=dd';⟨q,hq⟩
 exact ap0 I2 (by rw[e];exact True.intro) hs he (aU8 hz hd (rk.merge .nil) dd')
section
variable{X:Cx}{pins:List (Addr×Obj)}{σ:St}{H:Hp}{s:Shared}{a:Addr}{y d:V}{u r:Value}{o:Option V}{A:Around}{E:Value->Shared->Prop}
theorem bt4{Q:Value->Shared->Prop}(hu:A.units+1<cLine)(I:Inv X pins σ H s)(g:N1 H a y o)(ry:RelV y u)(rd:RelV d r)(h:∀w' s',Inv X pins σ H s'->RelV (o.getD d) w'->Q w' s') :
  wpAny (model X.prog X.w) A (call (.builtin "dict.get") [.ref a,u,r]) Q E s:=by
 rcases g with⟨kvs,k,e,ey,l⟩|⟨kvs,k,b,e,ey,eb,l⟩
 ·subst ey;obtain⟨z,hd,vs,rel,dd⟩:=Z4 I.hok e;refine call_meetsIn PySem.F.slot_dict_get dd.typeIs PySem.F.entry_dict_get (PySem.F.args_dict_get_3 _ _ _) (meets_dict_get_default (o8 X.prog X.w) a (Y9 ry) hd r) ⟨_,dd.mapOf,h _ _ (I.tok _) ?_⟩;rw[l];exact(rel.val k).getD rd
 ·subst ey;cases (show u=Value.ref b from ry);obtain⟨z,hd,xs,rel,dd⟩:=af1 I.hok e;refine call_meetsIn PySem.F.slot_dict_get dd.typeIs PySem.F.entry_dict_get (PySem.F.args_dict_get_3 _ _ _) (meetsH_dict_get_default (tupleKind (o8 X.prog X.w)) a b hd r) ⟨tupleKind_room_in1 hu,k,xs,V1 I.hok eb,dd,h _ _ (I.tok _) ?_⟩;rw[l];exact(rel.val k).getD rd
end
section
variable{X:Cx}{o e f:Expr}{apos cpos:Pos}{td ty tx:TE}
end
section
variable{X:Cx}{pins:List (Addr×Obj)}{σ:St}{H:Hp}{s:Shared}{a:Addr}{kvs:List (Key×V)}{A:Around}{E:Value->Shared->Prop}
end
section
variable{X:Cx}{pins:List (Addr×Obj)}{σ:St}{H:Hp}{s:Shared}{a:Addr}{y:V}{u:Value}{A:Around}{E:Value->Shared->Prop}
end
end L2

namespace Att
open PySem PySem.W PySem.Calls PyProof.Rows
theorem al0{P:Params}{h:Heap}:∀(ns:List Int) (vs:List Value),WellAll P h vs (ns.map WData.int)->IntsAre vs ns:=by
 intro ns
 induction ns with
 |nil =>
  intro vs w;rw[List.map_nil] at w;cases w;exact .nil
 |cons n ns ih =>
  intro vs w;rw[List.map_cons] at w;cases w with
  |cons a b =>
   cases a;exact .cons _ _ (ih _ b)
theorem aQ2{l:OpenLaw}{n:Nat}(hn:l.most=some n){P:Params}{h:Heap}{args:List WData}{vals:List Value}(hpre:l.row.toRowW.claim.pre args=true)(hwl:WellAll P h vals args) :
  ∃a vs ns,vals=[Value.ref a]/\args=[WData.list (ns.map WData.int)]/\h.get? a=some { cls:=.type "list",data:=.seq vs.toArray }/\IntsAre vs ns/\ns.length<=n:=by
 have hsh:WShape.hasAll [] args [.list .int]=true:=(pre_splitW hpre).1;have hc:l.pre.holds [] { args:=args }=true:=(pre_splitW hpre).2;obtain⟨d,r,rfl,h1,h2⟩:=hasAllW_cons hsh;obtain rfl:=hasAllW_nil h2;obtain⟨xs,rfl,h3⟩:=hasW_list h1;obtain⟨ns,rfl⟩:=items_int h3;have hlen:ns.length<=n:=by
  unfold OpenLaw.pre at hc;have h4:(WTm.not (.lt (.lit (.int (n:Int))) (.len (.arg 0)))).holds [] { args:=[.list (ns.map .int)] }=true:=by
   have h4:=(holds_andW hc).1;rw[hn] at h4;exact h4
  have h5:=condW_of h4 (w_not (w_lt w_lit (w_len_list (w_arg rfl))));rw[List.length_map] at h5;refine Nat.le_of_not_lt fun q=>?_;have q':(n:Int)<((ns.length:Nat):Int):=by omega
  first
   |(rw[decide_eq_true q'] at h5;exact absurd h5 (by decide))
   |(simp at h5;omega)
 cases hwl with
 |cons w1 w2 =>
  cases w2;cases w1 with
  |list ho hall=>exact⟨_,_,ns,rfl,rfl,ho,al0 ns _ hall,hlen⟩
theorem aR0(l:OpenLaw)(args:List WData):l.row.toRowW.claim.post args (.bool true) args=true :=
 postW_of (r:=l.row.toRowW) (X:=(true==true))
  (show WShape.has [] (.bool true) .bool=true by first|rfl|decide|simp[WShape.has,WShape.arms,WShape.armsAll])
  (show(WTm.eq .res (.lit (.bool true))).value [] { args:=args,res:=some (.bool true),after:=args }=some (.bool (true==true)) from w_eq_bool (w_res rfl) w_lit) rfl
theorem aE1{l:OpenLaw}{n:Nat}{q:Program}{loose:List Str}{XP:(Str->Option Value)->Heap->Prop}{YP:World->Heap->Prop}{d:DefRec}(hn:l.most=some n)(hdf:d.params.defaults=[])(call:∀ (w:World) (s₀ s₁:Shared) (mg mb:Str->Option Value) (fa:Addr) (o:Obj) (pm cd doc:Value) (a:Addr) (vs:List Value) (ns:List Int),
   Ground q loose [] XP w s₀ mg mb s₁.heap->YP w s₁.heap ->
   s₁.heap.get? fa=some o->o.data=.func (docDef d.name d.params d.body d.scope pm cd doc)->s₁.heap.CodeRec cd d.name->mg d.name=some (.ref fa) ->
   s₁.heap.get? a=some { cls:=.type "list",data:=.seq vs.toArray }->IntsAre vs ns->ns.length<=n->s₁.gens=#[] ->
   codeAny (model l.prog w) callerA (.call (.ref fa) ⟨[.ref a],[]⟩) (fun r s'=>r=.ok (.ret (.bool true))/\OldK s₁.heap s'.heap/\s'.os=s₁.os/\AllBare s'.gens) s₁) :
  WalkO q loose XP YP l.row.toRowW d [] (fun f vs=>PySem.call f vs):=by
 intro w s₀ s₁ mg mb G Y fa o pm cd doc dV kV ho hd hcd hD hmg hg args vals as hpre hlay hrd hwl hlo;obtain rfl:dV=.none:=Dflts.none hD hdf;obtain rfl:kV=.none:=Dflts.noKw hD;obtain⟨a,vs,ns,rfl,rfl,hobj,hints,hlen⟩:=aQ2 hn hpre hwl;refine enter_call (codeAny_mono (call w s₀ s₁ mg mb fa o pm cd doc a vs ns G Y ho (fd_plain hd) hcd hmg hobj hints hlen hg) fun r s' hq=>?_);obtain⟨rfl,h2,h3,h4⟩:=hq;exact⟨.inl ⟨.bool true,.bool true,[],rfl,fun _=>rfl,.bool true,aR0 l _,fun _=>⟨List.Pairwise.nil,fun _ hm=>(nomatch hm)⟩⟩,h2,h3,h4⟩
section
variable{prog:Program}{w:World}{A:Around}{E:Value->Shared->Prop}{s:Shared}{K:Frag}
end
end Att
namespace L2
open PySem PySem.Spec PyProof.Rows
theorem aq5:∀{vs:List Value} {ns:List Int},IntsAre vs ns->Vals (ns.map V.int) vs
 |_,_,.nil=>.nil
 |_,_,.cons n t h=>.cons ⟨t,rfl⟩ (aq5 h)
noncomputable def aN8(H:Hp):Prop:=∀b,H b=none\/∃o xs,H b=some (.frz o (.lst xs))
theorem a24{P:Program}{w:World}{K:PySem.W.Frag}{mg mb:Str->Option Value}{CX:CXT}{k:Nat}{fa a:Addr}{fd:FuncData}{x:Str}{sp:Sp}{s₁:Shared}{vs:List Value}{ns:List Int}(KX:K.In s₁.heap)(hns:s₁.heap.Ns mainGlobals mg)(hb:s₁.heap.Ns builtinsNs mb)(hbb:∀x:Str,x≠"__name__"->mb x=bootBuiltins x)(hlim:s₁.heap.NoLimit)(hg:s₁.gens=#[])(ha:s₁.heap.get? a=some { cls:=.type "list",data:=.seq vs.toArray })(hi:IntsAre vs ns)(hl:ns.length<=sizeLine)(hr:u9 k callerA)(F:∀base:Heap,K.In base->base.Ns mainGlobals mg->FnOk P w K mg base CX k fa fd [x] sp)(hbind:∀(s:Shared) (u:Value),BindsTo s fd ⟨[u],[]⟩ [(x,u)])(hsp:∀H:Hp,aN8 H->SqL K H a (ns.map V.int)->sp [.ref a] H (fun v _=>v=.bl true) fun _ _ _=>False)(hCX:∀H e s',CX [] H s₁ (fun _ _ _=>False) e s'->False) :
  codeAny (model P w) callerA (.call (.ref fa) ⟨[.ref a],[]⟩) (fun r s'=>r=.ok (.ret (.bool true))/\OldK s₁.heap s'.heap/\s'.os=s₁.os/\AllBare s'.gens) s₁:=by
 have rv:=aq5 hi;have lenV:=hi.length;have core:∀H:Hp,aN8 H->SqL K H a (ns.map V.int)->HOk P w H s₁.heap->(∀b,H b≠none->b=a)->(H a≠none->K.lookup a=none) ->
   codeAny (model P w) callerA (.call (.ref fa) ⟨[.ref a],[]⟩) (fun r s'=>r=.ok (.ret (.bool true))/\OldK s₁.heap s'.heap/\s'.os=s₁.os/\AllBare s'.gens) s₁:=by
  intro H hO hS hok hA hK;have O9:∀{b:Addr} {o:Obj},s₁.heap.get? b=some o->H b=none->(Z0 s₁.heap H).get? b=some o:=fun e n=>a32 e n;have noA:∀{b:Addr} {o:Obj} {es:Array DictEntry} {ep:Nat},s₁.heap.get? b=some o->o.data=.dict es ep->H b=none:=fun{b o es ep} e d=>by
   cases q:H b with
   |none=>rfl
   |some u =>
    have e':b=a:=hA b (by rw[q];simp);subst e';rw[ha] at e;cases e;have d':Data.seq vs.toArray _=Data.dict es ep:=d;cases d'
  have nsK:∀{b:Addr} {m:Str->Option Value},s₁.heap.Ns b m->(Z0 s₁.heap H).Ns b m:=fun{b m} ⟨o,es,ep,e,d,r⟩=>⟨o,es,ep,O9 e (noA e d),d,r⟩
  have hKb:K.In (Z0 s₁.heap H):=fun b o e=>O9 (KX b o e) (by
   cases q:H b with
   |none=>rfl
   |some u =>
    have e':b=a:=hA b (by rw[q];simp);subst e';rw [hK (by rw [q];simp)] at e;cases e)
  have hM:Mod K mg (Z0 s₁.heap H):=⟨hKb,nsK hns,⟨mb,nsK hb,hbb⟩,let ⟨mc,h1,h2⟩:=hlim;⟨mc,nsK h1,h2⟩⟩
  have e0:ai8 P w K mg (Z0 s₁.heap H) callerA [] s₁ H:=⟨rfl,hM,fun b o e=>be1 e,Nat.le_of_eq (aU0 _ _),trivial,fun b hb=>absurd (show b∈([]:List Addr) from hb) (by simp),hok,.of_eq hg⟩
  refine codeAny_mono ((F _ hKb (nsK hns)).run callerA [] s₁ H ⟨[.ref a],[]⟩ [.ref a] [.ref a] _ _ hr e0 (hbind s₁ (.ref a)) (.cons rfl .nil) (hsp H hO hS)) fun r s' h=>?_;cases r with
  |error e=>exact(hCX H e s' h).elim
  |ok fl =>
   cases fl with
   |next=>exact False.elim h
   |brk=>exact False.elim h
   |cont=>exact False.elim h
   |ret u =>
    obtain⟨v,H',os,bare,un,hok',r',q⟩:=h;have q':v=.bl true:=q;subst q';obtain rfl:u=Value.bool true:=r';refine⟨rfl,OldK.of_keep fun b o e=>?_,os,bare⟩;cases q:H b with
    |none=>exact un.keep b o e q (by intro z;exact absurd (show b∈([]:List Addr) from z) (by simp)) (by simp)
    |some u =>
     rcases hO b with z|⟨ob,xs,z⟩
     ·rw[q] at z;cases z
     ·have z2:=un.frzs b ob _ z;obtain⟨e1,_⟩:=hok b _ z;obtain⟨e2,_⟩:=hok' b _ z2;rw[e] at e1;cases e1;exact e2
 cases hk:K.lookup a with
 |some o =>
  have e:=KX a o hk;rw[ha] at e;cases e;refine core (fun _=>none) (fun _=>.inl rfl) (.inr ⟨_,vs.toArray,_,hk,rfl,rfl,rfl,by rw[List.size_toArray,lenV];exact hl,by simpa using rv⟩) (fun b u z=>by have z':(none:Option HO)=some u:=z;cases z') (fun b z=>absurd rfl z) fun z=>absurd rfl z
 |none =>
  refine core (fun b=>if b=a then some (.frz { cls:=.type "list",data:=.seq vs.toArray } (.lst (ns.map V.int))) else none) (fun b=>?_) (.inl (.inr ⟨{ cls:=.type "list",data:=.seq vs.toArray },if_pos rfl⟩)) (fun b u z=>?_) (fun b z=>?_) fun _=>hk
  ·by_cases hb:b=a
   ·exact .inr ⟨_,_,if_pos hb⟩
   ·exact .inl (if_neg hb)
  ·by_cases hb:b=a
   ·have z':=(if_pos hb).symm.trans z;cases z';subst hb;exact⟨ha,by rw[List.length_map];exact hl,vs,_,rv,ha⟩
   ·have z':=(if_neg hb).symm.trans z;cases z'
  ·by_cases hb:b=a
   ·exact hb
   ·exact absurd (if_neg hb) z
end L2
namespace L2
open PySem PySem.Spec PyProof.Rows
theorem a86{l:PySem.W.OpenLaw}{n k:Nat}{q:Program}{loose:List Str}{XP:(Str->Option Value)->Heap->Prop}{YP:World->Heap->Prop}{d:DefRec}{K:Params->PySem.W.Frag}{CX:World->CXT}{sp:World->Sp}{x:Str}(hn:l.most=some n)(hn2:n<=sizeLine)(hdf:d.params.defaults=[])(hr:u9 k callerA)(hY:∀(w:World) (h:Heap),YP w h->(K w.params).In h)(F:∀ (w:World) (mg:Str->Option Value) (fa:Addr) (h:Heap),(K w.params).In h->h.Ns mainGlobals mg->mg d.name=some (.ref fa) ->
   ∃fd:FuncData,(∀(s:Shared) (u:Value),BindsTo s fd ⟨[u],[]⟩ [(x,u)]) /\
    ∀ base:Heap,(K w.params).In base->base.Ns mainGlobals mg->FnOk l.prog w (K w.params) mg base (CX w) k fa fd [x] (sp w))(hsp:∀(w:World) (H:Hp) (a:Addr) (ns:List Int),ns.length<=n->aN8 H->SqL (K w.params) H a (ns.map V.int)->sp w [.ref a] H (fun v _=>v=.bl true) fun _ _ _=>False)(hCX:∀(w:World) (H:Hp) (s:Shared) (e:Value) (s':Shared),CX w [] H s (fun _ _ _=>False) e s'->False) :
  PySem.W.WalkO q loose XP YP l.row.toRowW d [] (fun f vs=>PySem.call f vs):=by
 refine Att.aE1 hn hdf fun w s₀ s₁ mg mb fa o pm cd doc a vs ns G Y ho hd hcd hmg hobj hints hlen hg=>?_;have KX:=hY w _ Y;obtain⟨fd,hb,hF⟩:=F w mg fa _ KX G.T.g hmg;exact a24 KX G.T.g G.T.b G.T.builtins G.T.nolimit hg hobj hints (Nat.le_trans hlen hn2) hr hF hb (fun H hO hS=>hsp w H a ns hlen hO hS) fun H e s'=>hCX w H s₁ e s'
end L2
namespace L2
open PySem PySem.Spec PyProof.Rows
noncomputable def A5(s:Stmt):Arguments:=match s with
 |.FunctionDef _ a _ _ _ _ _ _ _ _=>a
 |_=>{ posonlyargs:=[],args:=[],vararg:=none,kwonlyargs:=[],kw_defaults:=[],kwarg:=none,defaults:=[] }
noncomputable def n8(s:Stmt):List Stmt:=match s with
 |.FunctionDef _ _ b _ _ _ _ _ _ _=>b
 |_=>[]
noncomputable def n5(s:Stmt):Scope:=match s with
 |.FunctionDef _ _ _ _ _ _ sc _ _ _=>sc
 |_=>{ kind:=.function,names:=[],isGenerator:=false,isCoroutine:=false }
structure Fun(K:PySem.W.Frag)(x qual:Str)(st:Stmt)(f:Addr)(fd:FuncData):Prop where
 ex:∃(oc:Value) (od:Option Addr) (kV doc pm:Value) (an:Option Addr) (cdv ct:Value) (osl:Array (Option Value)),
  fd=PySem.W.fnOf x qual (A5 st) (n8 st) (n5 st) .none kV doc pm an cdv ct/\K.lookup f=some ⟨oc,od,.func fd,osl⟩/\PySem.W.codeIn K cdv qual=true
 kp:PySem.W.keepIn K (.ref f)=true
section
variable{P:Program}{w:World}{K:PySem.W.Frag}{mg:Str->Option Value}{base:Heap}
theorem Fun.binds{x qual:Str}{st:Stmt}{f:Addr}{fd:FuncData}{ps:List Str}(F:Fun K x qual st f fd)(h:∀(kV doc pm:Value) (an:Option Addr) (cdv ct:Value) (us:List Value),us.length=ps.length->bindArgs (PySem.W.fnOf x qual (A5 st) (n8 st) (n5 st) .none kV doc pm an cdv ct) ⟨us,[]⟩=pure (ps.zip us)):Binds K fd ps []:=by
 obtain⟨oc,od,kV,doc,pm,an,cdv,ct,osl,rfl,lk,hcd⟩:=F.ex;exact .all (h kV doc pm an cdv ct)
theorem aU3{x qual:Str}{st:Stmt}{f:Addr}{oc:Value}{od an:Option Addr}{osl:Array (Option Value)}{kV doc pm cdv ct:Value}(l:K.lookup f=some ⟨oc,od,.func (PySem.W.fnOf x qual (A5 st) (n8 st) (n5 st) .none kV doc pm an cdv ct),osl⟩)(c:PySem.W.codeIn K cdv qual=true)(k:PySem.W.keepIn K (.ref f)=true):Fun K x qual st f (PySem.W.fnOf x qual (A5 st) (n8 st) (n5 st) .none kV doc pm an cdv ct):=⟨⟨oc,od,kV,doc,pm,an,cdv,ct,osl,rfl,l,c⟩,k⟩
end
section
variable{X:Cx}
theorem aV9:l9 X (.builtin "len") (fun xs H Q=>∃a kvs,xs=[V.ref a]/\H a=some (.dK kvs)/\Q (.int kvs.length) H):=by
 intro pins s σ H xs us Q I r h;obtain⟨a,kvs,rfl,ha,q⟩:=h;obtain⟨u,rfl,ru⟩:=vals1 r;cases ru;exact bC2 I (.inl ha) fun t s' I'=>⟨.int kvs.length,H,I',⟨t,rfl⟩,q⟩
end
section
variable{κ:Type}[DecidableEq κ]
end
end L2

namespace L2
open PySem PySem.Spec PyProof.Rows
section
variable{prog:Program}{w:World}{A:Around}{R:Result->Shared->Prop}{s:Shared}
theorem aB0{elt target iter:Expr}{ifs:List Expr}{scope:Scope}{pos:Pos}{it acc:Value}{env:Env}(I:Nat->Shared->Prop)(turn:∀ n s,I n s->wpAny (model prog w) A (pyNext it) (fun r s₁=>match r with
   |none=>R (.ok .next) s₁
   | some v=>wpAny (model prog w) A (letOwnedTupleGo target it v) (fun _ s₁=>wpAny (model prog w) A (assign target env v) (fun _ s₂ =>
     wpAny (model prog w) A (forIn ifs true fun c r=>if r=true then do let ok <- isTrue c env (eval c env);pure (ForInStep.yield ok) else pure (ForInStep.yield r)) (fun ok s₃ =>
      if ok=true then wpAny (model prog w) A (eval elt env) (fun x s₄ =>
       wpAny (model prog w) A (call (.builtin "list.append") [acc,x]) (fun _ s₅=>∃ m,m < n/\I m s₅) (fun _ _=>False) s₄) (notedBy (model prog w) A env fun e s'=>R (.error e) s') s₃
      else ∃ m,m < n/\I m s₃) (fun _ _=>False) s₂) (fun _ _=>False) s₁) (fun _ _=>False) s₁) (fun _ _=>False) s)(n:Nat)(h:I n s) :
  codeAny (model prog w) A (.compLoop (.ListComp elt [⟨target,iter,ifs,0⟩] scope pos) 0 it acc env) R s:=by
 refine codeAny_loop rfl I (fun n s hI=>?_) n h;show wpAny _ A ((compTurn (.ListComp elt [⟨target,iter,ifs,0⟩] scope pos) 0 it acc env).onRaise (fun x=>do noteFrame x env;theTreesLotGoes x)) _ _ s;refine wpAny_noted ?_;rw[compTurn_list];refine wpAny_bind (wpAny_standAt (wpAny_bind (wpAny_mono (turn n s hI) (fun r s₁ h₁=>?_) fun _ _ h'=>h'.elim)));cases r with
 |none=>exact wpAny_pure h₁
 |some v =>
  refine wpAny_bind (wpAny_mono h₁ (fun _ s₁ h₁=>?_) fun _ _ h'=>h'.elim);refine wpAny_bind (wpAny_mono h₁ (fun _ s₂ h₂=>wpAny_bind (wpAny_mono h₂ (fun ok s₃ h₃=>?_) fun _ _ h'=>h'.elim)) fun _ _ h'=>h'.elim);cases ok with
  |false=>exact wpAny_pure ⟨rfl,h₃⟩
  |true =>
   exact wpAny_bind (wpAny_bind (wpAny_mono h₃ (fun x s₄ h₄=>wpAny_bind (wpAny_mono h₄ (fun _ s₅ h₅=>wpAny_pure (wpAny_pure ⟨rfl,h₅⟩)) fun _ _ h'=>h'.elim)) fun _ _ h'=>h'))
end
noncomputable def PTs(X:Cx)(es:List Expr)(t:TT):Prop :=
 ∀(pins:List (Addr×Obj)) (s:Shared) (σ:St) (H:Hp) (Q:Bool->Hp->Prop),Inv X pins σ H s->t σ H Q ->
  wpAny (model X.prog X.w) X.A (forIn es true fun c r=>if r=true then do let ok <- isTrue c X.env (eval c X.env);pure (ForInStep.yield ok) else pure (ForInStep.yield r)) (TP X pins σ Q) X.xe s
noncomputable def bE3:TT:=fun _ H Q=>Q true H
section
variable{X:Cx}
theorem bb9:PTs X [] bE3:=fun pins s σ H Q I h=>wpAny_pure ⟨H,I,h⟩
theorem bb8{c:Expr}{t:TT}(h:PT X c t):PTs X [c] t:=by
 intro pins s σ H Q I q;simp only[List.forIn_cons,List.forIn_nil,if_true];exact wpAny_bind (wpAny_bind (wpAny_mono (h pins s σ H Q I q) (fun b s' hb=>wpAny_pure (wpAny_pure hb)) fun _ _ x=>x))
end
noncomputable def G0(scope:Scope)(cl:List (Str×Addr))(C:Addr):List (Str×Addr):=cellsFrom (C+1) scope.names []++cl
theorem C4:∀(names:List (Str×NameKind)) (n:Nat) (acc:List (Str×Addr)),cellsFrom n names acc=cellsFrom n names []++acc
 |[],_,_=>rfl
 |(y,k)::r,n,acc=>by
  unfold cellsFrom;split
  ·rw[C4 r (n+1) ((y,n)::acc),C4 r (n+1) [(y,n)],List.append_assoc]
   rfl
  ·exact C4 r n acc
theorem Q5{x:Str}{c:Addr}:∀{names:List (Str×NameKind)} {n:Nat},(x,c)∈cellsFrom n names []->(x,NameKind.cell)∈names
 |[],_,h=>by simp[cellsFrom] at h
 |(y,k)::r,n,h=>by
  unfold cellsFrom at h;split at h
  ·rename_i hk;rw[C4] at h;rcases List.mem_append.mp h with z|z
   ·exact List.mem_cons_of_mem _ (Q5 z)
   ·cases List.mem_singleton.mp z;rw[show k=NameKind.cell from by simpa using hk];exact List.mem_cons_self
  ·exact List.mem_cons_of_mem _ (Q5 h)
theorem F0{α:Type}{x:Str}:∀{a b:List (Str×α)},(a++b).lookup x=(a.lookup x).or (b.lookup x)
 |[],_=>rfl
 |(y,v)::r,b=>by
  rw[List.cons_append,List.lookup_cons,List.lookup_cons];cases x==y
  ·exact F0
  ·rfl
theorem as3{scope:Scope}{cl:List (Str×Addr)}{C:Addr}{x:Str}(h:scope.names.lookup x=some .cell\/∃c,cl.lookup x=some c):∃c,(G0 scope cl C).lookup x=some c:=by
 unfold G0;rw[F0];cases e:(cellsFrom (C+1) scope.names []).lookup x with
 |some c=>exact⟨c,rfl⟩
 |none =>
  rcases h with h|h
  ·have q:=PySem.W.cellsFrom_some scope.names (C+1) [] (.inl h);rw[e] at q;cases q
  ·exact h
theorem K7{env:Env}:∀{names:List (Str×NameKind)} {x:Str},names.lookup x=some .cell ->
  (names.map fun(n,k)=>if(k==NameKind.free&&env.scope.kind==.function&&env.kindOf n==some .cell) then(n,NameKind.cell) else(n,k)).lookup x=some .cell
 |[],_,h=>by simp at h
 |(n,k)::r,x,h=>by
  have ih:=@K7 env r x;show List.lookup x ((if(k==NameKind.free&&env.scope.kind==.function&&env.kindOf n==some .cell)=true then(n,NameKind.cell) else(n,k))::_)=_;cases hx:x==n with
  |true =>
   simp only[List.lookup_cons,hx] at h;cases h;simp[List.lookup_cons,hx]
  |false =>
   simp only[List.lookup_cons,hx] at h;by_cases hc:(k==NameKind.free&&env.scope.kind==.function&&env.kindOf n==some .cell)=true
   ·rw[if_pos hc];simp only[List.lookup_cons,hx];exact ih h
   ·rw[if_neg hc];simp only[List.lookup_cons,hx];exact ih h
theorem Z6{scope:Scope}{cl:List (Str×Addr)}{C:Addr}{h:Heap}(ck:CellsOk h (C+1) (cellsFrom (C+1) scope.names [])){x:Str}{c:Addr}(e:(G0 scope cl C).lookup x=some c):C<c\/cl.lookup x=some c:=by
 unfold G0 at e;rw[F0] at e;cases e2:(cellsFrom (C+1) scope.names []).lookup x with
 |some c' =>
  rw[e2] at e;cases e;exact .inl (ck.empty x c (PySem.mem_of_lookup e2)).2
 |none =>
  rw[e2] at e;exact .inr e
theorem aa4{M:Model}{A:Around}{E:Value->Shared->Prop}{s:Shared}{scope:Scope}{globals:Addr}{cl:List (Str×Addr)}{qual:Str}{outer:Env}{Q:Env->Shared->Prop}(hQ:∀ h₁:Heap,h₁.Ns s.heap.objs.size (fun _=>none)->(∀ b o,s.heap.get? b=some o->h₁.get? b=some o)->CellsOk h₁ (s.heap.objs.size + 1) (cellsFrom (s.heap.objs.size + 1) scope.names []) ->
   Q (newEnv scope s.heap.objs.size globals (G0 scope cl s.heap.objs.size) qual none .none (some outer) builtinsNs) { s with heap:=h₁ }) :
  wpAny M A (newFunctionEnv scope globals cl [] qual none .none (some outer)) Q E s:=by
 simp only[newFunctionEnv,Option.isSome_some,if_true];refine wpAny_bind (wpAny_alloc ?_);refine wpAny_bind (wpAny_layCells _ (fun name kind cells=>by cases hkc:kind==NameKind.cell<;>simp[hkc]) _ _ _ _ ?_);have ok:=cellsFrom_ok scope.names (s.heap.push { cls:=.type "dict",data:=.dict #[] }) (s.heap.objs.size+1) [] ⟨fun _ _ hm=>(nomatch hm),List.Pairwise.nil⟩ (by rw[Heap.size_push];exact Nat.le_refl _);rw[Heap.size_push] at ok;rw[show({ s with heap:=s.heap.push { cls:=.type "dict",data:=.dict #[] } }:Shared).heap.objs.size=s.heap.objs.size+1 from Heap.size_push ..];rw[List.forIn_nil];refine wpAny_bind (wpAny_pure (wpAny_pure ?_));rw[C4];exact hQ _ ((Heap.Ns.new s.heap (.type "dict")).keeps (pushCells_keeps _ _)) (fun b o e=>pushCells_keeps _ _ b o (Heap.get?_push_of_some _ e)) ok
noncomputable def d7(X:Cx)(pins:List (Addr×Obj))(scope:Scope)(N':List Str)(cl:List (Str×Addr))(C:Addr)(s:Shared)(H:Hp)(fp:List Addr):Cx where
 prog:=X.prog
 w:=X.w
 K:=X.K
 mg:=X.mg
 base:=X.base
 A:=X.A
 N:=N'
 s₀:=s
 H₀:=H
 env:=compEnvC scope (G0 scope cl C) C X.env
 outer:=X.stack
 stack:=X.stack
 ex:=fp
 calm:=true
 fn:=fun x=>decide (scope.names.lookup x=some .cell)
 pn:=X.pn++pins
 xe:=fun _ _=>False
structure CompScope(X:Cx)(scope:Scope)(N':List Str)(d5:List Nat)(cl:List (Str×Addr)):Prop where
 kind:scope.kind=.function
 cells:∀y∈scope.names,y.2=.cell->scope.names.lookup y.1=some .cell
 names:∀y∈scope.names,y.2=.local->scope.names.lookup y.1=some .local
 clos:closureFor scope X.env=pure cl
 cin:∀x c,cl.lookup x=some c->X.env.cells.lookup x=some c
 chas:∀x,scope.names.lookup x=some .free->∃c,cl.lookup x=some c
 nd:N'.Nodup
 cap:∀(i j:Nat),d5[i]?=some j->∃x,N'[i]?=some x/\X.N[j]?=some x/\scope.names.lookup x=some .free/\(X.env.kindOf x=some .cell\/X.env.kindOf x=some .free)
 clen:d5.length<=N'.length
theorem C5{env:Env}:∀{names:List (Str×NameKind)} {x:Str},names.lookup x=some .free ->
  (names.map fun(n,k)=>if(k==NameKind.free&&env.scope.kind==.function&&env.kindOf n==some .cell) then(n,NameKind.cell) else(n,k)).lookup x=some .cell \/
  (names.map fun(n,k)=>if(k==NameKind.free&&env.scope.kind==.function&&env.kindOf n==some .cell) then(n,NameKind.cell) else(n,k)).lookup x=some .free
 |[],_,h=>by simp at h
 |(n,k)::r,x,h=>by
  have ih:=@C5 env r x;show List.lookup x ((if(k==NameKind.free&&env.scope.kind==.function&&env.kindOf n==some .cell)=true then(n,NameKind.cell) else(n,k))::_)=_\/List.lookup x ((if(k==NameKind.free&&env.scope.kind==.function&&env.kindOf n==some .cell)=true then(n,NameKind.cell) else(n,k))::_)=_;cases hx:x==n with
  |true =>
   simp only[List.lookup_cons,hx] at h;cases h;by_cases hc:(NameKind.free==NameKind.free&&env.scope.kind==.function&&env.kindOf n==some .cell)=true
   ·rw[if_pos hc];simp[List.lookup_cons,hx]
   ·rw[if_neg hc];simp[List.lookup_cons,hx]
  |false =>
   simp only[List.lookup_cons,hx] at h;by_cases hc:(k==NameKind.free&&env.scope.kind==.function&&env.kindOf n==some .cell)=true
   ·rw[if_pos hc];simp only[List.lookup_cons,hx];exact ih h
   ·rw[if_neg hc];simp only[List.lookup_cons,hx];exact ih h
theorem K8{env:Env}:∀{names:List (Str×NameKind)} {x:Str},((names.map fun(n,k)=>if(k==NameKind.free&&env.scope.kind==.function&&env.kindOf n==some .cell) then(n,NameKind.cell) else(n,k)).lookup x=some .cell \/
  (names.map fun (n,k)=>if (k == NameKind.free && env.scope.kind == .function && env.kindOf n == some .cell) then (n,NameKind.cell) else (n,k)).lookup x=some .free)->names.lookup x=some .free \/ names.lookup x=some .cell
 |[],_,h=>by simp at h
 |(n,k)::r,x,h=>by
  have ih:=@K8 env r x;rw[List.map_cons] at h;cases hx:x==n with
  |true =>
   simp only[List.lookup_cons,hx];by_cases hc:(k==NameKind.free&&env.scope.kind==.function&&env.kindOf n==some .cell)=true
   ·left;simp only[Bool.and_eq_true,beq_iff_eq] at hc;rw[hc.1.1]
   ·simp only[if_neg hc,List.lookup_cons,hx] at h;rcases h with h|h
    ·exact .inr h
    ·exact .inl h
  |false =>
   simp only[List.lookup_cons,hx];by_cases hc:(k==NameKind.free&&env.scope.kind==.function&&env.kindOf n==some .cell)=true
   ·simp only[if_pos hc,List.lookup_cons,hx] at h;exact ih h
   ·simp only[if_neg hc,List.lookup_cons,hx] at h;exact ih h
noncomputable def A9(σ:St)(d5:List Nat)(n:Nat):St:=d5.map (fun j=>(σ[j]?).join)++List.replicate (n-d5.length) none
section
variable{X:Cx}{pins:List (Addr×Obj)}{σ:St}{H:Hp}{s:Shared}
theorem Inv.al5{scope:Scope}{N':List Str}{d5:List Nat}{cl:List (Str×Addr)}{C:Addr}{h1:Heap}{fp:List Addr}{tk:Nat}(I:Inv X pins σ H s)(S:CompScope X scope N' d5 cl)(hc:X.calm=true)(hf:∀b∈fp,B1 X pins H b)(ho:∀b∈fp,∃o,s.heap.get? b=some o)(hC:s.heap.objs.size<=C)(hn:∃m,h1.Ns C m)(k:∀b o,s.heap.get? b=some o->h1.get? b=some o)(ck:CellsOk h1 (C+1) (cellsFrom (C+1) scope.names [])) :
  Inv (d7 X pins scope N' cl C s H fp) [] (A9 σ d5 N'.length) H { s with heap:=h1,toks:=tk }:=by
 obtain⟨m,hm⟩:=hn;have hkf:(relabel scope X.env).kind=.function:=S.kind;have noC:∀b o,s.heap.get? b=some o->b≠C:=fun b o e z=>absurd (Heap.lt_size e) (by rw[z];exact Nat.not_lt.mpr hC);have two:∀{x:Str} {c:Addr},(G0 scope cl C).lookup x=some c->(C<c/\h1.IsCell c none/\(x,c)∈cellsFrom (C+1) scope.names [])\/(cl.lookup x=some c/\(cellsFrom (C+1) scope.names []).lookup x=none):=fun{x c} h=>by
  unfold G0 at h;rw[F0] at h;cases e:(cellsFrom (C+1) scope.names []).lookup x with
  |some c' =>
   rw[e] at h;cases h;have hm:=PySem.mem_of_lookup e;exact .inl ⟨(ck.empty x c hm).2,(ck.empty x c hm).1,hm⟩
  |none =>
   rw[e] at h;exact .inr ⟨h,rfl⟩
 have oldc:∀{x:Str} {c:Addr},cl.lookup x=some c->c<s.heap.objs.size:=fun{x c} h=>by
  obtain⟨v,o,e,_⟩:=I.cell x c (S.cin x c h);exact Heap.lt_size e
 have frees:∀{x:Str},scope.names.lookup x=some .free->(G0 scope cl C).lookup x=cl.lookup x:=fun{x} h=>by
  unfold G0;rw[F0];cases e:(cellsFrom (C+1) scope.names []).lookup x with
  |some c' =>
   have:=S.cells _ (Q5 (PySem.mem_of_lookup e)) rfl;rw[h] at this;cases this
  |none=>rfl
 refine⟨⟨I.mod,hkf,I.ok.glob,I.ok.blt,hC,?_,?_,?_,fun _=>I.ok.hd hc,I.ok.frames,.inl rfl,?_,I.bs,?_,?_,?_,I.stack,I.ad8⟩,rfl,I.bare,Un.kept k,⟨m,hm,?_⟩,?_,?_,?_,?_,I.hok.kept k,?_⟩
 ·intro x y c h1 h2;rcases two h1 with⟨l1,_,q1⟩|⟨q1,_⟩<;>rcases two h2 with⟨l2,_,q2⟩|⟨q2,_⟩
  ·exact PySem.name_of_addr ck.apart q1 q2
  ·exact absurd (Nat.lt_trans l1 (Nat.lt_of_lt_of_le (oldc q2) hC)) (Nat.lt_irrefl _)
  ·exact absurd (Nat.lt_trans l2 (Nat.lt_of_lt_of_le (oldc q1) hC)) (Nat.lt_irrefl _)
  ·exact I.ok.inj x y c (S.cin x c q1) (S.cin y c q2)
 ·intro x hx;rcases K8 (env:=X.env) (names:=scope.names) hx with z|z
  ·obtain⟨c,hc⟩:=S.chas x z;exact⟨c,(frees z).trans hc⟩
  ·have q:=PySem.W.cellsFrom_some scope.names (C+1) [] (.inl z);obtain⟨c,hc⟩:=Option.isSome_iff_exists.mp q;refine⟨c,?_⟩;show(G0 scope cl C).lookup x=some c;unfold G0;rw[F0,hc]
   rfl
 ·intro x c hf h;have z:scope.names.lookup x=some .cell:=of_decide_eq_true hf;have q:=PySem.W.cellsFrom_some scope.names (C+1) [] (.inl z);rcases two h with⟨l,_⟩|⟨_,e⟩
  ·exact Nat.le_of_lt (Nat.lt_of_le_of_lt hC l)
  ·rw[e] at q;cases q
 ·intro b hb;obtain⟨f0,f1,f2,f3,f4,f5⟩:=hf b hb;obtain⟨o,e⟩:=ho b hb;refine⟨noC b o e,fun x c h=>?_⟩;rcases two h with⟨l,_⟩|⟨q,_⟩
  ·intro z;subst z;exact absurd (Nat.lt_trans l (Nat.lt_of_lt_of_le (Heap.lt_size e) hC)) (Nat.lt_irrefl _)
  ·exact f4 x c (S.cin x c q)
 ·exact Nat.le_trans I.ok.bsz I.sz
 ·intro b o e hb;obtain⟨f0,f1,f2,f3,f4,f5⟩:=hf b hb;rcases f3 with f3|f3
  ·exact I.ok.noex b o e f3
  ·exact absurd (Heap.lt_size (I.ok.bs b o e).1) (Nat.not_lt.mpr f3)
 ·intro b hb z;obtain⟨f0,f1,f2,f3,f4,f5⟩:=hf b hb;rcases List.mem_cons.mp (I.J9 b z) with z|z
  ·exact f1 z
  ·exact f2 z
 ·intro i x v h1' h2 h3;have hi:i<d5.length:=by
   unfold A9 at h2;by_cases hi:i<d5.length
   ·exact hi
   ·rw[List.getElem?_append_right (by simpa using hi),List.getElem?_replicate] at h2;split at h2<;>cases h2
  obtain⟨j,hj⟩:∃j,d5[i]?=some j:=⟨_,List.getElem?_eq_getElem hi⟩
  have hs:σ[j]?=some (some v):=by
   unfold A9 at h2;rw[List.getElem?_append_left (by simpa using hi),List.getElem?_map,hj] at h2;simp only[Option.map_some] at h2;cases e:σ[j]? with
   |none=>rw[e] at h2;cases h2
   |some a=>rw[e] at h2;exact congrArg some (Option.some.inj h2)
  obtain⟨y,hy1,hy2,hy3,hy4⟩:=S.cap i j hj;have ey:y=x:=by
   have h1'':N'[i]?=some x:=h1';rw[hy1] at h1'';exact Option.some.inj h1''
  subst ey;obtain⟨m0,hm0,hl⟩:=I.loc;obtain ⟨u,ru,hu⟩:=hl j y v hy2 hs (by
   rcases hy4 with z|z
   ·exact .inr (.inl z)
   ·exact .inr (.inr z))
  refine⟨u,ru,.inr ⟨C5 (env:=X.env) (names:=scope.names) hy3,?_⟩⟩;rcases hu with⟨z,_⟩|⟨_,c,hc1,hc2⟩
  ·rcases hy4 with z'|z'<;>(rw[z'] at z;cases z)
  ·obtain⟨c',hc'⟩:=S.chas y hy3;have e:=S.cin y c' hc';rw[hc1] at e;cases e;obtain⟨o,e1,e2⟩:=hc2;exact⟨c,(frees hy3).trans hc',o,k _ _ e1,e2⟩
 ·intro x c h;rcases two h with⟨_,q,_⟩|⟨q,_⟩
  ·exact⟨none,q⟩
  ·obtain⟨v,o,e1,e2⟩:=I.cell x c (S.cin x c q);exact⟨v,o,k _ _ e1,e2⟩
 ·exact I.hok.fresh hC
 ·intro x c h;rcases two h with⟨l,_⟩|⟨q,_⟩
  ·exact I.hok.fresh (Nat.le_of_lt (Nat.lt_of_le_of_lt hC l))
  ·exact I.freeC x c (S.cin x c q)
 ·intro p hp;have hp':p∈X.pn++pins:=by simpa[d7] using hp
  obtain⟨p1,p2,p3,p4,p5⟩:=I.pin p hp';refine⟨k _ _ p1,p2,noC _ _ p1,fun z=>?_,p5⟩;rcases List.mem_cons.mp (I.J9 _ z) with z|z
  ·exact p3 z
  ·exact p4 z
 ·unfold A9;show _=N'.length;rw[List.length_append,List.length_map,List.length_replicate];have:=S.clen;omega
theorem Inv.aA8{scope:Scope}{N':List Str}{cl:List (Str×Addr)}{C:Addr}{fp:List Addr}{pins':List (Addr×Obj)}{σ':St}{H':Hp}{s':Shared}(I:Inv X pins σ H s)(hf:∀b∈fp,B1 X pins H b)(J:Inv (d7 X pins scope N' cl C s H fp) pins' σ' H' s'):Inv X pins σ H' s' :=
 I.aM8 (ch:=fp) J.os J.base J.hok J.bare fun b hb=>by
  obtain⟨f0,f1,f2,f3,f4,f5⟩:=hf b hb;exact⟨f3,f1,f4,f5⟩
theorem Inv.bv3{D:Addr}{ys:List V}{its:List Value}{n:Nat}(I:Inv X pins σ H s)(f:B1 X pins H D)(hs:X.s₀.heap.objs.size<=D)(hv:Vals ys its)(hz:ys.length<=sizeLine)(ho:s.heap.get? D=some { cls:=.type "list",data:=.seq its.toArray n }):Inv X pins σ (upd H D (.lst ys)) s:=by
 obtain⟨f0,f1,f2,f3,f4,f5⟩:=f;have hne:∀b o,X.s₀.heap.get? b=some o->b≠D:=fun b o e z=>absurd (Heap.lt_size e) (by rw[z];exact Nat.not_lt.mpr hs);have tup:∀b u,H b=some u->upd H D (.lst ys) b=some u:=fun b u e=>by rw[f7 (j9 e f0)];exact e
 refine⟨I.ok,I.os,I.bare,⟨?_,?_,?_,I.base.there,?_,?_,?_⟩,I.loc,I.cell,?_,?_,?_,?_,I.len⟩
 ·exact fun b o e n1 n2 n3=>I.base.keep b o e n1 n2 n3
 ·exact fun b o e n1 n2 n3=>I.base.slot b o e n1 n2 n3
 ·exact fun b o e n1 n2=>by rw[f7 (hne b o e)];exact I.base.free b o e n1 n2
 ·exact fun b xs e=>tup _ _ (I.base.tups b xs e)
 ·exact fun b o u e=>tup _ _ (I.base.frzs b o u e)
 ·exact fun b ps e=>by
   obtain⟨more,q⟩:=I.base.tbls b ps e;exact⟨more,tup _ _ q⟩
 ·rw[f7 f1.symm];exact I.free
 ·exact fun x c e=>by rw[f7 (f4 x c e)];exact I.freeC x c e
 ·intro p hp;obtain⟨p1,p2,p3⟩:=I.pin p hp;exact⟨p1,by rw[f7 (f5 p hp)];exact p2,p3⟩
 ·intro a o e;by_cases ha:a=D
  ·subst ha;rw[o6] at e;cases e;exact⟨hz,its,n,hv,ho⟩
  ·rw[f7 ha] at e;have q:=I.hok a o e;refine q.P2 (fun b u _ h=>h) (fun b hb=>tup _ _ hb) (fun b xs hb=>tup _ _ hb)
end
end L2

namespace L2
open PySem PySem.Spec PyProof.Rows
noncomputable def aJ1(wi:TI)(d5:List Nat)(n:Nat)(g:TG)(tc:TT)(te:TE):TE:=fun σ H Q=>wi σ H fun J H1=>∃W:Nat->Nat->List V->St->Hp->Prop,(∃m,W 0 m [] (A9 σ d5 n) H1)/\∀i m ys σ H,W i m ys σ H ->
 (J.stop i H/\∀p,H p=none->Q (.ref p) (upd H p (.lst ys))) \/
 (J.go i H/\ys.length < sizeLine/\∀ x H',J.yld i H x H'->g x σ H' fun σ2 H2=>tc σ2 H2 fun b H3 =>
  if b=true then te σ2 H3 fun y H4=>∃ m',m' < m/\W (i + 1) m' (ys ++ [y]) σ2 H4 else ∃ m',m' < m/\W (i + 1) m' ys σ2 H3)
noncomputable abbrev L0(its:List Value)(n:Nat):Obj:={ cls:=.type "list",data:=.seq its.toArray n }
section
variable{X:Cx}{pins:List (Addr×Obj)}{σ:St}{H:Hp}{s:Shared}
theorem al6{elt tg iter:Expr}{ifs:List Expr}{scope:Scope}{N':List Str}{d5:List Nat}{cl:List (Str×Addr)}{pos:Pos}{it:Addr}{fp:List Addr}{tn:Nat->Heap->Prop}{J:It}{g:TG}{tc:TT}{te:TE}{xx:Addr->Shared->Hp->Value->Shared->Prop}{RR:Value->Addr->Result->Shared->Prop}{E:Value->Shared->Prop}{W:Nat->Nat->List V->St->Hp->Prop}{m0:Nat}{Q:VK}(S:CompScope X scope N' d5 cl)(hc:X.calm=true)(hg:∀C s H,PG (d7 X pins scope N' cl C s H fp) tg g)(ht:∀C s H,PTs (d7 X pins scope N' cl C s H fp) ifs tc)(he:∀C s H,PE ((d7 X pins scope N' cl C s H fp).W7 (xx C s H)) elt te)(I:Inv X pins σ H s)(T:Turn X.prog X.w X.K tg J fp it tn)(st:tn 0 s.heap)(hf:∀b∈fp,B1 X pins H b)(w0:W 0 m0 [] (A9 σ d5 N'.length) H)(turn:∀ i m ys σ H,W i m ys σ H->(J.stop i H/\∀ p,H p=none->Q (.ref p) (upd H p (.lst ys))) \/
   (J.go i H/\ys.length < sizeLine/\∀ x H',J.yld i H x H'->g x σ H' fun σ2 H2=>tc σ2 H2 fun b H3 =>
    if b=true then te σ2 H3 fun y H4=>∃ m',m' < m/\W (i + 1) m' (ys ++ [y]) σ2 H4 else ∃ m',m' < m/\W (i + 1) m' ys σ2 H3))(hRR:∀D C s' H' m,Inv X pins σ H' s'->Q (.ref D) H'->s'.heap.Ns C m->H' C=none->s.heap.objs.size<=C->RR (.ref D) C (.ok .next) s')(hRX:∀D C e s',s.heap.objs.size<=C->xx C s H e s'->notedBy (model X.prog X.w) X.A (compEnvC scope (G0 scope cl C) C X.env) (fun e s'=>RR (.ref D) C (.error e) s') e s') :
  wpAny (model X.prog X.w) X.A (newList []) (fun acc s₃=>wpAny (model X.prog X.w) X.A (newFunctionEnv scope X.env.globals cl [] X.env.qual none .none (some X.env)) (fun cenv s₄ =>
   cenv.frame=X.env.frame/\codeAny (model X.prog X.w) X.A (.compStart (.ListComp elt [⟨tg,iter,ifs,0⟩] scope pos) 0 (.ref it) acc { cenv with scope:=relabel scope X.env }) (RR acc cenv.locals) s₄) E s₃) E s:=by
 refine wpAny_newObj_type (aa4 fun h₁ hns₁ hsb₁ hck=>?_);dsimp only at hns₁ hsb₁ hck ⊢;generalize hH2:s.heap.push { cls:=.type "list",dict:=none,data:=.seq ([]:List Value).toArray }=H2 at hns₁ hsb₁ hck ⊢;generalize eD:s.heap.objs.size=D at *;have hC:H2.objs.size=D+1:=by rw[<- hH2,Heap.size_push,eD]
 generalize eC:H2.objs.size=C at *;have hDC:D≠C:=by omega
 have lt:∀b o,s.heap.get? b=some o->b<D:=fun b o e=>by rw[<- eD];exact Heap.lt_size e
 have leC:D<=C:=by omega
 have neC:∀b o,s.heap.get? b=some o->b≠C:=fun b o e=>Nat.ne_of_lt (Nat.lt_of_lt_of_le (lt b o e) leC);have neD:∀b o,s.heap.get? b=some o->b≠D:=fun b o e=>Nat.ne_of_lt (lt b o e);have old:∀b o,s.heap.get? b=some o->h₁.get? b=some o:=fun b o e=>hsb₁ b o (hH2▸Heap.get?_push_of_some _ e);have hacc:h₁.get? D=some (L0 [] 0):=hsb₁ _ _ (by rw[<- hH2,<- eD];exact Heap.get?_push_size _ rfl);have hobj:∀b∈fp,∃o,s.heap.get? b=some o:=fun b hb=>by
  obtain⟨o,e,_⟩:=T.obj _ _ st b hb;exact⟨o,e⟩
 have hDf:D∉fp:=fun hm=>by
  obtain⟨o,e⟩:=hobj D hm;exact neD D o e rfl
 have X1:Inv (d7 X pins scope N' cl C s H fp) [] (A9 σ d5 N'.length) H { s with heap:=h₁ } :=
  I.al5 S hc hf hobj (by rw[eD];omega) ⟨_,hns₁⟩ old hck
 have st1:tn 0 h₁:=T.keep _ _ _ st fun b _ o e=>old b o e;have fpc:∀{H':Hp},(∀b∈fp,H' b=none)->∀b∈fp,B1 (d7 X pins scope N' cl C s H fp) [] H' b:=fun hn b hb=>by
  obtain⟨f0,f1,f2,f3,f4,f5⟩:=hf b hb;obtain⟨o,e⟩:=hobj b hb;refine⟨hn b hb,?_,?_,.inl hb,fun x c q=>(Z6 hck q).elim (fun l z=>absurd (Nat.lt_trans (z▸l) (Nat.lt_of_lt_of_le (lt b o e) leC)) (Nat.lt_irrefl _)) fun q=>f4 x c (S.cin x c q),fun p hp=>?_⟩
  ·exact neC b o e
  ·exact fun z=>by
    rcases List.mem_cons.mp (I.J9 b z) with z|z
    ·exact f1 z
    ·exact f2 z
  ·have hp':p∈X.pn++pins:=by simpa[d7] using hp
   exact f5 p hp'
 have fD:∀{H':Hp},H' D=none->B1 (d7 X pins scope N' cl C s H fp) [] H' D:=fun hn=>by
  refine⟨hn,hDC,fun z=>?_,.inr (by show s.heap.objs.size<=D;omega),fun x c q=>?_,fun p hp=>?_⟩
  ·exact absurd (I.ay3 (a:=D) (by omega)) fun hno=>by
    rcases List.mem_cons.mp (I.J9 D z) with z|z
    ·exact absurd I.lt (by rw[<- z,eD];exact Nat.lt_irrefl _)
    ·exact hno z
  ·rcases Z6 hck q with l|q
   ·exact fun z=>absurd (Nat.lt_of_lt_of_le (z▸l) leC) (Nat.lt_irrefl _)
   ·obtain⟨v,o,e,_⟩:=I.cell x c (S.cin x c q);exact neD c o e
  ·have hp':p∈X.pn++pins:=by simpa[d7] using hp
   exact neD _ _ (I.pin p hp').1
 have pinD:∀{H':Hp} {s':Shared} {σ':St} {its:List Value} {n:Nat},Inv (d7 X pins scope N' cl C s H fp) [] σ' H' s'->H' D=none->s'.heap.get? D=some (L0 its n) ->
   Inv (d7 X pins scope N' cl C s H fp) [(D,L0 its n)] σ' H' s':=fun{H' s' σ' its n} J0 hn e=>J0.J1 fun p hp=>by
  have z:p=(D,L0 its n):=by simpa using hp
  subst z;obtain⟨f0,f1,f2,_⟩:=fD hn;exact⟨e,f0,f1,f2,fun v z=>nomatch z⟩
 have fpD:∀{H':Hp} {its:List Value} {n:Nat},(∀b∈fp,H' b=none)->∀b∈fp,B1 (d7 X pins scope N' cl C s H fp) [(D,L0 its n)] H' b:=fun{H' its n} hn b hb=>by
  obtain⟨f0,f1,f2,f3,f4,f5⟩:=fpc hn b hb;refine⟨f0,f1,f2,f3,f4,fun p hp=>?_⟩;have hp':p∈(d7 X pins scope N' cl C s H fp).pn\/p=(D,L0 its n):=by simpa using hp
  rcases hp' with z|z
  ·exact f5 p (List.mem_append_left _ z)
  ·subst z;exact fun z=>hDf (by rw[show D=b from z];exact hb)
 have loop:∀s₃:Shared,s₃={ s with heap:=h₁ } ->
   codeAny (model X.prog X.w) X.A (.compLoop (.ListComp elt [⟨tg,iter,ifs,0⟩] scope pos) 0 (.ref it) (.ref D) (compEnvC scope (G0 scope cl C) C X.env)) (RR (.ref D) C) s₃:=by
  rintro s₃ rfl;refine aB0 (fun n s'=>∃ i ys σ' H' its nn,Inv (d7 X pins scope N' cl C s H fp) [] σ' H' s'/\tn i s'.heap/\(∀ b ∈ fp,H' b=none)/\H' D=none/\Vals ys its/\ys.length <= sizeLine /\
   s'.heap.get? D=some (L0 its nn)/\W i n ys σ' H') ?_ m0 ⟨0,[],_,H,[],0,X1,st1,fun b hb=>(hf b hb).1,I.hok.fresh (by omega),.nil,Nat.zero_le _,hacc,w0⟩
  rintro n s3 ⟨i,ys,σ3,H3,its,nn,I3,st3,fr3,d3,v3,z3,o3,w3⟩;have I3':=pinD I3 d3 o3;rcases turn i n ys σ3 H3 w3 with⟨stop,q⟩|⟨go,hz,step⟩
  ·refine thn (T.done (d7 X pins scope N' cl C s H fp) rfl rfl rfl rfl i _ s3 _ H3 _ I3' (fpD fr3) st3 stop) fun r s4 ⟨hr,I4⟩=>?_;subst hr;have o4:=(I4.pin (D,L0 its nn) (by simp)).1;have J4:Inv X pins σ H3 s4:=I.aA8 hf I4;have fD4:B1 X pins H3 D:=by
    refine⟨d3,Nat.ne_of_gt (by rw[<- eD];exact I.lt),I.ay3 (by omega),.inr (by have:=I.sz;omega),fun x c q=>?_,fun p hp=>?_⟩
    ·obtain⟨v,o,e,_⟩:=I.cell x c q;exact neD c o e
    ·exact neD _ _ (I.pin p hp).1
   obtain⟨mC,hmC,_⟩:=I4.loc;exact hRR D C s4 (upd H3 D (.lst ys)) mC (J4.bv3 fD4 (by have:=I.sz;omega) v3 z3 o4) (q D d3) hmC (by rw[f7 hDC.symm];exact I4.free) (by omega)
  ·refine thn (T.item (d7 X pins scope N' cl C s H fp) rfl rfl rfl rfl i _ s3 _ H3 _ I3' (fpD fr3) st3 go) fun r s4 ⟨u,hr,h4⟩=>?_;subst hr;refine thn h4 fun _ s5 ⟨x,H5,I5,r5,y5,st5,fr5⟩=>?_;have o5:=I5.pin (D,L0 its nn) (by simp);have I5':=I5.pinned (fpD fr5) (T.obj _ _ st5);refine thn (hg C s H _ s5 _ H5 x u _ I5' r5 (step x H5 y5)) fun _ s6 ⟨σ6,H6,I6,q6⟩=>?_;refine thn (ht C s H _ s6 σ6 H6 _ I6 q6) fun ok s7 ⟨H7,I7,q7⟩=>?_;have back:∀{σ8:St} {H8:Hp} {s8:Shared},Inv (d7 X pins scope N' cl C s H fp) ([(D,L0 its nn)]++U6 fp s5.heap) σ8 H8 s8->(∀b∈fp,H8 b=none)/\tn (i+1) s8.heap/\H8 D=none/\s8.heap.get? D=some (L0 its nn) :=
    fun{σ8 H8 s8} I8=>by
     have pf:∀b∈fp,∀o,s5.heap.get? b=some o->s8.heap.get? b=some o/\H8 b=none:=fun b hb o e=>by
      have:=I8.pin (b,o) (List.mem_append_right _ (List.mem_append_right _ (O0 hb e)));exact⟨this.1,this.2.1⟩
     have pd:=I8.pin (D,L0 its nn) (by simp);refine⟨fun b hb=>?_,T.keep _ _ _ st5 fun b hb o e=>(pf b hb o e).1,pd.2.1,pd.1⟩;obtain⟨o,e,_⟩:=T.obj _ _ st5 b hb;exact(pf b hb o e).2
   cases ok with
   |false =>
    obtain⟨m',hm,w7⟩:=q7;obtain⟨b1,b2,b3,b4⟩:=back I7;exact⟨m',hm,i+1,ys,σ6,H7,its,nn,I7.J1 fun p hp=>absurd hp (by simp),b2,b1,b3,v3,z3,b4,w7⟩
   |true =>
    refine wpAny_mono (he C s H _ s7 σ6 H7 _ (I7.W7 _) q7) (fun xv s8 ⟨y,H8,I8,r8,m',hm,w8⟩=>?_) fun e s' hx=>hRX D C e s' (by omega) hx;have I8:=I8.aw7;obtain⟨b1,b2,b3,b4⟩:=back I8;refine call_meets F.slot_list_append ⟨_,b4,rfl⟩ F.entry_list_append (F.args_list_append_2 _ _) (PySem.list_append D its.toArray nn xv (by rw[List.size_toArray];have:=v3.length;omega)) ⟨b4,?_⟩;have q:∃n',(s8.heap.update D (Obj.mapSeq (·.push xv))).get? D=some (L0 (its++[xv]) n'):=by
     have q0:=PySem.IsL.update b4 (·.push xv);have e0:its.toArray.push xv=(its++[xv]).toArray:=by simp
     rw[e0] at q0;exact⟨_,q0⟩
    obtain⟨n',q⟩:=q;have I8':Inv (d7 X pins scope N' cl C s H fp) [] σ6 H8 s8:=I8.J1 fun p hp=>absurd hp (by simp);obtain⟨f0,f1,f2,f3,f4,f5⟩:=fD (H':=H8) b3;have kp:∀b o,b≠D->s8.heap.get? b=some o->(s8.heap.update D (Obj.mapSeq (·.push xv))).get? b=some o:=fun b' u hb hu=>(Heap.get?_update_other s8.heap (Obj.mapSeq (·.push xv)) (Ne.symm hb)).trans hu;refine⟨m',hm,i+1,ys++[y],σ6,H8,its++[xv],n',I8'.turned (it:=D) (t':=s8.toks) kp f0 f1 f3 f4 f5,T.keep _ _ _ b2 fun b hb o e=>kp b o (fun z=>hDf (by rw[<- z];exact hb)) e,b1,b3,v3.append (.cons r8 .nil),?_,q,w8⟩;rw[List.length_append,List.length_singleton];omega
 exact⟨rfl,codeAny_compStart_list (loop _ rfl) (T.self _ 0 _ _ _ st1 (loop _ rfl))⟩
theorem Inv.aL6{C:Addr}{h':Heap}{s2:Shared}{H2:Hp}(I:Inv X pins σ H s)(hC:s2.heap.objs.size<=C)(I2:Inv X pins σ H2 s2)(hn:H C=none)(sb:Heap.SameBut C s.heap h'):Inv X pins σ H { s with heap:=h' }:=by
 have f:=I2.ac7 (b:=C) (H':=H) hC hn;obtain⟨f0,f1,f2,f3,f4,f5⟩:=f;exact I.turned (t':=s.toks) (fun b o hb e=>sb.extBut b o hb e) f0 f1 f3 f4 f5
theorem al2{M:Model}{A:Around}{E:Value->Shared->Prop}{s:Shared}{a:Sem Value}{b:Sem Env}{P:Env->Prop}{Q:Value->Env->Shared->Prop}(h:wpAny M A a (fun x s1=>wpAny M A b (fun y s2=>P y/\Q x y s2) E s1) E s):wpAny M A a (fun x s1=>wpAny M A b (fun y s2=>Q x y s2) E s1) E s :=
 wpAny_mono h (fun _ _ h=>wpAny_mono h (fun _ _ h=>h.2) fun _ _ z=>z) fun _ _ z=>z
theorem aF9{elt tg iter:Expr}{ifs:List Expr}{scope:Scope}{N':List Str}{d5:List Nat}{cl:List (Str×Addr)}{pos:Pos}{wi:TI}{g:TG}{tc:TT}{te:TE}(S:CompScope X scope N' d5 cl)(hc:X.calm=true)(hi:PI X tg iter wi)(hg:∀pins C s H fp,PG (d7 X pins scope N' cl C s H fp) tg g)(ht:∀pins C s H fp,PTs (d7 X pins scope N' cl C s H fp) ifs tc)(he:∀pins C s H fp,PE (d7 X pins scope N' cl C s H fp) elt te)(hs:∀x,foldedSetIterable iter X.env x=pure x):PE X (.ListComp elt [⟨tg,iter,ifs,0⟩] scope pos) (aJ1 wi d5 N'.length g tc te):=by
 intro pins s σ H Q I h;rw[eval_ListComp];refine wpAny_comprehension_free (use:=none) rfl hs S.clos S.kind S.names (thn (hi pins s σ H _ I h) fun xv s₁ h₁=>thn h₁ fun itv s₂ h₂=>?_);obtain⟨it,fp,tn,J,H2,e,I2,T,st2,f2,W,⟨m0,w0⟩,turn⟩:=h₂;subst e;refine al2 (al6 (xx:=fun _ _ _ _ _=>False) (RR:=fun acc C=>compPost (model X.prog X.w) X.A X.xe none (EP X pins σ Q) acc C) S hc (fun C s H=>hg pins C s H fp) (fun C s H=>ht pins C s H fp) (fun C s H=>he pins C s H fp) I2 T st2 f2 w0 turn ?_ fun _ _ _ _ _ z=>z.elim);intro D C s' H' m I' q hn hC hsz;exact⟨m,hn,fun h' sb=>⟨.ref D,H',I'.aL6 hsz I2 hC sb,rfl,q⟩⟩
theorem aC8{elt tg iter:Expr}{ifs:List Expr}{scope:Scope}{N':List Str}{d5:List Nat}{cl:List (Str×Addr)}{pos spos px:Pos}{wi:TI}{g:TG}{tc:TT}{te:TE}{i:Nat}{x:Str}(S:CompScope X scope N' d5 cl)(hc:X.calm=true)(hi:PI X tg iter wi)(hg:∀pins C s H fp,PG (d7 X pins scope N' cl C s H fp) tg g)(ht:∀pins C s H fp,PTs (d7 X pins scope N' cl C s H fp) ifs tc)(he:∀pins C s H fp,PE (d7 X pins scope N' cl C s H fp) elt te)(hs:∀x,foldedSetIterable iter X.env x=pure x)(hN:X.N.Nodup)(hix:X.N[i]?=some x)(hx:Loc X.env.scope x)(hf:X.fn x=true\/X.env.scope.names.lookup x=some .local) :
  PS X (.Assign [.Name x px] (.ListComp elt [⟨tg,iter,ifs,0⟩] scope pos) spos) (ax1 (aJ1 wi d5 N'.length g tc te) (ae9 i)):=by
 intro pins s σ H D I h;have hsw:∃b,swapsWith (.ListComp elt [⟨tg,iter,ifs,0⟩] scope pos) (some (.Name x px)) spos.line X.env=pure b:=⟨_,rfl⟩
 obtain⟨b,hsw⟩:=hsw;cases b with
 |false=>exact aQ7 hN hix hx (aF9 S hc hi hg ht he hs) hsw hf pins s σ H D I h
 |true =>
  rw[exec_Assign_Name_used _ _ _ _ hsw];refine wpAny_bind (wpAny_standAt (wpAny_bind ?_));show wpAny _ X.A (do let _ <- comprehension (.ListComp elt [⟨tg,iter,ifs,0⟩] scope pos) scope X.env _ (newList []) false (eval iter X.env) (some (assign (.Name x px) X.env))) _ _ s;refine wpAny_bind (wpAny_mono (wpAny_comprehension_free (use:=some (assign (.Name x px) X.env)) (Q:=fun _ s'=>SP X pins D .next s') rfl hs S.clos S.kind S.names
   (thn (hi pins s σ H _ I h) fun xv s₁ h₁=>thn h₁ fun itv s₂ h₂=>?_)) (fun _ s' hq=>wpAny_pure (wpAny_pure hq)) fun _ _ e=>e)
  obtain⟨it,fp,tn,J,H2,e,I2,T,st2,f2,W,⟨m0,w0⟩,turn⟩:=h₂;subst e;refine al2 (al6 (xx:=fun _ _ _ _ _=>False) (Q:=fun v H1=>ae9 i v σ H1 D.nx) (RR:=fun acc C=>compPost (model X.prog X.w) X.A X.xe (some (assign (.Name x px) X.env)) (fun _ s'=>SP X pins D .next s') acc C) S hc (fun C s H=>hg pins C s H fp) (fun C s H=>ht pins C s H fp) (fun C s H=>he pins C s H fp) I2 T st2 f2 w0 turn ?_ fun _ _ _ _ _ z=>z.elim);intro Dl C s' H' m I' q hn hC hsz;show wpAny _ X.A (assign (.Name x px) X.env (.ref Dl)) _ _ _;refine wpAny_assign_Name (aq6 I' hN hix hx (v:=.ref Dl) rfl (fun s3 I3 ⟨a,sb,ha⟩=>?_) hf);have hCL:C≠a:=by
   obtain⟨f0,f1,f2,f3,f4,f5⟩:=I2.ac7 (b:=C) (H':=H') hsz hC;rcases ha with z|z
   ·rw[z];exact f1
   ·exact fun z'=>f4 _ _ z z'.symm
  obtain⟨f0,f1,f2,f3,f4,f5⟩:=I2.ac7 (b:=C) (H':=H') hsz hC;refine⟨m,hn.sameBut sb hCL,fun h3 sb3=>⟨_,H',I3.turned (t':=s3.toks) (fun b o hb e=>sb3.extBut b o hb e) f0 f1 f3 f4 f5,q⟩⟩
end
end L2

namespace HT
open PySem PyProof.Rows
section
variable{prog:Program}{w:World}{A:Around}{E:Value->Shared->Prop}{s:Shared}
theorem a39{t b:Addr}{ws:List Value}{Q:Value->Shared->Prop}(ht:IsTup s.heap t #[])(hb:IsTup s.heap b ws.toArray)(h1:Q (.ref b) s):wpAny (model prog w) A (binaryOp .Add (.ref t) (.ref b)) Q E s:=by
 obtain⟨⟨cls,dd,data,sl⟩,ho,hc,n,hd⟩:=id ht;obtain⟨⟨cls2,dd2,data2,sl2⟩,ho2,hc2,n2,hd2⟩:=id hb;simp only at hc hd hc2 hd2;subst hc hd hc2 hd2;exact concat_meets ⟨_,ho,rfl⟩ ⟨_,ho2,rfl⟩ noFill_tuple_add seq_tuple_add PySem.F.slot_tuple_add PySem.F.entry_tuple_add (PySem.F.args_tuple_add_2 _ _)
   (tuple_addW0 t b #[] ws.toArray n n2 dd dd2 sl sl2 rfl) ⟨ho,ho2,h1⟩
theorem aa9{t sl:Addr}{items:Array Value}{vl vu:Value}{lo hi:Option Int}{Q:Value->Shared->Prop}(ht:IsTup s.heap t items)(hs:s.heap.IsSliceOf sl vl vu .none)(pl:IsPart vl lo)(pu:IsPart vu hi)(hw:sIx items.size 0 lo=0/\sIx items.size items.size hi=items.size)(h:Q (.ref t) s):wpAny (model prog w) A (getItem (.ref t) (.ref sl)) Q E s:=by
 obtain⟨os,hos,hcs,hds⟩:=id hs;have hTs:s.TypeIs (.ref sl) "slice":=⟨os,hos,hcs⟩
 unfold getItem
 try with_reducible refine wpAny_holding ?_
 first|refine wpAny_bind (wpAny_pure ?_)|skip
 refine wpAny_bind (wpAny_sequenceKey ht.typeIs (by decide) ?_);refine wpAny_bind (wpAny_callSpecial?_slot (name:=Str.ofString "__getitem__") ht.typeIs PyProof.Rows.slot_tuple_getitem
  (wpAny_call_entry PyProof.Rows.slot_tuple_getitem ht.typeIs entry_tuple_getitem ?_ (args_tuple_getitem _ _)))
 show wpAny _ _ (Builtin.Tuple.tupleItemsOf (.ref t) >>= _) _ _ s;refine wpAny_bind (tupleItemsOf_ ht ?_);refine wpAny_bind (wpAny_typeOf hTs ?_);rw[if_pos (by decide)];refine wpAny_bind (P4 hs pl pu ?_);have hyes:((((sIx items.size 0 lo:Nat):Int)==0&&(1:Int)==1&&(sIx items.size items.size hi-sIx items.size 0 lo)==items.size)=true):=by
  rw[hw.1,hw.2];simp
 show wpAny _ _ (if(((sIx items.size 0 lo:Nat):Int)==0&&(1:Int)==1&&(sIx items.size items.size hi-sIx items.size 0 lo)==items.size)=true then _ else _) _ _ s;rw[if_pos hyes];obtain⟨o,ho,hc,_⟩:=id ht;unfold Builtin.Tuple.tupleIsExact;refine wpAny_bind (wpAny_bind (wpAny_typeOf ht.typeIs (wpAny_pure ?_)));rw[if_pos (by decide)]
 first
  |exact wpAny_bind (wpAny_rule (wpAny_bind (wpAny_pure ⟨_,rfl,wpAny_pure h⟩)))
  |exact wpAny_bind (wpAny_rule (wpAny_pure ⟨_,rfl,wpAny_pure h⟩))
  |exact wpAny_bind (wpAny_rule (wpAny_bind (wpAny_pure (wpAny_pure ⟨_,rfl,wpAny_pure h⟩))))
end
end HT
namespace L2
open PySem PySem.Spec PyProof.Rows
section
variable{X:Cx}
noncomputable def bm0(K:PySem.W.Frag):R2:=fun x y H Q=>∃a b xs ys,x=.ref a/\y=.ref b/\SqT K H a xs/\SqT K H b ys/\xs.length+ys.length<=sizeLine /\
 (xs=[]->Q (.ref b) H)/\(ys=[]->Q (.ref a) H)/\(∀p,H p=none->Q (.ref p) (upd H p (.tup (xs++ys))))
theorem a14:OpR X (binaryOp .Add) (bm0 X.K):=by
 intro pins s σ H x y v u Q I rx ry h;obtain⟨a,b,xs,ys,rfl,rfl,ha,hb,hz,q0,q1,q2⟩:=h;by_cases hx:xs=[]
 ·subst hx;cases rx;cases ry;obtain⟨its,r1,p1,_⟩:=I.tuple ha;obtain⟨its2,r2,p2,_⟩:=I.tuple hb;cases r1;exact HT.a39 p1 p2 ⟨.ref b,H,I,rfl,q0 rfl⟩
 ·exact bd9 pins s σ H _ _ v u Q I rx ry ⟨a,b,xs,ys,rfl,rfl,ha,hb,hx,hz,q1,fun _=>q2⟩
noncomputable def bx3(K:PySem.W.Frag):V->Option Int->Option Int->Hp->VK->Prop:=fun x lo hi H Q=>∃a xs,x=.ref a/\SqT K H a xs /\
 (Q4 xs lo hi=xs->Q (.ref a) H)/\∀p,H p=none->Q (.ref p) (upd H p (.tup (Q4 xs lo hi)))
theorem a98:SlR X (bx3 X.K):=by
 intro pins s σ H x v vl vu lo hi sl Q I rx hs pl pu h;obtain⟨a,xs,rfl,hx,q0,q⟩:=h;by_cases hw:HT.sIx xs.length 0 lo=0/\HT.sIx xs.length xs.length hi=xs.length
 ·cases rx;obtain⟨its,r,ht,hz⟩:=I.tuple hx;have hlen:its.toArray.size=xs.length:=by rw[List.size_toArray];exact r.length.symm
  refine⟨"tuple",_,PyProof.Rows.slot_tuple_getitem.lookup,ht.typeIs,?_⟩;exact HT.aa9 ht hs pl pu (by rw[hlen];exact hw) ⟨.ref a,H,I,rfl,q0 (by unfold Q4;rw[hw.1,hw.2];simp)⟩
 ·exact bj8 pins s σ H _ v vl vu lo hi sl Q I rx hs pl pu ⟨a,xs,rfl,hx,hw,q⟩
theorem aD9:l9 X (.builtin "isinstance") (fun xs H Q=>∃x t c b,xs=[x,.ty c]/\TyOf X.K H x t/\PySem.W.kitOne X.K t (.type c)=some b/\Q (.bl b) H):=by
 intro pins s σ H xs us Q I r h;obtain⟨x,t,c,b,rfl,hT,hk,q⟩:=h;obtain⟨u,w',rfl,ru,rw'⟩:=vals2 r;cases (show w'=Value.type c from rw');exact aT7 I ru hT hk fun tk=>⟨.bl b,H,I.tok tk,rfl,q⟩
theorem aW1(hc:X.calm=true):l9 X (.builtin "all") (fun xs H Q=>∃(a:Addr) (bs:List Bool),xs=[.ref a]/\SqL X.K H a (bs.map V.bl)/\Q (.bl (bs.all id)) H):=by
 intro pins s σ H xs us Q I r h;obtain⟨a,bs,rfl,ha,q⟩:=h;obtain⟨u,rfl,ru⟩:=vals1 r;cases ru;obtain⟨its,rv,p,hz⟩:=I.list ha;refine call_all_walk ?_;refine wpAny_pyIter_list p.isList ?_;have hne:a≠s.heap.objs.size:=by
  obtain⟨o,e,_⟩:=id p.isList;exact Nat.ne_of_lt (Heap.lt_size e)
 have hl:=rv.length;rw[List.length_map] at hl;refine⟨s.heap.objs.size,_,_,_,_,_,fun i=>bs.getD i true,rfl,Walks.list (A:=X.A.in1) (I.ok.hd hc) _ a hne its.toArray,⟨⟨_,Heap.get?_push_size _ rfl,rfl,rfl⟩,?_⟩,?_,fun h' tk k=>?_⟩
 ·obtain⟨o,e,q1⟩:=id p.isList;exact⟨o,Heap.get?_push_of_some _ e,q1⟩
 ·intro i v s' Q' E' hP hQ;have hv:its[i]?=some v:=by simpa using hP
  have hi:i<bs.length:=by rw[hl];exact(List.getElem?_eq_some_iff.mp hv).1
  obtain⟨u',hu',ru'⟩:=rv.get (i:=i) (x:=V.bl bs[i]) (by rw[List.getElem?_map,List.getElem?_eq_getElem hi];rfl);rw[hv] at hu';cases hu';cases (show v=Value.bool bs[i] from ru');refine wpAny_truthy_bool ?_;have:bs.getD i true=bs[i]:=by simp[List.getD,hi]
  dsimp only at hQ;rw[this] at hQ;exact hQ
 ·have e1:(List.range its.toArray.size).all (fun i=>bs.getD i true)=bs.all id:=by
   rw[List.size_toArray,<- hl];rw[Bool.eq_iff_iff];simp only[List.all_eq_true,List.mem_range,id];constructor
   ·intro hh x hx;obtain⟨i,hi,rfl⟩:=List.mem_iff_getElem.mp hx;have:=hh i hi;simpa[List.getD,hi] using this
   ·intro hh i hi;have:=hh bs[i] (List.getElem_mem hi);simpa[List.getD,hi] using this
  rw[e1];exact ⟨.bl (bs.all id),H,I.kept (t':=tk) fun b o e=>k b o (by
   intro hb;have:b=s.heap.objs.size:=by simpa using hb
   exact absurd (Heap.lt_size e) (by rw [this];exact Nat.lt_irrefl _)) (Heap.get?_push_of_some _ e),rfl,q⟩
end
end L2

namespace HT
open PySem PyProof.Rows
section
variable{prog:Program}{w:World}{A:Around}{E:Value->Shared->Prop}{s:Shared}
end
end HT
namespace L2
open PySem PySem.Spec PyProof.Rows
section
variable{X:Cx}{e st:Expr}{te ts:TE}{pos p2:Pos}
end
end L2

namespace L2
open PySem PySem.Spec PyProof.Rows
theorem l6.get{P:Program}{w:World}{H:Hp}{h:Heap}{a:Addr}:∀{o:HO},l6 P w H h a o->∃ob,h.get? a=some ob
 |.lst _,x=>by obtain⟨_,_,_,_,e⟩:=x;exact⟨_,e⟩
 |.tup _,x=>by obtain⟨_,_,_,o,e,_⟩:=x;exact⟨o,e⟩
 |.dK _,x=>by obtain⟨_,_,_,_,o,es,ep,e,_⟩:=x;exact⟨o,e⟩
 |.dT _,x=>by obtain⟨_,_,_,_,o,es,ep,e,_⟩:=x;exact⟨o,e⟩
 |.set _ _,x=>by obtain⟨o,es,ep,t,e,_⟩:=x;exact⟨o,e⟩
 |.ins _ _ _,x=>by obtain⟨_,_,_,e,_⟩:=x;exact⟨_,e⟩
 |.own _,x=>x
 |.xd _,x=>by obtain⟨mA,n,_⟩:=x;obtain⟨od,e,_⟩:=ar4 n;exact⟨od,e⟩
 |.rng _ _,x=>by obtain⟨_,_,_,e⟩:=x;exact⟨_,e⟩
 |.frz _ _,x=>⟨_,x.1⟩
 |.tbl _,x=>⟨_,x⟩
 |.met _ _,x=>⟨_,x⟩
 |.ext _,x=>x.2.1
noncomputable def aN9(H':Hp)(h0:Heap)(l:List Env)(e:Value)(C:Addr)(h:Heap):Prop :=
 ∃(ea:Addr) (a0:Value) (B:Heap),e=.ref ea/\Heap.FlyingW B l ea (.ref C) a0 h/\∀b o,h.get? b=some o->b∉frs l->(H' b≠none\/∃o0,h0.get? b=some o0)->B.get? b=some o
noncomputable def CXE(P:Program)(w:World):CXT:=fun outer H s E e s'=>∃(C:Addr) (H':Hp),s'.os=s.os/\AllBare s'.gens/\Un (frs outer) [] H H' s.heap s'.heap/\HOk P w H' s'.heap/\aN9 H' s.heap outer e C s'.heap/\E (.ref C) none H'
section
variable{X:Cx}{pins:List (Addr×Obj)}{σ:St}{H:Hp}{s s':Shared}{E:XK}{e:Value}
theorem Inv.flew(I:Inv X pins σ H s)(h:CXE X.prog X.w X.stack H s E e s'):∃C H',Inv X pins σ H' s'/\aN9 H' s.heap X.stack e C s'.heap/\E (.ref C) none H':=by
 obtain⟨C,H',ho,hb,hu,hok,fl,hE⟩:=h;exact⟨C,H',I.aM8 (ch:=[]) ho hu hok hb (by simp),fl,hE⟩
theorem Z1(I:Inv X pins σ H s){b:Addr}(hb:b∈frs X.stack):∃o,s.heap.get? b=some o/\∀vs,o.data≠.fields vs:=(I.stack.mem hb).2
theorem aM7{h'':Heap}{B:Heap}{ea C:Addr}{a0:Value}(I:Inv X pins σ H s)(hst:X.stack=X.env::X.outer)(hex:X.ex=[])(hf:X.env.frame=some X.env.locals)(inB:∀b o,s.heap.get? b=some o->b∉frs X.stack->(H b≠none\/∃o0,X.s₀.heap.get? b=some o0)->B.get? b=some o)(sl:∀b∈frs X.stack,∀o,s.heap.get? b=some o->∃sl,h''.get? b=some { o with slots:=sl })(fw:Heap.FlyingW B X.outer ea (.ref C) a0 h'')(hE:E (.ref C) none H):CXE X.prog X.w X.outer X.H₀ X.s₀ E (.ref ea) { s with heap:=h'' }:=by
 have hsub:∀b,b∈frs X.outer->b∈frs X.stack:=fun b hb=>by rw[hst];unfold frs at hb ⊢;rw[List.filterMap_cons,hf];exact List.mem_cons_of_mem _ hb
 have nost:∀b o,X.s₀.heap.get? b=some o->b∉frs X.outer->b∉frs X.stack:=fun b o e hb z=>by
  rcases List.mem_cons.mp (I.J9 b z) with z|z
  ·exact absurd (Heap.lt_size e) (by rw[z];exact Nat.not_lt.mpr I.ok.above)
  ·exact hb z
 have trk:∀b u,H b=some u->b∉frs X.stack:=fun b u e z=>by rw[I.ad8 b z] at e;cases e
 have kept:∀b o,s.heap.get? b=some o->b∉frs X.stack->(H b≠none\/∃o0,X.s₀.heap.get? b=some o0)->h''.get? b=some o:=fun b o e n q=>fw.1 b o (inB b o e n q);have nex:∀b,b∉X.ex:=fun b=>by rw[hex];simp
 refine⟨C,H,I.os,I.bare,⟨?_,?_,?_,?_,I.base.tups,I.base.frzs,I.base.tbls⟩,?_,⟨ea,a0,B,rfl,fw,?_⟩,hE⟩
 ·exact fun b o e n1 n2 _=>kept b o (I.base.keep b o e n1 n2 (nex b)) (nost b o e n2) (.inr ⟨o,e⟩)
 ·intro b o e n1 n2 _;obtain⟨sl1,e1⟩:=I.base.slot b o e n1 n2 (nex b);obtain⟨sl2,e2⟩:=sl b (hsub b n2) _ e1;exact⟨sl2,e2⟩
 ·exact fun b o e n1 _=>I.base.free b o e n1 (nex b)
 ·intro b o e _;obtain⟨o1,e1⟩:=I.base.there b o e (nex b);by_cases hb:b∈frs X.stack
  ·obtain⟨sl2,e2⟩:=sl b hb _ e1;exact⟨_,e2⟩
  ·exact⟨o1,kept b o1 e1 hb (.inr ⟨o,e⟩)⟩
 ·intro a o e;exact (I.hok a o e).P2 (fun b u hb q=>by
   have hb':∃v,H b=some v:=by
    rcases hb with rfl|hb
    ·exact⟨o,e⟩
    ·exact⟨_,hb⟩
   obtain⟨v,hv⟩:=hb';exact kept b u q (trk b v hv) (.inl (by rw [hv];simp))) (fun b hb=>hb) (fun b xs hb=>hb)
 ·intro b o e n q;rcases q with q|⟨o0,q⟩
  ·obtain⟨v,hv⟩:=Option.ne_none_iff_exists'.mp q;obtain⟨o1,e1⟩:=(I.hok b v hv).get;have z:=inB b o1 e1 (trk b v hv) (.inl (by rw[hv];simp));have z':=fw.1 b o1 z;have:o=o1:=by
    have e':h''.get? b=some o:=e;rw[z'] at e';exact(Option.some.inj e').symm
   subst this;exact z
  ·obtain⟨o1,e1⟩:=I.base.there b o0 q (nex b);have z:=inB b o1 e1 (nost b o0 q n) (.inr ⟨o0,q⟩);have z':=fw.1 b o1 z;have:o=o1:=by
    have e':h''.get? b=some o:=e;rw[z'] at e';exact(Option.some.inj e').symm
   subst this;exact z
theorem az4{h0:Heap}{C:Addr}{Ex:Value->Shared->Prop}(I:Inv X pins σ H s)(fl:aN9 H h0 X.stack e C s.heap)(h0k:∀b o,X.s₀.heap.get? b=some o->∃o',h0.get? b=some o')(hst:X.stack=X.env::X.outer)(hex:X.ex=[])(hf:X.env.frame=some X.env.locals)(hE:E (.ref C) none H):wpAny (model X.prog X.w) X.A (leaving X.env e) (fun _ s''=>CXE X.prog X.w X.outer X.H₀ X.s₀ E e s'') Ex s:=by
 obtain⟨ea,a0,B,rfl,fw,hB⟩:=fl;have fw0:=fw;rw[hst] at fw;refine wpAny_leaves_onW (by rw[I.ok.frames,hst]) hf fw fun h'' fw' us=>?_;refine aM7 I hst hex hf (fun b o e n q=>hB b o e n (q.imp id fun⟨o0,q⟩=>h0k b o0 q)) (fun b hb o e=>?_) fw' hE;obtain⟨o1,e1,nf⟩:=Z1 I hb;rw[e] at e1;cases e1;exact us b o e nf
theorem aL7{h':Heap}{ea C:Addr}{vs:List Value}{Ex:Value->Shared->Prop}(I:Inv X pins σ H s)(hx:Heap.MadeExcOf s.heap h' ea (.ref C) vs)(hst:X.stack=X.env::X.outer)(hex:X.ex=[])(hf:X.env.frame=some X.env.locals)(hE:E (.ref C) none H):wpAny (model X.prog X.w) X.A (leaving X.env (.ref ea)) (fun _ s''=>CXE X.prog X.w X.outer X.H₀ X.s₀ E (.ref ea) s'') Ex { s with heap:=h' }:=by
 have hfn:=I.stack;rw[hst] at hfn;have hin:∀env∈(X.env::X.outer),∀b,env.frame=some b->b∈frs X.stack:=fun env he b hb=>by rw[hst];exact List.mem_filterMap.mpr ⟨env,he,hb⟩
 refine wpAny_leaves_madeW (s:={ s with heap:=h' }) (base:=PySem.W.hideAll s.heap (frs X.stack)) (h:=s.heap) (by rw[I.ok.frames,hst]) hf (fun b o q=>PySem.W.of_hideAll _ q) (PySem.W.funFrames_hide hfn hin) hx fun h'' t fw _ _ us=>?_;refine(show CXE X.prog X.w X.outer X.H₀ X.s₀ E (.ref ea) { s with heap:=h'' } from aM7 I hst hex hf (fun b o e n _=>PySem.W.hideAll_get _ e n) (fun b hb o e=>?_) fw hE);obtain⟨o1,e1,nf⟩:=Z1 I hb;rw[e] at e1;cases e1;exact us b o (hx.keeps b o e) nf
theorem aX2{l:List Env}{H H':Hp}{h0 h h1 B:Heap}{Pg:Program}{w:World}(u:Un (frs l) [] H H' h0 h)(ok:HOk Pg w H' h)(hB:∀b o,h.get? b=some o->b∉frs l->(H' b≠none\/∃o0,h0.get? b=some o0)->B.get? b=some o)(st:B.StaysIn h1)(us:h.UpToSlots h1)(hfr:∀b∈frs l,H' b=none/\∃o,h.get? b=some o/\∀vs,o.data≠.fields vs):Un (frs l) [] H H' h0 h1/\HOk Pg w H' h1/\∀b o,h1.get? b=some o->b∉frs l->(H' b≠none\/∃o0,h0.get? b=some o0)->B.get? b=some o:=by
 have trk:∀b u,H' b=some u->b∉frs l:=fun b u e z=>by rw[(hfr b z).1] at e;cases e
 have kept:∀b o,h.get? b=some o->b∉frs l->(H' b≠none\/∃o0,h0.get? b=some o0)->h1.get? b=some o:=fun b o e n q=>st b o (hB b o e n q);have fsl:∀b∈frs l,∀o,h.get? b=some o->∃sl,h1.get? b=some { o with slots:=sl }:=fun b hb o e=>by
  obtain⟨_,o1,e1,nf⟩:=hfr b hb;rw[e] at e1;cases e1;exact us b o e nf
 refine⟨⟨?_,?_,u.free,?_,u.tups,u.frzs,u.tbls⟩,?_,?_⟩
 ·exact fun b o e n1 n2 n3=>kept b o (u.keep b o e n1 n2 n3) n2 (.inr ⟨o,e⟩)
 ·intro b o e n1 n2 n3;obtain⟨sl1,e1⟩:=u.slot b o e n1 n2 n3;obtain⟨sl2,e2⟩:=fsl b n2 _ e1;exact⟨sl2,e2⟩
 ·intro b o e n;obtain⟨o1,e1⟩:=u.there b o e n;by_cases hb:b∈frs l
  ·obtain⟨sl2,e2⟩:=fsl b hb _ e1;exact⟨_,e2⟩
  ·exact⟨o1,kept b o1 e1 hb (.inr ⟨o,e⟩)⟩
 ·intro a o e;exact (ok a o e).P2 (fun b u hb q=>by
   have hb':∃v,H' b=some v:=by
    rcases hb with rfl|hb
    ·exact⟨o,e⟩
    ·exact⟨_,hb⟩
   obtain⟨v,hv⟩:=hb';exact kept b u q (trk b v hv) (.inl (by rw [hv];simp))) (fun b hb=>hb) (fun b xs hb=>hb)
 ·intro b o e n q;have:∃o1,h.get? b=some o1:=by
   rcases q with q|⟨o0,q⟩
   ·obtain⟨v,hv⟩:=Option.ne_none_iff_exists'.mp q;exact(ok b v hv).get
   ·exact u.there b o0 q (by simp)
  obtain⟨o1,e1⟩:=this;have z:=hB b o1 e1 n q;rw[st b o1 z] at e;cases e;exact z
section
variable{s':Shared}
structure Lies(X:Cx)(H H':Hp)(s:Shared)(B:Heap)(ea C:Addr)(a0:Value)(s':Shared):Prop where
 os:s'.os=s.os
 bare:AllBare s'.gens
 un:Un (frs X.stack) [] H H' s.heap s'.heap
 hok:HOk X.prog X.w H' s'.heap
 inB:∀b o,s'.heap.get? b=some o->b∉frs X.stack->(H' b≠none\/∃o0,s.heap.get? b=some o0)->B.get? b=some o
theorem Lies.inv{H':Hp}{B:Heap}{ea C:Addr}{a0:Value}(I:Inv X pins σ H s)(l:Lies X H H' s B ea C a0 s'):Inv X pins σ H' s':=I.aM8 (ch:=[]) l.os l.un l.hok l.bare (by simp)
theorem leave_held{H':Hp}{B:Heap}{ea C:Addr}{a0:Value}{Ex:Value->Shared->Prop}(I:Inv X pins σ H s)(l:Lies X H H' s B ea C a0 s')(hh:Heap.HeldW B X.stack ea (.ref C) a0 X.env.locals s'.heap)(hst:X.stack=X.env::X.outer)(hex:X.ex=[])(hf:X.env.frame=some X.env.locals)(hE:E (.ref C) none H'):wpAny (model X.prog X.w) X.A (leaving X.env (.ref ea)) (fun _ s''=>CXE X.prog X.w X.outer X.H₀ X.s₀ E (.ref ea) s'') Ex s':=by
 have J:=l.inv I;have hh':=hh;rw[hst] at hh';unfold leaving;refine wpAny_bind (wpAny_noteFrame_againW hf hh'.2.2.2 ?_);refine wpAny_landsW hh' fun h'' fl us=>?_;obtain⟨k1,k2,⟨_,_,k3⟩,k4⟩:=fl;refine aM7 J hst hex hf (fun b o e n q=>l.inB b o e n (q.imp id fun⟨o0,q⟩=>I.base.there b o0 q (by rw[hex];simp))) (fun b hb o e=>?_) ⟨k1,k2,k3,k4⟩ hE;obtain⟨o1,e1,nf⟩:=Z1 J hb;rw[e] at e1;cases e1;exact us b o e nf
end
noncomputable def af7(X:Cx)(Ξ:XK):Prop:=∀(pins:List (Addr×Obj)) (σ:St) (H:Hp) (s:Shared) (h':Heap) (ea C:Addr) (vs:List Value),Inv X pins σ H s->Heap.MadeExcOf s.heap h' ea (.ref C) vs->Ξ (.ref C) none H->X.xe (.ref ea) { s with heap:=h' }
noncomputable def ad3(X:Cx)(Ξ:XK):Prop:=∀(pins:List (Addr×Obj)) (σ:St) (H H':Hp) (s s':Shared) (B:Heap) (ea C:Addr) (a0:Value),Inv X pins σ H s->Lies X H H' s B ea C a0 s'->Heap.HeldW B X.stack ea (.ref C) a0 X.env.locals s'.heap->Ξ (.ref C) none H'->X.xe (.ref ea) s'
noncomputable def bi3(C:Addr)(Ξ:XK)(t:TA):TS:=fun _ σ H=>t σ H fun vs H1=>vs.length<=sizeLine/\Ξ (.ref C) none H1
theorem a02{x:Str}{C:Addr}{B newId initId:String}{bm:List Value}{np cpos pos:Pos}{e₀:Expr}{rest:List Expr}{t:TA}{Ξ:XK}(hc:X.calm=true)(O:OwnCls x C bm newId X.mg X.base)(FB:ExcBaseFacts B newId initId bm)(hg:Gl X x)(ha:PA X (e₀::rest) t)(hr:af7 X Ξ)(he:starEach (e₀::rest) X.env=(false,eval e₀ X.env)::starEach rest X.env)(hplain:(backTo cpos (starEach rest X.env)).any (·.1)=false)(hd:(x==("__debug__":Str))=false) :
  PS X (.Raise (some (.Call (.Name x np) (e₀::rest) [] cpos)) none pos) (bi3 C Ξ t):=by
 intro pins s σ H D I h;obtain⟨tl,N,nm,q,bs,hdct,sn,sub,ab,col,dd,k0,k1,k2,k3,k5,mN,hC,hN,hni,T⟩:=O.obj;refine wpAny_Raise_call_subT (C:=C) (nm:=nm) (q:=q) (N:=N) (bs:=bs) (bm:=tl) (hdct:=hdct) (sn:=sn) (sub:=sub) (ab:=ab) (col:=col) (dd:=dd) (k0:=k0) (k1:=k1) (k2:=k2) (k3:=k3) (k5:=k5)
  FB (mN:=mN) (T.hasType FB.hasBase) (I.ok.hd hc) (by rw[he];show(false||(backTo cpos (starEach rest X.env)).any (·.1))=false;rw[hplain];rfl) hni (O7 I hg O.bound ⟨rfl,?_⟩ hd)
 have h':=ha cpos pins s σ H _ I h;rw[he] at h' ⊢;refine Calls.evalArgs_plain (wpAny_mono h' (fun vs s₂ h₂=>?_) fun _ _ y=>y);obtain⟨ws,H1,I1,rv,hz,hE⟩:=h₂;exact⟨rfl,by rw[<- rv.length];exact hz,I1.bk _ _ hC,hN.keeps I1.bk,T.keeps I1.bk,fun h2 ea hm=>hr pins σ H1 s₂ h2 ea C vs I1 hm hE⟩
noncomputable def Q7(X:Cx)(pins:List (Addr×Obj))(xe:Value->Shared->Prop):Cx:={ X with pn:=X.pn++pins,xe:=xe }
noncomputable def C3(X:Cx)(ea:Addr):Cx:={ X with A:=X.A.mark (some (.ref ea)),calm:=false,xe:=fun _ _=>False }
theorem Inv.bv4{xe:Value->Shared->Prop}(I:Inv X pins σ H s):Inv (Q7 X pins xe) [] σ H s :=
 ⟨⟨I.ok.mod,I.ok.kind,I.ok.glob,I.ok.blt,I.ok.above,I.ok.inj,I.ok.has,I.ok.cab,I.ok.hd,I.ok.frames,I.ok.stk,I.ok.exf,I.ok.bs,I.ok.bsz,I.ok.noex,I.ok.exfs,I.ok.F9,I.ok.frf⟩,I.os,I.bare,I.base,I.loc,I.cell,I.free,I.freeC,
  fun p hp=>I.pin p (by simpa [Q7] using hp),I.hok,I.len⟩
theorem Inv.X7{xe:Value->Shared->Prop}{pins':List (Addr×Obj)}(I:Inv (Q7 X pins xe) pins' σ H s):Inv X pins σ H s :=
 ⟨⟨I.ok.mod,I.ok.kind,I.ok.glob,I.ok.blt,I.ok.above,I.ok.inj,I.ok.has,I.ok.cab,I.ok.hd,I.ok.frames,I.ok.stk,I.ok.exf,I.ok.bs,I.ok.bsz,I.ok.noex,I.ok.exfs,I.ok.F9,I.ok.frf⟩,I.os,I.bare,I.base,I.loc,I.cell,I.free,I.freeC,
  fun p hp=>I.pin p (List.mem_append_left _ hp),I.hok,I.len⟩
theorem Inv.aP0{ea:Addr}(I:Inv X pins σ H s):Inv (C3 X ea) pins σ H s :=
 ⟨⟨I.ok.mod,I.ok.kind,I.ok.glob,I.ok.blt,I.ok.above,I.ok.inj,I.ok.has,I.ok.cab,fun z=>(by cases z),I.ok.frames,I.ok.stk,I.ok.exf,I.ok.bs,I.ok.bsz,I.ok.noex,I.ok.exfs,I.ok.F9,I.ok.frf⟩,I.os,I.bare,I.base,I.loc,I.cell,I.free,I.freeC,I.pin,I.hok,I.len⟩
theorem Inv.U9{ea:Addr}(J:X.Ok)(I:Inv (C3 X ea) pins σ H s):Inv X pins σ H s :=
 ⟨J,I.os,I.bare,I.base,I.loc,I.cell,I.free,I.freeC,I.pin,I.hok,I.len⟩
theorem SP.X7{xe:Value->Shared->Prop}{D:Ends}{f:Flow}(h:SP (Q7 X pins xe) [] D f s):SP X pins D f s:=by
 cases f with
 |next=>obtain⟨a,b,I,q⟩:=h;exact⟨a,b,I.X7,q⟩
 |brk=>obtain⟨a,b,I,q⟩:=h;exact⟨a,b,I.X7,q⟩
 |cont=>obtain⟨a,b,I,q⟩:=h;exact⟨a,b,I.X7,q⟩
 |ret u=>obtain⟨v,a,b,I,r,q⟩:=h;exact⟨v,a,b,I.X7,r,q⟩
theorem SP.U9{ea:Addr}{D:Ends}{f:Flow}(J:X.Ok)(h:SP (C3 X ea) pins D f s):SP X pins D f s:=by
 cases f with
 |next=>obtain⟨a,b,I,q⟩:=h;exact⟨a,b,I.U9 J,q⟩
 |brk=>obtain⟨a,b,I,q⟩:=h;exact⟨a,b,I.U9 J,q⟩
 |cont=>obtain⟨a,b,I,q⟩:=h;exact⟨a,b,I.U9 J,q⟩
 |ret u=>obtain⟨v,a,b,I,r,q⟩:=h;exact⟨v,a,b,I.U9 J,r,q⟩
noncomputable def aa0(X:Cx)(D:Ends)(C:Addr)(H:Hp):List ExceptHandler->Prop
 |.ExceptHandler (some (.Name x _)) none (b₀::suite) _::rest=>Gl X x/\(x==("__debug__":Str))=false/\∃C' b,X.mg x=some (.ref C')/\PySem.W.exmOne X.K (.ref C) (.ref C')=some b /\
   (if b=true then ∃t:TS,(∀ea,PSs (C3 X ea) (b₀::suite) t)/\t D (List.replicate X.N.length none) H else aa0 X D C H rest)
 |[]=>∃Ξ:XK,ad3 X Ξ/\Ξ (.ref C) none H
 |_=>False
end
end L2

namespace L2
open PySem PySem.Spec PyProof.Rows
section
variable{X:Cx}{pins:List (Addr×Obj)}{σ:St}{H H':Hp}{s s':Shared}{e:Value}{D:Ends}
noncomputable def ad7(X:Cx)(pins:List (Addr×Obj))(D:Ends)(hs:List ExceptHandler):Value->Shared->Prop:=fun e s₁ =>
 wpAny (model X.prog X.w) X.A (noteFrame e X.env) (fun _ s₂=>wpAny (model X.prog X.w) X.A (setFlight e none) (fun _ s₃=>wpAny (model X.prog X.w) X.A (handleBy e X.env hs) (SP X pins D) X.xe s₃) X.xe s₂) X.xe s₁
theorem Lies.step{B h1:Heap}{ea C:Addr}{a0:Value}(I:Inv X pins σ H s)(l:Lies X H H' s B ea C a0 s')(st:B.StaysIn h1)(us:s'.heap.UpToSlots h1):Lies X H H' s B ea C a0 { s' with heap:=h1 }:=by
 have J:=l.inv I;obtain⟨u,ok,ib⟩:=aX2 l.un l.hok l.inB st us fun b hb=>⟨J.ad8 b hb,Z1 J hb⟩
 exact⟨l.os,l.bare,u,ok,ib⟩
theorem aD5{s:Shared}{B:Heap}{l:List Env}{ea L:Addr}{cls a0:Value}{A:Around}{M:Model}{E:Value->Shared->Prop}{Q:Unit->Shared->Prop}(fw:Heap.FlyingW B l ea cls a0 s.heap)(h:∀h',Heap.HeldW B l ea cls a0 L h'->(∀b o,s.heap.get? b=some o->(∀vs,o.data≠.fields vs)->h'.get? b=some o)->Q () { s with heap:=h' }):wpAny M A (setFlight (.ref ea) (some L)) Q E s:=by
 obtain⟨f1,f2,f3,oe,vs,T,oT,ts,he,hcls,hd,h1,hnT,hTe,hT,hdT,h3⟩:=fw;have hsz3:3<ts.size:=(Array.getElem?_eq_some_iff.mp h3).1;have other:∀b,b≠T->(s.heap.update T (Obj.mapFields (·.setIfInBounds 3 ((some L).elim Value.none fun f=>rawInt f)))).get? b=s.heap.get? b :=
  fun b hb=>Heap.get?_update_other _ _ (Ne.symm hb)
 have noRecord:∀b o,s.heap.get? b=some o->(∀vs,o.data≠.fields vs)->b≠T:=fun b o hb hnf q=>by
  rw[q,hT] at hb;injection hb with hb;subst hb;exact hnf ts hdT
 unfold setFlight;refine wpAny_bind (wpAny_field he hd h1 ?_);rw[if_pos (show(Value.ref T != Value.none)=true from by simp)];refine wpAny_setField hT hdT hsz3 (h _ ⟨fun b o hbo=>(other b fun q=>by rw [q,hnT] at hbo;cases hbo).trans (f1 b o hbo),f2,
  f3.of_keeps fun b o hb hnf=>⟨o,(other b (noRecord b o hb hnf)).trans hb,rfl⟩,?_⟩ fun b o hb hnf=>(other b (noRecord b o hb hnf)).trans hb)
 exact⟨oe,vs,T,_,_,(other ea (Ne.symm hTe)).trans he,hcls,hd,h1,hnT,hTe,Heap.get?_update_self _ hT (Obj.isFreed_of_fields (Obj.data_mapFields hdT _)),Obj.data_mapFields hdT _,by simp[hsz3]⟩
theorem ar9{B:Heap}{ea C:Addr}{a0:Value}(hf:X.env.frame=some X.env.locals):∀(hs:List ExceptHandler) (s':Shared),Inv X pins σ H s->Lies X H H' s B ea C a0 s'->Heap.FlyingW B X.stack ea (.ref C) a0 s'.heap->aa0 X D C H' hs ->
  wpAny (model X.prog X.w) X.A (handleBy (.ref ea) X.env hs) (SP X pins D) X.xe s'
 |[],s',I,l,fw,t=>by
  obtain⟨Ξ,hh,hE⟩:=t;refine wpAny_handleBy_nil ?_;unfold PySem.passOn;obtain⟨f1,f2,f3,oe,vs,T,oT,ts,he,hcls,hd,h1,_⟩:=id fw;refine wpAny_bind (wpAny_field he hd h1 ?_);rw[if_neg (by simp),hf];refine wpAny_bind (aD5 fw fun h2 held k=>wpAny_throw ?_);have l2:=l.step I held.1 (fun b o hb hn=>⟨o.slots,k b o hb hn⟩);exact hh pins σ H H' s _ B ea C a0 I l2 held hE
 |.ExceptHandler none _ _ _::_,_,_,_,_,t=>t.elim
 |.ExceptHandler (some e) nm bd pos::rest,s',I,l,fw,t=>by
  cases e
  case Name x np =>
   cases nm with
   |some y=>exact t.elim
   |none =>
    cases bd with
    |nil=>exact t.elim
    |cons b₀ suite =>
     obtain⟨hg,hdb,C',b,hm,hx,q⟩:=t;have J:=l.inv I;have JM:Inv (C3 X ea) pins σ H' s':=J.aP0;have LT:PySem.W.Looks (model X.prog X.w) s'.heap (typeOf (.ref ea)) (.ref C):=fun A Q E s2 k q=>by
      obtain⟨ob,ho,hc⟩:=fw.there;exact wpAny_typeOf_ref (k _ _ ho) (by rw[hc];exact q)
     refine wpAny_handleBy_cons (codeAny_handlers_test ?_) (by intro z;cases z);refine O7 (X:=C3 X ea) JM hg hm ?_ hdb;refine(PySem.W.exm_one (M:=model X.prog X.w) J.kIn LT hx).here ?_;cases b with
     |false =>
      simp only[Bool.false_eq_true,if_false] at q;exact ar9 hf rest s' I l fw q
     |true =>
      simp only[if_true] at q;obtain⟨t,ht,hq⟩:=q;refine codeAny_handlers_suite ?_;refine wpAny_setFlight_noneW fw.1 fw.2.2.1 fw.2.2.2.at fun h2 k1 k2 k3 k4=>?_;have l2:=l.step I k1 (fun b o hb hn=>⟨o.slots,k4 b o hb hn⟩);have J2:=l2.inv I;have J3:Inv (C3 X ea) pins (List.replicate X.N.length none) H' { s' with heap:=h2 }:=(J2.weak (by rw [List.length_replicate,J2.len]) fun i v z=>by
       rw [List.getElem?_replicate] at z;split at z <;> cases z).aP0
      refine wpAny_mono (ht ea pins _ _ H' D J3 hq) (fun f s2 hf=>hf.U9 I.ok) fun _ _ z=>z.elim
  all_goals exact t.elim
theorem a13{hs:List ExceptHandler}{Ξ:XK}(hst:X.stack=X.env::X.outer)(hf:X.env.frame=some X.env.locals)(hT:∀C H',Ξ (.ref C) none H'->aa0 X D C H' hs) :
  Passes (CXE X.prog X.w) (Q7 X pins (ad7 X pins D hs)) Ξ:=by
 intro pins' σ H s e s' I0 h;have I:Inv X pins σ H s:=I0.X7;obtain⟨C,H',ho,hb,hu,hok,⟨ea,a0,B,rfl,fw,hB⟩,hE⟩:=h;have l:Lies X H H' s B ea C a0 s':=⟨ho,hb,hu,hok,hB⟩
 have fw:Heap.FlyingW B X.stack ea (.ref C) a0 s'.heap:=fw;show ad7 X pins D hs (.ref ea) s';unfold ad7;have fw':=fw;rw[hst] at fw';refine wpAny_looks_onW (by rw[I.ok.frames,hst]) hf fw' fun h1 held us=>?_;have l1:=l.step I held.1 us;refine wpAny_landsW held fun h2 fl us2=>?_;have l2:=l1.step I fl.1 us2;rw[<- hst] at fl;exact ar9 hf hs _ I l2 fl (hT C H' hE)
theorem bm5{hs:List ExceptHandler}{h₀:ExceptHandler}{body:List Stmt}{pos:Pos}{t:Ends->TS}{Ξ:Ends->XK}(hst:X.stack=X.env::X.outer)(hf:X.env.frame=some X.env.locals)(hb:∀pins D,(∀C H',Ξ D (.ref C) none H'->aa0 X D C H' (h₀::hs))->PSs (Q7 X pins (ad7 X pins D (h₀::hs))) body (t D)) :
  PS X (.Try body (h₀::hs) [] [] pos) (fun D σ H=>(∀C H',Ξ D (.ref C) none H'->aa0 X D C H' (h₀::hs))/\t D D σ H):=by
 intro pins s σ H D I ⟨hT,h⟩;refine wpAny_Try_except (wpAny_mono (hb pins D hT [] s σ H D I.bv4 h) (fun f s1 q=>?_) fun e s1 q=>q);have q:=q.X7;cases f with
 |next =>
  obtain⟨σ',H',I',q⟩:=q;exact thn (wpAny_execs_nil ⟨σ',H',I',q⟩) fun _ _ z=>z
 |brk=>exact q
 |cont=>exact q
 |ret u=>exact q
end
end L2

namespace L2
open PySem PySem.Spec PyProof.Rows
section
variable{M:Model}{A:Around}{E:Value->Shared->Prop}{env:Env}{s:Shared}
end
end L2

namespace L2
open PySem PySem.Spec PyProof.Rows
theorem aa8{B B' h h2:Heap}{C:Addr}(hB:∀b,b≠C->B'.get? b=B.get? b)(hh:∀b,b≠C->h2.get? b=h.get? b){oC:Obj}(hC:B.get? C=some oC):∀{l:List Env},h.FunFrames B l->h2.FunFrames B' l
 |[],x=>x
 |env::r,⟨x1,⟨L,o,x2,x3,x4,x5⟩,x6⟩=>by
  have hL:L≠C:=fun z=>by rw[z,hC] at x3;cases x3
  exact⟨x1,⟨L,o,x2,(hB L hL).trans x3,(hh L hL).trans x4,x5⟩,aa8 hB hh hC x6⟩
section
variable{X:Cx}{pins:List (Addr×Obj)}{σ:St}{H H':Hp}{s s':Shared}
theorem Lies.aL6{B h2:Heap}{ea Cc C L:Addr}{a0:Value}{o o2:Obj}(l:Lies X H H' s B ea Cc a0 s')(held:Heap.HeldW B X.stack ea (.ref Cc) a0 L s'.heap)(sb:Heap.SameBut C s'.heap h2)(h2C:h2.get? C=some o2)(o2f:o2.isFreed=false)(hn:H C=none)(hs:s.heap.get? C=some o)(nf:C∉frs X.stack) :
  ∃B',Lies X H H' { s with heap:=s.heap.update C fun _=>o2 } B' ea Cc a0 { s' with heap:=h2 }/\Heap.HeldW B' X.stack ea (.ref Cc) a0 L h2:=by
 obtain⟨oC,eC⟩:=l.un.there C o hs (by simp);have n':H' C=none:=l.un.free C o hs hn (by simp);have hB:B.get? C=some oC:=l.inB C oC eC nf (.inr ⟨o,hs⟩);have b1:(B.update C fun _=>o2).get? C=some o2:=Heap.get?_update_self _ hB o2f;have b2:∀b,b≠C->(B.update C fun _=>o2).get? b=B.get? b:=fun b hb=>Heap.get?_update_other _ _ (Ne.symm hb);have s1:(s.heap.update C fun _=>o2).get? C=some o2:=Heap.get?_update_self _ hs o2f;have s2:∀b,b≠C->(s.heap.update C fun _=>o2).get? b=s.heap.get? b:=fun b hb=>Heap.get?_update_other _ _ (Ne.symm hb);have h2o:∀b,b≠C->h2.get? b=s'.heap.get? b:=sb.2;have ne:∀{b:Addr},B.get? b=none->b≠C:=fun{b} h z=>by rw[z,hB] at h;cases h
 obtain⟨f1,f2,f3,oe,vs,T,oT,ts,he,hcls,hd,h1,hnT,hTe,hT,hdT,h3⟩:=held;refine⟨B.update C fun _=>o2,⟨l.os,l.bare,⟨fun b u e n1 n2 n3=>?_,fun b u e n1 n2 n3=>?_,fun b u e n1 n2=>?_,fun b u e n1=>?_,l.un.tups,l.un.frzs,l.un.tbls⟩,?_,fun b u e n1 q=>?_⟩,fun b u e=>?_,(b2 ea (ne f2)).trans f2,aa8 b2 h2o hB f3,oe,vs,T,oT,ts,(h2o ea (ne f2)).trans he,hcls,hd,h1,(b2 T (ne hnT)).trans hnT,hTe,(h2o T (ne hnT)).trans hT,hdT,h3⟩
 ·by_cases z:b=C
  ·subst z;rw[show({ s with heap:=s.heap.update b fun _=>o2 }:Shared).heap.get? b=_ from s1] at e;cases e;exact h2C
  ·exact(h2o b z).trans (l.un.keep b u ((s2 b z).symm.trans e) n1 n2 n3)
 ·have z:b≠C:=fun z=>nf (z▸n2);obtain⟨sl,q⟩:=l.un.slot b u ((s2 b z).symm.trans e) n1 n2 n3;exact⟨sl,(h2o b z).trans q⟩
 ·by_cases z:b=C
  ·subst z;exact n'
  ·exact l.un.free b u ((s2 b z).symm.trans e) n1 n2
 ·by_cases z:b=C
  ·subst z;exact⟨_,h2C⟩
  ·obtain⟨w,q⟩:=l.un.there b u ((s2 b z).symm.trans e) n1;exact⟨w,(h2o b z).trans q⟩
 ·intro a u e;exact (l.hok a u e).P2 (fun b w hb q=>by
   have:b≠C:=fun z=>by
    rcases hb with rfl|hb
    ·rw[z,n'] at e;cases e
    ·rw[z,n'] at hb;cases hb
   exact (h2o b this).trans q) (fun b hb=>hb) (fun b xs hb=>hb)
 ·by_cases z:b=C
  ·subst z;rw[show({ s' with heap:=h2 }:Shared).heap.get? b=_ from h2C] at e;cases e;exact b1
  ·refine(b2 b z).trans (l.inB b u ((h2o b z).symm.trans e) n1 ?_);rcases q with q|⟨o0,q⟩
   ·exact .inl q
   ·exact .inr ⟨o0,(s2 b z).symm.trans q⟩
 ·by_cases z:b=C
  ·subst z;rw[b1] at e;cases e;exact h2C
  ·exact(h2o b z).trans (f1 b u ((b2 b z).symm.trans e))
end
end L2

namespace L2
open PySem PySem.Spec PyProof.Rows
noncomputable def Ite(K:PySem.W.Frag)(a:Addr):It :=
 ⟨fun i H=>∃xs x,SqL K H a xs/\xs[i]?=some x,fun i H v H'=>∃p x,H p=none/\v=.ref p/\(∀xs,SqL K H a xs->xs[i]?=some x)/\H'=upd H p (.tup [.int i,x]),fun i H=>∃xs,SqL K H a xs/\xs.length<=i⟩
theorem aO6{P:Program}{w:World}{K:PySem.W.Frag}{elts:List Expr}{x1:Nat}{tp:Pos}(a e it:Addr)(hei:e≠it):Turn P w K (.Tuple elts x1 tp) (Ite K a) [e,it] e (fun i h=>(∃old,IsEnum h e it i old)/\h.IsListIter it a i) where
 mem:=by simp
 obj:=fun i h st b hb=>by
  obtain⟨⟨old,h1⟩,o,h2,c,d⟩:=st;rcases List.mem_cons.mp hb with z|z
  ·subst z;exact ⟨_,h1,fun v z=>by
    have z':Data.fields _=Data.cell v:=z;cases z'⟩
  ·have z:b=it:=by simpa using z
   subst z;exact⟨o,h2,fun v z=>by rw[d] at z;cases z⟩
 keep:=fun i h h' st k=>by
  obtain⟨⟨old,h1⟩,h2⟩:=st;exact⟨⟨old,k e (by simp) _ h1⟩,h2.at fun o x=>k it (by simp) o x⟩
 item:=by
  intro X hP hw hK hc i pins s σ H E I hf st hg;subst hP hw hK;obtain⟨⟨old,h1⟩,h2⟩:=st;obtain⟨xs,x,hq,hx⟩:=hg;obtain⟨its,rv,p,hz⟩:=I.list hq;obtain⟨u,hu,ru⟩:=rv.get hx;obtain⟨e0,e1,e2,e3,e4,e5⟩:=hf e (by simp);obtain⟨f0,f1,f2,f3,f4,f5⟩:=hf it (by simp);refine wpAny_pyNext_enum_item h1 h2 p.isList (x:=u) (by simpa using hu) hei fun h' heo hit' ht' hz' hk'=>?_;refine⟨_,rfl,wpAny_letOwnedTupleGo_enum heo fun h2' he2 hs2=>?_⟩;have hs2:Heap.SameBut e h' h2':=hs2;have elt:e<s.heap.objs.size:=Heap.lt_size h1;have kp:∀b o,b≠e->b≠it->s.heap.get? b=some o->h2'.get? b=some o:=fun b o b1 b2 q=>(hs2.2 b b1).trans (hk' b o b1 b2 q);have hn:H s.heap.objs.size=none:=I.hok.fresh (Nat.le_refl _);have tup2:h2'.get? s.heap.objs.size=some { cls:=.type "tuple",data:=.seq #[.int i s.toks,u] }:=(hs2.2 _ (Nat.ne_of_gt elt)).trans ht';have ne:∀b u',H b=some u'->b≠e/\b≠it:=fun b u' q=>And.intro (fun(z:b=e)=>by rw[z,e0] at q;cases q) (fun(z:b=it)=>by rw[z,f0] at q;cases q);have hok:HOk X.prog X.w (upd H s.heap.objs.size (.tup [.int i,x])) h2':=fun b o q=>by
   by_cases hb:b=s.heap.objs.size
   ·subst hb;rw[o6] at q;cases q;exact⟨by show 2<=sizeLine;decide,[.int i s.toks,u],.cons ⟨_,rfl⟩ (.cons ru .nil),_,tup2,rfl,⟨_,rfl⟩,rfl⟩
   ·rw[f7 hb] at q;refine(I.hok b o q).P2 (fun c v hc q'=>?_) (fun c q'=>by rw[f7 (j9 q' hn)];exact q') fun c ys q'=>by rw[f7 (j9 q' hn)];exact q'
    rcases hc with z|z
    ·subst z;exact kp _ _ (ne _ _ q).1 (ne _ _ q).2 q'
    ·exact kp _ _ (ne _ _ z).1 (ne _ _ z).2 q'
  have I2:Inv X pins σ (upd H s.heap.objs.size (.tup [.int i,x])) { s with heap:=h2',toks:=s.toks+1 }:=by
   refine I.step (g':=s.gens) (d':=s.drawn) (t':=s.toks+1) (ch:=[e,it]) (fun b hb=>?_) (fun b o _ _ hb q _=>kp b o (fun z=>hb (by simp[z])) (fun z=>hb (by simp[z])) q) (fun b o _ _ hb q _=>⟨o.slots,kp b o (fun z=>hb (by simp[z])) (fun z=>hb (by simp[z])) q⟩)
    (fun b o _ q n=>by rw[f7 (Nat.ne_of_lt (Heap.lt_size q))];exact n) (fun b o hb q=>⟨o,kp b o (fun z=>hb (by simp[z])) (fun z=>hb (by simp[z])) q⟩)
    (fun b ys q=>by rw[f7 (j9 q hn)];exact q) (fun b o' ys q=>by rw[f7 (j9 q hn)];exact q) (fun b ps q=>⟨#[],by rw[f7 (j9 q hn),q];simp⟩) (fun m hm=>?_) hok I.bare
   ·rcases List.mem_cons.mp hb with z|z
    ·subst z;exact⟨e3,e1,e4,e5⟩
    ·have z:b=it:=by simpa using z
     subst z;exact⟨f3,f1,f4,f5⟩
   ·obtain⟨o,es,ep,ho,r⟩:=hm;exact⟨o,es,ep,kp _ o (Ne.symm e1) (Ne.symm f1) ho,r⟩
  refine⟨.ref s.heap.objs.size,_,I2,rfl,⟨s.heap.objs.size,x,hn,rfl,fun ys hy=>by rw[I.ah9 hy hq];exact hx,rfl⟩,⟨⟨u,by simpa using he2⟩,hit'.at fun o y=>(hs2.2 it hei.symm).trans y⟩,fun b hb=>?_⟩;have hb':b<s.heap.objs.size:=by
   rcases List.mem_cons.mp hb with z|z
   ·subst z;exact elt
   ·have z:b=it:=by simpa using z
    subst z;obtain⟨o,h2,_⟩:=h2;exact Heap.lt_size h2
  rw[f7 (Nat.ne_of_lt hb')];exact(hf b hb).1
 done:=by
  intro X hP hw hK hc i pins s σ H E I hf st hg;subst hP hw hK;obtain⟨⟨old,h1⟩,h2⟩:=st;obtain⟨xs,hq,hx⟩:=hg;obtain⟨its,rv,p,hz⟩:=I.list hq;obtain⟨f0,f1,f2,f3,f4,f5⟩:=hf it (by simp);have hl:=rv.length;exact wpAny_pyNext_enum_end (I.ok.hd hc) h1 h2 p.isList (by simp;omega) fun h' eb=>⟨rfl,I.turned (t':=s.toks) (fun b o hb e=>eb b o hb e) f0 f1 f3 f4 f5⟩
 self:=fun _ _ _ _ _ st h=>by
  obtain⟨⟨old,h1⟩,h2⟩:=st;exact wpAny_pyIter_enum h1 h
section
variable{X:Cx}
theorem bc5{l:Expr}{ta:TA}{p pos tp:Pos}{elts:List Expr}{x1:Nat}(hg:Gl X "enumerate")(hm:X.mg "enumerate"=none)(ha:PA X [l] ta)(hs:starEach [l] X.env=[(false,eval l X.env)]) :
  PI X (.Tuple elts x1 tp) (.Call (.Name "enumerate" p) [l] [] pos) (fun σ H R=>ta σ H fun vs H1=>∃a,vs=[.ref a]/\(∃xs,SqL X.K H1 a xs)/\R (Ite X.K a) H1):=by
 intro pins s σ H R I h;refine Call_ (K2 I hg hm PyProof.Rows.boot_enumerate (PyProof.Rows.callWith_type1 (thn (ha pos pins s σ H _ I h) fun us s1 ⟨vs,H1,I1,r1,q1⟩=>?_) hs rfl));obtain⟨a,e,⟨xs,hq⟩,q⟩:=q1;subst e;cases r1 with
 |cons r rr =>
  cases rr;cases r;obtain⟨its,rv,p,hz⟩:=I1.list hq;refine call_enumerate_list p.isList fun h' he hit hsz hk=>wpAny_pyIter_enum he ?_;refine⟨s1.heap.objs.size+1,[s1.heap.objs.size+1,s1.heap.objs.size],_,_,H1,rfl,I1.kept (t':=s1.toks) hk,aO6 a _ _ (by simp),⟨⟨_,he⟩,hit⟩,fun b hb=>?_,q⟩;have hb':s1.heap.objs.size<=b:=by
   rcases List.mem_cons.mp hb with z|z
   ·rw[z];exact Nat.le_succ _
   ·have z:b=s1.heap.objs.size:=by simpa using z
    rw[z];exact Nat.le_refl _
  exact I1.ac7 hb' (I1.hok.fresh hb')
theorem by6{e:Expr}{t:TE}{pos:Pos}(he:PE X e t):PE X (.FormattedValue e (-1) none pos) (fun σ H Q=>t σ H fun x H1=>(∃i,x=.int i/\i.natAbs.log2<1920/\Q (.str (toString i)) H1)\/∃y,x=.str y/\y.length<=sizeLine/\Q (.str y) H1):=by
 intro pins s σ H Q I h;refine wpAny_FormattedValue_plain (thn (he pins s σ H _ I h) fun v s1 ⟨x,H1,I1,r1,q1⟩=>?_);rcases q1 with⟨i,rfl,hd,q⟩|⟨y,rfl,hy,q⟩
 ·obtain⟨t,rfl⟩:=r1;exact wpAny_formatField_int hd ⟨.str _,H1,I1.tok _,⟨_,rfl⟩,q⟩
 ·obtain⟨t,rfl⟩:=r1;exact wpAny_formatField_str ⟨.str _,H1,I1,⟨_,rfl⟩,q⟩ ⟨.str _,H1,I1.tok _,⟨_,rfl⟩,q⟩ hy
inductive PJs(X:Cx):List Expr->List TE->Prop
 |nil:PJs X [] []
 |cons {e:Expr} {t:TE} {es:List Expr} {ts:List TE} (h:PE X e t) (r:PJs X es ts):PJs X (e::es) (t::ts)
noncomputable def au5:List TE->St->Hp->Str->(Str->Hp->Prop)->Prop
 |[],_,H,acc,Q=>Q acc H
 |t::ts,σ,H,acc,Q=>t σ H fun x H1=>∃y,x=.str y/\(acc++y).length<=sizeLine/\au5 ts σ H1 (acc++y) Q
theorem az5{pins:List (Addr×Obj)}{σ:St}{Q:Str->Hp->Prop}:∀{es:List Expr} {ts:List TE},PJs X es ts->∀{s:Shared} {H:Hp} {acc:Str},Inv X pins σ H s->au5 ts σ H acc Q ->
  Joins (model X.prog X.w) X.A X.xe (evalEach es X.env) acc (fun out s1=>∃H1,Inv X pins σ H1 s1/\Q out H1) s
 |_,_,.nil,s,H,acc,I,h=>⟨H,I,h⟩
 |_,_,.cons he r,s,H,acc,I,h=>by
  rw[arm_evalEach_cons];refine thn (he pins s σ H _ I h) fun v s1 ⟨x,H1,I1,r1,y,ey,hy,q1⟩=>?_;subst ey;obtain⟨t,rfl⟩:=r1;exact⟨y,t,rfl,hy,az5 r I1 q1⟩
theorem am9{M:Model}{A:Around}{E:Value->Shared->Prop}{Q Q':Str->Shared->Prop}(hq:∀x s,Q x s->Q' x s):∀{l:List (Sem Value)} {acc:Str} {s:Shared},Joins M A E l acc Q s->Joins M A E l acc Q' s
 |[],acc,s,h=>hq _ _ h
 |x::r,acc,s,h=>thn h fun v s1 ⟨y,t,e,hz,h1⟩=>⟨y,t,e,hz,am9 hq h1⟩
theorem bc9{v₁ v₂:Expr}{rest:List Expr}{ts:List TE}{pos:Pos}(h:PJs X (v₁::v₂::rest) ts):PE X (.JoinedStr (v₁::v₂::rest) pos) (fun σ H Q=>au5 ts σ H Str.empty fun out H1=>out.length<=sizeLine/\Q (.str out) H1):=by
 intro pins s σ H Q I hw;refine wpAny_JoinedStr (am9 (fun x s1 ⟨H1,I1,hl,q⟩=>⟨hl,.str x,H1,I1.tok _,⟨_,rfl⟩,q⟩) (az5 h I hw))
theorem aL9{lo:Int}{acc:Array Value}{n:Nat}(h:ItemsOf (fun i v=>∃t,v=.int (lo+i*1) t) acc n):Vals ((List.range n).map fun(k:Nat)=>V.int (lo+k)) acc.toList:=by
 have hl:acc.toList.length=n:=by
  have:=h.1;simpa using this
 have go:∀(m:Nat) (l:List Value),l.length<=n->m+l.length=n->(∀i v,l[i]?=some v->∃t,v=Value.int (lo+((m+i:Nat):Int)) t)->Vals ((List.range' m l.length).map fun(k:Nat)=>V.int (lo+k)) l:=by
  intro m l
  induction l generalizing m with
  |nil=>intro _ _ _;exact .nil
  |cons x r ih =>
   intro h1 h2 h3;simp only[List.length_cons,List.range'_succ,List.map_cons];refine .cons ?_ (ih (m+1) (by simp at h1;omega) (by simp at h2;omega) fun i v hv=>?_)
   ·obtain⟨t,e⟩:=h3 0 x rfl;exact⟨t,by rw[e];simp⟩
   ·obtain⟨t,e⟩:=h3 (i+1) v (by simpa using hv);exact⟨t,by rw[e,show m+(i+1)=m+1+i by omega]⟩
 have:=go 0 acc.toList (by omega) (by omega) fun i v hv=>?_
 ·rw[hl,<- List.range_eq_range'] at this;exact this
 ·have hi:i<n:=by
   have:=(List.getElem?_eq_some_iff.mp hv).1;omega
  have:acc[i]?=some v:=by rw[<- Array.getElem?_toList];exact hv
  obtain⟨t,e⟩:=h.2 i v this;refine⟨t,?_⟩;rw[e];simp
theorem aa7(hc:X.calm=true):l9 X (.type "list") (fun xs H Q=>∃a lo hi,xs=[.ref a]/\H a=some (.rng lo hi)/\(-(2 ^ 62)<=lo/\lo<2 ^ 62/\-(2 ^ 62)<=hi/\hi<2 ^ 62/\hi-lo<=100000)/\∀p,H p=none->Q (.ref p) (upd H p (.lst ((List.range (hi-lo).toNat).map fun(k:Nat)=>V.int (lo+k))))):=by
 intro pins s σ H xs us Q I r h;obtain⟨a,lo,hi,rfl,ha,⟨h1,h2,h3,h4,h5⟩,q⟩:=h;obtain⟨t,u,v,ho⟩:=I.hok a _ ha;cases r with
 |cons r rr =>
 cases rr;cases r;have hn:Builtin.Range.rangeSize lo hi 1=((hi-lo).toNat:Nat):=by rw[rangeSize_one];split<;>omega
 refine call_list_range (n:=(hi-lo).toNat) (I.ok.hd hc) ho (small_one h1 h2 h3 h4) hn (by omega) fun h' tk' acc c hk hS hi'=>?_;have hp:H s.heap.objs.size=none:=I.hok.fresh (Nat.le_refl _);refine⟨.ref _,_,I.laid (a:=s.heap.objs.size) (o:=.lst ((List.range (hi-lo).toNat).map fun(k:Nat)=>V.int (lo+k))) (t':=tk') hk (Nat.le_refl _) ⟨?_,acc.toList,c,aL9 hi',by simpa using hS⟩,rfl,q _ hp⟩;rw[List.length_map,List.length_range];have:(hi-lo).toNat<=100000:=by omega
 exact Nat.le_trans this (by decide)
theorem aR8{a:Expr}{ta:TA}{p pos:Pos}(hg:Gl X "range")(hm:X.mg "range"=none)(ha:PA X [a] ta)(hs:starEach [a] X.env=[(false,eval a X.env)]):PE X (.Call (.Name "range" p) [a] [] pos) (fun σ H Q=>ta σ H fun vs H1=>∃j:Int,vs=[.int j]/\∀q,H1 q=none->Q (.ref q) (upd H1 q (.rng 0 j))):=by
 intro pins s σ H Q I h;refine wpAny_Call_Name_kw (K2 I hg hm boot_range (PyProof.Rows.callWith_type1 (thn (ha pos pins s σ H _ I h) fun us s1 ⟨vs,H1,I1,r1,q1⟩=>?_) hs rfl));obtain⟨j,e,q⟩:=q1;subst e;cases r1 with
 |cons r rr =>
  cases rr;obtain⟨t,rfl⟩:=r;exact call_range_1 ⟨.ref s1.heap.objs.size,_,I1.laid (a:=s1.heap.objs.size) (o:=.rng 0 j) (fun b o e=>Heap.get?_push_of_some _ e) (Nat.le_refl _) ⟨_,_,_,Heap.get?_push_size _ rfl⟩,rfl,q _ (I1.hok.fresh (Nat.le_refl _))⟩
theorem aR7{a b:Expr}{ta:TA}{p pos:Pos}(hg:Gl X "range")(hm:X.mg "range"=none)(ha:PA X [a,b] ta)(hs:starEach [a,b] X.env=[(false,eval a X.env),(false,eval b X.env)])(hs2:starEach [b] X.env=[(false,eval b X.env)]):PE X (.Call (.Name "range" p) [a,b] [] pos) (fun σ H Q=>ta σ H fun vs H1=>∃i j:Int,vs=[.int i,.int j]/\∀q,H1 q=none->Q (.ref q) (upd H1 q (.rng i j))):=by
 intro pins s σ H Q I h;refine wpAny_Call_Name_kw (K2 I hg hm boot_range (PyProof.Rows.callWith_type1 (thn (ha pos pins s σ H _ I h) fun us s1 ⟨vs,H1,I1,r1,q1⟩=>?_) (by rw[hs,hs2]) (by rw[hs2];rfl)));obtain⟨i,j,e,q⟩:=q1;subst e;cases r1 with
 |cons r rr =>
  cases rr with
  |cons r' rr =>
   cases rr;obtain⟨t,rfl⟩:=r;obtain⟨t',rfl⟩:=r';exact call_range_2 ⟨.ref s1.heap.objs.size,_,I1.laid (a:=s1.heap.objs.size) (o:=.rng i j) (fun b o e=>Heap.get?_push_of_some _ e) (Nat.le_refl _) ⟨_,_,_,Heap.get?_push_size _ rfl⟩,rfl,q _ (I1.hok.fresh (Nat.le_refl _))⟩
noncomputable def am8(K:PySem.W.Frag)(P:Params)(a:Addr)(kvs:List (Str×V)):Prop :=
 ∃es n,K.lookup a=some ⟨.type "dict",none,.dict es n,#[]⟩/\PySem.W.KeysLit P es.toList/\(a==sysModules)=false/\∀x,E5 (kvs.lookup x) (findBy Value.isStrOf es x)
theorem aS2{kvs:List (Str×V)}(neg:Bool):OpR X (compareOp (if neg then .NotIn else .In)) (fun x y H Q=>∃a z,y=.ref a/\am8 X.K X.w.params a kvs/\x=.str z/\Q (.bl (xor neg (kvs.lookup z).isSome)) H):=by
 intro pins s σ H x y v u Q I rx ry h;obtain⟨a,z,rfl,⟨es,n,hl,hk,lo,hf⟩,rfl,q⟩:=h;obtain⟨t,rfl⟩:=rx;cases ry;have hm:=PySem.W.mapOf_K (prog:=X.prog) (w:=X.w) I.kIn hl hk;have e:=hf z;have ee:(findBy Value.isStrOf es z).isSome=(kvs.lookup z).isSome:=by
  cases h1:kvs.lookup z<;>cases h2:findBy Value.isStrOf es z<;>rw[h1,h2] at e<;>first|rfl|exact e.elim
 cases neg
 ·exact wpAny_in_of (strKind_is X.prog X.w z t) lo hm ⟨.bl _,H,I.tok _,by rw[ee];rfl,by simpa using q⟩
 ·exact wpAny_notIn_of (strKind_is X.prog X.w z t) lo hm ⟨.bl _,H,I.tok _,by rw[ee];rfl,by simpa using q⟩
theorem bA9{kvs:List (Str×V)}:IxR X (fun x y H Q=>∃a z v,x=.ref a/\am8 X.K X.w.params a kvs/\y=.str z/\kvs.lookup z=some v/\Q v H):=by
 intro value slice pins s σ H x y v u Q I rx ry h hs;obtain⟨a,z,d,rfl,⟨es,n,hl,hk,lo,hf⟩,rfl,hz,q⟩:=h;cases rx;obtain⟨t,rfl⟩:=ry;have hm:=PySem.W.mapOf_K (prog:=X.prog) (w:=X.w) I.kIn hl hk;have e:=hf z;rw[hz] at e;cases h2:findBy Value.isStrOf es z with
 |none=>rw[h2] at e;exact e.elim
 |some r =>
  rw[h2] at e;exact tail_any hm.typeIs slot_dict_getitem.lookup (wpAny_getItem_of (strKind_is X.prog X.w z t) hm h2 ⟨d,H,I.tok _,e,q⟩) hs
theorem bf0(hu:X.A.units+1<cLine):IxR X (fun x y H Q=>∃a v,x=.ref a/\N1 H a y (some v)/\Q v H):=by
 intro value slice pins s σ H x y v u Q I rx ry h hs;obtain⟨a,d,rfl,g,q⟩:=h;cases rx;exact tail_any (aD7 I g) slot_dict_getitem.lookup (aV0 hu I g ry fun w' s3 I3 rw'=>⟨d,H,I3,rw',q⟩) hs
end
end L2

namespace ST
open PySem PyProof.Rows
noncomputable abbrev Ris(xs:Array Nat):Prop:=xs.toList.Pairwise (· < ·)
theorem Ris.lt{xs:Array Nat}(h:Ris xs){i k:Nat}(hik:i<k)(hk:k<xs.size):xs.getD i 0<xs.getD k 0:=by
 have:=List.pairwise_iff_getElem.mp h i k (by simpa using Nat.lt_trans hik hk) (by simpa using hk) hik;simp only[Array.getElem_toList] at this;rw[<- Array.getElem_eq_getD (h:=Nat.lt_trans hik hk),<- Array.getElem_eq_getD (h:=hk)];exact this
theorem Ris.le{xs:Array Nat}(h:Ris xs){i k:Nat}(hik:i<=k)(hk:k<xs.size):xs.getD i 0<=xs.getD k 0:=by
 rcases Nat.eq_or_lt_of_le hik with e|e
 ·rw[e];exact Nat.le_refl _
 ·exact Nat.le_of_lt (h.lt e hk)
theorem ao6{xs:Array Nat}{j:Nat}(h:Ris xs):∀(fuel lo hi:Nat),hi-lo<=fuel->lo<=hi->hi<=xs.size->(∀i,i<lo->xs.getD i 0<j)->(∀i,hi<=i->i<xs.size->j<=xs.getD i 0) ->
  SetTable.below.go xs j fuel lo hi<=xs.size/\(∀i,i<SetTable.below.go xs j fuel lo hi->xs.getD i 0<j)/\∀i,SetTable.below.go xs j fuel lo hi<=i->i<xs.size->j<=xs.getD i 0
 |0,lo,hi,h1,h2,h3,h4,h5=>by
  unfold SetTable.below.go;have:lo=hi:=by omega
  subst this;exact⟨h3,h4,h5⟩
 |fuel+1,lo,hi,h1,h2,h3,h4,h5=>by
  unfold SetTable.below.go;split
  ·rename_i hl;have hm:(lo+hi) / 2<xs.size:=by omega
   have em:xs.getD ((lo+hi) / 2) j=xs.getD ((lo+hi) / 2) 0:=by simp[Array.getD,hm]
   dsimp only;rw[em];by_cases hc:xs.getD ((lo+hi) / 2) 0<j
   ·rw[if_pos hc];exact ao6 h fuel _ hi (by omega) (by omega) h3 (fun i hi'=>Nat.lt_of_le_of_lt (h.le (by omega) hm) hc) h5
   ·rw[if_neg hc];exact ao6 h fuel lo _ (by omega) (by omega) (by omega) h4 fun i hi' hs=>Nat.le_trans (Nat.le_of_not_lt hc) (h.le hi' hs)
  ·have:lo=hi:=by omega
   subst this;exact⟨h3,h4,h5⟩
theorem O3{xs:Array Nat}(j:Nat)(h:Ris xs):SetTable.below xs j<=xs.size/\(∀i,i<SetTable.below xs j->xs.getD i 0<j)/\∀i,SetTable.below xs j<=i->i<xs.size->j<=xs.getD i 0 :=
 ao6 h _ 0 _ (by omega) (by omega) (Nat.le_refl _) (fun i hi=>absurd hi (Nat.not_lt_zero _)) fun i h1 h2=>absurd h2 (by omega)
theorem below_at{xs:Array Nat}(h:Ris xs){i:Nat}(hi:i<xs.size):SetTable.below xs (xs.getD i 0)=i:=by
 obtain⟨h1,h2,h3⟩:=O3 (xs.getD i 0) h;rcases Nat.lt_trichotomy (SetTable.below xs (xs.getD i 0)) i with z|z|z
 ·exact absurd (h3 _ (Nat.le_refl _) (by omega)) (Nat.not_le_of_lt (h.lt z hi))
 ·exact z
 ·exact absurd (h2 i z) (Nat.lt_irrefl _)
theorem aN0{xs:Array Nat}(h:Ris xs){i:Nat}(hi:i<xs.size):SetTable.below xs (xs.getD i 0+1)=i+1:=by
 obtain⟨h1,h2,h3⟩:=O3 (xs.getD i 0+1) h;rcases Nat.lt_trichotomy (SetTable.below xs (xs.getD i 0+1)) (i+1) with z|z|z
 ·have:=h3 i (by omega) hi;omega
 ·exact z
 ·have:=h2 (i+1) z;have:=h.lt (Nat.lt_succ_self i) (k:=i+1) (by omega);omega
theorem aM9{xs:Array Nat}(h:Ris xs):SetTable.below xs 0=0:=by
 obtain⟨_,h2,_⟩:=O3 0 h;rcases Nat.eq_zero_or_pos (SetTable.below xs 0) with z|z
 ·exact z
 ·exact absurd (h2 0 z) (Nat.not_lt_zero _)
theorem getD_mem{xs:Array Nat}{i:Nat}(hi:i<xs.size):xs[i]?=some (xs.getD i 0):=by simp[Array.getD,hi]
theorem aJ5{t:SetTable}{j:Nat}(h:Ris t.place)(hs:t.slot j=.empty):j∉t.place.toList:=by
 intro hm;obtain⟨i,hi,e⟩:=List.mem_iff_getElem.mp hm;have hi':i<t.place.size:=by simpa using hi
 have ej:t.place.getD i 0=j:=by rw[<- Array.getElem_eq_getD (h:=hi')];simpa using e
 have hb:=below_at h hi';rw[ej] at hb;unfold SetTable.slot at hs;dsimp only at hs;rw[hb,getD_mem hi',ej] at hs;simp at hs
theorem aJ9{xs:Array Nat}{j:Nat}(h:Ris xs)(hj:j∉xs.toList):Ris (SetTable.insertAt xs (SetTable.below xs j) j):=by
 obtain⟨h1,h2,h3⟩:=O3 j h;show(SetTable.insertAt xs (SetTable.below xs j) j).toList.Pairwise (· < ·);rw[SetTable.toList_insertAt,List.pairwise_append];have tk:∀a∈xs.toList.take (SetTable.below xs j),a<j:=fun a ha=>by
  obtain⟨i,hi,e⟩:=List.mem_iff_getElem.mp ha;rw[List.length_take] at hi;rw[List.getElem_take] at e;have hs:i<xs.size:=by simp at hi;omega
  have:=h2 i (by omega);rw[<- Array.getElem_eq_getD (h:=hs)] at this;simp at e;omega
 have dp:∀b∈xs.toList.drop (SetTable.below xs j),j<b:=fun b hb=>by
  obtain⟨i,hi,e⟩:=List.mem_iff_getElem.mp hb;rw[List.length_drop] at hi;rw[List.getElem_drop] at e;have hs:SetTable.below xs j+i<xs.size:=by simp at hi;omega
  have:=h3 (SetTable.below xs j+i) (by omega) hs;rw[<- Array.getElem_eq_getD (h:=hs)] at this;have hne:b≠j:=fun z=>hj (by rw[<- z];exact List.mem_of_mem_drop hb);simp at e;omega
 refine⟨h.take,List.pairwise_cons.mpr ⟨dp,h.drop⟩,fun a ha b hb=>?_⟩;have ha':=tk a ha;rcases List.mem_cons.mp hb with z|z
 ·omega
 ·have:=dp b z;omega
theorem aQ4(n:Nat):Ris (Array.range n):=by
 show(Array.range n).toList.Pairwise (· < ·);rw[Array.toList_range];exact List.pairwise_lt_range
structure Well(L:Bool)(t:SetTable):Prop where
 ris:Ris t.place
 dum:t.dummies=#[]
 led:t.led=L
theorem a16{t:SetTable}(hd:t.dummies=#[])(j:Nat):t.slot j≠.dummy:=by
 unfold SetTable.slot;dsimp only;split
 ·intro z;cases z
 ·rw[hd];split
  ·rename_i z;simp[SetTable.has] at z
  ·intro z;cases z
theorem ag1{t:SetTable}(hd:t.dummies=#[]){hashAt:Nat->Int}{h:Int}:∀(fuel:Nat) (p:SetTable.Probe) {j:Nat} {dm:Option Nat},p.dummy=none->SetTable.probe.go t hashAt h fuel p=some (.empty j dm)->t.slot j=.empty/\dm=none
 |0,p,j,dm,_,e=>by simp[SetTable.probe.go] at e
 |fuel+1,p,j,dm,hp,e=>by
  unfold SetTable.probe.go at e;have ad:∀q:SetTable.Probe,q.dummy=none->(t.advance q).dummy=none:=fun q hq=>by
   unfold SetTable.advance;split
   ·exact hq
   ·exact hq
  split at e
  ·rename_i hs;cases e;exact⟨hs,hp⟩
  ·rename_i hs;exact absurd hs (a16 hd _)
  ·split at e
   ·cases e
   ·exact ag1 hd fuel _ (ad p hp) e
theorem aU4{t:SetTable}(hd:t.dummies=#[]){h:Int}{j:Nat}{wd:Bool}(e:t.freeSlot h=some (j,wd)):t.slot j=.empty/\wd=false:=by
 unfold SetTable.freeSlot at e;split at e
 ·rename_i j' dm hp;obtain⟨h1,h2⟩:=ag1 hd _ _ rfl hp;subst h2;cases e;exact⟨h1,rfl⟩
 ·cases e
theorem K0{L:Bool}{t:SetTable}(h:Well L t)(n:Nat):Well L (t.standIn n):=⟨aQ4 n,rfl,h.led⟩
theorem aD2{L:Bool}{t:SetTable}{es:Array (Int×Value)}{h:Int}{x:Value}(hw:Well L t):Well L (layNew t es h x).2.1/\(layNew t es h x).2.2.1=false:=by
 unfold layNew;split
 ·rename_i slot wd e;obtain⟨h1,h2⟩:=aU4 hw.dum e;refine⟨?_,h2⟩;have hd:SetTable.has t.dummies slot=false:=by rw[hw.dum];simp[SetTable.has]
  have w2:Well L (t.put slot).1:=⟨aJ9 hw.ris (aJ5 hw.ris h1),by simp only[SetTable.put,hd];exact hw.dum,hw.led⟩
  dsimp only;unfold SetTable.orStandIn;split
  ·exact w2
  ·exact K0 w2 _
 ·exact⟨K0 hw _,rfl⟩
theorem aT3{L:Bool}{mask finger moves:Nat}{led plain:Bool}{hashes:Array Int}{t:SetTable}{o:Array Nat}(hl:led=L)(e:SetTable.laid mask finger moves led plain hashes=some (t,o)):Well L t:=by
 unfold SetTable.laid at e;cases ho:SetTable.layClean mask hashes with
 |none=>rw[ho] at e;cases e
 |some owner =>
  rw[ho] at e;simp only[Option.bind_eq_bind,Option.bind_some,Option.pure_def,Option.some.injEq,Prod.mk.injEq] at e;obtain⟨rfl,_⟩:=e;refine⟨?_,rfl,hl⟩;show(List.map _ _).toArray.toList.Pairwise (· < ·);rw[List.toList_toArray];have sub:((List.range (mask+1)).filterMap fun j=>(owner.getD j none).map (j,·)).map (·.1) |>.Sublist (List.range (mask+1)):=by
   generalize List.range (mask+1)=l
   induction l with
   |nil=>simp
   |cons a r ih =>
    rw[List.filterMap_cons];cases owner.getD a none with
    |none=>exact ih.cons a
    |some k=>exact ih.cons_cons a
  exact List.Pairwise.sublist sub List.pairwise_lt_range
theorem at4{L:Bool}{t:SetTable}{es:Array (Int×Value)}{n:Nat}(hw:Well L t):Well L (relayAll t es n).2.1:=by
 unfold relayAll;split
 ·rename_i t' order e;dsimp only;split
  ·exact aT3 hw.led e
  ·exact K0 hw _
 ·exact K0 hw _
end ST

namespace ST
open PySem PyProof.Rows
noncomputable def toI:Value->Int
 |.int k _=>k
 |_=>0
noncomputable def Led(w:World):Bool:=!(w.params.followText "set-order")
section
variable{prog:Program}{w:World}
noncomputable def q9(prog:Program)(w:World)(h:Heap)(a:Addr)(ks:List Int):Prop :=
 ∃o es ep t,h.get? a=some o/\o.ExactSet/\o.data=.set es ep t/\ElemsOf (intKind prog w) es.toList/\(es.toList.map fun e=>toI e.2).Perm ks/\ks.Nodup/\es.size<scanBound/\t.fits es.size=true/\Well (Led w) t
theorem q9.at{h h':Heap}{a:Addr}{ks:List Int}(x:q9 prog w h a ks)(k:∀o,h.get? a=some o->h'.get? a=some o):q9 prog w h' a ks:=by
 obtain⟨o,es,ep,t,e,r⟩:=x;exact⟨o,es,ep,t,k o e,r⟩
theorem aH4{e:Int×Value}{es:List (Int×Value)}(h:ElemsOf (intKind prog w) es)(he:e∈es):∃tk,e.2=.int (toI e.2) tk/\e.1=(intKind prog w).hash (toI e.2):=by
 obtain⟨⟨k,h1,h2⟩,_⟩:=h e he;obtain⟨t,ht⟩:=Value.isInt_shape (k:=k) (v:=e.2) h1;refine⟨t,by rw[ht];rfl,?_⟩;rw[h2,ht]
 rfl
theorem aU6{e:Int×Value}{es:List (Int×Value)}(h:ElemsOf (intKind prog w) es)(he:e∈es)(k:Int):(intKind prog w).is k e.2=decide (toI e.2=k):=by
 obtain⟨t,ht,_⟩:=aH4 h he;show Value.isInt k e.2=_;rw[ht];generalize toI e.2=m;show Value.isInt k (.int m t)=decide (m=k);by_cases z:m=k
 ·subst z;simp[Value.isInt]
 ·rw[decide_eq_false z];cases hv:Value.isInt k (.int m t) with
  |false=>rfl
  |true =>
   obtain⟨t',e'⟩:=Value.isInt_shape hv;cases e';exact absurd rfl z
theorem q9.mem{a:Addr}{es:List (Int×Value)}{ks:List Int}(h:ElemsOf (intKind prog w) es)(hp:(es.map fun e=>toI e.2).Perm ks)(k:Int):(es.findIdx? fun e=>(intKind prog w).is k e.2).isSome=decide (k∈ks):=by
 rw[Bool.eq_iff_iff,decide_eq_true_iff,<- hp.mem_iff,List.mem_map,Option.isSome_iff_exists];constructor
 ·rintro⟨i,hi⟩;obtain⟨h1,h2,_⟩:=List.findIdx?_eq_some_iff_getElem.mp hi;have hm:=List.getElem_mem h1;rw[aU6 h hm] at h2;exact⟨_,hm,of_decide_eq_true h2⟩
 ·rintro⟨e,he,rfl⟩;cases hf:es.findIdx? fun e'=>(intKind prog w).is (toI e.2) e'.2 with
  |some i=>exact⟨i,rfl⟩
  |none =>
   have:=List.findIdx?_eq_none_iff.mp hf e he;rw[aU6 h he] at this;simp at this
variable{A:Around}{E:Value->Shared->Prop}{s:Shared}
noncomputable def B6(ks:List Int)(k:Int):List Int:=if k∈ks then ks else ks++[k]
theorem a46(ks:List Int)(k:Int):(B6 ks k).length<=ks.length+1:=by unfold B6;split<;>simp
theorem a82{a:Addr}{ks:List Int}{k:Int}{tk:Tok}{Q:Bool->Shared->Prop}(hS:q9 prog w s.heap a ks)(hr:ks.length+1<scanBound)(h:∀h' b,Heap.SameBut a s.heap h'->q9 prog w h' a (B6 ks k)->Q b { s with heap:=h' }):wpAny (model prog w) A (setAddHashed a (.int k tk) ((intKind prog w).hash k)) Q E s:=by
 obtain⟨o,es,ep,t,ho,hx,hd,hel,hp,hn,hb,hf,hw⟩:=hS;have hlen:es.size=ks.length:=by rw[<- hp.length_eq];simp
 have hkey:(intKind prog w).is k (.int k tk)=true:=intKind_is _ _ _ _;have gv:∀(b:Bool) (s1:Shared) (Q':Unit->Shared->Prop),Q' () s1->wpAny (model prog w) A (match b with|true=>rule "set.scan.the-table-gave-way"|false=>pure ()) Q' E s1:=fun b s1 Q' q=>by
  cases b
  ·exact wpAny_pure q
  ·exact wpAny_rule q
 unfold setAddHashed setAddHashedIn;refine wpAny_holding (wpAny_bind (wpAny_setState_of ho hd hf ?_));dsimp only;rw[byScan_of rfl hb hel,if_pos rfl];unfold setAddByScan;refine wpAny_bind (wpAny_bind (wpAny_rule (wpAny_bind (wpAny_setScan_of hkey ho hd hf hel ?_))));have hm:=q9.mem (a:=a) hel hp k;cases hr':es.toList.findIdx? (fun e=>(intKind prog w).is k e.2) with
 |some j =>
  rw[hr'] at hm;have hk:k∈ks:=by simpa using hm.symm
  refine wpAny_pure (wpAny_pure ?_);have e0:s={ s with heap:=s.heap }:=rfl;rw[e0];refine h s.heap _ (Heap.SameBut.refl a s.heap) ?_;unfold B6;rw[if_pos hk];exact⟨o,es,ep,t,ho,hx,hd,hel,hp,hn,hb,hf,hw⟩
 |none =>
  rw[hr'] at hm;have hk:k∉ks:=by simpa using hm.symm
  dsimp only;have p1:=layNew_perm t es ((intKind prog w).hash k) (.int k tk);have f1:=layNew_fits t es ((intKind prog w).hash k) (.int k tk);obtain⟨w1,wd1⟩:=aD2 (es:=es) (h:=(intKind prog w).hash k) (x:=.int k tk) hw;generalize layNew t es ((intKind prog w).hash k) (.int k tk)=R1 at p1 f1 w1 wd1 ⊢;obtain⟨es1,t1,wd,gave⟩:=R1;dsimp only at p1 f1 w1 wd1 ⊢;subst wd1;rw[Array.toList_push] at p1;have el1:ElemsOf (intKind prog w) es1.toList:=(hel.push hkey rfl).perm p1;have sz1:es1.size=es.size+1:=by rw[<- Array.length_toList,p1.length_eq];simp
  have k1:(es1.toList.map fun e=>toI e.2).Perm (B6 ks k):=by
   unfold B6;rw[if_neg hk];refine(p1.map _).trans ?_;rw[List.map_append];exact hp.append_right _
  have n1:(B6 ks k).Nodup:=by
   unfold B6;rw[if_neg hk,List.nodup_append];exact⟨hn,by simp,fun x hx y hy=>by simp at hy;subst hy;exact fun z=>hk (z▸hx)⟩
  refine wpAny_bind (gv _ _ _ ?_);have fin:∀ (t2:SetTable),t2.fits es1.size=true->Well (Led w) t2->wpAny (model prog w) A (do
    storeSet a es1 t2
    if(!false&&t2.tooFull)=true then do
      (match(relayAll t2 es1 (SetTable.grown es1.size)).2.2 with|true=>rule "set.scan.the-table-gave-way"|false=>pure ())
      storeSet a (relayAll t2 es1 (SetTable.grown es1.size)).1 (relayAll t2 es1 (SetTable.grown es1.size)).2.1
      pure (some true)
     else pure (some true)) (fun r s'=>wpAny (model prog w) A (match r with | some added=>pure added | none=>setAddHashedIn a (.int k tk) ((intKind prog w).hash k) 99999) Q E s') E s:=fun t2 f2 w2=>by
   have g1:(s.heap.update a (Obj.putSet es1 t2)).get? a=some { o with data:=.set es1 (ep+1) t2 }:=by
    have:=Heap.get?_update_self (Obj.putSet es1 t2) ho (by rw[putSet_of es1 t2 hd];rfl);rw[putSet_of es1 t2 hd] at this;exact this
   refine wpAny_bind (wpAny_storeSet_of ho hd ?_ (fits_of_scanBound (by omega)));have sb1:=Heap.SameBut.update s.heap a (Obj.putSet es1 t2);split
   ·have p2:=relayAll_perm t2 es1 (SetTable.grown es1.size);have f3:=relayAll_fits t2 es1 (SetTable.grown es1.size);have w3:=at4 (es:=es1) (n:=SetTable.grown es1.size) w2;generalize relayAll t2 es1 (SetTable.grown es1.size)=R2 at p2 f3 w3 ⊢;obtain⟨es2,t3,gv2⟩:=R2;dsimp only at p2 f3 w3 ⊢;have sz2:es2.size=es1.size:=by rw[<- Array.length_toList,p2.length_eq,Array.length_toList]
    refine wpAny_bind (gv _ _ _ ?_);refine wpAny_bind (wpAny_storeSet_of g1 rfl ?_ (fits_of_scanBound (by omega)));refine wpAny_pure (wpAny_pure (h _ _ (sb1.trans (Heap.SameBut.update _ a _)) ?_));have g2:((s.heap.update a (Obj.putSet es1 t2)).update a (Obj.putSet es2 t3)).get? a=some { o with data:=.set es2 (ep+1+1) t3 }:=by
     have:=Heap.get?_update_self (Obj.putSet es2 t3) g1 (by rw[putSet_of es2 t3 rfl];rfl);rw[putSet_of es2 t3 rfl] at this;exact this
    exact⟨_,es2,_,t3,g2,hx,rfl,el1.perm p2,(p2.map _).trans k1,n1,by omega,f3,w3⟩
   ·exact wpAny_pure (wpAny_pure (h _ _ sb1 ⟨_,es1,_,t2,g1,hx,rfl,el1,k1,n1,by omega,f1 |> fun _=>f2,w2⟩))
  split
  ·refine wpAny_bind (wpAny_of_eq (hashByValue_scannable 8 rfl) ?_);exact fin _ f1 w1
  ·refine wpAny_bind (wpAny_pure ?_);exact fin _ f1 w1
end
end ST

namespace ST
open PySem PyProof.Rows
theorem aA4:entryFor table "set.__iter__"=some Builtin.«frozenset.__iter__» :=
 entryFor_alias (id':="frozenset.__iter__") (by kernel_rfl) rfl (by decide +kernel) (by kernel_rfl)
theorem A7:Slot "set_iterator" "__next__" "set_iterator.__next__" :=
 .of (owner:="set_iterator") (n:="__next__") (by rw[typeLookup_type,builtinLookup_eq_fast];kernel_rfl) (by decide +kernel) (by decide +kernel) (by decide +kernel)
  (by first|exact .inl (by decide +kernel)|exact .inr (by decide +kernel)) (by rw[isSubtype_type];kernel_rfl)
theorem ag7:entryFor table "set_iterator.__next__"=some Builtin.«set_iterator.__next__»:=entryFor_of_tree (by kernel_rfl)
theorem ad2(a:Value):argsOk "set_iterator.__next__" ⟨[a],[]⟩:=by
 unfold argsOk
 kernel_rfl
theorem ab2:Slot "set_iterator" "__iter__" "set_iterator.__iter__" :=
 .of (owner:="set_iterator") (n:="__iter__") (by rw[typeLookup_type,builtinLookup_eq_fast];kernel_rfl) (by decide +kernel) (by decide +kernel) (by decide +kernel)
  (by first|exact .inl (by decide +kernel)|exact .inr (by decide +kernel)) (by rw[isSubtype_type];kernel_rfl)
theorem aD6:entryFor table "set_iterator.__iter__"=some Builtin.«dict_keyiterator.__iter__» :=
 entryFor_alias (id':="dict_keyiterator.__iter__") (by kernel_rfl) rfl (by decide +kernel) (by kernel_rfl)
theorem aC0(a:Value):argsOk "set_iterator.__iter__" ⟨[a],[]⟩:=by
 unfold argsOk
 kernel_rfl
end ST

namespace ST
open PySem PyProof.Rows
inductive Rd|text|plain|drawn
structure Lies(h:Heap)(a:Addr)(es:Array (Int×Value))(ep:Nat)(t:SetTable):Prop where
 at_:∃o,h.get? a=some o/\o.cls=.type "set"/\o.data=.set es ep t
 fit:t.fits es.size=true
theorem Lies.at{h h':Heap}{a:Addr}{es:Array (Int×Value)}{ep:Nat}{t:SetTable}(x:Lies h a es ep t)(k:∀o,h.get? a=some o->h'.get? a=some o):Lies h' a es ep t :=
 ⟨let ⟨o,e,r⟩:=x.at_;⟨o,k o e,r⟩,x.fit⟩
noncomputable def B8(h:Heap)(I a:Addr)(f:Value)(i n ep:Nat):Prop:=∃o,h.get? I=some o/\o.cls=.type "set_iterator"/\o.data=.fields #[f,rawInt i,.ref a,rawInt n,rawInt ep]
theorem B8.at{h h':Heap}{I a:Addr}{f:Value}{i n ep:Nat}(x:B8 h I a f i n ep)(k:∀o,h.get? I=some o->h'.get? I=some o):B8 h' I a f i n ep:=let ⟨o,e,r⟩:=x;⟨o,k o e,r⟩
theorem B8.ty{s:Shared}{I a:Addr}{f:Value}{i n ep:Nat}(x:B8 s.heap I a f i n ep):s.TypeIs (.ref I) "set_iterator":=let ⟨o,e,c,_⟩:=x;⟨o,e,c⟩
noncomputable def ak1(w:World)(a:Addr)(es:Array (Int×Value))(ep:Nat)(pl:List Nat):Rd->List Value
 |.text=>(pickOrder (w.params.setOrder a ep) es).toList.map (·.2)
 |.plain=>es.toList.map (·.2)
 |.drawn=>pl.map fun j=>(es.getD j (0,.none)).2
noncomputable def slotAt(t:SetTable):Nat->Nat
 |0=>0
 |i+1=>t.place.getD i 0+1
noncomputable def L6(h:Heap)(t:SetTable)(b:Addr)(pl:List Nat)(i:Nat)(f:Value):Rd->Prop
 |.text=>∃k:Nat,f=rawInt k
 |.plain=>f=rawInt (slotAt t i)
 |.drawn=>f=.ref b/\∃o e,h.get? b=some o/\o.cls=.type "tuple"/\o.data=.seq (pl.map fun j=>rawInt (j:Nat)).toArray e
noncomputable def aq0(w:World)(es:Array (Int×Value))(t:SetTable)(pl:List Nat):Rd->Prop
 |.text=>w.params.followText "set-order"=true
 |.plain=>w.params.followText "set-order"=false/\(t.plain=true\/es.size<=1)/\Well true t
 |.drawn=>w.params.followText "set-order"=false/\pl.Perm (List.range es.size)
section
variable{prog:Program}{w:World}{A:Around}{E:Value->Shared->Prop}{s:Shared}{a:Addr}{es:Array (Int×Value)}{ep:Nat}{t:SetTable}
theorem ad1{Q:Bool->Shared->Prop}(h:Q (w.params.followText "set-order") s):wpAny (model prog w) A setsByText Q E s:=by
 unfold setsByText;exact wpAny_bind (wpAny_askSetting (wpAny_pure h))
theorem ar2(hL:Lies s.heap a es ep t)(ht:w.params.followText "set-order"=true){sl g:Nat}{Q:Option (Value×Nat)->Shared->Prop}(h:Q (((pickOrder (w.params.setOrder a ep) es)[g]?).map fun e=>(e.2,sl)) s) :
  wpAny (model prog w) A (setNext a sl g ep) Q E s:=by
 obtain⟨o,ho,_,hd⟩:=hL.at_;unfold setNext;refine wpAny_bind (wpAny_setState_of ho hd hL.fit ?_);refine wpAny_bind (ad1 ?_);rw[ht,if_pos rfl,if_neg (by simp)];unfold setWalk;refine wpAny_bind (wpAny_bind (wpAny_setState_of ho hd hL.fit ?_));refine wpAny_bind (ad1 ?_);rw[ht,if_pos rfl];exact wpAny_bind (wpAny_askSetting (wpAny_pure (wpAny_pure h)))
theorem ak4(hL:Lies s.heap a es ep t)(ht:w.params.followText "set-order"=false)(hp:t.plain=true\/es.size<=1)(hl:t.led=true){sl g:Nat}{Q:Option (Value×Nat)->Shared->Prop}(h:Q (match es[SetTable.below t.place sl]?,t.place[SetTable.below t.place sl]? with|some (_,x),some j=>some (x,j+1)|_,_=>none) s):wpAny (model prog w) A (setNext a sl g ep) Q E s:=by
 obtain⟨o,ho,_,hd⟩:=hL.at_;unfold setNext;refine wpAny_bind (wpAny_setState_of ho hd hL.fit ?_);refine wpAny_bind (ad1 ?_);rw[ht,if_neg (by decide)];show wpAny _ _ (if(!t.plain&&decide (es.size>1))=true then _ else _) _ _ _;rw[if_neg (by rcases hp with e|e<;>simp[e])];refine wpAny_bind (wpAny_of_eq (a:=()) ?_ (wpAny_pure h));show((if(!t.led&&!es.isEmpty)=true then unsupported "set:maker-not-led" else pure ()):Sem Unit)=pure ();rw[hl]
 rfl
theorem aK8(hL:Lies s.heap a es ep t){j:Nat}(hj:j<es.size){Q:Value->Shared->Prop}(h:Q (es.getD j (0,.none)).2 s):wpAny (model prog w) A (setNextDrawn a j ep) Q E s:=by
 obtain⟨o,ho,_,hd⟩:=hL.at_;unfold setNextDrawn;refine wpAny_bind (wpAny_setState_of ho hd hL.fit ?_);dsimp only;rw[if_neg (by simp)];have e:es[j]?=some (es.getD j (0,.none)):=by simp[Array.getD,hj]
 rw[e];exact wpAny_pure h
end
end ST

namespace ST
open PySem PyProof.Rows
section
variable{prog:Program}{w:World}{A:Around}{E:Value->Shared->Prop}{s:Shared}{a I b:Addr}{es:Array (Int×Value)}{ep:Nat}{t:SetTable}{pl:List Nat}
theorem ax2(hL:Lies s.heap a es ep t):t.place.size=es.size:=by
 have:=hL.fit;unfold SetTable.fits at this;simp at this;exact this.1
theorem am3(hw:Ris t.place){i:Nat}(hi:i<=t.place.size):SetTable.below t.place (slotAt t i)=i:=by
 cases i with
 |zero=>exact aM9 hw
 |succ i=>exact aN0 hw (by omega)
theorem entries{Q:Array (Int×Value)->Shared->Prop}(hL:Lies s.heap a es ep t)(h:Q es s):wpAny (model prog w) A (setEntries a) Q E s:=by
 obtain⟨o,ho,_,hd⟩:=hL.at_;unfold setEntries;exact wpAny_bind (wpAny_setState_of ho hd hL.fit (wpAny_pure h))
theorem bJ5{f f':Value}{i n:Nat}{h:Heap}(hi:B8 h I a f i n ep){x:Value}(hx:x=rawInt ((i:Int)+1)):B8 ((h.update I (Obj.mapFields (·.setIfInBounds 0 f'))).update I (Obj.mapFields (·.setIfInBounds 1 x))) I a f' (i+1) n ep:=by
 obtain⟨o,ho,hc,hd⟩:=hi;have h1:=Heap.get?_update_self (Obj.mapFields (·.setIfInBounds 0 f')) ho (Obj.isFreed_of_fields (Obj.data_mapFields hd _));have d1:(Obj.mapFields (·.setIfInBounds 0 f') o).data=.fields #[f',rawInt i,.ref a,rawInt n,rawInt ep]:=by rw[Obj.data_mapFields hd];simp
 have h2:=Heap.get?_update_self (Obj.mapFields (·.setIfInBounds 1 x)) h1 (Obj.isFreed_of_fields (Obj.data_mapFields d1 _));refine⟨_,h2,(Obj.cls_mapFields ..).trans ((Obj.cls_mapFields ..).trans hc),?_⟩;rw[Obj.data_mapFields d1];subst hx;simp[rawInt]
theorem bJ6{f:Value}{i n:Nat}{h:Heap}(hi:B8 h I a f i n ep){x:Value}(hx:x=rawInt ((i:Int)+1)):B8 (h.update I (Obj.mapFields (·.setIfInBounds 1 x))) I a f (i+1) n ep:=by
 obtain⟨o,ho,hc,hd⟩:=hi;have h2:=Heap.get?_update_self (Obj.mapFields (·.setIfInBounds 1 x)) ho (Obj.isFreed_of_fields (Obj.data_mapFields hd _));refine⟨_,h2,(Obj.cls_mapFields ..).trans hc,?_⟩;rw[Obj.data_mapFields hd];subst hx;simp[rawInt]
theorem bk4{α:Type}{f f' x:Value}{i n:Nat}{m:Sem α}{Q':α->Shared->Prop}(hi:B8 s.heap I a f i n ep)(hx:x=rawInt ((i:Int)+1))(h:∀h',B8 h' I a f' (i+1) n ep->Heap.SameBut I s.heap h'->wpAny (model prog w) A m Q' E { s with heap:=h' }) :
  wpAny (model prog w) A (do setField (.ref I) 0 f';setField (.ref I) 1 x;m) Q' E s:=by
 obtain⟨o,ho,hc,hd⟩:=id hi;refine wpAny_bind (wpAny_setField ho hd (by simp) ?_);have h1:=Heap.get?_update_self (Obj.mapFields (·.setIfInBounds 0 f')) ho (Obj.isFreed_of_fields (Obj.data_mapFields hd _));have d1:(Obj.mapFields (·.setIfInBounds 0 f') o).data=.fields #[f',rawInt i,.ref a,rawInt n,rawInt ep]:=by rw[Obj.data_mapFields hd];simp
 refine wpAny_bind (wpAny_setField (s:={ s with heap:=_ }) h1 d1 (by simp) ?_);exact h _ (bJ5 hi hx) ((Heap.SameBut.update ..).trans (Heap.SameBut.update ..))
theorem bG3{α:Type}{f x:Value}{i n:Nat}{m:Sem α}{Q':α->Shared->Prop}(hi:B8 s.heap I a f i n ep)(hx:x=rawInt ((i:Int)+1))(h:∀h',B8 h' I a f (i+1) n ep->Heap.SameBut I s.heap h'->wpAny (model prog w) A m Q' E { s with heap:=h' }) :
  wpAny (model prog w) A (do setField (.ref I) 1 x;m) Q' E s:=by
 obtain⟨o,ho,hc,hd⟩:=id hi;refine wpAny_bind (wpAny_setField ho hd (by simp) ?_);exact h _ (bJ6 hi hx) (Heap.SameBut.update ..)
theorem ah6{α:Type}(next:Nat->Nat)(xs:Array α):(pickOrder next xs).toList.Perm xs.toList:=by
 have go:∀(fuel k:Nat) (left:List α) (out:Array α),fuel=left.length->(pickOrder.go next fuel k left out).toList.Perm (out.toList++left):=by
  intro fuel
  induction fuel with
  |zero =>
   intro k left out e;have:left=[]:=List.eq_nil_of_length_eq_zero e.symm;subst this;simp[pickOrder.go]
  |succ n ih =>
   intro k left out e;have hlt:next k % left.length<left.length:=Nat.mod_lt _ (by omega)
   unfold pickOrder.go;rw[List.getElem?_eq_getElem hlt];refine(ih _ _ _ (by rw[List.length_eraseIdx_of_lt hlt];omega)).trans ?_;rw[Array.toList_push,List.append_assoc];refine List.Perm.append_left _ ?_;have:left.Perm (left[next k % left.length]::left.eraseIdx (next k % left.length)):=by
    rw[List.eraseIdx_eq_take_drop_succ]
    conv=>lhs;rw[<- List.take_append_drop (next k % left.length) left,List.drop_eq_getElem_cons hlt]
    exact List.perm_middle
   exact this.symm
 have:=go xs.size 0 xs.toList #[] (by simp);simpa[pickOrder] using this
theorem next_item{r:Rd}{i:Nat}{f:Value}{Q:Option Value->Shared->Prop}(hL:Lies s.heap a es ep t)(hr:aq0 w es t pl r)(hi:B8 s.heap I a f i es.size ep)(hf:L6 s.heap t b pl i f r)(hne:b≠I)(hlt:i<es.size)(h:∀v h' f',(ak1 w a es ep pl r)[i]?=some v->B8 h' I a f' (i+1) es.size ep->L6 h' t b pl (i+1) f' r->Heap.SameBut I s.heap h'->Q (some v) { s with heap:=h' }):wpAny (model prog w) A (pyNext (.ref I)) Q E s:=by
 obtain⟨o,ho,hc,hd⟩:=id hi;unfold pyNext;refine wpAny_bind (wpAny_attempt (wpAny_callSpecial?_slot (name:=Str.ofString "__next__") hi.ty A7 (wpAny_call_entry A7 hi.ty ag7 ?_ (ad2 _))));unfold Builtin.«set_iterator.__next__»;refine wpAny_bind (wpAny_pure ?_);refine wpAny_bind (wpAny_fieldsOf ho hd ?_);dsimp only[rawInt];refine wpAny_bind (entries hL ?_);rw[if_neg (by simp)];rw[Int.toNat_natCast,Int.toNat_natCast];cases r with
 |text =>
  obtain⟨k,rfl⟩:=hf;dsimp only[rawInt];refine wpAny_bind (ar2 hL hr ?_);have hl:i<(pickOrder (w.params.setOrder a ep) es).size:=by
   have:=(ah6 (w.params.setOrder a ep) es).length_eq;simp at this;omega
  rw[Array.getElem?_eq_getElem hl];refine bk4 hi rfl fun h' h1 h2=>wpAny_pure ⟨_,rfl,wpAny_pure (h _ _ _ ?_ h1 ⟨_,rfl⟩ h2)⟩;show((pickOrder (w.params.setOrder a ep) es).toList.map (·.2))[i]?=_;simp[hl]
 |plain =>
  obtain⟨r1,r2,r3⟩:=hr;have hs:=ax2 hL;obtain rfl:=hf;dsimp only[rawInt];rw[Int.toNat_natCast];refine wpAny_bind (ak4 hL r1 r2 r3.led ?_);rw[am3 r3.ris (by omega),Array.getElem?_eq_getElem hlt,getD_mem (by omega)];refine bk4 hi rfl fun h' h1 h2=>wpAny_pure ⟨_,rfl,wpAny_pure (h _ _ _ ?_ h1 rfl h2)⟩;show(es.toList.map (·.2))[i]?=_;simp[hlt]
 |drawn =>
  obtain⟨r1,r2⟩:=hr;obtain⟨rfl,ob,e,hb,hbc,hbd⟩:=hf;have hpl:i<pl.length:=by rw[r2.length_eq];simpa using hlt
  dsimp only;refine wpAny_bind (wpAny_seqItems hb hbd ?_);have hj:pl[i]<es.size:=by
   have:=r2.mem_iff.mp (List.getElem_mem hpl);simpa using this
  have e1:(pl.map fun j=>rawInt (j:Nat)).toArray[i]?=some (rawInt (pl[i]:Nat)):=by simp[hpl]
  dsimp only;rw[e1];dsimp only[rawInt];rw[Int.toNat_natCast];refine wpAny_bind (aK8 hL hj ?_);refine bG3 hi rfl fun h' h1 h2=>wpAny_pure ⟨_,rfl,wpAny_pure (h _ _ _ ?_ h1 ⟨rfl,ob,e,by rw[h2.2 b hne];exact hb,hbc,hbd⟩ h2)⟩;show(pl.map fun j=>(es.getD j (0,.none)).2)[i]?=_;simp[hpl]
theorem ah4{Q:Option Value->Shared->Prop}{I:Addr}{h0:Heap}(hh:A.handled=none)(h0s:Heap.ExtBut I h0 s.heap)(h:∀h',Heap.ExtBut I h0 h'->Q none { s with heap:=h' }) :
  wpAny (model prog w) A.in1 (newExc (.type "StopIteration") [] >>= fun e=>(raiseNew e:Sem Fin)) (fun fin s'=>∃v,fin=Fin.done (Flow.ret v)/\wpAny (model prog w) A (pure (some v)) Q E s')
   (fun e s'=>wpAny (model prog w) A (do
     let x <- isInstance e (Value.type "StopIteration")
     if x=true then pure none else throw e) Q E s') s:=by
 refine wpAny_bind ?_;simp only[newExc,newTuple];refine wpAny_bind (wpAny_newObj_type ?_ (by size_fits));refine wpAny_bind (m:=firstArgMember _ _) (wpAny_of_eq (a:=Value.none) (by first|rfl|(simp only[firstArgMember];rfl)) ?_);refine wpAny_newObj_type ?_ (by size_fits);simp only[raiseNew];refine wpAny_bind (wpAny_handled ?_);rw[show A.in1.handled=none from hh];refine wpAny_bind (wpAny_pure (wpAny_throw ?_));refine wpAny_bind (wpAny_isInstance (T:="StopIteration") (b:=true) ⟨_,Heap.get?_push_size _ rfl,rfl⟩ isSubtype_stop ?_);exact wpAny_pure (h _ ((h0s.push _).push _))
theorem next_end{r:Rd}{f:Value}{Q:Option Value->Shared->Prop}(hh:A.handled=none)(hL:Lies s.heap a es ep t)(hr:aq0 w es t pl r)(hi:B8 s.heap I a f es.size es.size ep)(hf:L6 s.heap t b pl es.size f r)(hne:b≠I)(h:∀h',Heap.ExtBut I s.heap h'->Q none { s with heap:=h' }):wpAny (model prog w) A (pyNext (.ref I)) Q E s:=by
 obtain⟨o,ho,hc,hd⟩:=id hi;unfold pyNext;refine wpAny_bind (wpAny_attempt (wpAny_callSpecial?_slot (name:=Str.ofString "__next__") hi.ty A7 (wpAny_call_entry A7 hi.ty ag7 ?_ (ad2 _))));unfold Builtin.«set_iterator.__next__»;refine wpAny_bind (wpAny_pure ?_);refine wpAny_bind (wpAny_fieldsOf ho hd ?_);dsimp only[rawInt];refine wpAny_bind (entries hL ?_);rw[if_neg (by simp)];rw[Int.toNat_natCast,Int.toNat_natCast];cases r with
 |text =>
  obtain⟨k,rfl⟩:=hf;dsimp only[rawInt];refine wpAny_bind (ar2 hL hr ?_);have hl:(pickOrder (w.params.setOrder a ep) es).size<=es.size:=by
   have:=(ah6 (w.params.setOrder a ep) es).length_eq;simp at this;omega
  rw[Array.getElem?_eq_none hl];refine wpAny_bind (wpAny_setField ho hd (by simp) ?_);exact ah4 (s:={ s with heap:=_ }) hh (Heap.SameBut.update ..).extBut h
 |plain =>
  obtain⟨r1,r2,r3⟩:=hr;have hs:=ax2 hL;obtain rfl:=hf;dsimp only[rawInt];rw[Int.toNat_natCast];refine wpAny_bind (ak4 hL r1 r2 r3.led ?_);rw[am3 r3.ris (by omega),Array.getElem?_eq_none (Nat.le_refl _)];refine wpAny_bind (wpAny_setField ho hd (by simp) ?_);exact ah4 (s:={ s with heap:=_ }) hh (Heap.SameBut.update ..).extBut h
 |drawn =>
  obtain⟨r1,r2⟩:=hr;obtain⟨rfl,ob,e,hb,hbc,hbd⟩:=hf;have hpl:pl.length=es.size:=by rw[r2.length_eq];simp
  dsimp only;refine wpAny_bind (wpAny_seqItems hb hbd ?_);have e1:(pl.map fun j=>rawInt (j:Nat)).toArray[es.size]?=none:=by simp[hpl]
  dsimp only;rw[e1];dsimp only[rawInt];refine wpAny_bind (wpAny_setField ho hd (by simp) ?_);have h1:=Heap.get?_update_self (Obj.mapFields (·.setIfInBounds 0 (Value.int 0 0))) ho (Obj.isFreed_of_fields (Obj.data_mapFields hd _));refine wpAny_bind (wpAny_setField (s:={ s with heap:=_ }) h1 (Obj.data_mapFields hd _) (by simp) ?_);exact ah4 (s:={ s with heap:=_ }) hh ((Heap.SameBut.update ..).trans (Heap.SameBut.update ..)).extBut h
end
end ST

namespace ST
open PySem PyProof.Rows
section
variable{prog:Program}{w:World}{A:Around}{E:Value->Shared->Prop}{s:Shared}{a I b:Addr}{es:Array (Int×Value)}{ep:Nat}{t:SetTable}{pl:List Nat}
theorem aR5{α:Type}{l:List α}{k:Nat}(hlt:k<l.length):(l[k]::l.eraseIdx k).Perm l:=by
 rw[List.eraseIdx_eq_take_drop_succ]
 conv=>rhs;rw[<- List.take_append_drop k l,List.drop_eq_getElem_cons hlt]
 exact List.perm_middle.symm
theorem al3{α:Type}:∀(n:Nat) (xs:List α) (s:Shared) (Q:List α->Shared->Prop),n=xs.length->(∀ys d,ys.Perm xs->Q ys { s with drawn:=d })->wpAny (model prog w) A (drawOrder n xs) Q E s
 |0,xs,s,Q,e,h=>by
  have:xs=[]:=List.eq_nil_of_length_eq_zero e.symm;subst this;exact wpAny_pure (h [] s.drawn (List.Perm.refl _))
 |n+1,[],s,Q,e,h=>by simp at e
 |n+1,x::xs,s,Q,e,h=>by
  unfold drawOrder;refine wpAny_bind ?_;intro Γ p hΓ;refine⟨by simp,?_⟩;generalize (model prog w).w.draws .order (s.drawn.get .order)=k;have hlt:k % (x::xs).length<(x::xs).length:=Nat.mod_lt _ (by simp);have go:wpAny (model prog w) A (match (x :: xs)[k % (x :: xs).length]? with
   |some y=>do
    let ys <- drawOrder n ((x::xs).eraseIdx (k % (x::xs).length))
    pure (y::ys)
   | none=>unsupported "internal:drawOrder") Q E { s with drawn:=s.drawn.bump .order }:=by
   rw[List.getElem?_eq_getElem hlt];refine wpAny_bind (al3 n _ _ _ (by rw[List.length_eraseIdx_of_lt hlt];simp at e ⊢;omega) fun ys d hp=>wpAny_pure ?_);exact h _ d ((List.Perm.cons _ hp).trans (aR5 hlt))
  exact go
theorem ay1{r:Rd}(hr:aq0 w es t pl r):(ak1 w a es ep pl r).Perm (es.toList.map (·.2)):=by
 cases r with
 |text=>exact(ah6 _ es).map _
 |plain=>exact List.Perm.refl _
 |drawn =>
  refine(hr.2.map _).trans ?_;have:(List.range es.size).map (fun j=>(es.getD j (0,.none)).2)=es.toList.map (·.2):=by
   apply List.ext_getElem
   ·simp
   ·intro i h1 h2;simp at h1;simp[Array.getD,h1]
  rw[this]
theorem Lies.ty(hL:Lies s.heap a es ep t):s.TypeIs (.ref a) "set":=let ⟨o,e,c,_⟩:=hL.at_;⟨o,e,c⟩
theorem aY1(hL:Lies s.heap a es ep t)(hw:Well (Led w) t)(hz:es.size<=10000){Q:Value->Shared->Prop}(h:∀r pl b f I h' d',aq0 w es t pl r->B8 h' I a f 0 es.size ep->L6 h' t b pl 0 f r->b≠I->(b=a\/s.heap.objs.size<=b)->(∀c o,s.heap.get? c=some o->h'.get? c=some o)->s.heap.objs.size<=I->s.heap.objs.size<=h'.objs.size->Q (.ref I) { s with heap:=h',drawn:=d' }) :
  wpAny (model prog w) A (pyIter (.ref a)) Q E s:=by
 obtain⟨o,ho,hoc,hd⟩:=hL.at_;refine wpAny_pyIter_slot hL.ty F.slot_set_iter (wpAny_call_entry F.slot_set_iter hL.ty aA4 ?_ (F.args_set_iter_1 _));unfold Builtin.«frozenset.__iter__»;refine wpAny_bind (wpAny_pure ?_);unfold Builtin.Frozenset.sizeOf;refine wpAny_bind (wpAny_bind (entries hL (wpAny_pure ?_)));unfold setDrawn;refine wpAny_bind (wpAny_bind (wpAny_setState_of ho hd hL.fit ?_));refine wpAny_bind (ad1 (wpAny_pure ?_));have hlt:=Heap.lt_size ho;have fin:∀(r:Rd) (f:Value) (b:Addr) (pl:List Nat) (h1:Heap) (d1:Drawn),aq0 w es t pl r->(∀h',(∀c o,h1.get? c=some o->h'.get? c=some o)->L6 h' t b pl 0 f r)->b<h1.objs.size->(b=a\/s.heap.objs.size<=b)->(∀c o,s.heap.get? c=some o->h1.get? c=some o)->s.heap.objs.size<=h1.objs.size ->
   wpAny (model prog w) A.in1 (do
    let e <- setEpoch a
    ret (<- newFields "set_iterator" [f,rawInt 0,.ref a,rawInt es.size,rawInt e])) (fun fin s'=>∃ v,fin=Fin.done (Flow.ret v)/\∃ T' r,s'.TypeIs v T'/\typeLookup (.type T') "__next__"=pure (some r)/\Q v s') E { s with heap:=h1,drawn:=d1 }:=fun r f b pl h1 d1 hr hf hb hba he hsz=>by
  have hL1:Lies h1 a es ep t:=hL.at fun o e=>he a o e;obtain⟨o1,ho1,_,hd1⟩:=hL1.at_;unfold setEpoch;refine wpAny_bind (wpAny_bind (wpAny_setState_of (s:={ s with heap:=h1,drawn:=d1 }) ho1 hd1 hL1.fit (wpAny_pure ?_)));refine wpAny_bind (wpAny_newObj_type (wpAny_pure ⟨_,rfl,"set_iterator",_,⟨_,Heap.get?_push_size _ rfl,rfl⟩,A7.lookup,?_⟩));refine h r pl b f h1.objs.size _ d1 hr ⟨_,Heap.get?_push_size _ rfl,rfl,rfl⟩ (hf _ fun c o e=>Heap.get?_push_of_some _ e) (Nat.ne_of_lt hb) hba (fun c o e=>Heap.get?_push_of_some _ (he c o e)) hsz (by rw[size_push'];exact Nat.le_succ_of_le hsz)
 have e0:s={ s with heap:=s.heap,drawn:=s.drawn }:=rfl;cases hT:w.params.followText "set-order" with
 |true =>
  dsimp only[Bool.not_true,Bool.false_and];rw[if_neg (by simp)];refine wpAny_bind (wpAny_pure ?_);rw[e0];exact fin .text (rawInt 0) a [] s.heap s.drawn hT (fun h' _=>⟨0,rfl⟩) hlt (.inl rfl) (fun c o e=>e) (Nat.le_refl _)
 |false =>
  show wpAny _ _ (if(!false&&(!t.plain&&decide (es.size>1)))=true then _ else _ ) _ _ _;by_cases hp:t.plain=true\/es.size<=1
  ·rw[if_neg (by rcases hp with e|e<;>simp[e])];refine wpAny_bind (wpAny_pure ?_);rw[e0];refine fin .plain (rawInt 0) a [] s.heap s.drawn ⟨hT,hp,?_⟩ (fun h' _=>rfl) hlt (.inl rfl) (fun c o e=>e) (Nat.le_refl _);have:Led w=true:=by unfold Led;rw[hT];rfl
   rw[<- this];exact hw
  ·have h1:t.plain=false:=by cases hq:t.plain with|true=>exact absurd (.inl hq) hp|false=>rfl
   have h2:¬es.size<=1:=fun z=>hp (.inr z);rw[if_pos (by simp[h1];omega)];refine wpAny_bind (al3 _ _ _ _ (List.length_range).symm fun ys d hy=>?_);have hl:ys.length=es.size:=by rw[hy.length_eq];simp
   refine wpAny_bind (wpAny_newObj_type ?_ (by show(List.map _ ys).toArray.size<=sizeLine;rw[List.size_toArray,List.length_map,hl];exact Nat.le_trans hz (by decide)));refine fin .drawn (.ref s.heap.objs.size) s.heap.objs.size ys _ d ⟨hT,hy⟩ (fun h' hk=>⟨rfl,_,_,hk _ _ (Heap.get?_push_size _ rfl),rfl,rfl⟩) (by rw[size_push'];exact Nat.lt_succ_self _) (.inr (Nat.le_refl _)) (fun c o e=>Heap.get?_push_of_some _ e) (by rw[size_push'];exact Nat.le_succ _)
theorem aP9(hh:A.handled=none){r:Rd}(hr:aq0 w es t pl r)(hne:b≠I)(hna:a≠I) :
  Walks prog w A I [I,a,b] [I] es.size (fun i v=>(ak1 w a es ep pl r)[i]?=some v) (fun i h=>Lies h a es ep t/\∃f,B8 h I a f i es.size ep/\L6 h t b pl i f r) where
 sub:=fun c hc=>by simp at hc;simp[hc]
 frame:=fun i h h' st hk=>by
  obtain⟨hL,f,hi,hf⟩:=st;refine⟨hL.at fun o e=>hk a (by simp) o e,f,hi.at fun o e=>hk I (by simp) o e,?_⟩;cases r with
  |text=>exact hf
  |plain=>exact hf
  |drawn =>
   obtain⟨e1,o,e,h1,h2⟩:=hf;exact⟨e1,o,e,hk b (by simp) o h1,h2⟩
 item:=fun i s Q E hi st hQ=>by
  obtain⟨hL,f,hI,hf⟩:=st;exact next_item hL hr hI hf hne hi fun v h' f' hv h1 h2 h3=>hQ v h' s.toks hv ⟨hL.at fun o e=>by rw[h3.2 a hna];exact e,f',h1,h2⟩ fun c o hc e=>h3.extBut c o (fun z=>hc (by simp[z])) e
 done:=fun s Q E st hQ=>by
  obtain⟨hL,f,hI,hf⟩:=st;exact next_end hh hL hr hI hf hne fun h' he=>hQ h' s.toks fun c o hc e=>he c o (fun z=>hc (by simp[z])) e
 self:=fun i s Q E st hQ=>by
  obtain⟨hL,f,hI,hf⟩:=st;refine wpAny_pyIter_slot hI.ty ab2 (wpAny_call_entry ab2 hI.ty aD6 ?_ (aC0 _));exact wpAny_bind (wpAny_pure (wpAny_pure ⟨_,rfl,"set_iterator",_,hI.ty,A7.lookup,hQ⟩))
end
end ST

namespace ST
open PySem PyProof.Rows
theorem az3:typeLookup (.type "set") "__len__"=pure (some (.builtin "set.__len__")):=by rw[typeLookup_type,builtinLookup_eq_fast];kernel_rfl
section
variable{prog:Program}{w:World}{A:Around}{E:Value->Shared->Prop}{s:Shared}{a I b:Addr}{es:Array (Int×Value)}{ep:Nat}{t:SetTable}{pl:List Nat}
theorem aC6(hh:A.handled=none)(hL:Lies s.heap a es ep t)(hw:Well (Led w) t)(hz:es.size<=10000){Q:List Value->Shared->Prop}(h:∀(vs:List Value) h' d' tk',vs.Perm (es.toList.map (·.2))->(∀c o,s.heap.get? c=some o->h'.get? c=some o)->s.heap.objs.size<=h'.objs.size->s.toks<=tk'->Q vs { s with heap:=h',drawn:=d',toks:=tk' }) :
  wpAny (model prog w) A (collect (.ref a)) Q E s:=by
 have hlt:a<s.heap.objs.size:=let ⟨o,ho,_⟩:=hL.at_;Heap.lt_size ho
 unfold collect;refine wpAny_bind (wpAny_runValue (codeAny_builtin F.entry_proto_collect ?_));rw[Around.under_plainId F.plain_proto_collect _];show wpAny _ A.in1 (newList [] >>= fun l=>again (.builtin "list.__iadd__" ⟨[l,.ref a],[]⟩)) _ _ s;refine wpAny_bind (wpAny_newObj_type ?_);refine wpAny_pure ⟨plainId_quiet F.plain_list_iadd _,codeAny_builtin F.entry_list_iadd ?_⟩;rw[Around.under_plainId F.plain_list_iadd _];have hL1:Lies (s.heap.push { cls:=.type "list",data:=.seq ([]:List Value).toArray }) a es ep t:=hL.at fun o e=>Heap.get?_push_of_some _ e;have hS1:(s.heap.push { cls:=.type "list",data:=.seq ([]:List Value).toArray }).get? s.heap.objs.size=some { cls:=.type "list",data:=.seq ([]:List Value).toArray }:=Heap.get?_push_size _ rfl;have hne:s.heap.objs.size≠a:=Nat.ne_of_gt hlt;have h1:Builtin.List.listSameRef (.ref s.heap.objs.size) (.ref a)=false:=by simp[Builtin.List.listSameRef,hne]
 show wpAny _ A.in1 (Builtin.List.listExtendWith (.ref s.heap.objs.size) (.ref a) (.ref s.heap.objs.size)) _ _ _;unfold Builtin.List.listExtendWith;refine wpAny_bind (wpAny_typeOf (Lies.ty (s:={ s with heap:=_ }) hL1) ?_);rw[if_neg (by rw[h1];decide)];refine wpAny_bind (aY1 (s:={ s with heap:=_ }) hL1 hw hz fun r pl b f I h2 d2 hr hI hf hb hbz he hIz h2z=>?_);have hL2:Lies h2 a es ep t:=hL1.at fun o e=>he a o e;have hS2:=he _ _ hS1;refine wpAny_bind (wpAny_holding ?_);unfold Builtin.List.listLengthHint;refine wpAny_bind (wpAny_specialOf (Lies.ty (s:={ s with heap:=h2,drawn:=d2 }) hL2) az3 ?_);generalize hid:("set.__len__":String)=id0;dsimp only;rw[show splitId id0=some ("set","__len__") from by subst hid;decide +kernel];dsimp only;refine wpAny_bind (wpAny_isInstance (b:=true) (Lies.ty (s:={ s with heap:=h2,drawn:=d2 }) hL2) (by rw[isSubtype_type];kernel_rfl) ?_);rw[if_neg (by decide)];subst hid;rw[if_pos (by decide +kernel)];refine wpAny_bind (wpAny_typeOf (Lies.ty (s:={ s with heap:=h2,drawn:=d2 }) hL2) ?_);refine wpAny_pure ?_;rw[if_pos (by decide +kernel)];refine wpAny_bind (wpAny_rule ?_);refine wpAny_bind ?_;show wpAny _ A.in1 (updateSeq s.heap.objs.size (·.push .none) >>= fun _=>updateSeq s.heap.objs.size (·.pop)) _ _ _;refine wpAny_bind (wpAny_updateSeq (s:={ s with heap:=h2,drawn:=d2 }) hS2 rfl ?_);have hS3:=Heap.get?_update_self (Obj.mapSeq (·.push Value.none)) hS2 rfl;refine wpAny_updateSeq (s:={ s with heap:=_,drawn:=d2 }) hS3 rfl ?_;have hS4:=Heap.get?_update_self (Obj.mapSeq (·.pop)) hS3 rfl;have oth:∀c o,c≠s.heap.objs.size->h2.get? c=some o->((h2.update s.heap.objs.size (Obj.mapSeq (·.push Value.none))).update s.heap.objs.size (Obj.mapSeq (·.pop))).get? c=some o :=
  fun c o hc e=>(Heap.get?_update_other _ _ (Ne.symm hc)).trans ((Heap.get?_update_other _ _ (Ne.symm hc)).trans e)
 have hz1:s.heap.objs.size<(s.heap.push { cls:=.type "list",data:=.seq ([]:List Value).toArray }).objs.size:=by rw[size_push'];exact Nat.lt_succ_self _
 have hSI:I≠s.heap.objs.size:=Nat.ne_of_gt (Nat.lt_of_lt_of_le hz1 hIz);have hSb:b≠s.heap.objs.size:=by
  rcases hbz with z|z
  ·rw[z];exact Ne.symm hne
  ·exact Nat.ne_of_gt (Nat.lt_of_lt_of_le hz1 z)
 have W:=(aP9 (prog:=prog) (w:=w) (A:=A.in1) (a:=a) (b:=b) (I:=I) (es:=es) (ep:=ep) (t:=t) (pl:=pl) hh hr hb (Nat.ne_of_lt (Nat.lt_of_lt_of_le (Nat.lt_trans hlt hz1) hIz))).toS;have st:Lies h2 a es ep t/\∃f,B8 h2 I a f 0 es.size ep/\L6 h2 t b pl 0 f r:=⟨hL2,f,hI,hf⟩
 have st2:=W.frame 0 ({ s with heap:=h2,drawn:=d2 }:Shared) _ s.toks st (Nat.le_refl _) fun c hc o e=>oth c o (fun z=>by simp at hc;rcases hc with y|y|y<;>simp_all) e;refine wpAny_pure ⟨plainId_quiet F.plain_extend_loop _,codeAny_extend_loopS W (Nat.le_trans hz (by decide)) _ (fun z=>by simp at z;rcases z with y|y|y<;>simp_all) _ es.size 0 _ _ _ rfl (Nat.zero_le _) st2 hS4 (ItemsOf.nil _) fun s' acc' c' hm hS' hacc=>?_⟩;show wpAny _ A (load s.heap.objs.size >>= _) _ _ s';refine wpAny_bind (wpAny_load hS' ?_);refine wpAny_pure ?_;have eS:s'={ s with heap:=s'.heap,drawn:=d2,toks:=s'.toks }:=by
  obtain⟨hp',g',d',tk',os'⟩:=s';have m1:g'=s.gens:=hm.gens;have m2:d'=d2:=hm.drawn;have m3:os'=s.os:=hm.os;subst m1;subst m2;subst m3
  rfl
 have eo:acc'.toList=ak1 w a es ep pl r:=by
  have l1:(ak1 w a es ep pl r).length=es.size:=by rw[(ay1 hr).length_eq];simp
  apply List.ext_getElem
  ·rw[l1];simpa using hacc.1
  ·intro i h1 h2;have:=hacc.2 i acc'.toList[i] (by simp at h1 ⊢);dsimp only at this;rw[List.getElem?_eq_getElem h2] at this;exact(Option.some.inj this).symm
 rw[eo,eS];refine h _ _ d2 s'.toks (ay1 hr) (fun c o e=>?_) (Nat.le_of_lt (Heap.lt_size hS')) hm.toks;have hc:c<s.heap.objs.size:=Heap.lt_size e;have n1:c≠s.heap.objs.size:=Nat.ne_of_lt hc;have n2:c≠I:=Nat.ne_of_lt (Nat.lt_of_lt_of_le (Nat.lt_trans hc hz1) hIz);exact hm.heap c o (by simp[n1,n2]) (oth c o n1 (he c o (Heap.get?_push_of_some _ e)))
theorem aJ3{ks:List Int}(hh:A.handled=none)(hS:q9 prog w s.heap a ks)(h64:ks.length<64){Q:Value->Shared->Prop}(h:∀(S:Addr) (vs:List Value) (ns:List Int) e h' d' tk',IntsAre vs ns->ns.Perm ks->ns.Pairwise (·<=·)->h'.get? S=some (seqObj "list" vs.toArray e)->s.heap.objs.size<=S->(∀c o,s.heap.get? c=some o->h'.get? c=some o)->s.toks<=tk'->Q (.ref S) { s with heap:=h',drawn:=d',toks:=tk' }) :
  wpAny (model prog w) A (call (.builtin "sorted") [.ref a]) Q E s:=by
 obtain⟨o,es,ep,t,ho,hx,hd,hel,hp,hn,hb,hf,hw⟩:=hS;have hL:Lies s.heap a es ep t:=⟨⟨o,ho,hx.1,hd⟩,hf⟩
 have hz:es.size=ks.length:=by rw[<- hp.length_eq];simp
 refine Calls.call_function_entry kind_sorted plain_sorted entry_sorted (args_sorted1 _) ?_;unfold Builtin.«sorted»;refine wpAny_bind (m:=checkCount "sorted" 1 1 _) (wpAny_pure ?_);refine wpAny_bind (aC6 (A:=A.in1) hh hL hw (by omega) fun vs h1 d1 tk1 hv he hz1 htk=>?_);have hI:IntsAre vs (vs.map toI):=by
  have all:∀v∈vs,∃tk,v=.int (toI v) tk:=fun v hv'=>by
   obtain⟨e,he',rfl⟩:=List.mem_map.mp (hv.mem_iff.mp hv');obtain⟨tk,h1,_⟩:=aH4 hel he';exact⟨tk,h1⟩
  clear hv
  induction vs with
  |nil=>exact .nil
  |cons v r ih =>
   obtain⟨tk,e⟩:=all v (by simp);have:=IntsAre.cons (toI v) tk (ih fun u hu=>all u (by simp[hu]));rw[<- e] at this;exact this
 have hk:(vs.map toI).Perm ks:=by
  refine(hv.map toI).trans ?_;rw[List.map_map];exact hp
 have hl:vs.length<64:=by rw[hv.length_eq];simp;omega
 refine wpAny_bind (wpAny_newList (s:={ s with heap:=h1,drawn:=d1,toks:=tk1 }) ?_);have hoL:(h1.push (seqObj "list" vs.toArray 0)).get? h1.objs.size=some (seqObj "list" vs.toArray 0):=Heap.get?_push_size _ rfl;refine wpAny_bind (wpAny_holding (wpAny_call_entry (s:={ s with heap:=h1.push (seqObj "list" vs.toArray 0),drawn:=d1,toks:=tk1 }) slot_list_sort ⟨_,hoL,rfl⟩ entry_list_sort (list_sort_tree hoL hI hl fun out ns' a1 a2 a3=>⟨_,rfl,?_⟩) (args_list_sort _)));obtain⟨e,he'⟩:=sortedHeap_at (vs:=vs) (out:=out) hoL;refine wpAny_pure ⟨_,rfl,h h1.objs.size out.toList ns' e _ d1 tk1 a1 (a2.trans hk) a3 he' hz1 (fun c o' e'=>?_) htk⟩;have hc:=Heap.lt_size (he c o' e');rw[sortedHeap_old (Nat.ne_of_lt hc) (by rw[size_push'];exact Nat.lt_succ_of_lt hc)];exact Heap.get?_push_of_some _ (he c o' e')
end
end ST

namespace ST
open PySem PyProof.Rows
noncomputable def j5(ks xs:List Int):List Int:=xs.foldl B6 ks
theorem K5:∀(xs ks:List Int),(j5 ks xs).length<=ks.length+xs.length
 |[],ks=>by simp[j5]
 |x::xs,ks=>by
  have:=K5 xs (B6 ks x);have h2:=a46 ks x;show(j5 (B6 ks x) xs).length<=_;simp only[List.length_cons];omega
theorem ak5:∀(xs ks:List Int) (k:Int),k∈j5 ks xs↔k∈ks\/k∈xs
 |[],ks,k=>by simp[j5]
 |x::xs,ks,k=>by
  show k∈j5 (B6 ks x) xs↔_;rw[ak5 xs];unfold B6;split
  ·rename_i h;constructor
   ·rintro(a|a)
    ·exact .inl a
    ·exact .inr (by simp[a])
   ·rintro(a|a)
    ·exact .inl a
    ·rcases List.mem_cons.mp a with rfl|b
     ·exact .inl h
     ·exact .inr b
  ·simp[or_assoc]
theorem ar3:∀(xs ks:List Int),ks.Nodup->(j5 ks xs).Nodup
 |[],ks,h=>h
 |x::xs,ks,h=>by
  show(j5 (B6 ks x) xs).Nodup;refine ar3 xs _ ?_;unfold B6;split
  ·exact h
  ·rename_i hk;rw[List.nodup_append];exact⟨h,by simp,fun a ha b hb=>by simp at hb;subst hb;exact fun z=>hk (z▸ha)⟩
section
variable{prog:Program}{w:World}{A:Around}{E:Value->Shared->Prop}{s:Shared}{a:Addr}
theorem aM2:Well (Led w) (SetTable.fresh 0 0 (Led w)):=⟨by simp[Ris,SetTable.fresh],rfl,rfl⟩
theorem as1{h:Heap}(e:h.get? a=some { cls:=.type "set",dict:=none,data:=.set #[] 0 (.fresh 0 0 (Led w)) }):q9 prog w h a [] :=
 ⟨_,#[],0,_,e,⟨rfl,rfl,rfl⟩,rfl,(by intro e he;simp at he),by simp,by simp,by decide,by rfl,aM2⟩
theorem aX1{R:Result->Shared->Prop}{I:Addr}{fp wr:List Addr}{G:Array GenState->Array GenState->Prop}{n:Nat}{P:Nat->Value->Prop}{St:Nat->Shared->Prop}(W:WalksS prog w A.in1 I fp wr G n P St)(hSf:a∉fp){ns:List Int}(hn:n=ns.length)(hv:∀i v,P i v->∃tk,v=.int (ns.getD i 0) tk)(hb:n+1<scanBound):∀(k i:Nat) (s:Shared),i+k=n->St i s->q9 prog w s.heap a (j5 [] (ns.take i)) ->
   (∀s',Moved (a::wr) G s s'->q9 prog w s'.heap a (j5 [] ns)->R (.ok (.ret .none)) s')->codeAny (model prog w) A (.builtin "set.update.loop" ⟨[.ref a,.ref I],[]⟩) R s:=by
 have hw:a∉wr:=fun h=>hSf (W.sub _ h);have sub':∀b∈wr,b∈a::wr:=fun b hb=>by simp[hb]
 intro k
 induction k with
 |zero =>
  intro i s e st hS hR;obtain rfl:i=n:=by omega
  refine codeAny_builtin PyProof.Rows.F.entry_set_update_loop ?_;rw[Around.under_plainId PyProof.Rows.F.plain_set_update_loop _];unfold Builtin.«set.update.loop»;refine wpAny_bind (W.done s _ _ st fun s' m=>wpAny_pure (hR s' (m.mono sub') (q9.at ?_ fun o e=>m.heap a o hw e)));rw[hn,List.take_length] at hS;exact hS
 |succ k ih =>
  intro i s e st hS hR;have hlt:i<ns.length:=by omega
  refine codeAny_builtin PyProof.Rows.F.entry_set_update_loop ?_;rw[Around.under_plainId PyProof.Rows.F.plain_set_update_loop _];unfold Builtin.«set.update.loop»;refine wpAny_bind (W.item i s _ _ (by omega) st fun v s' hP st' m=>?_);obtain⟨tk,rfl⟩:=hv i v hP;have hS':=q9.at hS fun o e=>m.heap a o hw e;have hl:=K5 (ns.take i) [];rw[List.length_take] at hl;simp only[List.length_nil] at hl;refine wpAny_bind (wpAny_holding ?_);unfold setAdd;refine wpAny_holding (wpAny_bind ((intKind prog w).pyHash (k:=ns.getD i 0) (intKind_is _ _ _ _) ?_));refine a82 (s:={ s' with toks:=s'.toks+1 }) hS' (by omega) fun h' bb sb hS2=>?_;have e2:B6 (j5 [] (ns.take i)) (ns.getD i 0)=j5 [] (ns.take (i+1)):=by
   unfold j5;rw[List.take_succ,List.foldl_append,List.getElem?_eq_getElem hlt];simp[List.getD,hlt]
  rw[e2] at hS2;refine wpAny_pure ⟨plainId_quiet PyProof.Rows.F.plain_set_update_loop _,ih (i+1) _ (by omega) (W.frame _ s' _ _ st' (Nat.le_succ _) fun b hb o e=>by rw[sb.2 b fun z=>hSf (z▸hb)];exact e) hS2 fun s2 m2 h2=>?_⟩;exact hR s2 (Moved.trans W.gtrans ((m.mono sub').then_heap (Nat.le_succ _) fun b o hb e=>by rw[sb.2 b fun z=>hb (by rw[z];simp)];exact e) m2) h2
end
end ST

namespace ST
open PySem PyProof.Rows
section
variable{prog:Program}{w:World}{A:Around}{E:Value->Shared->Prop}{s:Shared}{a:Addr}
noncomputable abbrev v9(w:World):Obj:={ cls:=.type "set",dict:=none,data:=.set #[] 0 (.fresh 0 0 (Led w)) }
theorem aG2{Q:Value->Shared->Prop}(h:Q (.ref s.heap.objs.size) { s with heap:=s.heap.push (v9 w) }):wpAny (model prog w) A (newSet (.type "set")) Q E s:=by
 unfold newSet;refine wpAny_bind (ad1 ?_);exact wpAny_newObj_type h (Nat.zero_le _)
theorem a37(x:Value){Q:Value->Shared->Prop}(h:Q (.ref s.heap.objs.size) { s with heap:=s.heap.push (v9 w) }):codeAny (model prog w) A (.call (.builtin "set.__new__") ⟨[.type "set",x],[]⟩) (wants Q E) s:=by
 refine codeAny_of_tree (?_:wpAny _ A.in1 (do
  checkBuiltinCall "set.__new__" ⟨[.type "set",x],[]⟩
  again (.builtin "set.__new__" ⟨[.type "set",x],[]⟩)) _ _ s)
 refine wpAny_bind (wpAny_of_eq (F.newCall_set_1 x) (wpAny_pure ⟨plainId_quiet F.plain_set_new _,?_⟩));refine codeAny_builtin F.entry_set_new ?_;rw[Around.under_plainId F.plain_set_new _];unfold Builtin.«set.__new__»;have sub:=sub_set_self;refine wpAny_bind (m:=Builtin.Frozenset.newClass "set" _) ?_;unfold Builtin.Frozenset.newClass;dsimp only;refine wpAny_bind (wpAny_of_eq (a:=true) (by first|rfl|(simp[isType];rfl)) ?_);rw[if_neg (by decide)];refine wpAny_bind (wpAny_of_eq sub ?_);rw[if_neg (by decide)];refine wpAny_pure ?_;exact wpAny_bind (aG2 (wpAny_pure h))
theorem az8{vs:List Value}{ns:List Int}(h:IntsAre vs ns):vs.length=ns.length:=by
 induction h with
 |nil=>rfl
 |cons n t r ih=>simp[ih]
noncomputable def aC3(h:Heap)(l:Addr)(items:Array Value):Prop:=h.IsList l items\/h.IsTuple l items
theorem aC3.lt{h:Heap}{l:Addr}{items:Array Value}(x:aC3 h l items):l<h.objs.size:=by
 rcases x with⟨_,e,_⟩|⟨_,e,_⟩<;>exact Heap.lt_size e
theorem a29{l:Addr}{items:Array Value}{ns:List Int}{Q:Fin->Shared->Prop}(hh:A.handled=none)(hS:s.heap.get? a=some (v9 w))(hl:aC3 s.heap l items)(hi:IntsAre items.toList ns)(hb:items.size+1<scanBound)(hne:a≠l)(h:∀h' tk,q9 prog w h' a (j5 [] ns)->(∀b o,b≠a->s.heap.get? b=some o->h'.get? b=some o)->s.toks<=tk->wpAny (model prog w) A (ret .none) Q E { s with heap:=h',toks:=tk }) :
  wpAny (model prog w) A (Builtin.«set.__init__» ⟨[.ref a,.ref l],[]⟩) Q E s:=by
 have hT:s.TypeIs (.ref a) "set":=⟨_,hS,rfl⟩
 have hLi:Lies s.heap a #[] 0 (SetTable.fresh 0 0 (Led w)):=⟨⟨_,hS,rfl,rfl⟩,rfl⟩
 have hlt:=hl.lt;have hnI:l≠s.heap.objs.size:=Nat.ne_of_lt hlt;unfold Builtin.«set.__init__» noKeywords;dsimp only;refine wpAny_bind (wpAny_of_eq (a:=()) rfl ?_);have nm:∀{Q':String->Shared->Prop},(∀x,Q' x s)->wpAny (model prog w) A (typeNameOfCut 200 (.ref a)) Q' E s:=fun{Q'} q=>by
  unfold typeNameOfCut shownTypeOf;refine wpAny_bind (wpAny_bind (wpAny_typeOf hT ?_));rw[if_neg (by decide)];refine wpAny_pure (wpAny_of_eq (a:="set") ?_ (q _));unfold typeNameCut;dsimp only
  first|(unfold typeName;rw[find?_eq_fast];kernel_rfl)|kernel_rfl
 refine wpAny_bind (nm fun x=>?_);refine wpAny_bind (m:=checkCount _ 0 1 _) (wpAny_pure ?_);refine wpAny_bind (m:=Builtin.Frozenset.addrOf _) (wpAny_pure ?_);unfold setUsed;refine wpAny_bind (wpAny_bind (wpAny_setState_of hS rfl rfl (wpAny_pure ?_)));rw[if_neg (by show ¬((SetTable.fill (SetTable.fresh 0 0 (Led w)) != 0)=true);unfold SetTable.fill;simp[SetTable.fresh])];unfold Builtin.Frozenset.updateFrom Builtin.Frozenset.isAnySet;obtain⟨c,hcc,hTl,it,hit,hkp,St,W,hst⟩:∃c:String,(c="list"\/c="tuple")/\s.TypeIs (.ref l) c/\∃it:Obj,(∀Q':Value->Shared->Prop,Q' (.ref s.heap.objs.size) { s with heap:=s.heap.push it }->wpAny (model prog w) A (pyIter (.ref l)) Q' E s) /\
   (∀b o,s.heap.get? b=some o->(s.heap.push it).get? b=some o)/\∃St:Nat->Shared->Prop,WalksS prog w A.in1 s.heap.objs.size [s.heap.objs.size,l] [s.heap.objs.size] (fun a b=>b=a) items.size (fun i v=>items[i]?=some v) St/\St 0 { s with heap:=s.heap.push it }:=by
  rcases hl with hl|hl
  ·obtain⟨o,ho,hc,_⟩:=id hl;exact⟨"list",.inl rfl,⟨o,ho,hc⟩,_,fun Q' q=>wpAny_pyIter_list hl q,fun b o e=>Heap.get?_push_of_some _ e,_,(Walks.list (A:=A.in1) hh _ l hnI items).toS,⟨⟨_,Heap.get?_push_size _ rfl,rfl,rfl⟩,hl.push _⟩⟩
  ·obtain⟨o,ho,hc,_⟩:=id hl;exact⟨"tuple",.inr rfl,⟨o,ho,hc⟩,_,fun Q' q=>wpAny_pyIter_tuple hl q,fun b o e=>Heap.get?_push_of_some _ e,_,(Walks.tuple (A:=A.in1) hh _ l hnI items).toS,⟨⟨_,Heap.get?_push_size _ rfl,rfl,rfl⟩,hl.push _⟩⟩
 refine wpAny_bind (wpAny_bind (wpAny_bind (wpAny_isInstance (b:=false) hTl (by rcases hcc with rfl|rfl<;>(rw[isSubtype_type];kernel_rfl)) ?_)));show wpAny (model prog w) A (isInstance (Value.ref l) (Value.type "frozenset")) _ _ _;refine wpAny_isInstance (b:=false) hTl (by rcases hcc with rfl|rfl<;>(rw[isSubtype_type];kernel_rfl)) ?_;rw[if_neg (by decide)];refine wpAny_bind (wpAny_typeOf hTl ?_);rw[if_neg (by rcases hcc with rfl|rfl<;>decide)];refine wpAny_bind (hit _ ?_);refine wpAny_bind (wpAny_runValue ?_);have haz:a<s.heap.objs.size:=Heap.lt_size hS;have hsz:items.size=ns.length:=by rw[<- Array.length_toList];exact az8 hi
 refine aX1 (a:=a) (ns:=ns) W (by simp only[List.mem_cons,List.not_mem_nil,or_false,not_or];exact⟨Nat.ne_of_lt haz,hne⟩) hsz (fun i v hv=>IntsAre.int_at hi i v (by rw[Array.getElem?_toList];exact hv)) hb items.size 0 _ (by omega)
  hst (as1 (hkp _ _ hS)) fun s' m hS'=>?_
 have eS:s'={ s with heap:=s'.heap,toks:=s'.toks }:=by
  obtain⟨hp',g',d',tk',os'⟩:=s';have m1:g'=s.gens:=m.gens;have m2:d'=s.drawn:=m.drawn;have m3:os'=s.os:=m.os;subst m1;subst m2;subst m3
  rfl
 rw[eS];refine wpAny_pure (h _ _ hS' (fun b o hb e=>?_) m.toks);exact m.heap b o (by simp only[List.mem_cons,List.not_mem_nil,or_false,not_or];exact⟨hb,Nat.ne_of_lt (Heap.lt_size e)⟩) (hkp _ _ e)
theorem a40{l:Addr}{items:Array Value}{ns:List Int}{Q:Value->Shared->Prop}(hh:A.handled=none)(hl:aC3 s.heap l items)(hi:IntsAre items.toList ns)(hb:items.size+1<scanBound)(h:∀h' tk,q9 prog w h' s.heap.objs.size (j5 [] ns)->(∀b o,s.heap.get? b=some o->h'.get? b=some o)->s.toks<=tk->Q (.ref s.heap.objs.size) { s with heap:=h',toks:=tk }) :
  wpAny (model prog w) A (call (.type "set") [.ref l]) Q E s:=by
 have cs:=F.called_set;obtain⟨_,_,y1⟩:=cs.mro;have y2:=cs.made;have y3:=cs.sub;have y4:=cs.notType;have y5:=cs.canCreate;have y6:=F.typeCall_set_1 (.ref l);refine wpAny_call (codeAny_of_tree (?_:wpAny _ _ (callAny (.type "set") _) _ _ _));refine wpAny_pure ⟨Code.quiet_builtin _ (by decide +kernel),codeAny_builtin F.entry_type_call ?_⟩;rw[Around.under_plain (weight_type_call_type "set" [.ref l] []) rfl]
 repeat (any_goals (first|assumption|wp_step))
 refine codeAny_mono (a37 (.ref l) (E:=E) (Q:=fun v s1=>v=.ref s.heap.objs.size/\s1={ s with heap:=s.heap.push (v9 w) }) ⟨rfl,rfl⟩) ?_;rintro(e|fl) s1 hr
 ·exact hr
 cases fl with
 |next=>exact hr
 |brk=>exact hr
 |cont=>exact hr
 |ret v =>
 obtain⟨rfl,rfl⟩:=hr;have hS:(s.heap.push (v9 w)).get? s.heap.objs.size=some (v9 w):=Heap.get?_push_size _ rfl;have hT:Shared.TypeIs { s with heap:=s.heap.push (v9 w) } (.ref s.heap.objs.size) "set":=⟨_,hS,rfl⟩
 have y7:=cs.init.lookup;have y8:=cs.init.bind (.ref s.heap.objs.size)
 repeat (any_goals (first|assumption|wp_step))
 refine codeAny_mono (codeAny_call_builtin (R:=wants (fun v s2=>v=.none/\∃h' tk,s2={ s with heap:=h',toks:=tk }/\q9 prog w h' s.heap.objs.size (j5 [] ns)/\(∀b o,s.heap.get? b=some o->h'.get? b=some o)/\s.toks<=tk) E) cs.init.plain F.entry_set_init (check_set_init_1 hT ?_)) ?_
 ·have hl1:aC3 (s.heap.push (v9 w)) l items:=hl.imp (·.push _) (·.push _);have hll:=hl.lt;refine a29 (s:={ s with heap:=s.heap.push (v9 w) }) (by simp[hh]) hS hl1 hi hb (Nat.ne_of_gt hll) fun h' tk h1 h2 h3=>wpAny_pure ⟨rfl,h',tk,rfl,h1,fun b o e=>h2 b o (Nat.ne_of_lt (Heap.lt_size e)) (Heap.get?_push_of_some _ e),h3⟩
 ·rintro(e|fl) s2 hr
  ·exact hr
  cases fl with
  |next=>exact hr
  |brk=>exact hr
  |cont=>exact hr
  |ret v =>
  obtain⟨rfl,h',tk,rfl,h1,h2,h3⟩:=hr
  repeat (any_goals (first|assumption|wp_step))
  exact h _ _ h1 h2 h3
end
end ST

namespace L2
open PySem PySem.Spec PyProof.Rows
noncomputable def ah5(X:Cx)(a:Addr)(ks:List Int):HO:=.ext fun h=>ST.q9 X.prog X.w h a ks
noncomputable def m7(ns:List Int):List Int:=(ST.j5 [] ns).mergeSort (fun a b=>decide (a<=b))
theorem aq9:∀{a b:List Int},a.Perm b->a.Pairwise (·<=·)->b.Pairwise (·<=·)->a=b
 |[],b,h,_,_=>by rw[List.nil_perm.mp h]
 |x::a,[],h,_,_=>absurd h.length_eq (by simp)
 |x::a,y::b,h,h1,h2=>by
  rw[List.pairwise_cons] at h1 h2;have e:x=y:=by
   have m1:=h.mem_iff (a:=y);have m2:=h.mem_iff (a:=x);simp only[List.mem_cons,true_or,true_iff,iff_true] at m1 m2;rcases m1 with z|z
   ·exact z.symm
   ·rcases m2 with z'|z'
    ·exact z'
    ·have:=h1.1 y z;have:=h2.1 x z';omega
  subst e;rw[aq9 (h.cons_inv) h1.2 h2.2]
theorem aJ4(ns:List Int):(m7 ns).Pairwise (·<=·):=by
 have:=List.pairwise_mergeSort (le:=fun a b:Int=>decide (a<=b)) (fun a b c h1 h2=>by simp at *;omega) (fun a b=>by simp;omega) (ST.j5 [] ns);exact this.imp fun h=>by simpa using h
theorem N8(ns:List Int):(m7 ns).Perm (ST.j5 [] ns):=List.mergeSort_perm _ _
theorem Q8(ns:List Int):(m7 ns).length<=ns.length:=by
 rw[(N8 ns).length_eq];have:=ST.K5 ns [];simpa using this
section
variable{X:Cx}{pins:List (Addr×Obj)}{σ:St}{H:Hp}{s:Shared}
theorem Inv.draw(I:Inv X pins σ H s)(d:Drawn):Inv X pins σ H { s with drawn:=d } :=
 I.step (g':=s.gens) (t':=s.toks) (d':=d) (ch:=[]) (by simp) (fun b o _ _ _ e _=>e) (fun b o _ _ _ e _=>⟨o.slots,e⟩) (fun b o _ _ e=>e) (fun b o _ e=>⟨o,e⟩) (fun _ _ e=>e) (fun _ _ _ e=>e) (fun b ps e=>⟨#[],by simp[e]⟩) (fun m hm=>hm) I.hok I.bare
theorem aF0{h:Heap}{H:Hp}{a:Addr}{ks:List Int}(x:ST.q9 X.prog X.w h a ks):l6 X.prog X.w H h a (ah5 X a ks) :=
 ⟨x,let ⟨o,_,_,_,e,_⟩:=x;⟨o,e⟩,fun h1 h2 y k=>y.at k⟩
theorem aj1:∀{ns:List Int} {vs:List Value},IntsAre vs ns->Vals (ns.map V.int) vs
 |_,_,.nil=>.nil
 |_,_,.cons n t r=>.cons ⟨t,rfl⟩ (aj1 r)
theorem K3:∀{ns:List Int} {vs:List Value},Vals (ns.map V.int) vs->IntsAre vs ns
 |[],_,h=>by cases h;exact .nil
 |n::ns,_,h=>by
  cases h with
  |cons r rr =>
   obtain⟨t,rfl⟩:=r;exact .cons n t (K3 rr)
theorem ad0(hc:X.calm=true):l9 X (.type "set") (fun xs H Q=>∃a ns,xs=[.ref a]/\SqL X.K H a (ns.map V.int)/\ns.length<60/\∀p,H p=none->Q (.ref p) (upd H p (ah5 X p (ST.j5 [] ns)))):=by
 intro pins s σ H xs us Q I r h;obtain⟨a,ns,rfl,hq,hl,q⟩:=h;cases r with
 |cons r rr =>
 cases rr;cases r;obtain⟨its,rv,p,hz⟩:=I.list hq;have hI:=K3 rv;have hlen:=ST.az8 hI;refine ST.a40 (ns:=ns) (I.ok.hd hc) (.inl p.isList) (by simpa using hI) (by rw[List.size_toArray,hlen];exact Nat.lt_of_lt_of_le (Nat.succ_lt_succ hl) (by decide)) fun h' tk hS hk _=>?_;exact⟨.ref _,_,I.laid (a:=s.heap.objs.size) (t':=tk) hk (Nat.le_refl _) (aF0 hS),rfl,q _ (I.hok.fresh (Nat.le_refl _))⟩
theorem S4(hc:X.calm=true):l9 X (.builtin "sorted") (fun xs H Q=>∃a ns,xs=[.ref a]/\H a=some (ah5 X a (ST.j5 [] ns))/\ns.length<60/\∀p,H p=none->Q (.ref p) (upd H p (.lst ((m7 ns).map V.int)))):=by
 intro pins s σ H xs us Q I r h;obtain⟨a,ns,rfl,ha,hl,q⟩:=h;cases r with
 |cons r rr =>
 cases rr;cases r;have hS:ST.q9 X.prog X.w s.heap a (ST.j5 [] ns):=(I.hok a _ ha).1;have hn:=ST.K5 ns [];simp only[List.length_nil] at hn;refine ST.aJ3 (I.ok.hd hc) hS (by omega) fun S vs ns' e h' d' tk' h1 h2 h3 h4 h5 h6 _=>?_;have e1:ns'=m7 ns:=aq9 (h2.trans (N8 ns).symm) h3 (aJ4 ns);subst e1;have hz:=Q8 ns;exact⟨.ref S,_,(I.laid (a:=S) (o:=.lst ((m7 ns).map V.int)) (t':=tk') h6 h5 ⟨by rw[List.length_map];exact Nat.le_trans hz (Nat.le_trans (Nat.le_of_lt hl) (by decide)),vs,e,aj1 h1,h4⟩).draw d',rfl,q S (I.hok.fresh h5)⟩
end
end L2

namespace ST
open PySem PyProof.Rows
theorem a41{prog:Program}{w:World}{A:Around}{E:Value->Shared->Prop}{s:Shared}{a:Addr}{ks:List Int}{k:Int}{tk:Tok}{Q:Value->Shared->Prop}(hS:q9 prog w s.heap a ks)(hr:ks.length+1<scanBound)(h:∀h',Heap.SameBut a s.heap h'->q9 prog w h' a (B6 ks k)->Q .none { s with heap:=h',toks:=s.toks+1 }):wpAny (model prog w) A (call (.builtin "set.add") [.ref a,.int k tk]) Q E s:=by
 have hT:s.TypeIs (.ref a) "set":=let ⟨o,_,_,_,e,x,_⟩:=hS;⟨o,e,x.1⟩
 refine wpAny_call_entry F.slot_set_add hT F.entry_set_add ?_ (F.args_set_add_2 _ _);have go:∀(Q':Fin->Shared->Prop),(∀h',Heap.SameBut a s.heap h'->q9 prog w h' a (B6 ks k)->wpAny (model prog w) A.in1 (ret .none) Q' E { s with heap:=h',toks:=s.toks+1 })->wpAny (model prog w) A.in1 (do let _ <- setAdd a (.int k tk);ret .none) Q' E s:=fun Q' q=>by
  unfold setAdd;refine wpAny_bind (wpAny_holding (wpAny_bind ((intKind prog w).pyHash (k:=k) (intKind_is _ _ _ _) ?_)));exact a82 (s:={ s with toks:=s.toks+1 }) hS hr fun h' b sb S2=>q h' sb S2
 unfold Builtin.«set.add» Builtin.Frozenset.oneOther;simp only[List.isEmpty_nil,bind_assoc];unfold Builtin.Frozenset.addrOf;refine wpAny_bind (wpAny_pure ?_)
 try dsimp only
 refine wpAny_bind (wpAny_pure ?_)
 try dsimp only
 exact go _ fun h' sb S2=>wpAny_pure ⟨_,rfl,h h' sb S2⟩
end ST
namespace L2
open PySem PySem.Spec PyProof.Rows
section
variable{prog:Program}{w:World}{A:Around}{R:Result->Shared->Prop}{s:Shared}
theorem aI7(elt target iter:Expr)(ifs:List Expr)(scope:Scope)(pos:Pos)(it acc:Value)(env:Env):compTurn (.SetComp elt [⟨target,iter,ifs,0⟩] scope pos) 0 it acc env=(do
      standAt iter.pos
      match <- pyNext it with
      |none=>pure (.done .next)
      |some v =>
        letOwnedTupleGo target it v
        assign target env v
        let mut ok:=true
        for c in ifs do if ok then ok <- isTrue c env (eval c env)
        if ok then(do let x <- eval elt env;standAt elt.pos;let _ <- call (.builtin "set.add") [acc,x])
        again (.compLoop (.SetComp elt [⟨target,iter,ifs,0⟩] scope pos) 0 it acc env)):=by rfl
theorem at3{elt target iter:Expr}{ifs:List Expr}{scope:Scope}{pos:Pos}{it acc:Value}{env:Env}(I:Nat->Shared->Prop)(turn:∀ n s,I n s->wpAny (model prog w) A (pyNext it) (fun r s₁=>match r with
   |none=>R (.ok .next) s₁
   | some v=>wpAny (model prog w) A (letOwnedTupleGo target it v) (fun _ s₁=>wpAny (model prog w) A (assign target env v) (fun _ s₂ =>
     wpAny (model prog w) A (forIn ifs true fun c r=>if r=true then do let ok <- isTrue c env (eval c env);pure (ForInStep.yield ok) else pure (ForInStep.yield r)) (fun ok s₃ =>
      if ok=true then wpAny (model prog w) A (eval elt env) (fun x s₄ =>
       wpAny (model prog w) A (call (.builtin "set.add") [acc,x]) (fun _ s₅=>∃ m,m < n/\I m s₅) (fun _ _=>False) s₄) (fun _ _=>False) s₃
      else ∃ m,m < n/\I m s₃) (fun _ _=>False) s₂) (fun _ _=>False) s₁) (fun _ _=>False) s₁) (fun _ _=>False) s)(n:Nat)(h:I n s) :
  codeAny (model prog w) A (.compLoop (.SetComp elt [⟨target,iter,ifs,0⟩] scope pos) 0 it acc env) R s:=by
 refine codeAny_loop rfl I (fun n s hI=>?_) n h;show wpAny _ A ((compTurn (.SetComp elt [⟨target,iter,ifs,0⟩] scope pos) 0 it acc env).onRaise (fun x=>do noteFrame x env;theTreesLotGoes x)) _ _ s;refine wpAny_noted ?_;rw[aI7];refine wpAny_bind (wpAny_standAt (wpAny_bind (wpAny_mono (turn n s hI) (fun r s₁ h₁=>?_) fun _ _ h'=>h'.elim)));cases r with
 |none=>exact wpAny_pure h₁
 |some v =>
  refine wpAny_bind (wpAny_mono h₁ (fun _ s₁ h₁=>?_) fun _ _ h'=>h'.elim);refine wpAny_bind (wpAny_mono h₁ (fun _ s₂ h₂=>wpAny_bind (wpAny_mono h₂ (fun ok s₃ h₃=>?_) fun _ _ h'=>h'.elim)) fun _ _ h'=>h'.elim);cases ok with
  |false=>exact wpAny_pure ⟨rfl,h₃⟩
  |true =>
   exact wpAny_bind (wpAny_bind (wpAny_mono h₃ (fun x s₄ h₄=>wpAny_bind (wpAny_standAt (wpAny_bind (wpAny_mono h₄ (fun _ s₅ h₅=>wpAny_pure (wpAny_pure ⟨rfl,h₅⟩)) fun _ _ h'=>h'.elim)))) fun _ _ h'=>h'.elim))
theorem aJ8{elt target iter:Expr}{ifs:List Expr}{scope:Scope}{pos:Pos}{it acc:Value}{env:Env}(h0:codeAny (model prog w) A (.compLoop (.SetComp elt [⟨target,iter,ifs,0⟩] scope pos) 0 it acc env) R s)(h:wpAny (model prog w) A (pyIter it) (fun it' s'=>codeAny (model prog w) A (.compLoop (.SetComp elt [⟨target,iter,ifs,0⟩] scope pos) 0 it' acc env) R s') (notedBy (model prog w) A env fun x s'=>R (.error x) s') s) :
  codeAny (model prog w) A (.compStart (.SetComp elt [⟨target,iter,ifs,0⟩] scope pos) 0 it acc env) R s:=by
 refine codeAny_of_tree (?_:wpAny _ _ ((compStart (.SetComp elt [⟨target,iter,ifs,0⟩] scope pos) 0 it acc env).onRaise (fun x=>do noteFrame x env;standAt theWindowsPlace)) _ _ s);refine wpAny_notedAt ?_;unfold compStart;refine wpAny_bind (wpAny_askSetting (wpAny_ite ?_));split
 ·first
   |exact wpAny_pure ⟨rfl,h0⟩
   |exact wpAny_bind (wpAny_pure (wpAny_pure ⟨rfl,h0⟩))
 ·refine wpAny_bind (wpAny_rule ?_);exact wpAny_bind (wpAny_standAt (wpAny_bind (wpAny_mono h (fun it' s' h'=>wpAny_pure ⟨rfl,h'⟩) fun _ _ x=>x)))
end
noncomputable def aC2(o:Obj):Prop:=∀v,o.data≠.cell v
noncomputable def bi2(X:Cx)(wi:TI)(d5:List Nat)(n:Nat)(g:TG)(tc:TT)(te:TE):TE:=fun σ H Q=>wi σ H fun J H1=>∃W:Nat->Nat->List Int->St->Hp->Prop,(∃m,W 0 m [] (A9 σ d5 n) H1)/\∀i m ys σ H,W i m ys σ H ->
 (J.stop i H/\∀p,H p=none->Q (.ref p) (upd H p (ah5 X p (ST.j5 [] ys)))) \/
 (J.go i H/\ys.length < 60/\∀ x H',J.yld i H x H'->g x σ H' fun σ2 H2=>tc σ2 H2 fun b H3 =>
  if b=true then te σ2 H3 fun y H4=>∃ k,y=.int k/\∃ m',m' < m/\W (i + 1) m' (ys ++ [k]) σ2 H4 else ∃ m',m' < m/\W (i + 1) m' ys σ2 H3)
section
variable{X:Cx}{pins:List (Addr×Obj)}{σ:St}{H:Hp}{s:Shared}
theorem Inv.bh8{D:Addr}{φ:Heap->Prop}(I:Inv X pins σ H s)(f:B1 X pins H D)(hs:X.s₀.heap.objs.size<=D)(ho:l6 X.prog X.w (upd H D (.ext φ)) s.heap D (.ext φ)):Inv X pins σ (upd H D (.ext φ)) s:=by
 obtain⟨f0,f1,f2,f3,f4,f5⟩:=f;have hne:∀b o,X.s₀.heap.get? b=some o->b≠D:=fun b o e z=>absurd (Heap.lt_size e) (by rw[z];exact Nat.not_lt.mpr hs);have tup:∀b u,H b=some u->upd H D (.ext φ) b=some u:=fun b u e=>by rw[f7 (j9 e f0)];exact e
 refine⟨I.ok,I.os,I.bare,⟨?_,?_,?_,I.base.there,?_,?_,?_⟩,I.loc,I.cell,?_,?_,?_,?_,I.len⟩
 ·exact fun b o e n1 n2 n3=>I.base.keep b o e n1 n2 n3
 ·exact fun b o e n1 n2 n3=>I.base.slot b o e n1 n2 n3
 ·exact fun b o e n1 n2=>by rw[f7 (hne b o e)];exact I.base.free b o e n1 n2
 ·exact fun b xs e=>tup _ _ (I.base.tups b xs e)
 ·exact fun b o u e=>tup _ _ (I.base.frzs b o u e)
 ·exact fun b ps e=>by
   obtain⟨more,q⟩:=I.base.tbls b ps e;exact⟨more,tup _ _ q⟩
 ·rw[f7 f1.symm];exact I.free
 ·exact fun x c e=>by rw[f7 (f4 x c e)];exact I.freeC x c e
 ·intro p hp;obtain⟨p1,p2,p3⟩:=I.pin p hp;exact⟨p1,by rw[f7 (f5 p hp)];exact p2,p3⟩
 ·intro a o e;by_cases ha:a=D
  ·subst ha;rw[o6] at e;cases e;exact ho
  ·rw[f7 ha] at e;have q:=I.hok a o e;refine q.P2 (fun b u _ h=>h) (fun b hb=>tup _ _ hb) (fun b xs hb=>tup _ _ hb)
theorem aC7{elt tg iter:Expr}{ifs:List Expr}{scope:Scope}{N':List Str}{d5:List Nat}{cl:List (Str×Addr)}{pos:Pos}{it:Addr}{fp:List Addr}{tn:Nat->Heap->Prop}{J:It}{g:TG}{tc:TT}{te:TE}{RR:Value->Addr->Result->Shared->Prop}{E:Value->Shared->Prop}{W:Nat->Nat->List Int->St->Hp->Prop}{m0:Nat}{Q:VK}(S:CompScope X scope N' d5 cl)(hc:X.calm=true)(hg:∀C s H,PG (d7 X pins scope N' cl C s H fp) tg g)(ht:∀C s H,PTs (d7 X pins scope N' cl C s H fp) ifs tc)(he:∀C s H,PE (d7 X pins scope N' cl C s H fp) elt te)(I:Inv X pins σ H s)(T:Turn X.prog X.w X.K tg J fp it tn)(st:tn 0 s.heap)(hf:∀b∈fp,B1 X pins H b)(w0:W 0 m0 [] (A9 σ d5 N'.length) H)(turn:∀ i m ys σ H,W i m ys σ H->(J.stop i H/\∀ p,H p=none->Q (.ref p) (upd H p (ah5 X p (ST.j5 [] ys)))) \/
   (J.go i H/\ys.length < 60/\∀ x H',J.yld i H x H'->g x σ H' fun σ2 H2=>tc σ2 H2 fun b H3 =>
    if b=true then te σ2 H3 fun y H4=>∃ k,y=.int k/\∃ m',m' < m/\W (i + 1) m' (ys ++ [k]) σ2 H4 else ∃ m',m' < m/\W (i + 1) m' ys σ2 H3))(hRR:∀D C s' H' m,Inv X pins σ H' s'->Q (.ref D) H'->s'.heap.Ns C m->H' C=none->s.heap.objs.size<=C->RR (.ref D) C (.ok .next) s') :
  wpAny (model X.prog X.w) X.A (newSet (.type "set")) (fun acc s₃=>wpAny (model X.prog X.w) X.A (newFunctionEnv scope X.env.globals cl [] X.env.qual none .none (some X.env)) (fun cenv s₄ =>
   codeAny (model X.prog X.w) X.A (.compStart (.SetComp elt [⟨tg,iter,ifs,0⟩] scope pos) 0 (.ref it) acc { cenv with scope:=relabel scope X.env }) (RR acc cenv.locals) s₄) E s₃) E s:=by
 refine ST.aG2 (aa4 fun h₁ hns₁ hsb₁ hck=>?_);dsimp only at hns₁ hsb₁ hck ⊢;generalize hH2:s.heap.push (ST.v9 X.w)=H2 at hns₁ hsb₁ hck ⊢;generalize eD:s.heap.objs.size=D at *;have hC:H2.objs.size=D+1:=by rw[<- hH2,Heap.size_push,eD]
 generalize eC:H2.objs.size=C at *;have hDC:D≠C:=by omega
 have lt:∀b o,s.heap.get? b=some o->b<D:=fun b o e=>by rw[<- eD];exact Heap.lt_size e
 have leC:D<=C:=by omega
 have neC:∀b o,s.heap.get? b=some o->b≠C:=fun b o e=>Nat.ne_of_lt (Nat.lt_of_lt_of_le (lt b o e) leC);have neD:∀b o,s.heap.get? b=some o->b≠D:=fun b o e=>Nat.ne_of_lt (lt b o e);have old:∀b o,s.heap.get? b=some o->h₁.get? b=some o:=fun b o e=>hsb₁ b o (hH2▸Heap.get?_push_of_some _ e);have hacc:h₁.get? D=some (ST.v9 X.w):=hsb₁ _ _ (by rw[<- hH2,<- eD];exact Heap.get?_push_size _ rfl);have hobj:∀b∈fp,∃o,s.heap.get? b=some o:=fun b hb=>by
  obtain⟨o,e,_⟩:=T.obj _ _ st b hb;exact⟨o,e⟩
 have hDf:D∉fp:=fun hm=>by
  obtain⟨o,e⟩:=hobj D hm;exact neD D o e rfl
 have X1:Inv (d7 X pins scope N' cl C s H fp) [] (A9 σ d5 N'.length) H { s with heap:=h₁ } :=
  I.al5 S hc hf hobj (by rw[eD];omega) ⟨_,hns₁⟩ old hck
 have st1:tn 0 h₁:=T.keep _ _ _ st fun b _ o e=>old b o e;have fpc:∀{H':Hp},(∀b∈fp,H' b=none)->∀b∈fp,B1 (d7 X pins scope N' cl C s H fp) [] H' b:=fun hn b hb=>by
  obtain⟨f0,f1,f2,f3,f4,f5⟩:=hf b hb;obtain⟨o,e⟩:=hobj b hb;refine⟨hn b hb,?_,?_,.inl hb,fun x c q=>(Z6 hck q).elim (fun l z=>absurd (Nat.lt_trans (z▸l) (Nat.lt_of_lt_of_le (lt b o e) leC)) (Nat.lt_irrefl _)) fun q=>f4 x c (S.cin x c q),fun p hp=>?_⟩
  ·exact neC b o e
  ·exact fun z=>by
    rcases List.mem_cons.mp (I.J9 b z) with z|z
    ·exact f1 z
    ·exact f2 z
  ·have hp':p∈X.pn++pins:=by simpa[d7] using hp
   exact f5 p hp'
 have fD:∀{H':Hp},H' D=none->B1 (d7 X pins scope N' cl C s H fp) [] H' D:=fun hn=>by
  refine⟨hn,hDC,fun z=>?_,.inr (by show s.heap.objs.size<=D;omega),fun x c q=>?_,fun p hp=>?_⟩
  ·exact absurd (I.ay3 (a:=D) (by omega)) fun hno=>by
    rcases List.mem_cons.mp (I.J9 D z) with z|z
    ·exact absurd I.lt (by rw[<- z,eD];exact Nat.lt_irrefl _)
    ·exact hno z
  ·rcases Z6 hck q with l|q
   ·exact fun z=>absurd (Nat.lt_of_lt_of_le (z▸l) leC) (Nat.lt_irrefl _)
   ·obtain⟨v,o,e,_⟩:=I.cell x c (S.cin x c q);exact neD c o e
  ·have hp':p∈X.pn++pins:=by simpa[d7] using hp
   exact neD _ _ (I.pin p hp').1
 have pinD:∀{H':Hp} {s':Shared} {σ':St} {oD:Obj},aC2 oD->Inv (d7 X pins scope N' cl C s H fp) [] σ' H' s'->H' D=none->s'.heap.get? D=some oD ->
   Inv (d7 X pins scope N' cl C s H fp) [(D,oD)] σ' H' s':=fun{H' s' σ' oD} hcl J0 hn e=>J0.J1 fun p hp=>by
  have z:p=(D,oD):=by simpa using hp
  subst z;obtain⟨f0,f1,f2,_⟩:=fD hn;exact⟨e,f0,f1,f2,hcl⟩
 have fpD:∀{H':Hp} {oD:Obj},(∀b∈fp,H' b=none)->∀b∈fp,B1 (d7 X pins scope N' cl C s H fp) [(D,oD)] H' b:=fun{H' oD} hn b hb=>by
  obtain⟨f0,f1,f2,f3,f4,f5⟩:=fpc hn b hb;refine⟨f0,f1,f2,f3,f4,fun p hp=>?_⟩;have hp':p∈(d7 X pins scope N' cl C s H fp).pn\/p=(D,oD):=by simpa using hp
  rcases hp' with z|z
  ·exact f5 p (List.mem_append_left _ z)
  ·subst z;exact fun z=>hDf (by rw[show D=b from z];exact hb)
 have loop:∀s₃:Shared,s₃={ s with heap:=h₁ } ->
   codeAny (model X.prog X.w) X.A (.compLoop (.SetComp elt [⟨tg,iter,ifs,0⟩] scope pos) 0 (.ref it) (.ref D) (compEnvC scope (G0 scope cl C) C X.env)) (RR (.ref D) C) s₃:=by
  rintro s₃ rfl;refine at3 (fun n s'=>∃ (i:Nat) (ys:List Int) (σ':St) (H':Hp) (oD:Obj),Inv (d7 X pins scope N' cl C s H fp) [] σ' H' s'/\tn i s'.heap/\(∀ b ∈ fp,H' b=none)/\H' D=none/\ys.length <= 60/\aC2 oD /\
   s'.heap.get? D=some oD/\ST.q9 X.prog X.w s'.heap D (ST.j5 [] ys)/\W i n ys σ' H') ?_ m0 ⟨0,[],_,H,ST.v9 X.w,X1,st1,fun b hb=>(hf b hb).1,I.hok.fresh (by omega),Nat.zero_le _,(fun v (z:Data.set _ _ _=_)=>by cases z),hacc,ST.as1 hacc,w0⟩
  rintro n s3 ⟨i,ys,σ3,H3,oD,I3,st3,fr3,d3,z3,c3,o3,S3,w3⟩;have I3':=pinD c3 I3 d3 o3;rcases turn i n ys σ3 H3 w3 with⟨stop,q⟩|⟨go,hz,step⟩
  ·refine thn (T.done (d7 X pins scope N' cl C s H fp) rfl rfl rfl rfl i _ s3 _ H3 _ I3' (fpD fr3) st3 stop) fun r s4 ⟨hr,I4⟩=>?_;subst hr;have o4:=(I4.pin (D,oD) (by simp)).1;have J4:Inv X pins σ H3 s4:=I.aA8 hf I4;have fD4:B1 X pins H3 D:=by
    refine⟨d3,Nat.ne_of_gt (by rw[<- eD];exact I.lt),I.ay3 (by omega),.inr (by have:=I.sz;omega),fun x c q=>?_,fun p hp=>?_⟩
    ·obtain⟨v,o,e,_⟩:=I.cell x c q;exact neD c o e
    ·exact neD _ _ (I.pin p hp).1
   obtain⟨mC,hmC,_⟩:=I4.loc;exact hRR D C s4 (upd H3 D (ah5 X D (ST.j5 [] ys))) mC (J4.bh8 fD4 (by have:=I.sz;omega) (aF0 (S3.at fun o e=>by rw[o3] at e;cases e;exact o4))) (q D d3) hmC (by rw[f7 hDC.symm];exact I4.free) (by omega)
  ·refine thn (T.item (d7 X pins scope N' cl C s H fp) rfl rfl rfl rfl i _ s3 _ H3 _ I3' (fpD fr3) st3 go) fun r s4 ⟨u,hr,h4⟩=>?_;subst hr;refine thn h4 fun _ s5 ⟨x,H5,I5,r5,y5,st5,fr5⟩=>?_;have o5:=I5.pin (D,oD) (by simp);have I5':=I5.pinned (fpD fr5) (T.obj _ _ st5);refine thn (hg C s H _ s5 _ H5 x u _ I5' r5 (step x H5 y5)) fun _ s6 ⟨σ6,H6,I6,q6⟩=>?_;refine thn (ht C s H _ s6 σ6 H6 _ I6 q6) fun ok s7 ⟨H7,I7,q7⟩=>?_;have back:∀{σ8:St} {H8:Hp} {s8:Shared},Inv (d7 X pins scope N' cl C s H fp) ([(D,oD)]++U6 fp s5.heap) σ8 H8 s8->(∀b∈fp,H8 b=none)/\tn (i+1) s8.heap/\H8 D=none/\s8.heap.get? D=some oD :=
    fun{σ8 H8 s8} I8=>by
     have pf:∀b∈fp,∀o,s5.heap.get? b=some o->s8.heap.get? b=some o/\H8 b=none:=fun b hb o e=>by
      have:=I8.pin (b,o) (List.mem_append_right _ (List.mem_append_right _ (O0 hb e)));exact⟨this.1,this.2.1⟩
     have pd:=I8.pin (D,oD) (by simp);refine⟨fun b hb=>?_,T.keep _ _ _ st5 fun b hb o e=>(pf b hb o e).1,pd.2.1,pd.1⟩;obtain⟨o,e,_⟩:=T.obj _ _ st5 b hb;exact(pf b hb o e).2
   cases ok with
   |false =>
    obtain⟨m',hm,w7⟩:=q7;obtain⟨b1,b2,b3,b4⟩:=back I7;exact⟨m',hm,i+1,ys,σ6,H7,oD,I7.J1 fun p hp=>absurd hp (by simp),b2,b1,b3,z3,c3,b4,S3.at fun o e=>by rw[o3] at e;cases e;exact b4,w7⟩
   |true =>
    refine thn (he C s H _ s7 σ6 H7 _ I7 q7) fun xv s8 ⟨y,H8,I8,r8,kk,ey,m',hm,w8⟩=>?_;subst ey;obtain⟨tk,rfl⟩:=r8;obtain⟨b1,b2,b3,b4⟩:=back I8;have S8:ST.q9 X.prog X.w s8.heap D (ST.j5 [] ys):=S3.at fun o e=>by rw[o3] at e;cases e;exact b4
    have len8:=ST.K5 ys [];simp only[List.length_nil] at len8;refine ST.a41 S8 (Nat.lt_of_lt_of_le (by omega:_<62) (by decide)) fun h' sb S9=>?_;have e9:ST.B6 (ST.j5 [] ys) kk=ST.j5 [] (ys++[kk]):=by unfold ST.j5;rw[List.foldl_append];rfl
    rw[e9] at S9;obtain⟨o9,es9,ep9,t9,g9,x9,d9,r9⟩:=id S9;have c9:aC2 o9:=fun v z=>by rw[d9] at z;cases z
    have I8':Inv (d7 X pins scope N' cl C s H fp) [] σ6 H8 s8:=I8.J1 fun p hp=>absurd hp (by simp);obtain⟨f0,f1,f2,f3,f4,f5⟩:=fD (H':=H8) b3;have kp:∀b o,b≠D->s8.heap.get? b=some o->h'.get? b=some o:=fun b' u hb hu=>by rw[sb.2 b' hb];exact hu
    refine⟨m',hm,i+1,ys++[kk],σ6,H8,o9,I8'.turned (it:=D) (t':=s8.toks+1) kp f0 f1 f3 f4 f5,T.keep _ _ _ b2 fun b hb o e=>kp b o (fun z=>hDf (by rw[<- z];exact hb)) e,b1,b3,?_,c9,g9,S9,w8⟩;rw[List.length_append,List.length_singleton];omega
 exact aJ8 (loop _ rfl) (T.self _ 0 _ _ _ st1 (loop _ rfl))
theorem a08{elt tg iter:Expr}{ifs:List Expr}{scope:Scope}{N':List Str}{d5:List Nat}{cl:List (Str×Addr)}{pos:Pos}{wi:TI}{g:TG}{tc:TT}{te:TE}(S:CompScope X scope N' d5 cl)(hc:X.calm=true)(hi:PI X tg iter wi)(hg:∀pins C s H fp,PG (d7 X pins scope N' cl C s H fp) tg g)(ht:∀pins C s H fp,PTs (d7 X pins scope N' cl C s H fp) ifs tc)(he:∀pins C s H fp,PE (d7 X pins scope N' cl C s H fp) elt te)(hs:∀x,foldedSetIterable iter X.env x=pure x):PE X (.SetComp elt [⟨tg,iter,ifs,0⟩] scope pos) (bi2 X wi d5 N'.length g tc te):=by
 intro pins s σ H Q I h;rw[arm_eval_SetComp];refine wpAny_comprehension_free (use:=none) rfl hs S.clos S.kind S.names (thn (hi pins s σ H _ I h) fun xv s₁ h₁=>thn h₁ fun itv s₂ h₂=>?_);obtain⟨it,fp,tn,J,H2,e,I2,T,st2,f2,W,⟨m0,w0⟩,turn⟩:=h₂;subst e;refine aC7 (RR:=fun acc C=>compPost (model X.prog X.w) X.A X.xe none (EP X pins σ Q) acc C) S hc (fun C s H=>hg pins C s H fp) (fun C s H=>ht pins C s H fp) (fun C s H=>he pins C s H fp) I2 T st2 f2 w0 turn ?_;intro D C s' H' m I' q hn hC hsz;exact⟨m,hn,fun h' sb=>⟨.ref D,H',I'.aL6 hsz I2 hC sb,rfl,q⟩⟩
end
end L2

namespace HT
open PySem PyProof.Rows Builtin
theorem ah8:fillsNumberSlot (.type "tuple") "mul"=pure false :=
 PySem.fillsNumberSlot_seq (id:="tuple.__mul__") (r:=some (.builtin "tuple.__rmul__")) F.slot_tuple_mul.lookup (by decide +kernel) F.slot_tuple_rmul.lookup (by decide +kernel)
theorem ax9:seqRepeat? (.type "tuple")=pure (some (.builtin "tuple.__mul__")):=by
 unfold seqRepeat?;rw[PySem.seqSlot_of (T:="tuple") (name:="__mul__") (id:="tuple.__mul__") F.slot_tuple_mul.lookup (by decide +kernel),PySem.seqSlot_of (T:="tuple") (name:="__rmul__") (id:="tuple.__rmul__") F.slot_tuple_rmul.lookup (by decide +kernel)]
 rfl
theorem ao4(a:Int)(t:Tok)(l:Addr)(items:Array Value)(n:Nat)(dd:Option Addr)(sl:Array (Option Value)) :
  Meets (Builtin.«int.__rmul__» ⟨[.int a t,.ref l],[]⟩) (fun _ R s=>s.heap.get? l=some { cls:=.type "tuple",dict:=dd,data:=.seq items n,slots:=sl }/\R (.ok (.ret Value.notImplemented)) s) :=
 .of_wp fun prog w A R s h=>by obtain⟨hp,g,d,tk,os⟩:=s;obtain⟨hl,h⟩:=h;wp_walk;exact⟨_,rfl,h⟩
theorem an1(t:Value)(c:Value):Builtin.«tuple.__mul__» ⟨[t,c],[]⟩=(do
 let n <- asIndex c
 if n < -(2 ^ 63)||n>=2 ^ 63 then
  rule "tuple.repeat.overflow";raiseError "OverflowError" s!"cannot fit '{<- typeNameOf c}' into an index-sized integer"
 let xs <- Builtin.Tuple.tupleItemsOf t
 if xs.isEmpty||n==1 then
  if <- Builtin.Tuple.tupleIsExact t then rule "tuple.repeat.same-object";return <- ret t
 if n<=0||xs.isEmpty then return <- ret (<- Builtin.Tuple.tupleExact #[])
 if xs.size*n>(2 ^ 63-1) / 8 then rule "tuple.repeat.no-memory";raiseNew (<- newExc (.type "MemoryError") [])
 if Builtin.Tuple.tupleTooMany (xs.size*n) then unsupported "tuple.__mul__:memory"
 ret (<- Builtin.Tuple.tupleExact ((List.replicate n.toNat xs).foldl (· ++ ·) #[]))):=rfl
section
variable{prog:Program}{w:World}{A:Around}{E:Value->Shared->Prop}{s:Shared}
theorem aM4(its:List Value):∀(m:Nat) (acc:Array Value),List.foldl (fun x1 x2=>x1++x2) acc (List.replicate m its.toArray)=acc++(List.replicate m its).flatten.toArray:=by
 intro m
 induction m with
 |zero=>intro acc;simp
 |succ m ih=>intro acc;rw[List.replicate_succ,List.foldl_cons,ih,List.replicate_succ,List.flatten_cons];simp
theorem aO7{a:Addr}{its:List Value}{n:Int}{t:Tok}{Q:Value->Shared->Prop}(ht:IsTup s.heap a its.toArray)(hne:its≠[])(h1:1<=n)(h2:n<2 ^ 62)(hz:its.length*n.toNat<=sizeLine)(q1:n=1->Q (.ref a) s)(q2:Q (.ref s.heap.objs.size) { s with heap:=s.heap.push { cls:=.type "tuple",data:=.seq (List.replicate n.toNat its).flatten.toArray } }):wpAny (model prog w) A (binaryOp .Mult (.ref a) (.int n t)) Q E s:=by
 obtain⟨o,ho,hc,k,hd⟩:=id ht;obtain⟨cls,dict,data,slots⟩:=o;dsimp only at hc hd;subst hc hd;have he:its.toArray.isEmpty=false:=by cases its<;>first|exact absurd rfl hne|rfl
 refine wpAny_binaryOp_repeat_ref (T:="tuple") (U:="int") (by decide) ht.typeIs (fun s'=>typeIs_int s' n t) ah8 F.fills_int_mul F.slot_int_rmul ax9 F.slot_int_index.lookup
  (call_meets F.slot_int_rmul (typeIs_int s n t) F.entry_int_rmul (F.args_int_rmul_2 _ _) (ao4 n t a its.toArray k dict slots) ⟨ho,rfl,ht.typeIs,?_⟩)
 refine wpAny_call_entry F.slot_tuple_mul ht.typeIs F.entry_tuple_mul ?_ (F.args_tuple_mul_2 _ _);rw[an1];refine wpAny_bind (wpAny_of_eq (show asIndex (.int n t)=pure n from rfl) ?_);dsimp only;rw[if_neg (by simp only[Bool.or_eq_true,decide_eq_true_eq];omega)];refine wpAny_bind (tupleItemsOf_ ht ?_);have big:¬((its.toArray.size:Int)*n>(2 ^ 63-1) / 8):=by
  rw[List.size_toArray];have:((its.length*n.toNat:Nat):Int)=(its.length:Int)*n:=by rw[Int.natCast_mul];rw[show((n.toNat:Nat):Int)=n by omega]
  rw[<- this];have hs:sizeLine<2 ^ 59:=by decide
  omega
 have many:¬(Builtin.Tuple.tupleTooMany ((its.toArray.size:Int)*n)=true):=by
  unfold Builtin.Tuple.tupleTooMany;rw[List.size_toArray,decide_eq_true_iff];have:((its.length*n.toNat:Nat):Int)=(its.length:Int)*n:=by rw[Int.natCast_mul];rw[show((n.toNat:Nat):Int)=n by omega]
  rw[<- this];omega
 have hsz:sizeOk (.seq (List.replicate n.toNat its).flatten.toArray):=by
  show(List.replicate n.toNat its).flatten.toArray.size<=sizeLine;simp only[List.size_toArray,List.length_flatten,List.map_replicate,List.sum_replicate_nat];rw[Nat.mul_comm];exact hz
 by_cases e1:n=1
 ·subst e1;rw[if_pos (by rw[he];rfl)];unfold Builtin.Tuple.tupleIsExact;refine wpAny_bind (wpAny_bind (wpAny_typeOf ht.typeIs (wpAny_pure ?_)));rw[if_pos (by decide)]
  first
   |exact wpAny_bind (wpAny_rule (wpAny_bind (wpAny_pure ⟨_,rfl,wpAny_pure (q1 rfl)⟩)))
   |exact wpAny_bind (wpAny_rule (wpAny_pure ⟨_,rfl,(q1 rfl)⟩))
   |exact wpAny_bind (wpAny_rule (wpAny_pure ⟨_,rfl,wpAny_pure (q1 rfl)⟩))
 ·rw[if_neg (by rw[he];simpa using e1)];rw[if_neg (by rw[he];simp;omega),if_neg big,if_neg many];rw[show List.foldl (fun x1 x2=>x1++x2) #[] (List.replicate n.toNat its.toArray)=(List.replicate n.toNat its).flatten.toArray by rw[aM4];simp]
  first
   |exact wpAny_bind (m:=Builtin.Tuple.tupleExact _) (wpAny_newObj_type (wpAny_pure ⟨_,rfl,q2⟩) hsz)
   |exact wpAny_bind (m:=Builtin.Tuple.tupleExact _) (wpAny_newObj_type (wpAny_pure ⟨_,rfl,wpAny_pure q2⟩) hsz)
end
end HT
namespace L2
open PySem PySem.Spec PyProof.Rows
section
variable{X:Cx}
noncomputable def bx5(K:PySem.W.Frag):R2:=fun x y H Q=>∃(a:Addr) (n:Int) (xs:List V),x=.ref a/\y=.int n/\SqT K H a xs/\xs≠[]/\1<=n/\n<2 ^ 62/\xs.length*n.toNat<=sizeLine /\
 (n=1->Q (.ref a) H)/\(∀p,H p=none->Q (.ref p) (upd H p (.tup (List.replicate n.toNat xs).flatten)))
theorem bd6:OpR X (binaryOp .Mult) (bx5 X.K):=by
 intro pins s σ H x y v u Q I rx ry h;obtain⟨a,n,xs,rfl,rfl,ha,hne,h1,h2,hz,q1,q2⟩:=h;cases rx;obtain⟨tk,rfl⟩:=ry;obtain⟨its,r,p,_⟩:=I.tuple ha;refine HT.aO7 p (fun z=>hne (r.O6.mp z)) h1 h2 (by rw[<- r.length];exact hz) (fun e=>⟨.ref a,H,I,rfl,q1 e⟩) ?_;refine⟨.ref s.heap.objs.size,_,I.laid (t':=s.toks) (o:=.tup (List.replicate n.toNat xs).flatten) (fun b ob q=>Heap.get?_push_of_some _ q) (Nat.le_refl _) ?_,rfl,q2 _ (I.hok.fresh (Nat.le_refl _))⟩;exact⟨by rw[len_rep,Nat.mul_comm];exact hz,_,r.rep _,F7.new _ _⟩
noncomputable def be8(sep:Str)(ys:List Str):Nat:=ys.foldl (fun n y=>n+y.length+sep.length) 0
end
end L2

namespace HT
open PySem PyProof.Rows Builtin PySem.SeqAt
section
variable{prog:Program}{w:World}{A:Around}{E:Value->Shared->Prop}{s:Shared}
theorem aS7:typeLookup (.type "tuple") (dunderI "add")=pure none:=by
 show typeLookup (.type "tuple") "__iadd__"=pure none;rw[typeLookup_type,builtinLookup_eq_fast];kernel_rfl
theorem a31{t b:Addr}{vs ws:List Value}{Q:Value->Shared->Prop}(ht:IsTup s.heap t vs.toArray)(hb:IsTup s.heap b ws.toArray)(h0:vs=[]->Q (.ref b) s)(h1:ws=[]->Q (.ref t) s)(h2:Q (.ref s.heap.objs.size) { s with heap:=s.heap.push { cls:=.type "tuple",data:=.seq (vs++ws).toArray } })(hsz:vs.length+ws.length<=sizeLine):wpAny (model prog w) A (inplaceOp .Add (.ref t) (.ref b)) Q E s:=by
 obtain⟨⟨cls,dd,data,sl⟩,ho,hc,n,hd⟩:=id ht;obtain⟨⟨cls2,dd2,data2,sl2⟩,ho2,hc2,n2,hd2⟩:=id hb;simp only at hc hd hc2 hd2;subst hc hd hc2 hd2;have e:vs.toArray++ws.toArray=(vs++ws).toArray:=by simp
 refine wpAny_inplaceOp_concat (T:="tuple") ⟨_,ho,rfl⟩ ⟨_,ho2,rfl⟩ aS7 noFill_tuple_add seq_tuple_add ?_;by_cases hv:vs=[]
 ·subst hv;exact call_meets F.slot_tuple_add ⟨_,ho,rfl⟩ F.entry_tuple_add (F.args_tuple_add_2 _ _) (tuple_addW0 t b #[] ws.toArray n n2 dd dd2 sl sl2 rfl) ⟨ho,ho2,h0 rfl⟩
 by_cases hw:ws=[]
 ·exact call_meets F.slot_tuple_add ⟨_,ho,rfl⟩ F.entry_tuple_add (F.args_tuple_add_2 _ _) (tuple_addW1 t b vs.toArray ws.toArray n n2 dd dd2 sl sl2 (by simpa using hv) (by simp[hw])) ⟨ho,ho2,h1 hw⟩
 ·refine call_meets F.slot_tuple_add ⟨_,ho,rfl⟩ F.entry_tuple_add (F.args_tuple_add_2 _ _) (tuple_addW2 t b vs.toArray ws.toArray n n2 dd dd2 sl sl2 (by simpa using hv) (by simpa using hw) (by rw[List.size_toArray,List.size_toArray];exact hsz)) ⟨ho,ho2,?_⟩;rw[e];exact h2
end
end HT
namespace L2
open PySem PySem.Spec PyProof.Rows
section
variable{X:Cx}
noncomputable def a47(K:PySem.W.Frag)(H:Hp)(a:Addr)(xs:List V):Prop :=
 H a=some (.tup xs)\/∃(o:Obj) (its:Array Value) (n:Nat),K.lookup a=some o/\o.cls=.type "tuple"/\o.dict=none/\o.data=.seq its n/\its.size<=sizeLine/\Vals xs its.toList
theorem a47.sq{K:PySem.W.Frag}{H:Hp}{a:Addr}{xs:List V}(h:a47 K H a xs):SqT K H a xs:=by
 rcases h with h|⟨o,its,n,h1,h2,_,h3,h4,h5⟩
 ·exact .inl (.inl h)
 ·exact .inr ⟨o,its,n,h1,h2,h3,h4,h5⟩
noncomputable def bx6(K:PySem.W.Frag):V->V->Hp->VK->Prop:=fun x y H Q=>(∃i j,x=.int i/\y=.int j/\Q (.int (i+j)) H) \/
 ∃a b xs ys,x=.ref a/\y=.ref b/\SqT K H a xs/\SqT K H b ys/\xs.length+ys.length<=sizeLine/\(xs=[]->Q (.ref b) H)/\(ys=[]->Q (.ref a) H)/\(∀p,H p=none->Q (.ref p) (upd H p (.tup (xs++ys))))
theorem aH0:a51 X .Add (bx6 X.K):=by
 rintro pins s σ H x y u v Q I rx ry h;rcases h with h|⟨a,b,xs,ys,rfl,rfl,ha,hb,hz,q0,q1,q2⟩
 ·exact bs4 pins s σ H x y u v Q I rx ry h
 ·cases rx;cases ry;obtain⟨its,r1,p1,_⟩:=I.tuple ha;obtain⟨its2,r2,p2,_⟩:=I.tuple hb;refine HT.a31 p1 p2 (fun z=>⟨.ref b,H,I,rfl,q0 (r1.O6.mp z)⟩) (fun z=>⟨.ref a,H,I,rfl,q1 (r2.O6.mp z)⟩) ?_ (by rw[<- r1.length,<- r2.length];exact hz);refine⟨.ref s.heap.objs.size,_,I.laid (t':=s.toks) (o:=.tup (xs++ys)) (fun b ob q=>Heap.get?_push_of_some _ q) (Nat.le_refl _) ?_,rfl,q2 _ (I.hok.fresh (Nat.le_refl _))⟩;exact⟨by rw[List.length_append];exact hz,_,r1.append r2,F7.new _ _⟩
end
end L2

namespace ST
open PySem PyProof.Rows
noncomputable def Spot(k:Int):Prop:=0<=k/\k<8
structure Own(mask:Nat)(owner:Array (Option Nat))(pre:List Int):Prop where
 sz:owner.size=mask+1
 fwd:∀(i:Nat) (k:Int),pre[i]?=some k->owner[k.toNat]?=some (some i)
 bwd:∀(j i:Nat),owner[j]?=some (some i)->pre[i]?=some (j:Int)
end ST

namespace ST
open PySem PyProof.Rows
section
variable{prog:Program}{w:World}{A:Around}{E:Value->Shared->Prop}{s:Shared}{a:Addr}
theorem above:∀n,n<300->7<SetTable.sizeAbove n/\n<SetTable.sizeAbove n/\SetTable.sizeAbove n<=sizeLine:=by decide +kernel
end
end ST
namespace L2
open PySem PySem.Spec PyProof.Rows
variable{X:Cx}
end L2

namespace ST
open PySem PyProof.Rows
section
variable{prog:Program}{w:World}{A:Around}{E:Value->Shared->Prop}{s:Shared}{a:Addr}{ep:Nat}{K:Type}[DecidableEq K]{knd:PySem.KeyKind prog w K}{kvs:List (K×Value)}
end
end ST
namespace L2
open PySem PySem.Spec PyProof.Rows
section
variable{X:Cx}
end
end L2

namespace L2
open PySem PySem.Spec PyProof.Rows
section
variable{X:Cx}
theorem U1{its:List Value}{ns:List Int}(hi:IntsAre its ns):∃xs,its.toArray=intItems xs/\ns=xs.toList.map (·.1):=by
 obtain⟨xs,e⟩:=hi.allInts.items;exact⟨xs,e,by rw[<- hi.numsOf,<- nums_intItems,<- e]⟩
theorem aV4(hc:X.calm=true):l9 X (.builtin "sum") (fun xs H Q=>∃a,∃ns:List Int,xs=[.ref a]/\SqL X.K H a (ns.map V.int)/\Q (.int ns.sum) H):=by
 intro pins s σ H xs us Q I r h;obtain⟨a,ns,rfl,ha,q⟩:=h;obtain⟨u,rfl,ru⟩:=vals1 r;cases ru;obtain⟨its,rv,p,hz⟩:=I.list ha;obtain⟨xs,e,en⟩:=U1 (K3 rv);refine sum_intListG (xs:=xs) (I.ok.hd hc) (by rw[<- e];exact p.isList) fun h' tk t' k=>⟨.int ns.sum,H,I.kept k,⟨t',?_⟩,q⟩
 rw[preSum_eq,List.take_of_length_le (by simp),en]
theorem aV7(hc:X.calm=true):l9 X (.builtin "max") (fun xs H Q=>∃a,∃(ns:List Int) (M:Int),xs=[.ref a]/\SqL X.K H a (ns.map V.int)/\M∈ns/\(∀x∈ns,x<=M)/\Q (.int M) H):=by
 intro pins s σ H xs us Q I r h;obtain⟨a,ns,M,rfl,ha,hm,hM,q⟩:=h;obtain⟨u,rfl,ru⟩:=vals1 r;cases ru;obtain⟨its,rv,p,hz⟩:=I.list ha;obtain⟨xs,e,en⟩:=U1 (K3 rv);have hsz:0<xs.size:=by
  have:=List.length_pos_of_mem hm;rw[en,List.length_map,Array.length_toList] at this;exact this
 refine max_intList (xs:=xs) (I.ok.hd hc) (by rw[<- e];exact p.isList) hsz fun v h' tk hv k=>?_;obtain⟨t,rfl⟩:=intItems_at hv;obtain⟨h1,h2⟩:=argBest_gt (numAt xs) (xs.size-1);generalize argBest (fun i j=>decide (numAt xs i>numAt xs j)) (xs.size-1)=j0 at *;have m1:numAt xs j0∈ns:=by rw[en,numAt_eq];exact getD_mem (by rw[List.length_map,Array.length_toList];omega)
 have m2:M<=numAt xs j0:=by
  rw[en] at hm;obtain⟨j,hj,rfl⟩:=mem_getD hm;rw[List.length_map,Array.length_toList] at hj;rw[<- numAt_eq];exact h2 j (by omega)
 have e2:numAt xs j0=M:=Int.le_antisymm (hM _ m1) m2;exact⟨.int M,H,I.kept k,⟨t,by rw[e2]⟩,q⟩
theorem aV5(hc:X.calm=true):l9 X (.builtin "min") (fun xs H Q=>∃a,∃(ns:List Int) (M:Int),xs=[.ref a]/\SqL X.K H a (ns.map V.int)/\M∈ns/\(∀x∈ns,M<=x)/\Q (.int M) H):=by
 intro pins s σ H xs us Q I r h;obtain⟨a,ns,M,rfl,ha,hm,hM,q⟩:=h;obtain⟨u,rfl,ru⟩:=vals1 r;cases ru;obtain⟨its,rv,p,hz⟩:=I.list ha;obtain⟨xs,e,en⟩:=U1 (K3 rv);have hsz:0<xs.size:=by
  have:=List.length_pos_of_mem hm;rw[en,List.length_map,Array.length_toList] at this;exact this
 refine min_intList (xs:=xs) (I.ok.hd hc) (by rw[<- e];exact p.isList) hsz fun v h' tk hv k=>?_;obtain⟨t,rfl⟩:=intItems_at hv;obtain⟨h1,h2⟩:=argBest_lt (numAt xs) (xs.size-1);generalize argBest (fun i j=>decide (numAt xs i<numAt xs j)) (xs.size-1)=j0 at *;have m1:numAt xs j0∈ns:=by rw[en,numAt_eq];exact getD_mem (by rw[List.length_map,Array.length_toList];omega)
 have m2:numAt xs j0<=M:=by
  rw[en] at hm;obtain⟨j,hj,rfl⟩:=mem_getD hm;rw[List.length_map,Array.length_toList] at hj;rw[<- numAt_eq];exact h2 j (by omega)
 have e2:numAt xs j0=M:=Int.le_antisymm m2 (hM _ m1);exact⟨.int M,H,I.kept k,⟨t,by rw[e2]⟩,q⟩
theorem aW0(hc:X.calm=true):l9 X (.builtin "all") (fun xs H Q=>∃(a:Addr) (ns:List Int),xs=[.ref a]/\SqL X.K H a (ns.map V.int)/\Q (.bl (ns.all fun n=>n != 0)) H):=by
 intro pins s σ H xs us Q I r h;obtain⟨a,ns,rfl,ha,q⟩:=h;obtain⟨u,rfl,ru⟩:=vals1 r;cases ru;obtain⟨its,rv,p,hz⟩:=I.list ha;refine call_all_walk ?_;refine wpAny_pyIter_list p.isList ?_;have hne:a≠s.heap.objs.size:=by
  obtain⟨o,e,_⟩:=id p.isList;exact Nat.ne_of_lt (Heap.lt_size e)
 have hl:=rv.length;rw[List.length_map] at hl;refine⟨s.heap.objs.size,_,_,_,_,_,fun i=>ns.getD i 1 != 0,rfl,Walks.list (A:=X.A.in1) (I.ok.hd hc) _ a hne its.toArray,⟨⟨_,Heap.get?_push_size _ rfl,rfl,rfl⟩,?_⟩,?_,fun h' tk k=>?_⟩
 ·obtain⟨o,e,q1⟩:=id p.isList;exact⟨o,Heap.get?_push_of_some _ e,q1⟩
 ·intro i v s' Q' E' hP hQ;have hv:its[i]?=some v:=by simpa using hP
  have hi:i<ns.length:=by rw[hl];exact(List.getElem?_eq_some_iff.mp hv).1
  obtain⟨u',hu',ru'⟩:=rv.get (i:=i) (x:=V.int ns[i]) (by rw[List.getElem?_map,List.getElem?_eq_getElem hi];rfl);rw[hv] at hu';cases hu';obtain⟨t,rfl⟩:=ru';refine truthy_int ?_;have:ns.getD i 1=ns[i]:=by simp[List.getD,hi]
  dsimp only at hQ;rw[this] at hQ;exact hQ
 ·have e1:(List.range its.toArray.size).all (fun i=>ns.getD i 1 != 0)=ns.all fun n=>n != 0:=by
   rw[List.size_toArray,<- hl];rw[Bool.eq_iff_iff];simp only[List.all_eq_true,List.mem_range];constructor
   ·intro hh x hx;obtain⟨i,hi,rfl⟩:=List.mem_iff_getElem.mp hx;have:=hh i hi;simpa[List.getD,hi] using this
   ·intro hh i hi;have:=hh ns[i] (List.getElem_mem hi);simpa[List.getD,hi] using this
  rw[e1];exact ⟨.bl _,H,I.kept (t':=tk) fun b o e=>k b o (by
   intro hb;have:b=s.heap.objs.size:=by simpa using hb
   exact absurd (Heap.lt_size e) (by rw [this];exact Nat.lt_irrefl _)) (Heap.get?_push_of_some _ e),rfl,q⟩
theorem au0:l9 X (.builtin "len") (fun xs H Q=>∃a,∃ks:List Int,xs=[.ref a]/\H a=some (ah5 X a ks)/\Q (.int ks.length) H):=by
 intro pins s σ H xs us Q I r h;obtain⟨a,ks,rfl,ha,q⟩:=h;obtain⟨u,rfl,ru⟩:=vals1 r;cases ru;have hS:ST.q9 X.prog X.w s.heap a ks:=(I.hok a _ ha).1;obtain⟨o,es,ep,t,e,ex,ed,_,hp,nd,hz,hf,_⟩:=hS;have hl:es.size=ks.length:=by have:=hp.length_eq;simpa using this
 refine call_len_set e ex ed hf (by have:scanBound<2 ^ 62:=(by decide);omega) ⟨.int ks.length,H,I.tok _,⟨_,by rw[hl]⟩,q⟩
end
end L2

namespace L2
open PySem PySem.Spec PyProof.Rows
section
variable{X:Cx}
theorem bc7{i:Int}{j:Nat}{p pos:Pos}(hcode:PySem.W.kdsCode X.K X.env.code=true):PE X (.Set [.Constant (.int i) j p] 0 pos) (fun σ H Q=>∀q,H q=none->Q (.ref q) (upd H q (.set (fun k=>decide (k=i)) 1))):=by
 intro pins s σ H Q I h;rw[arm_eval_Set];refine wpAny_bind (wpAny_standAt ?_);refine wpAny_bind (PySem.W.kds_main I.kIn hcode fun b=>?_);rw[PySem.W.kds_star _ (by rfl),List.map_map];refine PySem.W.kds_core (ts:=(evalEach [Expr.Constant (.int i) j p] X.env).map fun t=>do let v <- t;standAt pos;pure v) (by rfl) (by rfl) (by show 1<=30;decide) (by rw[List.map_map];rfl) fun led=>?_;refine PySem.W.kds_all pos _ _ _ ?_;show wpAny _ _ (eval (.Constant (.int i) j p) X.env) _ _ _;refine wpAny_Constant_int ?_;refine PySem.W.kds_fill_cons ?_;have hS0:(s.heap.push { cls:=.type "set",dict:=none,data:=.set #[] 0 (.fresh 0 0 led) }).SetOf (intKind X.prog X.w) s.heap.objs.size (fun _=>false) 0:=(setObjOf_fresh led).setOf (Heap.get?_push_size _ rfl) (by decide);unfold setAdd;refine wpAny_holding (wpAny_bind ((intKind X.prog X.w).pyHash (k:=i) (intKind_is _ _ _ _) ?_));refine wpAny_setAddHashed_of (knd:=intKind X.prog X.w) (intKind_is _ _ _ _) rfl hS0 (by decide) fun h' hsb hS'=>?_;refine PySem.W.kds_fill_nil (by rfl) ?_;have kp:∀b u,s.heap.get? b=some u->h'.get? b=some u:=fun b u e=>(hsb.2 b (Nat.ne_of_lt (Heap.lt_size e))).trans (Heap.get?_push_of_some _ e);exact⟨.ref s.heap.objs.size,_,I.laid (a:=s.heap.objs.size) (o:=.set (fun k=>decide (k=i)) 1) kp (Nat.le_refl _) (by show Heap.SetOf _ _ _ _ _;simpa using hS'),rfl,h _ (I.hok.fresh (Nat.le_refl _))⟩
theorem aS3:OpR X (compareOp .In) (fun x y H Q=>∃i a S n,x=.int i/\y=.ref a/\H a=some (.set S n)/\Q (.bl (S i)) H):=by
 intro pins s σ H x y v u Q I rx ry h;obtain⟨i,a,S,n,rfl,rfl,ha,q⟩:=h;obtain⟨t,rfl⟩:=rx;cases ry;exact wpAny_inSet_of (knd:=intKind X.prog X.w) (k:=i) (intKind_is _ _ _ _) rfl (I.hok a _ ha) ⟨.bl (S i),H,I.tok _,rfl,q⟩
theorem ay2:OpR X (compareOp .NotIn) (fun x y H Q=>∃i a S n,x=.int i/\y=.ref a/\H a=some (.set S n)/\Q (.bl (!S i)) H):=by
 intro pins s σ H x y v u Q I rx ry h;obtain⟨i,a,S,n,rfl,rfl,ha,q⟩:=h;obtain⟨t,rfl⟩:=rx;cases ry;exact wpAny_notInSet_of (knd:=intKind X.prog X.w) (k:=i) (intKind_is _ _ _ _) rfl (I.hok a _ ha) ⟨.bl (!S i),H,I.tok _,rfl,q⟩
theorem aK9:MtR X "set.add" (fun x xs H Q=>∃a i S n,x=.ref a/\xs=[.int i]/\H a=some (.set S n)/\n+1<4096/\Q .non (upd H a (.set (fun k=>S k||decide (k=i)) (if S i then n else n+1)))):=by
 intro pins s σ H x vs v us Q I rx rv h;obtain⟨a,i,S,n,rfl,rfl,ha,hn,q⟩:=h;cases rx;obtain⟨u,rfl,t,rfl⟩:=rv.one;refine call_set_add (knd:=intKind X.prog X.w) (k:=i) (intKind_is _ _ _ _) rfl (I.hok a _ ha) (show n+1<scanBound from hn) fun h' hsb hS'=>?_;obtain⟨o,es,ep,tb,ho,_⟩:=id hS';exact⟨.non,_,I.write (x:=a) (e:=a) (o:=.set (fun k=>S k||decide (k=i)) (if S i then n else n+1)) (by rw[ha];trivial) (.inl rfl) (fun b u hb e=>(hsb.2 b hb).trans e) ⟨o,ho⟩ hS',rfl,q⟩
noncomputable def Itv(K:PySem.W.Frag)(a:Addr)(n:Nat):It :=
 ⟨fun i H=>∃xs x,SqL K H a xs/\xs.length=n/\i<n/\xs[n-1-i]?=some x,fun i H x H'=>H'=H/\∀xs,SqL K H a xs->xs[n-1-i]?=some x,fun i H=>n<=i⟩
theorem aX5{P:Program}{w:World}{K:PySem.W.Frag}{tg:Expr}(a it:Addr)(n:Nat):Turn P w K tg (Itv K a n) [it] it (fun i h=>i<=n/\h.IsRevIter it a ((n:Int)-1-(i:Nat))) where
 mem:=by simp
 obj:=fun i h st b hb=>by
  have e:b=it:=by simpa using hb
  subst e;obtain⟨o,e,c,d⟩:=st.2;exact⟨o,e,fun v z=>by rw[d] at z;cases z⟩
 keep:=fun i h h' st k=>⟨st.1,st.2.at fun o e=>k it (by simp) o e⟩
 item:=by
  intro X hP hw hK hc i pins s σ H E I hf st hg;subst hP hw hK;obtain⟨xs,x,hq,hn,hi,hx⟩:=hg;obtain⟨its,rv,p,hz⟩:=I.list hq;obtain⟨u,hu,ru⟩:=rv.get hx;obtain⟨f0,f1,f2,f3,f4,f5⟩:=hf it (by simp);have st2:=st.2;rw[show(n:Int)-1-(i:Nat)=((n-1-i:Nat):Int) by omega] at st2;refine wpAny_pyNext_rev_item st2 p.isList (x:=u) (by simpa using hu) fun h' st' sb=>?_;have I1:Inv X pins σ H { s with heap:=h' }:=I.turned (t':=s.toks) (fun b o hb e=>(sb.2 b hb).trans e) f0 f1 f3 f4 f5;obtain⟨o,e,c,d⟩:=id st';refine⟨u,rfl,av0 (s:={ s with heap:=h' }) e c d (by decide) ⟨x,H,I1,ru,⟨rfl,fun ys hy=>by rw[I.ah9 hy hq];exact hx⟩,⟨by omega,?_⟩,fun b hb=>(hf b hb).1⟩⟩;rw[show(n:Int)-1-((i+1:Nat):Int)=((n-1-i:Nat):Int)-1 by omega];exact st'
 done:=by
  intro X hP hw hK hc i pins s σ H E I hf st hg;subst hP hw hK;obtain⟨f0,f1,f2,f3,f4,f5⟩:=hf it (by simp);have st2:=st.2;have:n<=i:=hg;rw[show(n:Int)-1-(i:Nat)=-1 by have:=st.1;omega] at st2;exact wpAny_pyNext_rev_end (I.ok.hd hc) st2 fun h' eb=>⟨rfl,I.turned (t':=s.toks) (fun b o hb e=>eb b o hb e) f0 f1 f3 f4 f5⟩
 self:=fun _ _ _ _ _ st h=>wpAny_pyIter_revIter st.2 h
theorem boot_reversed:bootBuiltins "reversed"=some (.type "reversed"):=by decide +kernel
theorem bn2{tg l:Expr}{ta:TA}{p pos:Pos}(hg:Gl X "reversed")(hm:X.mg "reversed"=none)(ha:PA X [l] ta)(hs:starEach [l] X.env=[(false,eval l X.env)]) :
  PI X tg (.Call (.Name "reversed" p) [l] [] pos) (fun σ H R=>ta σ H fun vs H1=>∃a xs,vs=[.ref a]/\SqL X.K H1 a xs/\R (Itv X.K a xs.length) H1):=by
 intro pins s σ H R I h;refine Call_ (K2 I hg hm boot_reversed (PyProof.Rows.callWith_type1 (thn (ha pos pins s σ H _ I h) fun us s1 ⟨vs,H1,I1,r1,q1⟩=>?_) hs rfl));obtain⟨a,xs,e,hq,q⟩:=q1;subst e;cases r1 with
 |cons r rr =>
  cases rr;cases r;obtain⟨its,rv,p,hz⟩:=I1.list hq;refine call_reversed_list p.isList ?_;have hl:=rv.length;have hit:(s1.heap.push (revObj a ((its.toArray.size:Int)-1))).IsRevIter s1.heap.objs.size a ((xs.length:Int)-1-((0:Nat):Int)):=⟨_,Heap.get?_push_size _ rfl,rfl,by simp[revObj,hl]⟩
  refine wpAny_pyIter_revIter hit ?_;refine⟨s1.heap.objs.size,[s1.heap.objs.size],_,_,H1,rfl,I1.kept (t':=s1.toks) fun b o e=>Heap.get?_push_of_some _ e,aX5 a _ xs.length,⟨Nat.zero_le _,hit⟩,fun b hb=>?_,q⟩;have e:b=s1.heap.objs.size:=by simpa using hb
  subst e;exact I1.ac7 (Nat.le_refl _) (I1.hok.fresh (Nat.le_refl _))
end
end L2

namespace M
open PySem L2
inductive D where
 |non|bl (b:Bool)|int (i:Int)|str (x:Str)|ty (n:String)|ref (i:Nat)|tup (l:List D)
inductive O where
 |lst (l:List D)|fro (l:List D)
 |dic (kvs:List (Key×D))
 |ins (c:Str) (fs:List (Str×D))
 |set (S:Int->Bool) (n:Nat)
noncomputable def O.mut:O->Bool
 |.fro _=>false
 |_=>true
noncomputable def U0:D->Option Key
 |.int i=>some (.inl i)
 |.str x=>some (.inr x)
 |_=>none
noncomputable def p6(kvs:List (Key×D))(k:Key):Option D:=(kvs.find? fun kv=>decide (kv.1=k)).map (·.2)
noncomputable def putD(kvs:List (Key×D))(k:Key)(v:D):List (Key×D) :=
 if(kvs.any fun kv=>decide (kv.1=k))=true then kvs.map (fun kv=>if kv.1=k then(kv.1,v) else kv) else kvs++[(k,v)]
noncomputable def j6(f:Str)(v:D):List (Str×D)->List (Str×D)
 |[]=>[(f,v)]
 |(g,x)::r=>if g=f then(g,v)::r else(g,x)::j6 f v r
noncomputable def M4:List D->Str->Option D
 |.tup [.str y,v]::r,x=>if x=y then some v else M4 r x
 |_::_,_=>none
 |[],_=>none
noncomputable def S1:List D->Option Str
 |[]=>some Str.empty
 |.str x::r=>(S1 r).map fun y=>x++y
 |_=>none
structure Xn where
 cls:Str
noncomputable abbrev G:=List O
noncomputable abbrev S:=List (Option D)
noncomputable abbrev KD:=D->G->Prop
noncomputable abbrev KX:=Xn->G->Prop
noncomputable abbrev NoX:KX:=fun _ _=>False
noncomputable def az7:Option O->Option (List D)
 |some (.lst l)=>some l
 |some (.fro l)=>some l
 |_=>none
noncomputable abbrev d4(g:G)(a:Nat):Option (List D):=az7 g[a]?
noncomputable def rd(g:G):Nat->D->Option PyData
 |_,.non=>some .none
 |_,.bl b=>some (.bool b)
 |_,.int i=>some (.int i)
 |_,.str x=>some (.str x)
 |_,.ty _=>none
 |0,.ref _=>none
 |0,.tup _=>none
 |n+1,.ref a=>match d4 g a with
  |some l=>(l.mapM (rd g n)).map .list
  |none=>none
 |n+1,.tup l=>(l.mapM (rd g n)).map .tuple
noncomputable def rds(g:G)(l:List D):Option (List PyData):=l.mapM (rd g 6)
noncomputable def F5(g:G):D->Option (List D)
 |.tup l=>some l
 |.ref a=>d4 g a
 |_=>none
noncomputable def M5:D->Bool
 |.non=>true
 |_=>false
noncomputable def cut{α:Type}(xs:List α)(lo hi:Option Int):List α:=(xs.drop (HT.sIx xs.length 0 lo)).take (HT.sIx xs.length xs.length hi-HT.sIx xs.length 0 lo)
noncomputable def ai0(g:G)(x:D)(c:String):Option Bool:=match x with
 |.non=>some (c=="NoneType")
 |.bl _=>some (c=="bool"||c=="int")
 |.int _=>some (c=="int")
 |.str _=>some (c=="str")
 |.tup _=>some (c=="tuple")
 |.ref a=>match g[a]? with
  |some (.lst _)=>some (c=="list")
  |_=>none
 |.ty _=>none
noncomputable def j7(lo:Int)(n:Nat):List D:=(List.range n).map fun(k:Nat)=>.int (lo+k)
noncomputable def S5:List D->Option Bool
 |[]=>some true
 |.bl b::r=>(S5 r).map fun c=>b&&c
 |_=>none
inductive Pr where
 |bin (op:Operator)|un (op:UnaryOp)|cmp (op:CmpOp)
 |ix|slc (lo hi:Bool)|rev|tup|lst|Z3
 |len|list|tuple|isin|all|max|min|int|str|lrng1|lrng2|sset|sun|dcopy
 |gin|gnin|gget|fv|fstr|fld (f:Str)
 |append|pop|get|index|join|iadd|clear|pop0|extend|any|sortd|sum|ao1|isub|sadd|sdisp (i:Int)
noncomputable abbrev DR:=List D->G->D->G->Prop
noncomputable def arR:Operator->Int->Int->Int->Prop
 |.Add,i,j,r=>r=i+j
 |.Sub,i,j,r=>r=i-j
 |.Mult,i,j,r=>ai9 i j/\r=i*j
 |.FloorDiv,i,j,r=>a52 i j/\r=i / j
 |.Mod,i,j,r=>0<j/\r=i % j
 |.Pow,i,j,r=>aa3 i j/\r=i ^ j.toNat
 |.LShift,i,j,r=>aa3 i j/\r=i*2 ^ j.toNat
 |.BitAnd,i,j,r=>r=Builtin.bitAnd i j
 |.BitOr,i,j,r=>r=Builtin.bitOr i j
 |_,_,_,_=>False
noncomputable def bK4(op:Operator):DR:=fun xs g d g' =>
 (∃i j r,xs=[.int i,.int j]/\arR op i j r/\d=.int r/\g'=g) \/
 (op=.Add/\((∃ l m,xs=[.tup l,.tup m]/\l.length + m.length <= 100000/\d=.tup (l ++ m)/\g'=g) \/
  (∃a b l m,xs=[.ref a,.ref b]/\g[a]?=some (.lst l)/\g[b]?=some (.lst m)/\l.length+m.length<=100000/\d=.ref g.length/\g'=g++[.lst (l++m)]) \/
  (∃ x y,xs=[.str x,.str y]/\x.length + y.length <= 100000/\d=.str (x ++ y)/\g'=g))) \/
 (op=.Mult/\((∃ a l n,xs=[.ref a,.int n]/\g[a]?=some (.lst l)/\-(2 ^ 62) <= n/\n < 2 ^ 62/\l.length * n.toNat <= 100000/\d=.ref g.length/\g'=g ++ [.lst (List.replicate n.toNat l).flatten]) \/
  (∃ l n,xs=[.tup l,.int n]/\l ≠ []/\1 <= n/\n < 2 ^ 62/\l.length * n.toNat <= 100000/\d=.tup (List.replicate n.toNat l).flatten/\g'=g)))
noncomputable def unR(op:UnaryOp):DR:=fun xs g d g'=>op=.USub/\∃i,xs=[.int i]/\d=.int (-i)/\g'=g
noncomputable def eqR(g:G)(x y:D)(b:Bool):Prop :=
 (∃i j,x=.int i/\y=.int j/\b=decide (i=j))\/(∃i j,x=.bl i/\y=.bl j/\b=(i==j))\/(∃i j,x=.str i/\y=.str j/\b=decide (i=j)) \/
 ∃p q,rd g 6 x=some p/\rd g 6 y=some q/\p.canLay0=true/\q.canLay0=true/\b=PyData.eqv p q
noncomputable def inR(g:G)(x y:D)(b:Bool):Prop :=
 (∃a kvs c,y=.ref a/\g[a]?=some (.dic kvs)/\U0 x=some c/\b=(p6 kvs c).isSome) \/
 ∃l ps p,F5 g y=some l/\rds g l=some ps/\rd g 6 x=some p/\PyData.canLayAll0 ps=true/\p.canLay0=true/\b=(ps.any fun q=>PyData.eqv q p)
noncomputable def bj9(g:G)(x y:D)(b:Bool):Prop:=∃a S n i,y=.ref a/\g[a]?=some (.set S n)/\x=.int i/\b=S i
noncomputable def bt6(g:G)(x y:D)(b:Bool):CmpOp->Prop
 |.Eq=>eqR g x y b
 |.NotEq=>eqR g x y (!b)
 |.In=>inR g x y b\/bj9 g x y b
 |.NotIn=>inR g x y (!b)\/bj9 g x y (!b)
 |.Lt=>∃i j,x=.int i/\y=.int j/\b=decide (i<j)
 |.LtE=>∃i j,x=.int i/\y=.int j/\b=decide (i<=j)
 |.Gt=>∃i j,x=.int i/\y=.int j/\b=decide (j<i)
 |.GtE=>∃i j,x=.int i/\y=.int j/\b=decide (j<=i)
 |.Is=>y=.non/\b=M5 x
 |.IsNot=>y=.non/\b=!M5 x
noncomputable def bJ9(op:CmpOp):DR:=fun xs g d g'=>∃x y b,xs=[x,y]/\bt6 g x y b op/\d=.bl b/\g'=g
noncomputable def bh7(g:G)(x:D)(b:Bool):Prop :=
 (x=.non/\b=false)\/x=.bl b\/(∃i,x=.int i/\b=(i != 0))\/(∃l,x=.tup l/\b=!l.isEmpty)\/∃a l,x=.ref a/\d4 g a=some l/\b=!l.isEmpty
noncomputable def ixR:DR:=fun xs g d g'=>g'=g/\((∃x l i,xs=[x,.int i]/\F5 g x=some l/\atI l i=some d)\/(∃a kvs y c,xs=[.ref a,y]/\g[a]?=some (.dic kvs)/\U0 y=some c/\p6 kvs c=some d) \/
 ∃ x i c,xs=[.str x,.int i]/\x.length <= 100000/\atI x.cps.toList i=some c/\d=.str ⟨#[c]⟩)
noncomputable def slR(x:D)(lo hi:Option Int)(g:G)(d:D)(g':G):Prop:=(∃l,x=.tup l/\d=.tup (cut l lo hi)/\g'=g)\/∃a l,x=.ref a/\d4 g a=some l/\d=.ref g.length/\g'=g++[.lst (cut l lo hi)]
noncomputable def bG1:Bool->Bool->DR
 |false,false,xs,g,d,g'=>∃x,xs=[x]/\slR x none none g d g'
 |true,false,xs,g,d,g'=>∃x i,xs=[x,.int i]/\slR x (some i) none g d g'
 |false,true,xs,g,d,g'=>∃x j,xs=[x,.int j]/\slR x none (some j) g d g'
 |true,true,xs,g,d,g'=>∃x i j,xs=[x,.int i,.int j]/\slR x (some i) (some j) g d g'
noncomputable def bG5:DR:=fun xs g d g'=>(∃l,xs=[.tup l]/\d=.tup l.reverse/\g'=g)\/∃a l,xs=[.ref a]/\d4 g a=some l/\d=.ref g.length/\g'=g++[.lst l.reverse]
noncomputable def bE0:DR:=fun xs g d g'=>xs.length<=1000/\d=.tup xs/\g'=g
noncomputable def bI5:DR:=fun xs g d g'=>xs.length<=1000/\d=.ref g.length/\g'=g++[.lst xs]
noncomputable def aA6:List D->List (Key×D)->Option (List (Key×D))
 |[],kvs=>some kvs
 |k::v::r,kvs=>(U0 k).bind fun c=>aA6 r (putD kvs c v)
 |_,_=>none
noncomputable def bC1:DR:=fun xs g d g'=>xs=[]/\d=.ref g.length/\g'=g++[.dic []]
noncomputable def bI6:DR:=fun xs g d g'=>g'=g/\((∃x l,xs=[x]/\F5 g x=some l/\d=.int l.length)\/(∃a kvs,xs=[.ref a]/\g[a]?=some (.dic kvs)/\d=.int kvs.length)\/∃x,xs=[.str x]/\x.length<=100000/\d=.int x.length)
noncomputable def bA2:DR:=fun xs g d g'=>∃x l,xs=[x]/\F5 g x=some l/\d=.ref g.length/\g'=g++[.lst l]
noncomputable def bh4:DR:=fun xs g d g'=>∃x l,xs=[x]/\F5 g x=some l/\d=.tup l/\g'=g
noncomputable def bB1:DR:=fun xs g d g'=>∃x c b,xs=[x,.ty c]/\c∈["int","bool","str","tuple","list"]/\ai0 g x c=some b/\d=.bl b/\g'=g
noncomputable def allR:DR:=fun xs g d g'=>∃a l b,xs=[.ref a]/\d4 g a=some l/\(S5 l=some b\/∃ns:List Int,l=ns.map .int/\b=ns.all fun n=>n != 0)/\d=.bl b/\g'=g
noncomputable def a80:List D->Option Bool
 |[]=>some false
 |.bl b::r=>(a80 r).map fun c=>b||c
 |_=>none
noncomputable def anyR:DR:=fun xs g d g'=>∃a l b,xs=[.ref a]/\d4 g a=some l/\a80 l=some b/\d=.bl b/\g'=g
noncomputable def bj7:DR:=fun xs g d g'=>∃a kvs ns,xs=[.ref a]/\g[a]?=some (.dic kvs)/\kvs.map (·.1)=ns.map Sum.inl/\ns.length<60/\d=.ref g.length/\g'=g++[.lst ((m7 ns).map .int)]
noncomputable def bI4:DR:=fun xs g d g'=>g'=g/\((∃i j,xs=[.int i,.int j]/\d=.int (if j>i then j else i))\/∃a,∃(ns:List Int) (M:Int),xs=[.ref a]/\d4 g a=some (ns.map .int)/\M∈ns/\(∀x∈ns,x<=M)/\d=.int M)
noncomputable def bI3:DR:=fun xs g d g'=>g'=g/\((∃i j,xs=[.int i,.int j]/\d=.int (if j<i then j else i))\/∃a,∃(ns:List Int) (M:Int),xs=[.ref a]/\d4 g a=some (ns.map .int)/\M∈ns/\(∀x∈ns,M<=x)/\d=.int M)
noncomputable def bx2:DR:=fun xs g d g'=>∃a i S n,xs=[.ref a,.int i]/\g[a]?=some (.set S n)/\n+1<4096/\d=.non/\g'=g.set a (.set (fun k=>S k||decide (k=i)) (if S i then n else n+1))
noncomputable def bl4(i:Int):DR:=fun xs g d g'=>xs=[]/\d=.ref g.length/\g'=g++[.set (fun k=>decide (k=i)) 1]
noncomputable def bF9:DR:=fun xs g d g'=>∃a,∃ns:List Int,xs=[.ref a]/\d4 g a=some (ns.map .int)/\d=.int ns.sum/\g'=g
noncomputable def bA1:DR:=fun xs g d g'=>∃a,∃ns:List Int,xs=[.ref a]/\d4 g a=some (ns.map .int)/\ns.length<60/\d=.int (ST.j5 [] ns).length/\g'=g
noncomputable def bB0:DR:=fun xs g d g'=>∃i j,xs=[.int i,.int j]/\d=.int (i-j)/\g'=g
noncomputable def bI8:DR:=fun xs g d g'=>g'=g/\((∃i,xs=[.int i]/\d=.int i)\/∃b,xs=[.bl b]/\d=.int (if b then 1 else 0))
noncomputable def bG0:DR:=fun xs g d g'=>(∃i,xs=[.int i]/\i.natAbs.log2<1920/\d=.str (toString i)/\g'=g)\/∃x,xs=[.str x]/\d=.str x/\g'=g
noncomputable def bq7:DR:=fun xs g d g'=>∃j,xs=[.int j]/\-(2 ^ 62)<=j/\j<=100000/\d=.ref g.length/\g'=g++[.lst (j7 0 j.toNat)]
noncomputable def bq6:DR:=fun xs g d g'=>∃i j,xs=[.int i,.int j]/\(-(2 ^ 62)<=i/\i<2 ^ 62/\-(2 ^ 62)<=j/\j<2 ^ 62/\j-i<=100000)/\d=.ref g.length/\g'=g++[.lst (j7 i (j-i).toNat)]
noncomputable def bw8:DR:=fun xs g d g'=>∃a ns,xs=[.ref a]/\d4 g a=some (ns.map .int)/\ns.length<60/\d=.ref g.length/\g'=g++[.lst ((m7 ns).map .int)]
noncomputable def bF8:DR:=fun xs g d g'=>∃ns ms:List Int,xs=[.tup (ns.map .int),.tup (ms.map .int)]/\(∀k∈ns,ST.Spot k)/\(∀k∈ms,ST.Spot k)/\ns.length+ms.length<50/\d=.ref g.length/\g'=g++[.lst ((m7 (ns++ms)).map .int)]
noncomputable def a33(neg:Bool):DR:=fun xs g d g'=>∃kvs x,xs=[.tup kvs,.str x]/\d=.bl (xor neg (M4 kvs x).isSome)/\g'=g
noncomputable def bB7:DR:=fun xs g d g'=>∃kvs x,xs=[.tup kvs,.str x]/\M4 kvs x=some d/\g'=g
noncomputable def fvR:DR:=fun xs g d g'=>g'=g/\((∃i,xs=[.int i]/\i.natAbs.log2<1920/\d=.str (toString i))\/∃x,xs=[.str x]/\x.length<=2000/\d=.str x)
noncomputable def bB8:DR:=fun xs g d g'=>∃x,S1 xs=some x/\d=.str x/\g'=g
noncomputable def bJ4(f:Str):DR:=fun xs g d g'=>∃a c fs,xs=[.ref a]/\g[a]?=some (.ins c fs)/\fs.lookup f=some d/\g'=g
noncomputable def appendR:DR:=fun xs g d g'=>∃a y l,xs=[.ref a,y]/\g[a]?=some (.lst l)/\l.length<100000/\d=.non/\g'=g.set a (.lst (l++[y]))
noncomputable def bH5:DR:=fun xs g d g'=>∃a i l k,xs=[.ref a,.int i]/\g[a]?=some (.lst l)/\-(2 ^ 63)<=i/\i<2 ^ 63/\seqIndex? i l.length=some k/\l[k]?=some d/\g'=g.set a (.lst (l.eraseIdx k))
noncomputable def bJ1:DR:=fun xs g d g'=>∃a y z kvs c,xs=[.ref a,y,z]/\g[a]?=some (.dic kvs)/\U0 y=some c/\d=(p6 kvs c).getD z/\g'=g
noncomputable def a70:D->Bool
 |.non=>true
 |.bl _=>true
 |.int _=>true
 |.str _=>true
 |_=>false
noncomputable def toV:D->V
 |.bl b=>.bl b
 |.int i=>.int i
 |.str x=>.str x
 |_=>.non
noncomputable def bu4(l:List D)(y:D)(n:Nat):Prop:=l.all a70=true/\a70 y=true/\(∃z,l[n]?=some z/\eqV (toV z) (toV y)=true)/\∀(m:Nat) z,m<n->l[m]?=some z->eqV (toV z) (toV y)=false
noncomputable def bs3:DR:=fun xs g d g'=>∃x y l n,xs=[x,y]/\F5 g x=some l/\bu4 l y n/\l.length<=100000/\d=.int n/\g'=g
noncomputable def joinR:DR:=fun xs g d g'=>∃sep a ys,xs=[.str sep,.ref a]/\d4 g a=some (ys.map .str)/\be8 sep ys<=100000/\d=.str (Builtin.Str.glued sep ys)/\g'=g
noncomputable def bB3:DR:=fun xs g d g'=>(∃i j,xs=[.int i,.int j]/\d=.int (i+j)/\g'=g)\/∃l m,xs=[.tup l,.tup m]/\l.length+m.length<=100000/\d=.tup (l++m)/\g'=g
noncomputable def bt7:DR:=fun xs g d g'=>∃a l,xs=[.ref a]/\g[a]?=some (.lst l)/\d=.non/\g'=g.set a (.lst [])
noncomputable def by1:DR:=fun xs g d g'=>∃a l,xs=[.ref a]/\g[a]?=some (.lst (l++[d]))/\g'=g.set a (.lst l)
noncomputable def bf8:DR:=fun xs g d g'=>∃a b l m,xs=[.ref a,.ref b]/\g[a]?=some (.lst l)/\g[b]?=some (.lst m)/\l.length+m.length<=100000/\d=.non/\g'=g.set a (.lst (l++m))
noncomputable def bt3:DR:=fun xs g d g'=>∃a kvs,xs=[.ref a]/\g[a]?=some (.dic kvs)/\d=.ref g.length/\g'=g++[.dic kvs]
noncomputable def PR:Pr->DR
 |.clear=>bt7
 |.any=>anyR
 |.sum=>bF9
 |.sadd=>bx2
 |.sdisp i=>bl4 i
 |.ao1=>bA1
 |.isub=>bB0
 |.sortd=>bj7
 |.extend=>bf8
 |.pop0=>by1
 |.dcopy=>bt3
 |.bin op=>bK4 op
 |.un op=>unR op
 |.cmp op=>bJ9 op
 |.ix=>ixR
 |.slc a b=>bG1 a b
 |.rev=>bG5
 |.tup=>bE0
 |.lst=>bI5
 |.Z3=>bC1
 |.len=>bI6
 |.list=>bA2
 |.tuple=>bh4
 |.isin=>bB1
 |.all=>allR
 |.max=>bI4
 |.min=>bI3
 |.int=>bI8
 |.str=>bG0
 |.lrng1=>bq7
 |.lrng2=>bq6
 |.sset=>bw8
 |.sun=>bF8
 |.gin=>a33 false
 |.gnin=>a33 true
 |.gget=>bB7
 |.fv=>fvR
 |.fstr=>bB8
 |.fld f=>bJ4 f
 |.append=>appendR
 |.pop=>bH5
 |.get=>bJ1
 |.index=>bs3
 |.join=>joinR
 |.iadd=>bB3
noncomputable def prP(p:Pr)(xs:List D)(g:G)(Q:KD):Prop:=∃d g',PR p xs g d g'/\Q d g'
noncomputable def eqP(g:G)(x y:D)(k:Bool->Prop):Prop:=∃b,eqR g x y b/\k b
noncomputable def inP(g:G)(x y:D)(k:Bool->Prop):Prop:=∃b,inR g x y b/\k b
noncomputable def W9(g:G)(x:D)(k:Bool->Prop):Prop:=∃b,bh7 g x b/\k b
noncomputable def bG2(x y v:D)(g g':G):Prop:=(∃a i l j,x=.ref a/\y=.int i/\g[a]?=some (.lst l)/\ixN l.length i=some j/\g'=g.set a (.lst (l.set j v))) \/
 ∃a kvs c,x=.ref a/\g[a]?=some (.dic kvs)/\U0 y=some c/\kvs.length<100000/\g'=g.set a (.dic (putD kvs c v))
noncomputable def S7(x y v:D)(g:G)(k:G->Prop):Prop:=∃g',bG2 x y v g g'/\k g'
noncomputable def a59(f:Str)(cs:List Str)(x v:D)(g g':G):Prop:=∃a c fs,x=.ref a/\g[a]?=some (.ins c fs)/\c∈cs/\fs.length<100/\g'=g.set a (.ins c (j6 f v fs))
noncomputable def aj5(f:Str)(cs:List Str)(x v:D)(g:G)(k:G->Prop):Prop:=∃g',a59 f cs x v g g'/\k g'
noncomputable def mkP:Pr->D->G->Prop
 |.get,x,g=>∃a kvs,x=.ref a/\g[a]?=some (.dic kvs)
 |.join,x,g=>∃y,x=.str y
 |.sadd,x,g=>∃a S n,x=.ref a/\g[a]?=some (.set S n)
 |.index,x,g=>(∃l,x=.tup l)\/∃a l,x=.ref a/\d4 g a=some l
 |_,x,g=>∃a l,x=.ref a/\d4 g a=some l
inductive IK where
 |fix (l:List D)|lst (a:Nat)|enl (a:Nat)|rvl (a n:Nat)
noncomputable def IK.at:IK->Nat->G->Option (Option D)
 |.fix l,i,_=>some l[i]?
 |.lst a,i,g=>match d4 g a with
  |some l=>some l[i]?
  |none=>none
 |.enl a,i,g=>match d4 g a with
  |some l=>some (l[i]?.map fun d=>.tup [.int i,d])
  |none=>none
 |.rvl a n,i,g=>match d4 g a with
  |some l=>if l.length=n then some (if i<n then l[n-1-i]? else none) else none
  |none=>none
inductive MT where
 |one (i:Nat)|many (is:List Nat)
noncomputable def C0:List Nat->List D->S->Option S
 |[],[],σ=>some σ
 |i::is,d::ds,σ=>C0 is ds (σ.set i (some d))
 |_,_,_=>none
noncomputable def tgP(t:MT)(x:D)(σ:S)(k:S->Prop):Prop:=match t with
 |.one i=>k (σ.set i (some x))
 |.many is=>∃l σ',x=.tup l/\C0 is l σ=some σ'/\k σ'
set_option genInjectivity false in
set_option genSizeOf false in
inductive ME where
 |var (i:Nat)|lit (d:D)
 |nil|cons (a b:ME)|prim (p:Pr) (es:ME)|meth (p:Pr) (o es:ME)|dct (es:ME)
 |chain (o1 o2:CmpOp) (a b c:ME)
 |and_ (a b:ME)|or_ (a b:ME)|not_ (a:ME)|ite (c a b:ME)
 |call (f:Nat) (es:ME)|make (c:Str) (f:Nat) (es:ME)|methc (m:Str) (cs:List (Str×Nat)) (o es:ME)
 |comp (d5:List Nat) (n:Nat) (tg:MT) (it cond elt:ME)|scomp (d5:List Nat) (n:Nat) (tg:MT) (it cond elt:ME)|rcomp (d5:List Nat) (n:Nat) (tg:MT) (it cond elt:ME)
 |itE (e:ME)|itR1 (a:ME)|itR2 (a b:ME)|itN (e:ME)|itV (e:ME)|tst (e:ME)|no
noncomputable abbrev Sig:=Nat->List D->G->KD->KX->Prop
noncomputable def C8(σ:S)(d5:List Nat)(n:Nat):S:=d5.map (fun j=>(σ[j]?).join)++List.replicate (n-d5.length) none
noncomputable def turns(k:IK)(σ:S)(g:G)(fin:S->G->Prop)(turn:D->(S->G->Prop)->S->G->Prop):Prop :=
 ∃W:Nat->Nat->S->G->Prop,(∃m,W 0 m σ g)/\∀i m σ g,W i m σ g->(k.at i g=some none/\fin σ g)\/∃x,k.at i g=some (some x)/\∃N2:S->G->Prop,(∀σ' g',N2 σ' g'->∃m',m'<m/\W (i+1) m' σ' g')/\turn x N2 σ g
noncomputable def aj2(k:IK)(σ:S)(g:G)(fin:List D->G->Prop)(turn:D->(Option D->S->G->Prop)->S->G->Prop):Prop :=
 ∃W:Nat->Nat->List D->S->G->Prop,(∃m,W 0 m [] σ g)/\∀i m ys σ g,W i m ys σ g->(k.at i g=some none/\fin ys g) \/
  ∃x,k.at i g=some (some x)/\ys.length<100000/\turn x (fun y σ' g'=>∃m',m'<m/\W (i+1) m' (ys++y.toList) σ' g') σ g
noncomputable def aw8(k:IK)(σ:S)(g:G)(fin:List Int->G->Prop)(turn:D->(Option Int->S->G->Prop)->S->G->Prop):Prop :=
 ∃W:Nat->Nat->List Int->S->G->Prop,(∃m,W 0 m [] σ g)/\∀i m ys σ g,W i m ys σ g->(k.at i g=some none/\ys.length<60/\fin ys g) \/
  ∃x,k.at i g=some (some x)/\ys.length<60/\turn x (fun y σ' g'=>∃m',m'<m/\W (i+1) m' (ys++y.toList) σ' g') σ g
mutual
noncomputable def wpE(P:Sig):ME->S->G->KD->KX->Prop
 |.var i,σ,g,Q,_=>∃d,σ[i]?=some (some d)/\Q d g
 |.lit d,_,g,Q,_=>Q d g
 |.prim p es,σ,g,Q,E=>wpA P es σ g (fun xs g1=>prP p xs g1 Q) E
 |.meth p o es,σ,g,Q,E=>wpE P o σ g (fun x g1=>mkP p x g1/\wpA P es σ g1 (fun xs g2=>prP p (x::xs) g2 Q) E) E
 |.dct es,σ,g,Q,E=>wpA P es σ (g++[.dic []]) (fun xs g1=>∃kvs,aA6 xs []=some kvs/\xs.length<=30/\g1[g.length]?=some (.dic [])/\Q (.ref g.length) (g1.set g.length (.dic kvs))) E
 |.chain o1 o2 a b c,σ,g,Q,E=>wpE P a σ g (fun x g1=>wpE P b σ g1 (fun y g2=>prP (.cmp o1) [x,y] g2 fun z g3=>∃t,z=.bl t/\if t=true then wpE P c σ g3 (fun w g4=>prP (.cmp o2) [y,w] g4 Q) E else Q (.bl false) g3) E) E
 |.and_ a b,σ,g,Q,E=>wpE P a σ g (fun x g1=>∃t,x=.bl t/\if t=true then wpE P b σ g1 Q E else Q (.bl false) g1) E
 |.or_ a b,σ,g,Q,E=>wpE P a σ g (fun x g1=>∃t,x=.bl t/\if t=true then Q (.bl true) g1 else wpE P b σ g1 Q E) E
 |.not_ a,σ,g,Q,E=>wpE P a σ g (fun x g1=>∃t,x=.bl t/\Q (.bl (!t)) g1) E
 |.ite c a b,σ,g,Q,E=>wpT P c σ g (fun t g1=>if t=true then wpE P a σ g1 Q E else wpE P b σ g1 Q E) E
 |.call f es,σ,g,Q,E=>wpA P es σ g (fun xs g1=>P f xs g1 Q E) E
 |.make c f es,σ,g,Q,E=>wpA P es σ g (fun xs g1=>P f (.ref g1.length::xs) (g1++[.ins c []]) (fun d g2=>d=.non/\Q (.ref g1.length) g2) E) E
 |.methc m cs o es,σ,g,Q,E=>wpE P o σ g (fun x g1=>∃a c fs f,x=.ref a/\g1[a]?=some (.ins c fs)/\fs.lookup m=none/\cs.lookup c=some f/\wpA P es σ g1 (fun xs g2=>P f (x::xs) g2 Q E) E) E
 |.comp d5 n tg it cond elt,σ,g,Q,E=>wpI P it σ g (fun k g1=>aj2 k (C8 σ d5 n) g1 (fun ys g=>Q (.ref g.length) (g++[.lst ys])) fun x N σ g=>tgP tg x σ fun σ2=>wpT P cond σ2 g (fun b g3=>if b=true then wpE P elt σ2 g3 (fun y g4=>N (some y) σ2 g4) NoX else N none σ2 g3) NoX) E
 |.rcomp d5 n tg it cond elt,σ,g,Q,E=>wpI P it σ g (fun k g1=>aj2 k (C8 σ d5 n) g1 (fun ys g=>Q (.ref g.length) (g++[.lst ys])) fun x N σ g=>tgP tg x σ fun σ2=>wpT P cond σ2 g (fun b g3=>if b=true then wpE P elt σ2 g3 (fun y g4=>N (some y) σ2 g4) E else N none σ2 g3) NoX) E
 |.scomp d5 n tg it cond elt,σ,g,Q,E=>wpI P it σ g (fun k g1=>aw8 k (C8 σ d5 n) g1 (fun ys g=>Q (.ref g.length) (g++[.lst ((m7 ys).map .int)])) fun x N σ g=>tgP tg x σ fun σ2=>wpT P cond σ2 g (fun b g3=>if b=true then wpE P elt σ2 g3 (fun y g4=>∃j,y=.int j/\N (some j) σ2 g4) NoX else N none σ2 g3) NoX) E
 |_,_,_,_,_=>False
noncomputable def wpA(P:Sig):ME->S->G->(List D->G->Prop)->KX->Prop
 |.nil,_,g,Q,_=>Q [] g
 |.cons a b,σ,g,Q,E=>wpE P a σ g (fun x g1=>wpA P b σ g1 (fun xs g2=>Q (x::xs) g2) E) E
 |_,_,_,_,_=>False
noncomputable def wpT(P:Sig):ME->S->G->(Bool->G->Prop)->KX->Prop
 |.and_ a b,σ,g,Q,E=>wpT P a σ g (fun t g1=>if t=true then wpT P b σ g1 Q E else Q false g1) E
 |.or_ a b,σ,g,Q,E=>wpT P a σ g (fun t g1=>if t=true then Q true g1 else wpT P b σ g1 Q E) E
 |.not_ a,σ,g,Q,E=>wpT P a σ g (fun t g1=>Q (!t) g1) E
 |.no,_,g,Q,_=>Q true g
 |.tst e,σ,g,Q,E=>wpE P e σ g (fun x g1=>W9 g1 x fun b=>Q b g1) E
 |_,_,_,_,_=>False
noncomputable def wpI(P:Sig):ME->S->G->(IK->G->Prop)->KX->Prop
 |.itE e,σ,g,R,E=>wpE P e σ g (fun x g1=>(∃l,x=.tup l/\R (.fix l) g1)\/∃a l,x=.ref a/\d4 g1 a=some l/\R (.lst a) g1) E
 |.itR1 a,σ,g,R,E=>wpE P a σ g (fun x g1=>∃j:Int,x=.int j/\-(2 ^ 62)<=j/\j<2 ^ 62/\R (.fix (j7 0 j.toNat)) g1) E
 |.itR2 a b,σ,g,R,E=>wpE P a σ g (fun x g1=>wpE P b σ g1 (fun y g2=>∃i j:Int,x=.int i/\y=.int j/\(-(2 ^ 62)<=i/\i<2 ^ 62/\-(2 ^ 62)<=j/\j<2 ^ 62)/\R (.fix (j7 i (j-i).toNat)) g2) E) E
 |.itN e,σ,g,R,E=>wpE P e σ g (fun x g1=>∃a l,x=.ref a/\d4 g1 a=some l/\R (.enl a) g1) E
 |.itV e,σ,g,R,E=>wpE P e σ g (fun x g1=>∃a l,x=.ref a/\d4 g1 a=some l/\R (.rvl a l.length) g1) E
 |_,_,_,_,_=>False
end
set_option genInjectivity false in
set_option genSizeOf false in
inductive MS where
 |pass|seq (a b:MS)|expr (e:ME)|set (i:Nat) (e:ME)|unp (t:MT) (e:ME)|setix (o i v:ME)|setf (f:Str) (cs:List Str) (o v:ME)
 |augf (f:Str) (cs:List Str) (o v:ME)|augl (i:Nat) (p:Pr) (v:ME)|swp (o1 i1 o2 i2 e:ME)
 |ifs (c:ME) (a b:MS)|for_ (t:MT) (it:ME) (b:MS)|whil (c:ME) (b:MS)|ret (e:ME)|retn|brk|cont
 |raise (x:Str) (es:ME)|W8 (b:MS) (hs:List (Str×ME))
structure Ends where
 nx:S->G->Prop
 rt:KD
 bk:S->G->Prop:=fun _ _=>False
 ct:S->G->Prop:=fun _ _=>False
noncomputable def wpH(P:Sig)(N:Ends)(σ:S)(E:KX):List (Str×ME)->KX
 |[],x,g=>E x g
 |(y,e)::r,x,g=>if x.cls=y\/y="MintError" then wpE P e σ g N.rt NoX else wpH P N σ E r x g
noncomputable def wpS(P:Sig):MS->Ends->S->G->KX->Prop
 |.pass,N,σ,g,_=>N.nx σ g
 |.seq a b,N,σ,g,E=>wpS P a { N with nx:=fun σ1 g1=>wpS P b N σ1 g1 E } σ g E
 |.expr e,N,σ,g,E=>wpE P e σ g (fun _ g1=>N.nx σ g1) E
 |.set i e,N,σ,g,E=>wpE P e σ g (fun x g1=>N.nx (σ.set i (some x)) g1) E
 |.unp t e,N,σ,g,E=>wpE P e σ g (fun x g1=>tgP t x σ fun σ1=>N.nx σ1 g1) E
 |.setix o i v,N,σ,g,E=>wpE P v σ g (fun x g1=>wpE P o σ g1 (fun y g2=>wpE P i σ g2 (fun z g3=>S7 y z x g3 fun g4=>N.nx σ g4) E) E) E
 |.setf f cs o v,N,σ,g,E=>wpE P v σ g (fun x g1=>wpE P o σ g1 (fun y g2=>aj5 f cs y x g2 fun g3=>N.nx σ g3) E) E
 |.augf f cs o v,N,σ,g,E=>wpE P o σ g (fun y g1=>∃a c fs x,y=.ref a/\g1[a]?=some (.ins c fs)/\c∈cs/\fs.lookup f=some x/\wpE P v σ g1 (fun z g3=>prP .iadd [x,z] g3 fun w g4=>∃fs',g4[a]?=some (.ins c fs')/\fs'.length<100/\N.nx σ (g4.set a (.ins c (j6 f w fs')))) E) E
 |.swp o1 i1 o2 i2 e,N,σ,g,E=>wpE P e σ g (fun x g1=>∃u v,x=.tup [u,v]/\wpE P o1 σ g1 (fun y1 g2=>wpE P i1 σ g2 (fun z1 g3=>S7 y1 z1 u g3 fun g4=>wpE P o2 σ g4 (fun y2 g5=>wpE P i2 σ g5 (fun z2 g6=>S7 y2 z2 v g6 fun g7=>N.nx σ g7) E) E) E) E) E
 |.augl i p v,N,σ,g,E=>∃x,σ[i]?=some (some x)/\wpE P v σ g (fun z g1=>prP p [x,z] g1 fun w g2=>N.nx (σ.set i (some w)) g2) E
 |.ifs c a b,N,σ,g,E=>wpT P c σ g (fun t g1=>if t=true then wpS P a N σ g1 E else wpS P b N σ g1 E) E
 |.for_ t it b,N,σ,g,E=>wpI P it σ g (fun k g1=>turns k σ g1 N.nx fun x N2 σ g=>tgP t x σ fun σ2=>wpS P b { N with nx:=N2,ct:=N2,bk:=N.nx } σ2 g E) E
 |.whil c b,N,σ,g,E=>∃W:Nat->S->G->Prop,(∃m,W m σ g)/\∀m σ g,W m σ g->wpT P c σ g (fun t g1=>if t=true then ∃N2:S->G->Prop,(∀σ' g',N2 σ' g'->∃m',m'<m/\W m' σ' g')/\wpS P b { N with nx:=N2,ct:=N2,bk:=N.nx } σ g1 E else N.nx σ g1) E
 |.ret e,N,σ,g,E=>wpE P e σ g N.rt E
 |.retn,N,_,g,_=>N.rt .non g
 |.brk,N,σ,g,_=>N.bk σ g
 |.cont,N,σ,g,_=>N.ct σ g
 |.raise x es,_,σ,g,E=>wpA P es σ g (fun vs g1=>vs.length<=1000/\E ⟨x⟩ g1) E
 |.W8 b hs,N,σ,g,E=>wpS P b N σ g (wpH P N (σ.map fun _=>none) E hs)
structure MDef where
 ar:Nat
 n:Nat
 body:MS
noncomputable def d0(m:MDef)(ds:List D):S:=ds.map some++List.replicate (m.n-ds.length) none
noncomputable def c5(T:Nat->Option MDef):Nat->Sig
 |0,_,_,_,_,_=>False
 |k+1,f,ds,g,Q,E=>∃m,T f=some m/\ds.length=m.ar/\wpS (c5 T k) m.body ⟨fun _ g'=>Q .non g',Q,fun _ _=>False,fun _ _=>False⟩ (d0 m ds) g E
end M

namespace M
open PySem L2
theorem p8{p xs}{g:G}{Q Q':KD}(h:∀d g,Q d g->Q' d g)(q:prP p xs g Q):prP p xs g Q':=by
 obtain⟨d,g',a,b⟩:=q;exact⟨d,g',a,h _ _ b⟩
theorem aO9{x}{g:G}{k k':Bool->Prop}(h:∀b,k b->k' b)(q:W9 g x k):W9 g x k':=by
 obtain⟨b,a,z⟩:=q;exact⟨b,a,h _ z⟩
theorem R0{x y v}{g:G}{k k':G->Prop}(h:∀g,k g->k' g)(q:S7 x y v g k):S7 x y v g k':=by
 obtain⟨b,a,z⟩:=q;exact⟨b,a,h _ z⟩
theorem aJ7{f cs x v}{g:G}{k k':G->Prop}(h:∀g,k g->k' g)(q:aj5 f cs x v g k):aj5 f cs x v g k':=by
 obtain⟨b,a,z⟩:=q;exact⟨b,a,h _ z⟩
theorem v8{t x σ}{k k':S->Prop}(h:∀σ,k σ->k' σ)(q:tgP t x σ k):tgP t x σ k':=by
 cases t with
 |one i=>exact h _ q
 |many is=>obtain⟨l,σ',a,b,c⟩:=q;exact⟨l,σ',a,b,h _ c⟩
theorem aI5{k σ g}{fin fin':S->G->Prop}{turn turn':D->(S->G->Prop)->S->G->Prop}(h:∀σ g,fin σ g->fin' σ g)(h2:∀x N σ g,turn x N σ g->turn' x N σ g)(q:turns k σ g fin turn):turns k σ g fin' turn':=by
 obtain⟨W,w0,q⟩:=q;refine⟨W,w0,fun i m σ g w=>?_⟩;rcases q i m σ g w with⟨a,b⟩|⟨x,a,N2,b,c⟩
 ·exact .inl ⟨a,h _ _ b⟩
 ·exact .inr ⟨x,a,N2,b,h2 _ _ _ _ c⟩
theorem ag0{k σ g}{fin fin':List D->G->Prop}{turn turn':D->(Option D->S->G->Prop)->S->G->Prop}(h:∀ys g,fin ys g->fin' ys g)(h2:∀x N σ g,turn x N σ g->turn' x N σ g)(q:aj2 k σ g fin turn):aj2 k σ g fin' turn':=by
 obtain⟨W,w0,q⟩:=q;refine⟨W,w0,fun i m ys σ g w=>?_⟩;rcases q i m ys σ g w with⟨a,b⟩|⟨x,a,b,c⟩
 ·exact .inl ⟨a,h _ _ b⟩
 ·exact .inr ⟨x,a,b,h2 _ _ _ _ c⟩
theorem aC4{k σ g}{fin fin':List Int->G->Prop}{turn turn':D->(Option Int->S->G->Prop)->S->G->Prop}(h:∀ys g,fin ys g->fin' ys g)(h2:∀x N σ g,turn x N σ g->turn' x N σ g)(q:aw8 k σ g fin turn):aw8 k σ g fin' turn':=by
 obtain⟨W,w0,q⟩:=q;refine⟨W,w0,fun i m ys σ g w=>?_⟩;rcases q i m ys σ g w with⟨a,b,c⟩|⟨x,a,b,c⟩
 ·exact .inl ⟨a,b,h _ _ c⟩
 ·exact .inr ⟨x,a,b,h2 _ _ _ _ c⟩
theorem E2{t:Bool}{A B A' B':Prop}(h1:A->A')(h2:B->B')(q:if t=true then A else B):if t=true then A' else B':=by
 cases t
 ·exact h2 q
 ·exact h1 q
noncomputable def i4(P:Sig):Prop:=∀f xs g Q Q' E E',(∀d g,Q d g->Q' d g)->(∀x g,E x g->E' x g)->P f xs g Q E->P f xs g Q' E'
mutual
theorem b8{P:Sig}(hP:i4 P):∀(e:ME) (σ:S) (g:G) (Q Q':KD) (E E':KX),(∀d g,Q d g->Q' d g)->(∀x g,E x g->E' x g)->wpE P e σ g Q E->wpE P e σ g Q' E'
 |.var i,σ,g,Q,Q',E,E',h,hx,q=>by
  rw[wpE] at q ⊢;obtain⟨d,a,b⟩:=q;exact⟨d,a,h _ _ b⟩
 |.lit d,σ,g,Q,Q',E,E',h,hx,q=>by rw[wpE] at q ⊢;exact h _ _ q
 |.prim p es,σ,g,Q,Q',E,E',h,hx,q=>by
  rw[wpE] at q ⊢;exact v7 hP es _ _ _ _ _ _ (fun xs g1 q=>p8 h q) hx q
 |.meth p o es,σ,g,Q,Q',E,E',h,hx,q=>by
  rw[wpE] at q ⊢;exact b8 hP o _ _ _ _ _ _ (fun x g1 q=>⟨q.1,v7 hP es _ _ _ _ _ _ (fun xs g2 q=>p8 h q) hx q.2⟩) hx q
 |.dct es,σ,g,Q,Q',E,E',h,hx,q=>by
  rw[wpE] at q ⊢;exact v7 hP es _ _ _ _ _ _ (fun xs g1 ⟨kvs,a,b,c,d⟩=>⟨kvs,a,b,c,h _ _ d⟩) hx q
 |.chain o1 o2 a b c,σ,g,Q,Q',E,E',h,hx,q=>by
  rw[wpE] at q ⊢;refine b8 hP a _ _ _ _ _ _ (fun x g1 q=>b8 hP b _ _ _ _ _ _ (fun y g2 q=>p8 (fun z g3 q=>?_) q) hx q) hx q;obtain⟨t,e,q⟩:=q;exact⟨t,e,E2 (fun q=>b8 hP c _ _ _ _ _ _ (fun w g4 q=>p8 h q) hx q) (h _ _) q⟩
 |.and_ a b,σ,g,Q,Q',E,E',h,hx,q=>by
  rw[wpE] at q ⊢;refine b8 hP a _ _ _ _ _ _ (fun x g1 q=>?_) hx q;obtain⟨t,e,q⟩:=q;exact⟨t,e,E2 (fun q=>b8 hP b _ _ _ _ _ _ h hx q) (h _ _) q⟩
 |.or_ a b,σ,g,Q,Q',E,E',h,hx,q=>by
  rw[wpE] at q ⊢;refine b8 hP a _ _ _ _ _ _ (fun x g1 q=>?_) hx q;obtain⟨t,e,q⟩:=q;exact⟨t,e,E2 (h _ _) (fun q=>b8 hP b _ _ _ _ _ _ h hx q) q⟩
 |.not_ a,σ,g,Q,Q',E,E',h,hx,q=>by
  rw[wpE] at q ⊢;refine b8 hP a _ _ _ _ _ _ (fun x g1 q=>?_) hx q;obtain⟨t,e,q⟩:=q;exact⟨t,e,h _ _ q⟩
 |.ite c a b,σ,g,Q,Q',E,E',h,hx,q=>by
  rw[wpE] at q ⊢;exact n9 hP c _ _ _ _ _ _ (fun t g1 q=>E2 (fun q=>b8 hP a _ _ _ _ _ _ h hx q) (fun q=>b8 hP b _ _ _ _ _ _ h hx q) q) hx q
 |.call f es,σ,g,Q,Q',E,E',h,hx,q=>by
  rw[wpE] at q ⊢;exact v7 hP es _ _ _ _ _ _ (fun xs g1 q=>hP _ _ _ _ _ _ _ h hx q) hx q
 |.make c f es,σ,g,Q,Q',E,E',h,hx,q=>by
  rw[wpE] at q ⊢;exact v7 hP es _ _ _ _ _ _ (fun xs g1 q=>hP _ _ _ _ _ _ _ (fun d g2 q=>⟨q.1,h _ _ q.2⟩) hx q) hx q
 |.methc m cs o es,σ,g,Q,Q',E,E',h,hx,q=>by
  rw[wpE] at q ⊢;refine b8 hP o _ _ _ _ _ _ (fun x g1 q=>?_) hx q;obtain⟨a,c,fs,f,q1,q2,q3,q4,q⟩:=q;exact⟨a,c,fs,f,q1,q2,q3,q4,v7 hP es _ _ _ _ _ _ (fun xs g2 q=>hP _ _ _ _ _ _ _ h hx q) hx q⟩
 |.comp d5 n tg it cond elt,σ,g,Q,Q',E,E',h,hx,q=>by
  rw[wpE] at q ⊢;exact y9 hP it _ _ _ _ _ _ (fun k g1 q=>ag0 (fun ys g q=>h _ _ q) (fun _ _ _ _ q=>q) q) hx q
 |.rcomp d5 n tg it cond elt,σ,g,Q,Q',E,E',h,hx,q=>by
  rw[wpE] at q ⊢;exact y9 hP it _ _ _ _ _ _ (fun k g1 q=>ag0 (fun ys g q=>h _ _ q) (fun x N σ g q=>v8 (fun σ2 q=>n9 hP cond _ _ _ _ _ _ (fun b g3 q=>by
   cases b
   ·exact q
   ·exact b8 hP elt _ _ _ _ _ _ (fun _ _ z=>z) hx q) (fun _ _ z=>z) q) q) q) hx q
 |.scomp d5 n tg it cond elt,σ,g,Q,Q',E,E',h,hx,q=>by
  rw[wpE] at q ⊢;exact y9 hP it _ _ _ _ _ _ (fun k g1 q=>aC4 (fun ys g q=>h _ _ q) (fun _ _ _ _ q=>q) q) hx q
 |.nil,σ,g,Q,Q',E,E',h,hx,q=>(show False from q).elim
 |.cons _ _,σ,g,Q,Q',E,E',h,hx,q=>(show False from q).elim
 |.itE _,σ,g,Q,Q',E,E',h,hx,q=>(show False from q).elim
 |.itR1 _,σ,g,Q,Q',E,E',h,hx,q=>(show False from q).elim
 |.itR2 _ _,σ,g,Q,Q',E,E',h,hx,q=>(show False from q).elim
 |.itN _,σ,g,Q,Q',E,E',h,hx,q|.itV _,σ,g,Q,Q',E,E',h,hx,q=>(show False from q).elim
 |.tst _,σ,g,Q,Q',E,E',h,hx,q=>(show False from q).elim
 |.no,σ,g,Q,Q',E,E',h,hx,q=>(show False from q).elim
theorem v7{P:Sig}(hP:i4 P):∀(e:ME) (σ:S) (g:G) (Q Q':List D->G->Prop) (E E':KX),(∀d g,Q d g->Q' d g)->(∀x g,E x g->E' x g)->wpA P e σ g Q E->wpA P e σ g Q' E'
 |.nil,σ,g,Q,Q',E,E',h,hx,q=>by rw[wpA] at q ⊢;exact h _ _ q
 |.cons a b,σ,g,Q,Q',E,E',h,hx,q=>by
  rw[wpA] at q ⊢;exact b8 hP a _ _ _ _ _ _ (fun x g1 q=>v7 hP b _ _ _ _ _ _ (fun xs g2 q=>h _ _ q) hx q) hx q
 |.var _,σ,g,Q,Q',E,E',h,hx,q|.lit _,σ,g,Q,Q',E,E',h,hx,q|.prim _ _,σ,g,Q,Q',E,E',h,hx,q|.meth _ _ _,σ,g,Q,Q',E,E',h,hx,q|.dct _,σ,g,Q,Q',E,E',h,hx,q|.chain _ _ _ _ _,σ,g,Q,Q',E,E',h,hx,q|.and_ _ _,σ,g,Q,Q',E,E',h,hx,q|.or_ _ _,σ,g,Q,Q',E,E',h,hx,q|.not_ _,σ,g,Q,Q',E,E',h,hx,q|.ite _ _ _,σ,g,Q,Q',E,E',h,hx,q|.call _ _,σ,g,Q,Q',E,E',h,hx,q
 |.make _ _ _,σ,g,Q,Q',E,E',h,hx,q|.methc _ _ _ _,σ,g,Q,Q',E,E',h,hx,q|.comp _ _ _ _ _ _,σ,g,Q,Q',E,E',h,hx,q|.scomp _ _ _ _ _ _,σ,g,Q,Q',E,E',h,hx,q|.rcomp _ _ _ _ _ _,σ,g,Q,Q',E,E',h,hx,q|.itE _,σ,g,Q,Q',E,E',h,hx,q|.itR1 _,σ,g,Q,Q',E,E',h,hx,q|.itR2 _ _,σ,g,Q,Q',E,E',h,hx,q|.itN _,σ,g,Q,Q',E,E',h,hx,q|.itV _,σ,g,Q,Q',E,E',h,hx,q|.tst _,σ,g,Q,Q',E,E',h,hx,q|.no,σ,g,Q,Q',E,E',h,hx,q=>(show False from q).elim
theorem n9{P:Sig}(hP:i4 P):∀(e:ME) (σ:S) (g:G) (Q Q':Bool->G->Prop) (E E':KX),(∀d g,Q d g->Q' d g)->(∀x g,E x g->E' x g)->wpT P e σ g Q E->wpT P e σ g Q' E'
 |.and_ a b,σ,g,Q,Q',E,E',h,hx,q=>by
  rw[wpT] at q ⊢;exact n9 hP a _ _ _ _ _ _ (fun t g1 q=>E2 (fun q=>n9 hP b _ _ _ _ _ _ h hx q) (h _ _) q) hx q
 |.or_ a b,σ,g,Q,Q',E,E',h,hx,q=>by
  rw[wpT] at q ⊢;exact n9 hP a _ _ _ _ _ _ (fun t g1 q=>E2 (h _ _) (fun q=>n9 hP b _ _ _ _ _ _ h hx q) q) hx q
 |.not_ a,σ,g,Q,Q',E,E',h,hx,q=>by rw[wpT] at q ⊢;exact n9 hP a _ _ _ _ _ _ (fun t g1 q=>h _ _ q) hx q
 |.no,σ,g,Q,Q',E,E',h,hx,q=>by rw[wpT] at q ⊢;exact h _ _ q
 |.tst e,σ,g,Q,Q',E,E',h,hx,q=>by rw[wpT] at q ⊢;exact b8 hP e _ _ _ _ _ _ (fun x g1 q=>aO9 (fun b q=>h _ _ q) q) hx q
 |.var _,σ,g,Q,Q',E,E',h,hx,q|.lit _,σ,g,Q,Q',E,E',h,hx,q|.prim _ _,σ,g,Q,Q',E,E',h,hx,q|.meth _ _ _,σ,g,Q,Q',E,E',h,hx,q|.dct _,σ,g,Q,Q',E,E',h,hx,q|.chain _ _ _ _ _,σ,g,Q,Q',E,E',h,hx,q|.ite _ _ _,σ,g,Q,Q',E,E',h,hx,q|.call _ _,σ,g,Q,Q',E,E',h,hx,q|.nil,σ,g,Q,Q',E,E',h,hx,q|.cons _ _,σ,g,Q,Q',E,E',h,hx,q
 |.make _ _ _,σ,g,Q,Q',E,E',h,hx,q|.methc _ _ _ _,σ,g,Q,Q',E,E',h,hx,q|.comp _ _ _ _ _ _,σ,g,Q,Q',E,E',h,hx,q|.scomp _ _ _ _ _ _,σ,g,Q,Q',E,E',h,hx,q|.rcomp _ _ _ _ _ _,σ,g,Q,Q',E,E',h,hx,q|.itE _,σ,g,Q,Q',E,E',h,hx,q|.itR1 _,σ,g,Q,Q',E,E',h,hx,q|.itR2 _ _,σ,g,Q,Q',E,E',h,hx,q|.itN _,σ,g,Q,Q',E,E',h,hx,q|.itV _,σ,g,Q,Q',E,E',h,hx,q=>(show False from q).elim
theorem y9{P:Sig}(hP:i4 P):∀(e:ME) (σ:S) (g:G) (Q Q':IK->G->Prop) (E E':KX),(∀d g,Q d g->Q' d g)->(∀x g,E x g->E' x g)->wpI P e σ g Q E->wpI P e σ g Q' E'
 |.itE e,σ,g,Q,Q',E,E',h,hx,q=>by
  rw[wpI] at q ⊢;exact b8 hP e _ _ _ _ _ _ (fun x g1 q=>q.imp (fun⟨l,a,b⟩=>⟨l,a,h _ _ b⟩) fun⟨i,l,a,b,c⟩=>⟨i,l,a,b,h _ _ c⟩) hx q
 |.itR1 a,σ,g,Q,Q',E,E',h,hx,q=>by
  rw[wpI] at q ⊢;exact b8 hP a _ _ _ _ _ _ (fun x g1 ⟨j,a,b,c,d⟩=>⟨j,a,b,c,h _ _ d⟩) hx q
 |.itR2 a b,σ,g,Q,Q',E,E',h,hx,q=>by
  rw[wpI] at q ⊢;exact b8 hP a _ _ _ _ _ _ (fun x g1 q=>b8 hP b _ _ _ _ _ _ (fun y g2 ⟨i,j,a,b,c,d⟩=>⟨i,j,a,b,c,h _ _ d⟩) hx q) hx q
 |.itN e,σ,g,Q,Q',E,E',h,hx,q=>by
  rw[wpI] at q ⊢;exact b8 hP e _ _ _ _ _ _ (fun x g1 ⟨i,l,a,b,c⟩=>⟨i,l,a,b,h _ _ c⟩) hx q
 |.itV e,σ,g,Q,Q',E,E',h,hx,q=>by
  rw[wpI] at q ⊢;exact b8 hP e _ _ _ _ _ _ (fun x g1 ⟨i,l,a,b,c⟩=>⟨i,l,a,b,h _ _ c⟩) hx q
 |.var _,σ,g,Q,Q',E,E',h,hx,q|.lit _,σ,g,Q,Q',E,E',h,hx,q|.prim _ _,σ,g,Q,Q',E,E',h,hx,q|.meth _ _ _,σ,g,Q,Q',E,E',h,hx,q|.dct _,σ,g,Q,Q',E,E',h,hx,q|.chain _ _ _ _ _,σ,g,Q,Q',E,E',h,hx,q|.ite _ _ _,σ,g,Q,Q',E,E',h,hx,q|.call _ _,σ,g,Q,Q',E,E',h,hx,q|.nil,σ,g,Q,Q',E,E',h,hx,q|.cons _ _,σ,g,Q,Q',E,E',h,hx,q
 |.and_ _ _,σ,g,Q,Q',E,E',h,hx,q|.or_ _ _,σ,g,Q,Q',E,E',h,hx,q|.not_ _,σ,g,Q,Q',E,E',h,hx,q|.tst _,σ,g,Q,Q',E,E',h,hx,q|.no,σ,g,Q,Q',E,E',h,hx,q
 |.make _ _ _,σ,g,Q,Q',E,E',h,hx,q|.methc _ _ _ _,σ,g,Q,Q',E,E',h,hx,q|.comp _ _ _ _ _ _,σ,g,Q,Q',E,E',h,hx,q|.scomp _ _ _ _ _ _,σ,g,Q,Q',E,E',h,hx,q|.rcomp _ _ _ _ _ _,σ,g,Q,Q',E,E',h,hx,q=>(show False from q).elim
end
structure Ends.le(N N':Ends):Prop where
 nx:∀σ g,N.nx σ g->N'.nx σ g
 rt:∀d g,N.rt d g->N'.rt d g
 bk:∀σ g,N.bk σ g->N'.bk σ g
 ct:∀σ g,N.ct σ g->N'.ct σ g
theorem aw1{P:Sig}(hP:i4 P){N N':Ends}{E E':KX}(h:N.le N')(hx:∀x g,E x g->E' x g){σ:S}:∀(hs:List (Str×ME)) x g,wpH P N σ E hs x g->wpH P N' σ E' hs x g
 |[],x,g,q=>hx x g q
 |(y,e)::r,x,g,q=>by
  unfold wpH at q ⊢;split
  ·rename_i hh;rw[if_pos hh] at q;exact b8 hP e _ _ _ _ _ _ h.rt (fun _ _ z=>z) q
  ·rename_i hh;rw[if_neg hh] at q;exact aw1 hP h hx r x g q
theorem wpS_mono{P:Sig}(hP:i4 P):∀(s:MS) (N N':Ends) (σ:S) (g:G) (E E':KX),N.le N'->(∀x g,E x g->E' x g)->wpS P s N σ g E->wpS P s N' σ g E'
 |.pass,N,N',σ,g,E,E',h,hx,q=>h.nx _ _ q
 |.seq a b,N,N',σ,g,E,E',h,hx,q=>wpS_mono hP a { N with nx:=fun σ1 g1=>wpS P b N σ1 g1 E } { N' with nx:=fun σ1 g1=>wpS P b N' σ1 g1 E' } _ _ _ _ ⟨fun σ1 g1 q=>wpS_mono hP b _ _ _ _ _ _ h hx q,h.rt,h.bk,h.ct⟩ hx q
 |.expr e,N,N',σ,g,E,E',h,hx,q=>b8 hP e _ _ _ _ _ _ (fun x g1 q=>h.nx _ _ q) hx q
 |.set i e,N,N',σ,g,E,E',h,hx,q=>b8 hP e _ _ _ _ _ _ (fun x g1 q=>h.nx _ _ q) hx q
 |.unp t e,N,N',σ,g,E,E',h,hx,q=>b8 hP e _ _ _ _ _ _ (fun x g1 q=>v8 (fun σ q=>h.nx _ _ q) q) hx q
 |.setix o i v,N,N',σ,g,E,E',h,hx,q=>b8 hP v _ _ _ _ _ _ (fun x g1 q=>b8 hP o _ _ _ _ _ _ (fun y g2 q=>b8 hP i _ _ _ _ _ _ (fun z g3 q=>R0 (fun g q=>h.nx _ _ q) q) hx q) hx q) hx q
 |.setf f cs o v,N,N',σ,g,E,E',h,hx,q=>b8 hP v _ _ _ _ _ _ (fun x g1 q=>b8 hP o _ _ _ _ _ _ (fun y g2 q=>aJ7 (fun g q=>h.nx _ _ q) q) hx q) hx q
 | .augf f cs o v,N,N',σ,g,E,E',h,hx,q=>b8 hP o _ _ _ _ _ _ (fun y g1 q=>by
   obtain⟨a,c,fs,x,q1,q2,q3,q4,q⟩:=q;exact ⟨a,c,fs,x,q1,q2,q3,q4,b8 hP v _ _ _ _ _ _ (fun z g3 q=>p8 (fun w g4 q=>by
    obtain⟨fs',k1,k2,k3⟩:=q;exact ⟨fs',k1,k2,h.nx _ _ k3⟩) q) hx q⟩) hx q
 |.swp o1 i1 o2 i2 e,N,N',σ,g,E,E',h,hx,q=>b8 hP e _ _ _ _ _ _ (fun x g1 q=>let ⟨u,v,q1,q⟩:=q;⟨u,v,q1,b8 hP o1 _ _ _ _ _ _ (fun y g2 q=>b8 hP i1 _ _ _ _ _ _ (fun z g3 q=>R0 (fun g4 q=>b8 hP o2 _ _ _ _ _ _ (fun y g5 q=>b8 hP i2 _ _ _ _ _ _ (fun z g6 q=>R0 (fun g q=>h.nx _ _ q) q) hx q) hx q) q) hx q) hx q⟩) hx q
 |.augl i p v,N,N',σ,g,E,E',h,hx,q=>let ⟨x,q1,q⟩:=q;⟨x,q1,b8 hP v _ _ _ _ _ _ (fun z g1 q=>p8 (fun w g2 q=>h.nx _ _ q) q) hx q⟩
 |.ifs c a b,N,N',σ,g,E,E',h,hx,q=>n9 hP c _ _ _ _ _ _ (fun t g1 q=>E2 (fun q=>wpS_mono hP a _ _ _ _ _ _ h hx q) (fun q=>wpS_mono hP b _ _ _ _ _ _ h hx q) q) hx q
 |.for_ t it b,N,N',σ,g,E,E',h,hx,q=>y9 hP it _ _ _ _ _ _ (fun k g1 q=>aI5 h.nx (fun x N2 σ g q=>v8 (fun σ2 q=>wpS_mono hP b { N with nx:=N2,ct:=N2,bk:=N.nx } { N' with nx:=N2,ct:=N2,bk:=N'.nx } _ _ _ _ ⟨fun _ _ z=>z,h.rt,h.nx,fun _ _ z=>z⟩ hx q) q) q) hx q
 |.whil c b,N,N',σ,g,E,E',h,hx,q=>by
  obtain⟨W,w0,q⟩:=q;refine⟨W,w0,fun m σ g w=>n9 hP c _ _ _ _ _ _ (fun t g1 q=>E2 (fun q=>?_) (h.nx _ _) q) hx (q m σ g w)⟩;obtain⟨N2,a,q⟩:=q;exact⟨N2,a,wpS_mono hP b { N with nx:=N2,ct:=N2,bk:=N.nx } { N' with nx:=N2,ct:=N2,bk:=N'.nx } _ _ _ _ ⟨fun _ _ z=>z,h.rt,h.nx,fun _ _ z=>z⟩ hx q⟩
 |.ret e,N,N',σ,g,E,E',h,hx,q=>b8 hP e _ _ _ _ _ _ h.rt hx q
 |.retn,N,N',σ,g,E,E',h,hx,q=>h.rt _ _ q
 |.brk,N,N',σ,g,E,E',h,hx,q=>h.bk _ _ q
 |.cont,N,N',σ,g,E,E',h,hx,q=>h.ct _ _ q
 |.raise x es,N,N',σ,g,E,E',h,hx,q=>v7 hP es _ _ _ _ _ _ (fun vs g1 q=>⟨q.1,hx _ _ q.2⟩) hx q
 |.W8 b hs,N,N',σ,g,E,E',h,hx,q=>wpS_mono hP b _ _ _ _ _ _ h (fun x g q=>aw1 hP h hx hs x g q) q
theorem b0(T:Nat->Option MDef):∀k,i4 (c5 T k)
 |0=>fun f xs g Q Q' E E' h hx q=>q.elim
 |k+1=>fun f xs g Q Q' E E' h hx q=>by
  obtain⟨m,a,b,q⟩:=q;exact⟨m,a,b,wpS_mono (b0 T k) m.body ⟨fun _ g'=>Q .non g',Q,fun _ _=>False,fun _ _=>False⟩ _ _ _ _ _ ⟨fun _ _ z=>h _ _ z,h,fun _ _ z=>z,fun _ _ z=>z⟩ hx q⟩
end M

namespace M
open PySem L2
noncomputable def TupAt(K:PySem.W.Frag)(H:Hp)(a:Addr)(vs:List V):Prop :=
 H a=some (.tup vs)\/∃(o:Obj) (its:Array Value) (n:Nat),K.lookup a=some o/\o.cls=.type "tuple"/\o.dict=none/\o.data=.seq its n/\its.size<=sizeLine/\Vals vs its.toList
theorem TupAt.d{K:PySem.W.Frag}{H:Hp}{a:Addr}{vs:List V}(h:TupAt K H a vs):a47 K H a vs:=h
theorem TupAt.sq{K:PySem.W.Frag}{H:Hp}{a:Addr}{vs:List V}(h:TupAt K H a vs):SqT K H a vs:=h.d.sq
mutual
inductive d8(K:PySem.W.Frag)(ρ:List Addr)(H:Hp):D->V->Prop
 |non:d8 K ρ H .non .non
 |bl (b:Bool):d8 K ρ H (.bl b) (.bl b)
 |int (i:Int):d8 K ρ H (.int i) (.int i)
 |str (x:Str):d8 K ρ H (.str x) (.str x)
 |ty (n:String):d8 K ρ H (.ty n) (.ty n)
 |ref {i:Nat} {a:Addr} (h:ρ[i]?=some a):d8 K ρ H (.ref i) (.ref a)
 |tup {l:List D} {a:Addr} {vs:List V} (h:TupAt K H a vs) (r:b9 K ρ H l vs):d8 K ρ H (.tup l) (.ref a)
inductive b9(K:PySem.W.Frag)(ρ:List Addr)(H:Hp):List D->List V->Prop
 |nil:b9 K ρ H [] []
 |cons {d:D} {v:V} {ds:List D} {vs:List V} (h:d8 K ρ H d v) (r:b9 K ρ H ds vs):b9 K ρ H (d::ds) (v::vs)
end
structure Ext(ρ:List Addr)(H:Hp)(ρ':List Addr)(H':Hp):Prop where
 pre:∃more,ρ'=ρ++more
 tup:∀a xs,H a=some (.tup xs)->H' a=some (.tup xs)
theorem Ext.refl(ρ:List Addr)(H:Hp):Ext ρ H ρ H:=⟨⟨[],by simp⟩,fun _ _ h=>h⟩
theorem Ext.trans{ρ H ρ1 H1 ρ2 H2}(a:Ext ρ H ρ1 H1)(b:Ext ρ1 H1 ρ2 H2):Ext ρ H ρ2 H2:=by
 obtain⟨⟨m,rfl⟩,t⟩:=a;obtain⟨⟨m',rfl⟩,t'⟩:=b;exact⟨⟨m++m',by simp⟩,fun x xs h=>t' _ _ (t _ _ h)⟩
theorem Ext.get{ρ H ρ' H'}(e:Ext ρ H ρ' H'){i:Nat}{a:Addr}(h:ρ[i]?=some a):ρ'[i]?=some a:=by
 obtain⟨⟨m,rfl⟩,_⟩:=e;rw[List.getElem?_append_left (List.getElem?_eq_some_iff.mp h).1];exact h
theorem TupAt.ext{K ρ H ρ' H'}(e:Ext ρ H ρ' H'){a:Addr}{vs:List V}(h:TupAt K H a vs):TupAt K H' a vs:=h.elim (fun z=>.inl (e.tup _ _ z)) .inr
mutual
theorem d8.ext{K ρ H ρ' H'}(e:Ext ρ H ρ' H'):∀{d v},d8 K ρ H d v->d8 K ρ' H' d v
 |_,_,.non=>.non
 |_,_,.bl b=>.bl b
 |_,_,.int i=>.int i
 |_,_,.str x=>.str x
 |_,_,.ty n=>.ty n
 |_,_,.ref h=>.ref (e.get h)
 |_,_,.tup h r=>.tup (h.ext e) (b9.ext e r)
theorem b9.ext{K ρ H ρ' H'}(e:Ext ρ H ρ' H'):∀{ds vs},b9 K ρ H ds vs->b9 K ρ' H' ds vs
 |_,_,.nil=>.nil
 |_,_,.cons h r=>.cons (d8.ext e h) (b9.ext e r)
end
theorem b9.length{K ρ H}:∀{ds vs},b9 K ρ H ds vs->ds.length=vs.length
 |_,_,.nil=>rfl
 |_,_,.cons _ r=>by simp[b9.length r]
theorem b9.get{K ρ H}:∀{ds vs} {i:Nat} {d:D},b9 K ρ H ds vs->ds[i]?=some d->∃v,vs[i]?=some v/\d8 K ρ H d v
 |_,_,_,_,.nil,h=>by simp at h
 |_,_,0,_,.cons h _,e=>by simp at e;subst e;exact⟨_,rfl,h⟩
 |_,_,i+1,d,.cons _ r,e=>by
  obtain⟨v,h1,h2⟩:=b9.get (i:=i) (d:=d) r (by simpa using e);exact⟨v,by simpa using h1,h2⟩
theorem b9.set{K ρ H}{d:D}{v:V}(h:d8 K ρ H d v):∀{ds vs} (i:Nat),b9 K ρ H ds vs->b9 K ρ H (ds.set i d) (vs.set i v)
 |_,_,_,.nil=>.nil
 |_,_,0,.cons _ r=>.cons h r
 |_,_,i+1,.cons q r=>.cons q (b9.set h i r)
theorem b9.append{K ρ H}:∀{ds es:List D} {vs ws:List V},b9 K ρ H ds vs->b9 K ρ H es ws->b9 K ρ H (ds++es) (vs++ws)
 |_,_,_,_,.nil,s=>s
 |_,_,_,_,.cons h r,s=>.cons h (b9.append r s)
theorem b9.rep{K ρ H}{ds:List D}{vs:List V}(r:b9 K ρ H ds vs):∀n,b9 K ρ H (List.replicate n ds).flatten (List.replicate n vs).flatten
 |0=>.nil
 |n+1=>by
  rw[List.replicate_succ,List.replicate_succ,List.flatten_cons,List.flatten_cons];exact b9.append r (b9.rep r n)
theorem b9.erase{K ρ H}:∀{ds:List D} {vs:List V} (i:Nat),b9 K ρ H ds vs->b9 K ρ H (ds.eraseIdx i) (vs.eraseIdx i)
 |_,_,_,.nil=>.nil
 |_,_,0,.cons _ r=>r
 |_,_,i+1,.cons q r=>.cons q (b9.erase i r)
theorem b9.take{K ρ H}:∀{ds:List D} {vs:List V} (n:Nat),b9 K ρ H ds vs->b9 K ρ H (ds.take n) (vs.take n)
 |_,_,0,_=>.nil
 |_,_,_+1,.nil=>.nil
 |_,_,n+1,.cons h r=>.cons h (b9.take n r)
theorem b9.drop{K ρ H}:∀{ds:List D} {vs:List V} (n:Nat),b9 K ρ H ds vs->b9 K ρ H (ds.drop n) (vs.drop n)
 |_,_,0,r=>r
 |_,_,_+1,.nil=>.nil
 |_,_,n+1,.cons _ r=>b9.drop n r
theorem b9.reverse{K ρ H}:∀{ds:List D} {vs:List V},b9 K ρ H ds vs->b9 K ρ H ds.reverse vs.reverse
 |_,_,.nil=>.nil
 |_,_,.cons h r=>by
  rw[List.reverse_cons,List.reverse_cons];exact b9.append (b9.reverse r) (.cons h .nil)
theorem b9.cut{K ρ H}{ds:List D}{vs:List V}(r:b9 K ρ H ds vs)(lo hi:Option Int):b9 K ρ H (M.cut ds lo hi) (Q4 vs lo hi):=by
 unfold M.cut Q4;rw[r.length];exact(r.drop _).take _
theorem b9.ints{K ρ H}:∀{ns:List Int} {vs:List V},b9 K ρ H (ns.map D.int) vs->vs=ns.map V.int
 |[],_,.nil=>rfl
 |_::_,_,.cons h r=>by cases h;rw[b9.ints r];rfl
theorem b9.ofInts{K ρ H}:∀(ns:List Int),b9 K ρ H (ns.map D.int) (ns.map V.int)
 |[]=>.nil
 |n::r=>.cons (.int n) (b9.ofInts r)
noncomputable def af8(K:PySem.W.Frag)(H:Hp)(a:Addr)(vs:List V):Prop :=
 (∃o,H a=some (.frz o (.lst vs)))\/∃(o:Obj) (its:Array Value) (n:Nat),K.lookup a=some o/\o.cls=.type "list"/\o.dict=none/\o.data=.seq its n/\its.size<=sizeLine/\Vals vs its.toList
theorem af8.sq{K:PySem.W.Frag}{H:Hp}{a:Addr}{vs:List V}(h:af8 K H a vs):SqL K H a vs:=h.elim (fun⟨o,z⟩=>.inl (.inr ⟨o,z⟩)) .inr
inductive i5{α:Type}(K:PySem.W.Frag)(ρ:List Addr)(H:Hp):List (α×D)->List (α×V)->Prop
 |nil:i5 K ρ H [] []
 |cons {k:α} {d:D} {v:V} {ds:List (α×D)} {vs:List (α×V)} (h:d8 K ρ H d v) (r:i5 K ρ H ds vs):i5 K ρ H ((k,d)::ds) ((k,v)::vs)
theorem i5.ext{α:Type}{K ρ H ρ' H'}(e:Ext ρ H ρ' H'){ds:List (α×D)}{vs:List (α×V)}(h:i5 K ρ H ds vs):i5 K ρ' H' ds vs:=by
 induction h with
 |nil=>exact .nil
 |cons h r ih=>exact .cons (h.ext e) ih
theorem i5.length{α:Type}{K ρ H}{ds:List (α×D)}{vs:List (α×V)}(h:i5 K ρ H ds vs):ds.length=vs.length:=by
 induction h with
 |nil=>rfl
 |cons h r ih=>simp[ih]
noncomputable def aa2(K:PySem.W.Frag)(ρ:List Addr)(H:Hp):Option D->Option V->Prop
 |some d,some v=>d8 K ρ H d v
 |none,none=>True
 |_,_=>False
theorem i5.val{K ρ H}:∀{ds vs} (k:Key),i5 K ρ H ds vs->aa2 K ρ H (p6 ds k) (J7 vs k)
 |_,_,k,.nil=>trivial
 |_,_,k,.cons (k:=k') h r=>by
  unfold p6 J7;rw[List.find?_cons,List.find?_cons];by_cases e:k'=k
  ·simp only[e,decide_true];exact h
  ·simp only[e,decide_false];exact i5.val k r
theorem i5.a79{K ρ H}:∀{ds vs} (k:Key),i5 K ρ H ds vs->(ds.any fun kv=>decide (kv.1=k))=(vs.any fun kv=>decide (kv.1=k))
 |_,_,k,.nil=>rfl
 |_,_,k,.cons h r=>by simp only[List.any_cons,i5.a79 k r]
theorem i5.snoc{K ρ H}{k:Key}{d:D}{v:V}(h:d8 K ρ H d v):∀{ds vs},i5 K ρ H ds vs->i5 K ρ H (ds++[(k,d)]) (vs++[(k,v)])
 |_,_,.nil=>.cons h .nil
 |_,_,.cons q r=>.cons q (i5.snoc h r)
theorem i5.ay7{K ρ H}{k:Key}{d:D}{v:V}(h:d8 K ρ H d v):∀{ds vs},i5 K ρ H ds vs->i5 K ρ H (ds.map fun kv=>if kv.1=k then(kv.1,d) else kv) (vs.map fun kv=>if kv.1=k then(kv.1,v) else kv)
 |_,_,.nil=>.nil
 |_,_,.cons (k:=k') q r=>by
  simp only[List.map_cons];by_cases e:k'=k
  ·rw[if_pos e,if_pos e];exact .cons h (i5.ay7 h r)
  ·rw[if_neg e,if_neg e];exact .cons q (i5.ay7 h r)
theorem i5.put{K ρ H}{k:Key}{d:D}{v:V}(h:d8 K ρ H d v){ds vs}(r:i5 K ρ H ds vs):i5 K ρ H (putD ds k d) (putK vs k v):=by
 unfold putD putK;rw[r.a79 k];split
 ·exact r.ay7 h
 ·exact r.snoc h
noncomputable abbrev p0(K:PySem.W.Frag)(x:Str)(C:Addr):Prop:=PySem.W.nsIn K mainGlobals x=some (some (.ref C))
theorem i5.look{K ρ H}{ds:List (Str×D)}{vs:List (Str×V)}(f:Str)(h:i5 K ρ H ds vs):aa2 K ρ H (ds.lookup f) (vs.lookup f):=by
 induction h with
 |nil=>trivial
 |cons h r ih =>
  rename_i k d v ds vs;rw[List.lookup_cons,List.lookup_cons];cases f==k
  ·exact ih
  ·exact h
theorem i5.u4{K ρ H}{f:Str}{d:D}{v:V}(h:d8 K ρ H d v){ds:List (Str×D)}{vs:List (Str×V)}(r:i5 K ρ H ds vs):i5 K ρ H (j6 f d ds) (L2.u4 f v vs):=by
 induction r with
 |nil=>exact .cons h .nil
 |cons q r ih =>
  unfold j6 L2.u4;split
  ·exact .cons h r
  ·exact .cons q ih
theorem X4{f:Str}{d:D}{p:Str->Prop}(hf:p f):∀{ds:List (Str×D)},(∀x∈ds,p x.1)->∀x∈j6 f d ds,p x.1
 |[],_,x,hx=>by
  have:x=(f,d):=by simpa[j6] using hx
  rw[this];exact hf
 |(k,e)::r,h,x,hx=>by
  unfold j6 at hx;split at hx
  ·rcases List.mem_cons.mp hx with z|z
   ·rw[z];exact h (k,e) (by simp)
   ·exact h x (by simp[z])
  ·rcases List.mem_cons.mp hx with z|z
   ·rw[z];exact h (k,e) (by simp)
   ·exact X4 hf (fun y hy=>h y (by simp[hy])) x z
noncomputable def OH(K:PySem.W.Frag)(ρ:List Addr)(H:Hp):O->HO->Prop
 |.lst l,.lst vs=>b9 K ρ H l vs
 |.dic kvs,.dK vs=>i5 K ρ H kvs vs
 |.set S n,.set S' n'=>S=S'/\n=n'
 |.ins c fs,.ins C _ vs=>p0 K c C/\Cls K C/\i5 K ρ H fs vs/\∀x∈fs,w5 K C x.1
 |_,_=>False
theorem OH.ext{K ρ H ρ' H'}(e:Ext ρ H ρ' H'){o:O}{u:HO}(h:OH K ρ H o u):OH K ρ' H' o u:=by
 cases o<;>cases u<;>first|exact h.elim|exact b9.ext e h|exact i5.ext e h|exact⟨h.1,h.2.1,h.2.2.1.ext e,h.2.2.2⟩|exact h
theorem OH.ae1{K ρ H}{o:O}{xs:List V}(h:OH K ρ H o (.tup xs)):False:=by cases o<;>exact h
theorem OH.bz6{K ρ H}{o:O}{ob:Obj}{u:HO}(h:OH K ρ H o (.frz ob u)):False:=by cases o<;>exact h
noncomputable def F2(K:PySem.W.Frag)(ρ:List Addr)(H:Hp)(o:O)(a:Addr):Prop:=match o with
 |.fro l=>∃vs,af8 K H a vs/\b9 K ρ H l vs
 |o=>∃u,H a=some u/\OH K ρ H o u
theorem F2.of{K ρ H}{o:O}{a:Addr}{u:HO}(hu:H a=some u)(h:OH K ρ H o u):F2 K ρ H o a:=by
 cases o<;>first|exact⟨u,hu,h⟩|(cases u<;>exact h.elim)
theorem F2.inv{K ρ H}{o:O}{a:Addr}(m:o.mut=true)(h:F2 K ρ H o a):∃u,H a=some u/\OH K ρ H o u:=by
 cases o<;>first|exact h|cases m
theorem F2.lst{K ρ H}{l:List D}{a:Addr}(h:F2 K ρ H (.lst l) a):∃vs,H a=some (.lst vs)/\b9 K ρ H l vs:=by
 obtain⟨u,h1,h2⟩:=h;cases u<;>first|exact⟨_,h1,h2⟩|exact h2.elim
theorem F2.dic{K ρ H}{l:List (Key×D)}{a:Addr}(h:F2 K ρ H (.dic l) a):∃vs,H a=some (.dK vs)/\i5 K ρ H l vs:=by
 obtain⟨u,h1,h2⟩:=h;cases u<;>first|exact⟨_,h1,h2⟩|exact h2.elim
theorem F2.set{K ρ H}{S:Int->Bool}{n:Nat}{a:Addr}(h:F2 K ρ H (.set S n) a):H a=some (.set S n):=by
 obtain⟨u,h1,h2⟩:=h;cases u<;>first|(obtain⟨rfl,rfl⟩:=(show _/\_ from h2);exact h1)|exact h2.elim
theorem F2.ins{K ρ H}{c:Str}{fs:List (Str×D)}{a:Addr}(h:F2 K ρ H (.ins c fs) a):∃C dx vs,H a=some (.ins C dx vs)/\p0 K c C/\Cls K C/\i5 K ρ H fs vs/\∀x∈fs,w5 K C x.1:=by
 obtain⟨u,h1,h2⟩:=h;cases u<;>first|exact⟨_,_,_,h1,h2⟩|exact h2.elim
structure Rl(K:PySem.W.Frag)(ρ:List Addr)(g:G)(H:Hp):Prop where
 len:ρ.length=g.length
 obj:∀(i:Nat) o a,g[i]?=some o->ρ[i]?=some a->F2 K ρ H o a
 nd:∀(i j:Nat) o o' a,g[i]?=some o->g[j]?=some o'->o.mut=true->o'.mut=true->ρ[i]?=some a->ρ[j]?=some a->i=j
section
variable{K:PySem.W.Frag}{ρ:List Addr}{g:G}{H:Hp}
theorem Rl.lst(R:Rl K ρ g H){i:Nat}{l:List D}{a:Addr}(h:g[i]?=some (.lst l))(ha:ρ[i]?=some a):∃vs,H a=some (.lst vs)/\b9 K ρ H l vs:=(R.obj _ _ _ h ha).lst
theorem Rl.dic(R:Rl K ρ g H){i:Nat}{l:List (Key×D)}{a:Addr}(h:g[i]?=some (.dic l))(ha:ρ[i]?=some a):∃vs,H a=some (.dK vs)/\i5 K ρ H l vs:=(R.obj _ _ _ h ha).dic
theorem Rl.set(R:Rl K ρ g H){i:Nat}{S:Int->Bool}{n:Nat}{a:Addr}(h:g[i]?=some (.set S n))(ha:ρ[i]?=some a):H a=some (.set S n):=(R.obj _ _ _ h ha).set
theorem Rl.ins(R:Rl K ρ g H){i:Nat}{c:Str}{fs:List (Str×D)}{a:Addr}(h:g[i]?=some (.ins c fs))(ha:ρ[i]?=some a):∃C dx vs,H a=some (.ins C dx vs)/\p0 K c C/\Cls K C/\i5 K ρ H fs vs/\∀x∈fs,w5 K C x.1:=(R.obj _ _ _ h ha).ins
theorem Rl.items(R:Rl K ρ g H){i:Nat}{l:List D}{a:Addr}(h:d4 g i=some l)(ha:ρ[i]?=some a):∃vs,SqL K H a vs/\b9 K ρ H l vs:=by
 cases e:g[i]? with
 |none=>rw[d4,e] at h;cases h
 |some o =>
  rw[d4,e] at h;have q:=R.obj _ _ _ e ha;cases o with
  |lst m=>cases h;obtain⟨vs,z,r⟩:=q.lst;exact⟨vs,SqL.of z,r⟩
  |fro m=>cases h;obtain⟨vs,z,r⟩:=q;exact⟨vs,z.sq,r⟩
  |_=>cases h
theorem v5{p:Addr}{o:HO}(hp:H p=none):Ext ρ H ρ (upd H p o):=⟨⟨[],by simp⟩,fun a xs h=>by rw[f7 (j9 h hp)];exact h⟩
theorem af8.upd{p a:Addr}{o:HO}{vs:List V}(h:af8 K H a vs)(hp:∀ob u,H p≠some (.frz ob u)):af8 K (upd H p o) a vs:=by
 rcases h with⟨ob,z⟩|z
 ·refine .inl ⟨ob,?_⟩;rw[f7 ?_]
  ·exact z
  ·intro e;subst e;exact hp _ _ z
 ·exact .inr z
theorem F2.upd{p a:Addr}{o:O}{u:HO}{ρ':List Addr}(h:F2 K ρ H o a)(hne:o.mut=true->a≠p)(hp:∀ob u,H p≠some (.frz ob u))(e:Ext ρ H ρ' (L2.upd H p u)):F2 K ρ' (L2.upd H p u) o a:=by
 cases hm:o.mut with
 |true =>
  obtain⟨u',h1,h2⟩:=h.inv hm;exact .of (by rw[f7 (hne hm)];exact h1) (h2.ext e)
 |false =>
  cases o<;>first|cases hm|skip
  obtain⟨vs,z,r⟩:=h;exact⟨vs,z.upd hp,r.ext e⟩
theorem Rl.grow{p:Addr}{o:HO}(R:Rl K ρ g H)(hp:H p=none):Rl K ρ g (upd H p o):=by
 have e:Ext ρ H ρ (upd H p o):=v5 hp;refine⟨R.len,fun i ob a h1 h2=>?_,R.nd⟩;have q:=R.obj _ _ _ h1 h2;refine q.upd (fun hm=>?_) (fun ob u z=>by rw[hp] at z;cases z) e;obtain⟨u,h1,_⟩:=q.inv hm;exact j9 h1 hp
theorem Rl.B3(R:Rl K ρ g H)(p:Addr):(ρ++[p])[g.length]?=some p:=by rw[<- R.len];simp
theorem L4{p:Addr}{o:HO}(hp:H p=none):Ext ρ H (ρ++[p]) (upd H p o):=⟨⟨[p],rfl⟩,(v5 (ρ:=ρ) hp).tup⟩
theorem Rl.new{p:Addr}{o:O}{u:HO}(R:Rl K ρ g H)(hp:H p=none)(r:OH K ρ H o u):Rl K (ρ++[p]) (g++[o]) (upd H p u):=by
 have e:Ext ρ H (ρ++[p]) (upd H p u):=L4 hp;have old:∀{i:Nat} {ob:O} {a:Addr},g[i]?=some ob->(ρ++[p])[i]?=some a->ρ[i]?=some a:=fun{i ob a} h1 h2=>by
  rw[List.getElem?_append_left (by rw[R.len];exact(List.getElem?_eq_some_iff.mp h1).1)] at h2;exact h2
 have split:∀{i:Nat} {ob:O},(g++[o])[i]?=some ob->g[i]?=some ob\/(i=g.length/\ob=o):=fun{i ob} h=>by
  rcases Nat.lt_trichotomy i g.length with q|q|q
  ·rw[List.getElem?_append_left q] at h;exact .inl h
  ·subst q;simp at h;exact .inr ⟨rfl,h.symm⟩
  ·rw[List.getElem?_eq_none (by simp;omega)] at h;cases h
 refine⟨by simp[R.len],fun i ob a h1 h2=>?_,fun i j o1 o2 a h1 h2 m1 m2 h3 h4=>?_⟩
 ·rcases split h1 with q|⟨rfl,rfl⟩
  ·have z:=R.obj _ _ _ q (old q h2);refine z.upd (fun hm=>?_) (fun ob u z=>by rw[hp] at z;cases z) e;obtain⟨u,h1,_⟩:=z.inv hm;exact j9 h1 hp
  ·rw[R.B3] at h2;cases h2;exact .of o6 (r.ext e)
 ·have nq:∀{i:Nat} {o:O} {a:Addr},g[i]?=some o->o.mut=true->ρ[i]?=some a->a≠p:=fun{i o a} h1 hm h2=>by
   obtain⟨u,z,_⟩:=(R.obj _ _ _ h1 h2).inv hm;exact j9 z hp
  rcases split h1 with q|⟨rfl,_⟩
  ·rcases split h2 with q'|⟨rfl,_⟩
   ·exact R.nd _ _ _ _ _ q q' m1 m2 (old q h3) (old q' h4)
   ·rw[R.B3] at h4;cases h4;exact absurd rfl (nq q m1 (old q h3))
  ·rcases split h2 with q'|⟨rfl,_⟩
   ·rw[R.B3] at h3;cases h3;exact absurd rfl (nq q' m2 (old q' h4))
   ·rfl
theorem Rl.alloc{p:Addr}{l:List D}{vs:List V}(R:Rl K ρ g H)(hp:H p=none)(r:b9 K ρ H l vs):Rl K (ρ++[p]) (g++[.lst l]) (upd H p (.lst vs)):=R.new hp r
theorem Rl.put{i:Nat}{a:Addr}{o o':O}{u:HO}(R:Rl K ρ g H)(h:g[i]?=some o)(hm:o.mut=true)(ha:ρ[i]?=some a)(r:OH K ρ H o' u) :
  Rl K ρ (g.set i o') (upd H a u)/\Ext ρ H ρ (upd H a u):=by
 obtain⟨u0,z0,oh0⟩:=(R.obj _ _ _ h ha).inv hm;have e:Ext ρ H ρ (upd H a u):=⟨⟨[],by simp⟩,fun b xs q=>by rw[f7];exact q;intro z;subst z;rw[z0] at q;cases q;exact oh0.ae1⟩
 refine⟨⟨by simp[R.len],fun j ob b h1 h2=>?_,fun j k o1 o2 b h1 h2 m1 m2 h3 h4=>?_⟩,e⟩
 ·by_cases hij:i=j
  ·subst hij;rw[ha] at h2;cases h2;have hi:i<g.length:=(List.getElem?_eq_some_iff.mp h).1;rw[List.getElem?_set_self hi] at h1;cases h1;exact .of o6 (r.ext e)
  ·rw[List.getElem?_set_ne hij] at h1;refine(R.obj _ _ _ h1 h2).upd (fun hm' ez=>?_) (fun ob u z=>by rw[z0] at z;cases z;exact oh0.bz6) e;subst ez;exact hij (R.nd _ _ _ _ _ h h1 hm hm' ha h2)
 ·have back:∀{j:Nat} {m:O},(g.set i o')[j]?=some m->m.mut=true->∃m',g[j]?=some m'/\m'.mut=true:=fun{j m} q hm'=>by
   by_cases hij:i=j
   ·subst hij;exact⟨o,h,hm⟩
   ·rw[List.getElem?_set_ne hij] at q;exact⟨m,q,hm'⟩
  obtain⟨_,q1,n1⟩:=back h1 m1;obtain⟨_,q2,n2⟩:=back h2 m2;exact R.nd _ _ _ _ _ q1 q2 n1 n2 h3 h4
theorem Rl.write{i:Nat}{a:Addr}{l l':List D}{vs:List V}(R:Rl K ρ g H)(h:g[i]?=some (.lst l))(ha:ρ[i]?=some a)(r:b9 K ρ H l' vs) :
  Rl K ρ (g.set i (.lst l')) (upd H a (.lst vs))/\Ext ρ H ρ (upd H a (.lst vs)):=R.put h rfl ha r
end
structure m8(K:PySem.W.Frag)(ρ:List Addr)(H:Hp)(σ:S)(σv:St):Prop where
 len:σ.length=σv.length
 val:∀(i:Nat) d,σ[i]?=some (some d)->∃v,σv[i]?=some (some v)/\d8 K ρ H d v
section
variable{K:PySem.W.Frag}{ρ ρ':List Addr}{H H':Hp}
theorem m8.ext{σ σv}(e:Ext ρ H ρ' H')(r:m8 K ρ H σ σv):m8 K ρ' H' σ σv:=⟨r.len,fun i d h=>let ⟨v,a,b⟩:=r.val i d h;⟨v,a,b.ext e⟩⟩
theorem m8.set{σ σv d v}(r:m8 K ρ H σ σv)(i:Nat)(h:d8 K ρ H d v):m8 K ρ H (σ.set i (some d)) (σv.set i (some v)):=by
 refine⟨by simp[r.len],fun j e q=>?_⟩;by_cases hij:i=j
 ·subst hij;have hi:i<σ.length:=by
   have:=(List.getElem?_eq_some_iff.mp q).1;simpa using this
  rw[List.getElem?_set_self hi] at q;cases q;exact⟨v,by rw[List.getElem?_set_self (by rw[<- r.len];exact hi)],h⟩
 ·rw[List.getElem?_set_ne hij] at q ⊢;exact r.val j e q
theorem m8.start{ds vs}{n:Nat}(r:b9 K ρ H ds vs):m8 K ρ H (ds.map some++List.replicate (n-ds.length) none) (vs.map some++List.replicate (n-vs.length) none):=by
 refine⟨by simp[r.length],fun i d h=>?_⟩;by_cases hi:i<ds.length
 ·rw[List.getElem?_append_left (by simpa using hi),List.getElem?_map] at h;cases e:ds[i]? with
  |none=>rw[e] at h;cases h
  |some x =>
   rw[e] at h;cases h;obtain⟨v,h1,h2⟩:=r.get e;refine⟨v,?_,h2⟩;rw[List.getElem?_append_left (by rw[List.length_map,<- r.length];exact hi),List.getElem?_map,h1]
   rfl
 ·rw[List.getElem?_append_right (by simpa using hi),List.getElem?_replicate] at h;split at h<;>cases h
theorem m8.d5{σ σv}(r:m8 K ρ H σ σv)(d5:List Nat)(n:Nat):m8 K ρ H (C8 σ d5 n) (A9 σv d5 n):=by
 refine⟨by simp[C8,A9],fun i d h=>?_⟩;unfold C8 at h;unfold A9;by_cases hi:i<d5.length
 ·rw[List.getElem?_append_left (by simpa using hi),List.getElem?_map,List.getElem?_eq_getElem hi] at h;rw[List.getElem?_append_left (by simpa using hi),List.getElem?_map,List.getElem?_eq_getElem hi];simp only[Option.map_some] at h ⊢;cases e:σ[d5[i]]? with
  |none=>rw[e] at h;cases h
  |some x =>
   rw[e] at h;have hx:x=some d:=Option.some.inj h;subst hx;obtain⟨v,h1,h2⟩:=r.val _ _ e;exact⟨v,by rw[h1];rfl,h2⟩
 ·rw[List.getElem?_append_right (by simpa using hi),List.getElem?_replicate] at h;split at h<;>cases h
end
end M

namespace M
open PySem L2 PySem.Spec PyProof.Rows
noncomputable def LQ(K:PySem.W.Frag)(ρ:List Addr)(H:Hp)(Q:VK):KD:=fun d g'=>∀ρ' H' v,Ext ρ H ρ' H'->Rl K ρ' g' H'->d8 K ρ' H' d v->Q v H'
theorem LQ.ext{K ρ H ρ1 H1 Q d g}(e:Ext ρ H ρ1 H1)(h:LQ K ρ H Q d g):LQ K ρ1 H1 Q d g:=fun ρ' H' v e' R r=>h ρ' H' v (e.trans e') R r
theorem LQ.now{K ρ H Q d g v}(h:LQ K ρ H Q d g)(R:Rl K ρ g H)(r:d8 K ρ H d v):Q v H:=h ρ H v (.refl _ _) R r
theorem LQ.new{K ρ H Q}{g:G}{l:List D}{vs:List V}{p:Addr}(h:LQ K ρ H Q (.ref g.length) (g++[.lst l]))(R:Rl K ρ g H)(hp:H p=none)(r:b9 K ρ H l vs):Q (.ref p) (upd H p (.lst vs)) :=
 h (ρ++[p]) _ _ (L4 hp) (R.alloc hp r) (.ref (R.B3 p))
theorem LQ.tup{K ρ H Q}{g:G}{l:List D}{vs:List V}{p:Addr}(h:LQ K ρ H Q (.tup l) g)(R:Rl K ρ g H)(hp:H p=none)(r:b9 K ρ H l vs):Q (.ref p) (upd H p (.tup vs)) :=
 h ρ _ _ (v5 hp) (R.grow hp) (.tup (.inl o6) (r.ext (v5 hp)))
noncomputable def r2(K:PySem.W.Frag)(p:Pr):R2:=fun x y H Q=>∃d e g ρ,Rl K ρ g H/\d8 K ρ H d x/\d8 K ρ H e y/\prP p [d,e] g (LQ K ρ H Q)
noncomputable def r1(K:PySem.W.Frag)(p:Pr):V->Hp->VK->Prop:=fun x H Q=>∃d g ρ,Rl K ρ g H/\d8 K ρ H d x/\prP p [d] g (LQ K ρ H Q)
noncomputable def rN(K:PySem.W.Frag)(p:Pr):List V->Hp->VK->Prop:=fun xs H Q=>∃ds g ρ,Rl K ρ g H/\b9 K ρ H ds xs/\prP p ds g (LQ K ρ H Q)
theorem k6{n:Nat}(h:n<=100000):n<=sizeLine:=Nat.le_trans h (by decide)
theorem ao2{n:Nat}(h:n<100000):n<sizeLine:=Nat.lt_of_lt_of_le h (by decide)
theorem d8.i3{K ρ H i v}(h:d8 K ρ H (.int i) v):v=.int i:=by cases h;rfl
theorem d8.B9{K ρ H i v}(h:d8 K ρ H (.str i) v):v=.str i:=by cases h;rfl
theorem d8.K4{K ρ H i v}(h:d8 K ρ H (.bl i) v):v=.bl i:=by cases h;rfl
theorem d8.ak3{K ρ H v}(h:d8 K ρ H .non v):v=.non:=by cases h;rfl
theorem d8.bv1{K ρ H n v}(h:d8 K ρ H (.ty n) v):v=.ty n:=by cases h;rfl
theorem d8.j4{K ρ H i v}(h:d8 K ρ H (.ref i) v):∃a,v=.ref a/\ρ[i]?=some a:=by cases h;exact⟨_,rfl,by assumption⟩
theorem d8.E0{K ρ H l v}(h:d8 K ρ H (.tup l) v):∃a vs,v=.ref a/\TupAt K H a vs/\b9 K ρ H l vs:=by cases h;exact⟨_,_,rfl,by assumption,by assumption⟩
theorem b9.one{K ρ H d vs}(h:b9 K ρ H [d] vs):∃v,vs=[v]/\d8 K ρ H d v:=by
 cases h with
 |cons r rr=>cases rr;exact⟨_,rfl,r⟩
theorem b9.two{K ρ H d e vs}(h:b9 K ρ H [d,e] vs):∃v w,vs=[v,w]/\d8 K ρ H d v/\d8 K ρ H e w:=by
 cases h with
 |cons r rr=>obtain⟨w,rfl,q⟩:=rr.one;exact⟨_,_,rfl,r,q⟩
theorem u3{a b c d:D}(h:[a,b]=[c,d]):a=c/\b=d:=by cases h;exact⟨rfl,rfl⟩
section
variable{X:Cx}
theorem bp6(op:Operator):OpR X (binaryOp op) (r2 X.K (.bin op)):=by
 intro pins s σ H x y v u Q I rx ry h;obtain⟨d,e,g,ρ,R,rd,re,d',g',h,q⟩:=h;rcases h with⟨i,j,r,ex,ha,rfl,rfl⟩|⟨rfl,h⟩|⟨rfl,h⟩
 ·obtain⟨rfl,rfl⟩:=u3 ex;obtain rfl:=rd.i3;obtain rfl:=re.i3;have fin:=q.now R (.int r);cases op<;>first|exact(show False from ha).elim|skip
  ·cases ha;exact bp8 pins s σ H _ _ v u Q I rx ry ⟨i,j,rfl,rfl,fin⟩
  ·cases ha;exact bo8 pins s σ H _ _ v u Q I rx ry ⟨i,j,rfl,rfl,fin⟩
  ·obtain⟨hc,rfl⟩:=ha;exact bp2 pins s σ H _ _ v u Q I rx ry ⟨i,j,rfl,rfl,hc,fin⟩
  ·obtain⟨hc,rfl⟩:=ha;exact bp3 pins s σ H _ _ v u Q I rx ry ⟨i,j,rfl,rfl,hc,fin⟩
  ·obtain⟨hc,rfl⟩:=ha;exact bp1 pins s σ H _ _ v u Q I rx ry ⟨i,j,rfl,rfl,hc,fin⟩
  ·obtain⟨hc,rfl⟩:=ha;exact bo9 pins s σ H _ _ v u Q I rx ry ⟨i,j,rfl,rfl,hc,fin⟩
  ·cases ha;exact bz1 pins s σ H _ _ v u Q I rx ry ⟨i,j,rfl,rfl,fin⟩
  ·cases ha;exact bp7 pins s σ H _ _ v u Q I rx ry ⟨i,j,rfl,rfl,fin⟩
  ·obtain⟨hc,rfl⟩:=ha;exact bd8 pins s σ H _ _ v u Q I rx ry ⟨i,j,rfl,rfl,hc,fin⟩
 ·rcases h with⟨l,m,ex,hz,rfl,rfl⟩|⟨a,b,l,m,ex,ha,hb,hz,rfl,rfl⟩|⟨x',y',ex,hz,rfl,rfl⟩
  ·obtain⟨rfl,rfl⟩:=u3 ex;obtain⟨a,vs,rfl,ta,rs⟩:=rd.E0;obtain⟨b,ws,rfl,tb,rt⟩:=re.E0;refine a14 pins s σ H _ _ v u Q I rx ry ⟨a,b,vs,ws,rfl,rfl,ta.sq,tb.sq,?_,fun z=>?_,fun z=>?_,fun p hp=>q.tup R hp (rs.append rt)⟩
   ·rw[<- rs.length,<- rt.length];exact k6 hz
   ·subst z;cases rs;exact q.now R (.tup tb rt)
   ·subst z;cases rt;rw[List.append_nil] at q;exact q.now R (.tup ta rs)
  ·obtain⟨rfl,rfl⟩:=u3 ex;obtain⟨a',rfl,ra⟩:=rd.j4;obtain⟨b',rfl,rb⟩:=re.j4;obtain⟨vs,z1,rs⟩:=R.lst ha ra;obtain⟨ws,z2,rt⟩:=R.lst hb rb;exact bp5 pins s σ H _ _ v u Q I rx ry ⟨_,_,vs,ws,rfl,rfl,z1,z2,by rw[<- rs.length,<- rt.length];exact k6 hz,fun p hp=>q.new R hp (rs.append rt)⟩
  ·obtain⟨rfl,rfl⟩:=u3 ex;obtain rfl:=rd.B9;obtain rfl:=re.B9;exact aK6 pins s σ H _ _ v u Q I rx ry ⟨_,_,rfl,rfl,k6 hz,q.now R (.str _)⟩
 ·rcases h with⟨a,l,n,ex,ha,h1,h2,hz,rfl,rfl⟩|⟨l,n,ex,hne,h1,h2,hz,rfl,rfl⟩
  rotate_left
  ·obtain⟨rfl,rfl⟩:=u3 ex;obtain⟨a',vs,rfl,ta,rs⟩:=rd.E0;obtain rfl:=re.i3;refine bd6 pins s σ H _ _ v u Q I rx ry ⟨_,_,vs,rfl,rfl,ta.sq,fun z=>?_,h1,h2,by rw[<- rs.length];exact k6 hz,fun z=>?_,fun p hp=>q.tup R hp (rs.rep _)⟩
   ·subst z;cases rs;exact hne rfl
   ·subst z;have:(List.replicate (Int.toNat 1) l).flatten=l:=by simp
    rw[this] at q;exact q.now R (.tup ta rs)
  obtain⟨rfl,rfl⟩:=u3 ex;obtain⟨a',rfl,ra⟩:=rd.j4;obtain rfl:=re.i3;obtain⟨vs,z1,rs⟩:=R.lst ha ra;exact bp0 pins s σ H _ _ v u Q I rx ry ⟨_,_,vs,rfl,rfl,z1,by omega,by omega,by rw[<- rs.length];exact k6 hz,fun p hp=>q.new R hp (rs.rep _)⟩
theorem bz0(op:UnaryOp):UnR X (unaryOp op) (r1 X.K (.un op)):=by
 intro pins s σ H x v Q I rx h;obtain⟨d,g,ρ,R,rd,d',g',⟨rfl,i,ex,rfl,rfl⟩,q⟩:=h;cases ex;obtain rfl:=rd.i3;exact bh3 pins s σ H _ v Q I rx ⟨_,rfl,q.now R (.int _)⟩
mutual
theorem K9{ρ:List Addr}{g:G}{H:Hp}{pins:List (Addr×Obj)}{σ:L2.St}{s:Shared}(I:Inv X pins σ H s)(R:Rl X.K ρ g H):∀(n:Nat) {d:D} {v:V} {u:Value} {p:PyData},rd g n d=some p->d8 X.K ρ H d v->RelV v u->∃as,Reads s.heap u p as/\p.depth<=n
 |n,.non,_,_,_,h,.non,ru=>by
  cases n<;>(simp only[rd] at h;cases h;cases ru;exact⟨_,.none,Nat.zero_le _⟩)
 |n,.bl b,_,_,_,h,.bl _,ru=>by
  cases n<;>(simp only[rd] at h;cases h;cases ru;exact⟨_,.bool b,Nat.zero_le _⟩)
 |n,.int i,_,_,_,h,.int _,ru=>by
  cases n<;>(simp only[rd] at h;cases h;obtain⟨t,rfl⟩:=ru;exact⟨_,.int i t,Nat.zero_le _⟩)
 |n,.str x,_,_,_,h,.str _,ru=>by
  cases n<;>(simp only[rd] at h;cases h;obtain⟨t,rfl⟩:=ru;exact⟨_,.str x t,Nat.zero_le _⟩)
 |n,.ty x,_,_,_,h,.ty _,ru=>by
  cases n<;>(simp only[rd] at h;cases h)
 |0,.ref _,_,_,_,h,_,_=>by simp only[rd] at h;cases h
 |0,.tup _,_,_,_,h,_,_=>by simp only[rd] at h;cases h
 |n+1,.ref a,_,_,p,h,.ref ha,ru=>by
  simp only[rd] at h;cases e:d4 g a with
  |none=>rw[e] at h;cases h
  |some l =>
   rw[e] at h;dsimp only at h;cases e2:l.mapM (rd g n) with
   |none=>rw[e2] at h;cases h
   |some ps =>
    rw[e2] at h;cases h;cases ru;obtain⟨vs,hq,rs⟩:=R.items e ha;obtain⟨its,rv,p,hz⟩:=I.list hq;obtain⟨as,q,hd⟩:=T1 I R n e2 rs rv;obtain⟨o,ho,hc,k,hdat⟩:=p.isList;refine⟨_,.list ho hc hdat (by simpa using q),?_⟩;simp only[PyData.depth];omega
 |n+1,.tup l,_,_,p,h,.tup ht rs,ru=>by
  simp only[rd] at h;cases e2:l.mapM (rd g n) with
  |none=>rw[e2] at h;cases h
  |some ps =>
   rw[e2] at h;cases h;cases ru;obtain⟨its,rv,pt,hz⟩:=I.tuple ht.sq;obtain⟨as,q,hd⟩:=T1 I R n e2 rs rv;obtain⟨o,ho,hc,k,hdat⟩:=id pt;refine⟨_,.tuple ho hc hdat (by simpa using q),?_⟩;simp only[PyData.depth];omega
theorem T1{ρ:List Addr}{g:G}{H:Hp}{pins:List (Addr×Obj)}{σ:L2.St}{s:Shared}(I:Inv X pins σ H s)(R:Rl X.K ρ g H):∀(n:Nat) {l:List D} {vs:List V} {us:List Value} {ps:List PyData},l.mapM (rd g n)=some ps->b9 X.K ρ H l vs->Vals vs us ->
  ∃as,ReadsAll s.heap us ps as/\PyData.depthAll ps<=n
 |n,[],_,_,_,h,.nil,.nil=>by
  simp at h;subst h;exact⟨_,.nil,Nat.zero_le _⟩
 |n,d::l,_,_,ps,h,.cons rd' rs,.cons ru rv=>by
  rw[List.mapM_cons] at h;cases e:rd g n d with
  |none=>rw[e] at h;cases h
  |some p =>
   rw[e] at h;cases e2:l.mapM (rd g n) with
   |none=>rw[e2] at h;cases h
   |some qs =>
    rw[e2] at h;cases h;obtain⟨as,q1,d1⟩:=K9 I R n e rd' ru;obtain⟨bs,q2,d2⟩:=T1 I R n e2 rs rv;refine⟨_,.cons q1 q2,?_⟩;simp only[PyData.depthAll];omega
end
end
section
variable{X:Cx}
theorem af4{α:Type}[BEq α][LawfulBEq α][DecidableEq α](a b:α):decide (a=b)=(a==b):=by
 by_cases e:a=b
 ·subst e;simp
 ·rw[decide_eq_false e];exact(beq_eq_false_iff_ne.mpr e).symm
theorem V0{K ρ H}{d:D}{v:V}{c:Key}(h:U0 d=some c)(r:d8 K ρ H d v):v=kV c:=by
 cases r<;>first|(cases h;rfl)|cases h
theorem aa2.some{K ρ H}{o:Option V}{d:D}(h:aa2 K ρ H (some d) o):∃v,o=some v/\d8 K ρ H d v:=by
 cases o with
 |none=>exact h.elim
 |some v=>exact⟨v,rfl,h⟩
theorem aa2.isSome{K ρ H}{o:Option V}{d:Option D}(h:aa2 K ρ H d o):d.isSome=o.isSome:=by
 cases o<;>cases d<;>first|rfl|exact h.elim
theorem a71{pins:List (Addr×Obj)}{s:Shared}{σ:L2.St}{H:Hp}{ρ:List Addr}{g:G}{d e:D}{x y:V}{v u:Value}{b:Bool}{Q:VK}(hu:X.A.units+100<cLine)(I:Inv X pins σ H s)(rx:RelV x v)(ry:RelV y u)(R:Rl X.K ρ g H)(rd':d8 X.K ρ H d x)(re:d8 X.K ρ H e y)(h:eqR g d e b)(neg:Bool)(q:Q (.bl (xor neg b)) H):wpAny (model X.prog X.w) X.A (compareOp (if neg then .NotEq else .Eq) v u) (EP X pins σ Q) X.xe s:=by
 rcases h with⟨i,j,rfl,rfl,rfl⟩|⟨i,j,rfl,rfl,rfl⟩|⟨i,j,rfl,rfl,rfl⟩|⟨p,p',h1,h2,c1,c2,rfl⟩
 ·obtain rfl:=rd'.i3;obtain rfl:=re.i3;cases neg
  ·exact aK5 pins s σ H _ _ v u Q I rx ry ⟨rfl,by rw[af3];simpa[af4] using q⟩
  ·exact aK4 pins s σ H _ _ v u Q I rx ry ⟨rfl,by rw[af3];simpa[af4] using q⟩
 ·obtain rfl:=rd'.K4;obtain rfl:=re.K4;cases neg
  ·exact aK5 pins s σ H _ _ v u Q I rx ry ⟨rfl,by rw[al4];simpa using q⟩
  ·exact aK4 pins s σ H _ _ v u Q I rx ry ⟨rfl,by rw[al4];simpa using q⟩
 ·obtain rfl:=rd'.B9;obtain rfl:=re.B9;cases neg
  ·exact aK5 pins s σ H _ _ v u Q I rx ry ⟨rfl,by rw[af2];simpa[af4] using q⟩
  ·exact aK4 pins s σ H _ _ v u Q I rx ry ⟨rfl,by rw[af2];simpa[af4] using q⟩
 ·obtain⟨as,q1,d1⟩:=K9 I R 6 h1 rd' rx;obtain⟨bs,q2,d2⟩:=K9 I R 6 h2 re ry;have hr:X.A.units+min p.depth p'.depth<cLine:=by omega
  cases neg
  ·exact SeqAt.compareEq_reads q1 q2 c1 c2 hr ⟨.bl _,H,I,rfl,by simpa using q⟩
  ·exact SeqAt.compareNe_reads q1 q2 c1 c2 hr ⟨.bl _,H,I,rfl,by simpa using q⟩
theorem in_of{pins:List (Addr×Obj)}{s:Shared}{σ:L2.St}{H:Hp}{ρ:List Addr}{g:G}{d e:D}{x y:V}{v u:Value}{b:Bool}{Q:VK}(hu:X.A.units+100<cLine)(I:Inv X pins σ H s)(rx:RelV x v)(ry:RelV y u)(R:Rl X.K ρ g H)(rd':d8 X.K ρ H d x)(re:d8 X.K ρ H e y)(h:inR g d e b)(neg:Bool)(q:Q (.bl (xor neg b)) H):wpAny (model X.prog X.w) X.A (compareOp (if neg then .NotIn else .In) v u) (EP X pins σ Q) X.xe s:=by
 rcases h with⟨a,kvs,c,rfl,ha,hc,rfl⟩|⟨l,ps,p,h0,h1,h2,c1,c2,rfl⟩
 ·obtain⟨a',rfl,ra⟩:=re.j4;obtain⟨vs,z,rs⟩:=R.dic ha ra;have:=V0 hc rd';subst this;cases ry;rw[(rs.val c).isSome] at q;cases neg
  ·exact bJ8 (by omega) I (N1.k z) rx fun s' I'=>⟨.bl _,H,I',rfl,by simpa using q⟩
  ·exact bg0 (by omega) I (N1.k z) rx fun s' I'=>⟨.bl _,H,I',rfl,by simpa using q⟩
 ·obtain⟨as,q1,d1⟩:=K9 I R 6 h2 rd' rx;cases e with
  |tup m =>
   cases h0;have h3:rd g 7 (.tup l)=some (.tuple ps):=by simp only[rd];rw[show l.mapM (rd g 6)=some ps from h1];rfl
   obtain⟨bs,q2,d2⟩:=K9 I R 7 h3 re ry;have hr:X.A.units+1+min (PyData.depthAll ps) p.depth<cLine:=by omega
   cases neg
   ·exact SeqAt.in_tuple_reads q2 q1 c1 c2 hr ⟨.bl _,H,I,rfl,by simpa using q⟩
   ·exact SeqAt.notIn_tuple_reads q2 q1 c1 c2 hr ⟨.bl _,H,I,rfl,by simpa using q⟩
  |ref a =>
   have h3:rd g 7 (.ref a)=some (.list ps):=by
    simp only[rd];rw[show d4 g a=some l from h0];dsimp only;rw[show l.mapM (rd g 6)=some ps from h1]
    rfl
   obtain⟨bs,q2,d2⟩:=K9 I R 7 h3 re ry;have hr:X.A.units+1+min (PyData.depthAll ps) p.depth<cLine:=by omega
   cases neg
   ·exact SeqAt.in_list_reads q2 q1 c1 c2 hr ⟨.bl _,H,I,rfl,by simpa using q⟩
   ·exact SeqAt.notIn_list_reads q2 q1 c1 c2 hr ⟨.bl _,H,I,rfl,by simpa using q⟩
  |_=>cases h0
theorem U8(hu:X.A.units+100<cLine)(op:CmpOp):OpR X (compareOp op) (r2 X.K (.cmp op)):=by
 intro pins s σ H x y v u Q I rx ry h;obtain⟨d,e,g,ρ,R,rd',re,d',g',⟨x',y',b,ex,h,rfl,rfl⟩,q⟩:=h;obtain⟨rfl,rfl⟩:=u3 ex;have fin:=q.now R (.bl b);have intz:∀{P:Int->Int->Bool},(∃i j,d=.int i/\e=.int j/\b=P i j)->∃i j,x=.int i/\y=.int j/\b=P i j:=fun hh=>by
  obtain⟨i,j,z1,z2,z3⟩:=hh;exact⟨i,j,(z1▸rd').i3,(z2▸re).i3,z3⟩
 cases op
 ·exact a71 hu I rx ry R rd' re h false (by simpa using fin)
 ·exact a71 hu I rx ry R rd' re h true (by simpa using fin)
 ·obtain⟨i,j,e1,e2,e3⟩:=intz (P:=fun i j=>decide (i<j)) h;exact bz2 pins s σ H _ _ v u Q I rx ry ⟨i,j,e1,e2,by subst e3;exact fin⟩
 ·obtain⟨i,j,e1,e2,e3⟩:=intz (P:=fun i j=>decide (i<=j)) h;exact bz3 pins s σ H _ _ v u Q I rx ry ⟨i,j,e1,e2,by subst e3;exact fin⟩
 ·obtain⟨i,j,e1,e2,e3⟩:=intz (P:=fun i j=>decide (j<i)) h;exact bz4 pins s σ H _ _ v u Q I rx ry ⟨i,j,e1,e2,by subst e3;exact fin⟩
 ·obtain⟨i,j,e1,e2,e3⟩:=intz (P:=fun i j=>decide (j<=i)) h;exact bz5 pins s σ H _ _ v u Q I rx ry ⟨i,j,e1,e2,by subst e3;exact fin⟩
 ·obtain⟨rfl,rfl⟩:=(show _/\_ from h)
  obtain rfl:=re.ak3;refine bp4 pins s σ H _ _ v u Q I rx ry ⟨rfl,?_⟩;have e:M5 d=decide (x=V.non):=by cases rd'<;>simp[M5]
  rw[<- e];exact fin
 ·obtain⟨rfl,rfl⟩:=(show _/\_ from h)
  obtain rfl:=re.ak3;refine bd7 pins s σ H _ _ v u Q I rx ry ⟨rfl,?_⟩;have e:M5 d=decide (x=V.non):=by cases rd'<;>simp[M5]
  rw[<- e];exact fin
 ·rcases h with h|⟨a,S,n,i,rfl,ha,rfl,rfl⟩
  ·exact in_of hu I rx ry R rd' re h false (by simpa using fin)
  ·obtain⟨a',rfl,ra⟩:=re.j4;obtain rfl:=rd'.i3;exact aS3 pins s σ H _ _ v u Q I rx ry ⟨i,a',S,n,rfl,rfl,R.set ha ra,fin⟩
 ·rcases h with h|⟨a,S,n,i,rfl,ha,rfl,hb⟩
  ·exact in_of hu I rx ry R rd' re h true (by simpa using fin)
  ·obtain⟨a',rfl,ra⟩:=re.j4;obtain rfl:=rd'.i3;exact ay2 pins s σ H _ _ v u Q I rx ry ⟨i,a',S,n,rfl,rfl,R.set ha ra,by rw[<- hb,Bool.not_not];exact fin⟩
theorem empty_eq{K ρ H}{l:List D}{vs:List V}(r:b9 K ρ H l vs):l.isEmpty=vs.isEmpty:=by cases r<;>rfl
theorem bh6{K:PySem.W.Frag}{ρ:List Addr}{g:G}{H:Hp}{d:D}{x:V}{b:Bool}(R:Rl K ρ g H)(r:d8 K ρ H d x)(h:bh7 g d b):a48 K x H b:=by
 rcases h with⟨rfl,rfl⟩|rfl|⟨i,rfl,rfl⟩|⟨l,rfl,rfl⟩|⟨a,l,rfl,hl,rfl⟩
 ·obtain rfl:=r.ak3;rfl
 ·obtain rfl:=r.K4;rfl
 ·obtain rfl:=r.i3;rfl
 ·obtain⟨a,vs,rfl,ht,rs⟩:=r.E0;exact .inr (.inl ⟨_,ht.sq,by rw[empty_eq rs]⟩)
 ·obtain⟨a',rfl,ha⟩:=r.j4;obtain⟨vs,hq,rs⟩:=R.items hl ha;exact .inl ⟨_,hq,by rw[empty_eq rs]⟩
theorem bg5{K ρ H}{l:List D}{vs:List V}{i:Int}{d:D}(r:b9 K ρ H l vs)(h:atI l i=some d):∃v,atI vs i=some v/\d8 K ρ H d v:=by
 unfold atI at h ⊢;rw[<- r.length];cases e:ixN l.length i with
 |none=>rw[e] at h;cases h
 |some j =>
  rw[e] at h;exact r.get h
theorem aj7{K ρ H}{g:G}{x:D}{v:V}{l:List D}(R:Rl K ρ g H)(r:d8 K ρ H x v)(h:F5 g x=some l):∃a vs,v=.ref a/\b9 K ρ H l vs/\((∃i,x=.ref i/\ρ[i]?=some a)/\SqL K H a vs\/x=.tup l/\TupAt K H a vs):=by
 cases r with
 |tup ht rs=>cases h;exact⟨_,_,rfl,rs,.inr ⟨rfl,ht⟩⟩
 |ref ha=>obtain⟨vs,hq,rs⟩:=R.items h ha;exact⟨_,_,rfl,rs,.inl ⟨⟨_,rfl,ha⟩,hq⟩⟩
 |_=>cases h
theorem bA8(hu:X.A.units+100<cLine):IxR X (r2 X.K .ix):=by
 intro value slice pins s σ H x y v u Q I rx ry h hs;obtain⟨d,e,g,ρ,R,rd',re,d',g',⟨rfl,h⟩,q⟩:=h;rcases h with⟨x',l,i,ex,hl,ha⟩|⟨a,kvs,y',c,ex,ha,hc,hv⟩|⟨x',i,c,ex,h0,h1,rfl⟩
 ·obtain⟨rfl,rfl⟩:=u3 ex;obtain rfl:=re.i3;obtain⟨a,vs,rfl,rs,h⟩:=aj7 R rd' hl;obtain⟨w,hw,rw'⟩:=bg5 rs ha;rcases h with⟨_,hq⟩|⟨_,ht⟩
  ·exact be9 value slice pins s σ H _ _ v u Q I rx ry ⟨_,_,i,w,rfl,rfl,hq,hw,q.now R rw'⟩ hs
  ·exact br6 value slice pins s σ H _ _ v u Q I rx ry ⟨_,_,i,w,rfl,rfl,ht.sq,hw,q.now R rw'⟩ hs
 ·obtain⟨rfl,rfl⟩:=u3 ex;obtain⟨a',rfl,ra⟩:=rd'.j4;obtain⟨vs,z,rs⟩:=R.dic ha ra;have:=V0 hc re;subst this;have q2:=rs.val c;rw[hv] at q2;obtain⟨w,hw,rw'⟩:=q2.some;exact bf0 (by omega) value slice pins s σ H _ _ v u Q I rx ry ⟨_,w,rfl,by have:=N1.k (k:=c) z;rw[hw] at this;exact this,q.now R rw'⟩ hs
 ·obtain⟨rfl,rfl⟩:=u3 ex;obtain rfl:=rd'.B9;obtain rfl:=re.i3;exact br7 value slice pins s σ H _ _ v u Q I rx ry ⟨x',i,c,rfl,rfl,k6 h0,h1,q.now R (.str _)⟩ hs
end
end M

namespace M
open PySem L2 PySem.Spec PyProof.Rows
section
variable{X:Cx}
noncomputable def rSl(K:PySem.W.Frag):V->Option Int->Option Int->Hp->VK->Prop:=fun x lo hi H Q=>∃d g ρ d' g',Rl K ρ g H/\d8 K ρ H d x/\slR d lo hi g d' g'/\LQ K ρ H Q d' g'
theorem aJ6:SlR X (rSl X.K):=by
 intro pins s σ H x v vl vu lo hi sl Q I rx hs pl pu h;obtain⟨d,g,ρ,d',g',R,rd',h,q⟩:=h;rcases h with⟨l,rfl,rfl,rfl⟩|⟨a,l,rfl,hl,rfl,rfl⟩
 ·obtain⟨a,vs,rfl,ht,rs⟩:=rd'.E0;refine a98 pins s σ H _ v vl vu lo hi sl Q I rx hs pl pu ⟨_,_,rfl,ht.sq,fun z=>?_,fun p hp=>q.tup R hp (rs.cut lo hi)⟩;refine q.now R (.tup ht ?_);have:=rs.cut lo hi;rw[z] at this;exact this
 ·obtain⟨a',rfl,ha⟩:=rd'.j4;obtain⟨vs,hq,rs⟩:=R.items hl ha;exact a99 pins s σ H _ v vl vu lo hi sl Q I rx hs pl pu ⟨_,_,rfl,hq,fun p hp=>q.new R hp (rs.cut lo hi)⟩
noncomputable def bG8(K:PySem.W.Frag):V->V->V->Hp->(Hp->Prop)->Prop:=fun o i v H Q=>∃do' di dv g ρ,Rl K ρ g H/\d8 K ρ H do' o/\d8 K ρ H di i/\d8 K ρ H dv v/\S7 do' di dv g (fun g'=>∀ρ' H',Ext ρ H ρ' H'->Rl K ρ' g' H'->Q H')
theorem bk3(hu:X.A.units+100<cLine):a50 X (bG8 X.K):=by
 intro pins s σ H o i v ov iv u Q I ro ri rv h;obtain⟨do',di,dv,g,ρ,R,r1,r2,r3,g',h,q⟩:=h;rcases h with⟨a,i',l,j,rfl,rfl,hl,hj,rfl⟩|⟨a,kvs,c,rfl,ha,hc,hz,rfl⟩
 ·obtain⟨a',rfl,ha⟩:=r1.j4;obtain rfl:=r2.i3;obtain⟨vs,z,rs⟩:=R.lst hl ha;obtain⟨R',e'⟩:=R.write hl ha (rs.set r3 j);exact set_list pins s σ H _ _ _ ov iv u Q I ro ri rv ⟨_,vs,_,j,rfl,rfl,z,by rw[<- rs.length];exact hj,q ρ _ e' R'⟩
 ·obtain⟨a',rfl,ra⟩:=r1.j4;obtain⟨vs,z,rs⟩:=R.dic ha ra;have:=V0 hc r2;subst this;obtain⟨R',e'⟩:=R.put (o':=.dic (putD kvs c dv)) (u:=.dK (putK vs c v)) ha rfl ra (rs.put r3);cases ro;exact aU9 (by omega) I (aO0.k z (by rw[<- rs.length];exact ao2 hz)) ri rv fun s' I'=>⟨_,I',q ρ _ e' R'⟩
theorem bq9:l9 X (.builtin "len") (rN X.K .len):=by
 intro pins s σ H xs us Q I r h;obtain⟨ds,g,ρ,R,rs,d',g',⟨rfl,h⟩,q⟩:=h;rcases h with⟨x,l,rfl,hl,rfl⟩|⟨a,kvs,rfl,ha,rfl⟩|⟨x,rfl,hz,rfl⟩
 ·obtain⟨v,rfl,rv⟩:=rs.one;obtain⟨a,vs,rfl,rl,h⟩:=aj7 R rv hl;refine aB4 pins s σ H _ us Q I r ⟨_,_,rfl,?_,by rw[<- rl.length];exact q.now R (.int _)⟩;exact h.imp (fun z=>z.2) (fun z=>z.2.sq)
 ·obtain⟨v,rfl,rv⟩:=rs.one;obtain⟨a',rfl,ra⟩:=rv.j4;obtain⟨vs,z,rk⟩:=R.dic ha ra;exact aV9 pins s σ H _ us Q I r ⟨_,_,rfl,z,by rw[<- rk.length];exact q.now R (.int _)⟩
 ·obtain⟨v,rfl,rv⟩:=rs.one;obtain rfl:=rv.B9;exact aB3 pins s σ H _ us Q I r ⟨_,rfl,k6 hz,q.now R (.int _)⟩
theorem be7:l9 X (.type "list") (rN X.K .list):=by
 intro pins s σ H xs us Q I r h;obtain⟨ds,g,ρ,R,rs,d',g',⟨x,l,rfl,hl,rfl,rfl⟩,q⟩:=h;obtain⟨v,rfl,rv⟩:=rs.one;obtain⟨a,vs,rfl,rl,h⟩:=aj7 R rv hl;exact aB2 pins s σ H _ us Q I r ⟨_,_,rfl,h.imp (fun z=>z.2) (fun z=>z.2.sq),fun p hp=>q.new R hp rl⟩
theorem aX6:l9 X (.type "tuple") (rN X.K .tuple):=by
 intro pins s σ H xs us Q I r h;obtain⟨ds,g,ρ,R,rs,d',g',⟨x,l,rfl,hl,rfl,rfl⟩,q⟩:=h;obtain⟨v,rfl,rv⟩:=rs.one;obtain⟨a,vs,rfl,rl,h⟩:=aj7 R rv hl;refine at9 pins s σ H _ us Q I r ⟨a,vs,rfl,?_⟩;exact h.imp (fun z=>⟨z.2,fun p hp=>q.tup R hp rl⟩) (fun z=>⟨z.2.sq,q.now R (.tup z.2 rl)⟩)
theorem bf1:l9 X (.builtin "isinstance") (rN X.K .isin):=by
 intro pins s σ H xs us Q I r h;obtain⟨ds,g,ρ,R,rs,d',g',⟨x,c,b,rfl,hc,hb,rfl,rfl⟩,q⟩:=h;obtain⟨v,w,rfl,r1,r2⟩:=rs.two;obtain rfl:=r2.bv1;have fin:=q.now R (.bl b);have go:∀(t:Value) (v:V),TyOf X.K H v t->PySem.W.kitOne X.K t (.type c)=some b->Vals [v,V.ty c] us->wpAny (model X.prog X.w) X.A (call (.builtin "isinstance") us) (EP X pins σ Q) X.xe s :=
  fun t v ht hk r=>aD9 pins s σ H _ us Q I r ⟨v,t,c,b,rfl,ht,hk,fin⟩
 simp only[List.mem_cons,List.mem_nil_iff,or_false] at hc;cases r1 with
 |non=>refine go _ _ .non ?_ r;cases hb;rcases hc with rfl|rfl|rfl|rfl|rfl<;>rfl
 |bl y=>refine go _ _ (.bl y) ?_ r;cases hb;rcases hc with rfl|rfl|rfl|rfl|rfl<;>rfl
 |int y=>refine go _ _ (.int y) ?_ r;cases hb;rcases hc with rfl|rfl|rfl|rfl|rfl<;>rfl
 |str y=>refine go _ _ (.str y) ?_ r;cases hb;rcases hc with rfl|rfl|rfl|rfl|rfl<;>rfl
 |ty _=>cases hb
 |tup ht rs =>
  cases hb;rcases ht with ht|ht
  ·refine go _ _ (.tup ht) ?_ r;rcases hc with rfl|rfl|rfl|rfl|rfl<;>rfl
  ·obtain⟨o,its,n,lk,hcl,_⟩:=ht;obtain⟨u,w',rfl,ru,rw'⟩:=vals2 r;cases (show w'=Value.type c from rw');cases ru;have hk:PySem.W.kitOne X.K (.type "tuple") (.type c)=some (c=="tuple"):=by rcases hc with rfl|rfl|rfl|rfl|rfl<;>rfl
   exact PySem.W.kia_one PySem.W.kitx_tuple I.kIn ⟨o,I.kIn _ _ lk,hcl⟩ hk (fun z=>nomatch z) fun tk=>⟨.bl _,H,I.tok tk,rfl,fin⟩
 |@ref i a ha =>
  have hb2:∃m,g'[i]?=some (.lst m)/\b=(c=="list"):=by
   simp only[ai0] at hb;split at hb
   ·exact⟨_,by assumption,(Option.some.inj hb).symm⟩
   ·cases hb
  obtain⟨m,e,rfl⟩:=hb2;obtain⟨vs,z,_⟩:=R.lst e ha;refine go _ _ (.lst z) ?_ r;rcases hc with rfl|rfl|rfl|rfl|rfl<;>rfl
theorem aN3:∀{l:List D} {b:Bool},S5 l=some b->∃bs:List Bool,l=bs.map D.bl/\b=bs.all id:=by
 intro l
 induction l with
 |nil=>intro b h;cases h;exact⟨[],rfl,rfl⟩
 |cons d r ih =>
  intro b h;cases d<;>first|(cases h;done)|skip
  rename_i c;simp only[S5] at h;cases e:S5 r with
  |none=>rw[e] at h;cases h
  |some b' =>
   rw[e] at h;cases h;obtain⟨bs,rfl,rfl⟩:=ih e;exact⟨c::bs,rfl,by simp⟩
theorem b9.bls{K ρ H}:∀{bs:List Bool} {vs:List V},b9 K ρ H (bs.map D.bl) vs->vs=bs.map V.bl:=by
 intro bs
 induction bs with
 |nil=>intro vs h;cases h;rfl
 |cons b r ih =>
  intro vs h;cases h with
  |cons h rr=>rw[ih rr,h.K4];rfl
theorem bu1(hc:X.calm=true):l9 X (.builtin "all") (rN X.K .all):=by
 intro pins s σ H xs us Q I r h;obtain⟨ds,g,ρ,R,rs,d',g',⟨a,l,b,rfl,hl,hb,rfl,rfl⟩,q⟩:=h;obtain⟨v,rfl,rv⟩:=rs.one;obtain⟨a',rfl,ra⟩:=rv.j4;obtain⟨vs,hq,rs⟩:=R.items hl ra;rcases hb with hb|⟨ns,rfl,rfl⟩
 rotate_left
 ·have:=rs.ints;subst this;exact aW0 hc pins s σ H _ us Q I r ⟨_,ns,rfl,hq,q.now R (.bl _)⟩
 obtain⟨bs,rfl,rfl⟩:=aN3 hb;have:=rs.bls;subst this;exact aW1 hc pins s σ H _ us Q I r ⟨_,bs,rfl,hq,q.now R (.bl _)⟩
theorem bq3(hc:X.calm=true):l9 X (.builtin "max") (rN X.K .max):=by
 intro pins s σ H xs us Q I r h;obtain⟨ds,g,ρ,R,rs,d',g',⟨rfl,⟨i,j,rfl,rfl⟩|⟨a,ns,M,rfl,hl,h1,h2,rfl⟩⟩,q⟩:=h
 rotate_left
 ·obtain⟨v,rfl,rv⟩:=rs.one;obtain⟨a',rfl,ra⟩:=rv.j4;obtain⟨vs,hq,rs⟩:=R.items hl ra;have:=rs.ints;subst this;exact aV7 hc pins s σ H _ us Q I r ⟨_,ns,M,rfl,hq,h1,h2,q.now R (.int _)⟩
 obtain⟨v,w,rfl,r1,r2⟩:=rs.two;obtain rfl:=r1.i3;obtain rfl:=r2.i3;exact aV8 hc pins s σ H _ us Q I r ⟨i,j,rfl,q.now R (.int _)⟩
theorem bq2(hc:X.calm=true):l9 X (.builtin "min") (rN X.K .min):=by
 intro pins s σ H xs us Q I r h;obtain⟨ds,g,ρ,R,rs,d',g',⟨rfl,⟨i,j,rfl,rfl⟩|⟨a,ns,M,rfl,hl,h1,h2,rfl⟩⟩,q⟩:=h
 rotate_left
 ·obtain⟨v,rfl,rv⟩:=rs.one;obtain⟨a',rfl,ra⟩:=rv.j4;obtain⟨vs,hq,rs⟩:=R.items hl ra;have:=rs.ints;subst this;exact aV5 hc pins s σ H _ us Q I r ⟨_,ns,M,rfl,hq,h1,h2,q.now R (.int _)⟩
 obtain⟨v,w,rfl,r1,r2⟩:=rs.two;obtain rfl:=r1.i3;obtain rfl:=r2.i3;exact aV6 hc pins s σ H _ us Q I r ⟨i,j,rfl,q.now R (.int _)⟩
theorem bj1(hc:X.calm=true):l9 X (.builtin "sum") (rN X.K .sum):=by
 intro pins s σ H xs us Q I r h;obtain⟨ds,g,ρ,R,rs,d',g',⟨a,ns,rfl,hl,rfl,rfl⟩,q⟩:=h;obtain⟨v,rfl,rv⟩:=rs.one;obtain⟨a',rfl,ra⟩:=rv.j4;obtain⟨vs,hq,rs⟩:=R.items hl ra;have:=rs.ints;subst this;exact aV4 hc pins s σ H _ us Q I r ⟨_,ns,rfl,hq,q.now R (.int _)⟩
theorem bs1:l9 X (.type "int") (rN X.K .int):=by
 intro pins s σ H xs us Q I r h;obtain⟨ds,g,ρ,R,rs,d',g',⟨rfl,h⟩,q⟩:=h;rcases h with⟨i,rfl,rfl⟩|⟨b,rfl,rfl⟩
 ·obtain⟨v,rfl,rv⟩:=rs.one;obtain rfl:=rv.i3;exact as4 pins s σ H _ us Q I r (.inl ⟨i,rfl,q.now R (.int _)⟩)
 ·obtain⟨v,rfl,rv⟩:=rs.one;obtain rfl:=rv.K4;exact as4 pins s σ H _ us Q I r (.inr ⟨b,rfl,q.now R (.int _)⟩)
noncomputable def rM(K:PySem.W.Frag)(p:Pr):V->List V->Hp->VK->Prop:=fun x xs H Q=>∃d ds g ρ,Rl K ρ g H/\d8 K ρ H d x/\b9 K ρ H ds xs/\prP p (d::ds) g (LQ K ρ H Q)
theorem Z7{a b:D}{l m:List D}(h:a::l=b::m):a=b/\l=m:=by cases h;exact⟨rfl,rfl⟩
theorem aW6:MtR X "list.append" (rM X.K .append):=by
 intro pins s σ H x xs v us Q I rx r h;obtain⟨d,ds,g,ρ,R,rd,rs,d',g',⟨a,y,l,ex,ha,hz,rfl,rfl⟩,q⟩:=h;obtain⟨rfl,rfl⟩:=Z7 ex;obtain⟨a',rfl,ra⟩:=rd.j4;obtain⟨w,rfl,rw'⟩:=rs.one;obtain⟨vs,z1,rv⟩:=R.lst ha ra;obtain⟨R2,e2⟩:=R.write ha ra (rv.append (.cons rw' .nil));exact aS9 pins s σ H _ _ v us Q I rx r ⟨_,vs,_,rfl,rfl,z1,by rw[<- rv.length];exact ao2 hz,q ρ _ _ e2 R2 .non⟩
theorem bs7(hu:X.A.units+100<cLine):MtR X "dict.get" (rM X.K .get):=by
 intro pins s σ H x xs v us Q I rx r h;obtain⟨d,ds,g,ρ,R,rd,rs,d',g',⟨a,y,z,kvs,c,ex,ha,hc,rfl,rfl⟩,q⟩:=h;obtain⟨rfl,rfl⟩:=Z7 ex;obtain⟨a',rfl,ra⟩:=rd.j4;obtain⟨w1,w2,rfl,r1,r2⟩:=rs.two;obtain⟨vs,z1,rv⟩:=R.dic ha ra;have:=V0 hc r1;subst this;obtain⟨u1,u2,rfl,p1,p2⟩:=vals2 r;cases rx;refine bt4 (by omega) I (N1.k z1) p1 p2 fun w' s4 I4 rw'=>⟨_,H,I4,rw',q.now R ?_⟩
 have q:=rv.val c;cases e1:p6 kvs c with
 |none =>
  rw[e1] at q;cases e2:J7 vs c with
  |none=>exact r2
  |some w=>rw[e2] at q;exact q.elim
 |some d' =>
  rw[e1] at q;obtain⟨w,hw,q⟩:=q.some;rw[hw];exact q
theorem a05:MtR X "list.pop" (rM X.K .pop):=by
 intro pins s σ H x xs v us Q I rx r h;obtain⟨d,ds,g,ρ,R,rd,rs,y,g',⟨a,i,l,k,ex,ha,h1,h2,hk,hy,rfl⟩,q⟩:=h;obtain⟨rfl,rfl⟩:=Z7 ex;obtain⟨a',rfl,ra⟩:=rd.j4;obtain⟨w,rfl,rw'⟩:=rs.one;obtain rfl:=rw'.i3;obtain⟨vs,z1,rv⟩:=R.lst ha ra;obtain⟨w,hw,rw'⟩:=rv.get hy;obtain⟨R2,e2⟩:=R.write ha ra (rv.erase k);exact a19 pins s σ H _ _ v us Q I rx r ⟨_,vs,i,k,w,rfl,rfl,z1,h1,h2,by rw[<- rv.length];exact hk,hw,q ρ _ _ e2 R2 (rw'.ext e2)⟩
theorem ty_list{d:D}{v:V}{g:G}{ρ:List Addr}{H:Hp}(R:Rl X.K ρ g H)(r:d8 X.K ρ H d v)(h:∃a l,d=.ref a/\d4 g a=some l):tyV X.K "list" v H:=by
 obtain⟨a,l,rfl,hl⟩:=h;obtain⟨a',rfl,ra⟩:=r.j4;obtain⟨vs,hq,_⟩:=R.items hl ra;exact .inl ⟨rfl,vs,hq⟩
theorem bb4:MtR X "set.add" (rM X.K .sadd):=by
 intro pins s σ H x xs v us Q I rx r h;obtain⟨d,ds,g,ρ,R,rd,rs,d',g',⟨a,i,S,n,ex,ha,hn,rfl,rfl⟩,q⟩:=h;obtain⟨rfl,rfl⟩:=Z7 ex;obtain⟨a',rfl,ra⟩:=rd.j4;obtain⟨w,rfl,rw'⟩:=rs.one;obtain rfl:=rw'.i3;obtain⟨R2,e2⟩:=R.put (o':=.set (fun k=>S k||decide (k=i)) (if S i then n else n+1)) (u:=.set (fun k=>S k||decide (k=i)) (if S i then n else n+1)) ha rfl ra ⟨rfl,rfl⟩;exact aK9 pins s σ H _ _ v us Q I rx r ⟨_,i,S,n,rfl,rfl,R.set ha ra,hn,q ρ _ _ e2 R2 .non⟩
theorem ty_set{d:D}{v:V}{g:G}{ρ:List Addr}{H:Hp}(R:Rl X.K ρ g H)(r:d8 X.K ρ H d v)(h:mkP .sadd d g):tyV X.K "set" v H:=by
 obtain⟨a,S,n,rfl,hl⟩:=h;obtain⟨a',rfl,ra⟩:=r.j4;exact .inr (.inr (.inr ⟨rfl,S,n,R.set hl ra⟩))
theorem ty_dict{d:D}{v:V}{g:G}{ρ:List Addr}{H:Hp}(R:Rl X.K ρ g H)(r:d8 X.K ρ H d v)(h:mkP .get d g):tyV X.K "dict" v H:=by
 obtain⟨a,l,rfl,hl⟩:=h;obtain⟨a',rfl,ra⟩:=r.j4;obtain⟨vs,hq,_⟩:=R.dic hl ra;exact .inr (.inr (.inl ⟨rfl,.inl ⟨vs,hq⟩⟩))
end
end M

namespace M
open PySem L2 PySem.Spec PyProof.Rows
noncomputable abbrev XKE:=List Str×XK
noncomputable def LX(K:PySem.W.Frag)(ρ:List Addr)(H:Hp)(Ξ:XKE):KX:=fun x g'=>∀ρ' H' C,Ext ρ H ρ' H'->Rl K ρ' g' H'->x.cls∈Ξ.1->p0 K x.cls C->Ξ.2 (.ref C) none H'
theorem LX.ext{K:PySem.W.Frag}{ρ ρ1:List Addr}{H H1:Hp}{Ξ:XKE}(e:Ext ρ H ρ1 H1){x:Xn}{g:G}(h:LX K ρ H Ξ x g):LX K ρ1 H1 Ξ x g:=fun ρ' H' C e' R hm c=>h ρ' H' C (e.trans e') R hm c
noncomputable abbrev XK0(ex:List Str):XKE:=(ex,fun _ _ _=>False)
noncomputable def LE(K:PySem.W.Frag)(Ξ:XKE)(t:S->G->KD->KX->Prop):TE:=fun σv H Q=>∃σ g ρ,m8 K ρ H σ σv/\Rl K ρ g H/\t σ g (LQ K ρ H Q) (LX K ρ H Ξ)
noncomputable def LT(K:PySem.W.Frag)(Ξ:XKE)(t:S->G->(Bool->G->Prop)->KX->Prop):TT:=fun σv H Q=>∃σ g ρ,m8 K ρ H σ σv/\Rl K ρ g H/\t σ g (fun b g'=>∀ρ' H',Ext ρ H ρ' H'->Rl K ρ' g' H'->Q b H') (LX K ρ H Ξ)
noncomputable def LA(K:PySem.W.Frag)(Ξ:XKE)(t:S->G->(List D->G->Prop)->KX->Prop):TA:=fun σv H Q=>∃σ g ρ,m8 K ρ H σ σv/\Rl K ρ g H/\t σ g (fun ds g'=>∀ρ' H' vs,Ext ρ H ρ' H'->Rl K ρ' g' H'->b9 K ρ' H' ds vs->Q vs H') (LX K ρ H Ξ)
noncomputable def U3(K:PySem.W.Frag)(ρ0:List Addr)(H0:Hp)(k:IK)(J:It):Prop:=∀ρ g H,Ext ρ0 H0 ρ H->Rl K ρ g H->∀i,(k.at i g=some none->J.stop i H) /\
 ∀d,k.at i g=some (some d)->J.go i H/\∀v H',J.yld i H v H'->Ext ρ H ρ H'/\Rl K ρ g H'/\d8 K ρ H' d v
noncomputable def LI(K:PySem.W.Frag)(Ξ:XKE)(t:S->G->(IK->G->Prop)->KX->Prop):TI:=fun σv H R=>∃σ g ρ,m8 K ρ H σ σv/\Rl K ρ g H/\t σ g (fun k g'=>∀ρ' H' J,Ext ρ H ρ' H'->Rl K ρ' g' H'->U3 K ρ' H' k J->R J H') (LX K ρ H Ξ)
noncomputable def LG(K:PySem.W.Frag)(t:MT):TG:=fun v σv H Q=>∃d σ g ρ,m8 K ρ H σ σv/\Rl K ρ g H/\d8 K ρ H d v/\tgP t d σ (fun σ'=>∀σv',m8 K ρ H σ' σv'->Q σv' H)
noncomputable def LN(K:PySem.W.Frag)(ρ:List Addr)(H:Hp)(N:L2.Ends):Ends where
 nx:=fun σ' g'=>∀ρ' H' σv',Ext ρ H ρ' H'->Rl K ρ' g' H'->m8 K ρ' H' σ' σv'->N.nx σv' H'
 rt:=LQ K ρ H N.rt
 bk:=fun σ' g'=>∀ρ' H' σv',Ext ρ H ρ' H'->Rl K ρ' g' H'->m8 K ρ' H' σ' σv'->N.bk σv' H'
 ct:=fun σ' g'=>∀ρ' H' σv',Ext ρ H ρ' H'->Rl K ρ' g' H'->m8 K ρ' H' σ' σv'->N.ct σv' H'
noncomputable def LS(K:PySem.W.Frag)(Ξ:XKE)(t:Ends->S->G->KX->Prop):TS:=fun N σv H=>∃σ g ρ,m8 K ρ H σ σv/\Rl K ρ g H/\t (LN K ρ H N) σ g (LX K ρ H Ξ)
end M
namespace L2
open PySem PySem.Spec PyProof.Rows
section
variable{X:Cx}{e:Expr}
theorem PE.imp{t t':TE}(h:PE X e t)(i:∀σ H Q,t' σ H Q->t σ H Q):PE X e t':=fun pins s σ H Q I q=>h pins s σ H Q I (i σ H Q q)
theorem PT.imp{t t':TT}(h:PT X e t)(i:∀σ H Q,t' σ H Q->t σ H Q):PT X e t':=fun pins s σ H Q I q=>h pins s σ H Q I (i σ H Q q)
theorem PW.imp{t t':TT}(h:PW X e t)(i:∀σ H Q,t' σ H Q->t σ H Q):PW X e t':=fun w pins s σ H Q I q=>h w pins s σ H Q I (i σ H Q q)
theorem PA.imp{es:List Expr}{t t':TA}(h:PA X es t)(i:∀σ H Q,t' σ H Q->t σ H Q):PA X es t':=fun p pins s σ H Q I q=>h p pins s σ H Q I (i σ H Q q)
theorem PTs.imp{es:List Expr}{t t':TT}(h:PTs X es t)(i:∀σ H Q,t' σ H Q->t σ H Q):PTs X es t':=fun pins s σ H Q I q=>h pins s σ H Q I (i σ H Q q)
theorem PI.imp{tg:Expr}{t t':TI}(h:PI X tg e t)(i:∀σ H Q,t' σ H Q->t σ H Q):PI X tg e t':=fun pins s σ H Q I q=>h pins s σ H Q I (i σ H Q q)
theorem PG.imp{t t':TG}(h:PG X e t)(i:∀v σ H Q,t' v σ H Q->t v σ H Q):PG X e t':=fun pins s σ H v u Q I r q=>h pins s σ H v u Q I r (i v σ H Q q)
theorem PS.imp{st:Stmt}{t t':TS}(h:PS X st t)(i:∀N σ H,t' N σ H->t N σ H):PS X st t':=fun pins s σ H N I q=>h pins s σ H N I (i N σ H q)
theorem PSs.imp{st:List Stmt}{t t':TS}(h:PSs X st t)(i:∀N σ H,t' N σ H->t N σ H):PSs X st t':=fun pins s σ H N I q=>h pins s σ H N I (i N σ H q)
end
end L2
namespace M
open PySem L2 PySem.Spec PyProof.Rows
section
variable{K:PySem.W.Frag}{Ξ:XKE}{P:Sig}(hP:i4 P){ρ ρ0:List Addr}{H H0:Hp}{σ:S}{σv:L2.St}{g:G}{m:ME}
include hP
theorem thE{Q0:KD}{Q:VK}(s:m8 K ρ H σ σv)(R:Rl K ρ g H)(e0:Ext ρ0 H0 ρ H)(h:wpE P m σ g Q0 (LX K ρ0 H0 Ξ))(k:∀x g1 ρ1 H1 v1,Ext ρ H ρ1 H1->Rl K ρ1 g1 H1->d8 K ρ1 H1 x v1->Q0 x g1->Q v1 H1):LE K Ξ (wpE P m) σv H Q :=
 ⟨σ,g,ρ,s,R,b8 hP m _ _ _ _ _ _ (fun x g1 h ρ1 H1 v1 e1 R1 r1=>k x g1 ρ1 H1 v1 e1 R1 r1 h) (fun _ _ z=>LX.ext e0 z) h⟩
theorem thA{Q0:List D->G->Prop}{Q:List V->Hp->Prop}(s:m8 K ρ H σ σv)(R:Rl K ρ g H)(e0:Ext ρ0 H0 ρ H)(h:wpA P m σ g Q0 (LX K ρ0 H0 Ξ))(k:∀x g1 ρ1 H1 v1,Ext ρ H ρ1 H1->Rl K ρ1 g1 H1->b9 K ρ1 H1 x v1->Q0 x g1->Q v1 H1):LA K Ξ (wpA P m) σv H Q :=
 ⟨σ,g,ρ,s,R,v7 hP m _ _ _ _ _ _ (fun x g1 h ρ1 H1 v1 e1 R1 r1=>k x g1 ρ1 H1 v1 e1 R1 r1 h) (fun _ _ z=>LX.ext e0 z) h⟩
theorem thT{Q0:Bool->G->Prop}{Q:Bool->Hp->Prop}(s:m8 K ρ H σ σv)(R:Rl K ρ g H)(e0:Ext ρ0 H0 ρ H)(h:wpT P m σ g Q0 (LX K ρ0 H0 Ξ))(k:∀t g1 ρ1 H1,Ext ρ H ρ1 H1->Rl K ρ1 g1 H1->Q0 t g1->Q t H1):LT K Ξ (wpT P m) σv H Q :=
 ⟨σ,g,ρ,s,R,n9 hP m _ _ _ _ _ _ (fun t g1 h ρ1 H1 e1 R1=>k t g1 ρ1 H1 e1 R1 h) (fun _ _ z=>LX.ext e0 z) h⟩
theorem thS{ms:MS}{N:L2.Ends}{N0:Ends}(s:m8 K ρ H σ σv)(R:Rl K ρ g H)(e0:Ext ρ0 H0 ρ H)(h:wpS P ms N0 σ g (LX K ρ0 H0 Ξ))(k:N0.le (LN K ρ H N)):LS K Ξ (wpS P ms) N σv H :=
 ⟨σ,g,ρ,s,R,wpS_mono hP ms _ _ _ _ _ _ k (fun _ _ z=>LX.ext e0 z) h⟩
end
theorem b9.rng{K ρ H}(lo:Int)(n:Nat):b9 K ρ H (j7 lo n) ((List.range n).map fun(k:Nat)=>V.int (lo+k)):=by
 unfold j7;have:∀l:List Nat,b9 K ρ H (l.map fun(k:Nat)=>D.int (lo+k)) (l.map fun(k:Nat)=>V.int (lo+k)):=by
  intro l
  induction l with
  |nil=>exact .nil
  |cons x r ih=>exact .cons (.int _) ih
 exact this _
section
variable{X:Cx}{Ξ:XKE}{P:Sig}(hP:i4 P){a b c e:Expr}{ma mb mc:ME}{pos:Pos}{p:Pr}
include hP
theorem ax7(h:PE X e (tOp (r2 X.K p) (LE X.K Ξ (wpE P ma)) (LE X.K Ξ (wpE P mb)))):PE X e (LE X.K Ξ (wpE P (.prim p (.cons ma (.cons mb .nil))))) :=
 h.imp fun σv H Q ⟨σ,g,ρ,s,R,h⟩=>by
  simp only[wpE,wpA] at h;exact thE hP s R (.refl _ _) h fun x g1 ρ1 H1 v1 e1 R1 r1 h=>thE hP (s.ext e1) R1 e1 h fun y g2 ρ2 H2 v2 e2 R2 r2 h =>
   ⟨x,y,g2,ρ2,R2,r1.ext e2,r2,p8 (fun d g' h=>h.ext (e1.trans e2)) h⟩
theorem bj3{op:CmpOp}(h:PT X e (aJ0 (tOp (r2 X.K (.cmp op)) (LE X.K Ξ (wpE P ma)) (LE X.K Ξ (wpE P mb))))):PT X e (LT X.K Ξ (wpT P (.tst (.prim (.cmp op) (.cons ma (.cons mb .nil)))))) :=
 h.imp fun σv H Q ⟨σ,g,ρ,s,R,h⟩=>by
  simp only[wpT,wpE,wpA] at h;refine thE hP s R (.refl _ _) h fun x g1 ρ1 H1 v1 e1 R1 r1 h=>thE hP (s.ext e1) R1 e1 h fun y g2 ρ2 H2 v2 e2 R2 r2 h=>?_;obtain⟨d',g',h,q⟩:=h;obtain⟨x',y',t,ex,hc,rfl,rfl⟩:=id h;refine⟨x,y,g',ρ2,R2,r1.ext e2,r2,_,_,h,fun ρ' H' v e' R' r'=>?_⟩;obtain⟨t',ht,q⟩:=q;rcases ht with⟨z,_⟩|z|⟨i,z,_⟩|⟨l,z,_⟩|⟨a,l,z,_⟩<;>cases z
  exact⟨_,r'.K4,q ρ' H' (e1.trans (e2.trans e')) R'⟩
theorem bw9{op:UnaryOp}(ha:PE X a (LE X.K Ξ (wpE P ma))):PE X (.UnaryOp op a pos) (LE X.K Ξ (wpE P (.prim (.un op) (.cons ma .nil)))) :=
 (by2 (bz0 op) ha).imp fun σv H Q ⟨σ,g,ρ,s,R,h⟩=>by
  simp only[wpE,wpA] at h;exact thE hP s R (.refl _ _) h fun x g1 ρ1 H1 v1 e1 R1 r1 h=>⟨x,g1,ρ1,R1,r1,p8 (fun d g' h=>h.ext e1) h⟩
theorem aB1{op op':CmpOp}:∀σv H Q,LE X.K Ξ (wpE P (.chain op op' ma mb mc)) σv H Q->ax0 (r2 X.K (.cmp op)) (r2 X.K (.cmp op')) (LE X.K Ξ (wpE P ma)) (LE X.K Ξ (wpE P mb)) (LE X.K Ξ (wpE P mc)) σv H Q:=fun σv H Q ⟨σ,g,ρ,s,R,h⟩=>by
 simp only[wpE] at h;refine thE hP s R (.refl _ _) h fun x g1 ρ1 H1 v1 e1 R1 r1 h=>thE hP (s.ext e1) R1 e1 h fun y g2 ρ2 H2 v2 e2 R2 r2 h=>?_;refine⟨x,y,g2,ρ2,R2,r1.ext e2,r2,p8 (fun d g3 h ρ3 H3 v3 e3 R3 r3=>?_) h⟩;obtain⟨t,rfl,h⟩:=h;obtain rfl:=r3.K4;refine⟨t,rfl,?_⟩;cases t
 ·exact h ρ3 H3 _ (e1.trans (e2.trans e3)) R3 (.bl _)
 ·exact thE hP (s.ext (e1.trans (e2.trans e3))) R3 (e1.trans (e2.trans e3)) h fun z g4 ρ4 H4 v4 e4 R4 r4 h =>
   ⟨y,z,g4,ρ4,R4,r2.ext (e3.trans e4),r4,p8 (fun d g' h=>h.ext (e1.trans (e2.trans (e3.trans e4)))) h⟩
theorem aZ0{op op':CmpOp}(hu:X.A.units+100<cLine)(ha:PE X a (LE X.K Ξ (wpE P ma)))(hb:PE X b (LE X.K Ξ (wpE P mb)))(hc:PE X c (LE X.K Ξ (wpE P mc)))(hm:lastMarks [op,op'] [b,c]=false) :
  PE X (.Compare a [op,op'] [b,c] pos) (LE X.K Ξ (wpE P (.chain op op' ma mb mc))):=(a12 (U8 hu op) (U8 hu op') ha hb hc hm).imp (aB1 hP)
theorem a38{op op':CmpOp}{σ:S}{g:G}{Q:Bool->G->Prop}{E:KX}(h:wpT P (.tst (.chain op op' ma mb mc)) σ g Q E):wpE P (.chain op op' ma mb mc) σ g (fun d g'=>∃t,d=.bl t/\Q t g') E:=by
 have one:∀{o:CmpOp} {xs:List D} {g:G},prP (.cmp o) xs g (fun d g1=>W9 g1 d fun b=>Q b g1)->prP (.cmp o) xs g fun d g'=>∃t,d=.bl t/\Q t g':=by
  intro o xs g h;obtain⟨d',g',h,t',ht,q⟩:=h;obtain⟨x',y',t,ex,hc,rfl,rfl⟩:=id h;refine⟨_,_,h,t',?_,q⟩;rcases ht with⟨z,_⟩|z|⟨i,z,_⟩|⟨l,z,_⟩|⟨a,l,z,_⟩<;>first|exact z|cases z
 simp only[wpT,wpE] at h ⊢;refine b8 hP ma _ _ _ _ _ _ (fun x g1 h=>b8 hP mb _ _ _ _ _ _ (fun y g2 h=>p8 (fun z g3 h=>?_) h) (fun _ _ z=>z) h) (fun _ _ z=>z) h;obtain⟨t,rfl,h⟩:=h;refine⟨t,rfl,?_⟩;cases t
 ·obtain⟨b,hb,q⟩:=(show W9 g3 (.bl false) fun b=>Q b g3 from h)
  rcases hb with⟨z,_⟩|z|⟨i,z,_⟩|⟨l,z,_⟩|⟨a,l,z,_⟩<;>first|(cases z;exact⟨_,rfl,q⟩)|cases z
 ·exact b8 hP mc _ _ _ _ _ _ (fun w g4 h=>one h) (fun _ _ z=>z) h
theorem aY0{op op':CmpOp}(hu:X.A.units+100<cLine)(ha:PE X a (LE X.K Ξ (wpE P ma)))(hb:PE X b (LE X.K Ξ (wpE P mb)))(hc:PE X c (LE X.K Ξ (wpE P mc)))(hm:lastMarks [op,op'] [b,c]=false) :
  PT X (.Compare a [op,op'] [b,c] pos) (LT X.K Ξ (wpT P (.tst (.chain op op' ma mb mc)))) :=
 (aZ9 (U8 hu op) (U8 hu op') ha hb hc hm).imp fun σv H Q ⟨σ,g,ρ,s,R,h⟩ =>
  aB1 hP σv H _ (thE hP s R (.refl _ _) (a38 hP h) fun x g1 ρ1 H1 v1 e1 R1 r1 h=>by
   obtain⟨t,rfl,h⟩:=h;exact ⟨t,r1.K4,h ρ1 H1 e1 R1⟩)
theorem bl3{rest:List Expr}(ha:PE X a (LE X.K Ξ (wpE P ma)))(hb:PE X (.BoolOp .And (b::rest) pos) (LE X.K Ξ (wpE P mb))):PE X (.BoolOp .And (a::b::rest) pos) (LE X.K Ξ (wpE P (.and_ ma mb))) :=
 (bo4 ha hb).imp fun σv H Q ⟨σ,g,ρ,s,R,h⟩=>by
  simp only[wpE] at h;refine thE hP s R (.refl _ _) h fun x g1 ρ1 H1 v1 e1 R1 r1 h=>?_;obtain⟨t,rfl,h⟩:=h;refine⟨t,r1.K4,?_⟩;cases t
  ·exact h ρ1 H1 _ e1 R1 (.bl _)
  ·exact thE hP (s.ext e1) R1 e1 h fun y g2 ρ2 H2 v2 e2 R2 r2 h=>h ρ2 H2 v2 (e1.trans e2) R2 r2
theorem bx0{rest:List Expr}(ha:PE X a (LE X.K Ξ (wpE P ma)))(hb:PE X (.BoolOp .Or (b::rest) pos) (LE X.K Ξ (wpE P mb))):PE X (.BoolOp .Or (a::b::rest) pos) (LE X.K Ξ (wpE P (.or_ ma mb))) :=
 (by3 ha hb).imp fun σv H Q ⟨σ,g,ρ,s,R,h⟩=>by
  simp only[wpE] at h;refine thE hP s R (.refl _ _) h fun x g1 ρ1 H1 v1 e1 R1 r1 h=>?_;obtain⟨t,rfl,h⟩:=h;refine⟨t,r1.K4,?_⟩;cases t
  ·exact thE hP (s.ext e1) R1 e1 h fun y g2 ρ2 H2 v2 e2 R2 r2 h=>h ρ2 H2 v2 (e1.trans e2) R2 r2
  ·exact h ρ1 H1 _ e1 R1 (.bl _)
theorem bk7(ha:PE X a (LE X.K Ξ (wpE P ma))):PE X (.UnaryOp .Not a pos) (LE X.K Ξ (wpE P (.not_ ma))) :=
 (bn8 ha).imp fun σv H Q ⟨σ,g,ρ,s,R,h⟩=>by
  simp only[wpE] at h;refine thE hP s R (.refl _ _) h fun x g1 ρ1 H1 v1 e1 R1 r1 h=>?_;obtain⟨t,rfl,h⟩:=h;exact⟨t,r1.K4,h ρ1 H1 _ e1 R1 (.bl _)⟩
theorem bk8(hc:PT X c (LT X.K Ξ (wpT P mc)))(ha:PE X a (LE X.K Ξ (wpE P ma)))(hb:PE X b (LE X.K Ξ (wpE P mb))):PE X (.IfExp c a b pos) (LE X.K Ξ (wpE P (.ite mc ma mb))) :=
 (a10 hc ha hb).imp fun σv H Q ⟨σ,g,ρ,s,R,h⟩=>by
  simp only[wpE] at h;refine thT hP s R (.refl _ _) h fun t g1 ρ1 H1 e1 R1 h=>?_;cases t
  ·exact thE hP (s.ext e1) R1 e1 h fun y g2 ρ2 H2 v2 e2 R2 r2 h=>h ρ2 H2 v2 (e1.trans e2) R2 r2
  ·exact thE hP (s.ext e1) R1 e1 h fun y g2 ρ2 H2 v2 e2 R2 r2 h=>h ρ2 H2 v2 (e1.trans e2) R2 r2
theorem bk6{es:List Expr}{mes:ME}{k:Nat}(h:PA X es (LA X.K Ξ (wpA P mes))):PE X (.Tuple es k pos) (LE X.K Ξ (wpE P (.prim .tup mes))) :=
 (bn6 h).imp fun σv H Q ⟨σ,g,ρ,s,R,h⟩=>by
  simp only[wpE] at h;refine thA hP s R (.refl _ _) h fun ds g1 ρ1 H1 vs e1 R1 r1 h=>?_;obtain⟨d',g',⟨hz,rfl,rfl⟩,q⟩:=h;exact⟨by rw[<- r1.length];exact k6 (Nat.le_trans hz (by decide)),fun p hp=>(q.ext e1).tup R1 hp r1⟩
theorem aQ1{es:List Expr}{mes:ME}(h:PA X es (LA X.K Ξ (wpA P mes))):PE X (.List es pos) (LE X.K Ξ (wpE P (.prim .lst mes))) :=
 (bo0 h).imp fun σv H Q ⟨σ,g,ρ,s,R,h⟩=>by
  simp only[wpE] at h;refine thA hP s R (.refl _ _) h fun ds g1 ρ1 H1 vs e1 R1 r1 h=>?_;obtain⟨d',g',⟨hz,rfl,rfl⟩,q⟩:=h;exact⟨by rw[<- r1.length];exact k6 (Nat.le_trans hz (by decide)),fun p hp=>(q.ext e1).new R1 hp r1⟩
theorem F4:PA X [] (LA X.K Ξ (wpA P .nil)) :=
 (U7 (X:=X)).imp fun σv H Q ⟨σ,g,ρ,s,R,h⟩=>by
  simp only[wpA] at h;exact h ρ H [] (.refl _ _) R .nil
theorem A4{es:List Expr}{mes:ME}(ha:PE X a (LE X.K Ξ (wpE P ma)))(h:PA X es (LA X.K Ξ (wpA P mes)))(hs:starEach (a::es) X.env=(false,eval a X.env)::starEach es X.env):PA X (a::es) (LA X.K Ξ (wpA P (.cons ma mes))) :=
 (O5 ha h hs).imp fun σv H Q ⟨σ,g,ρ,s,R,h⟩=>by
  simp only[wpA] at h;exact thE hP s R (.refl _ _) h fun x g1 ρ1 H1 v1 e1 R1 r1 h=>thA hP (s.ext e1) R1 e1 h fun xs g2 ρ2 H2 vs e2 R2 r2 h=>h ρ2 H2 _ (e1.trans e2) R2 (.cons (r1.ext e2) r2)
theorem aY4{p2:Pos}(ha:PE X a (LE X.K Ξ (wpE P ma))):PE X (.Subscript a (.Slice none none none p2) pos) (LE X.K Ξ (wpE P (.prim (.slc false false) (.cons ma .nil)))) :=
 (ah7 aJ6 ha ad9 ad9).imp fun σv H Q ⟨σ,g,ρ,s,R,h⟩=>by
  simp only[wpE,wpA] at h;refine thE hP s R (.refl _ _) h fun x g1 ρ1 H1 v1 e1 R1 r1 h=>?_;obtain⟨d',g',⟨x',ex,h⟩,q⟩:=h;cases ex;exact⟨x,g1,ρ1,d',g',R1,r1,h,q.ext e1⟩
theorem aY2{p2:Pos}(ha:PE X a (LE X.K Ξ (wpE P ma)))(hb:PE X b (LE X.K Ξ (wpE P mb))):PE X (.Subscript a (.Slice (some b) none none p2) pos) (LE X.K Ξ (wpE P (.prim (.slc true false) (.cons ma (.cons mb .nil))))) :=
 (ah7 aJ6 ha (aF7 hb) ad9).imp fun σv H Q ⟨σ,g,ρ,s,R,h⟩=>by
  simp only[wpE,wpA] at h;refine thE hP s R (.refl _ _) h fun x g1 ρ1 H1 v1 e1 R1 r1 h=>thE hP (s.ext e1) R1 e1 h fun y g2 ρ2 H2 v2 e2 R2 r2 h=>?_;obtain⟨d',g',⟨x',i,ex,h⟩,q⟩:=h;cases ex;exact⟨i,r2.i3,x,g2,ρ2,d',g',R2,r1.ext e2,h,q.ext (e1.trans e2)⟩
theorem aY3{p2:Pos}(ha:PE X a (LE X.K Ξ (wpE P ma)))(hb:PE X b (LE X.K Ξ (wpE P mb))):PE X (.Subscript a (.Slice none (some b) none p2) pos) (LE X.K Ξ (wpE P (.prim (.slc false true) (.cons ma (.cons mb .nil))))) :=
 (ah7 aJ6 ha ad9 (aF7 hb)).imp fun σv H Q ⟨σ,g,ρ,s,R,h⟩=>by
  simp only[wpE,wpA] at h;refine thE hP s R (.refl _ _) h fun x g1 ρ1 H1 v1 e1 R1 r1 h=>thE hP (s.ext e1) R1 e1 h fun y g2 ρ2 H2 v2 e2 R2 r2 h=>?_;obtain⟨d',g',⟨x',i,ex,h⟩,q⟩:=h;cases ex;exact⟨i,r2.i3,x,g2,ρ2,d',g',R2,r1.ext e2,h,q.ext (e1.trans e2)⟩
theorem bj2(ha:PE X a (LE X.K Ξ (wpE P ma)))(he:∀whole,isTrue a X.env whole=(do let v <- whole;standAt a.pos;holding [v] (truthy v))):PT X a (LT X.K Ξ (wpT P (.tst ma))) :=
 (aZ8 ha he).imp fun σv H Q ⟨σ,g,ρ,s,R,h⟩=>by
  simp only[wpT] at h;refine thE hP s R (.refl _ _) h fun x g1 ρ1 H1 v1 e1 R1 r1 h=>?_;obtain⟨b,h1,h2⟩:=h;exact⟨b,bh6 R1 r1 h1,h2 ρ1 H1 e1 R1⟩
theorem bj4(ha:PT X a (LT X.K Ξ (wpT P ma))):PT X (.UnaryOp .Not a pos) (LT X.K Ξ (wpT P (.not_ ma))) :=
 (bm4 ha).imp fun σv H Q ⟨σ,g,ρ,s,R,h⟩=>by
  simp only[wpT] at h;exact thT hP s R (.refl _ _) h fun t g1 ρ1 H1 e1 R1 h=>h ρ1 H1 e1 R1
theorem bj0{rest:List Expr}(ha:PT X a (LT X.K Ξ (wpT P ma)))(hb:PW X (.BoolOp .And (b::rest) pos) (LT X.K Ξ (wpT P mb))):PW X (.BoolOp .And (a::b::rest) pos) (LT X.K Ξ (wpT P (.and_ ma mb))) :=
 (bm3 ha hb).imp fun σv H Q ⟨σ,g,ρ,s,R,h⟩=>by
  simp only[wpT] at h;refine thT hP s R (.refl _ _) h fun t g1 ρ1 H1 e1 R1 h=>?_;cases t
  ·exact h ρ1 H1 e1 R1
  ·exact thT hP (s.ext e1) R1 e1 h fun t g2 ρ2 H2 e2 R2 h=>h ρ2 H2 (e1.trans e2) R2
theorem bw7{rest:List Expr}(ha:PT X a (LT X.K Ξ (wpT P ma)))(hb:PW X (.BoolOp .Or (b::rest) pos) (LT X.K Ξ (wpT P mb))):PW X (.BoolOp .Or (a::b::rest) pos) (LT X.K Ξ (wpT P (.or_ ma mb))) :=
 (bx9 ha hb).imp fun σv H Q ⟨σ,g,ρ,s,R,h⟩=>by
  simp only[wpT] at h;refine thT hP s R (.refl _ _) h fun t g1 ρ1 H1 e1 R1 h=>?_;cases t
  ·exact thT hP (s.ext e1) R1 e1 h fun t g2 ρ2 H2 e2 R2 h=>h ρ2 H2 (e1.trans e2) R2
  ·exact h ρ1 H1 e1 R1
theorem a96:PTs X [] (LT X.K Ξ (wpT P .no)) :=
 (bb9 (X:=X)).imp fun σv H Q ⟨σ,g,ρ,s,R,h⟩=>by
  simp only[wpT] at h;exact h ρ H (.refl _ _) R
theorem bl2{x:Str}{v:Value}{es:List Expr}{mes:ME}{q:Pos}(hv:(∃id,v=.builtin id)\/∃T,v=.type T)(hc:l9 X v (rN X.K p))(hg:Gl X x)(hm:X.mg x=none)(hb:bootBuiltins x=some v)(ha:PA X (e::es) (LA X.K Ξ (wpA P mes)))(hn:x≠"__name__")(hd:(x==("__debug__":Str))=false)(hst:starEach (e::es) X.env=(false,eval e X.env)::starEach es X.env)(hpl:(backTo pos (starEach es X.env)).any (·.1)=false):PE X (.Call (.Name x q) (e::es) [] pos) (LE X.K Ξ (wpE P (.prim p mes))):=by
 have base:PE X (.Call (.Name x q) (e::es) [] pos) (tCB (rN X.K p) (LA X.K Ξ (wpA P mes))):=by
  rcases hv with⟨id,rfl⟩|⟨T,rfl⟩
  ·exact X5 hc hg hm hb ha hn hd hst hpl
  ·exact M6 hc hg hm hb ha hn hd hst hpl
 refine base.imp fun σv H Q ⟨σ,g,ρ,s,R,h⟩=>?_;simp only[wpE] at h;exact thA hP s R (.refl _ _) h fun xs g1 ρ1 H1 vs e1 R1 r1 h=>⟨xs,g1,ρ1,R1,r1,p8 (fun d g' h=>h.ext e1) h⟩
theorem ba7{o:Expr}{es:List Expr}{mo mes:ME}{T:String}{name:Str}{id:String}{apos:Pos}(pa:PlainAttrs T)(slot:Slot T name id)(hty:typeOf (.builtin id)=pure (.type "method_descriptor"))(hm:MtR X id (rM X.K p))(hk:∀{d:D} {v:V} {g:G} {ρ:List Addr} {H:Hp},Rl X.K ρ g H->d8 X.K ρ H d v->mkP p d g->tyV X.K T v H)(ho:PE X o (LE X.K Ξ (wpE P mo)))(ha:PA X (e::es) (LA X.K Ξ (wpA P mes)))(hbase:attributeBase o name X.env (eval o X.env)=eval o X.env)(hfew:((backTo pos (starEach (e::es) X.env)).all (fun x=>!x.1)&&(backToKw pos (keywordEach [] X.env)).all (fun x=>x.1.isSome)&&decide ((e::es).length+([]:List Keyword).length+(if([]:List Keyword).isEmpty then 0 else 1)<30))=true)(hline:(apos.endLine==pos.line)=true)(hs:starEach (e::es) X.env=(false,eval e X.env)::starEach es X.env)(hplain:(backTo pos (starEach es X.env)).any (·.1)=false) :
  PE X (.Call (.Attribute o name apos) (e::es) [] pos) (LE X.K Ξ (wpE P (.meth p mo mes))) :=
 (by7 pa slot hty hm ho ha hbase hfew hline hs hplain).imp fun σv H Q ⟨σ,g,ρ,s,R,h⟩=>by
  simp only[wpE] at h;exact thE hP s R (.refl _ _) h fun x g1 ρ1 H1 v1 e1 R1 r1 h=>⟨hk R1 r1 h.1,thA hP (s.ext e1) R1 e1 h.2 fun xs g2 ρ2 H2 ws e2 R2 r2 h =>
   ⟨x,xs,g2,ρ2,R2,r1.ext e2,r2,p8 (fun d g' h=>h.ext (e1.trans e2)) h⟩⟩
theorem aY6{o:Expr}{mo:ME}{T:String}{name:Str}{id:String}{apos:Pos}(pa:PlainAttrs T)(slot:Slot T name id)(hty:typeOf (.builtin id)=pure (.type "method_descriptor"))(hm:MtR X id (rM X.K p))(hk:∀{d:D} {v:V} {g:G} {ρ:List Addr} {H:Hp},Rl X.K ρ g H->d8 X.K ρ H d v->mkP p d g->tyV X.K T v H)(ho:PE X o (LE X.K Ξ (wpE P mo)))(hbase:attributeBase o name X.env (eval o X.env)=eval o X.env)(hline:(apos.endLine==pos.line)=true) :
  PE X (.Call (.Attribute o name apos) [] [] pos) (LE X.K Ξ (wpE P (.meth p mo .nil))) :=
 (bo3 pa slot hty hm ho hbase hline).imp fun σv H Q ⟨σ,g,ρ,s,R,h⟩=>by
  simp only[wpE,wpA] at h;exact thE hP s R (.refl _ _) h fun x g1 ρ1 H1 v1 e1 R1 r1 h=>⟨hk R1 r1 h.1,x,[],g1,ρ1,R1,r1,.nil,p8 (fun d g' h=>h.ext e1) h.2⟩
theorem aY9{q p2 pos2:Pos}(hc:X.calm=true)(ha:PE X a (LE X.K Ξ (wpE P ma)))(hgl:Gl X "list")(hml:X.mg "list"=none)(hg:Gl X "range")(hm:X.mg "range"=none)(hs:starEach [a] X.env=[(false,eval a X.env)]) :
  PE X (.Call (.Name "list" p2) [.Call (.Name "range" q) [a] [] pos] [] pos2) (LE X.K Ξ (wpE P (.prim .lrng1 (.cons ma .nil)))) :=
 (M6 (aa7 hc) hgl hml (by first|exact PyProof.Rows.boot_list|decide +kernel) (O5 (aR8 hg hm (A4 hP ha (F4 hP) (by rw[hs];rfl)) hs) U7)).imp fun σv H Q ⟨σ,g,ρ,s,R,h⟩=>by
  simp only[wpE] at h;refine thA hP s R (.refl _ _) h fun xs g1 ρ1 H1 vs e1 R1 r1 h=>?_;obtain⟨d',g',⟨j,rfl,h1,h2,rfl,rfl⟩,q⟩:=h;obtain⟨v,rfl,rv⟩:=r1.one;obtain rfl:=rv.i3;refine⟨j,rfl,fun q' hq=>⟨q',0,j,rfl,o6,⟨by omega,by omega,h1,by omega,by omega⟩,fun p hp=>?_⟩⟩;rw[show(j-0).toNat=j.toNat by omega];exact(q.ext (e1.trans (v5 hq))).new (R1.grow hq) hp (b9.rng 0 _)
theorem aY8{q p2 pos2:Pos}(hc:X.calm=true)(ha:PE X a (LE X.K Ξ (wpE P ma)))(hb:PE X b (LE X.K Ξ (wpE P mb)))(hgl:Gl X "list")(hml:X.mg "list"=none)(hg:Gl X "range")(hm:X.mg "range"=none)(hs:starEach [a,b] X.env=[(false,eval a X.env),(false,eval b X.env)])(hs2:starEach [b] X.env=[(false,eval b X.env)]) :
  PE X (.Call (.Name "list" p2) [.Call (.Name "range" q) [a,b] [] pos] [] pos2) (LE X.K Ξ (wpE P (.prim .lrng2 (.cons ma (.cons mb .nil))))) :=
 (M6 (aa7 hc) hgl hml (by first|exact PyProof.Rows.boot_list|decide +kernel) (O5 (aR7 hg hm (A4 hP ha (A4 hP hb (F4 hP) (by rw[hs2];rfl)) (by rw[hs,hs2])) hs hs2) U7)).imp fun σv H Q ⟨σ,g,ρ,s,R,h⟩=>by
  simp only[wpE] at h;refine thA hP s R (.refl _ _) h fun xs g1 ρ1 H1 vs e1 R1 r1 h=>?_;obtain⟨d',g',⟨i,j,rfl,hb,rfl,rfl⟩,q⟩:=h;obtain⟨v,w,rfl,rv,rw'⟩:=r1.two;obtain rfl:=rv.i3;obtain rfl:=rw'.i3;exact⟨i,j,rfl,fun q' hq=>⟨q',i,j,rfl,o6,hb,fun p hp=>(q.ext (e1.trans (v5 hq))).new (R1.grow hq) hp (b9.rng i _)⟩⟩
theorem ba5{q p2 pos2:Pos}(hc:X.calm=true)(ha:PE X a (LE X.K Ξ (wpE P ma)))(hgl:Gl X "sorted")(hml:X.mg "sorted"=none)(hg:Gl X "set")(hm:X.mg "set"=none)(hs:starEach [a] X.env=[(false,eval a X.env)]) :
  PE X (.Call (.Name "sorted" p2) [.Call (.Name "set" q) [a] [] pos] [] pos2) (LE X.K Ξ (wpE P (.prim .sset (.cons ma .nil)))) :=
 (X5 (S4 hc) hgl hml (by first|exact PyProof.Rows.boot_sorted|decide +kernel) (O5 (M6 (ad0 hc) hg hm (by first|exact PyProof.Rows.boot_set|decide +kernel) (A4 hP ha (F4 hP) (by rw[hs];rfl)) (by decide) (by decide) (by rw[hs];rfl) rfl) U7)).imp fun σv H Q ⟨σ,g,ρ,s,R,h⟩=>by
  simp only[wpE] at h;refine thA hP s R (.refl _ _) h fun xs g1 ρ1 H1 vs e1 R1 r1 h=>?_;obtain⟨d',g',⟨i,ns,rfl,hl,hz,rfl,rfl⟩,q⟩:=h;obtain⟨v,rfl,rv⟩:=r1.one;obtain⟨a',rfl,ra⟩:=rv.j4;obtain⟨ws,hq,rs⟩:=R1.items hl ra;obtain rfl:=rs.ints;refine⟨_,ns,rfl,hq,hz,fun q' hq'=>⟨q',ns,rfl,o6,hz,fun p hp=>?_⟩⟩;exact(q.ext (e1.trans (v5 hq'))).new (R1.grow hq') hp (b9.ofInts _)
theorem ba9{q p2 pos2:Pos}(hc:X.calm=true)(ha:PE X a (LE X.K Ξ (wpE P ma)))(hgl:Gl X "len")(hml:X.mg "len"=none)(hg:Gl X "set")(hm:X.mg "set"=none)(hs:starEach [a] X.env=[(false,eval a X.env)]) :
  PE X (.Call (.Name "len" p2) [.Call (.Name "set" q) [a] [] pos] [] pos2) (LE X.K Ξ (wpE P (.prim .ao1 (.cons ma .nil)))) :=
 (X5 au0 hgl hml PySem.boot_len (O5 (M6 (ad0 hc) hg hm (by first|exact PyProof.Rows.boot_set|decide +kernel) (A4 hP ha (F4 hP) (by rw[hs];rfl)) (by decide) (by decide) (by rw[hs];rfl) rfl) U7)).imp fun σv H Q ⟨σ,g,ρ,s,R,h⟩=>by
  simp only[wpE] at h;refine thA hP s R (.refl _ _) h fun xs g1 ρ1 H1 vs e1 R1 r1 h=>?_;obtain⟨d',g',⟨i,ns,rfl,hl,hz,rfl,rfl⟩,q⟩:=h;obtain⟨v,rfl,rv⟩:=r1.one;obtain⟨a',rfl,ra⟩:=rv.j4;obtain⟨ws,hq,rs⟩:=R1.items hl ra;obtain rfl:=rs.ints;refine⟨_,ns,rfl,hq,hz,fun q' hq'=>⟨q',_,rfl,o6,?_⟩⟩;exact(q.ext (e1.trans (v5 hq'))).now (R1.grow hq') (.int _)
theorem ba6{i:Int}{j:Nat}{q:Pos}(hcode:PySem.W.kdsCode X.K X.env.code=true):PE X (.Set [.Constant (.int i) j q] 0 pos) (LE X.K Ξ (wpE P (.prim (.sdisp i) .nil))) :=
 (bc7 hcode).imp fun σv H Q ⟨σ,g,ρ,s,R,h⟩=>by
  simp only[wpE,wpA] at h;obtain⟨d',g',⟨_,rfl,rfl⟩,q⟩:=h;exact fun p hp=>q (ρ++[p]) _ _ (L4 hp) (R.new hp (o:=.set (fun k=>decide (k=i)) 1) (u:=.set (fun k=>decide (k=i)) 1) ⟨rfl,rfl⟩) (.ref (R.B3 p))
theorem bl0{f:Str}(ha:PE X a (LE X.K Ξ (wpE P ma)))(hb:attributeBase a f X.env (eval a X.env)=eval a X.env):PE X (.Attribute a f pos) (LE X.K Ξ (wpE P (.prim (.fld f) (.cons ma .nil)))) :=
 (bo2 ha hb).imp fun σv H Q ⟨σ,g,ρ,s,R,h⟩=>by
  simp only[wpE,wpA] at h;refine thE hP s R (.refl _ _) h fun x g1 ρ1 H1 v1 e1 R1 r1 h=>?_;obtain⟨d',g',⟨i,c,fs,ex,hi,hf,rfl⟩,q⟩:=h;cases ex;obtain⟨a',rfl,ra⟩:=r1.j4;obtain⟨C,dx,vs,hH,_,hC,rk,na⟩:=R1.ins hi ra;have lk:=rk.look f;rw[hf] at lk;obtain⟨v,hv,rv⟩:=lk.some;exact⟨a',C,dx,vs,v,rfl,hH,hC,na _ (PySem.mem_of_lookup hf),hv,q ρ1 H1 v e1 R1 rv⟩
end
section
variable{X:Cx}{Ξ:XKE}{P:Sig}{a b c:Expr}{ma mb mc:ME}{pos:Pos}
theorem bk5{i:Nat}{x:Str}(hN:X.N[i]?=some x)(hv:Vis X.env.scope x)(hd:(x==("__debug__":Str))=false)(hcd:(x==("__classdict__":Str))=false):PE X (.Name x pos) (LE X.K Ξ (wpE P (.var i))) :=
 (bn5 hN hv hd hcd).imp fun σv H Q ⟨σ,g,ρ,s,R,h⟩=>by
  simp only[wpE] at h;obtain⟨d,e,h⟩:=h;obtain⟨v,h1,h2⟩:=s.val _ _ e;exact⟨v,h1,h.now R h2⟩
theorem P5{e:Expr}{d:D}{v:V}(h:PE X e (tC v))(r:∀ρ H,d8 X.K ρ H d v):PE X e (LE X.K Ξ (wpE P (.lit d))) :=
 h.imp fun σv H Q ⟨σ,g,ρ,s,R,h⟩=>by
  simp only[wpE] at h;exact LQ.now h R (r ρ H)
theorem bb2:PE X (.Dict [] [] pos) (LE X.K Ξ (wpE P (.prim .Z3 .nil))) :=
 (a11 (X:=X)).imp fun σv H Q ⟨σ,g,ρ,s,R,h⟩ p hp=>by
  simp only[wpE,wpA] at h;obtain⟨d',g',⟨_,rfl,rfl⟩,q⟩:=h;exact q (ρ++[p]) _ _ (L4 hp) (R.new hp (o:=.dic []) (u:=.dK []) i5.nil) (.ref (R.B3 p))
end
end M

namespace L2
open PySem PySem.Spec PyProof.Rows
section
variable{X:Cx}{m:Str}{pos apos:Pos}{e o:Expr}{es:List Expr}{ta:TE}{t:TA}
end
end L2
namespace M
open PySem L2 PySem.Spec PyProof.Rows
inductive ad4(K:PySem.W.Frag):List D->List (Str×V)->Prop
 |nil:ad4 K [] []
 |cons {x:Str} {d:D} {v:V} {ds:List D} {vs:List (Str×V)} (h:∀ρ H,d8 K ρ H d v) (r:ad4 K ds vs):ad4 K (.tup [.str x,d]::ds) ((x,v)::vs)
theorem ad4.look{K:PySem.W.Frag}{ρ:List Addr}{H:Hp}{ds vs}(x:Str)(h:ad4 K ds vs):aa2 K ρ H (M4 ds x) (vs.lookup x):=by
 induction h with
 |nil=>trivial
 |cons h r ih =>
  rename_i y d v ds vs;unfold M4;rw[List.lookup_cons];by_cases e:x=y
  ·rw[if_pos e,show(x==y)=true from by simp[e]];exact h ρ H
  ·rw[if_neg e,show(x==y)=false from by simpa using e];exact ih
noncomputable def av6(X:Cx)(x:Str)(kvs:List D):Prop:=∃A vs,X.mg x=some (.ref A)/\am8 X.K X.w.params A vs/\ad4 X.K kvs vs
noncomputable def av1(neg:Bool):Pr:=if neg then .gnin else .gin
theorem aH1{neg:Bool}:PR (av1 neg)=a33 neg:=by cases neg<;>rfl
theorem aP5(a b c:Str):a++b++c=a++(b++c):=by
 cases a;cases b;cases c;show Str.mk _=Str.mk _;exact congrArg Str.mk (Array.append_assoc ..)
theorem a97(x:Str):x++Str.empty=x:=by cases x;show Str.mk _=_;simp[Str.empty]
theorem be2(x:Str):Str.empty++x=x:=by cases x;show Str.mk _=_;simp[Str.empty]
section
variable{X:Cx}{Ξ:XKE}{P:Sig}(hP:i4 P){a b c:Expr}{ma mb mc:ME}{pos:Pos}
include hP
theorem bk9{x:Str}{p:Pos}{kvs:List D}{neg:Bool}(hg:Gl X x)(hd:(x==("__debug__":Str))=false)(hG:av6 X x kvs)(ha:PE X a (LE X.K Ξ (wpE P ma)))(hm:behindInMarks (if neg then .NotIn else .In) (.Name x p)=false) :
  PE X (.Compare a [if neg then .NotIn else .In] [.Name x p] pos) (LE X.K Ξ (wpE P (.prim (av1 neg) (.cons (.lit (.tup kvs)) (.cons ma .nil))))):=by
 obtain⟨A,vs,hmg,hk,gr⟩:=hG;refine(aG0 (aS2 (kvs:=vs) neg) ha (ae0 (v:=.ref A) hg hmg rfl hd) hm).imp fun σv H Q ⟨σ,g,ρ,s,R,h⟩=>?_;simp only[wpE,wpA] at h;refine thE hP s R (.refl _ _) h fun d g1 ρ1 H1 v1 e1 R1 r1 h=>?_;obtain⟨d',g',h,q⟩:=h;rw[aH1] at h;obtain⟨kvs',z,ex,rfl,rfl⟩:=h;cases ex;obtain rfl:=r1.B9;refine⟨A,z,rfl,hk,rfl,?_⟩;rw[<- (gr.look (ρ:=ρ1) (H:=H1) z).isSome];exact q ρ1 H1 _ e1 R1 (.bl _)
theorem bj5{x:Str}{p:Pos}{kvs:List D}{neg:Bool}(hg:Gl X x)(hd:(x==("__debug__":Str))=false)(hG:av6 X x kvs)(ha:PE X a (LE X.K Ξ (wpE P ma)))(hm:behindInMarks (if neg then .NotIn else .In) (.Name x p)=false) :
  PT X (.Compare a [if neg then .NotIn else .In] [.Name x p] pos) (LT X.K Ξ (wpT P (.tst (.prim (av1 neg) (.cons (.lit (.tup kvs)) (.cons ma .nil)))))):=by
 obtain⟨A,vs,hmg,hk,gr⟩:=hG;refine(aF6 (aS2 (kvs:=vs) neg) ha (ae0 (v:=.ref A) hg hmg rfl hd) hm).imp fun σv H Q ⟨σ,g,ρ,s,R,h⟩=>?_;simp only[wpT,wpE,wpA] at h;refine thE hP s R (.refl _ _) h fun d g1 ρ1 H1 v1 e1 R1 r1 h=>?_;obtain⟨d',g',h,t,ht,q⟩:=h;rw[aH1] at h;obtain⟨kvs',z,ex,rfl,rfl⟩:=h;cases ex;obtain rfl:=r1.B9;refine⟨A,z,rfl,hk,rfl,t,?_,q ρ1 H1 e1 R1⟩;rw[<- (gr.look (ρ:=ρ1) (H:=H1) z).isSome];rcases ht with⟨z,_⟩|z|⟨i,z,_⟩|⟨l,z,_⟩|⟨a,l,z,_⟩<;>cases z
 rfl
theorem bb0{x:Str}{p:Pos}{kvs:List D}(hg:Gl X x)(hd:(x==("__debug__":Str))=false)(hG:av6 X x kvs)(ha:PE X a (LE X.K Ξ (wpE P ma)))(hs:aq1 a):PE X (.Subscript (.Name x p) a pos) (LE X.K Ξ (wpE P (.prim .gget (.cons (.lit (.tup kvs)) (.cons ma .nil))))):=by
 obtain⟨A,vs,hmg,hk,gr⟩:=hG;refine(a63 (bA9 (kvs:=vs)) (ae0 (v:=.ref A) hg hmg rfl hd) ha hs).imp fun σv H Q ⟨σ,g,ρ,s,R,h⟩=>?_;simp only[wpE,wpA] at h;refine thE hP s R (.refl _ _) h fun d g1 ρ1 H1 v1 e1 R1 r1 h=>?_;obtain⟨d',g',⟨kvs',z,ex,hz,rfl⟩,q⟩:=h;cases ex;obtain rfl:=r1.B9;have lk:=gr.look (ρ:=ρ1) (H:=H1) z;rw[hz] at lk;obtain⟨w,hw,lk⟩:=lk.some;exact⟨A,z,w,rfl,hk,rfl,hw,q ρ1 H1 _ e1 R1 lk⟩
theorem bx1(ha:PE X a (LE X.K Ξ (wpE P ma))):PE X (.FormattedValue a (-1) none pos) (LE X.K Ξ (wpE P (.prim .fv (.cons ma .nil)))) :=
 (by6 ha).imp fun σv H Q ⟨σ,g,ρ,s,R,h⟩=>by
  simp only[wpE,wpA] at h;refine thE hP s R (.refl _ _) h fun d g1 ρ1 H1 v1 e1 R1 r1 h=>?_;obtain⟨d',g',⟨rfl,h⟩,q⟩:=h;rcases h with⟨i,ex,h1,rfl⟩|⟨z,ex,h1,rfl⟩
  ·cases ex;exact .inl ⟨i,r1.i3,h1,q ρ1 H1 _ e1 R1 (.str _)⟩
  ·cases ex;exact .inr ⟨z,r1.B9,k6 (by omega),q ρ1 H1 _ e1 R1 (.str _)⟩
omit hP in
inductive FOk(X:Cx)(Ξ:XKE)(P:Sig):List Expr->ME->List TE->Prop
 |nil:FOk X Ξ P [] .nil []
 |lit {x:Str} {j:Nat} {p:Pos} {es:List Expr} {ms:ME} {ts:List TE} (hx:x.length<=2000) (r:FOk X Ξ P es ms ts):FOk X Ξ P (.Constant (.str x) j p::es) (.cons (.lit (.str x)) ms) (LE X.K Ξ (wpE P (.lit (.str x)))::ts)
 |val {e:Expr} {m:ME} {p:Pos} {es:List Expr} {ms:ME} {ts:List TE} (he:PE X e (LE X.K Ξ (wpE P m))) (r:FOk X Ξ P es ms ts):FOk X Ξ P (.FormattedValue e (-1) none p::es) (.cons (.prim .fv (.cons m .nil)) ms) (LE X.K Ξ (wpE P (.prim .fv (.cons m .nil)))::ts)
theorem FOk.pjs{es ms ts}(h:FOk X Ξ P es ms ts):PJs X es ts:=by
 induction h with
 |nil=>exact .nil
 |lit hx r ih=>exact .cons (P5 aR6 fun _ _=>.str _) ih
 |val he r ih=>exact .cons (bx1 hP he) ih
theorem FOk.join{σv:L2.St}{Q:Str->Hp->Prop}{es ms ts}(hf:FOk X Ξ P es ms ts):∀{σ:S} {g:G} {ρ:List Addr} {H:Hp} {acc:Str},acc.length+2000*es.length<=100000->m8 X.K ρ H σ σv->Rl X.K ρ g H ->
  wpA P ms σ g (fun ds g1=>∃x,S1 ds=some x/\∀ρ' H',Ext ρ H ρ' H'->Rl X.K ρ' g1 H'->Q (acc++x) H') (LX X.K ρ H Ξ)->au5 ts σv H acc (fun out H1=>out.length<=sizeLine/\Q out H1):=by
 have tl:∀{acc y:Str} {ρ:List Addr} {H:Hp} {ρ1:List Addr} {H1:Hp} {ds:List D} {g1:G},Ext ρ H ρ1 H1->(∃x,S1 (.str y::ds)=some x/\∀ρ' H',Ext ρ H ρ' H'->Rl X.K ρ' g1 H'->Q (acc++x) H')->∃x,S1 ds=some x/\∀ρ' H',Ext ρ1 H1 ρ' H'->Rl X.K ρ' g1 H'->Q (acc++y++x) H':=by
  intro acc y ρ H ρ1 H1 ds g1 e1 h;obtain⟨x,hx,h⟩:=h;simp only[S1] at hx;cases hj:S1 ds with
  |none=>rw[hj] at hx;cases hx
  |some x' =>
   rw[hj] at hx;cases hx;refine⟨x',rfl,fun ρ' H' e' R'=>?_⟩;rw[aP5];exact h ρ' H' (e1.trans e') R'
 induction hf with
 |nil =>
  intro σ g ρ H acc ha s R h;simp only[wpA] at h;obtain⟨x,hx,h⟩:=h;cases hx;rw[a97] at h;exact⟨k6 (by simpa using ha),h ρ H (.refl _ _) R⟩
 |lit hx r ih =>
  rename_i y j p es ms ts;intro σ g ρ H acc ha s R h;simp only[wpA,wpE] at h;refine⟨σ,g,ρ,s,R,?_⟩;simp only[wpE];intro ρ1 H1 v1 e1 R1 r1;obtain rfl:=r1.B9;have hl:(acc++y).length<=acc.length+2000:=by rw[strLen_append];omega
  simp only[List.length_cons] at ha;exact⟨y,rfl,k6 (by omega),ih (by omega) (s.ext e1) R1 (v7 hP _ _ _ _ _ _ _ (fun ds g1 h=>tl e1 h) (fun _ _ z=>LX.ext e1 z) h)⟩
 |val he r ih =>
  rename_i e m p es ms ts;intro σ g ρ H acc ha s R h;simp only[wpA,wpE] at h;refine⟨σ,g,ρ,s,R,?_⟩;simp only[wpE,wpA];simp only[List.length_cons] at ha;refine b8 hP m _ _ _ _ _ _ (fun d g1 h=>?_) (fun _ _ z=>z) h;obtain⟨d',g',⟨rfl,h⟩,q⟩:=h;have hy:∃y,d'=.str y/\y.length<=2000:=by
   rcases h with⟨i,ex,h1,rfl⟩|⟨z,ex,h1,rfl⟩
   ·exact⟨_,rfl,by rw[PySem.ofString_length];have:=int_text_length_le (k:=1920) (by decide) h1;omega⟩
   ·exact⟨z,rfl,h1⟩
  obtain⟨y,rfl,hy⟩:=hy;refine⟨_,_,⟨rfl,h⟩,fun ρ1 H1 v1 e1 R1 r1=>?_⟩;obtain rfl:=r1.B9;have hl:(acc++y).length<=acc.length+2000:=by rw[strLen_append];omega
  exact⟨y,rfl,k6 (by omega),ih (by omega) (s.ext e1) R1 (v7 hP _ _ _ _ _ _ _ (fun ds g1 h=>tl e1 h) (fun _ _ z=>LX.ext e1 z) q)⟩
theorem bb1{v₁ v₂:Expr}{rest:List Expr}{ms:ME}{ts:List TE}(h:FOk X Ξ P (v₁::v₂::rest) ms ts)(hl:(v₁::v₂::rest).length<=40):PE X (.JoinedStr (v₁::v₂::rest) pos) (LE X.K Ξ (wpE P (.prim .fstr ms))) :=
 (bc9 (h.pjs hP)).imp fun σv H Q ⟨σ,g,ρ,s,R,hw⟩=>by
  simp only[wpE] at hw;refine FOk.join hP h (Q:=fun out H1=>Q (.str out) H1) (acc:=Str.empty) ?_ s R (v7 hP ms _ _ _ _ _ _ (fun ds g1 hw=>?_) (fun _ _ z=>z) hw)
  ·have:Str.empty.length=0:=rfl;omega
  ·obtain⟨d',g',⟨x,hx,rfl,rfl⟩,q⟩:=hw;refine⟨x,hx,fun ρ' H' e' R'=>?_⟩;rw[be2];exact q ρ' H' _ e' R' (.str _)
omit hP in
noncomputable def spD(ex:List Str)(K:PySem.W.Frag)(n:Nat)(t:List D->G->KD->KX->Prop):Sp:=fun vs H Q E=>vs.length=n/\∃ds g ρ,b9 K ρ H ds vs/\Rl K ρ g H/\t ds g (LQ K ρ H Q) (LX K ρ H (ex,E))
omit hP in
noncomputable def FnR(X:Cx)(P:Sig)(ex:List Str)(k f:Nat)(fa:Addr)(fd:FuncData)(ps:List Str):Prop :=
 FnOk X.prog X.w X.K X.mg X.base (CXE X.prog X.w) k fa fd ps (spD ex X.K ps.length (P f))/\Binds X.K fd ps []/\∀ds g Q E,P f ds g Q E->ds.length=ps.length
theorem a58{k f:Nat}{fa:Addr}{fd:FuncData}{ps:List Str}(F:FnR X P Ξ.1 k f fa fd ps){ρ ρ0:List Addr}{H H0:Hp}{g:G}{xs:List D}{vs:List V}{Q0:KD}{Q:VK}(e0:Ext ρ0 H0 ρ H)(R:Rl X.K ρ g H)(r:b9 X.K ρ H xs vs)(h:P f xs g Q0 (LX X.K ρ0 H0 Ξ))(k:∀d g',Q0 d g'->LQ X.K ρ H Q d g'):spD Ξ.1 X.K ps.length (P f) (vs++[]) H Q Ξ.2:=by
 rw[List.append_nil];exact⟨by rw[<- r.length];exact F.2.2 _ _ _ _ h,xs,g,ρ,r,R,hP _ _ _ _ _ _ _ k (fun _ _ z=>LX.ext e0 z) h⟩
theorem bb3{k f:Nat}{x:Str}{fa:Addr}{fd:FuncData}{ps:List Str}{es:List Expr}{e:Expr}{mes:ME}{p:Pos}(hx:Passes (CXE X.prog X.w) X Ξ.2)(F:FnR X P Ξ.1 k f fa fd ps)(hr:u9 k X.A)(hg:Gl X x)(hm:X.mg x=some (.ref fa))(hk:PySem.W.keepIn X.K (.ref fa)=true)(ha:PA X (e::es) (LA X.K Ξ (wpA P mes)))(hd:(x==("__debug__":Str))=false)(hst:starEach (e::es) X.env=(false,eval e X.env)::starEach es X.env)(hpl:(backTo pos (starEach es X.env)).any (·.1)=false):PE X (.Call (.Name x p) (e::es) [] pos) (LE X.K Ξ (wpE P (.call f mes))) :=
 (bd1 F.1 hr hg hm hk F.2.1 .nil hx ha hd hst hpl).imp fun σv H Q ⟨σ,g,ρ,s,R,h⟩=>by
  simp only[wpE] at h;exact thA hP s R (.refl _ _) h fun xs g1 ρ1 H1 vs e1 R1 r1 h=>a58 hP F e1 R1 r1 h fun d g' h=>h.ext e1
theorem aG5{c:Str}{f k:Nat}{C fa:Addr}{fd:FuncData}{ps:List Str}(F:FnR X P Ξ.1 k f fa fd ps)(hC:p0 X.K c C)(hc:Cls X.K C){ρ ρ0:List Addr}{H H0:Hp}{g1:G}{xs:List D}{vs:List V}{Q:VK}(e0:Ext ρ0 H0 ρ H)(R:Rl X.K ρ g1 H)(r:b9 X.K ρ H xs vs)(h:P f (.ref g1.length::xs) (g1++[.ins c []]) (fun d g2=>d=.non/\LQ X.K ρ0 H0 Q (.ref g1.length) g2) (LX X.K ρ0 H0 Ξ)):∀x dx,H x=none->H dx=none->dx≠x->spD Ξ.1 X.K ps.length (P f) (.ref x::(vs++[])) (upd (upd H dx (.own x)) x (.ins C dx [])) (fun v H2=>v=.non/\Q (.ref x) H2) Ξ.2:=by
 intro x dx hx hdx hne;have hx2:upd H dx (.own x) x=none:=by rw[f7 (Ne.symm hne)];exact hx
 have R2:=R.grow (o:=.own x) hdx;have e2:Ext ρ H ρ (upd H dx (.own x)):=v5 hdx;have R3:=R2.new (o:=.ins c []) (u:=.ins C dx []) hx2 ⟨hC,hc,.nil,fun x hx=>absurd hx (by simp)⟩;have e3:Ext ρ (upd H dx (.own x)) (ρ++[x]) (upd (upd H dx (.own x)) x (.ins C dx [])):=L4 hx2;have:=a58 hP F (e0.trans (e2.trans e3)) R3 (.cons (.ref (R.B3 x)) (r.ext (e2.trans e3))) h (Q:=fun v H2=>v=.non/\Q (.ref x) H2) fun d g' q ρ' H' v e' R' r'=>by
  obtain⟨rfl,q⟩:=q;exact⟨r'.ak3,q ρ' H' _ (e0.trans (e2.trans (e3.trans e'))) R' (.ref (e'.get (R.B3 x)))⟩
 exact this
theorem ba8{k f:Nat}{x:Str}{C fa:Addr}{fd:FuncData}{ps:List Str}{es:List Expr}{e:Expr}{mes:ME}{p:Pos}(hx:Passes (CXE X.prog X.w) X Ξ.2)(F:FnR X P Ξ.1 k f fa fd ps)(M:Mk X.K C fa)(hC:p0 X.K x C)(hc:Cls X.K C)(hr:u9 (k+1) X.A)(hg:Gl X x)(hm:X.mg x=some (.ref C))(ha:PA X (e::es) (LA X.K Ξ (wpA P mes)))(hd:(x==("__debug__":Str))=false)(hst:starEach (e::es) X.env=(false,eval e X.env)::starEach es X.env)(hpl:(backTo pos (starEach es X.env)).any (·.1)=false):PE X (.Call (.Name x p) (e::es) [] pos) (LE X.K Ξ (wpE P (.make x f mes))) :=
 (bc8 M F.1 hr hg hm F.2.1 .nil hx ha hd hst hpl).imp fun σv H Q ⟨σ,g,ρ,s,R,h⟩=>by
  simp only[wpE] at h;exact thA hP s R (.refl _ _) h fun xs g1 ρ1 H1 vs e1 R1 r1 h=>aG5 hP F hC hc e1 R1 r1 h
theorem aY7{k f:Nat}{x:Str}{C fa:Addr}{fd:FuncData}{ps:List Str}{p:Pos}(hx:Passes (CXE X.prog X.w) X Ξ.2)(F:FnR X P Ξ.1 k f fa fd ps)(M:Mk X.K C fa)(hC:p0 X.K x C)(hc:Cls X.K C)(hr:u9 (k+1) X.A)(hg:Gl X x)(hm:X.mg x=some (.ref C))(hd:(x==("__debug__":Str))=false):PE X (.Call (.Name x p) [] [] pos) (LE X.K Ξ (wpE P (.make x f .nil))) :=
 (a09 M F.1 hr hg hm F.2.1 .nil hx hd).imp fun σv H Q ⟨σ,g,ρ,s,R,h⟩=>by
  simp only[wpE,wpA] at h;exact aG5 hP F hC hc (.refl _ _) R .nil h
end
end M

namespace M
open PySem L2 PySem.Spec PyProof.Rows
inductive PRels(K:PySem.W.Frag)(ρ:List Addr)(H:Hp):List D->List (V×V)->Prop
 |nil:PRels K ρ H [] []
 |cons {k d:D} {x y:V} {ds:List D} {ps:List (V×V)} (h1:d8 K ρ H k x) (h2:d8 K ρ H d y) (r:PRels K ρ H ds ps):PRels K ρ H (k::d::ds) ((x,y)::ps)
theorem bt2{K ρ H}{xs:List D}{ps:List (V×V)}(r:PRels K ρ H xs ps):∀{acc kvs:List (Key×D)} {accV:List (Key×V)},aA6 xs acc=some kvs->i5 K ρ H acc accV->∃more:List (Key×V),ps=more.map (fun kv=>(kV kv.1,kv.2))/\2*more.length=xs.length/\i5 K ρ H kvs (P6 accV more):=by
 induction r with
 |nil =>
  intro acc kvs accV h ra;cases h;exact⟨[],rfl,rfl,ra⟩
 |cons h1 h2 r ih =>
  rename_i k d x y ds ps;intro acc kvs accV h ra;simp only[aA6] at h;cases hk:U0 k with
  |none=>rw[hk] at h;cases h
  |some c =>
   rw[hk] at h;obtain⟨more,e1,e2,r2⟩:=ih (show aA6 ds (putD acc c d)=some kvs from h) (ra.put h2);have ex:=V0 hk h1;subst ex;refine⟨(c,y)::more,by rw[List.map_cons,<- e1],by simp only[List.length_cons];omega,r2⟩
section
variable{X:Cx}{Ξ:XKE}{P:Sig}(hP:i4 P){pos:Pos}
inductive DOk(X:Cx)(Ξ:XKE)(P:Sig):List (Option Expr)->List Expr->ME->List (TE×TE)->Prop
 |nil:DOk X Ξ P [] [] .nil []
 |cons {k v:Expr} {ks:List (Option Expr)} {vs:List Expr} {mk mv ms:ME} {trs:List (TE×TE)} (hk:PE X k (LE X.K Ξ (wpE P mk))) (hv:PE X v (LE X.K Ξ (wpE P mv))) (r:DOk X Ξ P ks vs ms trs) :
   DOk X Ξ P (some k::ks) (v::vs) (.cons mk (.cons mv ms)) ((LE X.K Ξ (wpE P mk),LE X.K Ξ (wpE P mv))::trs)
theorem DOk.pps{ks vs ms trs}(h:DOk X Ξ P ks vs ms trs):PPs X pos ks vs trs:=by
 induction h with
 |nil=>exact bc4
 |cons hk hv r ih=>exact a03 hk hv ih
theorem DOk.len{ks vs ms trs}(h:DOk X Ξ P ks vs ms trs):ks.all (·.isSome)=true/\ks.length=vs.length:=by
 induction h with
 |nil=>exact⟨rfl,rfl⟩
 |cons hk hv r ih=>exact⟨by simpa using ih.1,by simp[ih.2]⟩
include hP
theorem DOk.pairs{ks vs ms trs}(hd:DOk X Ξ P ks vs ms trs):∀{σv:L2.St} {σ:S} {g:G} {ρ ρ0:List Addr} {H H0:Hp} {Qd:List D->G->Prop} {Q:List (V×V)->Hp->Prop},m8 X.K ρ H σ σv->Rl X.K ρ g H->Ext ρ0 H0 ρ H->wpA P ms σ g Qd (LX X.K ρ0 H0 Ξ) ->
  (∀ds g' ρ' H' ps,Ext ρ H ρ' H'->Rl X.K ρ' g' H'->PRels X.K ρ' H' ds ps->Qd ds g'->Q ps H')->aj3 trs σv H Q:=by
 induction hd with
 |nil =>
  intro σv σ g ρ ρ0 H H0 Qd Q s R e0 h k;simp only[wpA] at h;exact k [] g ρ H [] (.refl _ _) R .nil h
 |cons hk hv r ih =>
  intro σv σ g ρ ρ0 H H0 Qd Q s R e0 h k;simp only[wpA] at h;refine thE hP s R e0 h fun x g1 ρ1 H1 v1 e1 R1 r1 h=>thE hP (s.ext e1) R1 (e0.trans e1) h fun y g2 ρ2 H2 v2 e2 R2 r2 h=>?_;refine ih (s.ext (e1.trans e2)) R2 (e0.trans (e1.trans e2)) h fun ds g' ρ' H' ps e' R' rp hq=>?_;exact k _ g' ρ' H' _ (e1.trans (e2.trans e')) R' (.cons (r1.ext (e2.trans e')) (r2.ext e') rp) hq
theorem bl1{ks:List (Option Expr)}{vs:List Expr}{ms:ME}{trs:List (TE×TE)}(hd:DOk X Ξ P ks vs ms trs)(h0:ks≠[])(h15:ks.length<=15):PE X (.Dict ks vs pos) (LE X.K Ξ (wpE P (.dct ms))) :=
 (bd0 hd.pps hd.len.1 hd.len.2 h0 h15).imp fun σv H Q ⟨σ,g,ρ,s,R,h⟩ p hp=>by
  simp only[wpE] at h;have e1:Ext ρ H (ρ++[p]) (upd H p (.dK [])):=L4 hp;refine DOk.pairs hP hd (s.ext e1) (R.new hp (o:=.dic []) (u:=.dK []) i5.nil) e1 h fun ds g2 ρ2 H2 ps e2 R2 rp hq=>?_;obtain⟨kvs,hk,hz,hg,q⟩:=hq;have hp2:ρ2[g.length]?=some p:=e2.get (R.B3 p);obtain⟨vs',hv,rv⟩:=R2.dic hg hp2;cases rv;obtain⟨more,em,hl,rk⟩:=bt2 rp hk (accV:=[]) .nil;refine⟨hv,more,em,by omega,?_⟩;obtain⟨R3,e3⟩:=R2.put (o':=.dic kvs) (u:=.dK (P6 [] more)) hg rfl hp2 rk;exact q ρ2 _ _ (e1.trans (e2.trans e3)) R3 (.ref hp2)
end
end M

namespace M
open PySem L2 PySem.Spec PyProof.Rows
theorem bA4{K:PySem.W.Frag}{ρ0:List Addr}{H0:Hp}{a:Addr}{l:List D}{vs:List V}(ht:TupAt K H0 a vs)(rs:b9 K ρ0 H0 l vs):U3 K ρ0 H0 (.fix l) (Itt K a):=by
 intro ρ g H e R i;have ht':=ht.ext e;have rs':=rs.ext e;refine⟨fun h=>⟨vs,ht'.sq,?_⟩,fun d h=>?_⟩
 ·simp only[IK.at] at h;have:=List.getElem?_eq_none_iff.mp (Option.some.inj h);rw[<- rs'.length];exact this
 ·simp only[IK.at] at h;obtain⟨v,hv,rv⟩:=rs'.get (Option.some.inj h);refine⟨⟨vs,v,ht'.sq,hv⟩,fun w H' y=>?_⟩;obtain⟨rfl,y⟩:=y;have:=y vs ht'.sq;rw[hv] at this;cases this;exact⟨.refl _ _,R,rv⟩
theorem bA6{K:PySem.W.Frag}{ρ0:List Addr}{H0:Hp}{a:Addr}{j:Nat}(ha:ρ0[j]?=some a):U3 K ρ0 H0 (.lst j) (Itl K a):=by
 intro ρ g H e R i;have ha':=e.get ha;refine⟨fun h=>?_,fun d h=>?_⟩
 ·simp only[IK.at] at h;cases el:d4 g j with
  |none=>rw[el] at h;cases h
  |some l =>
   rw[el] at h;obtain⟨vs,hq,rs⟩:=R.items el ha';refine⟨vs,hq,?_⟩;have:=List.getElem?_eq_none_iff.mp (Option.some.inj h);rw[<- rs.length];exact this
 ·simp only[IK.at] at h;cases el:d4 g j with
  |none=>rw[el] at h;cases h
  |some l =>
   rw[el] at h;obtain⟨vs,hq,rs⟩:=R.items el ha';obtain⟨v,hv,rv⟩:=rs.get (Option.some.inj h);refine⟨⟨vs,v,hq,hv⟩,fun w H' y=>?_⟩;obtain⟨rfl,y⟩:=y;have:=y vs hq;rw[hv] at this;cases this;exact⟨.refl _ _,R,rv⟩
theorem a66{K:PySem.W.Frag}{ρ0:List Addr}{H0:Hp}{lo:Int}{n:Nat}:U3 K ρ0 H0 (.fix (j7 lo n)) (Itr lo n):=by
 unfold j7;intro ρ g H e R i;refine⟨fun h=>?_,fun d h=>?_⟩
 ·simp only[IK.at] at h;have:=List.getElem?_eq_none_iff.mp (Option.some.inj h);show n<=i;simpa using this
 ·simp only[IK.at] at h;have h:=Option.some.inj h;have hi:i<n:=by
   have:=(List.getElem?_eq_some_iff.mp h).1;simpa using this
  rw[List.getElem?_map,List.getElem?_range hi] at h;cases h;refine⟨hi,fun w H' y=>?_⟩;obtain⟨rfl,rfl⟩:=y;exact⟨.refl _ _,R,.int _⟩
theorem bA5{K:PySem.W.Frag}{ρ0:List Addr}{H0:Hp}{a:Addr}{j n:Nat}(ha:ρ0[j]?=some a):U3 K ρ0 H0 (.rvl j n) (Itv K a n):=by
 intro ρ g H e R i;have ha':=e.get ha;refine⟨fun h=>?_,fun d h=>?_⟩
 ·simp only[IK.at] at h;cases el:d4 g j with
  |none=>rw[el] at h;cases h
  |some l =>
   rw[el] at h;dsimp only at h;by_cases hl:l.length=n
   ·rw[if_pos hl] at h;have h:=Option.some.inj h;by_cases hi:i<n
    ·rw[if_pos hi] at h;have:=List.getElem?_eq_none_iff.mp h;omega
    ·exact Nat.le_of_not_lt hi
   ·rw[if_neg hl] at h;cases h
 ·simp only[IK.at] at h;cases el:d4 g j with
  |none=>rw[el] at h;cases h
  |some l =>
   rw[el] at h;dsimp only at h;by_cases hl:l.length=n
   ·rw[if_pos hl] at h;have h:=Option.some.inj h;by_cases hi:i<n
    ·rw[if_pos hi] at h;obtain⟨vs,hq,rs⟩:=R.items el ha';obtain⟨v,hv,rv⟩:=rs.get h;refine⟨⟨vs,v,hq,by rw[<- rs.length];exact hl,hi,hv⟩,fun w H' y=>?_⟩;obtain⟨rfl,y⟩:=y;have:=y vs hq;rw[hv] at this;cases this;exact⟨.refl _ _,R,rv⟩
    ·rw[if_neg hi] at h;cases h
   ·rw[if_neg hl] at h;cases h
theorem bA7{K:PySem.W.Frag}{ρ0:List Addr}{H0:Hp}{a:Addr}{j:Nat}(ha:ρ0[j]?=some a):U3 K ρ0 H0 (.enl j) (Ite K a):=by
 intro ρ g H e R i;have ha':=e.get ha;refine⟨fun h=>?_,fun d h=>?_⟩
 ·simp only[IK.at] at h;cases el:d4 g j with
  |none=>rw[el] at h;cases h
  |some l =>
   rw[el] at h;obtain⟨vs,hq,rs⟩:=R.items el ha';refine⟨vs,hq,?_⟩;have h:=Option.some.inj h;rw[Option.map_eq_none_iff] at h;have:=List.getElem?_eq_none_iff.mp h;rw[<- rs.length];exact this
 ·simp only[IK.at] at h;cases el:d4 g j with
  |none=>rw[el] at h;cases h
  |some l =>
   rw[el] at h;obtain⟨vs,hq,rs⟩:=R.items el ha';have h:=Option.some.inj h;rw[Option.map_eq_some_iff] at h;obtain⟨d',hd,rfl⟩:=h;obtain⟨v,hv,rv⟩:=rs.get hd;refine⟨⟨vs,v,hq,hv⟩,fun w H' y=>?_⟩;obtain⟨p,x,hp,rfl,y,rfl⟩:=y;have:=y vs hq;rw[hv] at this;cases this;exact⟨v5 hp,R.grow hp,.tup (.inl o6) (.cons (.int _) (.cons (rv.ext (v5 hp)) .nil))⟩
end M
namespace L2
open PySem PySem.Spec PyProof.Rows
theorem bn1{X:Cx}{tg l:Expr}{tl:TE}(hl:PE X l tl):PI X tg l (fun σ H R=>tl σ H fun x H1=>(∃a,x=.ref a/\(∃xs,SqL X.K H1 a xs)/\R (Itl X.K a) H1)\/(∃a,x=.ref a/\(∃xs,SqT X.K H1 a xs)/\R (Itt X.K a) H1)):=by
 intro pins s σ H R I h;refine thn (hl pins s σ H _ I h) fun v s1 ⟨x,H1,I1,r1,q1⟩=>?_;rcases q1 with⟨a,e,⟨xs,hq⟩,q⟩|⟨a,e,⟨xs,hq⟩,q⟩
 ·subst e;cases r1;obtain⟨its,rv,p,hz⟩:=I1.list hq;refine wpAny_pyIter_list p.isList ?_;refine⟨s1.heap.objs.size,[s1.heap.objs.size],_,_,H1,rfl,I1.kept (t':=s1.toks) fun b o e=>Heap.get?_push_of_some _ e,aO5 a _,⟨_,Heap.get?_push_size _ rfl,rfl,rfl⟩,fun b hb=>?_,q⟩;have e:b=s1.heap.objs.size:=by simpa using hb
  subst e;exact I1.ac7 (Nat.le_refl _) (I1.hok.fresh (Nat.le_refl _))
 ·subst e;cases r1;obtain⟨its,rv,p,hz⟩:=I1.tuple hq;refine wpAny_pyIter_tuple (show s1.heap.IsTuple a its.toArray from p) ?_;refine⟨s1.heap.objs.size,[s1.heap.objs.size],_,_,H1,rfl,I1.kept (t':=s1.toks) fun b o e=>Heap.get?_push_of_some _ e,aI6 a _,⟨_,Heap.get?_push_size _ rfl,rfl,rfl⟩,fun b hb=>?_,q⟩;have e:b=s1.heap.objs.size:=by simpa using hb
  subst e;exact I1.ac7 (Nat.le_refl _) (I1.hok.fresh (Nat.le_refl _))
end L2
namespace M
open PySem L2 PySem.Spec PyProof.Rows
section
variable{X:Cx}{Ξ:XKE}{P:Sig}(hP:i4 P){a b c tg:Expr}{ma mb mc:ME}{pos p:Pos}
include hP
theorem bk0(ha:PE X a (LE X.K Ξ (wpE P ma))):PI X tg a (LI X.K Ξ (wpI P (.itE ma))) :=
 (bn1 ha).imp fun σv H R ⟨σ,g,ρ,s,Rr,h⟩=>by
  simp only[wpI] at h;refine thE hP s Rr (.refl _ _) h fun x g1 ρ1 H1 v1 e1 R1 r1 h=>?_;rcases h with⟨l,rfl,h⟩|⟨i,l,rfl,hl,h⟩
  ·obtain⟨a',vs,rfl,ht,rs⟩:=r1.E0;exact .inr ⟨_,rfl,⟨_,ht.sq⟩,h ρ1 H1 _ e1 R1 (bA4 ht rs)⟩
  ·obtain⟨a',rfl,ha'⟩:=r1.j4;obtain⟨vs,hq,rs⟩:=R1.items hl ha';exact .inl ⟨_,rfl,⟨_,hq⟩,h ρ1 H1 _ e1 R1 (bA6 ha')⟩
theorem ba2{elts:List Expr}{x1:Nat}{tp:Pos}(ha:PE X a (LE X.K Ξ (wpE P ma)))(hg:Gl X "enumerate")(hm:X.mg "enumerate"=none)(hs:starEach [a] X.env=[(false,eval a X.env)]):PI X (.Tuple elts x1 tp) (.Call (.Name "enumerate" p) [a] [] pos) (LI X.K Ξ (wpI P (.itN ma))) :=
 (bc5 hg hm (A4 hP ha (F4 hP) (by rw[hs];rfl)) hs).imp fun σv H R ⟨σ,g,ρ,s,Rr,h⟩=>by
  simp only[wpI] at h;refine thA hP (m:=.cons ma .nil) s Rr (.refl _ _) (Q0:=fun xs g1=>∃a l,xs=[.ref a]/\d4 g1 a=some l/\∀ρ' H' J,Ext ρ H ρ' H'->Rl X.K ρ' g1 H'->U3 X.K ρ' H' (.enl a) J->R J H') ?_ fun xs g1 ρ1 H1 vs e1 R1 r1 h=>?_
  ·simp only[wpA];exact b8 hP ma _ _ _ _ _ _ (fun x g1 ⟨i,l,e,hl,h⟩=>⟨i,l,by rw[e],hl,h⟩) (fun _ _ z=>z) h
  ·obtain⟨j,l,rfl,hl,h⟩:=h;obtain⟨v,rfl,rv⟩:=r1.one;obtain⟨a',rfl,ra⟩:=rv.j4;obtain⟨vs,hq,rs⟩:=R1.items hl ra;exact⟨_,rfl,⟨_,hq⟩,h ρ1 H1 _ e1 R1 (bA7 ra)⟩
theorem bk1(ha:PE X a (LE X.K Ξ (wpE P ma)))(hg:Gl X "reversed")(hm:X.mg "reversed"=none)(hs:starEach [a] X.env=[(false,eval a X.env)]):PI X tg (.Call (.Name "reversed" p) [a] [] pos) (LI X.K Ξ (wpI P (.itV ma))) :=
 (bn2 hg hm (A4 hP ha (F4 hP) (by rw[hs];rfl)) hs).imp fun σv H R ⟨σ,g,ρ,s,Rr,h⟩=>by
  simp only[wpI] at h;refine thA hP (m:=.cons ma .nil) s Rr (.refl _ _) (Q0:=fun xs g1=>∃a l,xs=[.ref a]/\d4 g1 a=some l/\∀ρ' H' J,Ext ρ H ρ' H'->Rl X.K ρ' g1 H'->U3 X.K ρ' H' (.rvl a l.length) J->R J H') ?_ fun xs g1 ρ1 H1 vs e1 R1 r1 h=>?_
  ·simp only[wpA];exact b8 hP ma _ _ _ _ _ _ (fun x g1 ⟨i,l,e,hl,h⟩=>⟨i,l,by rw[e],hl,h⟩) (fun _ _ z=>z) h
  ·obtain⟨j,l,rfl,hl,h⟩:=h;obtain⟨v,rfl,rv⟩:=r1.one;obtain⟨a',rfl,ra⟩:=rv.j4;obtain⟨vs,hq,rs⟩:=R1.items hl ra;exact⟨_,vs,rfl,hq,h ρ1 H1 _ e1 R1 (by rw[rs.length];exact bA5 ra)⟩
theorem ba1(ha:PE X a (LE X.K Ξ (wpE P ma)))(hg:Gl X "range")(hm:X.mg "range"=none)(hs:starEach [a] X.env=[(false,eval a X.env)]):PI X tg (.Call (.Name "range" p) [a] [] pos) (LI X.K Ξ (wpI P (.itR1 ma))) :=
 (aR4 hg hm (A4 hP ha (F4 hP) (by rw[hs];rfl)) hs).imp fun σv H R ⟨σ,g,ρ,s,Rr,h⟩=>by
  simp only[wpI] at h;refine thA hP (m:=.cons ma .nil) s Rr (.refl _ _) (Q0:=fun xs g1=>∃j:Int,xs=[.int j]/\-(2 ^ 62)<=j/\j<2 ^ 62/\∀ρ' H' J,Ext ρ H ρ' H'->Rl X.K ρ' g1 H'->U3 X.K ρ' H' (.fix (j7 0 j.toNat)) J->R J H') ?_ fun xs g1 ρ1 H1 vs e1 R1 r1 h=>?_
  ·simp only[wpA];exact b8 hP ma _ _ _ _ _ _ (fun x g1 ⟨j,e,h1,h2,h⟩=>⟨j,by rw[e],h1,h2,h⟩) (fun _ _ z=>z) h
  ·obtain⟨j,rfl,h1,h2,h⟩:=h;obtain⟨v,rfl,rv⟩:=r1.one;obtain rfl:=rv.i3;exact⟨_,rfl,h1,h2,h ρ1 H1 _ e1 R1 a66⟩
theorem ba0(ha:PE X a (LE X.K Ξ (wpE P ma)))(hb:PE X b (LE X.K Ξ (wpE P mb)))(hg:Gl X "range")(hm:X.mg "range"=none)(hs:starEach [a,b] X.env=[(false,eval a X.env),(false,eval b X.env)])(hs2:starEach [b] X.env=[(false,eval b X.env)]) :
  PI X tg (.Call (.Name "range" p) [a,b] [] pos) (LI X.K Ξ (wpI P (.itR2 ma mb))) :=
 (aR3 hg hm (A4 hP ha (A4 hP hb (F4 hP) (by rw[hs2];rfl)) (by rw[hs,hs2])) hs hs2).imp fun σv H R ⟨σ,g,ρ,s,Rr,h⟩=>by
  simp only[wpI] at h;refine thA hP (m:=.cons ma (.cons mb .nil)) s Rr (.refl _ _) (Q0:=fun xs g1=>∃i j:Int,xs=[.int i,.int j]/\(-(2 ^ 62)<=i/\i<2 ^ 62/\-(2 ^ 62)<=j/\j<2 ^ 62)/\∀ρ' H' J,Ext ρ H ρ' H'->Rl X.K ρ' g1 H'->U3 X.K ρ' H' (.fix (j7 i (j-i).toNat)) J->R J H') ?_ fun xs g1 ρ1 H1 vs e1 R1 r1 h=>?_
  ·simp only[wpA];exact b8 hP ma _ _ _ _ _ _ (fun x g1 h=>b8 hP mb _ _ _ _ _ _ (fun y g2 ⟨i,j,e,e',h1,h⟩=>⟨i,j,by rw[e,e'],h1,h⟩) (fun _ _ z=>z) h) (fun _ _ z=>z) h
  ·obtain⟨i,j,rfl,h1,h⟩:=h;obtain⟨v,w,rfl,rv,rw'⟩:=r1.two;obtain rfl:=rv.i3;obtain rfl:=rw'.i3;exact⟨_,_,rfl,h1,h ρ1 H1 _ e1 R1 a66⟩
end
section
variable{X:Cx}{pos:Pos}
theorem bk2{i:Nat}{x:Str}(hN:X.N.Nodup)(hi:X.N[i]?=some x)(hx:Loc X.env.scope x)(hf:X.fn x=true\/X.env.scope.names.lookup x=some .local):PG X (.Name x pos) (LG X.K (.one i)) :=
 (aF8 hN hi hx hf).imp fun v σv H Q ⟨d,σ,g,ρ,s,R,r,h⟩=>h _ (s.set i r)
inductive SlotsOk(X:Cx):List Expr->List Nat->Prop
 |nil:SlotsOk X [] []
 |cons {x:Str} {p:Pos} {i:Nat} {es:List Expr} {is:List Nat} (hi:X.N[i]?=some x) (hx:Loc X.env.scope x) (hf:X.fn x=true\/X.env.scope.names.lookup x=some .local) (r:SlotsOk X es is):SlotsOk X (.Name x p::es) (i::is)
noncomputable def aA3:List Nat->TGs
 |[]=>bs8
 |i::is=>a69 (ae9 i) (aA3 is)
theorem aq8(hN:X.N.Nodup):∀{es:List Expr} {is:List Nat},SlotsOk X es is->PGs X es (aA3 is)
 |_,_,.nil=>bc6
 |_,_,.cons hi hx hf r=>a07 (aF8 hN hi hx hf) (aq8 hN r) rfl
theorem ab1:∀{es:List Expr} {is:List Nat},SlotsOk X es is->(assignEach es X.env).length=is.length/\(assignEach es X.env).findIdx? (·.1)=none
 |_,_,.nil=>⟨rfl,rfl⟩
 |_,_,.cons (x:=x) (p:=p) (es:=es) hi hx hf r=>by
  obtain⟨h1,h2⟩:=ab1 r;have e:assignEach (.Name x p::es) X.env=(false,assign (.Name x p) X.env)::assignEach es X.env:=rfl;rw[e];refine⟨by simp[h1],?_⟩;rw[List.findIdx?_cons,h2]
  rfl
theorem as0{K:PySem.W.Frag}{ρ:List Addr}{H:Hp}{k:S->Prop}{Q:L2.St->Hp->Prop}:∀{is:List Nat} {l:List D} {vs:List V} {σ σ':S} {σv:L2.St},C0 is l σ=some σ'->b9 K ρ H l vs->m8 K ρ H σ σv->(∀σv',m8 K ρ H σ' σv'->Q σv' H)->aA3 is vs σv H Q
 |[],_,_,_,_,_,h,.nil,s,q=>by
  simp only[C0] at h;cases h;exact⟨rfl,q _ s⟩
 |[],_,_,_,_,_,h,.cons _ _,s,q=>by simp only[C0] at h;cases h
 |i::is,_,_,_,_,_,h,.nil,s,q=>by simp only[C0] at h;cases h
 |i::is,_,_,_,_,_,h,.cons r rr,s,q=>by
  simp only[C0] at h;exact⟨_,_,rfl,as0 (k:=k) h rr (s.set i r) q⟩
theorem X3:∀{is:List Nat} {l:List D} {σ σ':S},C0 is l σ=some σ'->l.length=is.length
 |[],[],_,_,_=>rfl
 |[],_::_,_,_,h=>by simp only[C0] at h;cases h
 |_::_,[],_,_,h=>by simp only[C0] at h;cases h
 |_::is,_::l,_,_,h=>by simp only[C0] at h;simp[X3 h]
theorem aE9{es:List Expr}{is:List Nat}{k:Nat}(hc:X.calm=true)(hN:X.N.Nodup)(hs:SlotsOk X es is):PG X (.Tuple es k pos) (LG X.K (.many is)) :=
 (bn3 hc (aq8 hN hs) (ab1 hs).1 (ab1 hs).2).imp fun v σv H Q ⟨d,σ,g,ρ,s,R,r,h⟩=>by
  obtain⟨l,σ',rfl,e,h⟩:=h;obtain⟨a',vs,rfl,ht,rs⟩:=r.E0;exact⟨_,_,rfl,ht.sq,by rw[<- rs.length];exact X3 e,as0 (k:=fun _=>True) e rs s h⟩
end
theorem LN.ext{K ρ H N ρ1 H1}(e:Ext ρ H ρ1 H1):(LN K ρ H N).le (LN K ρ1 H1 N) :=
 ⟨fun σ g h ρ' H' σv' e' R s=>h ρ' H' σv' (e.trans e') R s,fun d g h=>h.ext e,fun σ g h ρ' H' σv' e' R s=>h ρ' H' σv' (e.trans e') R s,fun σ g h ρ' H' σv' e' R s=>h ρ' H' σv' (e.trans e') R s⟩
section
variable{X:Cx}{Ξ:XKE}{P:Sig}(hP:i4 P){a b c tg:Expr}{ma mb mc:ME}{st:Stmt}{rest:List Stmt}{mst mrest:MS}{pos p:Pos}
include hP
theorem aP7:PSs X [] (LS X.K Ξ (wpS P .pass)) :=
 (bc0 (X:=X)).imp fun N σv H ⟨σ,g,ρ,s,R,h⟩=>h ρ H σv (.refl _ _) R s
theorem aE8(h1:PS X st (LS X.K Ξ (wpS P mst)))(h2:PSs X rest (LS X.K Ξ (wpS P mrest))):PSs X (st::rest) (LS X.K Ξ (wpS P (.seq mst mrest))) :=
 (a00 h1 h2).imp fun N σv H ⟨σ,g,ρ,s,R,h⟩ =>
  thS hP s R (.refl _ _) (show wpS P mst { LN X.K ρ H N with nx:=fun σ1 g1=>wpS P mrest (LN X.K ρ H N) σ1 g1 (LX X.K ρ H Ξ) } σ g (LX X.K ρ H Ξ) from h) ⟨fun σ1 g1 h ρ1 H1 σv1 e1 R1 s1=>thS hP s1 R1 e1 h (LN.ext e1),fun _ _ z=>z,fun _ _ z=>z,fun _ _ z=>z⟩
theorem a93(ha:PE X a (LE X.K Ξ (wpE P ma)))(hs:swapsWith a none pos.line X.env=pure false):PS X (.Expr a pos) (LS X.K Ξ (wpS P (.expr ma))) :=
 (bc3 ha hs).imp fun N σv H ⟨σ,g,ρ,s,R,h⟩=>thE hP s R (.refl _ _) h fun x g1 ρ1 H1 v1 e1 R1 r1 h=>h ρ1 H1 σv e1 R1 (s.ext e1)
theorem aP1{i:Nat}{x:Str}{p:Pos}(h0:PS X (.Assign [.Name x p] a pos) (ax1 (LE X.K Ξ (wpE P ma)) (ae9 i))):PS X (.Assign [.Name x p] a pos) (LS X.K Ξ (wpS P (.set i ma))) :=
 h0.imp fun N σv H ⟨σ,g,ρ,s,R,h⟩=>thE hP s R (.refl _ _) h fun x g1 ρ1 H1 v1 e1 R1 r1 h=>h ρ1 H1 _ e1 R1 ((s.ext e1).set i r1)
theorem bi6{t:MT}(h0:PS X (.Assign [tg] a pos) (ax1 (LE X.K Ξ (wpE P ma)) (LG X.K t))):PS X (.Assign [tg] a pos) (LS X.K Ξ (wpS P (.unp t ma))) :=
 h0.imp fun N σv H ⟨σ,g,ρ,s,R,h⟩=>thE hP s R (.refl _ _) h fun x g1 ρ1 H1 v1 e1 R1 r1 h=>⟨x,σ,g1,ρ1,s.ext e1,R1,r1,v8 (fun σ' h σv' s'=>h ρ1 H1 σv' e1 R1 s') h⟩
theorem aX8(hu:X.A.units+100<cLine){o i:Expr}{mo mi:ME}{tp:Pos}(ha:PE X a (LE X.K Ξ (wpE P ma)))(ho:PE X o (LE X.K Ξ (wpE P mo)))(hi:PE X i (LE X.K Ξ (wpE P mi)))(hs:swapsWithSole [.Subscript o i tp] a pos.line X.env=pure false)(ha':∀ v,assign (.Subscript o i tp) X.env v=(do
   let ov <- holding [v] (eval o X.env)
   let iv <- holding [v,ov] (eval i X.env)
   standAt tp
   holding [v,ov,iv] (setItem ov iv v)
   release [v,ov,iv] [])):PS X (.Assign [.Subscript o i tp] a pos) (LS X.K Ξ (wpS P (.setix mo mi ma))) :=
 (aQ9 ha (bn4 ho hi (bk3 hu) ha') hs).imp fun N σv H ⟨σ,g,ρ,s,R,h⟩ =>
  thE hP s R (.refl _ _) h fun x g1 ρ1 H1 v1 e1 R1 r1 h=>thE hP (s.ext e1) R1 e1 h fun y g2 ρ2 H2 v2 e2 R2 r2 h=>thE hP (s.ext (e1.trans e2)) R2 (e1.trans e2) h fun z g3 ρ3 H3 v3 e3 R3 r3 h =>
   ⟨y,z,x,g3,ρ3,R3,r2.ext e3,r3,r1.ext (e2.trans e3),R0 (fun g4 h ρ4 H4 e4 R4=>h ρ4 H4 σv (e1.trans (e2.trans (e3.trans e4))) R4 (s.ext (e1.trans (e2.trans (e3.trans e4))))) h⟩
omit hP in
noncomputable def an0(K:PySem.W.Frag)(f:Str)(cs:List Str):Prop:=∀c C,c∈cs->p0 K c C->w5 K C f
omit hP in
theorem ba3{f:Str}{cs:List Str}(hF:an0 X.K f cs){ρ:List Addr}{H:Hp}{g g':G}{x v:D}{xv vv:V}(R:Rl X.K ρ g H)(rx:d8 X.K ρ H x xv)(rv:d8 X.K ρ H v vv)(h:a59 f cs x v g g') :
  ∃a C dx fs,xv=.ref a/\H a=some (.ins C dx fs)/\Cls X.K C/\w5 X.K C f/\fs.length<1000/\Rl X.K ρ g' (upd H a (.ins C dx (u4 f vv fs)))/\Ext ρ H ρ (upd H a (.ins C dx (u4 f vv fs))):=by
 obtain⟨i,c,fs,rfl,hi,hc,hz,rfl⟩:=h;obtain⟨a',rfl,ra⟩:=rx.j4;obtain⟨C,dx,vs,hH,hC,hcl,rk,na⟩:=R.ins hi ra;obtain⟨R',e'⟩:=R.put (o':=.ins c (j6 f v fs)) (u:=.ins C dx (u4 f vv vs)) hi rfl ra ⟨hC,hcl,rk.u4 rv,X4 (p:=fun y=>w5 X.K C y) (hF c C hc hC) na⟩;exact⟨a',C,dx,vs,rfl,hH,hcl,hF c C hc hC,by rw[<- rk.length];omega,R',e'⟩
theorem a92{f:Str}{cs:List Str}{o:Expr}{mo:ME}{tp:Pos}(hF:an0 X.K f cs)(ho:PE X o (LE X.K Ξ (wpE P mo)))(ha:PE X a (LE X.K Ξ (wpE P ma)))(hs:swapsWith a (some (.Attribute o f tp)) pos.line X.env=pure false):PS X (.Assign [.Attribute o f tp] a pos) (LS X.K Ξ (wpS P (.setf f cs mo ma))) :=
 (bm9 ho ha hs).imp fun N σv H ⟨σ,g,ρ,s,R,h⟩=>thE hP s R (.refl _ _) h fun x g1 ρ1 H1 v1 e1 R1 r1 h=>thE hP (s.ext e1) R1 e1 h fun y g2 ρ2 H2 v2 e2 R2 r2 h=>by
  obtain⟨g3,h,q⟩:=h;obtain⟨a',C,dx,fs,hx,hH,hcl,na,hz,R3,e3⟩:=ba3 hF R2 r2 (r1.ext e2) h;exact⟨a',C,dx,fs,hx,hH,hcl,na,hz,q ρ2 _ σv (e1.trans (e2.trans e3)) R3 (s.ext (e1.trans (e2.trans e3)))⟩
theorem a94{i:Nat}{x:Str}{tp:Pos}{op:Operator}{p:Pr}(hop:(op=.Add/\p=.iadd)\/(op=.Sub/\p=.isub))(hN:X.N.Nodup)(hi:X.N[i]?=some x)(hx:Loc X.env.scope x)(hf:X.fn x=true\/X.env.scope.names.lookup x=some .local)(ha:PE X a (LE X.K Ξ (wpE P ma))):PS X (.AugAssign (.Name x tp) op a pos) (LS X.K Ξ (wpS P (.augl i p ma))):=by
 have ho:PIp X op (r2 X.K p):=by
  intro pins s σ H x y v u Q I rx ry h;obtain⟨d,e,g,ρ,R,rd,re,d',g',hr,q⟩:=h;rcases hop with⟨rfl,rfl⟩|⟨rfl,rfl⟩
  ·rcases hr with⟨i,j,ex,rfl,rfl⟩|⟨l,m,ex,hz,rfl,rfl⟩
   ·obtain⟨rfl,rfl⟩:=u3 ex;obtain rfl:=rd.i3;obtain rfl:=re.i3;exact bf3 pins s σ H _ _ v u Q I rx ry ⟨i,j,rfl,rfl,q.now R (.int _)⟩
   ·obtain⟨rfl,rfl⟩:=u3 ex;obtain⟨p1,vs1,rfl,t1,rs1⟩:=rd.E0;obtain⟨p2,vs2,rfl,t2,rs2⟩:=re.E0;refine aH0 pins s σ H _ _ v u Q I rx ry (.inr ⟨p1,p2,vs1,vs2,rfl,rfl,t1.sq,t2.sq,by rw[<- rs1.length,<- rs2.length];exact k6 hz,fun z=>?_,fun z=>?_,fun p hp=>q.tup R hp (rs1.append rs2)⟩)
    ·subst z;cases rs1;exact q.now R (.tup t2 rs2)
    ·subst z;cases rs2;rw[List.append_nil] at q;exact q.now R (.tup t1 rs1)
  ·obtain⟨i,j,ex,rfl,rfl⟩:=hr;obtain⟨rfl,rfl⟩:=u3 ex;obtain rfl:=rd.i3;obtain rfl:=re.i3;exact bf2 pins s σ H _ _ v u Q I rx ry ⟨i,j,rfl,rfl,q.now R (.int _)⟩
 refine(bn0 hN hi hx ha ho hf).imp fun N σv H ⟨σ,g,ρ,s,R,h⟩=>?_;obtain⟨xd,hxd,h⟩:=h;obtain⟨xv,hv,rx⟩:=s.val _ _ hxd;refine⟨xv,hv,thE hP s R (.refl _ _) h fun z g1 ρ1 H1 v1 e1 R1 r1 h=>?_⟩;refine⟨xd,z,g1,ρ1,R1,rx.ext e1,r1,p8 (fun w g2 q=>?_) h⟩;exact fun ρ2 H2 v2 e2 R2 r2=>q ρ2 H2 _ (e1.trans e2) R2 ((s.ext (e1.trans e2)).set i r2)
theorem a95{f:Str}{cs:List Str}{o:Expr}{mo:ME}{tp:Pos}(hF:an0 X.K f cs)(ho:PE X o (LE X.K Ξ (wpE P mo)))(ha:PE X a (LE X.K Ξ (wpE P ma))):PS X (.AugAssign (.Attribute o f tp) .Add a pos) (LS X.K Ξ (wpS P (.augf f cs mo ma))) :=
 (aQ8 ho ha aH0).imp fun N σv H ⟨σ,g,ρ,s,R,h⟩=>thE hP s R (.refl _ _) h fun y g1 ρ1 H1 v1 e1 R1 r1 h=>by
  obtain⟨i,c,fs,x,rfl,hi,hc,hf,h⟩:=h;obtain⟨a',rfl,ra⟩:=r1.j4;obtain⟨C,dx,vs,hH,hC,hcl,rk,na⟩:=R1.ins hi ra;have lk:=rk.look f;rw[hf] at lk;obtain⟨v,hv,rv⟩:=lk.some;refine⟨a',C,dx,vs,v,rfl,hH,hcl,hF c C hc hC,hv,thE hP (s.ext e1) R1 e1 h fun z g3 ρ3 H3 v3 e3 R3 r3 h=>?_⟩;obtain⟨d',g',hR,fs',hi',hz,q⟩:=h;have fin:∀{ρ4:List Addr} {H4:Hp} {vv:V},Ext ρ3 H3 ρ4 H4->Rl X.K ρ4 g' H4->d8 X.K ρ4 H4 d' vv->∃dx' fs',H4 a'=some (.ins C dx' fs')/\fs'.length<1000/\N.nx σv (upd H4 a' (.ins C dx' (u4 f vv fs'))):=by
   intro ρ4 H4 vv e4 R4 r4;obtain⟨C2,dx2,vs2,hH2,hC2,hcl2,rk2,na2⟩:=R4.ins hi' ((e3.trans e4).get ra);have:C2=C:=by have h1:=hC2.symm.trans hC;cases h1;rfl
   subst this;obtain⟨R5,e5⟩:=R4.put (o':=.ins c (j6 f d' fs')) (u:=.ins C2 dx2 (u4 f vv vs2)) hi' rfl ((e3.trans e4).get ra) ⟨hC2,hcl2,rk2.u4 r4,X4 (p:=fun y=>w5 X.K C2 y) (hF c C2 hc hC2) na2⟩;exact⟨dx2,vs2,hH2,by rw[<- rk2.length];omega,q ρ4 _ σv (e1.trans (e3.trans (e4.trans e5))) R5 (s.ext (e1.trans (e3.trans (e4.trans e5))))⟩
  rcases hR with⟨j,l,ex,rfl,rfl⟩|⟨l,m,ex,hz2,rfl,rfl⟩
  ·obtain⟨rfl,rfl⟩:=u3 ex;obtain rfl:=rv.i3;obtain rfl:=r3.i3;exact .inl ⟨_,_,rfl,rfl,fin (.refl _ _) R3 (.int _)⟩
  ·obtain⟨rfl,rfl⟩:=u3 ex;obtain⟨p1,vs1,rfl,t1,rs1⟩:=(rv.ext e3).E0;obtain⟨p2,vs2,rfl,t2,rs2⟩:=r3.E0;refine .inr ⟨p1,p2,vs1,vs2,rfl,rfl,t1.sq,t2.sq,by rw[<- rs1.length,<- rs2.length];exact k6 hz2,fun z=>?_,fun z=>?_,fun p hp=>?_⟩
   ·subst z;cases rs1;exact fin (.refl _ _) R3 (.tup t2 rs2)
   ·subst z;cases rs2;rw[List.append_nil] at fin;exact fin (.refl _ _) R3 (.tup t1 rs1)
   ·exact fin (v5 hp) (R3.grow hp) (.tup (.inl o6) ((rs1.append rs2).ext (v5 hp)))
theorem bw6{sa sb:List Stmt}{msa msb:MS}(hc:PT X c (LT X.K Ξ (wpT P mc)))(ha:PSs X sa (LS X.K Ξ (wpS P msa)))(hb:PSs X sb (LS X.K Ξ (wpS P msb))):PS X (.If c sa sb pos) (LS X.K Ξ (wpS P (.ifs mc msa msb))) :=
 (by0 hc ha hb).imp fun N σv H ⟨σ,g,ρ,s,R,h⟩=>thT hP s R (.refl _ _) h fun t g1 ρ1 H1 e1 R1 h=>by
  cases t
  ·exact thS hP (s.ext e1) R1 e1 h (LN.ext e1)
  ·exact thS hP (s.ext e1) R1 e1 h (LN.ext e1)
theorem aP2(ha:PE X a (LE X.K Ξ (wpE P ma))):PS X (.Return (some a) pos) (LS X.K Ξ (wpS P (.ret ma))) :=
 (bm6 ha).imp fun N σv H ⟨σ,g,ρ,s,R,h⟩=>⟨σ,g,ρ,s,R,h⟩
theorem aX7{body:List Stmt}{mb:MS}(hp:PassesOwn (model X.prog X.w) X.A X.env X.xe)(hc:PT X c (LT X.K Ξ (wpT P mc)))(hb:PSs X body (LS X.K Ξ (wpS P mb))):PS X (.While c body [] pos) (LS X.K Ξ (wpS P (.whil mc mb))) :=
 (a01 hp hc hb).imp fun N σv H ⟨σ,g,ρ,s,R,h⟩=>by
  obtain⟨W,⟨m0,w0⟩,h⟩:=h;refine⟨fun m σv' H'=>∃σ' g' ρ',Ext ρ H ρ' H'/\m8 X.K ρ' H' σ' σv'/\Rl X.K ρ' g' H'/\W m σ' g',⟨m0,σ,g,ρ,.refl _ _,s,R,w0⟩,?_⟩;rintro m σv' H' ⟨σ',g',ρ',e1,s',R',w'⟩;refine thT hP s' R' e1 (h m σ' g' w') fun t g1 ρ1 H1 e2 R1 q=>?_;cases t
  ·exact q ρ1 H1 σv' (e1.trans e2) R1 (s'.ext e2)
  ·obtain⟨N2,hN2,q⟩:=q;refine⟨fun σv2 H2=>∃σ2 g2 ρ2,Ext ρ H ρ2 H2/\m8 X.K ρ2 H2 σ2 σv2/\Rl X.K ρ2 g2 H2/\N2 σ2 g2,?_,?_⟩
   ·rintro σv2 H2 ⟨σ2,g2,ρ2,e3,s2,R2,n2⟩;obtain⟨m',hm,w2⟩:=hN2 σ2 g2 n2;exact⟨m',hm,σ2,g2,ρ2,e3,s2,R2,w2⟩
   ·refine thS hP (s'.ext e2) R1 (e1.trans e2) q ⟨?_,?_,?_,?_⟩
    ·exact fun σ3 g3 n3 ρ3 H3 σv3 e3 R3 s3=>⟨σ3,g3,ρ3,(e1.trans e2).trans e3,s3,R3,n3⟩
    ·exact fun d g3 h=>h.ext (e1.trans e2)
    ·exact fun σ3 g3 h ρ3 H3 σv3 e3 R3 s3=>h ρ3 H3 σv3 ((e1.trans e2).trans e3) R3 s3
    ·exact fun σ3 g3 n3 ρ3 H3 σv3 e3 R3 s3=>⟨σ3,g3,ρ3,(e1.trans e2).trans e3,s3,R3,n3⟩
theorem bi9{iter:Expr}{mi:ME}{body:List Stmt}{mb:MS}{t:MT}(hp:PassesOwn (model X.prog X.w) X.A X.env X.xe)(hc:X.calm=true)(hi:PI X tg iter (LI X.K Ξ (wpI P mi)))(hg:PG X tg (LG X.K t))(hb:PSs X body (LS X.K Ξ (wpS P mb)))(hs:∀x,foldedSetIterable iter X.env x=pure x):PS X (.For tg iter body [] pos) (LS X.K Ξ (wpS P (.for_ t mi mb))) :=
 (bm8 hp hc hi hg hb hs).imp fun N σv H ⟨σ,g,ρ,s,R,h⟩=>by
  refine⟨σ,g,ρ,s,R,y9 hP mi _ _ _ _ _ _ (fun k g1 h ρ1 H1 J e1 R1 j1=>?_) (fun _ _ z=>z) h⟩;obtain⟨W,⟨m0,w0⟩,h⟩:=h;refine⟨fun i m σv' H'=>∃σ' g' ρ',Ext ρ1 H1 ρ' H'/\m8 X.K ρ' H' σ' σv'/\Rl X.K ρ' g' H'/\W i m σ' g',⟨m0,σ,g1,ρ1,.refl _ _,s.ext e1,R1,w0⟩,?_⟩;rintro i m σv' H' ⟨σ',g',ρ',e',s',R',w'⟩;obtain⟨j1a,j1b⟩:=j1 ρ' g' H' e' R' i;rcases h i m σ' g' w' with⟨ek,q⟩|⟨x,ek,N2,hN2,q⟩
  ·exact .inl ⟨j1a ek,q ρ' H' σv' (e1.trans e') R' s'⟩
  ·obtain⟨go,yl⟩:=j1b x ek;refine .inr ⟨go,fun σv2 H2=>∃σ2 g2 ρ2,Ext ρ1 H1 ρ2 H2/\m8 X.K ρ2 H2 σ2 σv2/\Rl X.K ρ2 g2 H2/\N2 σ2 g2,?_,?_⟩
   ·rintro σv2 H2 ⟨σ2,g2,ρ2,e2,s2,R2,n2⟩;obtain⟨m',hm,w2⟩:=hN2 σ2 g2 n2;exact⟨m',hm,σ2,g2,ρ2,e2,s2,R2,w2⟩
   ·intro v H2 y;obtain⟨e2,R2,r2⟩:=yl v H2 y;refine⟨x,σ',g',ρ',s'.ext e2,R2,r2,v8 (fun σ2 q σv2 s2=>?_) q⟩;refine thS hP s2 R2 (e1.trans (e'.trans e2)) q ⟨?_,?_,?_,?_⟩
    ·exact fun σ3 g3 n3 ρ3 H3 σv3 e3 R3 s3=>⟨σ3,g3,ρ3,(e'.trans e2).trans e3,s3,R3,n3⟩
    ·exact fun d g3 h=>h.ext (e1.trans (e'.trans e2))
    ·exact fun σ3 g3 h ρ3 H3 σv3 e3 R3 s3=>h ρ3 H3 σv3 (e1.trans ((e'.trans e2).trans e3)) R3 s3
    ·exact fun σ3 g3 n3 ρ3 H3 σv3 e3 R3 s3=>⟨σ3,g3,ρ3,(e'.trans e2).trans e3,s3,R3,n3⟩
theorem aA7{d5:List Nat}{n:Nat}{t:MT}{mi mcond me:ME}:∀σv H Q,LE X.K Ξ (wpE P (.comp d5 n t mi mcond me)) σv H Q->aJ1 (LI X.K Ξ (wpI P mi)) d5 n (LG X.K t) (LT X.K (XK0 Ξ.1) (wpT P mcond)) (LE X.K (XK0 Ξ.1) (wpE P me)) σv H Q:=fun σv H Q ⟨σ,g,ρ,s,R,h⟩=>by
 simp only[wpE] at h;refine⟨σ,g,ρ,s,R,y9 hP mi _ _ _ _ _ _ (fun k g1 h ρ1 H1 J e1 R1 j1=>?_) (fun _ _ z=>z) h⟩;obtain⟨W,⟨m0,w0⟩,h⟩:=h;refine⟨fun i m ysv σv' H'=>∃ys σ' g' ρ',Ext ρ1 H1 ρ' H'/\m8 X.K ρ' H' σ' σv'/\Rl X.K ρ' g' H'/\b9 X.K ρ' H' ys ysv/\W i m ys σ' g',⟨m0,[],_,g1,ρ1,.refl _ _,(s.ext e1).d5 d5 n,R1,.nil,w0⟩,?_⟩;rintro i m ysv σv' H' ⟨ys,σ',g',ρ',e',s',R',ry,w'⟩;obtain⟨j1a,j1b⟩:=j1 ρ' g' H' e' R' i;rcases h i m ys σ' g' w' with⟨ek,q⟩|⟨x,ek,hz,q⟩
 ·exact .inl ⟨j1a ek,fun p hp=>(q.ext (e1.trans e')).new R' hp ry⟩
 ·obtain⟨go,yl⟩:=j1b x ek;refine .inr ⟨go,by rw[<- ry.length];exact ao2 hz,fun v H2 y=>?_⟩;obtain⟨e2,R2,r2⟩:=yl v H2 y;refine⟨x,σ',g',ρ',s'.ext e2,R2,r2,v8 (fun σ2 q σv2 s2=>?_) q⟩;refine⟨σ2,g',ρ',s2,R2,n9 hP mcond _ _ _ _ _ _ (fun b g3 q ρ3 H3 e3 R3=>?_) (fun _ _ z=>z.elim) q⟩;cases b
  ·obtain⟨m',hm,w3⟩:=q;exact⟨m',hm,ys,σ2,g3,ρ3,(e'.trans e2).trans e3,s2.ext e3,R3,(ry.ext e2).ext e3,by simpa using w3⟩
  ·refine⟨σ2,g3,ρ3,s2.ext e3,R3,b8 hP me _ _ _ _ _ _ (fun z g4 q ρ4 H4 v4 e4 R4 r4=>?_) (fun _ _ z=>z.elim) q⟩;obtain⟨m',hm,w4⟩:=q;exact⟨m',hm,ys++[z],σ2,g4,ρ4,(e'.trans e2).trans (e3.trans e4),(s2.ext e3).ext e4,R4,(((ry.ext e2).ext e3).ext e4).append (.cons r4 .nil),by simpa using w4⟩
theorem aY5{elt tg iter:Expr}{ifs:List Expr}{scope:Scope}{N':List Str}{d5:List Nat}{cl:List (Str×Addr)}{pos p2 pos2:Pos}{t:MT}{mi mcond me:ME}(S:CompScope X scope N' d5 cl)(hc:X.calm=true)(hi:PI X tg iter (LI X.K Ξ (wpI P mi)))(hg:∀pins C s H fp,PG (d7 X pins scope N' cl C s H fp) tg (LG X.K t))(ht:∀pins C s H fp,PTs (d7 X pins scope N' cl C s H fp) ifs (LT X.K (XK0 Ξ.1) (wpT P mcond)))(he:∀pins C s H fp,PE (d7 X pins scope N' cl C s H fp) elt (LE X.K (XK0 Ξ.1) (wpE P me)))(hs:∀x,foldedSetIterable iter X.env x=pure x)(hgl:Gl X "sorted")(hml:X.mg "sorted"=none):PE X (.Call (.Name "sorted" p2) [.SetComp elt [⟨tg,iter,ifs,0⟩] scope pos] [] pos2) (LE X.K Ξ (wpE P (.scomp d5 N'.length t mi mcond me))) :=
 (X5 (S4 hc) hgl hml (by first|exact PyProof.Rows.boot_sorted|decide +kernel) (O5 (a08 S hc hi hg ht he hs) U7)).imp fun σv H Q ⟨σ,g,ρ,s,R,h⟩=>by
  simp only[wpE] at h;refine⟨σ,g,ρ,s,R,y9 hP mi _ _ _ _ _ _ (fun k g1 h ρ1 H1 J e1 R1 j1=>?_) (fun _ _ z=>z) h⟩;obtain⟨W,⟨m0,w0⟩,h⟩:=h;refine⟨fun i m ys σv' H'=>∃σ' g' ρ',Ext ρ1 H1 ρ' H'/\m8 X.K ρ' H' σ' σv'/\Rl X.K ρ' g' H'/\W i m ys σ' g',⟨m0,_,g1,ρ1,.refl _ _,(s.ext e1).d5 d5 _,R1,w0⟩,?_⟩;rintro i m ys σv' H' ⟨σ',g',ρ',e',s',R',w'⟩;obtain⟨j1a,j1b⟩:=j1 ρ' g' H' e' R' i;rcases h i m ys σ' g' w' with⟨ek,hz,q⟩|⟨x,ek,hz,q⟩
  ·exact .inl ⟨j1a ek,fun p hp=>⟨p,ys,rfl,o6,hz,fun p' hp'=>(q.ext ((e1.trans e').trans (v5 hp))).new (R'.grow hp) hp' (b9.ofInts _)⟩⟩
  ·obtain⟨go,yl⟩:=j1b x ek;refine .inr ⟨go,hz,fun v H2 y=>?_⟩;obtain⟨e2,R2,r2⟩:=yl v H2 y;refine⟨x,σ',g',ρ',s'.ext e2,R2,r2,v8 (fun σ2 q σv2 s2=>?_) q⟩;refine⟨σ2,g',ρ',s2,R2,n9 hP mcond _ _ _ _ _ _ (fun b g3 q ρ3 H3 e3 R3=>?_) (fun _ _ z=>z.elim) q⟩;cases b
   ·obtain⟨m',hm,w3⟩:=q;exact⟨m',hm,σ2,g3,ρ3,(e'.trans e2).trans e3,s2.ext e3,R3,by simpa using w3⟩
   ·refine⟨σ2,g3,ρ3,s2.ext e3,R3,b8 hP me _ _ _ _ _ _ (fun z g4 q ρ4 H4 v4 e4 R4 r4=>?_) (fun _ _ z=>z.elim) q⟩;obtain⟨j,rfl,m',hm,w4⟩:=q;obtain rfl:=r4.i3;exact⟨j,rfl,m',hm,σ2,g4,ρ4,(e'.trans e2).trans (e3.trans e4),(s2.ext e3).ext e4,R4,by simpa using w4⟩
end
end M

namespace M
open PySem L2 PySem.Spec PyProof.Rows
section
variable{X:Cx}{Ξ:XKE}{P:Sig}(hP:i4 P)
include hP
theorem aX9{x:Str}{C:Addr}{B newId initId:String}{bm:List Value}{np cpos pos:Pos}{e₀:Expr}{rest:List Expr}{mes:ME}(hc:X.calm=true)(O:OwnCls x C bm newId X.mg X.base)(FB:ExcBaseFacts B newId initId bm)(hg:Gl X x)(ha:PA X (e₀::rest) (LA X.K Ξ (wpA P mes)))(hr:af7 X Ξ.2)(hx:x∈Ξ.1)(hC:p0 X.K x C)(he:starEach (e₀::rest) X.env=(false,eval e₀ X.env)::starEach rest X.env)(hplain:(backTo cpos (starEach rest X.env)).any (·.1)=false)(hd:(x==("__debug__":Str))=false):PS X (.Raise (some (.Call (.Name x np) (e₀::rest) [] cpos)) none pos) (LS X.K Ξ (wpS P (.raise x mes))) :=
 (a02 hc O FB hg ha hr he hplain hd).imp fun N σv H ⟨σ,g,ρ,s,R,h⟩=>by
  refine thA hP s R (.refl _ _) h fun ds g1 ρ1 H1 vs e1 R1 r1 h=>?_;exact⟨by rw[<- r1.length];exact k6 (Nat.le_trans h.1 (by decide)),h.2 ρ1 H1 C e1 R1 hx hC⟩
noncomputable def aH7(X:Cx)(ex:List Str)(D:L2.Ends)(hs:List ExceptHandler):XKE:=(ex,fun v _ H=>∃C,v=.ref C/\aa0 X D C H hs)
inductive HsOk(X:Cx)(Ξ:XKE)(P:Sig):List ExceptHandler->List (Str×ME)->Prop
 |nil (hh:ad3 X Ξ.2):HsOk X Ξ P [] []
 |cons {y:Str} {C':Addr} {p p1 p2:Pos} {e:Expr} {me:ME} {hs:List ExceptHandler} {ms:List (Str×ME)} (hg:Gl X y) (hd:(y==("__debug__":Str))=false) (hm:X.mg y=some (.ref C'))
   (hx:∀x C,x∈Ξ.1->p0 X.K x C->PySem.W.exmOne X.K (.ref C) (.ref C')=some (decide (x=y\/y="MintError"))) (he:∀ea,PE (C3 X ea) e (LE X.K (XK0 Ξ.1) (wpE P me))) (r:HsOk X Ξ P hs ms) :
   HsOk X Ξ P (.ExceptHandler (some (.Name y p)) none [.Return (some e) p1] p2::hs) ((y,me)::ms)
theorem aw9{N:L2.Ends}{ρ ρ':List Addr}{H H':Hp}{σ:S}{g:G}{x:Xn}{C:Addr}(hl:σ.length=X.N.length)(e:Ext ρ H ρ' H')(R:Rl X.K ρ' g H')(hx:x.cls∈Ξ.1)(hC:p0 X.K x.cls C) :
  ∀{hs:List ExceptHandler} {ms:List (Str×ME)},HsOk X Ξ P hs ms->wpH P (LN X.K ρ H N) (σ.map fun _=>none) (LX X.K ρ H Ξ) ms x g->aa0 X N C H' hs
 |_,_,.nil hh,q=>⟨Ξ.2,hh,q ρ' H' C e R hx hC⟩
 |_,_,.cons (me:=me) hg hd hm hxm he r,q=>by
  refine⟨hg,hd,_,_,hm,hxm _ _ hx hC,?_⟩;unfold wpH at q;split at q
  ·rename_i ex;rw[if_pos (by simpa using ex)];refine⟨LS X.K (XK0 Ξ.1) (wpS P (.seq (.ret me) .pass)),fun ea=>aE8 (X:=C3 X ea) (Ξ:=XK0 Ξ.1) hP (aP2 (X:=C3 X ea) hP (he ea)) (aP7 (X:=C3 X ea) hP),?_⟩;refine⟨σ.map fun _=>none,g,ρ',⟨by simp[hl],fun i d z=>?_⟩,R,?_⟩
   ·rw[List.getElem?_map] at z;cases e:σ[i]? with
    |none=>rw[e] at z;cases z
    |some y=>rw[e] at z;cases z
   ·simp only[wpS];refine b8 hP me _ _ _ _ _ _ (fun d g1 h=>?_) (fun _ _ z=>z.elim) q;exact h.ext e
  ·rename_i ex;rw[if_neg (by simpa using ex)];exact aw9 hl e R hx hC r q
theorem bi7{h₀:ExceptHandler}{hs:List ExceptHandler}{ms:List (Str×ME)}{body:List Stmt}{mb:MS}{pos:Pos}(hst:X.stack=X.env::X.outer)(hf:X.env.frame=some X.env.locals)(hb:∀pins D,PSs (Q7 X pins (ad7 X pins D (h₀::hs))) body (LS X.K (aH7 X Ξ.1 D (h₀::hs)) (wpS P mb)))(hh:HsOk X Ξ P (h₀::hs) ms):PS X (.Try body (h₀::hs) [] [] pos) (LS X.K Ξ (wpS P (.W8 mb ms))):=by
 intro pins s σv H N I ⟨σ,g,ρ,sr,R,h⟩;refine bm5 (t:=fun D=>LS X.K (aH7 X Ξ.1 D (h₀::hs)) (wpS P mb)) (Ξ:=fun D=>(aH7 X Ξ.1 D (h₀::hs)).2) hst hf (fun pins D _=>hb pins D) pins s σv H N I ⟨fun C H' ⟨C',e,z⟩=>by cases e;exact z,?_⟩;simp only[wpS] at h;refine⟨σ,g,ρ,sr,R,wpS_mono hP mb _ _ _ _ _ _ ⟨fun _ _ z=>z,fun _ _ z=>z,fun _ _ z=>z,fun _ _ z=>z⟩ (fun x g1 q ρ' H' C e' R' hm hc=>⟨C,rfl,?_⟩) h⟩;exact aw9 (Ξ:=Ξ) hP (sr.len.trans I.len) e' R' hm hc hh q
end
end M

namespace M
open PySem L2 PySem.Spec PyProof.Rows
structure f9 where
 N:List Str
 nm:List (Str×NameKind)
 fnb:Bool
 fns:List (Str×Nat)
 con:List (Str×D)
 blt:List Str
 exc:List Str
 gd:List (Str×List D)
 cls:List (Str×Nat)
 mts:List (Str×Str×Nat)
 fls:List (Str×Str)
 rais:Bool
 tryb:Bool
noncomputable def okE:Expr->Bool
 |.Set ..=>false
 |.Starred ..=>false
 |.Slice ..=>false
 |_=>true
noncomputable def u7:Expr->Bool
 |.ListComp ..=>false
 |.SetComp ..=>false
 |.DictComp ..=>false
 |_=>true
noncomputable def ae1:Expr->Bool
 |.Tuple ..=>false
 |_=>true
noncomputable def ab5:Expr->Bool
 |.Name ..=>true
 |.Call ..=>true
 |.Subscript ..=>true
 |.Constant ..=>true
 |.Attribute ..=>true
 |.BinOp ..=>true
 |_=>false
noncomputable def ak2:Expr->Bool
 |.Call (.Name ..) ..=>false
 |_=>true
noncomputable def f9.idx(c:f9)(x:Str):Option Nat:=c.N.findIdx? fun y=>decide (y=x)
noncomputable def f9.vis(c:f9)(x:Str):Bool:=match c.nm.lookup x with
 |some .local=>true
 |some .cell=>true
 |some .free=>true
 |_=>false
noncomputable def f9.gl(c:f9)(x:Str):Bool:=decide (c.nm.lookup x=some .globalImplicit)
noncomputable def f9.w6(c:f9)(x:Str):Bool:=decide (c.nm.lookup x=some .local)||decide (c.nm.lookup x=some .cell)
noncomputable def X8(x:Str):Bool:=(x==("__debug__":Str))==false&&(x==("__classdict__":Str))==false&&decide (x≠"__name__")
noncomputable def aI4:List (Str×String):=[("int","int"),("bool","bool"),("str","str"),("tuple","tuple"),("list","list")]
noncomputable def aB6:List (Str×Pr):=[("len",.len),("list",.list),("tuple",.tuple),("isinstance",.isin),("all",.all),("max",.max),("min",.min),("int",.int),("sum",.sum)]
noncomputable def ae3:List (Str×Pr):=[]
noncomputable def ay6:List (Str×Pr):=[("append",.append),("pop",.pop),("get",.get),("add",.sadd)]
noncomputable def ap8:Expr->Option (Str×List Expr)
 |.Call (.Name x _) args [] _=>some (x,args)
 |_=>none
noncomputable def a78:Expr->Bool
 |.Tuple ..=>true
 |_=>false
noncomputable def asName:Expr->Option Str
 |.Name x _=>some x
 |_=>none
noncomputable def frees(sc:Scope):List Str:=(sc.names.filter fun y=>decide (y.2=.free)).map (·.1)
noncomputable def locals(sc:Scope):List Str:=(sc.names.filter fun y=>decide (y.2=.local)||decide (y.2=.cell)).map (·.1)
noncomputable def f9.inner(c:f9)(sc:Scope):f9:={ c with N:=frees sc++locals sc,nm:=sc.names,fnb:=false,rais:=false,tryb:=false }
noncomputable def f9.d5(c:f9)(sc:Scope):List Nat:=(frees sc).map fun x=>(c.idx x).getD 0
noncomputable def f9.an4(c:f9)(sc:Scope):Bool :=
 decide (sc.kind=.function)&&sc.names.all (fun y=>!decide (y.2=.cell)||decide (sc.names.lookup y.1=some .cell))&&sc.names.all (fun y=>!decide (y.2=.local)||decide (sc.names.lookup y.1=some .local)) &&
 decide (frees sc++locals sc).Nodup&&(frees sc).all (fun x=>(c.idx x).isSome&&decide (sc.names.lookup x=some .free)&&(decide (c.nm.lookup x=some .cell)||decide (c.nm.lookup x=some .free)))
noncomputable def f9.slot(c:f9)(e:Expr):Option Nat:=(asName e).bind fun x=>if c.w6 x then c.idx x else none
noncomputable def f9.slots(c:f9):List Expr->Option (List Nat)
 |[]=>some []
 |e::r=>(c.slot e).bind fun i=>(c.slots r).map fun is=>i::is
noncomputable def f9.tg(c:f9)(e:Expr):Option MT:=((c.slot e).map .one).orElse fun _=>match e with
 |.Tuple es _ _=>(c.slots es).map .many
 |_=>none
noncomputable def Z8:Const->Option D
 |.int i=>some (.int i)
 |.bool b=>some (.bl b)
 |.none=>some .non
 |.str x=>some (.str x)
 |_=>none
structure CF where
 e:f9->Expr->Option ME
 t:f9->Expr->Option ME
 s:f9->Stmt->Option MS
section
variable(r:CF)(c:f9)
noncomputable def c1(p:Pr)(a:Expr):Option ME:=(r.e c a).map fun m=>.prim p (.cons m .nil)
noncomputable def c2(p:Pr)(a b:Expr):Option ME:=(r.e c a).bind fun ma=>(r.e c b).map fun mb=>.prim p (.cons ma (.cons mb .nil))
noncomputable def F1:List Expr->Option ME
 |[]=>some .nil
 |e::es=>if okE e then(r.e c e).bind fun m=>(F1 es).map fun ms=>.cons m ms else none
noncomputable def aW5:Expr->Option Str
 |.Constant (.str x) _ _=>some x
 |_=>none
noncomputable def bt9:Expr->Option Expr
 |.FormattedValue e k none _=>if k=-1 then some e else none
 |_=>none
noncomputable def af5:List Expr->Option ME
 |[]=>some .nil
 |e::es=>((aW5 e).bind fun x=>if x.length<=2000 then(af5 es).map fun ms=>.cons (.lit (.str x)) ms else none).orElse fun _ =>
   (bt9 e).bind fun a=>(r.e c a).bind fun m=>(af5 es).map fun ms=>.cons (.prim .fv (.cons m .nil)) ms
noncomputable def am0:List (Option Expr)->List Expr->Option ME
 |[],[]=>some .nil
 |some k::ks,v::vs=>(r.e c k).bind fun mk=>(r.e c v).bind fun mv=>(am0 ks vs).map fun ms=>.cons mk (.cons mv ms)
 |_,_=>none
noncomputable def av3(op:BoolOp):List Expr->Option ME
 |[]=>none
 |[a]=>r.e c a
 |a::b::rs=>(r.e c a).bind fun ma=>(av3 op (b::rs)).map fun mb=>match op with
  |.And=>.and_ ma mb
  |.Or=>.or_ ma mb
noncomputable def av2(op:BoolOp):List Expr->Option ME
 |[]=>none
 |[a]=>r.t c a
 |a::b::rs=>(r.t c a).bind fun ma=>(av2 op (b::rs)).map fun mb=>match op with
  |.And=>.and_ ma mb
  |.Or=>.or_ ma mb
noncomputable def aV3:List Expr->Option ME
 |[]=>some .no
 |[e]=>r.t c e
 |_=>none
noncomputable def t8:List Stmt->Option MS
 |[]=>some .pass
 |s::rs=>(r.s c s).bind fun m=>(t8 rs).map fun ms=>.seq m ms
noncomputable def aH8(x:Str):Option ME :=
 if X8 x then(if c.vis x then(c.idx x).map .var else if c.gl x then((c.con.lookup x).map .lit).orElse fun _=>if c.blt.contains x then(aI4.lookup x).map fun t=>.lit (.ty t) else none else none) else none
noncomputable def xUn(op:UnaryOp)(a:Expr):Option ME:=if op=.Not then(r.e c a).map .not_ else c1 r c (.un op) a
noncomputable def f9.aM1(b:Expr):Option (List D):=(asName b).bind fun x=>if c.gl x&&X8 x then c.gd.lookup x else none
noncomputable def bI9:CmpOp->Option Bool
 |.In=>some false
 |.NotIn=>some true
 |_=>none
noncomputable def av7(a:Expr)(ops:List CmpOp)(bs:List Expr):Option ME:=match ops,bs with
 |[op],[b]=>if behindInMarks op b then none else((bI9 op).bind fun neg=>(c.aM1 b).bind fun kvs=>(r.e c a).map fun ma=>.prim (av1 neg) (.cons (.lit (.tup kvs)) (.cons ma .nil))).orElse fun _=>c2 r c (.cmp op) a b
 |[op,op'],[b,d]=>if lastMarks [op,op'] [b,d] then none else(r.e c a).bind fun ma=>(r.e c b).bind fun mb=>(r.e c d).map fun md=>.chain op op' ma mb md
 |_,_=>none
noncomputable def bK5:Expr->Option (Option Expr×Option Expr×Option Expr)
 |.Slice lo hi st _=>some (lo,hi,st)
 |_=>none
noncomputable def xSl(a:Expr):Option Expr->Option Expr->Option Expr->Option ME
 |none,none,none=>c1 r c (.slc false false) a
 |some b,none,none=>c2 r c (.slc true false) a b
 |none,some b,none=>c2 r c (.slc false true) a b
 |_,_,_=>none
noncomputable def aW7(a b:Expr):Option ME:=((bK5 b).bind fun q=>xSl r c a q.1 q.2.1 q.2.2).orElse fun _=>if okE b then((c.aM1 a).bind fun kvs=>(r.e c b).map fun mb=>.prim .gget (.cons (.lit (.tup kvs)) (.cons mb .nil))).orElse fun _=>c2 r c .ix a b else none
noncomputable def xSp(x:Str)(e:Expr):Option ME:=(ap8 e).bind fun q =>
 if x="list" && q.1="range" && c.blt.contains "list" && c.blt.contains "range" && c.gl "range" then (match q.2 with
  |[a]=>if okE a then c1 r c .lrng1 a else none
  |[a,b]=>if okE a&&okE b then c2 r c .lrng2 a b else none
  | _=>none)
 else if x="sorted" && q.1="set" && c.blt.contains "sorted" && c.blt.contains "set" && c.gl "set" then (match q.2 with
  |[a]=>if okE a then c1 r c .sset a else none
  | _=>none)
 else if x="len" && q.1="set" && c.blt.contains "len" && c.blt.contains "set" && c.gl "set" then (match q.2 with
  |[a]=>if okE a then c1 r c .ao1 a else none
  | _=>none)
 else none
noncomputable def bD8(x:Str)(e:Expr):List Expr->Option ME
 |[]=>xSp r c x e
 |_=>none
noncomputable def aw0(x:Str):Option ME:=if X8 x&&c.gl x then(c.cls.lookup x).map fun f=>.make x f .nil else none
noncomputable def av9(x:Str)(e:Expr)(es:List Expr):Option ME:=if X8 x&&c.gl x then(bD8 r c x e es).orElse fun _=>(F1 r c (e::es)).bind fun ms=>((c.fns.lookup x).map fun f=>.call f ms).orElse fun _=>((c.cls.lookup x).map fun f=>.make x f ms).orElse fun _=>if c.blt.contains x then(aB6.lookup x).map fun p=>.prim p ms else none else none
noncomputable def aO1(x:Str):List Expr->Option ME
 |[]=>aw0 c x
 |e::es=>av9 r c x e es
noncomputable def av8(o:Expr)(m:Str)(apos pos:Pos)(args:List Expr):Option ME :=
 if ak2 o && (apos.endLine == pos.line) && decide (args.length < 20) then (r.e c o).bind fun mo=>(F1 r c args).bind fun ms=>if m="index" then none else if args.isEmpty && (ae3.lookup m).isSome then (ae3.lookup m).map fun p=>.meth p mo ms else (match ay6.lookup m with
  |some p=>if args.isEmpty then none else some (.meth p mo ms)
  | none=>none) else none
noncomputable def aH9(f:Expr)(args:List Expr)(kws:List Keyword)(pos:Pos):Option ME:=if kws.isEmpty then(match f with
 |.Name x _=>aO1 r c x args
 |.Attribute o m apos=>av8 r c o m apos pos args
 | _=>none) else none
noncomputable def al8(tg e:Expr):Option ME:=(((ap8 e).bind fun q =>
  if q.1="enumerate" then (match q.2 with
   |[a]=>if c.gl "enumerate"&&c.blt.contains "enumerate"&&okE a&&a78 tg then(r.e c a).map .itN else none
   | _=>none)
  else if q.1="reversed" then (match q.2 with
   |[a]=>if c.gl "reversed"&&c.blt.contains "reversed"&&okE a then(r.e c a).map .itV else none
   | _=>none)
  else if q.1="range" then (match q.2 with
   |[a]=>if c.gl "range"&&c.blt.contains "range"&&okE a then(r.e c a).map .itR1 else none
   |[a,b]=>if c.gl "range"&&c.blt.contains "range"&&okE a&&okE b then(r.e c a).bind fun ma=>(r.e c b).map fun mb=>.itR2 ma mb else none
   | _=>none)
  else none):Option ME).orElse fun _=>if okE e then (r.e c e).map .itE else none
noncomputable def W5(elt:Expr)(gens:List Comprehension)(sc:Scope):Option ME:=match gens with
 |[⟨tg,it,ifs,isa⟩]=>if c.an4 sc&&decide (isa=0)&&okE it then((c.inner sc).tg tg).bind fun t=>(al8 r c tg it).bind fun mi=>(aV3 r (c.inner sc) ifs).bind fun mc=>(r.e (c.inner sc) elt).map fun me=>.comp (c.d5 sc) (frees sc++locals sc).length t mi mc me else none
 |_=>none
noncomputable def bK7:Expr->Option Str
 |.Name x _=>some x
 |_=>none
noncomputable def bK6:Expr->Option (Expr×List Comprehension×Scope)
 |.SetComp elt gens sc _=>some (elt,gens,sc)
 |_=>none
noncomputable def bE1:ME->Option ME
 |.comp a n t i k e=>some (.scomp a n t i k e)
 |_=>none
noncomputable def xSC(f:Expr)(args:List Expr)(kws:List Keyword):Option ME:=match args with
 |[a]=>if kws.isEmpty&&decide (bK7 f=some "sorted")&&c.gl "sorted"&&c.blt.contains "sorted" then(bK6 a).bind fun q=>(W5 r c q.1 q.2.1 q.2.2).bind bE1 else none
 |_=>none
noncomputable def xSU(f:Expr)(args:List Expr)(kws:List Keyword):Option ME:=(fun(_:f9)=>none) c
noncomputable def aW8(es:List Expr)(k:Nat):Option ME:=if c.fnb&&decide (k=0) then(match es with
 |[.Constant (.int i) _ _]=>some (.prim (.sdisp i) .nil)
 | _=>none) else none
noncomputable def a57:Expr->Option ME
 |.Name x _=>aH8 c x
 |.Constant k _ _=>(Z8 k).map .lit
 |.BinOp a op b _=>c2 r c (.bin op) a b
 |.UnaryOp op a _=>xUn r c op a
 |.Compare a ops bs _=>av7 r c a ops bs
 |.BoolOp op vs _=>av3 r c op vs
 |.IfExp t a b _=>(r.t c t).bind fun mt=>(r.e c a).bind fun ma=>(r.e c b).map fun mb=>.ite mt ma mb
 |.Tuple es _ _=>(F1 r c es).map (.prim .tup)
 |.List es _=>(F1 r c es).map (.prim .lst)
 |.Subscript a b _=>aW7 r c a b
 |.Dict ks vs _=>if ks.isEmpty&&vs.isEmpty then some (.prim .Z3 .nil) else if decide (ks.length<=15) then(am0 r c ks vs).map .dct else none
 |.JoinedStr vs _=>if decide (2<=vs.length)&&decide (vs.length<=40) then(af5 r c vs).map (.prim .fstr) else none
 |.Attribute o f _=>if ak2 o then c1 r c (.fld f) o else none
 |.Call f args kws pos=>(xSC r c f args kws).orElse fun _=>(xSU c f args kws).orElse fun _=>aH9 r c f args kws pos
 |.ListComp elt gens sc _=>W5 r c elt gens sc
 |.Set es k _=>aW8 c es k
 |_=>none
noncomputable def stepT:Expr->Option ME
 |.UnaryOp op a _=>if op=.Not then(r.t c a).map .not_ else none
 |.BoolOp op vs _=>av2 r c op vs
 |.Compare a ops bs _=>(av7 r c a ops bs).map .tst
 |e=>if ab5 e then(r.e c e).map .tst else none
noncomputable def f9.au6:List Expr->Expr->Bool
 |[.Name x px,.Name y py],.Tuple [a,b] _ _=>decide (c.nm.lookup x=some .local)&&decide (c.nm.lookup y=some .local)&&decide (x≠y)&&decide (py.line=px.line)&&okE a&&okE b&&!([a,b].all (foldedForSure 8))&&!([a,b].all (constantsAlone 8))
 |_,_=>false
noncomputable def a73:Expr->Option ME
 |.Constant k _ _=>(Z8 k).map .lit
 |_=>none
noncomputable def al7:List Expr->Option ME
 |[]=>some .nil
 |e::es=>(a73 e).bind fun m=>(al7 es).map fun ms=>.cons m ms
noncomputable def a74:Expr->Option ME
 |.List es _=>(al7 es).map (.prim .lst)
 |.Constant k _ _=>(Z8 k).map .lit
 |_=>none
noncomputable def aB9:ExceptHandler->Option (Str×Expr)
 |.ExceptHandler (some (.Name y _)) none [.Return (some e) _] _=>some (y,e)
 |_=>none
noncomputable def al9:List ExceptHandler->Option (List (Str×ME))
 |[]=>some []
 |h::hs=>(aB9 h).bind fun q=>if c.exc.contains q.1&&c.gl q.1&&X8 q.1 then(a74 q.2).bind fun m=>(al9 hs).map fun ms=>(q.1,m)::ms else none
noncomputable def ap7:Option Expr->Option Expr->Option (Str×Expr×List Expr)
 |some (.Call (.Name x _) (e::es) [] _),none=>some (x,e,es)
 |_,_=>none
noncomputable def f9.ao7(f:Str):List Str:=(c.fls.filter fun y=>decide (y.1=f)).map (·.2)
noncomputable def aB8:List Expr->Option (Expr×Expr×Expr×Expr)
 |_=>none
noncomputable def bl7(tg e:Expr):Option MS:=match tg with
 |.Name x _=>if c.w6 x then(c.idx x).bind fun i=>(r.e c e).map fun m=>.set i m else none
 |.Tuple es _ _=>(aB8 es).elim (if(ae1 e&&u7 e)||c.au6 es e then(c.slots es).bind fun is=>(r.e c e).map fun m=>.unp (.many is) m else none) fun q=>if u7 e&&okE q.2.1&&okE q.2.2.2 then(r.e c q.1).bind fun m1=>(r.e c q.2.1).bind fun n1=>(r.e c q.2.2.1).bind fun m2=>(r.e c q.2.2.2).bind fun n2=>(r.e c e).map fun m=>.swp m1 n1 m2 n2 m else none
 |.Subscript o i _=>if okE i&&u7 e then(r.e c o).bind fun mo=>(r.e c i).bind fun mi=>(r.e c e).map fun m=>.setix mo mi m else none
 |.Attribute o f _=>if u7 e then(r.e c o).bind fun mo=>(r.e c e).map fun m=>.setf f (c.ao7 f) mo m else none
 |_=>none
noncomputable def a77:Operator->Option Pr
 |.Add=>some .iadd
 |.Sub=>some .isub
 |_=>none
noncomputable def toR(e:Expr)(m:ME):ME:=(fun(_:f9)=>m) c
noncomputable def a56:Stmt->Option MS
 |.Expr e _=>if u7 e then(r.e c e).map .expr else none
 | .Assign tgs e _=>(match tgs with
  |[tg]=>bl7 r c tg e
  | _=>none)
 | .AugAssign tg op e _=>(match tg with
  |.Attribute o f _=>if decide (op=.Add) then(r.e c o).bind fun mo=>(r.e c e).map fun m=>.augf f (c.ao7 f) mo m else none
  |.Name x _=>if c.w6 x then(a77 op).bind fun p=>(c.idx x).bind fun i=>(r.e c e).map fun m=>.augl i p m else none
  | _=>none)
 |.If t a b _=>(r.t c t).bind fun mt=>(t8 r c a).bind fun ma=>(t8 r c b).map fun mb=>.ifs mt ma mb
 |.For tg it body els _=>if c.fnb&&(els.isEmpty&&okE it) then(c.tg tg).bind fun t=>(al8 r c tg it).bind fun mi=>(t8 r c body).map fun mb=>.for_ t mi mb else none
 |.While t body els _=>if c.fnb&&els.isEmpty then(r.t c t).bind fun mt=>(t8 r c body).map fun mb=>.whil mt mb else none
 | .Return e _=>(match e with
  |some e=>(r.e c e).map fun m=>.ret (toR c e m)
  | none=>some .retn)
 |.Pass _=>some .pass
 |.Raise e f _=>(ap7 e f).bind fun q=>if c.rais&&c.exc.contains q.1&&c.gl q.1&&X8 q.1 then(F1 r c (q.2.1::q.2.2)).map (.raise q.1) else none
 |.Try body hs el fi _=>if c.tryb&&!hs.isEmpty&&el.isEmpty&&fi.isEmpty then(t8 r { c with rais:=false,tryb:=false } body).bind fun mb=>(al9 c hs).map fun ms=>.W8 mb ms else none
 |_=>none
end
noncomputable def comp:Nat->CF
 |0=>⟨fun _ _=>none,fun _ _=>none,fun _ _=>none⟩
 |n+1=>⟨a57 (comp n),stepT (comp n),a56 (comp n)⟩
end M

namespace M
open PySem L2 PySem.Spec PyProof.Rows
structure COk(X:Cx)(c:f9)(P:Sig)(Ξ:XKE):Prop where
 N:X.N=c.N
 nd:c.N.Nodup
 loc:∀x,c.nm.lookup x=some .local->X.env.scope.names.lookup x=some .local
 cel:∀x,c.nm.lookup x=some .cell->X.env.scope.names.lookup x=some .cell
 fre:∀x,c.nm.lookup x=some .free->X.env.scope.names.lookup x=some .cell\/X.env.scope.names.lookup x=some .free
 glo:∀x,c.nm.lookup x=some .globalImplicit->X.env.scope.names.lookup x=some .globalImplicit
 cells:∀x,(c.nm.lookup x=some .cell\/c.nm.lookup x=some .free)->∃a,X.env.cells.lookup x=some a
 fnb:∀x,c.nm.lookup x=some .cell->X.fn x=true
 calm:X.calm=true
 units:X.A.units+100<cLine
 own:c.fnb=true->PassesOwn (model X.prog X.w) X.A X.env X.xe
 mono:i4 P
 con:∀x d,c.con.lookup x=some d->∃v u,X.mg x=some u/\RelV v u/\∀ρ H,d8 X.K ρ H d v
 blt:∀x,c.blt.contains x=true->X.mg x=none
 fns:∀x f,c.fns.lookup x=some f->∃k fa fd ps,FnR X P Ξ.1 k f fa fd ps/\u9 k X.A/\X.mg x=some (.ref fa)/\PySem.W.keepIn X.K (.ref fa)=true
 cls:∀x f,c.cls.lookup x=some f->∃k C fa fd ps,FnR X P Ξ.1 k f fa fd ps/\u9 (k+1) X.A/\X.mg x=some (.ref C)/\p0 X.K x C/\Cls X.K C/\Mk X.K C fa
 mts:∀m y f C,(m,y,f)∈c.mts->p0 X.K y C->∃k fa fd ps,Meth X.K C m fa/\FnR X P Ξ.1 k f fa fd ps/\u9 k X.A
 fls:∀f y C,(f,y)∈c.fls->p0 X.K y C->w5 X.K C f
 exq:Ξ.1=c.exc
 pass:Passes (CXE X.prog X.w) X Ξ.2
 rais:c.rais=true->af7 X Ξ.2
 tryb:c.tryb=true->X.stack=X.env::X.outer/\X.env.frame=some X.env.locals/\ad3 X Ξ.2
 exc:∀x,c.exc.contains x=true->∃C,X.mg x=some (.ref C)/\p0 X.K x C/\∃B newId initId bm,OwnCls x C bm newId X.mg X.base/\ExcBaseFacts B newId initId bm
 exm:∀x y C C',c.exc.contains x=true->c.exc.contains y=true->p0 X.K x C->p0 X.K y C'->PySem.W.exmOne X.K (.ref C) (.ref C')=some (decide (x=y\/y="MintError"))
 gdc:∀x kvs,c.gd.lookup x=some kvs->av6 X x kvs
 code:c.fnb=true->PySem.W.kdsCode X.K X.env.code=true
section
variable{X:Cx}{c:f9}{P:Sig}{Ξ:XKE}
theorem bf5{c:f9}{x:Str}{i:Nat}(h:c.idx x=some i):c.N[i]?=some x:=by
 unfold f9.idx at h;rw[List.findIdx?_eq_some_iff_getElem] at h;obtain⟨h1,h2,_⟩:=h;rw[List.getElem?_eq_getElem h1,of_decide_eq_true h2]
theorem COk.bu9(C:COk X c P Ξ){x:Str}(h:c.vis x=true):Vis X.env.scope x:=by
 unfold f9.vis at h;split at h
 ·rename_i e;exact .inl (C.loc x e)
 ·rename_i e;exact .inr (.inl (C.cel x e))
 ·rename_i e;rcases C.fre x e with z|z
  ·exact .inr (.inl z)
  ·exact .inr (.inr z)
 ·cases h
theorem COk.w9(C:COk X c P Ξ){x:Str}(h:c.gl x=true):Gl X x:=C.glo x (of_decide_eq_true h)
theorem COk.w6(C:COk X c P Ξ){x:Str}(h:c.w6 x=true):Loc X.env.scope x/\(X.fn x=true\/X.env.scope.names.lookup x=some .local):=by
 unfold f9.w6 at h;rw[Bool.or_eq_true] at h;rcases h with h|h
 ·have:=C.loc x (of_decide_eq_true h);exact⟨.inl this,.inr this⟩
 ·exact⟨.inr (C.cel x (of_decide_eq_true h)),.inl (C.fnb x (of_decide_eq_true h))⟩
theorem COk.ai2(C:COk X c P Ξ){x:Str}{i:Nat}(h:c.idx x=some i):X.N[i]?=some x:=by rw[C.N];exact bf5 h
theorem COk.ndN(C:COk X c P Ξ):X.N.Nodup:=by rw[C.N];exact C.nd
theorem am6{e:Expr}{x:Str}(h:asName e=some x):∃p,e=.Name x p:=by
 cases e<;>first|(cases h;exact⟨_,rfl⟩)|cases h
theorem ax5{e:Expr}{i:Nat}(h:c.slot e=some i):∃x p,e=.Name x p/\c.w6 x=true/\c.idx x=some i:=by
 unfold f9.slot at h;obtain⟨x,hx,h2⟩:=Option.bind_eq_some_iff.mp h;obtain⟨p,rfl⟩:=am6 hx;split at h2
 ·exact⟨x,p,rfl,by assumption,h2⟩
 ·cases h2
theorem COk.slots(C:COk X c P Ξ):∀{es:List Expr} {is:List Nat},c.slots es=some is->SlotsOk X es is:=by
 intro es
 induction es with
 |nil=>intro is h;cases h;exact .nil
 |cons e r ih =>
  intro is h;unfold f9.slots at h;obtain⟨i,hi,h⟩:=Option.bind_eq_some_iff.mp h;obtain⟨is',hs,rfl⟩:=Option.map_eq_some_iff.mp h;obtain⟨x,p,rfl,hl,hx⟩:=ax5 hi;exact .cons (C.ai2 hx) (C.w6 hl).1 (C.w6 hl).2 (ih hs)
theorem orElse_some{α:Type}{a:Option α}{b:Unit->Option α}{m:α}(h:a.orElse b=some m):a=some m\/b ()=some m:=by
 cases a with
 |none=>exact .inr h
 |some x=>exact .inl h
theorem COk.bh9(C:COk X c P Ξ){tg:Expr}{t:MT}(h:c.tg tg=some t):PG X tg (LG X.K t):=by
 unfold f9.tg at h;rcases orElse_some h with h|h
 ·obtain⟨i,hi,rfl⟩:=Option.map_eq_some_iff.mp h;obtain⟨x,p,rfl,hl,hx⟩:=ax5 hi;exact bk2 C.ndN (C.ai2 hx) (C.w6 hl).1 (C.w6 hl).2
 ·cases tg<;>first|(cases h;done)|skip
  obtain⟨is,hs,rfl⟩:=Option.map_eq_some_iff.mp (show(c.slots _).map MT.many=some t from h);exact aE9 C.calm C.ndN (C.slots hs)
theorem k9{e:Expr}{es:List Expr}{env:Env}(h:okE e=true):starEach (e::es) env=(false,eval e env)::starEach es env:=by
 cases e<;>first|rfl|cases h
theorem X6{e:Expr}{env:Env}(h:okE e=true):∀x,foldedSetIterable e env x=pure x:=by
 intro x;cases e<;>first|rfl|cases h
theorem aS4{e:Expr}(h:okE e=true):aq1 e:=by
 intro o i;cases e<;>first|rfl|cases h
theorem be0{o i:Expr}{tp:Pos}{env:Env}(h:okE i=true):∀v,assign (.Subscript o i tp) env v=(do
      let ov <- holding [v] (eval o env)
      let iv <- holding [v,ov] (eval i env)
      standAt tp
      holding [v,ov,iv] (setItem ov iv v)
      release [v,ov,iv] []):=by
  intro v;cases i<;>first|rfl|cases h
theorem R6{e:Expr}{t:Option Expr}{n:Nat}{env:Env}(h:u7 e=true):swapsWith e t n env=pure false:=by
 cases e<;>first|rfl|cases h
theorem a17{e:Expr}{es:List Expr}{k:Nat}{p:Pos}{env:Env}(h:ae1 e=true):swappedStores [.Tuple es k p] e env=pure none:=by
 cases e<;>first|rfl|cases h
theorem aR2{e:Expr}{env:Env}(h:ab5 e=true):∀whole,isTrue e env whole=(do let v <- whole;standAt e.pos;holding [v] (truthy v)):=by
 intro w;cases e<;>first|rfl|cases h
theorem ah0{e:Expr}{q:Str×List Expr}(h:ap8 e=some q):∃p pos,e=.Call (.Name q.1 p) q.2 [] pos:=by
 cases e<;>first|(cases h;done)|skip
 rename_i f as kws pos;cases f<;>first|(cases h;done)|skip
 cases kws<;>first|(cases h;done)|skip
 cases h;exact⟨_,_,rfl⟩
theorem aW4{e:Expr}(h:a78 e=true):∃es k p,e=.Tuple es k p:=by
 cases e<;>first|exact⟨_,_,_,rfl⟩|cases h
theorem aA2{b:Expr}{kvs:List D}(h:c.aM1 b=some kvs):∃x p,b=.Name x p/\c.gl x=true/\X8 x=true/\c.gd.lookup x=some kvs:=by
 unfold f9.aM1 at h;obtain⟨x,hx,h2⟩:=Option.bind_eq_some_iff.mp h;obtain⟨p,rfl⟩:=am6 hx;split at h2
 ·rename_i hc;rw[Bool.and_eq_true] at hc;exact⟨x,p,rfl,hc.1,hc.2,h2⟩
 ·cases h2
theorem O9{o:Expr}{f:Str}{env:Env}(h:ak2 o=true):attributeBase o f env (eval o env)=eval o env:=by
 cases o<;>first|rfl|skip
 rename_i f as kws pos;cases f<;>first|rfl|cases h
theorem ap1{env:Env}:∀(names:List (Str×NameKind)) (acc:List (Str×Addr)),(∀y∈names,y.2=.free->∃a,env.cells.lookup y.1=some a)->(∀x a,acc.lookup x=some a->env.cells.lookup x=some a) ->
  ∃ cl,(forIn names acc fun (y:Str × NameKind) (cs:List (Str × Addr))=>(match y with
   |(name,kind)=>if(kind==NameKind.free)=true then do
     let __do_lift <- cellOf env name
     pure (ForInStep.yield ((name,__do_lift)::cs))
    else pure (ForInStep.yield cs):Sem (ForInStep (List (Str × Addr)))))=pure cl/\(∀ x a,cl.lookup x=some a->env.cells.lookup x=some a)/\(∀ y ∈ names,y.2=.free->∃ a,cl.lookup y.1=some a)/\∀ x a,acc.lookup x=some a->∃ a',cl.lookup x=some a'
 |[],acc,_,h2=>⟨acc,rfl,h2,fun y hy=>absurd hy (by simp),fun x a h=>⟨a,h⟩⟩
 |(n,k)::r,acc,h1,h2=>by
  rw[List.forIn_cons];by_cases hk:k=.free
  ·subst hk;obtain⟨a,ha⟩:=h1 (n,.free) (by simp) rfl;have hc:cellOf env n=pure a:=by unfold cellOf;rw[ha]
   obtain ⟨cl,e,q1,q2,q3⟩:=ap1 r ((n,a) :: acc) (fun y hy=>h1 y (by simp [hy])) (fun x b hb=>by
    rw[List.lookup_cons] at hb;cases hx:x==n with
    |true=>rw[hx] at hb;cases hb;rw[eq_of_beq hx];exact ha
    | false=>rw [hx] at hb;exact h2 x b hb)
   refine⟨cl,?_,q1,fun y hy hf=>?_,fun x b hb=>?_⟩
   ·simp only[beq_self_eq_true,if_true,hc];exact e
   ·rcases List.mem_cons.mp hy with z|z
    ·subst z;exact q3 n a (by simp[List.lookup_cons])
    ·exact q2 y z hf
   ·cases hx:x==n with
    |true=>exact q3 x a (by rw[List.lookup_cons,hx])
    |false=>exact q3 x b (by rw[List.lookup_cons,hx];exact hb)
  ·have hb:(k==NameKind.free)=false:=by simpa using hk
   obtain⟨cl,e,q1,q2,q3⟩:=ap1 r acc (fun y hy=>h1 y (by simp[hy])) h2;refine⟨cl,?_,q1,fun y hy hf=>?_,q3⟩
   ·simp only[hb,Bool.false_eq_true,if_false];exact e
   ·rcases List.mem_cons.mp hy with z|z
    ·subst z;exact absurd hf hk
    ·exact q2 y z hf
end
end M

namespace M
open PySem L2 PySem.Spec PyProof.Rows
theorem aR9{P:Program}{w:World}{X:Cx}:Passes (CXE P w) X (fun _ _ _=>False):=fun _ _ _ _ _ _ _ h=>by
 obtain⟨_,_,_,_,_,_,_,z⟩:=h;exact z.elim
theorem N4{env:Env}:∀{names:List (Str×NameKind)} {x:Str},names.lookup x=some .globalImplicit ->
  (names.map fun(n,k)=>if(k==NameKind.free&&env.scope.kind==.function&&env.kindOf n==some .cell) then(n,NameKind.cell) else(n,k)).lookup x=some .globalImplicit
 |[],_,h=>by simp at h
 |(n,k)::r,x,h=>by
  have ih:=@N4 env r x;show List.lookup x ((if(k==NameKind.free&&env.scope.kind==.function&&env.kindOf n==some .cell)=true then(n,NameKind.cell) else(n,k))::_)=_;cases hx:x==n with
  |true =>
   simp only[List.lookup_cons,hx] at h;cases h;simp[List.lookup_cons,hx]
  |false =>
   simp only[List.lookup_cons,hx] at h;by_cases hc:(k==NameKind.free&&env.scope.kind==.function&&env.kindOf n==some .cell)=true
   ·rw[if_pos hc];simp only[List.lookup_cons,hx];exact ih h
   ·rw[if_neg hc];simp only[List.lookup_cons,hx];exact ih h
section
variable{X:Cx}{c:f9}{P:Sig}{Ξ:XKE}
theorem COk.comp(C:COk X c P Ξ){sc:Scope}(h:c.an4 sc=true):∃cl,CompScope X sc (frees sc++locals sc) (c.d5 sc) cl/\∀pins A s H fp,COk (d7 X pins sc (frees sc++locals sc) cl A s H fp) (c.inner sc) P (XK0 Ξ.1):=by
 unfold f9.an4 at h;simp only[Bool.and_eq_true,decide_eq_true_eq,List.all_eq_true] at h;obtain⟨⟨⟨⟨h1,h2⟩,h3⟩,h4⟩,h5⟩:=h;have hfree:∀x,sc.names.lookup x=some .free->x∈frees sc:=fun x hx=>by
  unfold frees;exact List.mem_map.mpr ⟨(x,.free),List.mem_filter.mpr ⟨PySem.mem_of_lookup hx,by simp⟩,rfl⟩
 have fr:∀x∈frees sc,(∃i,c.idx x=some i)/\sc.names.lookup x=some .free/\(c.nm.lookup x=some .cell\/c.nm.lookup x=some .free):=fun x hx=>by
  have:=h5 x hx;rw[Option.isSome_iff_exists,Bool.or_eq_true] at this;simp only[decide_eq_true_eq] at this;exact⟨this.1.1,this.1.2,this.2⟩
 have cellOk:∀y∈sc.names,y.2=.free->∃a,X.env.cells.lookup y.1=some a:=fun y hy hf=>by
  have hm:y.1∈frees sc:=List.mem_map.mpr ⟨y,List.mem_filter.mpr ⟨hy,by simp[hf]⟩,rfl⟩;exact C.cells y.1 (fr y.1 hm).2.2
 obtain⟨cl,e,q1,q2,_⟩:=ap1 sc.names [] cellOk (fun x a h=>by simp at h);have h2:∀y∈sc.names,y.2=.cell->sc.names.lookup y.1=some .cell:=fun y hy hl=>by
  have:=h2 y hy;rw[Bool.or_eq_true] at this;simp only[Bool.not_eq_true',decide_eq_false_iff_not,decide_eq_true_eq] at this;exact this.resolve_left fun z=>z hl
 refine⟨cl,⟨h1,h2,fun y hy hl=>?_,?_,q1,fun x hx=>q2 (x,.free) (PySem.mem_of_lookup hx) rfl,h4,fun i j hij=>?_,?_⟩,fun pins A s H fp=>?_⟩
 ·have:=h3 y hy;rw[Bool.or_eq_true] at this;simp only[Bool.not_eq_true',decide_eq_false_iff_not,decide_eq_true_eq] at this;exact this.resolve_left fun z=>z hl
 ·simp only[closureFor];rw[e]
  rfl
 ·unfold f9.d5 at hij;rw[List.getElem?_map] at hij;cases ex:(frees sc)[i]? with
  |none=>rw[ex] at hij;cases hij
  |some x =>
   rw[ex] at hij;have hx:x∈frees sc:=List.mem_of_getElem? ex;obtain⟨⟨k,hk⟩,hl,hc⟩:=fr x hx;have hj:k=j:=by
    have:=Option.some.inj hij;dsimp only at this;rw[hk] at this;exact this
   subst hj;refine⟨x,?_,C.ai2 hk,hl,?_⟩
   ·rw[List.getElem?_append_left (List.getElem?_eq_some_iff.mp ex).1];exact ex
   ·rcases hc with z|z
    ·exact .inl (C.cel x z)
    ·exact C.fre x z
 ·unfold f9.d5;rw[List.length_map,List.length_append];omega
 ·refine⟨rfl,h4,fun x hx=>lookup_relabel_local hx,fun x hx=>?_,fun x hx=>C5 hx,fun x hx=>N4 hx,fun x hx=>?_,fun x _=>?_,rfl,C.units,(fun _=>PassesOwn.never),C.mono,C.con,C.blt,C.fns,C.cls,C.mts,C.fls,C.exq,aR9,(fun z=>by cases z),(fun z=>by cases z),C.exc,C.exm,C.gdc,(fun z=>by cases z)⟩
  ·exact K7 hx
  ·rcases hx with hx|hx
   ·exact as3 (.inl hx)
   ·exact as3 (.inr (q2 (x,.free) (PySem.mem_of_lookup hx) rfl))
  ·exact decide_eq_true ‹_›
theorem J5{x:Str}(h:X8 x=true):(x==("__debug__":Str))=false/\(x==("__classdict__":Str))=false/\x≠"__name__":=by
 unfold X8 at h;simp only[Bool.and_eq_true,decide_eq_true_eq,beq_iff_eq] at h;exact⟨h.1.1,h.1.2,h.2⟩
theorem aX3{x:Str}{t:String}(h:aI4.lookup x=some t):bootBuiltins x=some (.type t):=by
 have hm:=PySem.mem_of_lookup h;simp only[aI4,List.mem_cons,List.mem_nil_iff,or_false] at hm;rcases hm with z|z|z|z|z<;>(cases z;first|exact PyProof.Rows.boot_int|exact PyProof.Rows.boot_bool|exact PyProof.Rows.boot_str|exact PyProof.Rows.boot_tuple|exact PyProof.Rows.boot_list|decide +kernel|rfl)
theorem aW2{x:Str}{p:Pr}(hc:X.calm=true)(h:aB6.lookup x=some p):∃v,((∃id,v=.builtin id)\/∃T,v=.type T)/\bootBuiltins x=some v/\l9 X v (rN X.K p):=by
 have hm:=PySem.mem_of_lookup h;simp only[aB6,List.mem_cons,List.mem_nil_iff,or_false] at hm;rcases hm with z|z|z|z|z|z|z|z|z
 ·cases z;exact⟨.builtin "len",.inl ⟨_,rfl⟩,PySem.boot_len,bq9⟩
 ·cases z;exact⟨.type "list",.inr ⟨_,rfl⟩,by first|exact PyProof.Rows.boot_list|decide +kernel,be7⟩
 ·cases z;exact⟨.type "tuple",.inr ⟨_,rfl⟩,by first|exact PyProof.Rows.boot_tuple|decide +kernel,aX6⟩
 ·cases z;exact⟨.builtin "isinstance",.inl ⟨_,rfl⟩,by first|exact PyProof.Rows.boot_isinstance|decide +kernel,bf1⟩
 ·cases z;exact⟨.builtin "all",.inl ⟨_,rfl⟩,by first|exact PyProof.Rows.boot_all|decide +kernel,bu1 hc⟩
 ·cases z;exact⟨.builtin "max",.inl ⟨_,rfl⟩,by first|exact PyProof.Rows.boot_max|decide +kernel,bq3 hc⟩
 ·cases z;exact⟨.builtin "min",.inl ⟨_,rfl⟩,by first|exact PyProof.Rows.boot_min|decide +kernel,bq2 hc⟩
 ·cases z;exact⟨.type "int",.inr ⟨_,rfl⟩,by first|exact PyProof.Rows.boot_int|decide +kernel,bs1⟩
 ·cases z;exact⟨.builtin "sum",.inl ⟨_,rfl⟩,by first|exact PyProof.Rows.boot_sum|decide +kernel,bj1 hc⟩
theorem aL0{x:Str}{p:Pr}(h:ae3.lookup x=some p):∃T id,PlainAttrs T/\Slot T x id/\typeOf (.builtin id)=pure (.type "method_descriptor")/\MtR X id (rM X.K p) /\
  ∀{d:D} {v:V} {g:G} {ρ:List Addr} {H:Hp},Rl X.K ρ g H->d8 X.K ρ H d v->mkP p d g->tyV X.K T v H:=by
 cases h
theorem aT0{x:Str}{p:Pr}(hu:X.A.units+100<cLine)(h:ay6.lookup x=some p):∃T id,PlainAttrs T/\Slot T x id/\typeOf (.builtin id)=pure (.type "method_descriptor")/\MtR X id (rM X.K p) /\
  ∀{d:D} {v:V} {g:G} {ρ:List Addr} {H:Hp},Rl X.K ρ g H->d8 X.K ρ H d v->mkP p d g->tyV X.K T v H:=by
 have hm:=PySem.mem_of_lookup h;simp only[ay6,List.mem_cons,List.mem_nil_iff,or_false] at hm;rcases hm with z|z|z|z
 ·cases z;exact⟨_,_,PySem.F.plainAttrs_list,PySem.F.slot_list_append,PySem.F.type_list_append,aW6,fun R r h=>ty_list R r h⟩
 ·cases z;exact⟨_,_,PySem.F.plainAttrs_list,PySem.F.slot_list_pop,PySem.F.type_list_pop,a05,fun R r h=>ty_list R r h⟩
 ·cases z;exact⟨_,_,PySem.F.plainAttrs_dict,PySem.F.slot_dict_get,PySem.F.type_dict_get,bs7 hu,fun R r h=>ty_dict R r h⟩
 ·cases z;exact⟨_,_,PySem.F.plainAttrs_set,PySem.F.slot_set_add,PySem.F.type_set_add,bb4,fun R r h=>ty_set R r h⟩
theorem ax3{pos:Pos}{env:Env}:∀{es:List Expr},(∀e∈es,okE e=true)->(backTo pos (starEach es env)).all (fun x=>!x.1)=true
 |[],_=>rfl
 |e::es,h=>by
  rw[k9 (h e (by simp))];have ih:=ax3 (pos:=pos) (env:=env) (es:=es) fun x hx=>h x (by simp[hx]);unfold backTo at ih ⊢;rw[List.map_cons,List.all_cons,ih]
  rfl
theorem X0{pos:Pos}{env:Env}:∀{es:List Expr},(∀e∈es,okE e=true)->(backTo pos (starEach es env)).any (·.1)=false
 |[],_=>rfl
 |e::es,h=>by
  rw[k9 (h e (by simp))];have ih:=X0 (pos:=pos) (env:=env) (es:=es) fun x hx=>h x (by simp[hx]);unfold backTo at ih ⊢;rw[List.map_cons,List.any_cons,ih]
  rfl
theorem ai3{r:CF}:∀{es:List Expr} {m:ME},F1 r c es=some m->∀e∈es,okE e=true:=by
 intro es
 induction es with
 |nil=>intro m _ e he;exact absurd he (by simp)
 |cons a es ih =>
  intro m h e he;unfold F1 at h;split at h
  ·obtain⟨m1,h1,h⟩:=Option.bind_eq_some_iff.mp h;obtain⟨m2,h2,_⟩:=Option.map_eq_some_iff.mp h;rcases List.mem_cons.mp he with z|z
   ·rw[z];assumption
   ·exact ih h2 e z
  ·cases h
end
theorem aN1{a:Expr}{x:Str}(h:aW5 a=some x):∃j p,a=.Constant (.str x) j p:=by
 cases a with
 |Constant k j p=>cases k with
  |str y=>cases h;exact⟨_,_,rfl⟩
  |_=>cases h
 |_=>cases h
theorem a45{a e:Expr}(h:bt9 a=some e):∃p,a=.FormattedValue e (-1) none p:=by
 cases a with
 |FormattedValue v k f p=>cases f with
  |none =>
   have h2:(if k=-1 then some v else none)=some e:=h;split at h2
   ·rename_i hk;cases h2;rw[hk];exact⟨_,rfl⟩
   ·cases h2
  |some _=>cases h
 |_=>cases h
structure Snd(P:Sig)(r:CF):Prop where
 e:∀X c Ξ,COk X c P Ξ->∀e m,r.e c e=some m->PE X e (LE X.K Ξ (wpE P m))
 t:∀X c Ξ,COk X c P Ξ->∀e m,r.t c e=some m->PT X e (LT X.K Ξ (wpT P m))
 s:∀X c Ξ,COk X c P Ξ->∀st m,r.s c st=some m->PS X st (LS X.K Ξ (wpS P m))
section
variable{X:Cx}{c:f9}{P:Sig}{Ξ:XKE}{r:CF}(S:Snd P r)(C:COk X c P Ξ){a b d e:Expr}{m:ME}{pos:Pos}
include S C
theorem W0{p:Pr}(h:c1 r c p a=some m):∃ma,PE X a (LE X.K Ξ (wpE P ma))/\m=.prim p (.cons ma .nil):=by
 obtain⟨ma,ha,rfl⟩:=Option.map_eq_some_iff.mp h;exact⟨ma,S.e X c Ξ C _ _ ha,rfl⟩
theorem V9{p:Pr}(h:c2 r c p a b=some m):∃ma mb,PE X a (LE X.K Ξ (wpE P ma))/\PE X b (LE X.K Ξ (wpE P mb))/\m=.prim p (.cons ma (.cons mb .nil)):=by
 obtain⟨ma,ha,h⟩:=Option.bind_eq_some_iff.mp h;obtain⟨mb,hb,rfl⟩:=Option.map_eq_some_iff.mp h;exact⟨ma,mb,S.e X c Ξ C _ _ ha,S.e X c Ξ C _ _ hb,rfl⟩
theorem n_A:∀{es:List Expr} {m:ME},F1 r c es=some m->PA X es (LA X.K Ξ (wpA P m)):=by
 intro es
 induction es with
 |nil=>intro m h;cases h;exact F4 C.mono
 |cons a es ih =>
  intro m h;unfold F1 at h;split at h
  ·rename_i hok;obtain⟨m1,h1,h⟩:=Option.bind_eq_some_iff.mp h;obtain⟨m2,h2,rfl⟩:=Option.map_eq_some_iff.mp h;exact A4 C.mono (S.e X c Ξ C _ _ h1) (ih h2) (k9 hok)
  ·cases h
theorem n_F:∀{es:List Expr} {m:ME},af5 r c es=some m->∃ts,FOk X Ξ P es m ts:=by
 intro es
 induction es with
 |nil=>intro m h;cases h;exact⟨_,.nil⟩
 |cons a es ih =>
  intro m h;unfold af5 at h;rcases orElse_some h with h1|h1
  ·obtain⟨x,hx,h2⟩:=Option.bind_eq_some_iff.mp h1;obtain⟨j,p,rfl⟩:=aN1 hx;split at h2
   ·obtain⟨m2,h3,rfl⟩:=Option.map_eq_some_iff.mp h2;obtain⟨ts,F⟩:=ih h3;exact⟨_,.lit (by assumption) F⟩
   ·cases h2
  ·obtain⟨x,hx,h2⟩:=Option.bind_eq_some_iff.mp h1;obtain⟨m1,h3,h4⟩:=Option.bind_eq_some_iff.mp h2;obtain⟨m2,h5,rfl⟩:=Option.map_eq_some_iff.mp h4;obtain⟨p,rfl⟩:=a45 hx;obtain⟨ts,F⟩:=ih h5;exact⟨_,.val (S.e X c Ξ C _ _ h3) F⟩
theorem n_D:∀{ks:List (Option Expr)} {vs:List Expr} {m:ME},am0 r c ks vs=some m->∃trs,DOk X Ξ P ks vs m trs:=by
 intro ks
 induction ks with
 |nil=>intro vs m h;cases vs<;>first|(cases h;exact⟨_,.nil⟩)|cases h
 |cons k ks ih =>
  intro vs m h;cases k<;>first|(cases h;done)|skip
  cases vs<;>first|(cases h;done)|skip
  unfold am0 at h;obtain⟨m1,h1,h⟩:=Option.bind_eq_some_iff.mp h;obtain⟨m2,h2,h⟩:=Option.bind_eq_some_iff.mp h;obtain⟨m3,h3,rfl⟩:=Option.map_eq_some_iff.mp h;obtain⟨trs,D⟩:=ih h3;exact⟨_,.cons (S.e X c Ξ C _ _ h1) (S.e X c Ξ C _ _ h2) D⟩
theorem n_B{op:BoolOp}:∀{vs:List Expr} {m:ME},av3 r c op vs=some m->PE X (.BoolOp op vs pos) (LE X.K Ξ (wpE P m)):=by
 intro vs
 induction vs with
 |nil=>intro m h;cases h
 |cons a vs ih =>
  intro m h;cases vs with
  |nil=>exact bn7 (S.e X c Ξ C _ _ h)
  |cons b vs =>
   unfold av3 at h;obtain⟨m1,h1,h⟩:=Option.bind_eq_some_iff.mp h;obtain⟨m2,h2,rfl⟩:=Option.map_eq_some_iff.mp h;cases op
   ·exact bl3 C.mono (S.e X c Ξ C _ _ h1) (ih h2)
   ·exact bx0 C.mono (S.e X c Ξ C _ _ h1) (ih h2)
theorem n_W{op:BoolOp}:∀{vs:List Expr} {m:ME},av2 r c op vs=some m->PW X (.BoolOp op vs pos) (LT X.K Ξ (wpT P m)):=by
 intro vs
 induction vs with
 |nil=>intro m h;cases h
 |cons a vs ih =>
  intro m h;cases vs with
  |nil =>
   cases op
   ·exact bb7 (S.t X c Ξ C _ _ h)
   ·exact bm2 (S.t X c Ξ C _ _ h)
  |cons b vs =>
   unfold av2 at h;obtain⟨m1,h1,h⟩:=Option.bind_eq_some_iff.mp h;obtain⟨m2,h2,rfl⟩:=Option.map_eq_some_iff.mp h;cases op
   ·exact bj0 C.mono (S.t X c Ξ C _ _ h1) (ih h2)
   ·exact bw7 C.mono (S.t X c Ξ C _ _ h1) (ih h2)
theorem bH8{es:List Expr}(h:aV3 r c es=some m):PTs X es (LT X.K Ξ (wpT P m)):=by
 rcases es with _|⟨e,_|⟨_,_⟩⟩
 ·cases h;exact a96 C.mono
 ·exact bb8 (S.t X c Ξ C _ _ h)
 ·cases h
theorem an7:∀{sts:List Stmt} {m:MS},t8 r c sts=some m->PSs X sts (LS X.K Ξ (wpS P m)):=by
 intro es
 induction es with
 |nil=>intro m h;cases h;exact aP7 C.mono
 |cons a es ih =>
  intro m h;unfold t8 at h;obtain⟨m1,h1,h⟩:=Option.bind_eq_some_iff.mp h;obtain⟨m2,h2,rfl⟩:=Option.map_eq_some_iff.mp h;exact aE8 C.mono (S.s X c Ξ C _ _ h1) (ih h2)
end
theorem ag3{e t:Expr}{n:Nat}{env:Env}(h:u7 e=true):swapsWithSole [t] e n env=pure false:=by
 show swapsWith e (some t) n env=pure false;exact R6 h
theorem aK1{x y:Str}{px py pt pt2:Pos}{kt k2:Nat}{a b:Expr}{env:Env}(hk:env.scope.kind=.function)(hx:env.kindOf x=some .local)(hy:env.kindOf y=some .local)(hne:x≠y)(hl:py.line=px.line)(ha:okE a=true)(hb:okE b=true)(h1:[a,b].all (foldedForSure 8)=false)(h2:[a,b].all (constantsAlone 8)=false):swappedStores [.Tuple [.Name x px,.Name y py] kt pt] (.Tuple [a,b] k2 pt2) env=pure (some [x,y]):=by
 have hbk:env.blockKind=.function:=by simp[Env.blockKind,hk,ScopeKind.isAnnotationScope]
 have hd:[x,y].eraseDups.length=2:=by
  have:(y==x)=false:=by simpa using Ne.symm hne
  simp[List.eraseDups_cons,this]
 have hx':(env.kindOf x==some NameKind.local&&px.line==px.line)=true:=by simp[hx]
 have hy':(env.kindOf y==some NameKind.local&&py.line==px.line)=true:=by simp[hy,hl]
 have hp:Expr.pos (.Name x px)=px:=rfl;unfold swappedStores;simp only[List.length_cons,List.length_nil,hbk,List.head?_cons,Option.map_some,Option.getD_some,hp,List.filterMap_cons,List.filterMap_nil,hx',hy',if_true,hd,h1,h2];rw[if_neg (by decide),if_neg ?_]
 ·rfl
 ·simp only[List.any_cons,List.any_nil,Bool.or_false,Bool.or_eq_true,not_or];constructor
  ·cases a<;>first|(intro h;cases h;done)|cases ha
  ·cases b<;>first|(intro h;cases h;done)|cases hb
theorem bi8{X:Cx}{Ξ:XKE}{P:Sig}(hP:i4 P){i j:Nat}{x y:Str}{a b:Expr}{px py pt pt2 pos:Pos}{kt k2:Nat}{mes:ME}(hc:X.calm=true)(hN:X.N.Nodup)(hi:X.N[i]?=some x)(hj:X.N[j]?=some y)(hne:x≠y)(hl:py.line=px.line)(hx:X.env.scope.names.lookup x=some .local)(hy:X.env.scope.names.lookup y=some .local)(oa:okE a=true)(ob:okE b=true)(h1:[a,b].all (foldedForSure 8)=false)(h2:[a,b].all (constantsAlone 8)=false)(ha:PA X [a,b] (LA X.K Ξ (wpA P mes))):PS X (.Assign [.Tuple [.Name x px,.Name y py] kt pt] (.Tuple [a,b] k2 pt2) pos) (LS X.K Ξ (wpS P (.unp (.many [i,j]) (.prim .tup mes)))):=by
 intro pins s σv H D I h;have hij:i≠j:=by
  rintro rfl;rw[hi] at hj;cases hj;exact hne rfl
 refine bm7 hc hN hi hj hij hx hy ha (aK1 I.ok.kind hx hy hne hl oa ob h1 h2) rfl pins s σv H D I ?_;obtain⟨σ,g,ρ,sr,R,h⟩:=h;refine thA hP sr R (.refl _ _) (show wpA P mes σ g (fun xs g1=>prP .tup xs g1 _) _ from h) fun ds g1 ρ1 H1 vs e1 R1 r1 h=>?_;obtain⟨d',g',⟨_,rfl,rfl⟩,l,σ',ex,hs,h⟩:=h;cases ex;have hl:=X3 hs;have e2:∃d1 d2,ds=[d1,d2]:=by
  rcases ds with _|⟨d1,_|⟨d2,_|⟨d3,r⟩⟩⟩<;>first|exact⟨_,_,rfl⟩|(simp at hl;done)|(simp at hl;omega)
 obtain⟨d1,d2,rfl⟩:=e2;obtain⟨v,w,rfl,q1,q2⟩:=r1.two;cases hs;exact⟨_,_,rfl,h ρ1 H1 _ e1 R1 (((sr.ext e1).set i q1).set j q2)⟩
theorem COk.W8{X:Cx}{c:f9}{Ξ:XKE}{P:Sig}(C:COk X c P Ξ)(hst:X.stack=X.env::X.outer)(hf:X.env.frame=some X.env.locals)(pins:List (Addr×Obj))(D:L2.Ends)(hs:List ExceptHandler) :
  COk (Q7 X pins (ad7 X pins D hs)) { c with rais:=false,tryb:=false } P (aH7 X Ξ.1 D hs) :=
 ⟨C.N,C.nd,C.loc,C.cel,C.fre,C.glo,C.cells,C.fnb,C.calm,C.units,(fun _=>PassesOwn.looking),C.mono,C.con,C.blt,C.fns,C.cls,C.mts,C.fls,C.exq,a13 hst hf fun C H' ⟨C',e,z⟩=>(by cases e;exact z),(fun z=>by cases z),(fun z=>by cases z),C.exc,C.exm,C.gdc,C.code⟩
end M

namespace M
open PySem L2 PySem.Spec PyProof.Rows
section
variable{X:Cx}{c:f9}{P:Sig}{Ξ:XKE}{r:CF}(S:Snd P r)(C:COk X c P Ξ){a b d e:Expr}{m:ME}{pos:Pos}
include C
theorem bp9{x:Str}(h:aH8 c x=some m):PE X (.Name x pos) (LE X.K Ξ (wpE P m)):=by
 unfold aH8 at h;split at h
 ·rename_i hdb;obtain⟨d1,d2,d3⟩:=J5 hdb;split at h
  ·rename_i hv;obtain⟨i,hi,rfl⟩:=Option.map_eq_some_iff.mp h;exact bk5 (C.ai2 hi) (C.bu9 hv) d1 d2
  ·split at h
   ·rename_i hg;rcases orElse_some h with h|h
    ·obtain⟨d,hd,rfl⟩:=Option.map_eq_some_iff.mp h;obtain⟨v,u,hm,r,rr⟩:=C.con x d hd;exact P5 (ae0 (C.w9 hg) hm r d1) rr
    ·split at h
     ·rename_i hb;obtain⟨t,ht,rfl⟩:=Option.map_eq_some_iff.mp h;exact P5 (v:=.ty t) (bd2 (C.w9 hg) (C.blt x hb) (aX3 ht) rfl d3 d1) fun _ _=>.ty t
     ·cases h
   ·cases h
 ·cases h
omit C in
theorem n_K{k:Const}{j:Nat}{d:D}(h:Z8 k=some d):PE X (.Constant k j pos) (LE X.K Ξ (wpE P (.lit d))):=by
 cases k<;>first|(cases h;done)|skip
 ·cases h;exact P5 bn9 fun _ _=>.non
 ·cases h;exact P5 by8 fun _ _=>.bl _
 ·cases h;exact P5 bo1 fun _ _=>.int _
 ·cases h;exact P5 aR6 fun _ _=>.str _
include S
theorem bH7{op:UnaryOp}(h:xUn r c op a=some m):PE X (.UnaryOp op a pos) (LE X.K Ξ (wpE P m)):=by
 unfold xUn at h;split at h
 ·rename_i ho;subst ho;obtain⟨ma,ha,rfl⟩:=Option.map_eq_some_iff.mp h;exact bk7 C.mono (S.e X c Ξ C _ _ ha)
 ·obtain⟨ma,ha,rfl⟩:=W0 S C h;exact bw9 C.mono ha
theorem a64{ops:List CmpOp}{bs:List Expr}(h:av7 r c a ops bs=some m):PE X (.Compare a ops bs pos) (LE X.K Ξ (wpE P m))/\PT X (.Compare a ops bs pos) (LT X.K Ξ (wpT P (.tst m))):=by
 unfold av7 at h;split at h
 ·rename_i op b;split at h
  ·cases h
  ·rename_i hm;have hm:behindInMarks op b=false:=by simpa using hm
   rcases orElse_some h with h|h
   ·obtain⟨neg,hn,h⟩:=Option.bind_eq_some_iff.mp h;obtain⟨kvs,hk,h⟩:=Option.bind_eq_some_iff.mp h;obtain⟨ma,ha,rfl⟩:=Option.map_eq_some_iff.mp h;obtain⟨x,p,rfl,hg,hd,hk⟩:=aA2 hk;have ho:op=if neg then .NotIn else .In:=by cases op<;>cases hn<;>rfl
    subst ho;exact⟨bk9 C.mono (C.w9 hg) (J5 hd).1 (C.gdc x kvs hk) (S.e X c Ξ C _ _ ha) hm,bj5 C.mono (C.w9 hg) (J5 hd).1 (C.gdc x kvs hk) (S.e X c Ξ C _ _ ha) hm⟩
   ·obtain⟨ma,mb,ha,hb,rfl⟩:=V9 S C h;exact⟨ax7 C.mono (aG0 (U8 C.units op) ha hb hm),bj3 C.mono (aF6 (U8 C.units op) ha hb hm)⟩
 ·split at h
  ·cases h
  ·rename_i hm;obtain⟨ma,ha,h⟩:=Option.bind_eq_some_iff.mp h;obtain⟨mb,hb,h⟩:=Option.bind_eq_some_iff.mp h;obtain⟨md,hd,rfl⟩:=Option.map_eq_some_iff.mp h;exact⟨aZ0 C.mono C.units (S.e X c Ξ C _ _ ha) (S.e X c Ξ C _ _ hb) (S.e X c Ξ C _ _ hd) (by simpa using hm),aY0 C.mono C.units (S.e X c Ξ C _ _ ha) (S.e X c Ξ C _ _ hb) (S.e X c Ξ C _ _ hd) (by simpa using hm)⟩
 ·cases h
theorem bI0{lo hi st:Option Expr}{p2:Pos}(h:xSl r c a lo hi st=some m):PE X (.Subscript a (.Slice lo hi st p2) pos) (LE X.K Ξ (wpE P m)):=by
 cases lo<;>cases hi<;>cases st<;>first|(cases h;done)|skip
 ·obtain⟨ma,ha,rfl⟩:=W0 S C h;exact aY4 C.mono ha
 ·obtain⟨ma,mb,ha,hb,rfl⟩:=V9 S C h;exact aY3 C.mono ha hb
 ·obtain⟨ma,mb,ha,hb,rfl⟩:=V9 S C h;exact aY2 C.mono ha hb
theorem bz8(h:aW7 r c a b=some m):PE X (.Subscript a b pos) (LE X.K Ξ (wpE P m)):=by
 unfold aW7 at h;rcases orElse_some h with h|h
 ·obtain⟨q,hq,h⟩:=Option.bind_eq_some_iff.mp h;have eb:∃p,b=.Slice q.1 q.2.1 q.2.2 p:=by cases b<;>first|(cases hq;exact⟨_,rfl⟩)|cases hq
  obtain⟨p,rfl⟩:=eb;exact bI0 S C h
 ·split at h
  ·rename_i hb;rcases orElse_some h with h|h
   ·obtain⟨kvs,hk,h⟩:=Option.bind_eq_some_iff.mp h;obtain⟨mb,hb',rfl⟩:=Option.map_eq_some_iff.mp h;obtain⟨x,p,rfl,hg,hd,hk⟩:=aA2 hk;exact bb0 C.mono (C.w9 hg) (J5 hd).1 (C.gdc x kvs hk) (S.e X c Ξ C _ _ hb') (aS4 hb)
   ·obtain⟨ma,mb,ha,hb',rfl⟩:=V9 S C h;exact ax7 C.mono (a63 (bA8 C.units) ha hb' (aS4 hb))
  ·cases h
theorem bH9{x:Str}{px:Pos}(hg:c.gl x=true)(h:xSp r c x e=some m):PE X (.Call (.Name x px) [e] [] pos) (LE X.K Ξ (wpE P m)):=by
 unfold xSp at h;obtain⟨q,hq,h'⟩:=Option.bind_eq_some_iff.mp h;clear h;have h:=h';clear h';obtain⟨p,pos',rfl⟩:=ah0 hq;obtain⟨y,as⟩:=q;dsimp only at h ⊢;split at h
 ·rename_i hc;simp only[Bool.and_eq_true,decide_eq_true_eq] at hc;obtain⟨⟨⟨⟨rfl,rfl⟩,hl⟩,hr⟩,hgr⟩:=hc;rcases as with _|⟨a,_|⟨b,_|⟨_,_⟩⟩⟩
  ·cases h
  ·dsimp only at h;split at h
   ·rename_i ho;obtain⟨ma,ha,rfl⟩:=W0 S C h;exact aY9 C.mono C.calm ha (C.w9 hg) (C.blt _ hl) (C.w9 hgr) (C.blt _ hr) (k9 ho)
   ·cases h
  ·dsimp only at h;split at h
   ·rename_i ho;rw[Bool.and_eq_true] at ho;obtain⟨ma,mb,ha,hb,rfl⟩:=V9 S C h;exact aY8 C.mono C.calm ha hb (C.w9 hg) (C.blt _ hl) (C.w9 hgr) (C.blt _ hr) (by rw[k9 ho.1,k9 ho.2];rfl) (k9 ho.2)
   ·cases h
  ·cases h
 ·split at h
  ·rename_i hc;simp only[Bool.and_eq_true,decide_eq_true_eq] at hc;obtain⟨⟨⟨⟨rfl,rfl⟩,hl⟩,hr⟩,hgr⟩:=hc;rcases as with _|⟨a,_|⟨_,_⟩⟩
   ·cases h
   ·dsimp only at h;split at h
    ·rename_i ho;obtain⟨ma,ha,rfl⟩:=W0 S C h;exact ba5 C.mono C.calm ha (C.w9 hg) (C.blt _ hl) (C.w9 hgr) (C.blt _ hr) (k9 ho)
    ·cases h
   ·cases h
  ·split at h
   ·rename_i hc;simp only[Bool.and_eq_true,decide_eq_true_eq] at hc;obtain⟨⟨⟨⟨rfl,rfl⟩,hl⟩,hr⟩,hgr⟩:=hc;rcases as with _|⟨a,_|⟨_,_⟩⟩
    ·cases h
    ·dsimp only at h;split at h
     ·rename_i ho;obtain⟨ma,ha,rfl⟩:=W0 S C h;exact ba9 C.mono C.calm ha (C.w9 hg) (C.blt _ hl) (C.w9 hgr) (C.blt _ hr) (k9 ho)
     ·cases h
    ·cases h
   ·cases h
theorem be3{x:Str}{px:Pos}{args:List Expr}(h:aO1 r c x args=some m):PE X (.Call (.Name x px) args [] pos) (LE X.K Ξ (wpE P m)):=by
 cases args with
 |nil =>
  have h2:aw0 c x=some m:=h;unfold aw0 at h2;split at h2
  ·rename_i hdb;rw[Bool.and_eq_true] at hdb;obtain⟨f,hf,rfl⟩:=Option.map_eq_some_iff.mp h2;obtain⟨k,C',fa,fd,ps,F,hr,hm,hC,hcl,M⟩:=C.cls x f hf;exact aY7 C.mono C.pass F M hC hcl hr (C.w9 hdb.2) hm (J5 hdb.1).1
  ·cases h2
 |cons e es =>
  have h0:av9 r c x e es=some m:=h;clear h;have h:=h0;clear h0;unfold av9 at h;split at h
  ·rename_i hdb;rw[Bool.and_eq_true] at hdb;obtain⟨d1,d2,d3⟩:=J5 hdb.1;rcases orElse_some h with h|h
   ·cases es with
    |nil=>exact bH9 S C hdb.2 h
    |cons _ _=>cases h
   ·obtain⟨ms,hms,h⟩:=Option.bind_eq_some_iff.mp h;have ok:=ai3 hms;have pa:=n_A S C hms;have hst:=k9 (env:=X.env) (es:=es) (ok e (by simp));have hpl:=X0 (pos:=pos) (env:=X.env) (es:=es) fun z hz=>ok z (by simp[hz]);rcases orElse_some h with h|h
    ·obtain⟨f,hf,rfl⟩:=Option.map_eq_some_iff.mp h;obtain⟨k,fa,fd,ps,F,hr,hm,hk⟩:=C.fns x f hf;exact bb3 C.mono C.pass F hr (C.w9 hdb.2) hm hk pa d1 hst hpl
    ·rcases orElse_some h with h|h
     ·obtain⟨f,hf,rfl⟩:=Option.map_eq_some_iff.mp h;obtain⟨k,C',fa,fd,ps,F,hr,hm,hC,hcl,M⟩:=C.cls x f hf;exact ba8 C.mono C.pass F M hC hcl hr (C.w9 hdb.2) hm pa d1 hst hpl
     ·split at h
      ·rename_i hb;obtain⟨p,hp,rfl⟩:=Option.map_eq_some_iff.mp h;obtain⟨v,hv,hbb,hc⟩:=aW2 (X:=X) C.calm hp;exact bl2 C.mono hv hc (C.w9 hdb.2) (C.blt x hb) hbb pa d3 d1 hst hpl
      ·cases h
  ·cases h
theorem be4{o:Expr}{mt:Str}{apos:Pos}{args:List Expr}(h:av8 r c o mt apos pos args=some m):PE X (.Call (.Attribute o mt apos) args [] pos) (LE X.K Ξ (wpE P m)):=by
 unfold av8 at h;split at h
 ·rename_i hc;simp only[Bool.and_eq_true,decide_eq_true_eq] at hc;obtain⟨⟨hb,hl⟩,hn⟩:=hc;obtain⟨mo,ho,h⟩:=Option.bind_eq_some_iff.mp h;obtain⟨ms,hms,h⟩:=Option.bind_eq_some_iff.mp h;have ok:=ai3 hms;have pa:=n_A S C hms;have po:=S.e X c Ξ C _ _ ho;have hf:methodCallForm args.length (backTo pos (starEach args X.env)) (backToKw pos (keywordEach [] X.env))=true:=by
   unfold methodCallForm;rw[ax3 ok];have:args.length+0<30:=by omega
   show(true&&true&&decide (args.length+0<30))=true;rw[decide_eq_true this]
   rfl
  by_cases hix:mt="index"
  ·subst hix;rw[if_pos rfl] at h;cases h
  rw[if_neg hix] at h;cases args with
  |nil =>
   cases hms;by_cases h0:(ae3.lookup mt).isSome=true
   ·rw[if_pos (by rw[h0];rfl)] at h;obtain⟨p,hp,rfl⟩:=Option.map_eq_some_iff.mp h;obtain⟨T,id,pa',sl,ty,mt',hk⟩:=aL0 (X:=X) hp;exact aY6 C.mono pa' sl ty mt' hk po (O9 hb) hl
   rw[if_neg (by rw[Bool.and_eq_true];exact fun z=>h0 z.2)] at h;split at h
   ·cases h
   ·cases h
  |cons e es =>
   have hst:=k9 (env:=X.env) (es:=es) (ok e (by simp));have hpl:=X0 (pos:=pos) (env:=X.env) (es:=es) fun z hz=>ok z (by simp[hz]);rw[if_neg (by simp)] at h;split at h
   ·rename_i p hp;cases h;obtain⟨T,id,pa',sl,ty,mt',hk⟩:=aT0 (X:=X) C.units hp;exact ba7 C.mono pa' sl ty mt' hk po pa (O9 hb) hf hl hst hpl
   ·cases h
 ·cases h
theorem n_I{tg:Expr}(h:al8 r c tg e=some m):PI X tg e (LI X.K Ξ (wpI P m)):=by
 unfold al8 at h;rcases orElse_some h with h|h
 ·obtain⟨q,hq,h'⟩:=Option.bind_eq_some_iff.mp h;rename_i h0;clear h h0;have h:=h';clear h';obtain⟨p,pos',rfl⟩:=ah0 hq;obtain⟨y,as⟩:=q;dsimp only at h ⊢;split at h
  ·rename_i hy;subst hy;rcases as with _|⟨a,_|⟨_,_⟩⟩
   ·cases h
   ·dsimp only at h;split at h
    ·rename_i hc;simp only[Bool.and_eq_true] at hc;obtain⟨⟨⟨hg,hb⟩,ho⟩,ht⟩:=hc;obtain⟨ma,ha,rfl⟩:=Option.map_eq_some_iff.mp h;obtain⟨es,k,tp,rfl⟩:=aW4 ht;exact ba2 C.mono (S.e X c Ξ C _ _ ha) (C.w9 hg) (C.blt _ hb) (k9 ho)
    ·cases h
   ·cases h
  ·split at h
   ·rename_i hy;subst hy;rcases as with _|⟨a,_|⟨_,_⟩⟩
    ·cases h
    ·dsimp only at h;split at h
     ·rename_i hc;simp only[Bool.and_eq_true] at hc;obtain⟨⟨hg,hb⟩,ho⟩:=hc;obtain⟨ma,ha,rfl⟩:=Option.map_eq_some_iff.mp h;exact bk1 C.mono (S.e X c Ξ C _ _ ha) (C.w9 hg) (C.blt _ hb) (k9 ho)
     ·cases h
    ·cases h
   split at h
   ·rename_i hy;subst hy;rcases as with _|⟨a,_|⟨b,_|⟨_,_⟩⟩⟩
    ·cases h
    ·dsimp only at h;split at h
     ·rename_i hc;simp only[Bool.and_eq_true] at hc;obtain⟨⟨hg,hb⟩,ho⟩:=hc;obtain⟨ma,ha,rfl⟩:=Option.map_eq_some_iff.mp h;exact ba1 C.mono (S.e X c Ξ C _ _ ha) (C.w9 hg) (C.blt _ hb) (k9 ho)
     ·cases h
    ·dsimp only at h;split at h
     ·rename_i hc;simp only[Bool.and_eq_true] at hc;obtain⟨⟨⟨hg,hb⟩,ho⟩,ho2⟩:=hc;obtain⟨ma,ha,h⟩:=Option.bind_eq_some_iff.mp h;obtain⟨mb,hb',rfl⟩:=Option.map_eq_some_iff.mp h;exact ba0 C.mono (S.e X c Ξ C _ _ ha) (S.e X c Ξ C _ _ hb') (C.w9 hg) (C.blt _ hb) (by rw[k9 ho,k9 ho2];rfl) (k9 ho2)
     ·cases h
    ·cases h
   ·cases h
 ·split at h
  ·obtain⟨ma,ha,rfl⟩:=Option.map_eq_some_iff.mp h;exact bk0 C.mono (S.e X c Ξ C _ _ ha)
  ·cases h
theorem an6{elt:Expr}{gens:List Comprehension}{sc:Scope}(h:W5 r c elt gens sc=some m):∃tg it ifs t mi mc me cl,gens=[⟨tg,it,ifs,0⟩]/\m=.comp (c.d5 sc) (frees sc++locals sc).length t mi mc me/\okE it=true /\
  CompScope X sc (frees sc++locals sc) (c.d5 sc) cl/\PI X tg it (LI X.K Ξ (wpI P mi))/\(∀pins A s H fp,PG (d7 X pins sc (frees sc++locals sc) cl A s H fp) tg (LG X.K t)) /\
   (∀pins A s H fp,PTs (d7 X pins sc (frees sc++locals sc) cl A s H fp) ifs (LT X.K (XK0 Ξ.1) (wpT P mc)))/\(∀pins A s H fp,PE (d7 X pins sc (frees sc++locals sc) cl A s H fp) elt (LE X.K (XK0 Ξ.1) (wpE P me))):=by
 unfold W5 at h;rcases gens with _|⟨⟨tg,it,ifs,isa⟩,_|⟨_,_⟩⟩
 ·cases h
 ·dsimp only at h;split at h
  ·rename_i hs;simp only[Bool.and_eq_true,decide_eq_true_eq] at hs;obtain⟨⟨hs,rfl⟩,hit⟩:=hs;obtain⟨t,h1,h⟩:=Option.bind_eq_some_iff.mp h;obtain⟨mi,h2,h⟩:=Option.bind_eq_some_iff.mp h;obtain⟨mc,h3,h⟩:=Option.bind_eq_some_iff.mp h;obtain⟨me,h4,rfl⟩:=Option.map_eq_some_iff.mp h;obtain⟨cl,Sc,I⟩:=C.comp hs;exact⟨tg,it,ifs,t,mi,mc,me,cl,rfl,rfl,hit,Sc,n_I S C h2,fun pins A s H fp=>(I pins A s H fp).bh9 h1,fun pins A s H fp=>bH8 S (I pins A s H fp) h3,fun pins A s H fp=>S.e _ _ _ (I pins A s H fp) elt me h4⟩
  ·cases h
 ·cases h
omit S in
theorem bI1{f:Expr}{args:List Expr}{kws:List Keyword}(h:xSU c f args kws=some m):PE X (.Call f args kws pos) (LE X.K Ξ (wpE P m)):=by
 unfold xSU at h;cases h
theorem n_E:∀e m,a57 r c e=some m->PE X e (LE X.K Ξ (wpE P m)):=by
 intro e m h;cases e with
 |Name x p=>exact bp9 C h
 |Constant k j p =>
  obtain⟨d,hd,rfl⟩:=Option.map_eq_some_iff.mp (show(Z8 k).map ME.lit=some m from h);exact n_K hd
 |BinOp a op b p =>
  obtain⟨ma,mb,ha,hb,rfl⟩:=V9 S C h;exact ax7 C.mono (by5 (bp6 op) ha hb)
 |UnaryOp op a p=>exact bH7 S C h
 |Compare a ops bs p=>exact(a64 S C h).1
 |BoolOp op vs p=>exact n_B S C h
 |IfExp t a b p =>
  obtain⟨mt,ht,h⟩:=Option.bind_eq_some_iff.mp h;obtain⟨ma,ha,h⟩:=Option.bind_eq_some_iff.mp h;obtain⟨mb,hb,rfl⟩:=Option.map_eq_some_iff.mp h;exact bk8 C.mono (S.t X c Ξ C _ _ ht) (S.e X c Ξ C _ _ ha) (S.e X c Ξ C _ _ hb)
 |Tuple es k p =>
  obtain⟨ma,ha,rfl⟩:=Option.map_eq_some_iff.mp h;exact bk6 C.mono (n_A S C ha)
 |List es p =>
  obtain⟨ma,ha,rfl⟩:=Option.map_eq_some_iff.mp h;exact aQ1 C.mono (n_A S C ha)
 |Subscript a b p=>exact bz8 S C h
 |Dict ks vs p =>
  have h2:(if ks.isEmpty&&vs.isEmpty then some (ME.prim .Z3 .nil) else if decide (ks.length<=15) then(am0 r c ks vs).map .dct else none)=some m:=h;split at h2
  ·rename_i hc;cases ks<;>cases vs<;>first|(cases hc;done)|skip
   cases h2;exact bb2
  ·rename_i hc;split at h2
   ·rename_i hl;obtain⟨ms,hm,rfl⟩:=Option.map_eq_some_iff.mp h2;obtain⟨trs,D⟩:=n_D S C hm;refine bl1 C.mono D (fun z=>hc ?_) (of_decide_eq_true hl);have:=D.len.2;subst z;cases vs<;>first|rfl|cases this
   ·cases h2
 |JoinedStr vs p =>
  have h2:(if decide (2<=vs.length)&&decide (vs.length<=40) then(af5 r c vs).map (ME.prim .fstr) else none)=some m:=h;split at h2
  ·rename_i hc;simp only[Bool.and_eq_true,decide_eq_true_eq] at hc;obtain⟨ms,hm,rfl⟩:=Option.map_eq_some_iff.mp h2;obtain⟨ts,F⟩:=n_F S C hm;rcases vs with _|⟨v1,_|⟨v2,vs⟩⟩
   ·simp at hc
   ·simp at hc
   ·exact bb1 C.mono F hc.2
  ·cases h2
 |Attribute o f p =>
  have h2:(if ak2 o then c1 r c (.fld f) o else none)=some m:=h;split at h2
  ·rename_i hb;obtain⟨ma,ha,rfl⟩:=W0 S C h2;exact bl0 C.mono ha (O9 hb)
  ·cases h2
 |Call f args kws pos =>
  have h1:((xSC r c f args kws).orElse fun _=>(xSU c f args kws).orElse fun _=>aH9 r c f args kws pos)=some m:=h;rcases orElse_some h1 with h2|h2
  ·unfold xSC at h2;rcases args with _|⟨a,_|⟨_,_⟩⟩
   ·cases h2
   ·dsimp only at h2;split at h2
    ·rename_i hk;simp only[Bool.and_eq_true,decide_eq_true_eq] at hk;obtain⟨⟨⟨hk,hf⟩,hgl⟩,hb⟩:=hk;cases kws<;>first|(cases hk;done)|skip
     obtain⟨q,hq,h3⟩:=Option.bind_eq_some_iff.mp h2;obtain⟨m1,h4,h5⟩:=Option.bind_eq_some_iff.mp h3;cases f<;>first|(cases hf;done)|skip
     cases a<;>first|(cases hq;done)|skip
     cases hf;cases hq;obtain⟨tg,it,ifs,t,mi,mc,me,cl,eg,rfl,hit,Sc,q1,q2,q3,q4⟩:=an6 S C h4;dsimp only at eg;subst eg;cases h5;exact aY5 C.mono Sc C.calm q1 q2 q3 q4 (X6 hit) (C.w9 hgl) (C.blt _ hb)
    ·cases h2
   ·cases h2
  clear h h1;rcases orElse_some h2 with h3|h3
  ·exact bI1 C h3
  clear h2;unfold aH9 at h3;split at h3
  ·rename_i hk;cases kws<;>first|(cases hk;done)|skip
   cases f with
   |Name x p=>exact be3 S C h3
   |Attribute o a p=>exact be4 S C h3
   |_=>cases h3
  ·cases h3
 |Set es k p =>
  have h2:aW8 c es k=some m:=h;unfold aW8 at h2;split at h2
  ·rename_i hc;rw[Bool.and_eq_true] at hc;obtain rfl:=of_decide_eq_true hc.2;split at h2
   ·cases h2;exact ba6 C.mono (C.code hc.1)
   ·cases h2
  ·cases h2
 |ListComp elt gens sc p =>
  obtain⟨tg,it,ifs,t,mi,mc,me,cl,rfl,rfl,hit,Sc,q1,q2,q3,q4⟩:=an6 S C h;exact(aF9 Sc C.calm q1 q2 q3 q4 (X6 hit)).imp fun σ H Q h=>aA7 C.mono σ H Q h
 |_=>cases h
theorem n_T:∀e m,stepT r c e=some m->PT X e (LT X.K Ξ (wpT P m)):=by
 intro e m h;have plain:∀{e:Expr} {m:ME},(if ab5 e then(r.e c e).map ME.tst else none)=some m->PT X e (LT X.K Ξ (wpT P m)):=fun{e m} h=>by
  split at h
  ·rename_i hp;obtain⟨ma,ha,rfl⟩:=Option.map_eq_some_iff.mp h;exact bj2 C.mono (S.e X c Ξ C _ _ ha) (aR2 hp)
  ·cases h
 cases e with
 |UnaryOp op a p =>
  have h2:(if op=.Not then(r.t c a).map ME.not_ else none)=some m:=h;split at h2
  ·rename_i ho;subst ho;obtain⟨ma,ha,rfl⟩:=Option.map_eq_some_iff.mp h2;exact bj4 C.mono (S.t X c Ξ C _ _ ha)
  ·cases h2
 |BoolOp op vs p=>exact(n_W S C h).pt
 |Compare a ops bs p =>
  obtain⟨ma,ha,rfl⟩:=Option.map_eq_some_iff.mp (show(av7 r c a ops bs).map ME.tst=some m from h);exact(a64 S C ha).2
 |_=>exact plain h
end
end M

namespace M
open PySem L2 PySem.Spec PyProof.Rows
section
variable{X:Cx}{c:f9}{P:Sig}{Ξ:XKE}
theorem aA9{e:Expr}{m:ME}(h:a73 e=some m):PE X e (LE X.K Ξ (wpE P m))/\okE e=true:=by
 cases e<;>first|(cases h;done)|skip
 obtain⟨d,hd,rfl⟩:=Option.map_eq_some_iff.mp (show(Z8 _).map ME.lit=some m from h);exact⟨n_K hd,rfl⟩
theorem aV2(hP:i4 P):∀{es:List Expr} {m:ME},al7 es=some m->PA X es (LA X.K Ξ (wpA P m)):=by
 intro es
 induction es with
 |nil=>intro m h;cases h;exact F4 hP
 |cons e es ih =>
  intro m h;unfold al7 at h;obtain⟨m1,h1,h⟩:=Option.bind_eq_some_iff.mp h;obtain⟨m2,h2,rfl⟩:=Option.map_eq_some_iff.mp h;exact A4 hP (aA9 h1).1 (ih h2) (k9 (aA9 (X:=X) (Ξ:=Ξ) (P:=P) h1).2)
theorem a35(hP:i4 P){e:Expr}{m:ME}(h:a74 e=some m):PE X e (LE X.K Ξ (wpE P m)):=by
 cases e<;>first|(cases h;done)|skip
 ·obtain⟨d,hd,rfl⟩:=Option.map_eq_some_iff.mp (show(Z8 _).map ME.lit=some m from h);exact n_K hd
 ·obtain⟨ms,hm,rfl⟩:=Option.map_eq_some_iff.mp h;exact aQ1 hP (aV2 hP hm)
theorem aN2{h:ExceptHandler}{q:Str×Expr}(hq:aB9 h=some q):∃p p1 p2,h=.ExceptHandler (some (.Name q.1 p)) none [.Return (some q.2) p1] p2:=by
 unfold aB9 at hq;split at hq
 ·cases hq;exact⟨_,_,_,rfl⟩
 ·cases hq
theorem a36(C:COk X c P Ξ)(hhd:ad3 X Ξ.2):∀{hs:List ExceptHandler} {ms:List (Str×ME)},al9 c hs=some ms->HsOk X Ξ P hs ms:=by
 intro hs
 induction hs with
 |nil=>intro ms h;cases h;exact .nil hhd
 |cons hd hs ih =>
  intro ms h;unfold al9 at h;obtain⟨q,hq,h'⟩:=Option.bind_eq_some_iff.mp h;clear h;have h:=h';clear h';obtain⟨p,p1,p2,rfl⟩:=aN2 hq;obtain⟨y,e⟩:=q;dsimp only at h ⊢;split at h
  ·rename_i hc;simp only[Bool.and_eq_true] at hc;obtain⟨m,h1,h⟩:=Option.bind_eq_some_iff.mp h;obtain⟨ms',h2,rfl⟩:=Option.map_eq_some_iff.mp h;obtain⟨C',hm,hi,_⟩:=C.exc y hc.1.1;refine .cons (C.w9 hc.1.2) (J5 hc.2).1 hm (fun x C1 hx h1=>C.exm x y C1 C' ?_ hc.1.1 h1 hi) (fun ea=>a35 (X:=C3 X ea) C.mono h1) (ih h2);rw[C.exq] at hx;simpa using hx
  ·cases h
theorem aE2{e f:Option Expr}{q:Str×Expr×List Expr}(h:ap7 e f=some q):f=none/\∃p p',e=some (.Call (.Name q.1 p) (q.2.1::q.2.2) [] p'):=by
 unfold ap7 at h;split at h
 ·cases h;exact⟨rfl,_,_,rfl⟩
 ·cases h
theorem aH2(C:COk X c P Ξ){f:Str}:an0 X.K f (c.ao7 f):=fun y C' h hC=>by
 unfold f9.ao7 at h;obtain⟨⟨f',y'⟩,h1,h2⟩:=List.mem_map.mp h;obtain⟨h3,h4⟩:=List.mem_filter.mp h1;cases h2;have:f'=f:=by simpa using h4
 subst this;exact C.fls f' y' C' h3 hC
variable{r:CF}(S:Snd P r)(C:COk X c P Ξ){pos:Pos}
include S C
theorem bz9{tg e:Expr}{m:MS}(hS:∀e m,r.e c e=some m->u7 e=false->∃elt gens sc p,e=.ListComp elt gens sc p/\∃r',Snd P r'/\W5 r' c elt gens sc=some m)(hT:∀a b k p m,r.e c (.Tuple [a,b] k p)=some m->∃r' ms,Snd P r'/\F1 r' c [a,b]=some ms/\m=.prim .tup ms)(h:bl7 r c tg e=some m):PS X (.Assign [tg] e pos) (LS X.K Ξ (wpS P m)):=by
 cases tg with
 |Name x px =>
  have h2:(if c.w6 x then(c.idx x).bind fun i=>(r.e c e).map fun m=>MS.set i m else none)=some m:=h;split at h2
  ·rename_i hl;obtain⟨i,hi,h2⟩:=Option.bind_eq_some_iff.mp h2;obtain⟨me,he,rfl⟩:=Option.map_eq_some_iff.mp h2;cases hn:u7 e with
   |true=>exact aP1 C.mono (aQ7 C.ndN (C.ai2 hi) (C.w6 hl).1 (S.e X c Ξ C _ _ he) (R6 hn) (C.w6 hl).2)
   |false =>
    obtain⟨elt,gens,sc,p,rfl,r',S',hx⟩:=hS e me he hn;obtain⟨tg,it,ifs,t,mi,mc,me,cl,rfl,rfl,hit,Sc,q1,q2,q3,q4⟩:=an6 S' C hx;refine aP1 C.mono ?_;exact(aC8 Sc C.calm q1 q2 q3 q4 (X6 hit) C.ndN (C.ai2 hi) (C.w6 hl).1 (C.w6 hl).2).imp fun N σ H h=>aA7 C.mono σ H _ h
  ·cases h2
 |Tuple es k pt =>
  have h0:((aB8 es).elim (if(ae1 e&&u7 e)||c.au6 es e then(c.slots es).bind fun is=>(r.e c e).map fun m=>MS.unp (.many is) m else none) fun q=>if u7 e&&okE q.2.1&&okE q.2.2.2 then(r.e c q.1).bind fun m1=>(r.e c q.2.1).bind fun n1=>(r.e c q.2.2.1).bind fun m2=>(r.e c q.2.2.2).bind fun n2=>(r.e c e).map fun m=>MS.swp m1 n1 m2 n2 m else none)=some m:=h;cases hq:aB8 es with
  |some q =>
   rw[hq] at h0;dsimp only[Option.elim] at h0;split at h0
   ·cases hq
   ·cases h0
  |none =>
  rw[hq] at h0;have h2:(if(ae1 e&&u7 e)||c.au6 es e then(c.slots es).bind fun is=>(r.e c e).map fun m=>MS.unp (.many is) m else none)=some m:=h0;split at h2
  ·rename_i hn;rw[Bool.or_eq_true,Bool.and_eq_true] at hn;obtain⟨is,hs,h2⟩:=Option.bind_eq_some_iff.mp h2;obtain⟨me,he,rfl⟩:=Option.map_eq_some_iff.mp h2;rcases hn with hn|hn
   ·exact bi6 C.mono (aQ9 (S.e X c Ξ C _ _ he) (aE9 C.calm C.ndN (C.slots hs)) (ag3 hn.2) (a17 hn.1))
   ·unfold f9.au6 at hn;split at hn
    ·rename_i x px y py a b k2 pt2 _;simp only[Bool.and_eq_true,decide_eq_true_eq,Bool.not_eq_true'] at hn;obtain⟨⟨⟨⟨⟨⟨⟨l1,l2⟩,hne⟩,hl⟩,oa⟩,ob⟩,f1⟩,f2⟩:=hn;obtain⟨r',ms,S',hms,rfl⟩:=hT _ _ _ _ _ he;have so:=C.slots hs;cases so with
     |cons hi _ _ so =>
     cases so with
     |cons hj _ _ so =>
     cases so;exact bi8 C.mono C.calm C.ndN hi hj hne hl (C.loc x l1) (C.loc y l2) oa ob f1 f2 (n_A S' C hms)
    ·cases hn
  ·cases h2
 |Subscript o i pt =>
  have h2:(if okE i&&u7 e then(r.e c o).bind fun mo=>(r.e c i).bind fun mi=>(r.e c e).map fun m=>MS.setix mo mi m else none)=some m:=h;split at h2
  ·rename_i hn;rw[Bool.and_eq_true] at hn;obtain⟨mo,ho,h2⟩:=Option.bind_eq_some_iff.mp h2;obtain⟨mi,hi,h2⟩:=Option.bind_eq_some_iff.mp h2;obtain⟨me,he,rfl⟩:=Option.map_eq_some_iff.mp h2;exact aX8 C.mono C.units (S.e X c Ξ C _ _ he) (S.e X c Ξ C _ _ ho) (S.e X c Ξ C _ _ hi) (ag3 hn.2) (be0 hn.1)
  ·cases h2
 |Attribute o f pt =>
  have h2:(if u7 e then(r.e c o).bind fun mo=>(r.e c e).map fun m=>MS.setf f (c.ao7 f) mo m else none)=some m:=h;split at h2
  ·rename_i hn;obtain⟨mo,ho,h2⟩:=Option.bind_eq_some_iff.mp h2;obtain⟨me,he,rfl⟩:=Option.map_eq_some_iff.mp h2;exact a92 C.mono (aH2 C) (S.e X c Ξ C _ _ ho) (S.e X c Ξ C _ _ he) (R6 hn)
  ·cases h2
 |_=>cases h
theorem n_S(hS:∀e m,r.e c e=some m->u7 e=false->∃elt gens sc p,e=.ListComp elt gens sc p/\∃r',Snd P r'/\W5 r' c elt gens sc=some m)(hT:∀a b k p m,r.e c (.Tuple [a,b] k p)=some m->∃r' ms,Snd P r'/\F1 r' c [a,b]=some ms/\m=.prim .tup ms) :
  ∀st m,a56 r c st=some m->PS X st (LS X.K Ξ (wpS P m)):=by
 intro st m h;have hP:=C.mono;cases st with
 |AugAssign tg op e p =>
  cases tg with
  |Attribute o f tp =>
   have h2:(if decide (op=Operator.Add) then(r.e c o).bind fun mo=>(r.e c e).map fun m=>MS.augf f (c.ao7 f) mo m else none)=some m:=h;split at h2
   ·rename_i ho;obtain rfl:=of_decide_eq_true ho;obtain⟨mo,ho,h2⟩:=Option.bind_eq_some_iff.mp h2;obtain⟨me,he,rfl⟩:=Option.map_eq_some_iff.mp h2;exact a95 C.mono (aH2 C) (S.e X c Ξ C _ _ ho) (S.e X c Ξ C _ _ he)
   ·cases h2
  |Name x tp =>
   have h2:(if c.w6 x then(a77 op).bind fun p=>(c.idx x).bind fun i=>(r.e c e).map fun m=>MS.augl i p m else none)=some m:=h;split at h2
   ·rename_i hl;obtain⟨p,hp,h2⟩:=Option.bind_eq_some_iff.mp h2;obtain⟨i,hi,h2⟩:=Option.bind_eq_some_iff.mp h2;obtain⟨me,he,rfl⟩:=Option.map_eq_some_iff.mp h2;refine a94 C.mono ?_ C.ndN (C.ai2 hi) (C.w6 hl).1 (C.w6 hl).2 (S.e X c Ξ C _ _ he);cases op<;>first|(cases hp;done)|skip
    ·cases hp;exact .inl ⟨rfl,rfl⟩
    ·cases hp;exact .inr ⟨rfl,rfl⟩
   ·cases h2
  |_=>cases h
 |Expr e p =>
  have h2:(if u7 e then(r.e c e).map MS.expr else none)=some m:=h;split at h2
  ·rename_i hn;obtain⟨me,he,rfl⟩:=Option.map_eq_some_iff.mp h2;exact a93 hP (S.e X c Ξ C _ _ he) (R6 hn)
  ·cases h2
 |Assign tgs e p =>
  rcases tgs with _|⟨tg,_|⟨_,_⟩⟩
  ·cases h
  ·exact bz9 S C hS hT h
  ·cases h
 |If t a b p =>
  obtain⟨mt,ht,h⟩:=Option.bind_eq_some_iff.mp h;obtain⟨ma,ha,h⟩:=Option.bind_eq_some_iff.mp h;obtain⟨mb,hb,rfl⟩:=Option.map_eq_some_iff.mp h;exact bw6 hP (S.t X c Ξ C _ _ ht) (an7 S C ha) (an7 S C hb)
 |For tg it body els p =>
  have h2:(if c.fnb&&(els.isEmpty&&okE it) then(c.tg tg).bind fun t=>(al8 r c tg it).bind fun mi=>(t8 r c body).map fun mb=>MS.for_ t mi mb else none)=some m:=h;split at h2
  ·rename_i hc;rw[Bool.and_eq_true,Bool.and_eq_true] at hc;cases els<;>first|(cases hc.2.1;done)|skip
   obtain⟨t,h1,h2⟩:=Option.bind_eq_some_iff.mp h2;obtain⟨mi,h3,h2⟩:=Option.bind_eq_some_iff.mp h2;obtain⟨mb,h4,rfl⟩:=Option.map_eq_some_iff.mp h2;exact bi9 hP (C.own hc.1) C.calm (n_I S C h3) (C.bh9 h1) (an7 S C h4) (X6 hc.2.2)
  ·cases h2
 |While t body els p =>
  have h2:(if c.fnb&&els.isEmpty then(r.t c t).bind fun mt=>(t8 r c body).map fun mb=>MS.whil mt mb else none)=some m:=h;split at h2
  ·rename_i hc;rw[Bool.and_eq_true] at hc;cases els<;>first|(cases hc.2;done)|skip
   obtain⟨mt,h1,h2⟩:=Option.bind_eq_some_iff.mp h2;obtain⟨mb,h4,rfl⟩:=Option.map_eq_some_iff.mp h2;exact aX7 hP (C.own hc.1) (S.t X c Ξ C _ _ h1) (an7 S C h4)
  ·cases h2
 |Return e p =>
  cases e with
  |none=>cases h;exact(bc1 (X:=X)).imp fun N σv H ⟨σ,g,ρ,s,R,h⟩=>LQ.now h R .non
  |some e =>
   obtain⟨me,he,rfl⟩:=Option.map_eq_some_iff.mp (show(r.e c e).map (fun m=>MS.ret (toR c e m))=some m from h);refine aP2 hP ?_;exact S.e X c Ξ C _ _ he
 |Raise e f p =>
  obtain⟨q,hq,h2⟩:=Option.bind_eq_some_iff.mp h;clear h;obtain⟨rfl,px,p2,rfl⟩:=aE2 hq;obtain⟨x,e,es⟩:=q;dsimp only at h2 ⊢;split at h2
  ·rename_i hc;simp only[Bool.and_eq_true] at hc;obtain⟨ma,ha,rfl⟩:=Option.map_eq_some_iff.mp h2;have ok:=ai3 ha;obtain⟨C',hm,hi,B,nI,iI,bm,O,FB⟩:=C.exc x hc.1.1.2;exact aX9 hP C.calm O FB (C.w9 hc.1.2) (n_A S C ha) (C.rais hc.1.1.1) (by rw[C.exq];simpa using hc.1.1.2) hi (k9 (ok e (by simp))) (X0 fun z hz=>ok z (by simp[hz])) (J5 hc.2).1
  ·cases h2
 |Try body hs el fi p =>
  have h2:(if c.tryb&&!hs.isEmpty&&el.isEmpty&&fi.isEmpty then(t8 r { c with rais:=false,tryb:=false } body).bind fun mb=>(al9 c hs).map fun ms=>MS.W8 mb ms else none)=some m:=h;split at h2
  ·rename_i hc;simp only[Bool.and_eq_true] at hc;obtain⟨⟨⟨ht,hh⟩,he⟩,hf⟩:=hc;cases el<;>first|(cases he;done)|skip
   cases fi<;>first|(cases hf;done)|skip
   cases hs<;>first|(cases hh;done)|skip
   obtain⟨mb,h1,h2⟩:=Option.bind_eq_some_iff.mp h2;obtain⟨ms,h3,rfl⟩:=Option.map_eq_some_iff.mp h2;obtain⟨hst,hf,hhd⟩:=C.tryb ht;exact bi7 hP hst hf (fun pins D=>an7 S (C.W8 hst hf pins D _) h1) (a36 C hhd h3)
  ·cases h2
 |Pass p=>cases h;exact(bc2 (X:=X)).imp fun N σv H ⟨σ,g,ρ,s,R,h⟩=>h ρ H σv (.refl _ _) R s
 |_=>cases h
end
theorem aD8{n:Nat}{c:f9}{e:Expr}{m:ME}(h:(comp (n+1)).e c e=some m)(hn:u7 e=false):∃elt gens sc p,e=.ListComp elt gens sc p/\W5 (comp n) c elt gens sc=some m:=by
 cases e<;>first|(cases hn;done)|(cases h;done)|exact⟨_,_,_,_,rfl,h⟩
theorem snd{P:Sig}:∀n,(∀k,k<=n->Snd P (comp k)):=by
 intro n
 induction n with
 |zero =>
  intro k hk;obtain rfl:=Nat.le_zero.mp hk;exact⟨fun _ _ _ _ _ _ h=>(by cases h),fun _ _ _ _ _ _ h=>(by cases h),fun _ _ _ _ _ _ h=>(by cases h)⟩
 |succ n ih =>
  intro k hk;rcases Nat.lt_or_ge k (n+1) with hlt|hge
  ·exact ih k (by omega)
  obtain rfl:k=n+1:=by omega
  have I:=ih n (Nat.le_refl n);refine⟨fun X c Ξ C e m h=>n_E I C e m h,fun X c Ξ C e m h=>n_T I C e m h,fun X c Ξ C st m h=>n_S I C (fun e m he hn=>?_) (fun a b k p m he=>?_) st m h⟩
  ·cases n with
   |zero=>cases he
   |succ n =>
    obtain⟨elt,gens,sc,p,rfl,hx⟩:=aD8 he hn;exact⟨_,_,_,_,rfl,comp n,ih n (by omega),hx⟩
  ·cases n with
   |zero=>cases he
   |succ n =>
    obtain⟨ms,hm,rfl⟩:=Option.map_eq_some_iff.mp (show(F1 (comp n) c [a,b]).map (ME.prim .tup)=some m from he);exact⟨comp n,ms,ih n (by omega),hm,rfl⟩
end M

namespace M
open PySem L2 PySem.Spec PyProof.Rows
structure DefI where
 nm:Str
 qn:Str
 N:List Str
 ps:List Str
 st:Stmt
noncomputable def f9.at(c:f9)(d:DefI):f9:={ c with N:=d.N,nm:=(n5 d.st).names,fnb:=true,rais:=true,tryb:=true }
structure DefOk(K:PySem.W.Frag)(c:f9)(d:DefI)(m:MDef)(f:Addr)(fd:FuncData):Prop where
 fn:Fun K d.nm d.qn d.st f fd
 bi:Binds K fd d.ps []
 sc:FnScope d.N d.ps (n5 d.st)
 co:t8 (comp 60) (c.at d) (n8 d.st)=some m.body
 ar:m.ar=d.ps.length
 nn:m.n=d.N.length
structure TabOk(w:World)(K:PySem.W.Frag)(mg:Str->Option Value)(c:f9)(T:Nat->Option MDef):Prop where
 fns:∀x i,c.fns.lookup x=some i->∃d m f fd,T i=some m/\DefOk K c d m f fd/\mg x=some (.ref f)
 cls:∀x i,c.cls.lookup x=some i->∃C d m f fd,T i=some m/\DefOk K c d m f fd/\mg x=some (.ref C)/\p0 K x C/\Cls K C/\Mk K C f
 mts:∀x y i C,(x,y,i)∈c.mts->p0 K y C->∃d m f fd,T i=some m/\DefOk K c d m f fd/\Meth K C x f
 fls:∀f y C,(f,y)∈c.fls->p0 K y C->w5 K C f
 con:∀x d,c.con.lookup x=some d->∃v u,mg x=some u/\RelV v u/\∀ρ H,d8 K ρ H d v
 blt:∀x,c.blt.contains x=true->mg x=none
 excs:∀x,c.exc.contains x=true->∃C,mg x=some (.ref C)/\p0 K x C/\∀base:Heap,K.In base->base.Ns mainGlobals mg->∃B newId initId bm,OwnCls x C bm newId mg base/\ExcBaseFacts B newId initId bm
 exms:∀x y C C',c.exc.contains x=true->c.exc.contains y=true->p0 K x C->p0 K y C'->PySem.W.exmOne K (.ref C) (.ref C')=some (decide (x=y\/y="MintError"))
 gdcs:∀x kvs,c.gd.lookup x=some kvs->∃A vs,mg x=some (.ref A)/\am8 K w.params A vs/\ad4 K kvs vs
section
variable{Pg:Program}{w:World}{K:PySem.W.Frag}{mg:Str->Option Value}{base:Heap}{c:f9}{T:Nat->Option MDef}
theorem br5{K:PySem.W.Frag}{cd:Value}{q:Str}(h:PySem.W.codeIn K cd q=true):PySem.W.kdsCode K cd=true:=by
 unfold PySem.W.codeIn at h;unfold PySem.W.kdsCode;split at h
 ·dsimp only;split at h
  ·rename_i e;rw[e]
  ·cases h
 ·cases h
theorem bd3{N:List Str}{qual:Str}{scope:Scope}{f:Addr}{cd:Value}{A:Around}{outer:List Env}{s:Shared}{H:Hp}{E:XK}:Passes (CXE Pg w) (Z5 (CXE Pg w) Pg w K mg base N qual scope f cd A outer s H E) E:=fun pins σ H1 s1 e s' I h=>by
 obtain⟨C,H',J,fl,hE⟩:=I.flew h;exact az4 J fl (fun b o q=>I.base.there b o q (by intro z;cases z)) rfl rfl rfl hE
theorem aZ4{N:List Str}{qual:Str}{scope:Scope}{f:Addr}{cd:Value}{A:Around}{outer:List Env}{s:Shared}{H:Hp}{E:XK}:af7 (Z5 (CXE Pg w) Pg w K mg base N qual scope f cd A outer s H E) E:=fun pins σ H1 s1 h' ea C vs I hm hE =>
 aL7 I hm rfl rfl rfl hE
theorem bf6{N:List Str}{qual:Str}{scope:Scope}{f:Addr}{cd:Value}{A:Around}{outer:List Env}{s:Shared}{H:Hp}{E:XK}:ad3 (Z5 (CXE Pg w) Pg w K mg base N qual scope f cd A outer s H E) E:=fun pins σ H1 H2 s1 s2 B ea C a0 I l hh hE =>
 leave_held I l hh rfl rfl rfl hE
theorem ap4{k i:Nat}{m:MDef}(hT:T i=some m){ds:List D}{g:G}{Q:KD}{E:KX}(h:c5 T k i ds g Q E):ds.length=m.ar:=by
 cases k with
 |zero=>exact h.elim
 |succ k =>
  obtain⟨m',e,h,_⟩:=h;rw[hT] at e;cases e;exact h
theorem bu2(kin:K.In base)(gns:base.Ns mainGlobals mg)(A:TabOk w K mg c T):∀(k i:Nat) d m f fd,T i=some m->DefOk K c d m f fd->FnOk Pg w K mg base (CXE Pg w) (2*k) f fd d.ps (spD c.exc K d.ps.length (c5 T k i)):=by
 intro k
 induction k with
 |zero =>
  intro i d m f fd hm O;refine⟨fun vs H Q E h=>h.1,fun A outer s H args us vs Q E _ _ _ _ h=>?_⟩;obtain⟨_,_,_,_,_,_,q⟩:=h;exact q.elim
 |succ k ih =>
  intro i d m f fd hm O;obtain⟨oc,od,kV,doc,pm,an,cdv,ct,osl,rfl,lk,hcd⟩:=O.fn.ex;refine bB9 (k:=2*k+1) lk hcd O.sc (fun vs H Q E h=>h.1) (fun A0 outer s H vs Q E hr h=>?_);obtain⟨hl,xs,g,ρ,rs,R,q⟩:=h;have C:COk (Z5 (CXE Pg w) Pg w K mg base d.N d.qn (n5 d.st) f cdv A0 outer s H E) (c.at d) (c5 T k) (c.exc,E):=by
   refine⟨rfl,O.sc.nd,fun x h=>h,fun x h=>h,fun x h=>.inr h,fun x h=>h,fun x h=>?_,fun _ _=>rfl,rfl,?_,(fun _=>PassesOwn.leaving),b0 T k,A.con,A.blt,fun x j hj=>?_,fun x j hj=>?_,fun x y j C' hj hC=>?_,A.fls,rfl,bd3,fun _=>aZ4,fun _=>⟨rfl,rfl,bf6⟩,fun x hx=>?_,A.exms,A.gdcs,fun _=>br5 hcd⟩
   ·rcases h with h|h
    ·exact ai4 h
    ·exact absurd rfl (O.sc.nofree _ (PySem.mem_of_lookup h))
   ·have:=hr.un;show(A0.deeper _).units+100<cLine;omega
   ·obtain⟨d',m',f',fd',hT,O',hmg⟩:=A.fns x j hj;exact⟨2*k,f',fd',d'.ps,⟨ih j d' m' f' fd' hT O',O'.bi,fun ds' g' Q' E' h'=>(ap4 hT h').trans O'.ar⟩,hr.mono (by omega),hmg,O'.fn.kp⟩
   ·obtain⟨C',d',m',f',fd',hT,O',hmg,hC,hcl,M⟩:=A.cls x j hj;exact⟨2*k,C',f',fd',d'.ps,⟨ih j d' m' f' fd' hT O',O'.bi,fun ds' g' Q' E' h'=>(ap4 hT h').trans O'.ar⟩,hr,hmg,hC,hcl,M⟩
   ·obtain⟨d',m',f',fd',hT,O',M⟩:=A.mts x y j C' hj hC;exact⟨2*k,f',fd',d'.ps,M,⟨ih j d' m' f' fd' hT O',O'.bi,fun ds' g' Q' E' h'=>(ap4 hT h').trans O'.ar⟩,hr.mono (by omega)⟩
   ·obtain⟨C,h1,h2,h3⟩:=A.excs x hx;exact⟨C,h1,h2,h3 base kin gns⟩
  refine⟨_,an7 (snd (P:=c5 T k) 60 60 (Nat.le_refl _)) C O.co,?_⟩;obtain⟨m',e,q1,q⟩:=q;rw[hm] at e;cases e;refine⟨d0 m xs,g,ρ,?_,R,wpS_mono (b0 T k) m.body ⟨fun _ g'=>LQ K ρ H Q .non g',LQ K ρ H Q,fun _ _=>False,fun _ _=>False⟩ _ _ _ _ _ ⟨fun σ g' h ρ' H' σv' e R' s'=>h ρ' H' _ e R' .non,fun d g' h=>h,fun _ _ h=>h.elim,fun _ _ h=>h.elim⟩ (fun _ _ z=>z) q⟩;have:=m8.start (n:=d.N.length) rs;unfold d0 L2.start;rw[O.nn];exact this
theorem br0{L k0:Nat}{H:Hp}{a:Addr}{ns:List Int}(hO:aN8 H)(hS:SqL K H a (ns.map V.int))(h:c5 T k0 L [.ref 0] [.fro (ns.map .int)] (fun d _=>d=.bl true) NoX) :
  spD exc K 1 (c5 T k0 L) [.ref a] H (fun v _=>v=.bl true) fun _ _ _=>False:=by
 refine⟨rfl,[.ref 0],[.fro (ns.map .int)],[a],.cons (.ref rfl) .nil,⟨rfl,fun i o b h1 h2=>?_,fun i j l m b h1 h2 m1=>?_⟩,b0 T k0 _ _ _ _ _ _ _ (fun d g' e ρ' H' v _ _ r=>?_) (fun _ _ z=>z.elim) h⟩
 ·cases i with
  |zero =>
   cases h1;cases h2;refine⟨_,?_,b9.ofInts ns⟩;rcases hS with(z|⟨o,z⟩)|z
   ·rcases hO a with q|⟨o,xs,q⟩
    ·rw[z] at q;cases q
    ·rw[z] at q;cases q
   ·exact .inl ⟨o,z⟩
   ·exact .inr z
  |succ i=>simp at h1
 ·cases i with
  |zero=>cases h1;cases m1
  |succ i=>simp at h1
 ·subst e;cases r
  rfl
end
end M

namespace M
open PySem L2
section
variable{P:Sig}{σ:S}{g:G}{Q:KD}{E:KX}{N:Ends}{a b c o:ME}{x y:MS}{p:Pr}
theorem J6(h:N.nx σ g):wpS P .pass N σ g E:=h
theorem au3(h:wpS P x ⟨fun σ1 g1=>wpS P y N σ1 g1 E,N.rt,N.bk,N.ct⟩ σ g E):wpS P (.seq x y) N σ g E:=h
theorem ab0(h:wpS P x N σ g E):wpS P (.seq x .pass) N σ g E:=h
theorem bh2(h:wpE P a σ g (fun _ g1=>N.nx σ g1) E):wpS P (.expr a) N σ g E:=h
theorem au2{i:Nat}(h:wpE P a σ g (fun x g1=>N.nx (σ.set i (some x)) g1) E):wpS P (.set i a) N σ g E:=h
theorem bu5{t:MT}(h:wpE P a σ g (fun x g1=>tgP t x σ fun σ1=>N.nx σ1 g1) E):wpS P (.unp t a) N σ g E:=h
theorem aE6{o i:ME}(h:wpE P a σ g (fun x g1=>wpE P o σ g1 (fun y g2=>wpE P i σ g2 (fun z g3=>S7 y z x g3 fun g4=>N.nx σ g4) E) E) E):wpS P (.setix o i a) N σ g E:=h
theorem bg8{f:Str}{cs:List Str}(h:wpE P a σ g (fun x g1=>wpE P o σ g1 (fun y g2=>aj5 f cs y x g2 fun g3=>N.nx σ g3) E) E):wpS P (.setf f cs o a) N σ g E:=h
theorem aI1(h:wpT P c σ g (fun t g1=>if t=true then wpS P x N σ g1 E else wpS P y N σ g1 E) E):wpS P (.ifs c x y) N σ g E:=h
theorem bu8(h:wpE P a σ g N.rt E):wpS P (.ret a) N σ g E:=h
theorem a88{x:Str}(h:wpA P a σ g (fun vs g1=>vs.length<=1000/\E ⟨x⟩ g1) E):wpS P (.raise x a) N σ g E:=h
theorem bu6{hs:List (Str×ME)}(h:wpS P x N σ g (wpH P N (σ.map fun _=>none) E hs)):wpS P (.W8 x hs) N σ g E:=h
theorem bB6{x:Xn}{y:Str}{e:ME}{r:List (Str×ME)}(hx:x.cls=y)(h:wpE P e σ g N.rt NoX):wpH P N σ E ((y,e)::r) x g:=by unfold wpH;rw[if_pos (.inl hx)];exact h
theorem w_var{i:Nat}{d:D}(e:σ[i]?=some (some d))(h:Q d g):wpE P (.var i) σ g Q E:=by rw[wpE];exact⟨d,e,h⟩
theorem w_lit{d:D}(h:Q d g):wpE P (.lit d) σ g Q E:=by rw[wpE];exact h
theorem bg9(h:wpA P a σ g (fun xs g1=>prP p xs g1 Q) E):wpE P (.prim p a) σ g Q E:=by rw[wpE];exact h
theorem bD9(h:prP p [] g Q):wpE P (.prim p .nil) σ g Q E:=by rw[wpE,wpA];exact h
theorem aw4(h:wpE P a σ g (fun x g1=>prP p [x] g1 Q) E):wpE P (.prim p (.cons a .nil)) σ g Q E:=by simp only[wpE,wpA];exact h
theorem aw3(h:wpE P a σ g (fun x g1=>wpE P b σ g1 (fun y g2=>prP p [x,y] g2 Q) E) E):wpE P (.prim p (.cons a (.cons b .nil))) σ g Q E:=by simp only[wpE,wpA];exact h
theorem a89{o1 o2:CmpOp}(h:wpE P a σ g (fun x g1=>wpE P b σ g1 (fun y g2=>prP (.cmp o1) [x,y] g2 fun z g3=>∃t,z=.bl t/\if t=true then wpE P c σ g3 (fun w g4=>prP (.cmp o2) [y,w] g4 Q) E else Q (.bl false) g3) E) E):wpE P (.chain o1 o2 a b c) σ g Q E:=by rw[wpE];exact h
theorem w_and(h:wpE P a σ g (fun x g1=>∃t,x=.bl t/\if t=true then wpE P b σ g1 Q E else Q (.bl false) g1) E):wpE P (.and_ a b) σ g Q E:=by rw[wpE];exact h
theorem w_not(h:wpE P a σ g (fun x g1=>∃t,x=.bl t/\Q (.bl (!t)) g1) E):wpE P (.not_ a) σ g Q E:=by rw[wpE];exact h
theorem w_ite(h:wpT P c σ g (fun t g1=>if t=true then wpE P a σ g1 Q E else wpE P b σ g1 Q E) E):wpE P (.ite c a b) σ g Q E:=by rw[wpE];exact h
theorem aj0{f:Nat}(h:wpA P a σ g (fun xs g1=>P f xs g1 Q E) E):wpE P (.call f a) σ g Q E:=by rw[wpE];exact h
theorem bh1{f:Nat}{c:Str}(h:wpA P a σ g (fun xs g1=>P f (.ref g1.length::xs) (g1++[.ins c []]) (fun d g2=>d=.non/\Q (.ref g1.length) g2) E) E):wpE P (.make c f a) σ g Q E:=by rw[wpE];exact h
theorem bh0(h:wpE P o σ g (fun x g1=>mkP p x g1/\wpA P a σ g1 (fun xs g2=>prP p (x::xs) g2 Q) E) E):wpE P (.meth p o a) σ g Q E:=by rw[wpE];exact h
theorem au4{Q:List D->G->Prop}(h:Q [] g):wpA P .nil σ g Q E:=by rw[wpA];exact h
theorem P0{Q:List D->G->Prop}(h:wpE P a σ g (fun x g1=>wpA P b σ g1 (fun xs g2=>Q (x::xs) g2) E) E):wpA P (.cons a b) σ g Q E:=by rw[wpA];exact h
theorem bg7{Q:Bool->G->Prop}(h:wpT P a σ g (fun t g1=>if t=true then wpT P b σ g1 Q E else Q false g1) E):wpT P (.and_ a b) σ g Q E:=by rw[wpT];exact h
theorem bu7{Q:Bool->G->Prop}(h:wpT P a σ g (fun t g1=>if t=true then Q true g1 else wpT P b σ g1 Q E) E):wpT P (.or_ a b) σ g Q E:=by rw[wpT];exact h
theorem bg6{Q:Bool->G->Prop}(h:wpT P a σ g (fun t g1=>Q (!t) g1) E):wpT P (.not_ a) σ g Q E:=by rw[wpT];exact h
theorem au1{Q:Bool->G->Prop}(h:Q true g):wpT P .no σ g Q E:=by rw[wpT];exact h
theorem aI0{Q:Bool->G->Prop}(h:wpE P a σ g (fun x g1=>W9 g1 x fun b=>Q b g1) E):wpT P (.tst a) σ g Q E:=by rw[wpT];exact h
end
section
variable{g:G}{Q:KD}{i j:Int}{kb:Bool->Prop}{t s:Bool}{l m:List D}
theorem bD7(h:Q (.int (i+j)) g):prP (.bin .Add) [.int i,.int j] g Q:=⟨_,_,.inl ⟨i,j,_,rfl,rfl,rfl,rfl⟩,h⟩
theorem bD6(h:Q (.int (i-j)) g):prP (.bin .Sub) [.int i,.int j] g Q:=⟨_,_,.inl ⟨i,j,_,rfl,rfl,rfl,rfl⟩,h⟩
theorem K6(c:ai9 i j)(h:Q (.int (i*j)) g):prP (.bin .Mult) [.int i,.int j] g Q:=⟨_,_,.inl ⟨i,j,_,rfl,⟨c,rfl⟩,rfl,rfl⟩,h⟩
theorem O4(c:0<j)(h:Q (.int (i % j)) g):prP (.bin .Mod) [.int i,.int j] g Q:=⟨_,_,.inl ⟨i,j,_,rfl,⟨c,rfl⟩,rfl,rfl⟩,h⟩
theorem av5(c:a52 i j)(h:Q (.int (i / j)) g):prP (.bin .FloorDiv) [.int i,.int j] g Q:=⟨_,_,.inl ⟨i,j,_,rfl,⟨c,rfl⟩,rfl,rfl⟩,h⟩
theorem bu3(h1:0<j)(h2:j<1073741824)(h:Q (.int (i / j)) g):prP (.bin .FloorDiv) [.int i,.int j] g Q:=av5 ⟨h1,h2⟩ h
theorem aN6(c:aa3 i j)(h:Q (.int (i ^ j.toNat)) g):prP (.bin .Pow) [.int i,.int j] g Q:=⟨_,_,.inl ⟨i,j,_,rfl,⟨c,rfl⟩,rfl,rfl⟩,h⟩
theorem am4{i j:Nat}(hi:g[i]?=some (.lst l))(hj:g[j]?=some (.lst m))(hl:l.length+m.length<=100000)(h:Q (.ref g.length) (g++[.lst (l++m)])):prP (.bin .Add) [.ref i,.ref j] g Q:=⟨_,_,.inr (.inl ⟨rfl,.inr (.inl ⟨i,j,l,m,rfl,hi,hj,hl,rfl,rfl⟩)⟩),h⟩
theorem bv0(h:Q (.int (-i)) g):prP (.un .USub) [.int i] g Q:=⟨_,_,⟨rfl,i,rfl,rfl,rfl⟩,h⟩
theorem Q6{op:CmpOp}{x y:D}{b:Bool}(hb:bt6 g x y b op)(h:Q (.bl b) g):prP (.cmp op) [x,y] g Q:=⟨_,_,⟨x,y,b,rfl,hb,rfl,rfl⟩,h⟩
theorem bK0(h:Q (.bl (decide (i<j))) g):prP (.cmp .Lt) [.int i,.int j] g Q:=Q6 ⟨i,j,rfl,rfl,rfl⟩ h
theorem bK1(h:Q (.bl (decide (i<=j))) g):prP (.cmp .LtE) [.int i,.int j] g Q:=Q6 ⟨i,j,rfl,rfl,rfl⟩ h
theorem bK2(h:Q (.bl (decide (j<i))) g):prP (.cmp .Gt) [.int i,.int j] g Q:=Q6 ⟨i,j,rfl,rfl,rfl⟩ h
theorem bK3(h:Q (.bl (decide (j<=i))) g):prP (.cmp .GtE) [.int i,.int j] g Q:=Q6 ⟨i,j,rfl,rfl,rfl⟩ h
theorem a43{x y:D}(h:eqP g x y fun b=>Q (.bl b) g):prP (.cmp .Eq) [x,y] g Q:=let ⟨_,hb,h⟩:=h;Q6 hb h
theorem a42{x y:D}(h:eqP g x y fun b=>Q (.bl (!b)) g):prP (.cmp .NotEq) [x,y] g Q:=let ⟨b,hb,h⟩:=h;Q6 (b:=!b) (show eqR g x y (!(!b)) from by rw[Bool.not_not];exact hb) h
theorem bt8{x y:D}(h:inP g x y fun b=>Q (.bl b) g):prP (.cmp .In) [x,y] g Q:=let ⟨_,hb,h⟩:=h;Q6 (.inl hb) h
theorem bD0{a n:Nat}{S:Int->Bool}(hg:g[a]?=some (.set S n))(h:Q (.bl (S i)) g):prP (.cmp .In) [.int i,.ref a] g Q:=Q6 (.inr ⟨a,S,n,i,rfl,hg,rfl,rfl⟩) h
theorem av4{x y:D}(h:inP g x y fun b=>Q (.bl (!b)) g):prP (.cmp .NotIn) [x,y] g Q:=let ⟨b,hb,h⟩:=h;Q6 (b:=!b) (.inl (show inR g x y (!(!b)) from by rw[Bool.not_not];exact hb)) h
theorem a62(h:kb (decide (i=j))):eqP g (.int i) (.int j) kb:=⟨_,.inl ⟨i,j,rfl,rfl,rfl⟩,h⟩
theorem bm1(h:kb (t==s)):eqP g (.bl t) (.bl s) kb:=⟨_,.inr (.inl ⟨t,s,rfl,rfl,rfl⟩),h⟩
theorem bx8{x y:Str}(h:kb (decide (x=y))):eqP g (.str x) (.str y) kb:=⟨_,.inr (.inr (.inl ⟨x,y,rfl,rfl,rfl⟩)),h⟩
theorem bD3(h:Q (.bl (decide (i=j))) g):prP (.cmp .Eq) [.int i,.int j] g Q:=a43 (a62 h)
theorem a75(h:Q (.bl (!decide (i=j))) g):prP (.cmp .NotEq) [.int i,.int j] g Q:=a42 (a62 h)
theorem bD4(h:Q (.bl (t==s)) g):prP (.cmp .Eq) [.bl t,.bl s] g Q:=a43 (bm1 h)
theorem bC3(h:Q (.bl (!(t==s))) g):prP (.cmp .NotEq) [.bl t,.bl s] g Q:=a42 (bm1 h)
theorem bD2{p q:Str}(h:Q (.bl (decide (p=q))) g):prP (.cmp .Eq) [.str p,.str q] g Q:=a43 (bx8 h)
theorem ai5{d:D}(h:Q (.bl (M5 d)) g):prP (.cmp .Is) [d,.non] g Q:=Q6 ⟨rfl,rfl⟩ h
theorem a76{d:D}(h:Q (.bl (!M5 d)) g):prP (.cmp .IsNot) [d,.non] g Q:=Q6 ⟨rfl,rfl⟩ h
theorem bC9(h:Q (.bl true) g):prP (.cmp .Is) [.non,.non] g Q:=ai5 h
theorem bC7(h:Q (.bl false) g):prP (.cmp .Is) [.int i,.non] g Q:=ai5 h
theorem bC8(h:Q (.bl false) g):prP (.cmp .Is) [.bl t,.non] g Q:=ai5 h
theorem bC5{x:Str}(h:Q (.bl false) g):prP (.cmp .Is) [.str x,.non] g Q:=ai5 h
theorem bC4(h:Q (.bl false) g):prP (.cmp .Is) [.tup l,.non] g Q:=ai5 h
theorem bC6{n:Nat}(h:Q (.bl false) g):prP (.cmp .Is) [.ref n,.non] g Q:=ai5 h
theorem bD1(h:Q (.bl false) g):prP (.cmp .IsNot) [.non,.non] g Q:=a76 h
theorem bE2(h:kb t):W9 g (.bl t) kb:=⟨t,.inr (.inl rfl),h⟩
theorem bv7(h:kb (i != 0)):W9 g (.int i) kb:=⟨_,.inr (.inr (.inl ⟨i,rfl,rfl⟩)),h⟩
theorem bv6{i:Nat}(hl:d4 g i=some l)(h:kb (!l.isEmpty)):W9 g (.ref i) kb:=⟨_,.inr (.inr (.inr (.inr ⟨i,l,rfl,hl,rfl⟩))),h⟩
theorem ap5{t:Bool}{p:Bool->Prop}(h:p t):∃s,D.bl t=D.bl s/\p s:=⟨t,rfl,h⟩
theorem bs2{p:Int->Prop}(h:p i):∃s,D.int i=D.int s/\p s:=⟨i,rfl,h⟩
theorem if2{c:Prop}[Decidable c]{A B:Prop}(h1:c->A)(h2:¬c->B):if decide c=true then A else B:=by
 by_cases h:c
 ·rw[if_pos (decide_eq_true h)];exact h1 h
 ·rw[if_neg (by rw[decide_eq_false h];decide)];exact h2 h
theorem ift{A B:Prop}(h:A):if true=true then A else B:=by rw[if_pos rfl];exact h
theorem ai1{A B:Prop}(h:B):if false=true then A else B:=by rw[if_neg (by decide)];exact h
theorem bs5{A B:Prop}(h:A):if(!false)=true then A else B:=by rw[if_pos (show(!false)=true from rfl)];exact h
theorem bJ0{A B:Prop}(h:B):if(!true)=true then A else B:=by rw[if_neg (by decide)];exact h
theorem ifF{b:Bool}{A B:Prop}(hb:b=false)(h:B):if b=true then A else B:=by rw[hb];exact ai1 h
theorem ifT{b:Bool}{A B:Prop}(hb:b=true)(h:A):if b=true then A else B:=by rw[hb];exact ift h
theorem q8{a:Nat}{d:D}(hl:d4 g a=some l)(h2:atI l i=some d)(h:Q d g):prP .ix [.ref a,.int i] g Q:=⟨_,_,⟨rfl,.inl ⟨_,l,i,rfl,hl,h2⟩⟩,h⟩
theorem E1{d:D}(h2:atI l i=some d)(h:Q d g):prP .ix [.tup l,.int i] g Q:=⟨_,_,⟨rfl,.inl ⟨_,l,i,rfl,rfl,h2⟩⟩,h⟩
theorem az6{i:Nat}{kvs:List (Key×D)}{y v:D}{k:Key}(hg:g[i]?=some (.dic kvs))(hk:U0 y=some k)(hv:p6 kvs k=some v)(h:Q v g):prP .ix [.ref i,y] g Q:=⟨_,_,⟨rfl,.inr (.inl ⟨i,kvs,y,k,rfl,hg,hk,hv⟩)⟩,h⟩
theorem Q9{a n:Nat}{v:D}{kg:G->Prop}(hl:g[a]?=some (.lst l))(hn:ixN l.length i=some n)(h:kg (g.set a (.lst (l.set n v)))):S7 (.ref a) (.int i) v g kg:=⟨_,.inl ⟨a,i,l,n,rfl,rfl,hl,hn,rfl⟩,h⟩
theorem a60{i:Nat}{kvs:List (Key×D)}{y v:D}{k:Key}{kg:G->Prop}(hg:g[i]?=some (.dic kvs))(hk:U0 y=some k)(hl:kvs.length<100000)(h:kg (g.set i (.dic (putD kvs k v)))):S7 (.ref i) y v g kg:=⟨_,.inr ⟨i,kvs,k,rfl,hg,hk,hl,rfl⟩,h⟩
theorem X2{f c:Str}{cs:List Str}{a:Nat}{fs:List (Str×D)}{v:D}{kg:G->Prop}(hg:g[a]?=some (.ins c fs))(hc:c∈cs)(hl:fs.length<100)(h:kg (g.set a (.ins c (j6 f v fs)))):aj5 f cs (.ref a) v g kg:=⟨_,⟨a,c,fs,rfl,hg,hc,hl,rfl⟩,h⟩
theorem Q2{f c:Str}{a:Nat}{fs:List (Str×D)}{d:D}(hg:g[a]?=some (.ins c fs))(hf:fs.lookup f=some d)(h:Q d g):prP (.fld f) [.ref a] g Q:=⟨_,_,⟨a,c,fs,rfl,hg,hf,rfl⟩,h⟩
theorem a7{a:Nat}(h:g[a]?=some (.lst l)):d4 g a=some l:=by simp only[d4,h,az7]
theorem aT6{a:Nat}(h:g[a]?=some (.fro l)):d4 g a=some l:=by simp only[d4,h,az7]
theorem S0{a:Nat}(hl:d4 g a=some l)(h:Q (.int l.length) g):prP .len [.ref a] g Q:=⟨_,_,⟨rfl,.inl ⟨_,l,rfl,hl,rfl⟩⟩,h⟩
theorem aP8{a:Nat}(hl:d4 g a=some l)(h:Q (.ref g.length) (g++[.lst (cut l none (some i))])):prP (.slc false true) [.ref a,.int i] g Q:=⟨_,_,⟨_,i,rfl,.inr ⟨a,l,rfl,hl,rfl,rfl⟩⟩,h⟩
theorem aK2(hl:l.length<=1000)(h:Q (.tup l) g):prP .tup l g Q:=⟨_,_,⟨hl,rfl,rfl⟩,h⟩
theorem aK3(hl:l.length<=1000)(h:Q (.ref g.length) (g++[.lst l])):prP .lst l g Q:=⟨_,_,⟨hl,rfl,rfl⟩,h⟩
theorem a65{a:Nat}(hl:d4 g a=some l)(h:Q (.ref g.length) (g++[.lst l])):prP .list [.ref a] g Q:=⟨_,_,⟨_,l,rfl,hl,rfl,rfl⟩,h⟩
theorem bv2{a:Nat}(hl:d4 g a=some l)(h:Q (.tup l) g):prP .tuple [.ref a] g Q:=⟨_,_,⟨_,l,rfl,hl,rfl,rfl⟩,h⟩
theorem isi{d:D}{c:String}{b:Bool}(hc:c∈["int","bool","str","tuple","list"])(hb:ai0 g d c=some b)(h:Q (.bl b) g):prP .isin [d,.ty c] g Q:=⟨_,_,⟨d,c,b,rfl,hc,hb,rfl,rfl⟩,h⟩
theorem R7{i:Nat}{y:D}(hg:g[i]?=some (.lst l))(hl:l.length<100000)(h:Q .non (g.set i (.lst (l++[y])))):prP .append [.ref i,y] g Q:=⟨_,_,⟨i,y,l,rfl,hg,hl,rfl,rfl⟩,h⟩
theorem bA0{i j:Nat}{y:D}{n:Int}(hg:g[i]?=some (.lst l))(hn:n=j)(hj:l[j]?=some y)(hl:l.length<100000)(h:Q y (g.set i (.lst (l.eraseIdx j)))):prP .pop [.ref i,.int n] g Q:=by
 have hlt:=(List.getElem?_eq_some_iff.mp hj).1;refine⟨_,_,⟨i,n,l,j,rfl,hg,by omega,by omega,?_,hj,rfl⟩,h⟩;rw[hn];exact PySem.StrLaws.seqIndex_nonneg (by omega) (by omega) |>.trans (by simp)
theorem aL5{i:Nat}{kvs:List (Key×D)}{y z:D}{k:Key}(hg:g[i]?=some (.dic kvs))(hk:U0 y=some k)(h:Q ((p6 kvs k).getD z) g):prP .get [.ref i,y,z] g Q:=⟨_,_,⟨i,y,z,kvs,k,rfl,hg,hk,rfl,rfl⟩,h⟩
theorem bs6{i j:Int}(h:Q (.int (i+j)) g):prP .iadd [.int i,.int j] g Q:=⟨_,_,.inl ⟨i,j,rfl,rfl,rfl⟩,h⟩
theorem ab6{i:Nat}(hg:g[i]?=some (.lst l)):mkP .append (.ref i) g:=⟨i,l,rfl,a7 hg⟩
theorem bq1{i:Nat}(hg:g[i]?=some (.lst l)):mkP .pop (.ref i) g:=⟨i,l,rfl,a7 hg⟩
theorem bI2{i:Nat}{l:List (Key×D)}(hg:g[i]?=some (.dic l)):mkP .get (.ref i) g:=⟨i,l,rfl,hg⟩
theorem lr1{j:Int}(h1:-(2 ^ 62)<=j)(h2:j<=100000)(h:Q (.ref g.length) (g++[.lst (j7 0 j.toNat)])):prP .lrng1 [.int j] g Q:=⟨_,_,⟨j,rfl,h1,h2,rfl,rfl⟩,h⟩
theorem lr2{i j:Int}(h1:-(2 ^ 62)<=i/\i<2 ^ 62/\-(2 ^ 62)<=j/\j<2 ^ 62/\j-i<=100000)(h:Q (.ref g.length) (g++[.lst (j7 i (j-i).toNat)])):prP .lrng2 [.int i,.int j] g Q:=⟨_,_,⟨i,j,rfl,h1,rfl,rfl⟩,h⟩
theorem bo5{a:Nat}{ns:List Int}(hl:d4 g a=some (ns.map .int))(hz:ns.length<60)(h:Q (.ref g.length) (g++[.lst ((m7 ns).map .int)])):prP .sset [.ref a] g Q:=⟨_,_,⟨a,ns,rfl,hl,hz,rfl,rfl⟩,h⟩
theorem Z3(h:Q (.ref g.length) (g++[.dic []])):prP .Z3 [] g Q:=⟨_,_,⟨rfl,rfl,rfl⟩,h⟩
theorem max2{i j:Int}(h:Q (.int (if j>i then j else i)) g):prP .max [.int i,.int j] g Q:=⟨_,_,⟨rfl,.inl ⟨i,j,rfl,rfl⟩⟩,h⟩
theorem bq4{a n:Nat}{i:Int}{S:Int->Bool}(hg:g[a]?=some (.set S n))(hn:n+1<4096)(h:Q .non (g.set a (.set (fun k=>S k||decide (k=i)) (if S i then n else n+1)))):prP .sadd [.ref a,.int i] g Q:=⟨_,_,⟨a,i,S,n,rfl,hg,hn,rfl,rfl⟩,h⟩
theorem be5{a n:Nat}{S:Int->Bool}(hg:g[a]?=some (.set S n)):mkP .sadd (.ref a) g:=⟨a,S,n,rfl,hg⟩
theorem bd4{i:Int}(h:Q (.ref g.length) (g++[.set (fun k=>decide (k=i)) 1])):prP (.sdisp i) [] g Q:=⟨_,_,⟨rfl,rfl,rfl⟩,h⟩
theorem a55{a:Nat}{ns:List Int}(hl:d4 g a=some (ns.map .int))(h:Q (.int ns.sum) g):prP .sum [.ref a] g Q:=⟨_,_,⟨a,ns,rfl,hl,rfl,rfl⟩,h⟩
theorem bD5{a:Nat}{ns:List Int}(hl:d4 g a=some (ns.map .int))(h:Q (.bl (ns.all fun n=>n != 0)) g):prP .all [.ref a] g Q:=⟨_,_,⟨a,_,_,rfl,hl,.inr ⟨ns,rfl,rfl⟩,rfl,rfl⟩,h⟩
theorem aN5{i j:Int}(c:aa3 i j)(h:Q (.int (i*2 ^ j.toNat)) g):prP (.bin .LShift) [.int i,.int j] g Q:=⟨_,_,.inl ⟨i,j,_,rfl,⟨c,rfl⟩,rfl,rfl⟩,h⟩
theorem am7{i j:Int}(h:Q (.int (Builtin.bitAnd i j)) g):prP (.bin .BitAnd) [.int i,.int j] g Q:=⟨_,_,.inl ⟨i,j,_,rfl,rfl,rfl,rfl⟩,h⟩
theorem bK9{i j:Int}(h:Q (.int (Builtin.bitOr i j)) g):prP (.bin .BitOr) [.int i,.int j] g Q:=⟨_,_,.inl ⟨i,j,_,rfl,rfl,rfl,rfl⟩,h⟩
theorem aO3{P:Sig}{σ:S}{E:KX}{N:Ends}{i:Nat}{p:Pr}{v:ME}{x:D}(e:σ[i]?=some (some x))(h:wpE P v σ g (fun z g1=>prP p [x,z] g1 fun w g2=>N.nx (σ.set i (some w)) g2) E):wpS P (.augl i p v) N σ g E:=⟨x,e,h⟩
theorem bs0{i j:Int}(h:Q (.int (i-j)) g):prP .isub [.int i,.int j] g Q:=⟨_,_,⟨i,j,rfl,rfl,rfl⟩,h⟩
theorem min2{i j:Int}(h:Q (.int (if j<i then j else i)) g):prP .min [.int i,.int j] g Q:=⟨_,_,⟨rfl,.inl ⟨i,j,rfl,rfl⟩⟩,h⟩
theorem bB2{v:Bool}(h:Q (.int (if v then 1 else 0)) g):prP .int [.bl v] g Q:=⟨_,_,⟨rfl,.inr ⟨v,rfl,rfl⟩⟩,h⟩
theorem a68{kvs:List D}{x:Str}{v:D}(hv:M4 kvs x=some v)(h:Q v g):prP .gget [.tup kvs,.str x] g Q:=⟨_,_,⟨kvs,x,rfl,hv,rfl⟩,h⟩
theorem bJ7{i:Int}(hi:i.natAbs.log2<1920)(h:Q (.str (toString i)) g):prP .fv [.int i] g Q:=⟨_,_,⟨rfl,.inl ⟨i,rfl,hi,rfl⟩⟩,h⟩
theorem bo6{x:Str}(hx:S1 l=some x)(h:Q (.str x) g):prP .fstr l g Q:=⟨_,_,⟨x,hx,rfl,rfl⟩,h⟩
theorem a81{i:Nat}{v:Bool}(hl:d4 g i=some l)(hv:S5 l=some v)(h:Q (.bl v) g):prP .all [.ref i] g Q:=⟨_,_,⟨i,l,v,rfl,hl,.inl hv,rfl,rfl⟩,h⟩
theorem p9{i:Nat}{x:D}{σ:S}{k:S->Prop}(h:k (σ.set i (some x))):tgP (.one i) x σ k:=h
theorem A3{is:List Nat}{σ σ':S}{k:S->Prop}(e:C0 is l σ=some σ')(h:k σ'):tgP (.many is) (.tup l) σ k:=⟨l,σ',rfl,e,h⟩
end
theorem at0:∀(bs:List Bool),S5 (bs.map D.bl)=some (bs.all id):=by
 intro bs
 induction bs with
 |nil=>rfl
 |cons b r ih=>simp[S5,ih]
theorem call_of{T:Nat->Option MDef}{k f:Nat}{m:MDef}{ds:List D}{g:G}{Q:KD}{E:KX}(hT:T f=some m)(hl:ds.length=m.ar)(h:wpS (c5 T k) m.body ⟨fun _ g'=>Q .non g',Q,fun _ _=>False,fun _ _=>False⟩ (d0 m ds) g E):c5 T (k+1) f ds g Q E:=⟨m,hT,hl,h⟩
noncomputable def IK.Is(k:IK)(l:List D)(g:G):Prop:=∀i,k.at i g=some l[i]?
theorem A2{l:List D}{g:G}:(IK.fix l).Is l g:=fun _=>rfl
theorem A1{a:Nat}{l:List D}{g:G}(h:d4 g a=some l):(IK.lst a).Is l g:=fun i=>by simp only[IK.at,h]
noncomputable def enD(l:List D):List D:=l.mapIdx fun i d=>.tup [.int i,d]
theorem ak8{a:Nat}{l:List D}{g:G}(h:d4 g a=some l):(IK.enl a).Is (enD l) g:=fun i=>by
 simp only[IK.at,h,enD,List.getElem?_mapIdx]
theorem br9{a:Nat}{l:List D}{g:G}(h:d4 g a=some l):(IK.rvl a l.length).Is l.reverse g:=fun i=>by
 simp only[IK.at,h,if_true];by_cases hi:i<l.length
 ·rw[if_pos hi,List.getElem?_reverse hi]
 ·rw[if_neg hi,List.getElem?_eq_none (by simpa using hi)]
theorem L5(l:List D):(enD l).length=l.length:=by simp[enD]
theorem af0{l:List D}{i:Nat}{x:D}(h:(enD l)[i]?=some x):∃d,l[i]?=some d/\x=.tup [.int i,d]:=by
 rw[enD,List.getElem?_mapIdx,Option.map_eq_some_iff] at h;obtain⟨d,h1,h2⟩:=h;exact⟨d,h1,h2.symm⟩
theorem E6{lo:Int}{n i:Nat}{x:D}(h:(j7 lo n)[i]?=some x):i<n/\x=.int (lo+i):=by
 unfold j7 at h;have hi:i<n:=by
  have:=(List.getElem?_eq_some_iff.mp h).1;simpa using this
 rw[List.getElem?_map,List.getElem?_range hi] at h;cases h;exact⟨hi,rfl⟩
theorem m9(lo:Int)(n:Nat):(j7 lo n).length=n:=by simp[j7]
section
variable{P:Sig}{σ:S}{g:G}{E:KX}{N:Ends}{it a b c o:ME}{s:MS}{t:MT}{Q:KD}
theorem aX4{k:IK}{l:List D}{fin:S->G->Prop}{turn:D->(S->G->Prop)->S->G->Prop}(I:Nat->S->G->Prop)(hk:∀i σ g,I i σ g->k.Is l g)(h0:I 0 σ g)(hs:∀i x σ g,l[i]?=some x->I i σ g->turn x (I (i+1)) σ g)(hd:∀σ g,I l.length σ g->fin σ g):turns k σ g fin turn:=by
 refine⟨fun i m σ g=>m=l.length-i/\i<=l.length/\I i σ g,⟨l.length,by simp,Nat.zero_le _,h0⟩,?_⟩;rintro i m σ g ⟨rfl,hi,p⟩;rw[hk i σ g p i];by_cases hlt:i<l.length
 ·rw[List.getElem?_eq_getElem hlt];exact .inr ⟨_,rfl,I (i+1),fun σ' g' p'=>⟨l.length-(i+1),by omega,rfl,hlt,p'⟩,hs i l[i] σ g (List.getElem?_eq_getElem hlt) p⟩
 ·have e:i=l.length:=by omega
  subst e;rw[List.getElem?_eq_none (Nat.le_refl _)];exact .inl ⟨rfl,hd σ g p⟩
theorem C6(hP:i4 P)(h:wpI P it σ g (fun k g1=>∃(l:List D) (I:Nat->S->G->Prop),(∀i σ g,I i σ g->k.Is l g)/\I 0 σ g1 /\
      (∀ i x σ g,l[i]?=some x->I i σ g->tgP t x σ fun σ2=>wpS P s ⟨I (i + 1),N.rt,N.nx,I (i + 1)⟩ σ2 g E)/\∀ σ g,I l.length σ g->N.nx σ g) E):wpS P (.for_ t it s) N σ g E :=
  y9 hP it _ _ _ _ _ _ (fun k g1 ⟨l,I,hk,h0,hs,hd⟩=>aX4 I hk h0 hs hd) (fun _ _ z=>z) h
theorem F3{d5:List Nat}{n:Nat}{cond elt:ME}(hP:i4 P)(h:wpI P it σ g (fun k g1=>∃(l:List D) (I:Nat->List D->S->G->Prop),l.length<=1000/\(∀i ys σ g,I i ys σ g->k.Is l g/\ys.length<=i)/\I 0 [] (C8 σ d5 n) g1 /\
      (∀i x ys σ g,l[i]?=some x->I i ys σ g->tgP t x σ fun σ2=>wpT P cond σ2 g (fun c g3=>if c=true then wpE P elt σ2 g3 (fun y g4=>I (i+1) (ys++[y]) σ2 g4) NoX else I (i+1) ys σ2 g3) NoX) /\
      ∀ ys σ g,I l.length ys σ g->Q (.ref g.length) (g ++ [.lst ys])) E):wpE P (.comp d5 n t it cond elt) σ g Q E:=by
  rw[wpE];refine y9 hP it _ _ _ _ _ _ (fun k g1 h=>?_) (fun _ _ z=>z) h;obtain⟨l,I,hl,hk,h0,hs,hd⟩:=h;refine⟨fun i m ys σ g=>m=l.length-i/\i<=l.length/\I i ys σ g,⟨l.length,by simp,Nat.zero_le _,h0⟩,?_⟩;rintro i m ys σ g ⟨rfl,hi,p⟩;obtain⟨hk',hy⟩:=hk i ys σ g p;rw[hk' i];by_cases hlt:i<l.length
  · rw[List.getElem?_eq_getElem hlt];refine .inr ⟨_,rfl,by omega,v8 (fun σ2 q=>n9 hP cond _ _ _ _ _ _ (fun c g3 q=>?_) (fun _ _ z=>z) q) (hs i l[i] ys σ g (List.getElem?_eq_getElem hlt) p)⟩;cases c
    · exact⟨l.length-(i+1),by omega,rfl,hlt,by simpa using(show I (i+1) ys σ2 g3 from q)⟩
    · exact b8 hP elt _ _ _ _ _ _ (fun y g4 q=>⟨l.length-(i+1),by omega,rfl,hlt,by simpa using q⟩) (fun _ _ z=>z) q
  · have e:i=l.length:=by omega
    subst e;rw[List.getElem?_eq_none (Nat.le_refl _)];exact .inl ⟨rfl,hd ys σ g p⟩
theorem a87{d5:List Nat}{n:Nat}{cond elt:ME}(hP:i4 P)(h:wpI P it σ g (fun k g1=>∃(l:List D) (I:Nat->List Int->S->G->Prop),l.length<60/\(∀i ys σ g,I i ys σ g->k.Is l g/\ys.length<=i)/\I 0 [] (C8 σ d5 n) g1 /\
      (∀i x ys σ g,l[i]?=some x->I i ys σ g->tgP t x σ fun σ2=>wpT P cond σ2 g (fun c g3=>if c=true then wpE P elt σ2 g3 (fun y g4=>∃j,y=.int j/\I (i+1) (ys++[j]) σ2 g4) NoX else I (i+1) ys σ2 g3) NoX) /\
      ∀ ys σ g,I l.length ys σ g->Q (.ref g.length) (g ++ [.lst ((m7 ys).map .int)])) E):wpE P (.scomp d5 n t it cond elt) σ g Q E:=by
  rw[wpE];refine y9 hP it _ _ _ _ _ _ (fun k g1 h=>?_) (fun _ _ z=>z) h;obtain⟨l,I,hl,hk,h0,hs,hd⟩:=h;refine⟨fun i m ys σ g=>m=l.length-i/\i<=l.length/\I i ys σ g,⟨l.length,by simp,Nat.zero_le _,h0⟩,?_⟩;rintro i m ys σ g ⟨rfl,hi,p⟩;obtain⟨hk',hy⟩:=hk i ys σ g p;rw[hk' i];by_cases hlt:i<l.length
  · rw[List.getElem?_eq_getElem hlt];refine .inr ⟨_,rfl,by omega,v8 (fun σ2 q=>n9 hP cond _ _ _ _ _ _ (fun c g3 q=>?_) (fun _ _ z=>z) q) (hs i l[i] ys σ g (List.getElem?_eq_getElem hlt) p)⟩;cases c
    · exact⟨l.length-(i+1),by omega,rfl,hlt,by simpa using(show I (i+1) ys σ2 g3 from q)⟩
    · refine b8 hP elt _ _ _ _ _ _ (fun y g4 q=>?_) (fun _ _ z=>z) q;obtain⟨j,e,q⟩:=q;exact⟨j,e,l.length-(i+1),by omega,rfl,hlt,by simpa using q⟩
  · have e:i=l.length:=by omega
    subst e;rw[List.getElem?_eq_none (Nat.le_refl _)];exact .inl ⟨rfl,by omega,hd ys σ g p⟩
theorem aI3{d5:List Nat}{n:Nat}{cond elt:ME}(hP:i4 P)(h:wpE P a σ g (fun x g1=>∃j:Nat,x=.int j/\j<=1000/\∃I:Nat->List D->S->G->Prop,I 0 [] (C8 σ d5 n) g1/\(∀i ys σ g,I i ys σ g->ys.length<=i) /\
      (∀(i:Nat) ys σ g,i<j->I i ys σ g->tgP t (.int i) σ fun σ2=>wpT P cond σ2 g (fun c g3=>if c=true then wpE P elt σ2 g3 (fun y g4=>I (i+1) (ys++[y]) σ2 g4) NoX else I (i+1) ys σ2 g3) NoX) /\
      ∀ ys σ g,I j ys σ g->Q (.ref g.length) (g ++ [.lst ys])) E):wpE P (.comp d5 n t (.itR1 a) cond elt) σ g Q E:=by
  refine F3 hP ?_;rw[wpI];refine b8 hP a _ _ _ _ _ _ (fun x g1 h=>?_) (fun _ _ z=>z) h;obtain⟨j,rfl,hj,I,h0,hz,hs,hd⟩:=h;refine⟨j,rfl,by omega,by omega,_,I,by rw[m9];simpa using hj,fun i ys σ g p=>⟨A2,hz i ys σ g p⟩,h0,fun i x ys σ g hx p=>?_,fun ys σ g p=>hd ys σ g (by rw[m9] at p;simpa using p)⟩;obtain⟨hi,rfl⟩:=E6 hx;rw[show(0:Int)+(i:Int)=i by omega];exact hs i ys σ g (by simpa using hi) p
theorem aI2{d5:List Nat}{n:Nat}{cond elt:ME}(hP:i4 P)(h:wpE P a σ g (fun x g1=>∃l,x=.tup l/\l.length<=1000/\∃I:Nat->List D->S->G->Prop,I 0 [] (C8 σ d5 n) g1/\(∀i ys σ g,I i ys σ g->ys.length<=i) /\
      (∀(i:Nat) x ys σ g,l[i]?=some x->I i ys σ g->tgP t x σ fun σ2=>wpT P cond σ2 g (fun c g3=>if c=true then wpE P elt σ2 g3 (fun y g4=>I (i+1) (ys++[y]) σ2 g4) NoX else I (i+1) ys σ2 g3) NoX) /\
      ∀ ys σ g,I l.length ys σ g->Q (.ref g.length) (g ++ [.lst ys])) E):wpE P (.comp d5 n t (.itE a) cond elt) σ g Q E:=by
  refine F3 hP ?_;rw[wpI];refine b8 hP a _ _ _ _ _ _ (fun x g1 h=>?_) (fun _ _ z=>z) h;obtain⟨l,rfl,hj,I,h0,hz,hs,hd⟩:=h;exact .inl ⟨l,rfl,_,I,hj,fun i ys σ g p=>⟨A2,hz i ys σ g p⟩,h0,hs,hd⟩
theorem aE5(I:Nat->S->G->Prop)(m0:Nat)(h0:I m0 σ g)(hs:∀m σ g,I m σ g->wpT P c σ g (fun t g1=>if t=true then wpS P s ⟨fun σ' g'=>∃m',m'<m/\I m' σ' g',N.rt,N.nx,fun σ' g'=>∃m',m'<m/\I m' σ' g'⟩ σ g1 E else N.nx σ g1) E)(hP:i4 P):wpS P (.whil c s) N σ g E:=by
 refine⟨I,⟨m0,h0⟩,fun m σ g p=>n9 hP c _ _ _ _ _ _ (fun t g1 q=>?_) (fun _ _ z=>z) (hs m σ g p)⟩;cases t
 ·exact q
 ·exact⟨_,fun _ _ z=>z,q⟩
theorem ac6(hP:i4 P){R:IK->G->Prop}(h:wpE P a σ g (fun x g1=>∃j:Int,x=.int j/\-(2 ^ 62)<=j/\j<2 ^ 62/\R (.fix (j7 0 j.toNat)) g1) E):wpI P (.itR1 a) σ g R E:=by rw[wpI];exact h
theorem i_t(hP:i4 P){R:IK->G->Prop}(h:wpE P a σ g (fun x g1=>∃l,x=.tup l/\R (.fix l) g1) E):wpI P (.itE a) σ g R E:=by
 rw[wpI];exact b8 hP a _ _ _ _ _ _ (fun x g1 h=>.inl h) (fun _ _ z=>z) h
theorem i_l(hP:i4 P){R:IK->G->Prop}(h:wpE P a σ g (fun x g1=>∃i l,x=.ref i/\d4 g1 i=some l/\R (.lst i) g1) E):wpI P (.itE a) σ g R E:=by
 rw[wpI];exact b8 hP a _ _ _ _ _ _ (fun x g1 h=>.inr h) (fun _ _ z=>z) h
theorem i_v{R:IK->G->Prop}(h:wpE P a σ g (fun x g1=>∃i l,x=.ref i/\d4 g1 i=some l/\R (.rvl i l.length) g1) E):wpI P (.itV a) σ g R E:=by rw[wpI];exact h
theorem i_n{R:IK->G->Prop}(h:wpE P a σ g (fun x g1=>∃i l,x=.ref i/\d4 g1 i=some l/\R (.enl i) g1) E):wpI P (.itN a) σ g R E:=by rw[wpI];exact h
end
end M

namespace M
open PySem L2 PySem.Spec PyProof.Rows
structure RF where
 id:Nat
 nm:Str
 N:List Str
 k:Nat
 i:Nat
 m:MDef
structure RM where
 id:Nat
 cl:Str
 nm:Str
 qn:Str
 N:List Str
 k:Nat
 i:Nat
 j:Nat
 m:MDef
noncomputable def RF.d(tp:Nat->Stmt)(r:RF):DefI:=⟨r.nm,r.nm,r.N,r.N.take r.k,tp r.i⟩
noncomputable def RM.d(mt:Nat->Nat->Stmt)(r:RM):DefI:=⟨r.nm,r.qn,r.N,r.N.take r.k,mt r.i r.j⟩
noncomputable def an2(F:List RF)(M:List RM)(i:Nat):Option MDef:=match F.find? fun r=>Nat.beq r.id i with
 |some r=>some r.m
 |none=>(M.find? fun r=>Nat.beq r.id i).map (·.m)
section
variable(tp:Nat->Stmt)(mt:Nat->Nat->Stmt)(K:PySem.W.Frag)
noncomputable def PF:List RF->Prop
 |[]=>True
 |r::l=>(∃f fd,PySem.W.nsIn K mainGlobals r.nm=some (some (.ref f))/\Fun K r.nm r.nm (tp r.i) f fd)/\PF l
noncomputable def PM:List RM->Prop
 |[]=>True
 |r::l=>(∃C f fd,PySem.W.nsIn K mainGlobals r.cl=some (some (.ref C))/\Meth K C r.nm f/\Fun K r.nm r.qn (mt r.i r.j) f fd)/\PM l
noncomputable def PC:List (Str×Nat)->Prop
 |[]=>True
 |r::l=>(∃C,PySem.W.nsIn K mainGlobals r.1=some (some (.ref C))/\Cls K C/\PySem.W.makesIn K C=true/\PySem.W.keepIn K (.ref C)=true)/\PC l
noncomputable def PA:List (Str×Str)->Prop
 |[]=>True
 |r::l=>(∃C,PySem.W.nsIn K mainGlobals r.2=some (some (.ref C))/\PySem.W.findIn K (.ref C) r.1=some none)/\PA l
noncomputable def PB:List Str->Prop
 |[]=>True
 |r::l=>PySem.W.nsIn K mainGlobals r=some none/\PB l
noncomputable def PX:List Str->Prop
 |[]=>True
 |r::l=>(∃C,PySem.W.nsIn K mainGlobals r=some (some (.ref C))/\PySem.W.excIn K C [.type "ValueError",.type "Exception",.type "BaseException",.type "object"] "ValueError.__new__"=true)/\PX l
noncomputable def BF:List RF->Prop
 |[]=>True
 |r::l=>(∀(kV doc pm:Value) (an:Option Addr) (cdv ct:Value) (us:List Value),us.length=(r.N.take r.k).length->bindArgs (PySem.W.fnOf r.nm r.nm (A5 (tp r.i)) (n8 (tp r.i)) (n5 (tp r.i)) .none kV doc pm an cdv ct) ⟨us,[]⟩=pure ((r.N.take r.k).zip us))/\BF l
noncomputable def BM:List RM->Prop
 |[]=>True
 |r::l=>(∀(kV doc pm:Value) (an:Option Addr) (cdv ct:Value) (us:List Value),us.length=(r.N.take r.k).length->bindArgs (PySem.W.fnOf r.nm r.qn (A5 (mt r.i r.j)) (n8 (mt r.i r.j)) (n5 (mt r.i r.j)) .none kV doc pm an cdv ct) ⟨us,[]⟩=pure ((r.N.take r.k).zip us))/\BM l
noncomputable def YF(c:f9):List RF->Prop
 |[]=>True
 |r::l=>t8 (comp 60) (c.at (r.d tp)) (n8 (tp r.i))=some r.m.body/\YF c l
noncomputable def YM(c:f9):List RM->Prop
 |[]=>True
 |r::l=>t8 (comp 60) (c.at (r.d mt)) (n8 (mt r.i r.j))=some r.m.body/\YM c l
end
section
variable{tp:Nat->Stmt}{mt:Nat->Nat->Stmt}{K:PySem.W.Frag}{c:f9}{id k i j:Nat}{cl nm qn x:Str}{N:List Str}{m:MDef}{f C:Addr}{oc kV doc pm cdv ct:Value}{od an:Option Addr}{osl:Array (Option Value)}
theorem PF.nil:PF tp K []:=trivial
theorem PF.cons{l:List RF}(a:PySem.W.nsIn K mainGlobals nm=some (some (.ref f)))(lk:K.lookup f=some ⟨oc,od,.func (PySem.W.fnOf nm nm (A5 (tp i)) (n8 (tp i)) (n5 (tp i)) .none kV doc pm an cdv ct),osl⟩)(cd:PySem.W.codeIn K cdv nm=true)(kp:PySem.W.keepIn K (.ref f)=true)(h:PF tp K l):PF tp K (⟨id,nm,N,k,i,m⟩::l):=⟨⟨f,_,a,aU3 lk cd kp⟩,h⟩
theorem PM.nil:PM mt K []:=trivial
theorem PM.cons{l:List RM}(c0:PySem.W.nsIn K mainGlobals cl=some (some (.ref C)))(a:PySem.W.findIn K (.ref C) nm=some (some (.ref f)))(af:PySem.W.isFn K (.ref f)=true)(lk:K.lookup f=some ⟨oc,od,.func (PySem.W.fnOf nm qn (A5 (mt i j)) (n8 (mt i j)) (n5 (mt i j)) .none kV doc pm an cdv ct),osl⟩)(cd:PySem.W.codeIn K cdv qn=true)(kp:PySem.W.keepIn K (.ref f)=true)(h:PM mt K l):PM mt K (⟨id,cl,nm,qn,N,k,i,j,m⟩::l):=⟨⟨C,f,_,c0,⟨a,af,kp⟩,aU3 lk cd kp⟩,h⟩
theorem PC.nil:PC K []:=trivial
theorem PC.cons{l:List (Str×Nat)}(cn:PySem.W.nsIn K mainGlobals x=some (some (.ref C)))(cp:PySem.W.plainGet K C Str.empty=true)(chd:PySem.W.hasDictIn K C=true)(cpo:PySem.W.plainOver K C=true)(csa:PySem.W.findIn K (.ref C) "__setattr__"=some (some (.builtin "object.__setattr__")))(cmk:PySem.W.makesIn K C=true)(ckp:PySem.W.keepIn K (.ref C)=true)(h:PC K l):PC K ((x,i)::l):=⟨⟨C,cn,⟨cp,chd,cpo,csa⟩,cmk,ckp⟩,h⟩
theorem PA.nil:PA K []:=trivial
theorem PA.cons{l:List (Str×Str)}(cn:PySem.W.nsIn K mainGlobals x=some (some (.ref C)))(fl:PySem.W.findIn K (.ref C) nm=some none)(h:PA K l):PA K ((nm,x)::l):=⟨⟨C,cn,fl⟩,h⟩
theorem PB.nil:PB K []:=trivial
theorem PB.cons{l:List Str}(cn:PySem.W.nsIn K mainGlobals x=some none)(h:PB K l):PB K (x::l):=⟨cn,h⟩
theorem PX.nil:PX K []:=trivial
theorem PX.cons{l:List Str}(cn:PySem.W.nsIn K mainGlobals x=some (some (.ref C)))(q:PySem.W.excIn K C [.type "ValueError",.type "Exception",.type "BaseException",.type "object"] "ValueError.__new__"=true)(h:PX K l):PX K (x::l):=⟨⟨C,cn,q⟩,h⟩
theorem BF.nil:BF tp []:=trivial
theorem BF.cons{l:List RF}(h:∀(kV doc pm:Value) (an:Option Addr) (cdv ct:Value) (us:List Value),us.length=(N.take k).length->bindArgs (PySem.W.fnOf nm nm (A5 (tp i)) (n8 (tp i)) (n5 (tp i)) .none kV doc pm an cdv ct) ⟨us,[]⟩=pure ((N.take k).zip us))(h2:BF tp l):BF tp (⟨id,nm,N,k,i,m⟩::l):=⟨h,h2⟩
theorem BM.nil:BM mt []:=trivial
theorem BM.cons{l:List RM}(h:∀(kV doc pm:Value) (an:Option Addr) (cdv ct:Value) (us:List Value),us.length=(N.take k).length->bindArgs (PySem.W.fnOf nm qn (A5 (mt i j)) (n8 (mt i j)) (n5 (mt i j)) .none kV doc pm an cdv ct) ⟨us,[]⟩=pure ((N.take k).zip us))(h2:BM mt l):BM mt (⟨id,cl,nm,qn,N,k,i,j,m⟩::l):=⟨h,h2⟩
theorem YF.nil:YF tp c []:=trivial
theorem YF.cons{l:List RF}(h:t8 (comp 60) (c.at ⟨nm,nm,N,N.take k,tp i⟩) (n8 (tp i))=some m.body)(h2:YF tp c l):YF tp c (⟨id,nm,N,k,i,m⟩::l):=⟨h,h2⟩
theorem YM.nil:YM mt c []:=trivial
theorem YM.cons{l:List RM}(h:t8 (comp 60) (c.at ⟨nm,qn,N,N.take k,mt i j⟩) (n8 (mt i j))=some m.body)(h2:YM mt c l):YM mt c (⟨id,cl,nm,qn,N,k,i,j,m⟩::l):=⟨h,h2⟩
theorem YF.get:∀{l:List RF},YF tp c l->∀r∈l,t8 (comp 60) (c.at (r.d tp)) (n8 (tp r.i))=some r.m.body
 |_::_,h,r,hr=>(List.mem_cons.mp hr).elim (fun z=>z▸h.1) (YF.get h.2 r)
theorem YM.get:∀{l:List RM},YM mt c l->∀r∈l,t8 (comp 60) (c.at (r.d mt)) (n8 (mt r.i r.j))=some r.m.body
 |_::_,h,r,hr=>(List.mem_cons.mp hr).elim (fun z=>z▸h.1) (YM.get h.2 r)
theorem PF.get:∀{l:List RF},PF tp K l->∀r∈l,∃f fd,PySem.W.nsIn K mainGlobals r.nm=some (some (.ref f))/\Fun K r.nm r.nm (tp r.i) f fd
 |_::_,h,r,hr=>(List.mem_cons.mp hr).elim (fun z=>z▸h.1) (PF.get h.2 r)
theorem PM.get:∀{l:List RM},PM mt K l->∀r∈l,∃C f fd,PySem.W.nsIn K mainGlobals r.cl=some (some (.ref C))/\Meth K C r.nm f/\Fun K r.nm r.qn (mt r.i r.j) f fd
 |_::_,h,r,hr=>(List.mem_cons.mp hr).elim (fun z=>z▸h.1) (PM.get h.2 r)
theorem PC.get:∀{l:List (Str×Nat)},PC K l->∀r∈l,∃C,PySem.W.nsIn K mainGlobals r.1=some (some (.ref C))/\Cls K C/\PySem.W.makesIn K C=true/\PySem.W.keepIn K (.ref C)=true
 |_::_,h,r,hr=>(List.mem_cons.mp hr).elim (fun z=>z▸h.1) (PC.get h.2 r)
theorem PA.get:∀{l:List (Str×Str)},PA K l->∀r∈l,∃C,PySem.W.nsIn K mainGlobals r.2=some (some (.ref C))/\PySem.W.findIn K (.ref C) r.1=some none
 |_::_,h,r,hr=>(List.mem_cons.mp hr).elim (fun z=>z▸h.1) (PA.get h.2 r)
theorem PB.get:∀{l:List Str},PB K l->∀r∈l,PySem.W.nsIn K mainGlobals r=some none
 |_::_,h,r,hr=>(List.mem_cons.mp hr).elim (fun z=>z▸h.1) (PB.get h.2 r)
theorem PX.get:∀{l:List Str},PX K l->∀r∈l,∃C,PySem.W.nsIn K mainGlobals r=some (some (.ref C))/\PySem.W.excIn K C [.type "ValueError",.type "Exception",.type "BaseException",.type "object"] "ValueError.__new__"=true
 |_::_,h,r,hr=>(List.mem_cons.mp hr).elim (fun z=>z▸h.1) (PX.get h.2 r)
theorem BF.get:∀{l:List RF},BF tp l->∀r∈l,∀(kV doc pm:Value) (an:Option Addr) (cdv ct:Value) (us:List Value),us.length=(r.N.take r.k).length->bindArgs (PySem.W.fnOf r.nm r.nm (A5 (tp r.i)) (n8 (tp r.i)) (n5 (tp r.i)) .none kV doc pm an cdv ct) ⟨us,[]⟩=pure ((r.N.take r.k).zip us)
 |_::_,h,r,hr=>(List.mem_cons.mp hr).elim (fun z=>z▸h.1) (BF.get h.2 r)
theorem BM.get:∀{l:List RM},BM mt l->∀r∈l,∀(kV doc pm:Value) (an:Option Addr) (cdv ct:Value) (us:List Value),us.length=(r.N.take r.k).length->bindArgs (PySem.W.fnOf r.nm r.qn (A5 (mt r.i r.j)) (n8 (mt r.i r.j)) (n5 (mt r.i r.j)) .none kV doc pm an cdv ct) ⟨us,[]⟩=pure ((r.N.take r.k).zip us)
 |_::_,h,r,hr=>(List.mem_cons.mp hr).elim (fun z=>z▸h.1) (BM.get h.2 r)
end
noncomputable def scB(N P:List Str)(sc:Scope):Bool:=decide (sc.kind=.function)&&!sc.isCoroutine&&!sc.isGenerator&&decide N.Nodup&&decide (N.take P.length=P)&&P.all (fun x=>decide (sc.names.lookup x=some .local)||decide (sc.names.lookup x=some .cell))&&sc.names.all fun y=>decide (y.2≠.free)
theorem aQ3{N P:List Str}{sc:Scope}(h:scB N P sc=true):FnScope N P sc:=by
 unfold scB at h;simp only[Bool.and_eq_true,decide_eq_true_eq,Bool.not_eq_true',List.all_eq_true,Bool.or_eq_true] at h;obtain⟨⟨⟨⟨⟨⟨h1,h2⟩,h3⟩,h4⟩,h5⟩,h6⟩,h7⟩:=h;exact⟨h1,h2,h3,h4,h5,h6,h7⟩
theorem aS0{K:PySem.W.Frag}{h₀:Heap}{mg:Str->Option Value}{x:Str}{C:Addr}{bmB:List Value}{newId:String}(X:K.In h₀)(G:h₀.Ns mainGlobals mg)(e:PySem.W.nsIn K mainGlobals x=some (some (.ref C)))(q:PySem.W.excIn K C bmB newId=true):PyProof.Rows.OwnCls x C bmB newId mg h₀:=by
 refine⟨PySem.W.mg_of X G e,?_⟩;unfold PySem.W.excIn at q;split at q
 ·rename_i dd cd sl ho;split at q
  ·rename_i C' bm k0 k1 k2 k3 n k5 hm hs;simp only[Bool.and_eq_true,beq_iff_eq,Bool.not_eq_true'] at q;obtain⟨⟨⟨⟨⟨z1,z2⟩,hdel⟩,ht⟩,hok⟩,hni⟩:=q;subst z1;subst z2;obtain⟨nm,bs,mro,ns,qn,hd,sn,sub,ab,col,del⟩:=cd;dsimp only at hm hdel hok hni;subst hm hdel;have hsl:sl=#[k0,k1,k2,k3,some (.builtin n),k5]:=by
    obtain⟨l⟩:=sl;simp only at hs;rw[hs]
   subst hsl;exact⟨bm,ns,nm,qn,bs,hd,sn,sub,ab,col,dd,k0,k1,k2,k3,k5,_,X _ _ ho,.of_isNs (PySem.W.isNs_of_in X hok),PySem.W.nsMap_none_of_in X hok hni,PySem.W.tail_of_in X ht⟩
  ·cases q
 ·cases q
noncomputable def O8(K:PySem.W.Frag)(x:Str):Addr:=match PySem.W.nsIn K mainGlobals x with
 |some (some (.ref C))=>C
 |_=>0
noncomputable def aH3(K:PySem.W.Frag)(exc:List Str):Bool:=exc.all fun x=>exc.all fun y=>decide (PySem.W.exmOne K (.ref (O8 K x)) (.ref (O8 K y))=some (decide (x=y\/y="MintError")))
theorem bs9{K:PySem.W.Frag}{exc:List Str}(h:aH3 K exc=true){x y:Str}{C C':Addr}(hx:exc.contains x=true)(hy:exc.contains y=true)(hC:p0 K x C)(hC':p0 K y C'):PySem.W.exmOne K (.ref C) (.ref C')=some (decide (x=y\/y="MintError")):=by
 have h1:=List.all_eq_true.mp h x (by simpa using hx);have h2:=of_decide_eq_true (List.all_eq_true.mp h1 y (by simpa using hy));have e1:O8 K x=C:=by unfold O8;rw[show PySem.W.nsIn K mainGlobals x=_ from hC]
 have e2:O8 K y=C':=by unfold O8;rw[show PySem.W.nsIn K mainGlobals y=_ from hC']
 rw[e1,e2] at h2;exact h2
theorem ao8{α:Type}{f:α->Nat}:∀{l:List α},(l.map f).Nodup->∀r∈l,l.find? (fun x=>Nat.beq (f x) (f r))=some r
 |y::l,nd,r,hr=>by
  rw[List.map_cons,List.nodup_cons] at nd;rcases List.mem_cons.mp hr with rfl|hr
  ·rw[List.find?_cons_of_pos];exact Nat.beq_refl _
  ·rw[List.find?_cons_of_neg]
   ·exact ao8 nd.2 r hr
   ·intro z;exact nd.1 (List.mem_map.mpr ⟨r,hr,(Nat.eq_of_beq_eq_true z).symm⟩)
theorem bf7{α β:Type}{f:α->Nat}{g:β->Nat}{l:List α}{r:β}(h:g r∉l.map f):l.find? (fun x=>Nat.beq (f x) (g r))=none:=by
 rw[List.find?_eq_none];intro x hx z;exact h (List.mem_map.mpr ⟨x,hx,Nat.eq_of_beq_eq_true z⟩)
section
variable{w:World}{K:PySem.W.Frag}{h₀:Heap}{mg:Str->Option Value}{c:f9}{F:List RF}{M:List RM}{tp:Nat->Stmt}{mt:Nat->Nat->Stmt}
structure TabIn(K:PySem.W.Frag)(c:f9)(F:List RF)(M:List RM)(tp:Nat->Stmt)(mt:Nat->Nat->Stmt):Prop where
 qF:PF tp K F
 qM:PM mt K M
 qC:PC K c.cls
 qA:PA K c.fls
 qB:PB K c.blt
 qX:PX K c.exc
 xm:aH3 K c.exc=true
structure TabTx(c:f9)(F:List RF)(M:List RM)(tp:Nat->Stmt)(mt:Nat->Nat->Stmt):Prop where
 cf:c.fns=F.map fun r=>(r.nm,r.id)
 cm:c.mts=M.map fun r=>(r.nm,r.cl,r.id)
 ci:c.cls.all (fun y=>M.any fun r=>decide (r.cl=y.1)&&decide (r.nm="__init__")&&Nat.beq r.id y.2)=true
 nd:(F.map (·.id)++M.map (·.id)).Nodup
 sF:F.all (fun r=>scB r.N (r.N.take r.k) (n5 (tp r.i))&&decide (r.m.ar=(r.N.take r.k).length)&&decide (r.m.n=r.N.length))=true
 sM:M.all (fun r=>scB r.N (r.N.take r.k) (n5 (mt r.i r.j))&&decide (r.m.ar=(r.N.take r.k).length)&&decide (r.m.n=r.N.length))=true
 oF:YF tp c F
 oM:YM mt c M
 bF:BF tp F
 bM:BM mt M
theorem aF3(I:TabIn K c F M tp mt)(X:TabTx c F M tp mt)(r:RF)(hr:r∈F):∃f fd,DefOk K c (r.d tp) r.m f fd/\PySem.W.nsIn K mainGlobals r.nm=some (some (.ref f))/\an2 F M r.id=some r.m:=by
 obtain⟨f,fd,a,q⟩:=I.qF.get r hr;have s:=List.all_eq_true.mp X.sF r hr;simp only[Bool.and_eq_true,decide_eq_true_eq] at s;have o:=X.oF.get r hr;refine⟨f,fd,⟨q,q.binds (X.bF.get r hr),aQ3 s.1.1,o,s.1.2,s.2⟩,a,?_⟩;unfold an2;rw[ao8 (f:=(·.id)) (List.nodup_append.mp X.nd).1 r hr]
theorem aF2(I:TabIn K c F M tp mt)(X:TabTx c F M tp mt)(r:RM)(hr:r∈M):∃C f fd,DefOk K c (r.d mt) r.m f fd/\PySem.W.nsIn K mainGlobals r.cl=some (some (.ref C))/\Meth K C r.nm f/\an2 F M r.id=some r.m:=by
 obtain⟨C,f,fd,a,q1,q⟩:=I.qM.get r hr;have s:=List.all_eq_true.mp X.sM r hr;simp only[Bool.and_eq_true,decide_eq_true_eq] at s;have o:=X.oM.get r hr;refine⟨C,f,fd,⟨q,q.binds (X.bM.get r hr),aQ3 s.1.1,o,s.1.2,s.2⟩,a,q1,?_⟩;have nd:=List.nodup_append.mp X.nd;unfold an2;rw[bf7 (f:=fun r:RF=>r.id) (g:=fun r:RM=>r.id) (r:=r) (fun z=>nd.2.2 _ z _ (List.mem_map.mpr ⟨r,hr,rfl⟩) rfl),ao8 (f:=fun r:RM=>r.id) nd.2.1 r hr]
 rfl
theorem bi0(I:TabIn K c F M tp mt)(Y:TabTx c F M tp mt)(X:K.In h₀)(G:h₀.Ns mainGlobals mg)(con:∀x d,c.con.lookup x=some d->∃v u,mg x=some u/\RelV v u/\∀ρ H,d8 K ρ H d v)(gdcs:∀x kvs,c.gd.lookup x=some kvs->∃A vs,mg x=some (.ref A)/\am8 K w.params A vs/\ad4 K kvs vs):TabOk w K mg c (an2 F M):=by
 refine⟨fun x i hx=>?_,fun x i hx=>?_,fun x y i C hx hC=>?_,fun f y C hx hC=>?_,con,fun x hx=>?_,fun x hx=>?_,fun x y C C' hx hy hC hC'=>bs9 I.xm hx hy hC hC',gdcs⟩
 ·have hm:=PySem.mem_of_lookup hx;rw[Y.cf] at hm;obtain⟨r,hr,e⟩:=List.mem_map.mp hm;cases e;obtain⟨f,fd,O,a,t⟩:=aF3 I Y r hr;exact⟨_,_,f,fd,t,O,PySem.W.mg_of X G a⟩
 ·have hm:=PySem.mem_of_lookup hx;have h1:=List.all_eq_true.mp Y.ci _ hm;obtain⟨r,hr,e⟩:=List.any_eq_true.mp h1;simp only[Bool.and_eq_true,decide_eq_true_eq] at e;obtain⟨⟨e1,e2⟩,e3⟩:=e;have e3:=Nat.eq_of_beq_eq_true e3;obtain⟨C,f,fd,O,a,q,t⟩:=aF2 I Y r hr;obtain⟨C',a',hc,mk,kp⟩:=I.qC.get _ hm;rw[e1] at a;cases a.symm.trans a';rw[e2] at q;rw[e3] at t;exact⟨C,_,_,f,fd,t,O,PySem.W.mg_of X G a,a,hc,⟨mk,q.at_,q.fn,kp⟩⟩
 ·rw[Y.cm] at hx;obtain⟨r,hr,e⟩:=List.mem_map.mp hx;cases e;obtain⟨C',f,fd,O,a,q,t⟩:=aF2 I Y r hr;cases a.symm.trans hC;exact⟨_,_,f,fd,t,O,q⟩
 ·obtain⟨C',a,q⟩:=I.qA.get _ hx;cases a.symm.trans hC;exact q
 ·exact PySem.W.mg_none_of X G (I.qB.get x (by simpa using hx))
 ·obtain⟨C,a,q⟩:=I.qX.get x (by simpa using hx);exact⟨_,PySem.W.mg_of X G a,a,fun base kin gns=>⟨_,_,_,_,aS0 kin gns a q,PySem.F.excBase_ValueError⟩⟩
end
end M

namespace M
open PySem L2
local macro_rules | `(tactic| walk_at "w1") => `(tactic| first
 | with_reducible refine ab0 ?_ | with_reducible refine au3 ?_ | with_reducible refine au2 ?_ | with_reducible refine bu8 ?_ | with_reducible refine bh2 ?_ | with_reducible refine bu5 ?_ | with_reducible refine aE6 ?_ | with_reducible refine bg8 ?_ | with_reducible refine aI1 ?_ | with_reducible refine J6 ?_ | with_reducible refine w_retn ?_
 |(with_reducible refine w_var (d:=?_) ?_ ?_;rotate_left;· with_unfolding_all rfl)|with_reducible refine w_lit ?_|with_reducible refine aw3 ?_|with_reducible refine aw4 ?_|with_reducible refine bD9 ?_|with_reducible refine bg9 ?_|with_reducible refine a89 ?_|with_reducible refine w_and ?_|with_reducible refine w_or ?_|with_reducible refine w_not ?_|with_reducible refine w_ite ?_
 | with_reducible refine aj0 ?_ | with_reducible refine bh1 ?_ | with_reducible refine w_methc ?_ | with_reducible refine au4 ?_ | with_reducible refine P0 ?_
 | with_reducible refine bg7 ?_ | with_reducible refine bu7 ?_ | with_reducible refine bg6 ?_ | with_reducible refine au1 ?_ | with_reducible refine aI0 ?_
 | with_reducible refine bD7 ?_ | with_reducible refine bD6 ?_ | with_reducible refine bv0 ?_ | with_reducible refine bK0 ?_ | with_reducible refine bK1 ?_ | with_reducible refine bK2 ?_ | with_reducible refine bK3 ?_ | with_reducible refine bD3 ?_ | with_reducible refine a75 ?_ | with_reducible refine bD4 ?_ | with_reducible refine bC3 ?_ | with_reducible refine bD2 ?_ | with_reducible refine bC9 ?_ | with_reducible refine bC7 ?_ | with_reducible refine bC8 ?_ | with_reducible refine bC5 ?_ | with_reducible refine bC4 ?_ | with_reducible refine bC6 ?_ | with_reducible refine ai5 ?_ | with_reducible refine bD1 ?_ | with_reducible refine c_inI ?_ | with_reducible refine c_inT ?_ | with_reducible refine c_inR ?_ | with_reducible refine a76 ?_
 | with_reducible refine bE2 ?_ | with_reducible refine ap5 ?_ | with_reducible refine bs2 ?_ | with_reducible refine ift ?_ | with_reducible refine ai1 ?_ | with_reducible refine bs5 ?_ | with_reducible refine bJ0 ?_
 | with_reducible refine len_t ?_ | with_reducible refine sl00_t ?_ | with_reducible refine sl10_t ?_ | with_reducible refine sl01_t ?_ | with_reducible refine rev_t ?_ | with_reducible refine lst_t ?_ | with_reducible refine tup_t ?_)
local macro_rules | `(tactic| walk_at "w2") => `(tactic| repeat (first | walk_at "w1" | with_reducible refine aK2 (by simp) ?_ | with_reducible refine aK3 (by simp) ?_ | with_reducible refine q8 (a7 (by assumption)) (by with_unfolding_all rfl) ?_ | with_reducible refine S0 (a7 (by assumption)) ?_ | with_reducible refine aN6 (by unfold aa3; decide) ?_))
local macro_rules | `(tactic| walk_at "w3") => `(tactic| repeat (first | walk_at "w1" | with_reducible refine aK2 (by simp) ?_ | with_reducible refine aK3 (by simp) ?_ | with_reducible refine q8 (a7 (by assumption)) (by with_unfolding_all rfl) ?_ | with_reducible refine S0 (a7 (by assumption)) ?_ | with_reducible refine aN6 (by unfold aa3; decide) ?_ | with_reducible refine And.intro (show List.length _ <= 1000 from by simp) ?_ | with_reducible refine A3 (by with_unfolding_all rfl) ?_ | with_reducible refine p9 ?_ | with_reducible refine E1 (by with_unfolding_all rfl) ?_))
local macro_rules | `(tactic| walk_at "w5") => `(tactic| repeat (first | walk_at "w1" | with_reducible refine a88 ?_ | with_reducible refine bu6 ?_ | with_reducible refine bh0 ?_ | with_reducible refine c_nes ?_ | with_reducible refine bv7 ?_ | with_reducible refine t_non ?_ | with_reducible refine max2 ?_ | with_reducible refine min2 ?_ | with_reducible refine bB2 ?_ | with_reducible refine Z3 ?_ | with_reducible refine g_in ?_ | with_reducible refine g_nin ?_ | with_reducible refine aK2 (by simp) ?_ | with_reducible refine aK3 (by simp) ?_ | with_reducible refine q8 (a7 (by assumption)) (by with_unfolding_all rfl) ?_ | with_reducible refine S0 (a7 (by assumption)) ?_ | with_reducible refine aN6 (by unfold aa3; decide) ?_ | with_reducible refine And.intro (show List.length _ <= 1000 from by simp) ?_ | with_reducible refine A3 (by with_unfolding_all rfl) ?_ | with_reducible refine p9 ?_ | with_reducible refine E1 (by with_unfolding_all rfl) ?_ | with_reducible refine And.intro (ab6 (by assumption)) ?_ | with_reducible refine And.intro (bq1 (by assumption)) ?_ | with_reducible refine And.intro (bI2 (by assumption)) ?_ | with_reducible refine O4 (by decide) ?_ | with_reducible refine bu3 (by decide) (by decide) ?_ | with_reducible refine i_n ?_))
abbrev hø(a:ME):ME:=.cons a .nil
abbrev hđ(a b:ME):ME:=.cons a (.cons b .nil)
abbrev yı(a b c:ME):ME:=.cons a (.cons b (.cons c .nil))
abbrev yø(a b c d:ME):ME:=.cons a (.cons b (.cons c (.cons d .nil)))
abbrev yđ(a b c d e:ME):ME:=.cons a (.cons b (.cons c (.cons d (.cons e .nil))))
abbrev gı(a b c d e f:ME):ME:=.cons a (.cons b (.cons c (.cons d (.cons e (.cons f .nil)))))
abbrev gø(a b c d e f g:ME):ME:=.cons a (.cons b (.cons c (.cons d (.cons e (.cons f (.cons g .nil))))))
abbrev jı(o:PySem.CmpOp)(a b:ME):ME:=.tst (.prim (.cmp o) (.cons a (.cons b .nil)))
abbrev jø(a b:ME):ME:=.prim .ix (.cons a (.cons b .nil))
abbrev kø(a:Int):ME:=.lit (.int a)
abbrev kđ(a:PySem.Str):ME:=.lit (.str a)
abbrev jđ(p:Pr)(a:ME):ME:=.prim p (.cons a .nil)
abbrev hı(p:Pr)(a b:ME):ME:=.prim p (.cons a (.cons b .nil))
abbrev kı0:ME:=.var 0
abbrev kı1:ME:=.var 1
abbrev kı10:ME:=.var 10
abbrev kı11:ME:=.var 11
abbrev kı12:ME:=.var 12
abbrev kı13:ME:=.var 13
abbrev kı15:ME:=.var 15
abbrev kı16:ME:=.var 16
abbrev kı2:ME:=.var 2
abbrev kı3:ME:=.var 3
abbrev kı4:ME:=.var 4
abbrev kı5:ME:=.var 5
abbrev kı6:ME:=.var 6
abbrev kı7:ME:=.var 7
abbrev kı8:ME:=.var 8
abbrev kı9:ME:=.var 9
noncomputable def C7:MDef:=⟨2,5,(.seq (.ifs (.and_ (jı .Lt (jø kı0 (kø 2)) kı1) (jı .Lt (jø kı0 (kø 1)) (jđ .len (jø kı0 (kø 0))))) (.seq (.set 2 (jø (jø kı0 (kø 0)) (jø kı0 (kø 1)))) (.seq (.setix kı0 (kø 1) (hı (.bin .Add) (jø kı0 (kø 1)) (kø 1))) (.seq (.setix kı0 (kø 2) (kø 0)) (.seq (.ifs (jı .GtE kı2 (hı (.bin .Pow) (kø 10) (kø 18))) (.seq (.setix kı0 (kø 2) kı2) .pass) (.seq (.setix kı0 (kø 3) (hı (.bin .Mod) (hı (.bin .Add) (hı (.bin .Add) (hı (.bin .Mult) (jø kı0 (kø 3)) (kø 48271)) (hı (.bin .Mult) (hı (.bin .Mod) kı2 (kø 2147483629)) (kø 69621))) (kø 12345)) (kø 2147483647))) .pass)) .pass)))) .pass) (.seq (.ifs (jı .GtE (jø kı0 (kø 2)) kı1) (.seq (.set 3 (hı (.bin .Mod) (jø kı0 (kø 2)) kı1)) (.seq (.setix kı0 (kø 2) (hı (.bin .FloorDiv) (jø kı0 (kø 2)) kı1)) (.seq (.ret kı3) .pass))) .pass) (.seq (.set 4 (jø kı0 (kø 3))) (.seq (.setix kı0 (kø 3) (hı (.bin .Mod) (hı (.bin .Add) (hı (.bin .Add) (hı (.bin .Mult) (hı (.bin .Mod) (hı (.bin .Mult) kı4 kı4) (kø 2147483629)) (kø 5)) (hı (.bin .Mult) kı4 (kø 16811))) (kø 2531011)) (kø 2147483647))) (.seq (.ret (hı (.bin .Mod) (hı (.bin .Add) (hı (.bin .FloorDiv) (jø kı0 (kø 3)) (kø 59)) (hı (.bin .Mult) (hı (.bin .Mod) (jø kı0 (kø 3)) (kø 8191)) (kø 31))) kı1)) .pass)))))⟩
structure i7(g:G)(d:Nat):Prop where
 ex:∃(s:Nat) (p b r:Int) (xs:List Int),g[d]?=some (.lst [.ref s,.int p,.int b,.int r])/\g[s]?=some (.lst (xs.map .int))/\s<d/\0<=p/\0<=b/\0<=r/\r<2147483647
structure Gr(d:Nat)(g g':G):Prop where
 len:g.length<=g'.length
 old:∀i,i≠d->i<g.length->g'[i]?=g[i]?
theorem Gr.refl(d:Nat)(g:G):Gr d g g:=⟨Nat.le_refl _,fun _ _ _=>rfl⟩
theorem Gr.trans{d:Nat}{g g1 g2:G}(a:Gr d g g1)(b:Gr d g1 g2):Gr d g g2:=⟨Nat.le_trans a.len b.len,fun i h1 h2=>(b.old i h1 (Nat.lt_of_lt_of_le h2 a.len)).trans (a.old i h1 h2)⟩
theorem Gr.set(d:Nat)(g:G)(o:O):Gr d g (g.set d o):=⟨by simp,fun i h1 h2=>List.getElem?_set_ne (Ne.symm h1)⟩
theorem Gr.snoc(d:Nat)(g:G)(o:O):Gr d g (g++[o]):=⟨by simp,fun i h1 h2=>List.getElem?_append_left h2⟩
theorem Gr.at{d:Nat}{g g':G}(h:Gr d g g'){i:Nat}{o:O}(hi:i≠d)(e:g[i]?=some o):g'[i]?=some o:=(h.old i hi (List.getElem?_eq_some_iff.mp e).1).trans e
theorem j8{g:G}{i:Nat}{o:O}(h:g[i]?=some o):i<g.length:=(List.getElem?_eq_some_iff.mp h).1
theorem i7.lt{g:G}{d:Nat}(h:i7 g d):d<g.length:=let ⟨_,_,_,_,_,e,_⟩:=h.ex;j8 e
theorem i7.snoc{g:G}{d:Nat}(h:i7 g d)(o:O):i7 (g++[o]) d:=by
 obtain⟨s,p,b,r,xs,e1,e2,q⟩:=h.ex;exact⟨s,p,b,r,xs,by rw[List.getElem?_append_left (j8 e1)];exact e1,by rw[List.getElem?_append_left (j8 e2)];exact e2,q⟩
noncomputable def i8:MS->MS
 |.seq _ b=>b
 |x=>x
theorem ac9{i j:Int}(h1:-(2 ^ 64)<i)(h2:i<2 ^ 64):ai9 i j:=.inl ⟨h1,h2⟩
theorem V5{i j:Int}(h1:-(2 ^ 64)<j)(h2:j<2 ^ 64):ai9 i j:=.inr ⟨h1,h2⟩
theorem aQ6{P:Sig}{d:Nat}{n:Int}{g:G}{Q:KD}{E:KX}{N:Ends}{c2:Option D}(hN:N.rt=Q)(D0:i7 g d)(hn:0<n)(hn2:n<1073741824)(h:∀r g',0<=r->r<n->i7 g' d->Gr d g g'->Q (.int r) g'):wpS P (i8 C7.body) N [some (.ref d),some (.int n),c2,none,none] g E:=by
 obtain⟨s,p,b,r,xs,e1,e2,hsd,hp,hb,hr,hr2⟩:=D0.ex;have hlt:=j8 e1;subst hN;dsimp[C7,i8];walk_at "w2";refine if2 (fun c=>?_) (fun c=>?_)
 ·walk_at "w2";refine O4 hn ?_;walk_at "w2";refine av5 ⟨hn,hn2⟩ ?_;walk_at "w2";refine Q9 e1 (by with_unfolding_all rfl) ?_;walk_at "w2";refine h _ _ (Int.emod_nonneg _ (by omega)) (Int.emod_lt_of_pos _ hn) ⟨s,p,b / n,r,xs,?_,?_,hsd,hp,Int.ediv_nonneg hb (by omega),hr,hr2⟩ (Gr.set d g _)
  ·rw[List.getElem?_set_self hlt];rfl
  ·rw[List.getElem?_set_ne (Nat.ne_of_gt hsd)];exact e2
 ·walk_at "w2";have r64:-(2 ^ 64)<r/\r<2 ^ 64:=⟨by omega,by omega⟩
  refine K6 (ac9 r64.1 r64.2) ?_;walk_at "w2";refine O4 (by decide) ?_;walk_at "w2";refine K6 (V5 (by decide) (by decide)) ?_;walk_at "w2";refine K6 (V5 (by decide) (by decide)) ?_;walk_at "w2";refine O4 (by decide) ?_;walk_at "w2";refine Q9 e1 (by with_unfolding_all rfl) ?_;generalize hr':(r*r % 2147483629*5+r*16811+2531011) % 2147483647=r';have q0:0<=r':=by rw[<- hr'];exact Int.emod_nonneg _ (by decide)
  have q1:r'<2147483647:=by rw[<- hr'];exact Int.emod_lt_of_pos _ (by decide)
  have e1':(g.set d (.lst [.ref s,.int p,.int b,.int r']))[d]?=some (.lst [.ref s,.int p,.int b,.int r']):=List.getElem?_set_self hlt;show wpS P _ _ _ (g.set d (.lst [.ref s,.int p,.int b,.int r'])) E;walk_at "w2";refine av5 ⟨by decide,by decide⟩ ?_;walk_at "w2";refine O4 (by decide) ?_;walk_at "w2";refine K6 (V5 (by decide) (by decide)) ?_;walk_at "w2";refine O4 hn ?_;walk_at "w2";refine h _ _ (Int.emod_nonneg _ (by omega)) (Int.emod_lt_of_pos _ hn) ⟨s,p,b,r',xs,e1',?_,hsd,hp,hb,q0,q1⟩ (Gr.set d g _);rw[List.getElem?_set_ne (Nat.ne_of_gt hsd)];exact e2
theorem i0{T:Nat->Option MDef}(hT:T 4=some C7){k d:Nat}{n:Int}{g:G}{Q:KD}{E:KX}(D0:i7 g d)(hn:0<n)(hn2:n<1073741824)(h:∀r g',0<=r->r<n->i7 g' d->Gr d g g'->Q (.int r) g'):c5 T (k+1) 4 [.ref d,.int n] g Q E:=by
 obtain⟨s,p,b,r,xs,e1,e2,hsd,hp,hb,hr,hr2⟩:=D0.ex;have hlt:=j8 e1;refine call_of hT rfl ?_;have tail:∀(g':G) (c2:Option D),i7 g' d->Gr d g g'->wpS (c5 T k) (i8 C7.body) ⟨fun _ g'=>Q .non g',Q,fun _ _=>False,fun _ _=>False⟩ [some (.ref d),some (.int n),c2,none,none] g' E :=
  fun g' c2 D1 gr=>aQ6 rfl D1 hn hn2 fun r g2 a b c e=>h r g2 a b c (gr.trans e)
 dsimp[C7,d0,List.replicate];walk_at "w2";refine if2 (fun c=>?_) (fun c=>?_)
 ·walk_at "w2";refine if2 (fun c'=>?_) (fun c'=>?_)
  ·walk_at "w2";have hp':p.toNat<xs.length:=by
    rw[List.length_map] at c';omega
   have ea:atI (xs.map D.int) p=some (.int xs[p.toNat]):=by
    have:=B0 (xs:=xs.map D.int) (j:=p.toNat) (v:=.int xs[p.toNat]) (by rw[List.getElem?_map,List.getElem?_eq_getElem hp'];rfl)
    rwa [show((p.toNat:Nat):Int)=p by omega] at this
   refine q8 (a7 e2) ea ?_;generalize xs[p.toNat]=cell;walk_at "w2";refine Q9 e1 (by with_unfolding_all rfl) ?_;have f1:(g.set d (.lst [.ref s,.int (p+1),.int b,.int r]))[d]?=some (.lst [.ref s,.int (p+1),.int b,.int r]):=List.getElem?_set_self hlt;show wpS (c5 T k) _ _ _ (g.set d (.lst [.ref s,.int (p+1),.int b,.int r])) E;walk_at "w2";refine Q9 f1 (by with_unfolding_all rfl) ?_;rw[List.set_set];have f2:(g.set d (.lst [.ref s,.int (p+1),.int 0,.int r]))[d]?=some (.lst [.ref s,.int (p+1),.int 0,.int r]):=List.getElem?_set_self hlt;show wpS (c5 T k) _ _ _ (g.set d (.lst [.ref s,.int (p+1),.int 0,.int r])) E;walk_at "w2";refine if2 (fun c2=>?_) (fun c2=>?_)
   ·walk_at "w2";refine Q9 f2 (by with_unfolding_all rfl) ?_;rw[List.set_set];refine tail _ _ ⟨s,p+1,cell,r,xs,List.getElem?_set_self hlt,by rw[List.getElem?_set_ne (Nat.ne_of_gt hsd)];exact e2,hsd,by omega,?_,hr,hr2⟩ (Gr.set d g _);have:(10:Int) ^ (18:Int).toNat<=cell:=c2;have h10:(0:Int)<=10 ^ (18:Int).toNat:=by decide
    omega
   ·walk_at "w2";refine K6 (V5 (by decide) (by decide)) ?_;walk_at "w2";refine O4 (by decide) ?_;walk_at "w2";refine K6 (V5 (by decide) (by decide)) ?_;walk_at "w2";refine O4 (by decide) ?_;walk_at "w2";refine Q9 f2 (by with_unfolding_all rfl) ?_;rw[List.set_set];exact tail _ _ ⟨s,p+1,0,_,xs,List.getElem?_set_self hlt,by rw[List.getElem?_set_ne (Nat.ne_of_gt hsd)];exact e2,hsd,by omega,by decide,Int.emod_nonneg _ (by decide),Int.emod_lt_of_pos _ (by decide)⟩ (Gr.set d g _)
  ·walk_at "w1";exact tail _ _ D0 (Gr.refl _ _)
 ·walk_at "w1";walk_at "w1";exact tail _ _ D0 (Gr.refl _ _)
noncomputable def ab9:MDef:=⟨1,1,(.seq (.ret (.and_ (hı .isin kı0 (.lit (.ty "int"))) (.not_ (hı .isin kı0 (.lit (.ty "bool")))))) .pass)⟩
noncomputable def T3:MDef:=⟨3,3,(.seq (.ret (.and_ (.call 38 (hø kı0)) (.chain .LtE .LtE kı1 kı0 kı2))) .pass)⟩
structure NF(T:Nat->Option MDef):Prop where
 nf:T 1=some T3
 is:T 38=some ab9
noncomputable def E9:MDef:=⟨1,3,(.seq (.set 1 (kø 0)) (.seq (.for_ (.one 2) (.itE kı0) (.seq (.ifs (.not_ (.tst (.call 1 (yı kı2 kı1 (kø 7))))) (.seq (.ret (.lit (.bl false))) .pass) .pass) (.seq (.set 1 (hı (.bin .Add) kı2 (kø 1))) .pass))) (.seq (.ret (.lit (.bl true))) .pass)))⟩
noncomputable def au9:MDef:=⟨1,1,(.seq (.ret (.prim .lst (yø (jđ .list (hı (.slc false true) kı0 (kø 63))) (kø 0) (kø 0) (kø 29)))) .pass)⟩
noncomputable def ay9:MDef:=⟨1,1,(.seq (.ret (.and_ (hı .isin kı0 (.lit (.ty "int"))) (.not_ (hı .isin kı0 (.lit (.ty "bool")))))) .pass)⟩
noncomputable def B4:MDef:=⟨2,2,(.seq (.ifs (jı .Is kı1 (.lit .non)) (.seq (.ret (hı (.cmp .Is) kı0 (.lit .non))) .pass) .pass) (.seq (.ifs (.tst (hı .isin kı1 (.lit (.ty "bool")))) (.seq (.ret (.and_ (hı .isin kı0 (.lit (.ty "bool"))) (hı (.cmp .Eq) kı0 kı1))) .pass) .pass) (.seq (.ifs (.tst (hı .isin kı1 (.lit (.ty "int")))) (.seq (.ret (.and_ (.call 6 (hø kı0)) (hı (.cmp .Eq) kı0 kı1))) .pass) .pass) (.seq (.ifs (.tst (hı .isin kı1 (.lit (.ty "str")))) (.seq (.ret (.and_ (hı .isin kı0 (.lit (.ty "str"))) (hı (.cmp .Eq) kı0 kı1))) .pass) .pass) (.seq (.ifs (.or_ (jı .NotEq (hı .isin kı1 (.lit (.ty "tuple"))) (hı .isin kı0 (.lit (.ty "tuple")))) (jı .NotEq (hı .isin kı1 (.lit (.ty "list"))) (hı .isin kı0 (.lit (.ty "list"))))) (.seq (.ret (.lit (.bl false))) .pass) .pass) (.seq (.ifs (jı .NotEq (jđ .len kı0) (jđ .len kı1)) (.seq (.ret (.lit (.bl false))) .pass) .pass) (.seq (.ret (jđ .all (.comp [1,0] 4 (.one 3) (.itR1 (jđ .len kı1)) .no (.call 7 (hđ (jø kı1 kı3) (jø kı0 kı3)))))) .pass)))))))⟩
theorem M7{g:G}{n:Nat}:∀ms:List Int,(ms.map D.int).mapM (rd g n)=some (ms.map PyData.int)
 |[]=>rfl
 |m::r=>by
  rw[List.map_cons,List.mapM_cons,M7 r];cases n<;>rfl
theorem lay_ints:∀ms:List Int,PyData.canLayAll0 (ms.map PyData.int)=true
 |[]=>by simp[PyData.canLayAll0]
 |m::r=>by simp[PyData.canLayAll0,PyData.canLay0,lay_ints r]
theorem ag6:∀ms ns:List Int,PyData.eqvAll (ms.map PyData.int) (ns.map PyData.int)=decide (ms=ns)
 |[],[]=>by simp[PyData.eqvAll]
 |[],_::_=>by simp[PyData.eqvAll]
 |_::_,[]=>by simp[PyData.eqvAll]
 |m::r,n::q=>by
  simp only[List.map_cons,PyData.eqvAll,PyData.eqv,ag6 r q];by_cases h:m=n
  ·subst h;simp
  ·simp[h]
theorem ar8{g:G}{ms:List Int}{i:Int}{k:Bool->Prop}(h:k (ms.any fun m=>m==i)):inP g (.int i) (.tup (ms.map .int)) k:=by
 refine⟨_,.inr ⟨_,_,_,rfl,M7 ms,rfl,lay_ints ms,by simp[PyData.canLay0],rfl⟩,?_⟩;rw[List.any_map];exact h
theorem aU5{g:G}{a b:Nat}{ms ns:List Int}{k:Bool->Prop}(ha:d4 g a=some (ms.map .int))(hb:d4 g b=some (ns.map .int))(h:k (decide (ms=ns))):eqP g (.ref a) (.ref b) k:=by
 refine⟨_,.inr (.inr (.inr ⟨.list (ms.map .int),.list (ns.map .int),?_,?_,?_,?_,rfl⟩)),?_⟩
 ·simp only[rd];rw[ha];dsimp only;rw[M7];rfl
 ·simp only[rd];rw[hb];dsimp only;rw[M7];rfl
 ·simp[PyData.canLay0,lay_ints]
 ·simp[PyData.canLay0,lay_ints]
 ·simp only[PyData.eqv,ag6];exact h
section
variable{T:Nat->Option MDef}{k d:Nat}{g:G}{Q:KD}{E:KX}
theorem ac5(h1:NF T){i:Int}(h:Q (.bl true) g):c5 T (k+1) 38 [.int i] g Q E:=by
 refine call_of h1.is rfl ?_;dsimp[ab9,d0,List.replicate];walk_at "w2";refine isi (c:="int") (b:=true) (by decide) rfl ?_;walk_at "w2";refine isi (c:="bool") (b:=false) (by decide) rfl ?_;walk_at "w2";exact h
theorem x8(h1:NF T){i l m:Int}(h:Q (.bl (decide (l<=i)&&decide (i<=m))) g):c5 T (k+2) 1 [.int i,.int l,.int m] g Q E:=by
 refine call_of h1.nf rfl ?_;dsimp[T3,d0,List.replicate];walk_at "w2";refine ac5 h1 ?_;walk_at "w2";refine if2 (fun c=>?_) (fun c=>?_)
 ·rw[decide_eq_true c] at h;walk_at "w2";exact h
 ·rw[decide_eq_false c] at h;exact h
noncomputable def gm:Int->List Int->Bool
 |_,[]=>true
 |l,x::r=>(decide (l<=x)&&decide (x<=7))&&gm (x+1) r
theorem aa6(h1:NF T)(h2:T 2=some E9){ms:List Int}(h:Q (.bl (gm 0 ms)) g):c5 T (k+3) 2 [.tup (ms.map .int)] g Q E:=by
 refine call_of h2 rfl ?_;dsimp[E9,d0,List.replicate];walk_at "w2";refine C6 (b0 T _) (i_t (b0 T _) ?_);walk_at "w2";refine⟨_,rfl,_,fun i σ g'=>g'=g/\∃(l:Int) (z:Option D),σ=[some (.tup (ms.map .int)),some (.int l),z]/\gm 0 ms=gm l (ms.drop i),fun _ _ _ _=>A2,⟨rfl,0,none,rfl,rfl⟩,fun i x σ g' hx p=>?_,fun σ g' p=>?_⟩
 ·obtain⟨rfl,l,z,rfl,e⟩:=p;rw[List.getElem?_map] at hx;cases em:ms[i]? with
  |none=>rw[em] at hx;cases hx
  |some m =>
   rw[em] at hx;cases hx;have hi:=(List.getElem?_eq_some_iff.mp em).1;have ed:ms.drop i=m::ms.drop (i+1):=by
    rw[List.drop_eq_getElem_cons hi]
    congr 1
    exact(List.getElem?_eq_some_iff.mp em).2
   rw[ed] at e;simp only[gm] at e;show wpS _ _ _ _ _ _;walk_at "w2";refine x8 h1 ?_;walk_at "w2";cases hc:(decide (l<=m)&&decide (m<=7)) with
   |true =>
    rw[hc,Bool.true_and] at e;show wpS _ _ _ _ _ _;walk_at "w2";exact⟨rfl,m+1,some (.int m),rfl,e⟩
   |false =>
    rw[hc,Bool.false_and] at e;rw[e] at h;show wpS _ _ _ _ _ _;walk_at "w2";exact h
 ·obtain⟨rfl,l,z,rfl,e⟩:=p;rw[List.drop_eq_nil_of_le (by simp)] at e;simp only[gm] at e;rw[e] at h;show wpS _ _ _ _ _ _;walk_at "w2";exact h
theorem bd5(h3:T 3=some au9){a:Nat}{ns:List Int}(hg:g[a]?=some (.fro (ns.map .int)))(h:∀d g',i7 g' d->g.length<=d->(∀i,i<g.length->g'[i]?=g[i]?)->Q (.ref d) g'):c5 T (k+1) 3 [.ref a] g Q E:=by
 refine call_of h3 rfl ?_;dsimp[au9,d0,List.replicate];walk_at "w2";refine aP8 (aT6 hg) ?_;walk_at "w2";refine a65 (l:=cut (ns.map D.int) none (some 63)) (a7 (by simp)) ?_;walk_at "w2";have ec:cut (ns.map D.int) none (some 63)=(cut ns none (some 63)).map D.int:=by
  unfold cut;simp[List.map_take,List.map_drop]
 refine h _ _ ⟨g.length+1,0,0,29,cut ns none (some 63),?_,?_,?_,by decide,by decide,by decide,by decide⟩ (by simp) (fun i hi=>?_)
 ·simp
 ·rw[<- ec];simp
 ·simp
 ·simp[List.getElem?_append,hi,Nat.lt_of_lt_of_le hi (by omega:g.length<=g.length+1),Nat.lt_of_lt_of_le hi (by omega:g.length<=g.length+1+1)]
end
theorem a67:∀{ms:List Int} {l:Int},ms.Pairwise (· < ·)->(∀m∈ms,l<=m/\m<=7)->gm l ms=true
 |[],_,_,_=>rfl
 |m::r,l,hp,h=>by
  obtain⟨h1,h2⟩:=List.pairwise_cons.mp hp;have hm:=h m (by simp);simp only[gm];rw[decide_eq_true hm.1,decide_eq_true hm.2,a67 h2 fun x hx=>⟨by have:=h1 x hx;omega,(h x (by simp[hx])).2⟩]
  rfl
theorem H9{α:Type}{l:List α}{r:Int}(h0:0<=r)(h1:r<l.length):∃v,atI l r=some v/\v∈l:=by
 have hi:r.toNat<l.length:=by omega
 refine⟨l[r.toNat],?_,List.getElem_mem hi⟩;have:=B0 (xs:=l) (j:=r.toNat) (v:=l[r.toNat]) (List.getElem?_eq_getElem hi)
 rwa [show((r.toNat:Nat):Int)=r by omega] at this
section
variable{T:Nat->Option MDef}{k d:Nat}{g:G}{Q:KD}{E:KX}
theorem aG6(h7:T 7=some B4){a b:Bool}(h:Q (.bl (a==b)) g):c5 T (k+1) 7 [.bl a,.bl b] g Q E:=by
 refine call_of h7 rfl ?_;dsimp[B4,d0,List.replicate];walk_at "w2";walk_at "w2";refine isi (c:="bool") (b:=true) (by decide) rfl ?_;walk_at "w2";refine isi (c:="bool") (b:=true) (by decide) rfl ?_;walk_at "w2";exact h
end
noncomputable def A6:MDef:=⟨1,8,(.seq (.unp (.many [1,2,3,4,5]) kı0) (.seq (.set 6 (.and_ (.call 1 (yı kı1 (kø 1) (kø 99))) (.call 2 (hø kı2)))) (.seq (.set 7 (.and_ (.call 1 (yı kı3 (kø 1) (kø 99))) (.call 2 (hø kı4)))) (.seq (.ret (.and_ kı6 (.and_ kı7 (.call 1 (yı kı5 (kø 0) (kø 9999)))))) .pass))))⟩
structure b7 where
 lo:Int
 lm:List Int
 up:Int
 um:List Int
 yr:Int
noncomputable def b7.d(c:b7):D:=.tup [.int c.lo,.tup (c.lm.map .int),.int c.up,.tup (c.um.map .int),.int c.yr]
noncomputable def n6(c:b7):Bool:=((decide (1<=c.lo)&&decide (c.lo<=99))&&gm 0 c.lm)&&(((decide (1<=c.up)&&decide (c.up<=99))&&gm 0 c.um)&&(decide (0<=c.yr)&&decide (c.yr<=9999)))
section
variable{T:Nat->Option MDef}{k d:Nat}{g:G}{Q:KD}{E:KX}
theorem aA1(h1:NF T)(h2:T 2=some E9)(h12:T 12=some A6){c:b7}(h:Q (.bl (n6 c)) g):c5 T (k+4) 12 [c.d] g Q E:=by
 refine call_of h12 rfl ?_;dsimp[A6,d0,List.replicate,b7.d];walk_at "w3";refine x8 h1 ?_;have s1:∀b:Bool,b=((decide (1<=c.lo)&&decide (c.lo<=99))&&gm 0 c.lm)->wpS (c5 T (k+3)) (i8 (i8 A6.body)) ⟨fun _ g'=>Q .non g',Q,fun _ _=>False,fun _ _=>False⟩ [some c.d,some (.int c.lo),some (.tup (c.lm.map .int)),some (.int c.up),some (.tup (c.um.map .int)),some (.int c.yr),some (.bl b),none] g E:=by
  intro b hb;dsimp[A6,i8];walk_at "w3";refine x8 h1 ?_;have s2:∀b':Bool,b'=((decide (1<=c.up)&&decide (c.up<=99))&&gm 0 c.um)->wpS (c5 T (k+3)) (i8 (i8 (i8 A6.body))) ⟨fun _ g'=>Q .non g',Q,fun _ _=>False,fun _ _=>False⟩ [some c.d,some (.int c.lo),some (.tup (c.lm.map .int)),some (.int c.up),some (.tup (c.um.map .int)),some (.int c.yr),some (.bl b),some (.bl b')] g E:=by
   intro b' hb';dsimp[A6,i8];have e:n6 c=(b&&(b'&&(decide (0<=c.yr)&&decide (c.yr<=9999)))):=by unfold n6;rw[hb,hb']
   rw[e] at h;walk_at "w3";cases b
   ·exact ai1 h
   ·refine ift ?_;walk_at "w3";cases b'
    ·exact ai1 h
    ·refine ift ?_;walk_at "w3";exact x8 h1 h
  refine ap5 ?_;cases hc:(decide (1<=c.up)&&decide (c.up<=99)) with
  |false=>exact ai1 (s2 false (by rw[hc];rfl))
  |true =>
   refine ift ?_;walk_at "w1";walk_at "w1";walk_at "w1";walk_at "w1";exact aa6 h1 h2 (s2 _ (by rw[hc];rfl))
 refine ap5 ?_;cases hc:(decide (1<=c.lo)&&decide (c.lo<=99)) with
 |false=>exact ai1 (s1 false (by rw[hc];rfl))
 |true =>
  refine ift ?_;walk_at "w1";walk_at "w1";walk_at "w1";walk_at "w1";exact aa6 h1 h2 (s1 _ (by rw[hc];rfl))
end
noncomputable def P7:MDef:=⟨2,5,(.seq (.set 2 (jđ .list kı1)) (.seq (.set 3 (.prim .lst .nil)) (.seq (.for_ (.one 4) (.itR1 (jđ .len kı1)) (.seq (.expr (.meth .append kı3 (hø (.meth .pop kı2 (hø (.call 4 (hđ kı0 (jđ .len kı2)))))))) .pass)) (.seq (.ret kı3) .pass))))⟩
theorem aj9{α:Type}:∀{l:List α} {j:Nat} (h:j<l.length),(l[j]::l.eraseIdx j).Perm l
 |a::r,0,_=>by simp
 |a::r,j+1,h=>by
  simp only[List.getElem_cons_succ,List.eraseIdx_cons_succ];exact(List.Perm.swap _ _ _).trans ((aj9 (l:=r) (j:=j) (by simpa using h)).cons a)
theorem Gr.F8{d x:Nat}{g g':G}{o:O}(h:Gr d g g')(hx:g.length<=x):Gr d g (g'.set x o):=⟨by simp[h.len],fun i h1 h2=>by rw[List.getElem?_set_ne (by omega)];exact h.old i h1 h2⟩
theorem i7.F8{g:G}{d x:Nat}{o:O}(h:i7 g d)(hx:d<x):i7 (g.set x o) d:=by
 obtain⟨s,p,b,r,xs,e1,e2,hs,q⟩:=h.ex;exact⟨s,p,b,r,xs,by rw[List.getElem?_set_ne (by omega)];exact e1,by rw[List.getElem?_set_ne (by omega)];exact e2,hs,q⟩
theorem c7{g:G}{o:O}:(g++[o])[g.length]?=some o:=by simp
theorem m5{g:G}{i:Nat}{o o':O}(h:g[i]?=some o):(g++[o'])[i]?=some o:=by rw[List.getElem?_append_left (j8 h)];exact h
theorem get_set{g:G}{i:Nat}{o o':O}(h:g[i]?=some o):(g.set i o')[i]?=some o':=List.getElem?_set_self (j8 h)
theorem f6{g:G}{i j:Nat}{o o':O}(h:g[i]?=some o)(hn:j≠i):(g.set j o')[i]?=some o:=by rw[List.getElem?_set_ne hn];exact h
section
variable{T:Nat->Option MDef}{k d:Nat}{g:G}{Q:KD}{E:KX}
theorem ag2(h4:T 4=some C7)(h21:T 21=some P7){a:Nat}{l:List D}(ha:g[a]?=some (.lst l))(hl:l.length<=1000)(hd:a≠d)(D0:i7 g d)(h:∀(l':List D) b g',l'.Perm l->g'[b]?=some (.lst l')->g.length<=b->i7 g' d->Gr d g g'->Q (.ref b) g'):c5 T (k+2) 21 [.ref d,.ref a] g Q E:=by
 refine call_of h21 rfl ?_;dsimp[P7,d0,List.replicate];walk_at "w5";refine a65 (a7 ha) ?_;walk_at "w5";have dl:=D0.lt;refine C6 (b0 T _) (ac6 (b0 T _) ?_);walk_at "w5";have ha2:(g++[O.lst l]++[O.lst []])[a]?=some (.lst l):=m5 (m5 ha);refine S0 (a7 ha2) ?_;refine ⟨_,rfl,by omega,by omega,j7 0 l.length,fun i σ g'=>∃ left found w,σ=[some (.ref d),some (.ref a),some (.ref g.length),some (.ref (g.length + 1)),w]/\(left ++ found).Perm l/\left.length + i=l.length/\g'[g.length]?=some (.lst left)/\g'[g.length + 1]?=some (.lst found)/\i7 g' d/\Gr d g g',
  fun i σ g p=>A2,?_,fun i x σ g' hx p=>?_,fun σ g' p=>?_⟩
 ·refine⟨l,[],none,?_,by simp,by simp,?_,?_,(D0.snoc _).snoc _,(Gr.snoc _ _ _).trans (Gr.snoc _ _ _)⟩
  ·simp
  ·exact m5 c7
  ·have:=c7 (g:=g++[O.lst l]) (o:=O.lst []);simpa using this
 ·obtain⟨left,found,w,rfl,hp,hn,e1,e2,D1,G1⟩:=p;obtain⟨hi,rfl⟩:=E6 hx;show wpS _ _ _ _ _ _;walk_at "w5";refine i0 (n:=(left.length:Int)) h4 D1 (by omega) (by omega) fun r g2 r0 r1 D2 G2=>?_;have f1:=G2.at (by omega) e1;have f2:=G2.at (by omega) e2;have hr:r.toNat<left.length:=by omega
  walk_at "w5";refine bA0 (j:=r.toNat) f1 (by omega) (List.getElem?_eq_getElem hr) (by omega) ?_;walk_at "w5";refine R7 (f6 f2 (by omega)) ?_ ?_
  ·have:=hp.length_eq;simp at this;omega
  walk_at "w5";refine⟨_,_,_,rfl,?_,?_,f6 (get_set f1) (by omega),get_set (f6 f2 (by omega)),(D2.F8 (by omega)).F8 (by omega),((G1.trans G2).F8 (by omega)).F8 (by omega)⟩
  ·refine List.Perm.trans ?_ hp;have:=aj9 hr;refine List.Perm.trans ?_ (List.Perm.append_right found this);simp only[List.cons_append];rw[<- List.append_assoc];exact(List.perm_append_singleton _ _)
  ·rw[List.length_eraseIdx_of_lt hr];omega
 ·obtain⟨left,found,w,rfl,hp,hn,e1,e2,D1,G1⟩:=p;show wpS _ _ _ _ _ _;walk_at "w5";rw[m9] at hn;have:left=[]:=List.eq_nil_of_length_eq_zero (by omega);subst this;exact h _ _ _ (by simpa using hp) e2 (by omega) D1 G1
end
noncomputable def Y8:MDef:=⟨1,5,(.seq (.set 1 (.prim .lst (gø (.prim .tup .nil) (jđ .tup (kø 0)) (hı .tup (kø 0) (kø 1)) (jđ .tup (kø 1)) (.prim .tup (yı (kø 0) (kø 1) (kø 2))) (.prim .tup (yø (kø 0) (kø 1) (kø 2) (kø 7))) (jđ .tup (kø 2))))) (.seq (.set 2 (jø kı1 (.call 4 (hđ kı0 (jø (hı .tup (kø 4) (kø 7)) (jđ .int (hı (.cmp .Eq) (.call 4 (hđ kı0 (kø 4))) (kø 0)))))))) (.seq (.set 3 (jø kı1 (.call 4 (hđ kı0 (kø 5))))) (.seq (.set 4 (jø (.prim .lst (gı (kø 0) (kø 0) (kø 1400) (kø 1400) (kø 1401) (kø 1))) (.call 4 (hđ kı0 (kø 6))))) (.seq (.ret (.prim .tup (yđ (hı (.bin .Add) (kø 1) (.call 4 (hđ kı0 (kø 3)))) kı2 (hı (.bin .Add) (kø 1) (.call 4 (hđ kı0 (kø 4)))) kı3 kı4))) .pass)))))⟩
noncomputable def E8:MDef:=⟨4,4,(.seq (.ifs (.or_ (jı .Eq (jđ .len kı1) (kø 0)) (.and_ (jı .Lt (jđ .len kı1) kı3) (jı .Eq (.call 4 (hđ kı0 (kø 3))) (kø 0)))) (.seq (.expr (.meth .append kı1 (hø kı2))) (.seq (.ret (hı (.bin .Add) kı2 (kø 1))) .pass)) .pass) (.seq (.ifs (jı .Eq (.call 4 (hđ kı0 (kø 5))) (kø 0)) (.seq (.setix kı1 (.call 4 (hđ kı0 (jđ .len kı1))) kı2) (.seq (.ret (hı (.bin .Add) kı2 (kø 1))) .pass)) .pass) (.seq (.ret kı2) .pass)))⟩
structure GCn(c:b7):Prop where
 good:n6 c=true
 l8:c.lm.length<=8
 u8:c.um.length<=8
theorem GCn.mk'{lo up yr:Int}{lm um:List Int}(h1:1<=lo)(h2:lo<=99)(h3:1<=up)(h4:up<=99)(h5:0<=yr)(h6:yr<=9999)(h7:gm 0 lm=true)(h8:gm 0 um=true)(h9:lm.length<=8)(h10:um.length<=8):GCn ⟨lo,lm,up,um,yr⟩:=by
 refine⟨?_,h9,h10⟩;simp only[n6,h7,h8,decide_eq_true h1,decide_eq_true h2,decide_eq_true h3,decide_eq_true h4,decide_eq_true h5,decide_eq_true h6]
 rfl
theorem GCn.inv{c:b7}(h:GCn c):(1<=c.lo/\c.lo<=99)/\gm 0 c.lm=true/\(1<=c.up/\c.up<=99)/\gm 0 c.um=true/\0<=c.yr/\c.yr<=9999:=by
 have:=h.good;unfold n6 at this;simp only[Bool.and_eq_true,decide_eq_true_eq] at this;obtain⟨⟨⟨a,b⟩,e⟩,⟨⟨c',d⟩,f⟩,p,q⟩:=this;exact⟨⟨a,b⟩,e,⟨c',d⟩,f,p,q⟩
noncomputable def L9:List (List Int):=[[],[0],[0,1],[1],[0,1,2],[0,1,2,7],[2]]
theorem be6:∀ms∈L9,gm 0 ms=true/\ms.length<=8:=by decide
theorem aG4{r:Int}(h0:0<=r)(h7:r<7):∃ms,atI (L9.map fun ms=>D.tup (ms.map .int)) r=some (.tup (ms.map .int))/\gm 0 ms=true/\ms.length<=8:=by
 obtain⟨v,hv,hm⟩:=H9 (l:=L9.map fun ms=>D.tup (ms.map .int)) h0 (by simpa[L9] using h7);obtain⟨ms,h1,rfl⟩:=List.mem_map.mp hm;exact⟨ms,hv,be6 ms h1⟩
section
variable{T:Nat->Option MDef}{k d:Nat}{g:G}{Q:KD}{E:KX}
theorem aE3(h4:T 4=some C7)(h22:T 22=some Y8)(D0:i7 g d)(h:∀c g',GCn c->i7 g' d->Gr d g g'->Q c.d g'):c5 T (k+2) 22 [.ref d] g Q E:=by
 refine call_of h22 rfl ?_;dsimp[Y8,d0,List.replicate];have dl:=D0.lt;walk_at "w5";have D1:=D0.snoc (.lst (L9.map fun ms=>D.tup (ms.map .int)));have G1:=Gr.snoc d g (.lst (L9.map fun ms=>D.tup (ms.map .int)));have e1:(g++[O.lst (L9.map fun ms=>D.tup (ms.map .int))])[g.length]?=some (.lst (L9.map fun ms=>D.tup (ms.map .int))):=c7;show c5 _ _ _ _ (g++[O.lst (L9.map fun ms=>D.tup (ms.map .int))]) _ _;generalize g++[O.lst (L9.map fun ms=>D.tup (ms.map .int))]=g1 at *;refine i0 h4 D1 (by decide) (by decide) fun r g2 r0 r1 D2 G2=>?_;walk_at "w5";have e2:=G2.at (by omega) e1;have hn:∃n:Int,atI [D.int 4,D.int 7] (if decide (r=0)=true then 1 else 0)=some (.int n)/\0<n/\n<=7:=by
  by_cases hr:r=0
  ·exact⟨7,by rw[decide_eq_true hr];rfl,by decide,by decide⟩
  ·exact⟨4,by rw[decide_eq_false hr];rfl,by decide,by decide⟩
 obtain⟨n,en,n0,n7⟩:=hn;refine E1 en ?_;walk_at "w5";refine i0 h4 D2 n0 (by omega) fun r3 g3 r30 r31 D3 G3=>?_;have e3:=G3.at (by omega) e2;obtain⟨lm,el,gl,ll⟩:=aG4 r30 (by omega);refine q8 (a7 e3) el ?_;walk_at "w5";refine i0 h4 D3 (by decide) (by decide) fun r4 g4 r40 r41 D4 G4=>?_;have e4:=G4.at (by omega) e3;obtain⟨um,eu,gu,lu⟩:=aG4 r40 (by omega);refine q8 (a7 e4) eu ?_;walk_at "w5";have e5:(g4++[O.lst [.int 0,.int 0,.int 1400,.int 1400,.int 1401,.int 1]])[g4.length]?=some (.lst [.int 0,.int 0,.int 1400,.int 1400,.int 1401,.int 1]):=c7;refine i0 h4 (D4.snoc _) (by decide) (by decide) fun r5 g5 r50 r51 D5 G5=>?_;have e6:=G5.at (by have:=D4.lt;omega) e5;obtain⟨v,hv,hm⟩:=H9 (l:=[D.int 0,.int 0,.int 1400,.int 1400,.int 1401,.int 1]) r50 (by simpa using r51);have hy:∃y:Int,v=.int y/\0<=y/\y<=9999:=by
  simp only[List.mem_cons,List.mem_nil_iff,or_false] at hm;rcases hm with rfl|rfl|rfl|rfl|rfl|rfl<;>exact⟨_,rfl,by decide,by decide⟩
 obtain⟨y,rfl,y0,y1⟩:=hy;refine q8 (a7 e6) hv ?_;walk_at "w5";refine i0 h4 D5 (by decide) (by decide) fun r6 g6 r60 r61 D6 G6=>?_;walk_at "w5";refine i0 h4 D6 (by decide) (by decide) fun r7 g7 r70 r71 D7 G7=>?_;walk_at "w5";exact h ⟨1+r6,lm,1+r7,um,y⟩ _ (GCn.mk' (by omega) (by omega) (by omega) (by omega) y0 y1 gl gu ll lu) D7 (G1.trans (G2.trans (G3.trans (G4.trans ((Gr.snoc _ _ _).trans (G5.trans (G6.trans G7)))))))
noncomputable def aN7(l:List D)(f:Int):Prop:=∃ns:List Int,l=ns.map .int/\∀n∈ns,1<=n/\n<f
theorem aQ0(h4:T 4=some C7)(h23:T 23=some E8){a:Nat}{l:List D}{f v:Int}(ha:g[a]?=some (.lst l))(hl:l.length<1000)(hs:aN7 l f)(f1:1<=f)(hd:d<a)(D0:i7 g d)(h:∀(l':List D) (f':Int) g',l'≠[]->l'.length<=l.length+1->aN7 l' f'->f<=f'->f'<=f+1->g'[a]?=some (.lst l')->i7 g' d->(∀i,i≠d->i≠a->i<g.length->g'[i]?=g[i]?)->g.length<=g'.length->Q (.int f') g'):c5 T (k+2) 23 [.ref d,.ref a,.int f,.int v] g Q E:=by
 refine call_of h23 rfl ?_;have dl:=D0.lt;obtain⟨ns,rfl,hns⟩:=id hs;have app:∀g':G,g'[a]?=some (.lst (ns.map D.int))->i7 g' d->Gr d g g'->wpS (c5 T (k+1)) (.seq (.expr (.meth .append (.var 1) (.cons (.var 2) .nil))) (.seq (.ret (.prim (.bin .Add) (.cons (.var 2) (.cons (.lit (.int 1)) .nil)))) .pass)) ⟨fun σ1 g1=>wpS (c5 T (k+1)) (i8 E8.body) ⟨fun _ g'=>Q .non g',Q,fun _ _=>False,fun _ _=>False⟩ σ1 g1 E,Q,fun _ _=>False,fun _ _=>False⟩ [some (.ref d),some (.ref a),some (.int f),some (.int v)] g' E:=by
  intro g' e D1 G1;walk_at "w5";refine R7 e (by simp at hl ⊢;omega) ?_;walk_at "w5";refine h _ _ _ (by simp) (by simp) ⟨ns++[f],by simp,fun n hn=>?_⟩ (by omega) (by omega) (get_set e) (D1.F8 hd) (fun i h1 h2 h3=>?_) (by simp[G1.len])
  ·rcases List.mem_append.mp hn with z|z
   ·have:=hns n z;omega
   ·simp at z;omega
  ·rw[List.getElem?_set_ne (Ne.symm h2)];exact G1.old i h1 h3
 have rest:∀g':G,g'[a]?=some (.lst (ns.map D.int))->ns≠[]->i7 g' d->Gr d g g'->wpS (c5 T (k+1)) (i8 E8.body) ⟨fun _ g'=>Q .non g',Q,fun _ _=>False,fun _ _=>False⟩ [some (.ref d),some (.ref a),some (.int f),some (.int v)] g' E:=by
  intro g' e hne D1 G1;dsimp[E8,i8];walk_at "w5";refine i0 h4 D1 (by decide) (by decide) fun r g2 r0 r1 D2 G2=>?_;have e2:=G2.at (by omega) e;have hlen:0<ns.length:=List.length_pos_iff.mpr hne;walk_at "w5";refine if2 (fun c=>?_) (fun c=>?_)
  ·walk_at "w5";rw[List.length_map];refine i0 h4 D2 (by omega) (by simp at hl;omega) fun r3 g3 r30 r31 D3 G3=>?_;have e3:=G3.at (by omega) e2;have hj:ixN (ns.map D.int).length r3=some r3.toNat:=by
    unfold ixN;rw[if_pos r30,if_pos (by rw[List.length_map];exact r31)]
   refine Q9 e3 hj ?_;walk_at "w5";refine h _ _ _ (by simp[hne]) (by simp) ⟨ns.set r3.toNat f,by simp,fun n hn=>?_⟩ (by omega) (by omega) (get_set e3) (D3.F8 hd) (fun i h1 h2 h3=>?_) (by simp[((G1.trans G2).trans G3).len])
   ·rcases List.mem_or_eq_of_mem_set hn with z|z
    ·have:=hns n z;omega
    ·omega
   ·rw[List.getElem?_set_ne (Ne.symm h2)];exact((G1.trans G2).trans G3).old i h1 h3
  ·walk_at "w5";exact h _ _ _ (by simp[hne]) (by simp) hs (by omega) (by omega) e2 D2 (fun i h1 h2 h3=>(G1.trans G2).old i h1 h3) (G1.trans G2).len
 dsimp[E8,d0,List.replicate];walk_at "w5";refine if2 (fun c=>?_) (fun c=>?_)
 ·refine ift ?_;exact app g ha D0 (Gr.refl _ _)
 ·have hne:ns≠[]:=fun z=>c (by rw[z];rfl);walk_at "w5";refine if2 (fun c2=>?_) (fun c2=>?_)
  ·walk_at "w5";refine i0 h4 D0 (by decide) (by decide) fun r g2 r0 r1 D2 G2=>?_;walk_at "w5";refine if2 (fun c3=>?_) (fun c3=>?_)
   ·exact app g2 (G2.at (by omega) ha) D2 G2
   ·walk_at "w1";exact rest g2 (G2.at (by omega) ha) hne D2 G2
  ·walk_at "w1";walk_at "w1";exact rest g ha hne D0 (Gr.refl _ _)
end
noncomputable def E7:MDef:=⟨3,17,(.seq (.set 3 (.prim .lst .nil)) (.seq (.set 4 (kø 1)) (.seq (.set 5 (.prim .Z3 .nil)) (.seq (.set 6 (jø (.prim .lst (yı (kø 0) (kø 1) (kø 1350))) (.call 4 (hđ kı0 (kø 3))))) (.seq (.set 7 (hı (.bin .Add) (kø 1) (.call 4 (hđ kı0 (kø 96))))) (.seq (.set 8 (hı (.bin .Add) (kø 2) (.call 4 (hđ kı0 (kø 4))))) (.seq (.set 9 (hı .max (kø 0) (hı (.bin .Sub) (.call 4 (hđ kı0 (kø 9))) (kø 6)))) (.seq (.set 10 (.prim .lst .nil)) (.seq (.for_ (.one 11) (.itR1 kı1) (.seq (.set 4 (.call 23 (yø kı0 kı3 kı4 kı2))) (.seq (.set 12 (hı .tup (jø kı3 (.call 4 (hđ kı0 (jđ .len kı3)))) (hı (.bin .Add) (kø 50) (.call 4 (hđ kı0 (hı (.bin .Add) (kø 2) kı2)))))) (.seq (.for_ (.one 13) (.itE kı12) (.seq (.ifs (jı .Eq (.call 4 (hđ kı0 kı8)) (kø 0)) (.seq (.set 14 (.call 4 (hđ kı0 (kø 8)))) (.seq (.setix kı5 kı13 (jđ .tuple (.comp [13,14,5] 5 (.one 4) (.itR1 (kø 8)) (.or_ (jı .Eq kı4 kı1) (jı .In kı4 (.meth .get kı2 (hđ kı0 (.prim .tup .nil))))) kı4))) .pass)) .pass) .pass)) (.seq (.ifs (jı .Eq (.call 4 (hđ kı0 (kø 5))) (kø 0)) (.seq (.set 6 (hı .min (kø 9999) (hı (.bin .Add) (hı (.bin .Add) kı6 (kø 1)) (.call 4 (hđ kı0 (kø 9)))))) .pass) .pass) (.seq (.set 15 (.comp [9,7] 4 (.one 3) (.itE kı12) .no (hı (.bin .Add) (hı (.bin .Add) (kø 1) kı0) (hı (.bin .Mod) (hı (.bin .Mult) kı3 kı1) (kø 97))))) (.seq (.set 16 (hı (.bin .Mult) kı6 (jđ .int (hı (.cmp .Gt) (.call 4 (hđ kı0 (kø 4))) (kø 0))))) (.seq (.expr (.meth .append kı10 (hø (.prim .tup (yđ (jø kı15 (kø 0)) (.meth .get kı5 (hđ (jø kı12 (kø 0)) (.prim .tup .nil))) (jø kı15 (kø 1)) (.meth .get kı5 (hđ (jø kı12 (kø 1)) (.prim .tup .nil))) kı16))))) .pass)))))))) (.seq (.ret kı10) .pass))))))))))⟩
noncomputable def Z9(kvs:List (Key×D)):Prop:=∀k v,p6 kvs k=some v->∃ms:List Int,v=.tup (ms.map .int)/\gm 0 ms=true/\ms.length<=8
theorem aW9(kvs:List (Key×D))(k k':Key)(v:D):p6 (putD kvs k v) k'=if k'=k then some v else p6 kvs k':=by
 unfold putD;split
 ·rename_i hany;have go:∀l:List (Key×D),p6 (l.map fun kv=>if kv.1=k then(kv.1,v) else kv) k'=if k'=k then(if(l.any fun kv=>decide (kv.1=k))=true then some v else none) else p6 l k':=by
   intro l
   induction l with
   |nil=>simp[p6]
   |cons p r ih =>
    obtain⟨pk,pv⟩:=p;by_cases e:pk=k
    ·subst e;by_cases e2:k'=pk
     ·subst e2;simp[p6]
     ·have:¬pk=k':=fun z=>e2 z.symm;unfold p6 at ih ⊢;simp[this,e2] at ih ⊢;exact ih
    ·by_cases e2:k'=k
     ·subst e2;unfold p6 at ih ⊢;rw[List.any_cons,show decide (pk=k')=false from decide_eq_false e,Bool.false_or];simp[e] at ih ⊢;exact ih
     ·unfold p6 at ih ⊢;simp only[List.map_cons,e,if_false,List.find?_cons];by_cases e3:pk=k'
      ·simp[e3,e2]
      ·simp[e3];simp[e2] at ih;simp[e2];exact ih
  rw[go,hany]
  rfl
 ·rename_i hany;unfold p6;rw[List.find?_append];by_cases e:k'=k
  ·subst e;have:kvs.find? (fun kv=>decide (kv.1=k'))=none:=by
    rw[List.find?_eq_none];intro x hx hd;exact hany (List.any_eq_true.mpr ⟨x,hx,hd⟩)
   rw[this];simp
  ·have:¬k=k':=fun z=>e z.symm;simp[this,e]
theorem aZ7(kvs:List (Key×D))(k:Key)(v:D):(putD kvs k v).length<=kvs.length+1:=by
 unfold putD;split<;>simp
theorem Z9.put{kvs:List (Key×D)}{k:Key}{ms:List Int}(h:Z9 kvs)(h1:gm 0 ms=true)(h2:ms.length<=8):Z9 (putD kvs k (.tup (ms.map .int))):=fun k' v hv=>by
 rw[aW9] at hv;split at hv
 ·cases hv;exact⟨ms,rfl,h1,h2⟩
 ·exact h k' v hv
theorem Z9.get{kvs:List (Key×D)}(h:Z9 kvs)(k:Key):∃ms:List Int,(p6 kvs k).getD (.tup [])=.tup (ms.map .int)/\gm 0 ms=true/\ms.length<=8:=by
 cases e:p6 kvs k with
 |none=>exact⟨[],rfl,rfl,by simp⟩
 |some v=>obtain⟨ms,rfl,h1,h2⟩:=h k v e;exact⟨ms,rfl,h1,h2⟩
theorem aU2(p:Int->Bool):gm 0 (((List.range 8).map fun(n:Nat)=>(n:Int)).filter p)=true/\(((List.range 8).map fun(n:Nat)=>(n:Int)).filter p).length<=8:=by
 refine⟨a67 (List.Pairwise.filter _ (by decide)) fun m hm=>?_,Nat.le_trans (List.length_filter_le _ _) (by decide)⟩;have:=(List.mem_filter.mp hm).1;revert this;revert m;intro m _ hm;simp at hm;obtain⟨a,ha,rfl⟩:=hm;omega
theorem List.ab3{α:Type}{l:List α}{i:Nat}{x:α}(h:l[i]?=some x):l.set i x=l:=by
 apply List.ext_getElem?;intro j;by_cases e:i=j
 ·subst e;rw[List.getElem?_set_self (List.getElem?_eq_some_iff.mp h).1];exact h.symm
 ·rw[List.getElem?_set_ne e]
section
variable{T:Nat->Option MDef}{k d:Nat}{g:G}{Q:KD}{E:KX}
noncomputable def aw2:MS:=match E7.body with
 |.seq _ (.seq _ (.seq _ (.seq _ (.seq _ (.seq _ (.seq _ (.seq _ (.seq (.for_ _ _ (.seq _ (.seq _ (.seq (.for_ _ _ b) _)))) _))))))))=>b
 |x=>x
theorem a84(h4:T 4=some C7){w0:Nat}{key wr:Int}{kvs:List (Key×D)}{σ:S}{N:Ends}(hw:g[w0]?=some (.dic kvs))(W:Z9 kvs)(hk:kvs.length<1000)(hr:0<wr)(hr2:wr<1000)(hd:d<w0)(D0:i7 g d)(s0:σ[0]?=some (some (.ref d)))(s5:σ[5]?=some (some (.ref w0)))(s8:σ[8]?=some (some (.int wr)))(s13:σ[13]?=some (some (.int key)))(sl:σ.length=17)(h:∀z kvs' g',g'[w0]?=some (.dic kvs')->Z9 kvs'->kvs'.length<=kvs.length+1->i7 g' d->(∀i,i≠d->i≠w0->i<g.length->g'[i]?=g[i]?)->g.length<=g'.length->N.nx (σ.set 14 z) g'):wpS (c5 T (k+1)) aw2 N σ g E:=by
 obtain⟨z14,e14⟩:∃z,σ[14]?=some z:=⟨_,List.getElem?_eq_getElem (by omega)⟩
 dsimp[aw2,E7];refine ab0 (aI1 (aI0 (aw3 (aj0 (P0 (w_var s0 (P0 (w_var s8 (au4 ?_)))))))));refine i0 h4 D0 hr (by omega) fun r g2 r0 r1 D2 G2=>?_;have dl:=D0.lt;walk_at "w5";refine if2 (fun c=>?_) (fun c=>?_)
 ·refine au3 (au2 (aj0 (P0 (w_var s0 (P0 (w_lit (au4 ?_)))))));refine i0 h4 D2 (by decide) (by decide) fun r3 g3 r30 r31 D3 G3=>?_;have e3:=(G2.trans G3).at (by omega) hw;have t0:(σ.set 14 (some (.int r3)))[0]?=some (some (.ref d)):=by rw[List.getElem?_set_ne (by decide)];exact s0
  have t5:(σ.set 14 (some (.int r3)))[5]?=some (some (.ref w0)):=by rw[List.getElem?_set_ne (by decide)];exact s5
  have t13:(σ.set 14 (some (.int r3)))[13]?=some (some (.int key)):=by rw[List.getElem?_set_ne (by decide)];exact s13
  have t14:(σ.set 14 (some (.int r3)))[14]?=some (some (.int r3)):=List.getElem?_set_self (by omega);obtain⟨ms,em,_,_⟩:=W.get (.inl key);refine ab0 (aE6 (aw4 ?_));refine aI3 (b0 T _) (w_lit ⟨8,rfl,by decide,fun i ys σ' g'=>g'=g3/\ys.length<=i/\(∃z w,σ'=[some (.int key),some (.int r3),some (.ref w0),z,w])/\ys=((((List.range i).map fun(n:Nat)=>(n:Int)).filter fun s=>decide (s=r3)||ms.any fun m=>m==s).map D.int),⟨rfl,by simp,⟨none,none,?_⟩,rfl⟩,fun i ys σ g' p=>p.2.1,fun i ys σ' g' hi p=>?_,fun ys σ' g' p=>?_⟩)
  ·simp[C8,t13,t14,t5,List.replicate]
  ·obtain⟨rfl,hl,⟨z,w,rfl⟩,e⟩:=p;have er:(List.range (i+1)).map (fun(n:Nat)=>(n:Int))=(List.range i).map (fun(n:Nat)=>(n:Int))++[(i:Int)]:=by rw[List.range_succ];simp
   have yes:(decide ((i:Int)=r3)||ms.any fun m=>m==(i:Int))=true->wpE (c5 T (k+1)) (.var 4) [some (.int key),some (.int r3),some (.ref w0),z,some (.int i)] g' (fun y g4=>g4=g'/\(ys++[y]).length<=i+1/\(∃z' w',[some (.int key),some (.int r3),some (.ref w0),z,some (D.int i)]=[some (.int key),some (.int r3),some (.ref w0),z',w'])/\(ys++[y])=((((List.range (i+1)).map fun(n:Nat)=>(n:Int)).filter fun s=>decide (s=r3)||ms.any fun m=>m==s).map D.int)) NoX:=fun hc=>by
    walk_at "w5";refine⟨rfl,by simp;omega,⟨_,_,rfl⟩,?_⟩;rw[er,List.filter_append,List.map_append,<- e];simp[hc]
   show wpT _ _ _ _ _ _;walk_at "w5";refine if2 (fun c1=>?_) (fun c1=>?_)
   ·refine ift ?_;exact yes (by rw[decide_eq_true c1];rfl)
   ·walk_at "w5";refine aL5 e3 (k:=.inl key) rfl ?_;rw[em];walk_at "w5";refine bt8 (ar8 ?_);walk_at "w5";cases hc:(ms.any fun m=>m==(i:Int)) with
    |true =>
     refine ift ?_;exact yes (by rw[hc];simp)
    |false =>
     refine ai1 ?_;refine⟨rfl,by omega,⟨_,_,rfl⟩,?_⟩;rw[er,List.filter_append,List.map_append,<- e];simp[hc,c1]
  ·obtain⟨rfl,hl,_,e⟩:=p;subst e;refine bv2 (a7 c7) ?_;obtain⟨f1,f2⟩:=aU2 fun s=>decide (s=r3)||ms.any fun m=>m==s
   refine w_var t5 (w_var t13 ?_);refine a60 (m5 e3) (k:=.inl key) rfl (by omega) ?_;refine h _ _ _ (get_set (m5 e3)) (W.put f1 f2) (aZ7 _ _ _) ((D3.snoc _).F8 hd) (fun i h1 h2 h3=>?_) ?_
   ·rw[List.getElem?_set_ne (Ne.symm h2),List.getElem?_append_left (Nat.lt_of_lt_of_le h3 (G2.trans G3).len)];exact(G2.trans G3).old i h1 h3
   ·have:=(G2.trans G3).len;simp;omega
 ·refine J6 ?_;have e2:=G2.at (by omega) hw;have:=h z14 kvs g2 e2 W (by omega) D2 (fun i h1 h2 h3=>G2.old i h1 h3) G2.len
  rwa [List.ab3 e14] at this
end
section
variable{T:Nat->Option MDef}{k d:Nat}{g:G}{Q:KD}{E:KX}
noncomputable def J8:MS:=match E7.body with
 |.seq _ (.seq _ (.seq _ (.seq _ (.seq _ (.seq _ (.seq _ (.seq _ (.seq (.for_ _ _ b) _))))))))=>b
 |x=>x
structure StruckSt(d s0 w0 f0 i:Nat)(g:G)(f y:Int):Prop where
 seats:∃l,g[s0]?=some (.lst l)/\aN7 l f/\l.length<=i
 fr:1<=f/\f<=1+i
 worn:∃kvs,g[w0]?=some (.dic kvs)/\Z9 kvs/\kvs.length<=2*i
 found:∃cs:List b7,g[f0]?=some (.lst (cs.map b7.d))/\cs.length=i/\∀c∈cs,GCn c
 year:0<=y/\y<=9999
 dr:i7 g d
theorem aC5{s0 w0 f0 i n0:Nat}{n v f y st wr sh:Int}{x11 x12 x13 x14 x15 x16:Option D}(h4:T 4=some C7)(h23:T 23=some E8)(S:StruckSt d s0 w0 f0 i g f y)(hi:i<=100)(hv:1<=v/\v<=100)(hst:1<=st/\st<=96)(hwr:0<wr/\wr<1000)(hsh:0<=sh/\sh<=2)(o1:d<n0)(o2:n0<=s0)(o3:s0<w0)(o4:w0<f0){N:Ends}(h:∀f' y' z12 z13 z14 z15 z16 g',StruckSt d s0 w0 f0 (i+1) g' f' y'->(∀j,j≠d->j<n0->g'[j]?=g[j]?)->g.length<=g'.length->N.nx [some (.ref d),some (.int n),some (.int v),some (.ref s0),some (.int f'),some (.ref w0),some (.int y'),some (.int st),some (.int wr),some (.int sh),some (.ref f0),x11,z12,z13,z14,z15,z16] g') :
  wpS (c5 T (k+2)) J8 N [some (.ref d),some (.int n),some (.int v),some (.ref s0),some (.int f),some (.ref w0),some (.int y),some (.int st),some (.int wr),some (.int sh),some (.ref f0),x11,x12,x13,x14,x15,x16] g E:=by
 obtain⟨⟨l,es,hs,hl⟩,⟨f1,f2⟩,⟨kvs,ew,W,hk⟩,⟨cs,ef,hc,hg⟩,⟨y0,y1⟩,D0⟩:=S;have lf:=j8 ef;dsimp[J8,E7];walk_at "w5";refine aQ0 h4 h23 es (by omega) hs f1 (by omega) D0 fun l1 f' g1 hne hl1 hs1 f3 f5 es1 D1 old1 len1=>?_;have ew1:g1[w0]?=some (.dic kvs):=(old1 w0 (by omega) (by omega) (j8 ew)).trans ew;have ef1:g1[f0]?=some (.lst (cs.map b7.d)):=(old1 f0 (by omega) (by omega) lf).trans ef;walk_at "w5";have hl1p:0<l1.length:=List.length_pos_iff.mpr hne;refine i0 (n:=(l1.length:Int)) h4 D1 (by omega) (by omega) fun r2 g2 r20 r21 D2 G2=>?_;have es2:=G2.at (by omega) es1;have ew2:=G2.at (by omega) ew1;have ef2:=G2.at (by omega) ef1;obtain⟨x,hx,hm⟩:=H9 (l:=l1) r20 r21;obtain⟨ns,rfl,hns⟩:=id hs1;obtain⟨k1,hk1,rfl⟩:=List.mem_map.mp hm;refine q8 (a7 es2) hx ?_;walk_at "w5";refine i0 (n:=2+v) h4 D2 (by omega) (by omega) fun r3 g3 r30 r31 D3 G3=>?_;have es3:=G3.at (by omega) es2;have ew3:=G3.at (by omega) ew2;have ef3:=G3.at (by omega) ef2;walk_at "w5";have kb1:=hns k1 hk1;have old3:∀j,j≠d->j<n0->g3[j]?=g[j]?:=fun j a b=>by
  have lj:j<g.length:=by omega
  rw[G3.old j a (by have:=G2.len;omega),G2.old j a (by omega),old1 j a (by omega) lj]
 have len3:g.length<=g3.length:=by have:=G2.len;have:=G3.len;omega
 refine C6 (b0 T _) (i_t (b0 T _) ?_);walk_at "w5";refine ⟨_,rfl,_,fun j σ g'=>∃ kvs' z13 z14,σ=[some (.ref d),some (.int n),some (.int v),some (.ref s0),some (.int f'),some (.ref w0),some (.int y),some (.int st),some (.int wr),some (.int sh),some (.ref f0),x11,some (.tup [.int k1,.int (50 + r3)]),z13,z14,x15,x16]/\g'[w0]?=some (.dic kvs')/\Z9 kvs'/\kvs'.length <= 2 * i + j/\i7 g' d/\(∀ j,j ≠ d->j ≠ w0->j < g3.length->g'[j]?=g3[j]?)/\g3.length <= g'.length,
  fun _ _ _ _=>A2,⟨kvs,_,_,rfl,ew3,W,by omega,D3,fun _ _ _ _=>rfl,Nat.le_refl _⟩,fun j x σ g' hx p=>?_,fun σ g' p=>?_⟩
 ·obtain⟨kvs',z13,z14,rfl,ew',W',hk',D',old',len'⟩:=p;have hkey:∃key:Int,x=.int key/\j<2:=by
   match j,hx with
   |0,hx=>cases hx;exact⟨_,rfl,by decide⟩
   |1,hx=>cases hx;exact⟨_,rfl,by decide⟩
   |j+2,hx=>simp at hx
  obtain⟨key,rfl,hj⟩:=hkey;show wpS _ _ _ _ _ _;refine a84 (k:=k+1) h4 ew' W' (by omega) hwr.1 hwr.2 (by omega) D' rfl rfl rfl rfl rfl fun z kvs2 g2' e2 W2 hk2 D2' old2 len2=>?_;exact⟨kvs2,_,_,rfl,e2,W2,by omega,D2',fun j a b c=>(old2 j a b (by omega)).trans (old' j a b c),by omega⟩
 obtain⟨kvs4,z13,z14,rfl,ew4,W4,hk4,D4,old4,len4⟩:=p;have es4:g'[s0]?=some (.lst (ns.map D.int)):=(old4 s0 (by omega) (by omega) (j8 es3)).trans es3;have ef4:g'[f0]?=some (.lst (cs.map b7.d)):=(old4 f0 (by omega) (by omega) (j8 ef3)).trans ef3;have old4':∀j,j≠d->j<n0->g'[j]?=g[j]?:=fun j a b=>(old4 j a (by omega) (by omega)).trans (old3 j a b);clear old4 old3 G2 G3 es1 ew1 ef1 es2 ew2 ef2 es3 ew3 ef3 old1;have hk4:kvs4.length<=2*(i+1):=by simp at hk4;omega
 show wpS _ _ _ _ _ _;walk_at "w5";refine i0 h4 D4 (by decide) (by decide) fun r5 g5 r50 r51 D5 G5=>?_;walk_at "w5";have tail:∀(y':Int) (g6:G),0<=y'->y'<=9999->i7 g6 d->Gr d g' g6->wpS (c5 T (k+2)) (i8 (i8 (i8 (i8 J8)))) N [some (.ref d),some (.int n),some (.int v),some (.ref s0),some (.int f'),some (.ref w0),some (.int y'),some (.int st),some (.int wr),some (.int sh),some (.ref f0),x11,some (.tup [.int k1,.int (50+r3)]),z13,z14,x15,x16] g6 E:=by
  intro y' g6 y0' y1' D6 G6;have es6:=G6.at (by omega) es4;have ew6:=G6.at (by omega) ew4;have ef6:=G6.at (by omega) ef4;dsimp[J8,E7,i8];walk_at "w5";refine aI2 (b0 T _) ?_;walk_at "w5";refine⟨_,rfl,by simp,fun j ys σ g7=>g7=g6/\(∃z w,σ=[some (.int sh),some (.int st),z,w])/\ys=([k1,50+r3].take j).map (fun key=>D.int (1+sh+key*st % 97)),⟨rfl,⟨none,none,rfl⟩,rfl⟩,fun j ys σ g7 p=>?_,fun j x ys σ g7 hx p=>?_,fun ys σ g7 p=>?_⟩
  ·obtain⟨rfl,_,rfl⟩:=p;simp;omega
  ·obtain⟨rfl,⟨z,w,rfl⟩,rfl⟩:=p;have hkey:∃key:Int,x=.int key/\([k1,50+r3].take j).map (fun key=>D.int (1+sh+key*st % 97))++[D.int (1+sh+key*st % 97)]=([k1,50+r3].take (j+1)).map (fun key=>D.int (1+sh+key*st % 97)):=by
    match j,hx with
    |0,hx=>cases hx;exact⟨_,rfl,rfl⟩
    |1,hx=>cases hx;exact⟨_,rfl,rfl⟩
    |j+2,hx=>simp at hx
   obtain⟨key,rfl,he⟩:=hkey;show wpT _ _ _ _ _ _;walk_at "w5";refine K6 (V5 (by omega) (by omega)) ?_;walk_at "w5";exact⟨rfl,⟨_,_,rfl⟩,he⟩
  obtain⟨rfl,_,rfl⟩:=p;have eN:(g7++[O.lst [D.int (1+sh+k1*st % 97),D.int (1+sh+(50+r3)*st % 97)]])[g7.length]?=some (.lst [D.int (1+sh+k1*st % 97),D.int (1+sh+(50+r3)*st % 97)]):=c7;show wpS _ _ _ _ (g7++[O.lst [D.int (1+sh+k1*st % 97),D.int (1+sh+(50+r3)*st % 97)]]) _;walk_at "w5";refine i0 h4 (D6.snoc _) (by decide) (by decide) fun r8 g8 r80 r81 D8 G8=>?_;have l7:=D6.lt;have eN8:=G8.at (by omega) eN;have es8:=G8.at (by omega) (m5 es6);have ew8:=G8.at (by omega) (m5 ew6);have ef8:=G8.at (by omega) (m5 ef6);walk_at "w5";refine K6 (ac9 (by omega) (by omega)) ?_;walk_at "w5";obtain⟨lm,el,gl,ll⟩:=W4.get (.inl k1);obtain⟨um,eu,gu,lu⟩:=W4.get (.inl (50+r3));refine aL5 ew8 (k:=.inl k1) rfl ?_;rw[el];walk_at "w5";refine aL5 ew8 (k:=.inl (50+r3)) rfl ?_;rw[eu];walk_at "w5";refine R7 ef8 (by simp;omega) ?_;generalize hty:y'*(if decide (0<r8)=true then 1 else 0)=ty;have ty0:0<=ty/\ty<=9999:=by
   rw[<- hty];split<;>simp<;>omega
  walk_at "w5";refine h f' y' _ _ _ _ _ _ ⟨⟨_,f6 es8 (by omega),hs1,by omega⟩,⟨by omega,by omega⟩,⟨kvs4,f6 ew8 (by omega),W4,hk4⟩,⟨cs++[⟨1+sh+k1*st % 97,lm,1+sh+(50+r3)*st % 97,um,ty⟩],?_,by simp[hc],?_⟩,⟨y0',y1'⟩,D8.F8 (by omega)⟩ (fun j a b=>?_) ?_
  ·rw[get_set ef8];simp[b7.d]
  ·intro c hc';rcases List.mem_append.mp hc' with z|z
   ·exact hg c z
   ·simp at z;subst z;have m1:=Int.emod_nonneg (k1*st) (show(97:Int)≠0 by decide);have m2:=Int.emod_lt_of_pos (k1*st) (show(0:Int)<97 by decide);have m3:=Int.emod_nonneg ((50+r3)*st) (show(97:Int)≠0 by decide);have m4:=Int.emod_lt_of_pos ((50+r3)*st) (show(0:Int)<97 by decide);exact GCn.mk' (by omega) (by omega) (by omega) (by omega) ty0.1 ty0.2 gl gu ll lu
  ·have lj:j<g'.length:=by omega
   rw[List.getElem?_set_ne (by omega),G8.old j a (by have:=G6.len;simp;omega),List.getElem?_append_left (by have:=G6.len;omega),G6.old j a lj];exact old4' j a b
  ·have:=G6.len;have:=G8.len;simp at this ⊢;omega
 refine if2 (fun c=>?_) (fun c=>?_)
 ·walk_at "w5";refine i0 h4 D5 (by decide) (by decide) fun r6 g6 r60 r61 D6 G6=>?_;walk_at "w5";generalize hy':(if y+1+r6<9999 then y+1+r6 else 9999)=y';have:0<=y'/\y'<=9999:=by rw[<- hy'];split<;>omega
  exact tail y' g6 this.1 this.2 D6 (G5.trans G6)
 ·refine J6 ?_;exact tail y g5 y0 y1 D5 G5
theorem aP4(h4:T 4=some C7)(h23:T 23=some E8)(h24:T 24=some E7){n v:Int}(hn:0<=n/\n<=100)(hv:1<=v/\v<=100)(D0:i7 g d)(h:∀(cs:List b7) a g',(cs.length:Int)=n->(∀c∈cs,GCn c)->g'[a]?=some (.lst (cs.map b7.d))->g.length<=a->i7 g' d->Gr d g g'->Q (.ref a) g'):c5 T (k+3) 24 [.ref d,.int n,.int v] g Q E:=by
 refine call_of h24 rfl ?_;dsimp[E7,d0,List.replicate];have dl:=D0.lt;walk_at "w5";have D1:i7 (g++[O.lst []]++[O.dic []]++[O.lst [.int 0,.int 1,.int 1350]]) d:=((D0.snoc _).snoc _).snoc _;have G1:Gr d g (g++[O.lst []]++[O.dic []]++[O.lst [.int 0,.int 1,.int 1350]]):=((Gr.snoc _ _ _).trans (Gr.snoc _ _ _)).trans (Gr.snoc _ _ _);have e0:(g++[O.lst []]++[O.dic []]++[O.lst [.int 0,.int 1,.int 1350]])[g.length]?=some (.lst []):=m5 (m5 c7);have e1:(g++[O.lst []]++[O.dic []]++[O.lst [.int 0,.int 1,.int 1350]])[(g++[O.lst []]).length]?=some (.dic []):=m5 c7;have e2:(g++[O.lst []]++[O.dic []]++[O.lst [.int 0,.int 1,.int 1350]])[(g++[O.lst []]++[O.dic []]).length]?=some (.lst [.int 0,.int 1,.int 1350]):=c7;have n1:(g++[O.lst []]).length=g.length+1:=by simp
 have n2:(g++[O.lst []]++[O.dic []]).length=g.length+2:=by simp
 rw[n1] at e1 ⊢;rw[n2] at e2 ⊢;generalize g++[O.lst []]++[O.dic []]++[O.lst [.int 0,.int 1,.int 1350]]=g1 at *;refine i0 h4 D1 (by decide) (by decide) fun r2 g2 r20 r21 D2 G2=>?_;have e02:=G2.at (by omega) e0;have e12:=G2.at (by omega) e1;have e22:=G2.at (by omega) e2;obtain⟨x,hx,hm⟩:=H9 (l:=[D.int 0,.int 1,.int 1350]) r20 (by simpa using r21);have hy:∃y:Int,x=.int y/\0<=y/\y<=9999:=by
  simp only[List.mem_cons,List.mem_nil_iff,or_false] at hm;rcases hm with rfl|rfl|rfl<;>exact⟨_,rfl,by decide,by decide⟩
 obtain⟨y,rfl,y0,y1⟩:=hy;refine q8 (a7 e22) hx ?_;walk_at "w5";refine i0 h4 D2 (by decide) (by decide) fun r3 g3 r30 r31 D3 G3=>?_;walk_at "w5";refine i0 h4 D3 (by decide) (by decide) fun r4 g4 r40 r41 D4 G4=>?_;walk_at "w5";refine i0 h4 D4 (by decide) (by decide) fun r5 g5 r50 r51 D5 G5=>?_;have G25:=G3.trans (G4.trans G5);have e05:=G25.at (by omega) e02;have e15:=G25.at (by omega) e12;have l5:=(G1.trans (G2.trans G25)).len;have lw:=j8 e15;walk_at "w5";generalize hsh:(if r5-6>0 then r5-6 else 0)=sh;have sh0:0<=sh/\sh<=2:=by rw[<- hsh];split<;>omega
 have e35:(g5++[O.lst []])[g5.length]?=some (.lst []):=c7;refine C6 (b0 T _) (ac6 (b0 T _) ?_);walk_at "w5";refine ⟨by omega,by omega,j7 0 n.toNat,fun i σ g'=>∃ f' y' z11 z12 z13 z14 z15 z16,σ=[some (.ref d),some (.int n),some (.int v),some (.ref g.length),some (.int f'),some (.ref (g.length + 1)),some (.int y'),some (.int (1 + r3)),some (.int (2 + r4)),some (.int sh),some (.ref g5.length),z11,z12,z13,z14,z15,z16]/\StruckSt d g.length (g.length + 1) g5.length i g' f' y'/\Gr d g g',
  fun _ _ _ _=>A2,⟨1,y,none,none,none,none,none,none,rfl,⟨⟨[],m5 e05,⟨[],rfl,by simp⟩,by simp⟩,⟨by omega,by omega⟩,⟨[],m5 e15,(fun k v hv=>by cases hv),by simp⟩,⟨[],e35,rfl,by simp⟩,⟨y0,y1⟩,D5.snoc _⟩,(G1.trans (G2.trans G25)).trans (Gr.snoc _ _ _)⟩,fun i x σ g' hx p=>?_,fun σ g' p=>?_⟩
 ·obtain⟨f',y',z11,z12,z13,z14,z15,z16,rfl,S,G'⟩:=p;obtain⟨hi,rfl⟩:=E6 hx;show wpS _ J8 _ _ _ _;refine aC5 (n0:=g.length) h4 h23 S (by omega) hv ⟨by omega,by omega⟩ ⟨by omega,by omega⟩ sh0 dl (Nat.le_refl _) (by omega) (by omega) fun f2 y2 a b c e f g2 S2 old2 len2=>?_;exact⟨f2,y2,_,_,_,_,_,_,rfl,S2,⟨by have:=G'.len;omega,fun j h1 h2=>(old2 j h1 h2).trans (G'.old j h1 h2)⟩⟩
 ·obtain⟨f',y',z11,z12,z13,z14,z15,z16,rfl,S,G'⟩:=p;show wpS _ _ _ _ _ _;walk_at "w5";obtain⟨cs,ef,hc,hg⟩:=S.found;rw[m9] at hc;exact h cs _ _ (by omega) hg ef (by omega) S.dr G'
end
noncomputable def ae7:MDef:=⟨2,8,(.seq (.set 2 (hı .lrng2 (kø 1) (hı (.bin .Add) (hı (.bin .Add) (hı (.bin .FloorDiv) kı1 (kø 2)) (hı (.bin .Mod) kı1 (kø 2))) (kø 1)))) (.seq (.set 3 (hı (.bin .Add) kı2 (hı (.slc false true) (.call 21 (hđ kı0 kı2)) (hı (.bin .FloorDiv) kı1 (kø 2))))) (.seq (.set 4 (.call 4 (hđ kı0 (kø 3)))) (.seq (.set 5 (.prim .lst .nil)) (.seq (.for_ (.one 6) (.itR1 kı1) (.seq (.set 7 (jø (.prim .lst (yı (hı (.bin .Add) (kø 1000) kı6) (kø 0) (hı (.bin .Add) (kø 1) (hı (.bin .FloorDiv) (hı (.bin .Mult) (kø 2) kı6) (hı .max (kø 1) kı1))))) kı4)) (.seq (.expr (.meth .append kı5 (hø (.prim .tup (yđ (jø kı3 kı6) (.prim .tup .nil) (hı (.bin .Add) (kø 1) (.call 4 (hđ kı0 (kø 9)))) (.prim .tup .nil) kı7))))) .pass))) (.seq (.ret kı5) .pass))))))⟩
noncomputable def O1:MDef:=⟨2,9,(.seq (.set 2 (.call 4 (hđ kı0 (hı (.bin .Add) kı1 (kø 1))))) (.seq (.set 3 (hı (.bin .Add) (kø 1) (.call 4 (hđ kı0 (kø 3))))) (.seq (.set 4 (.call 4 (hđ kı0 (kø 5)))) (.seq (.ifs (jı .Eq kı4 (kø 0)) (.seq (.ret (hı .tup (.comp [0] 3 (.one 2) (.itR1 kı2) .no (.call 22 (hø kı0))) kı3)) .pass) .pass) (.seq (.ifs (jı .Eq kı4 (kø 4)) (.seq (.set 3 (hı (.bin .Add) (kø 1) (.call 4 (hđ kı0 (kø 6))))) .pass) .pass) (.seq (.set 5 (.ite (jı .Eq kı4 (kø 4)) (.call 25 (hđ kı0 kı2)) (.call 24 (yı kı0 kı2 kı3)))) (.seq (.set 5 (.comp [5] 3 (.one 2) (.itE (.call 21 (hđ kı0 (jđ .lrng1 kı2)))) .no (jø kı0 kı2))) (.seq (.ifs (.and_ (jı .Eq kı4 (kø 1)) (jı .Gt kı2 (kø 0))) (.seq (.set 6 (.call 4 (hđ kı0 kı2))) (.seq (.set 7 (jø kı5 kı6)) (.seq (.set 8 (jø kı5 (.call 4 (hđ kı0 kı2)))) (.seq (.setix kı5 kı6 (.prim .tup (yđ (jø kı7 (kø 0)) (jø kı8 (kø 1)) (jø kı8 (kø 2)) (jø kı7 (kø 3)) (jø (.prim .lst (yı (jø kı7 (kø 4)) (jø kı8 (kø 4)) (kø 9999))) (.call 4 (hđ kı0 (kø 3))))))) .pass)))) .pass) (.seq (.ifs (jı .Eq kı4 (kø 2)) (.seq (.set 3 (kø 1)) .pass) .pass) (.seq (.ret (hı .tup kı5 kı3)) .pass))))))))))⟩
theorem aG9{p:Int->Prop}:∀{l:List D},(∀x∈l,∃i:Int,x=.int i/\p i)->∃ns:List Int,l=ns.map .int/\∀i∈ns,p i
 |[],_=>⟨[],rfl,by simp⟩
 |x::r,h=>by
  obtain⟨i,rfl,hi⟩:=h x (by simp);obtain⟨ns,rfl,hn⟩:=aG9 (l:=r) fun y hy=>h y (by simp[hy]);exact⟨i::ns,rfl,fun j hj=>(List.mem_cons.mp hj).elim (fun z=>z▸hi) (hn j)⟩
theorem aF4{lo:Int}{n:Nat}{x:D}(h:x∈j7 lo n):∃i:Int,x=.int i/\lo<=i/\i<lo+n:=by
 unfold j7 at h;obtain⟨k,hk,rfl⟩:=List.mem_map.mp h;exact⟨_,rfl,by omega,by have:=List.mem_range.mp hk;omega⟩
theorem bt5{α:Type}{l:List α}{n:Nat}(h:n<=l.length):cut l none (some (n:Int))=l.take n:=by
 have:¬((n:Int)<0):=by omega
 unfold cut HT.sIx;simp[this]
theorem bg4{ns:List Int}{r:Int}(h0:0<=r)(h1:r<ns.length):∃i∈ns,atI (ns.map D.int) r=some (.int i):=by
 obtain⟨v,hv,hm⟩:=H9 (l:=ns.map D.int) h0 (by simpa using h1);obtain⟨i,hi,rfl⟩:=List.mem_map.mp hm;exact⟨i,hi,hv⟩
theorem ai6{cs:List b7}{r:Int}(h0:0<=r)(h1:r<cs.length):∃c∈cs,atI (cs.map b7.d) r=some c.d:=by
 obtain⟨v,hv,hm⟩:=H9 (l:=cs.map b7.d) h0 (by simpa using h1);obtain⟨i,hi,rfl⟩:=List.mem_map.mp hm;exact⟨i,hi,hv⟩
section
variable{T:Nat->Option MDef}{k d:Nat}{g:G}{Q:KD}{E:KX}
theorem aS1(h4:T 4=some C7)(h21:T 21=some P7)(h25:T 25=some ae7){n:Int}(hn:0<=n/\n<=100)(D0:i7 g d)(h:∀(cs:List b7) a g',(cs.length:Int)=n->(∀c∈cs,GCn c)->g'[a]?=some (.lst (cs.map b7.d))->g.length<=a->i7 g' d->Gr d g g'->Q (.ref a) g'):c5 T (k+3) 25 [.ref d,.int n] g Q E:=by
 refine call_of h25 rfl ?_;dsimp[ae7,d0,List.replicate];have dl:=D0.lt;walk_at "w5";refine lr2 (i:=1) (j:=n / 2+n % 2+1) (by omega) ?_;walk_at "w5";have hh:∃hf:Nat,(n / 2+n % 2+1-1).toNat=hf/\(hf:Int)=n / 2+n % 2/\hf<=50:=⟨_,rfl,by omega,by omega⟩
 obtain⟨hf,hh1,hh2,hh3⟩:=hh;rw[hh1];have e1:(g++[O.lst (j7 1 hf)])[g.length]?=some (.lst (j7 1 hf)):=c7;refine ag2 h4 h21 e1 (by rw[m9];omega) (by omega) (D0.snoc _) fun l' b g2 hp e2 hb D2 G2=>?_;have e12:=G2.at (by omega) e1;walk_at "w5";refine aP8 (a7 e2) ?_;have hle:l'.length=hf:=by rw[hp.length_eq,m9]
 have hc:cut l' none (some (n / 2))=l'.take (n / 2).toNat:=by
  have:=bt5 (l:=l') (n:=(n / 2).toNat) (by omega)
  rwa [show(((n / 2).toNat:Nat):Int)=n / 2 by omega] at this
 rw[hc];refine am4 (m5 e12) c7 (by rw[m9,List.length_take];omega) ?_;obtain⟨rl,er,hr⟩:=aG9 (p:=fun i=>1<=i/\i<=50) (l:=j7 1 hf++l'.take (n / 2).toNat) fun x hx=>by
  have hx':x∈j7 1 hf:=by
   rcases List.mem_append.mp hx with z|z
   ·exact z
   ·exact hp.mem_iff.mp (List.mem_of_mem_take z)
  obtain⟨i,rfl,h1,h2⟩:=aF4 hx';exact⟨i,rfl,h1,by omega⟩
 have hrl:(rl.length:Int)=n:=by
  have:=congrArg List.length er;rw[List.length_append,m9,List.length_take,List.length_map] at this;omega
 rw[er];have D3:=(D2.snoc (.lst (l'.take (n / 2).toNat))).snoc (.lst (rl.map D.int));have G3:=(Gr.snoc d g (.lst (j7 1 hf))).trans (G2.trans ((Gr.snoc d g2 (.lst (l'.take (n / 2).toNat))).trans (Gr.snoc d _ (.lst (rl.map D.int)))));have e3:(g2++[O.lst (l'.take (n / 2).toNat)]++[O.lst (rl.map D.int)])[(g2++[O.lst (l'.take (n / 2).toNat)]).length]?=some (.lst (rl.map D.int)):=c7;have l3:g.length+1<=(g2++[O.lst (l'.take (n / 2).toNat)]).length:=by have:=G2.len;simp at this ⊢;omega
 generalize (g2++[O.lst (l'.take (n / 2).toNat)]).length=rw0 at *;generalize g2++[O.lst (l'.take (n / 2).toNat)]++[O.lst (rl.map D.int)]=g3 at *;walk_at "w5";refine i0 h4 D3 (by decide) (by decide) fun r4 g4 r40 r41 D4 G4=>?_;have e4:=G4.at (by omega) e3;walk_at "w5";have G04:=G3.trans G4;have l4:=G04.len;have e5:(g4++[O.lst []])[g4.length]?=some (.lst ([].map b7.d)):=c7;have lr4:=j8 e4;refine C6 (b0 T _) (ac6 (b0 T _) ?_);walk_at "w5";refine ⟨by omega,by omega,j7 0 n.toNat,fun i σ g'=>∃ cs z6 z7,σ=[some (.ref d),some (.int n),some (.ref g.length),some (.ref rw0),some (.int r4),some (.ref g4.length),z6,z7]/\cs.length=i/\(∀ c ∈ cs,GCn c)/\g'[g4.length]?=some (.lst (cs.map b7.d))/\g'[rw0]?=some (.lst (rl.map D.int))/\i7 g' d/\Gr d g g',
  fun _ _ _ _=>A2,⟨[],none,none,rfl,rfl,by simp,e5,m5 e4,D4.snoc _,G04.trans (Gr.snoc _ _ _)⟩,fun i x σ g' hx p=>?_,fun σ g' p=>?_⟩
 ·obtain⟨cs,z6,z7,rfl,hc,hg,ef,erw,D',G'⟩:=p;obtain⟨hi,rfl⟩:=E6 hx;show wpS _ _ _ _ _ _;walk_at "w5";refine K6 (ac9 (by decide) (by decide)) ?_;walk_at "w5";refine av5 ⟨by split<;>omega,by split<;>omega⟩ ?_;walk_at "w5";obtain⟨yv,hy,hyr⟩:∃yv:Int,atI [D.int (1000+(0+(i:Int))),D.int 0,D.int (1+2*(0+(i:Int)) / (if n>1 then n else 1))] r4=some (.int yv)/\0<=yv/\yv<=9999:=by
   have dv0:0<=2*(0+(i:Int)) / (if n>1 then n else 1):=Int.ediv_nonneg (by omega) (by split<;>omega);have dv1:2*(0+(i:Int)) / (if n>1 then n else 1)<=2*(0+(i:Int)):=Int.ediv_le_self _ (by omega);have:r4=0\/r4=1\/r4=2:=by omega
   rcases this with rfl|rfl|rfl
   ·exact⟨_,rfl,by omega,by omega⟩
   ·exact⟨_,rfl,by omega,by omega⟩
   ·exact⟨_,rfl,by omega,by omega⟩
  refine q8 (a7 c7) hy ?_;walk_at "w5";obtain⟨lo,hlo,hlo2⟩:=bg4 (ns:=rl) (r:=0+(i:Int)) (by omega) (by omega);have lf:=j8 ef;refine And.intro (ab6 (m5 ef)) ?_;walk_at "w5";refine q8 (a7 (m5 erw)) hlo2 ?_;walk_at "w5";refine i0 h4 (D'.snoc _) (by decide) (by decide) fun r6 g6 r60 r61 D6 G6=>?_;have ef6:=G6.at (by omega) (m5 ef);have er6:=G6.at (by omega) (m5 erw);walk_at "w5";refine R7 ef6 (by simp;omega) ?_;walk_at "w5";have hlb:=hr lo hlo;refine⟨cs++[⟨lo,[],1+r6,[],yv⟩],_,_,rfl,by simp[hc],?_,?_,f6 er6 (by omega),D6.F8 (by omega),(G'.trans ((Gr.snoc _ _ _).trans G6)).F8 (by omega)⟩
  ·intro c hc';rcases List.mem_append.mp hc' with z|z
   ·exact hg c z
   ·simp at z;subst z;exact GCn.mk' (by omega) (by omega) (by omega) (by omega) hyr.1 hyr.2 rfl rfl (by simp) (by simp)
  ·rw[get_set ef6];simp[b7.d]
 ·obtain⟨cs,z6,z7,rfl,hc,hg,ef,erw,D',G'⟩:=p;show wpS _ _ _ _ _ _;walk_at "w5";rw[m9] at hc;exact h cs _ _ (by omega) hg ef (by omega) D' G'
end
section
variable{T:Nat->Option MDef}{k d:Nat}{g:G}{Q:KD}{E:KX}
structure LF(T:Nat->Option MDef):Prop where
 pull:T 4=some C7
 order:T 21=some P7
 any:T 22=some Y8
 seated:T 23=some E8
 struck:T 24=some E7
 opened:T 25=some ae7
 list:T 26=some O1
theorem aL8(hT:LF T){n:Int}(hn:0<=n/\n<=99)(D0:i7 g d)(h:∀(cs:List b7) a (v:Int) g',(cs.length:Int)<=n->(∀c∈cs,GCn c)->g'[a]?=some (.lst (cs.map b7.d))->g.length<=a->1<=v->v<=6->i7 g' d->Gr d g g'->Q (.tup [.ref a,.int v]) g'):c5 T (k+4) 26 [.ref d,.int n] g Q E:=by
 refine call_of hT.list rfl ?_;dsimp[O1,d0,List.replicate];have dl:=D0.lt;walk_at "w5";refine i0 (n:=n+1) hT.pull D0 (by omega) (by omega) fun m g1 m0 m1 D1 G1=>?_;walk_at "w5";refine i0 hT.pull D1 (by decide) (by decide) fun r2 g2 r20 r21 D2 G2=>?_;walk_at "w5";refine i0 hT.pull D2 (by decide) (by decide) fun way g3 w0 w1 D3 G3=>?_;have G03:=G1.trans (G2.trans G3);have l3:=G03.len;walk_at "w5";refine if2 (fun c=>?_) (fun c=>?_)
 ·walk_at "w5";refine F3 (b0 T _) (ac6 (b0 T _) ?_);walk_at "w5";refine⟨by omega,by omega,j7 0 m.toNat,fun i ys σ g'=>∃cs z1 z2,ys=cs.map b7.d/\cs.length=i/\(∀c∈cs,GCn c)/\σ=[some (.ref d),z1,z2]/\i7 g' d/\Gr d g g',by rw[m9];omega,fun i ys σ g' p=>⟨A2,?_⟩,⟨[],none,none,rfl,rfl,by simp,rfl,D3,G03⟩,fun i x ys σ g' hx p=>?_,fun ys σ g' p=>?_⟩
  ·obtain⟨cs,z1,z2,rfl,hc,_⟩:=p;simp[hc]
  ·obtain⟨cs,z1,z2,rfl,hc,hg,rfl,D',G'⟩:=p;show wpT _ _ _ _ _ _;walk_at "w5";refine aE3 hT.pull hT.any D' fun c0 g4 gc D4 G4=>?_;refine⟨cs++[c0],_,_,by simp,by simp[hc],fun c1 hc1=>?_,rfl,D4,G'.trans G4⟩;rcases List.mem_append.mp hc1 with z|z
   ·exact hg c1 z
   ·simp at z;subst z;exact gc
  ·obtain⟨cs,z1,z2,rfl,hc,hg,rfl,D',G'⟩:=p;rw[m9] at hc;walk_at "w5";exact h cs _ _ _ (by omega) hg c7 G'.len (by omega) (by omega) (D'.snoc _) (G'.trans (Gr.snoc _ _ _))
 have tail:∀(v:Int) (g4:G),1<=v->v<=6->i7 g4 d->Gr d g g4->wpS (c5 T (k+3)) (i8 (i8 (i8 (i8 (i8 O1.body))))) ⟨fun _ g'=>Q .non g',Q,fun _ _=>False,fun _ _=>False⟩ [some (.ref d),some (.int n),some (.int m),some (.int v),some (.int way),none,none,none,none] g4 E:=by
  intro v g4 v0 v1 D4 G4;dsimp[O1,i8];have after:∀(cs:List b7) a g5,(cs.length:Int)=m->(∀c∈cs,GCn c)->g5[a]?=some (.lst (cs.map b7.d))->g4.length<=a->i7 g5 d->Gr d g4 g5->wpS (c5 T (k+3)) (i8 (i8 (i8 (i8 (i8 (i8 O1.body)))))) ⟨fun _ g'=>Q .non g',Q,fun _ _=>False,fun _ _=>False⟩ [some (.ref d),some (.int n),some (.int m),some (.int v),some (.int way),some (.ref a),none,none,none] g5 E:=by
   intro cs a g5 hc hg ea la D5 G5;have G05:=G4.trans G5;have l4:=G4.len;dsimp[O1,i8];walk_at "w5";refine F3 (b0 T _) (i_l (b0 T _) ?_);walk_at "w5";refine lr1 (by omega) (by omega) ?_;walk_at "w5";have e6:(g5++[O.lst (j7 0 m.toNat)])[g5.length]?=some (.lst (j7 0 m.toNat)):=c7;have l5:=D5.lt;refine ag2 hT.pull hT.order e6 (by rw[m9];omega) (by omega) (D5.snoc _) fun l' b g7 hp eb lb D7 G7=>?_;have ea7:=G7.at (by omega) (m5 ea);have hl':l'.length=m.toNat:=by rw[hp.length_eq,m9]
   refine⟨b,l',rfl,a7 eb,l',fun i ys σ g'=>∃cs' z1 z2,ys=cs'.map b7.d/\cs'.length=i/\(∀c∈cs',GCn c)/\σ=[some (.ref a),z1,z2]/\g'=g7,by omega,fun i ys σ g' p=>?_,⟨[],none,none,rfl,rfl,by simp,rfl,rfl⟩,fun i x ys σ g' hx p=>?_,fun ys σ g' p=>?_⟩
   ·obtain⟨cs',z1,z2,rfl,hc',_,_,rfl⟩:=p;exact⟨A1 (a7 eb),by simp[hc']⟩
   ·obtain⟨cs',z1,z2,rfl,hc',hg',rfl,rfl⟩:=p;obtain⟨j,rfl,j0,j1⟩:=aF4 (hp.mem_iff.mp (List.mem_of_getElem? hx));show wpT _ _ _ _ _ _;walk_at "w5";obtain⟨c0,hc0,e0⟩:=ai6 (cs:=cs) j0 (by omega);refine q8 (a7 ea7) e0 ?_;refine⟨cs'++[c0],_,_,by simp,by simp[hc'],fun c1 hc1=>?_,rfl,rfl⟩;rcases List.mem_append.mp hc1 with z|z
    ·exact hg' c1 z
    ·simp at z;subst z;exact hg c1 hc0
   ·obtain⟨cs',z1,z2,rfl,hc',hg',rfl,rfl⟩:=p;have e8:(g'++[O.lst (cs'.map b7.d)])[g'.length]?=some (.lst (cs'.map b7.d)):=c7;have D8:=D7.snoc (.lst (cs'.map b7.d));have G8:=(G05.trans ((Gr.snoc d g5 (.lst (j7 0 m.toNat))).trans G7)).trans (Gr.snoc d g' (.lst (cs'.map b7.d)));have l8:g.length<=g'.length:=(G05.trans ((Gr.snoc d g5 (.lst (j7 0 m.toNat))).trans G7)).len;have fin:∀(cs2:List b7) z6 z7 z8 g9,(cs2.length:Int)=m->(∀c∈cs2,GCn c)->g9[g'.length]?=some (.lst (cs2.map b7.d))->i7 g9 d->Gr d g g9->wpS (c5 T (k+3)) (i8 (i8 (i8 (i8 (i8 (i8 (i8 (i8 O1.body)))))))) ⟨fun _ g'=>Q .non g',Q,fun _ _=>False,fun _ _=>False⟩ [some (.ref d),some (.int n),some (.int m),some (.int v),some (.int way),some (.ref g'.length),z6,z7,z8] g9 E:=by
     intro cs2 z6 z7 z8 g9 hc2 hg2 e9 D9 G9;dsimp[O1,i8];walk_at "w5";refine if2 (fun c=>?_) (fun c=>?_)
     ·walk_at "w5";exact h cs2 _ _ _ (by omega) hg2 e9 l8 (by omega) (by omega) D9 G9
     ·walk_at "w5";exact h cs2 _ _ _ (by omega) hg2 e9 l8 v0 v1 D9 G9
    show wpS _ _ _ _ (g'++[O.lst (cs'.map b7.d)]) _;have hm':(cs'.length:Int)=m:=by omega
    have l7':=D7.lt;generalize hg8:g'++[O.lst (cs'.map b7.d)]=g8 at *;walk_at "w5";refine if2 (fun c1=>?_) (fun c1=>?_)
    ·walk_at "w5";refine if2 (fun c2=>?_) (fun c2=>?_)
     ·walk_at "w5";refine i0 (n:=m) hT.pull D8 c2 (by omega) fun r g9 r0 r1 D9 G9=>?_;have e9:=G9.at (by omega) e8;obtain⟨c0,hc0,e0⟩:=ai6 (cs:=cs') r0 (by omega);walk_at "w5";refine q8 (a7 e9) e0 ?_;walk_at "w5";refine i0 (n:=m) hT.pull D9 c2 (by omega) fun r' g10 r0' r1' D10 G10=>?_;have e10:=G10.at (by omega) e9;obtain⟨c3,hc3,e3⟩:=ai6 (cs:=cs') r0' (by omega);refine q8 (a7 e10) e3 ?_;dsimp only[b7.d];walk_at "w5";refine i0 hT.pull (D10.snoc _) (by decide) (by decide) fun r'' g11 r0'' r1'' D11 G11=>?_;have l10:=D10.lt;have e11:=G11.at (by omega) (c7 (g:=g10) (o:=.lst [.int c0.yr,.int c3.yr,.int 9999]));have e10':=G11.at (by omega) (m5 (o':=.lst [.int c0.yr,.int c3.yr,.int 9999]) e10);obtain⟨x,hx,hm⟩:=H9 (l:=[D.int c0.yr,.int c3.yr,.int 9999]) r0'' (by simpa using r1'');obtain⟨a1,a2,a3,a4,a5,a6⟩:=(hg' c0 hc0).inv;obtain⟨b1,b2,b3,b4,b5,b6⟩:=(hg' c3 hc3).inv;have hy:∃y:Int,x=.int y/\0<=y/\y<=9999:=by
       simp only[List.mem_cons,List.mem_nil_iff,or_false] at hm;rcases hm with rfl|rfl|rfl
       ·exact⟨_,rfl,a5,a6⟩
       ·exact⟨_,rfl,b5,b6⟩
       ·exact⟨_,rfl,by decide,by decide⟩
      obtain⟨y,rfl,y0,y1⟩:=hy;refine q8 (a7 e11) hx ?_;walk_at "w5";have hj:ixN (cs'.map b7.d).length r=some r.toNat:=by
       unfold ixN;rw[if_pos r0,if_pos (by rw[List.length_map];omega)]
      refine Q9 e10' hj ?_;have gr:GCn ⟨c0.lo,c3.lm,c3.up,c0.um,y⟩:=GCn.mk' a1.1 a1.2 b3.1 b3.2 y0 y1 b2 a4 (hg' c3 hc3).l8 (hg' c0 hc0).u8;refine fin (cs'.set r.toNat ⟨c0.lo,c3.lm,c3.up,c0.um,y⟩) _ _ _ _ (by simp;omega) (fun c4 hc4=>?_) ?_ (D11.F8 (by omega)) ((G8.trans (G9.trans (G10.trans ((Gr.snoc _ _ _).trans G11)))).F8 l8)
      ·rcases List.mem_or_eq_of_mem_set hc4 with z|z
       ·exact hg' c4 z
       ·rw[z];exact gr
      ·rw[get_set e10',List.map_set]
       rfl
     ·refine J6 ?_;exact fin cs' _ _ _ _ hm' hg' e8 D8 G8
    ·exact fin cs' _ _ _ _ hm' hg' e8 D8 G8
  walk_at "w5";refine if2 (fun c=>?_) (fun c=>?_)
  ·walk_at "w5";refine aS1 hT.pull hT.order hT.opened ⟨m0,by omega⟩ D4 fun cs a g5 hc hg ea la D5 G5=>?_;exact after cs a g5 hc hg ea la D5 G5
  ·walk_at "w5";refine aP4 hT.pull hT.seated hT.struck ⟨m0,by omega⟩ ⟨v0,by omega⟩ D4 fun cs a g5 hc hg ea la D5 G5=>?_;exact after cs a g5 hc hg ea la D5 G5
 walk_at "w5";refine if2 (fun c=>?_) (fun c=>?_)
 ·walk_at "w5";refine i0 hT.pull D3 (by decide) (by decide) fun r4 g4 r40 r41 D4 G4=>?_;walk_at "w1";walk_at "w1";exact tail _ _ (by omega) (by omega) D4 (G03.trans G4)
 ·refine J6 ?_;exact tail _ _ (by omega) (by omega) D3 G03
end
noncomputable def K1:MDef:=⟨1,1,(.seq (.ifs (.not_ (.tst (.call 1 (yı kı0 (kø 1) (kø 9))))) (.seq (.raise "BadAnvils" (hø (kđ "there are from one to nine anvils"))) .pass) .pass) .pass)⟩
noncomputable def ae4:MDef:=⟨2,2,(.seq (.ret (jđ .all (.comp [1] 3 (.one 2) (.itE kı0) .no (hı (.cmp .In) kı2 kı0)))) .pass)⟩
noncomputable def Y7:MDef:=⟨1,1,(.seq (.ifs (.not_ (.tst (.call 12 (hø kı0)))) (.seq (.raise "BadCoin" (hø (kđ "it is no coin"))) .pass) .pass) .pass)⟩
noncomputable def T6:MDef:=⟨1,2,(.seq (.ifs (jı .Gt (jđ .len kı0) (kø 9)) (.seq (.raise "TooMany" (hø (kđ "at most nine coins are asked about at once"))) .pass) .pass) (.seq (.for_ (.one 1) (.itE kı0) (.seq (.expr (.call 39 (hø kı1))) .pass)) .pass))⟩
noncomputable def O2:MDef:=⟨1,1,(.seq (.ifs (jı .NotIn kı0 (.lit (.tup [(.str "lower"),(.str "upper")]))) (.seq (.raise "BadSide" (hø (kđ "a side is lower or upper"))) .pass) .pass) .pass)⟩
noncomputable def ac1:MDef:=⟨1,1,(.seq (.expr (.call 40 (hø kı0))) (.seq (.ret (hı .gget (.lit (.tup [(.tup [(.str "lower"),(.int 0)]),(.tup [(.str "upper"),(.int 2)])])) kı0)) .pass))⟩
noncomputable abbrev CkC(T:Nat->Option MDef):Prop:=T 18=some T6/\T 39=some Y7
noncomputable abbrev DfC(T:Nat->Option MDef):Prop:=T 19=some ac1/\T 40=some O2
structure Ex(g g':G):Prop where
 len:g.length<=g'.length
 old:∀i,i<g.length->g'[i]?=g[i]?
theorem Ex.refl(g:G):Ex g g:=⟨Nat.le_refl _,fun _ _=>rfl⟩
theorem Ex.trans{g g1 g2:G}(a:Ex g g1)(b:Ex g1 g2):Ex g g2:=⟨Nat.le_trans a.len b.len,fun i h=>(b.old i (Nat.lt_of_lt_of_le h a.len)).trans (a.old i h)⟩
theorem Ex.snoc(g:G)(o:O):Ex g (g++[o]):=⟨by simp,fun i h=>List.getElem?_append_left h⟩
theorem Ex.at{g g':G}(h:Ex g g'){i:Nat}{o:O}(e:g[i]?=some o):g'[i]?=some o:=(h.old i (j8 e)).trans e
theorem Ex.gr{g g':G}(h:Ex g g')(d:Nat):Gr d g g':=⟨h.len,fun i _ h2=>h.old i h2⟩
theorem Ex.draw{g g':G}{d:Nat}(h:Ex g g')(D0:i7 g d):i7 g' d:=by
 obtain⟨s,p,b,r,xs,e1,e2,q⟩:=D0.ex;exact⟨s,p,b,r,xs,h.at e1,h.at e2,q⟩
inductive C9(g:G):Nat->D->D->Prop
 |non {n:Nat}:C9 g n .non .non
 |bl {n:Nat} (b:Bool):C9 g n (.bl b) (.bl b)
 |int {n:Nat} (i:Int):C9 g n (.int i) (.int i)
 |str {n:Nat} (x:Str):C9 g n (.str x) (.str x)
 |tup {n:Nat} {l m:List D} (hl:l.length=m.length) (h:∀(i:Nat) x y,l[i]?=some x->m[i]?=some y->C9 g n x y) (hz:m.length<=1000):C9 g (n+1) (.tup l) (.tup m)
 |lst {n a b:Nat} {l m:List D} (ha:g[a]?=some (.lst l)) (hb:g[b]?=some (.lst m)) (hl:l.length=m.length) (h:∀(i:Nat) x y,l[i]?=some x->m[i]?=some y->C9 g n x y) (hz:m.length<=1000):C9 g (n+1) (.ref a) (.ref b)
theorem C9.ex{g g':G}(e:Ex g g'){n:Nat}{x y:D}(h:C9 g n x y):C9 g' n x y:=by
 induction h with
 |non=>exact .non
 |bl b=>exact .bl b
 |int i=>exact .int i
 |str x=>exact .str x
 |tup hl h hz ih=>exact .tup hl ih hz
 |lst ha hb hl h hz ih=>exact .lst (e.at ha) (e.at hb) hl ih hz
section
variable{T:Nat->Option MDef}{k d:Nat}{g:G}{Q:KD}{E:KX}
theorem aS6(h6:T 6=some ay9){i:Int}(h:Q (.bl true) g):c5 T (k+1) 6 [.int i] g Q E:=by
 refine call_of h6 rfl ?_;dsimp[ay9,d0,List.replicate];walk_at "w5";refine isi (c:="int") (b:=true) (by decide) rfl ?_;walk_at "w5";refine isi (c:="bool") (b:=false) (by decide) rfl ?_;walk_at "w5";exact h
noncomputable def aG7:MS:=match B4.body with
 |.seq _ (.seq _ (.seq _ (.seq _ (.seq _ b))))=>b
 |x=>x
theorem ar5(h6:T 6=some ay9)(h7:T 7=some B4):∀(n:Nat) {k:Nat} {g:G} {x y:D} {Q:KD} {E:KX},C9 g n x y->(∀g',Ex g g'->Q (.bl true) g')->c5 T (k+n+2) 7 [x,y] g Q E:=by
 have seqs:∀(n:Nat),(∀{k:Nat} {g:G} {x y:D} {Q:KD} {E:KX},C9 g n x y->(∀g',Ex g g'->Q (.bl true) g')->c5 T (k+n+2) 7 [x,y] g Q E) ->
   ∀{k:Nat} {g:G} {x y:D} {l m:List D} {Q:KD} {E:KX},(∀g',Ex g g'->F5 g' x=some l)->(∀g',Ex g g'->F5 g' y=some m)->l.length=m.length->m.length<=1000->(∀(i:Nat) x y,l[i]?=some x->m[i]?=some y->C9 g n x y)->(∀g',Ex g g'->Q (.bl true) g') ->
   wpS (c5 T (k+n+2)) aG7 ⟨fun _ g'=>Q .non g',Q,fun _ _=>False,fun _ _=>False⟩ [some x,some y] g E:=by
  intro n ih k g x y l m Q E hx hy hl hz hs hQ;have len:∀(z:D) (l:List D) (g':G) (Q':KD),F5 g' z=some l->Q' (.int l.length) g'->prP .len [z] g' Q':=fun z l g' Q' e q=>⟨_,_,⟨rfl,.inl ⟨z,l,rfl,e,rfl⟩⟩,q⟩
  dsimp[aG7,B4];refine au3 (aI1 (aI0 (aw3 (aw4 (w_var rfl (len _ _ _ _ (hx g (Ex.refl g)) ?_))))));refine aw4 (w_var rfl (len _ _ _ _ (hy g (Ex.refl g)) ?_));refine a75 ?_;rw[hl,decide_eq_true rfl];walk_at "w5";refine F3 (b0 T _) (ac6 (b0 T _) ?_);refine aw4 (w_var rfl (len _ _ _ _ (hy g (Ex.refl g)) ?_));refine⟨_,rfl,by omega,by omega,j7 0 m.length,fun i ys σ g'=>∃z w,ys=List.replicate i (.bl true)/\σ=[some y,some x,z,w]/\Ex g g',by rw[m9];exact hz,fun i ys σ g' p=>⟨A2,?_⟩,⟨none,none,rfl,rfl,Ex.refl g⟩,fun i z ys σ g' hz p=>?_,fun ys σ g' p=>?_⟩
  ·obtain⟨z,w,rfl,_⟩:=p;simp
  ·obtain⟨z,w,rfl,rfl,e⟩:=p;obtain⟨hi,rfl⟩:=E6 hz;have h1:l[i]?=some l[i]:=List.getElem?_eq_getElem (by omega);have h2:m[i]?=some m[i]:=List.getElem?_eq_getElem hi;have a1:atI l (0+(i:Int))=some l[i]:=by rw[Int.zero_add];exact B0 h1
   have a2:atI m (0+(i:Int))=some m[i]:=by rw[Int.zero_add];exact B0 h2
   show wpT _ _ _ _ _ _;refine au1 (ift (aj0 (P0 (aw3 (w_var rfl (w_var rfl ⟨_,_,⟨rfl,.inl ⟨_,l,_,rfl,hx g' e,a1⟩⟩,?_⟩))))));refine P0 (aw3 (w_var rfl (w_var rfl ⟨_,_,⟨rfl,.inl ⟨_,m,_,rfl,hy g' e,a2⟩⟩,?_⟩)));refine au4 (ih ((hs i _ _ h1 h2).ex e) fun g2 e2=>?_);exact⟨_,_,by rw[List.replicate_succ'],rfl,e.trans e2⟩
  ·obtain⟨z,w,rfl,rfl,e⟩:=p;refine a81 (a7 c7) (v:=true) ?_ (hQ _ (e.trans (Ex.snoc _ _)));have:List.replicate (j7 0 m.length).length (D.bl true)=(List.replicate (j7 0 m.length).length true).map D.bl:=by simp
   rw[this,at0];simp
 intro n
 induction n with
 |zero =>
  intro k g x y Q E h hQ;have h0:=hQ g (Ex.refl g);cases h with
  |non =>
   refine call_of h7 rfl ?_;dsimp[B4,d0,List.replicate];walk_at "w5";exact h0
  |bl b=>exact aG6 h7 (by simpa using h0)
  |int i =>
   refine call_of h7 rfl ?_;dsimp[B4,d0,List.replicate];walk_at "w5"
   try show wpS _ _ _ _ _ _
   walk_at "w5";refine isi (c:="bool") (b:=false) (by decide) rfl ?_;walk_at "w5";refine isi (c:="int") (b:=true) (by decide) rfl ?_;walk_at "w5";refine aS6 h6 ?_;walk_at "w5";simpa using h0
  |str x =>
   refine call_of h7 rfl ?_;dsimp[B4,d0,List.replicate];walk_at "w5"
   try show wpS _ _ _ _ _ _
   walk_at "w5";refine isi (c:="bool") (b:=false) (by decide) rfl ?_;walk_at "w5";refine isi (c:="int") (b:=false) (by decide) rfl ?_;walk_at "w5";refine isi (c:="str") (b:=true) (by decide) rfl ?_;walk_at "w5";refine isi (c:="str") (b:=true) (by decide) rfl ?_;walk_at "w5";simpa using h0
 |succ n ih =>
  intro k g x y Q E h hQ;have h0:=hQ g (Ex.refl g);cases h with
  |non =>
   refine call_of h7 rfl ?_;dsimp[B4,d0,List.replicate];walk_at "w5";exact h0
  |bl b=>exact aG6 h7 (by simpa using h0)
  |int i =>
   refine call_of h7 rfl ?_;dsimp[B4,d0,List.replicate];walk_at "w5"
   try show wpS _ _ _ _ _ _
   walk_at "w5";refine isi (c:="bool") (b:=false) (by decide) rfl ?_;walk_at "w5";refine isi (c:="int") (b:=true) (by decide) rfl ?_;walk_at "w5";refine aS6 h6 ?_;walk_at "w5";simpa using h0
  |str x =>
   refine call_of h7 rfl ?_;dsimp[B4,d0,List.replicate];walk_at "w5"
   try show wpS _ _ _ _ _ _
   walk_at "w5";refine isi (c:="bool") (b:=false) (by decide) rfl ?_;walk_at "w5";refine isi (c:="int") (b:=false) (by decide) rfl ?_;walk_at "w5";refine isi (c:="str") (b:=true) (by decide) rfl ?_;walk_at "w5";refine isi (c:="str") (b:=true) (by decide) rfl ?_;walk_at "w5";simpa using h0
  |@tup _ l m hl hs hz =>
   refine call_of h7 rfl ?_;have body:=seqs n ih (k:=k) (x:=.tup l) (y:=.tup m) (E:=E) (fun _ _=>rfl) (fun _ _=>rfl) hl hz hs hQ;dsimp[B4,d0,List.replicate];walk_at "w5"
   try show wpS _ _ _ _ _ _
   walk_at "w5";refine isi (c:="bool") (b:=false) (by decide) rfl ?_;walk_at "w5";refine isi (c:="int") (b:=false) (by decide) rfl ?_;walk_at "w5";refine isi (c:="str") (b:=false) (by decide) rfl ?_;walk_at "w5";refine isi (c:="tuple") (b:=true) (by decide) rfl ?_;walk_at "w5";refine isi (c:="tuple") (b:=true) (by decide) rfl ?_;walk_at "w5";refine ifF rfl ?_;walk_at "w5";refine isi (c:="list") (b:=false) (by decide) rfl ?_;walk_at "w5";refine isi (c:="list") (b:=false) (by decide) rfl ?_;walk_at "w5";refine ifF rfl (J6 ?_);exact body
  |@lst _ a b l m ha hb hl hs hz =>
   refine call_of h7 rfl ?_;have body:=seqs n ih (k:=k) (x:=.ref a) (y:=.ref b) (E:=E) (fun g' e=>a7 (e.at ha)) (fun g' e=>a7 (e.at hb)) hl hz hs hQ;have ta:∀c,ai0 g (.ref a) c=some (c=="list"):=fun c=>by simp only[ai0,ha]
   have tb:∀c,ai0 g (.ref b) c=some (c=="list"):=fun c=>by simp only[ai0,hb]
   dsimp[B4,d0,List.replicate];walk_at "w5"
   try show wpS _ _ _ _ _ _
   walk_at "w5";refine isi (c:="bool") (b:=false) (by decide) (tb _) ?_;walk_at "w5";refine isi (c:="int") (b:=false) (by decide) (tb _) ?_;walk_at "w5";refine isi (c:="str") (b:=false) (by decide) (tb _) ?_;walk_at "w5";refine isi (c:="tuple") (b:=false) (by decide) (tb _) ?_;walk_at "w5";refine isi (c:="tuple") (b:=false) (by decide) (ta _) ?_;walk_at "w5";refine ifF rfl ?_;walk_at "w5";refine isi (c:="list") (b:=true) (by decide) (tb _) ?_;walk_at "w5";refine isi (c:="list") (b:=true) (by decide) (ta _) ?_;walk_at "w5";refine ifF rfl (J6 ?_);exact body
end
noncomputable def win(a b:List Int):Bool:=a.all fun s=>b.any fun m=>m==s
section
variable{T:Nat->Option MDef}{k d:Nat}{g:G}{Q:KD}{E:KX}
theorem aq4(h15:T 15=some ae4){a b:List Int}(ha:a.length<=1000)(h:∀g',Ex g g'->Q (.bl (win a b)) g'):c5 T (k+1) 15 [.tup (a.map .int),.tup (b.map .int)] g Q E:=by
 refine call_of h15 rfl ?_;dsimp[ae4,d0,List.replicate];walk_at "w5";refine F3 (b0 T _) (i_t (b0 T _) ?_);walk_at "w5";refine⟨_,rfl,_,fun i ys σ g'=>∃z w,ys=((a.take i).map fun s=>b.any fun m=>m==s).map D.bl/\σ=[some (.tup (b.map .int)),z,w]/\g'=g,by simpa using ha,fun i ys σ g' p=>⟨A2,?_⟩,⟨none,none,rfl,rfl,rfl⟩,fun i x ys σ g' hx p=>?_,fun ys σ g' p=>?_⟩
 ·obtain⟨z,w,rfl,_⟩:=p;simp;omega
 ·obtain⟨z,w,rfl,rfl,rfl⟩:=p;rw[List.getElem?_map,Option.map_eq_some_iff] at hx;obtain⟨s,hs,rfl⟩:=hx;show wpT _ _ _ _ _ _;walk_at "w5";refine bt8 (ar8 ?_);refine⟨_,_,?_,rfl,rfl⟩;have hi:=(List.getElem?_eq_some_iff.mp hs)
  rw[List.take_succ,hs];simp
 ·obtain⟨z,w,rfl,rfl,rfl⟩:=p;refine a81 (a7 c7) (at0 _) ?_;have e:((a.take (a.map D.int).length).map fun s=>b.any fun m=>m==s).all id=win a b:=by
   rw[List.length_map,List.take_length];simp[win,List.all_map]
  rw[e];exact h _ (Ex.snoc _ _)
theorem a30{g:G}{x:Str}{kb:Bool->Prop}(hx:PyData.strOk x=true)(h:kb (decide (x="lower")||decide (x="upper"))):inP g (.str x) (.tup [.str "lower",.str "upper"]) kb:=by
 refine⟨_,.inr ⟨_,[.str "lower",.str "upper"],.str x,rfl,rfl,rfl,by simp only[PyData.canLayAll0,PyData.canLay0,Bool.and_true];decide +kernel,by simp only[PyData.canLay0];exact hx,rfl⟩,?_⟩;have e:∀y:Str,PyData.eqv (.str y) (.str x)=decide (x=y):=fun y=>by
  simp only[PyData.eqv];rw[Bool.eq_iff_iff,beq_iff_eq,decide_eq_true_iff];exact eq_comm
 simp only[List.any_cons,List.any_nil,Bool.or_false,e];exact h
theorem at7(h40:T 40=some O2){x:Str}(ho:PyData.strOk x=true)(h1:x="lower"\/x="upper"->Q .non g)(h3:x≠"lower"->x≠"upper"->E ⟨"BadSide"⟩ g):c5 T (k+1) 40 [.str x] g Q E:=by
 refine call_of h40 rfl ?_;dsimp[O2,d0,List.replicate];walk_at "w5";refine av4 (a30 ho ?_);walk_at "w5";by_cases e:x="lower"\/x="upper"
 ·refine ifF (by rw[Bool.not_eq_false',Bool.or_eq_true,decide_eq_true_iff,decide_eq_true_iff];exact e) ?_;walk_at "w5";exact h1 e
 ·refine ifT (by rw[Bool.not_eq_true',Bool.or_eq_false_iff,decide_eq_false_iff_not,decide_eq_false_iff_not];exact not_or.mp e) ?_;walk_at "w5";exact h3 (fun z=>e (.inl z)) (fun z=>e (.inr z))
theorem E3(h19:DfC T){x:Str}(ho:PyData.strOk x=true)(h1:x="lower"->Q (.int 0) g)(h2:x="upper"->Q (.int 2) g)(h3:x≠"lower"->x≠"upper"->E ⟨"BadSide"⟩ g):c5 T (k+2) 19 [.str x] g Q E:=by
 refine call_of h19.1 rfl ?_;dsimp[ac1,d0,List.replicate];walk_at "w5";refine at7 h19.2 ho (fun hx=>?_) h3;walk_at "w5";by_cases e1:x="lower"
 ·have el:M4 [.tup [.str "lower",.int 0],.tup [.str "upper",.int 2]] x=some (.int 0):=by simp[M4,e1]
  refine a68 el ?_;exact h1 e1
 ·have e2:x="upper":=hx.resolve_left e1;have el:M4 [.tup [.str "lower",.int 0],.tup [.str "upper",.int 2]] x=some (.int 2):=by simp[M4,e1];simp[e2]
  refine a68 el ?_;exact h2 e2
noncomputable def CB(c:b7):Prop:=c.lm.length<=8/\c.um.length<=8
theorem V7(h1:NF T)(h2:T 2=some E9)(h12:T 12=some A6)(h18:CkC T){a:Nat}{cs:List b7}(ha:g[a]?=some (.lst (cs.map b7.d)))(hz:cs.length<=1000)(hm:9<cs.length->E ⟨"TooMany"⟩ g)(hb:cs.length<=9->cs.all n6=false->E ⟨"BadCoin"⟩ g)(h:cs.length<=9->cs.all n6=true->Q .non g):c5 T (k+6) 18 [.ref a] g Q E:=by
 refine call_of h18.1 rfl ?_;dsimp[T6,d0,List.replicate];walk_at "w5";rw[List.length_map];refine if2 (fun c=>?_) (fun c=>?_)
 ·walk_at "w5";exact hm (by omega)
 have h9:cs.length<=9:=by omega
 walk_at "w5";refine C6 (b0 T _) (i_l (b0 T _) ?_);walk_at "w5";refine⟨a,_,rfl,a7 ha,cs.map b7.d,fun i σ g'=>∃z,σ=[some (.ref a),z]/\g'=g/\(cs.take i).all n6=true,fun i σ g' p=>?_,⟨none,rfl,rfl,by simp⟩,fun i x σ g' hx p=>?_,fun σ g' p=>?_⟩
 ·obtain⟨z,rfl,rfl,_⟩:=p;exact A1 (a7 ha)
 ·obtain⟨z,rfl,rfl,hg⟩:=p;rw[List.getElem?_map,Option.map_eq_some_iff] at hx;obtain⟨c,hc,rfl⟩:=hx;refine p9 ?_
  try show wpS _ _ _ _ _ _
  walk_at "w5";refine call_of h18.2 rfl ?_;dsimp[Y7,d0,List.replicate];walk_at "w5";refine aA1 h1 h2 h12 ?_;walk_at "w5";cases e:n6 c with
  |true =>
   walk_at "w5";refine⟨_,rfl,rfl,?_⟩;rw[List.take_succ,hc];simp[hg,e]
  |false =>
   refine bs5 ?_;walk_at "w5";refine hb h9 ?_;rw[List.all_eq_false];exact⟨c,List.mem_of_getElem? hc,by rw[e];decide⟩
 ·obtain⟨z,rfl,rfl,hg⟩:=p;rw[List.length_map,List.take_length] at hg;exact h h9 hg
end
noncomputable def ac8(f:Int)(c:b7):Int:=if f=0 then c.lo else c.up
theorem aW3{f:Int}(hf:f=0\/f=2)(c:b7):atI [D.int c.lo,D.tup (c.lm.map .int),D.int c.up,D.tup (c.um.map .int),D.int c.yr] f=some (.int (ac8 f c)):=by
 rcases hf with rfl|rfl<;>rfl
section
variable{T:Nat->Option MDef}{k d:Nat}{g:G}{Q:KD}{E:KX}
end
section
variable{T:Nat->Option MDef}{k d:Nat}{g:G}{Q:KD}{E:KX}
end
noncomputable def cD:b7:=⟨0,[],0,[],0⟩
noncomputable abbrev cAt(cs:List b7)(i:Nat):b7:=cs.getD i cD
theorem F6{cs:List b7}{i:Nat}{c:b7}(h:cs[i]?=some c):cAt cs i=c:=by simp[cAt,List.getD,h]
inductive RW where
 |coin|lower|upper
noncomputable def RW.s:RW->Str
 |.coin=>"coin"
 |.lower=>"lower"
 |.upper=>"upper"
structure Rul where
 w:RW
 x:Int
 y:Int
noncomputable def Rul.d(r:Rul):D:=.tup [.str r.w.s,.int r.x,.int r.y]
noncomputable def meant(cs:List b7)(w:RW)(x:Int)(i:Nat):Bool:=match w with
 |.coin=>decide ((i:Int)=x)
 |.lower=>decide ((cAt cs i).lo=x)
 |.upper=>decide ((cAt cs i).up=x)
noncomputable def plc(cs:List b7)(w:RW)(x:Int):List Nat:=(List.range cs.length).filter (meant cs w x)
noncomputable def d6(l:List Nat):List D:=l.map fun(i:Nat)=>D.int i
noncomputable def stn(l:List Nat):Nat:=(l.map (2 ^ ·)).sum
noncomputable def stP(n:Nat)(p:Nat->Bool):Nat:=stn ((List.range n).filter p)
theorem ax4(n:Nat)(p:Nat->Bool):stP (n+1) p=stP n p+if p n=true then 2 ^ n else 0:=by
 unfold stP stn;rw[List.range_succ,List.filter_append,List.map_append,List.sum_append]
 congr 1
 cases h:p n<;>simp[List.filter_cons,h]
theorem bj6(n:Nat)(p:Nat->Bool):stP n p<2 ^ n:=by
 induction n with
 |zero=>simp[stP,stn]
 |succ n ih =>
  rw[ax4,Nat.pow_succ];split<;>omega
theorem aE7(n:Nat)(p:Nat->Bool)(i:Nat):(stP n p).testBit i=(decide (i<n)&&p i):=by
 induction n with
 |zero=>simp[stP,stn]
 |succ n ih =>
  have hl:=bj6 n p;rw[ax4];by_cases hp:p n=true
  ·rw[if_pos hp,Nat.add_comm];rcases Nat.lt_trichotomy i n with h|h|h
   ·rw[Nat.testBit_two_pow_add_gt h,ih,decide_eq_true h,decide_eq_true (by omega)]
   ·subst h;rw[Nat.testBit_two_pow_add_eq,ih];simp[hp]
   ·rw[Nat.testBit_lt_two_pow (Nat.lt_of_lt_of_le (show 2 ^ n+stP n p<2 ^ (n+1) by rw[Nat.pow_succ];omega) (Nat.pow_le_pow_right (by omega) h)),decide_eq_false (by omega)]
    rfl
  ·rw[if_neg hp,Nat.add_zero,ih];by_cases h:i=n
   ·subst h;simp[hp]
   ·rw[show decide (i<n)=decide (i<n+1) from decide_eq_decide.mpr (by omega)]
theorem ap9(a b:Nat):Builtin.bitAnd (a:Int) (b:Int)=((a &&& b:Nat):Int):=by
 unfold Builtin.bitAnd;rw[decide_eq_true (Int.natCast_nonneg a),decide_eq_true (Int.natCast_nonneg b)];simp
theorem bo7(a b:Nat):Builtin.bitOr (a:Int) (b:Int)=((a |||b:Nat):Int):=by
 unfold Builtin.bitOr Builtin.bitAnd;have h1:∀x:Nat,decide (0<=Builtin.bitNot (x:Int))=false:=fun x=>by unfold Builtin.bitNot;exact decide_eq_false (by omega)
 have h2:∀x:Nat,Builtin.bitNot (Builtin.bitNot (x:Int))=x:=fun x=>by unfold Builtin.bitNot;omega
 rw[h1,h1];simp only[h2];simp
theorem bu0(a b:Nat):((a &&& b:Nat)≠0)↔∃i,a.testBit i=true/\b.testBit i=true:=by
 constructor
 ·intro h;obtain⟨i,hi⟩:=Nat.exists_testBit_of_ne_zero h;rw[Nat.testBit_and,Bool.and_eq_true] at hi;exact⟨i,hi⟩
 ·rintro⟨i,h1,h2⟩ e;have:(a &&& b).testBit i=true:=by rw[Nat.testBit_and,h1,h2];rfl
  rw[e,Nat.zero_testBit] at this;cases this
theorem af6(s n:Nat)(p:Nat->Bool):((((s &&& stP n p:Nat):Int) != 0)=(List.range n).any fun i=>s.testBit i&&p i):=by
 rw[Bool.eq_iff_iff,bne_iff_ne,List.any_eq_true];have:(((s &&& stP n p:Nat):Int)≠0)↔((s &&& stP n p:Nat)≠0):=by omega
 rw[this,bu0];constructor
 ·rintro⟨i,h1,h2⟩;rw[aE7,Bool.and_eq_true,decide_eq_true_eq] at h2;exact⟨i,List.mem_range.mpr h2.1,by rw[h1,h2.2];rfl⟩
 ·rintro⟨i,h1,h2⟩;rw[Bool.and_eq_true] at h2;exact⟨i,h2.1,by rw[aE7,decide_eq_true (List.mem_range.mp h1),h2.2];rfl⟩
noncomputable def mw(a b:b7):Bool:=(decide (a.lo=b.lo)&&!win a.lm b.lm)||(decide (a.up=b.up)&&!win a.um b.um)
noncomputable def ltr(a b:b7):Bool:=decide (0<b.yr)&&decide (b.yr<a.yr)
noncomputable def ad5(cs:List b7)(S:Nat->Bool)(p:Nat):Bool:=(List.range cs.length).any fun i=>S i&&mw (cAt cs i) (cAt cs p)
noncomputable def ak7(cs:List b7)(S:Nat->Bool)(p:Nat):Bool:=(List.range cs.length).any fun i=>S i&&ltr (cAt cs i) (cAt cs p)
noncomputable def aw6(cs:List b7)(S:Nat->Bool)(p:Nat)(d:Int):Bool :=
 ((List.range cs.length).any fun i=>(S i||decide (i=p))&&decide ((cAt cs i).lo=d))&&((List.range cs.length).any fun i=>!S i&&decide ((cAt cs i).lo=d))
noncomputable def aX0(cs:List b7)(S:Nat->Bool)(p:Nat):Nat:=((m7 (cs.map b7.lo)).filter (aw6 cs S p)).length
noncomputable def au8(cs:List b7)(rs:List Rul)(S:Nat->Bool)(p:Nat):Bool:=rs.all fun r=>!meant cs r.w r.y p||(List.range cs.length).any fun i=>S i&&meant cs r.w r.x i
noncomputable def fault(cs:List b7)(v:Int)(rs:List Rul)(S:Nat->Bool)(p:Nat):Str :=
 if ad5 cs S p=true then "wear" else if ak7 cs S p=true then "year" else if v<aX0 cs S p then "anvil" else if au8 cs rs S p=true then "" else "rule"
noncomputable def fwD(x:Str):D:=if x="" then .non else .str x
noncomputable def M3:MDef:=⟨2,2,(.seq (.ifs (.not_ (.tst (.call 1 (yı kı1 (kø 0) (hı (.bin .Sub) (jđ .len kı0) (kø 1)))))) (.seq (.raise "NoPlace" (hø (kđ "no coin has that place"))) .pass) .pass) .pass)⟩
noncomputable def R9:MDef:=⟨3,4,(.seq (.ifs (.not_ (.tst (.call 38 (hø kı2)))) (.seq (.ret (.prim .lst .nil)) .pass) .pass) (.seq (.ifs (jı .Eq kı1 (kđ "coin")) (.seq (.ret (.comp [2] 3 (.one 2) (.itR1 (jđ .len kı0)) (jı .Eq kı2 kı0) kı2)) .pass) .pass) (.seq (.set 3 (.call 19 (hø kı1))) (.seq (.ret (.comp [3,2] 5 (.many [3,4]) (.itN kı0) (jı .Eq (jø kı4 kı0) kı1) kı3)) .pass))))⟩
noncomputable def ao0:MDef:=⟨2,3,(.seq (.expr (.call 18 (hø kı0))) (.seq (.set 2 (.call 19 (hø kı1))) (.seq (.ret (.scomp [2] 3 (.one 2) (.itE kı0) .no (jø kı2 kı0))) .pass)))⟩
noncomputable def ac0:MDef:=⟨2,5,(.seq (.unp (.many [2,3,4]) kı1) (.seq (.ifs (.or_ (jı .NotIn kı2 (.lit (.tup [(.str "coin"),(.str "lower"),(.str "upper")]))) (jı .Eq kı3 kı4)) (.seq (.ret (.lit (.bl false))) .pass) .pass) (.seq (.ret (.and_ (hı (.cmp .NotEq) (.call 74 (yı kı0 kı2 kı3)) (.prim .lst .nil)) (hı (.cmp .NotEq) (.call 74 (yı kı0 kı2 kı4)) (.prim .lst .nil)))) .pass)))⟩
noncomputable def T5:MDef:=⟨2,4,(.seq (.for_ (.many [2,3]) (.itN kı1) (.seq (.ifs (.not_ (.tst (.call 88 (hđ kı0 kı3)))) (.seq (.raise "BadRule" (hø (.prim .fstr (yı (kđ "rule ") (jđ .fv kı2) (kđ " is none for these coins"))))) .pass) .pass) .pass)) .pass)⟩
noncomputable def X9:MDef:=⟨1,1,(.seq (.ret (jđ .sum (.comp [] 2 (.one 1) (.itE kı0) .no (hı (.bin .LShift) (kø 1) kı1)))) .pass)⟩
noncomputable def R8:MDef:=⟨2,2,(.seq (.ret (hı (.bin .BitOr) kı0 (hı (.bin .LShift) (kø 1) kı1))) .pass)⟩
noncomputable def ab8:MDef:=⟨2,4,(.seq (.for_ (.one 2) (.itE (.lit (.tup [(.str "lower"),(.str "upper")]))) (.seq (.set 3 (.call 19 (hø kı2))) (.seq (.ifs (.and_ (jı .Eq (jø kı0 kı3) (jø kı1 kı3)) (.not_ (.tst (.call 15 (hđ (jø kı0 (hı (.bin .Add) kı3 (kø 1))) (jø kı1 (hı (.bin .Add) kı3 (kø 1)))))))) (.seq (.ret (.lit (.bl true))) .pass) .pass) .pass))) (.seq (.ret (.lit (.bl false))) .pass))⟩
noncomputable def az0:MDef:=⟨2,2,(.seq (.ret (.chain .Lt .Lt (kø 0) (jø kı1 (kø 4)) (jø kı0 (kø 4)))) .pass)⟩
noncomputable def T2:MDef:=⟨1,1,(.seq (.ret (.comp [0] 3 (.one 2) (.itE kı0) .no (.call 90 (hø (.comp [2] 4 (.many [2,3]) (.itN kı0) (.tst (.call 92 (hđ kı3 kı0))) kı2))))) .pass)⟩
noncomputable def P8:MDef:=⟨1,1,(.seq (.ret (.comp [0] 3 (.one 2) (.itE kı0) .no (.call 90 (hø (.comp [2] 4 (.many [2,3]) (.itN kı0) (.tst (.call 93 (hđ kı3 kı0))) kı2))))) .pass)⟩
noncomputable def Y5:MDef:=⟨1,1,(.seq (.ret (.comp [0] 3 (.one 2) (.itE (.call 20 (hđ kı0 (kđ "lower")))) .no (.call 90 (hø (.call 74 (yı kı0 (kđ "lower") kı2)))))) .pass)⟩
noncomputable def M9:MDef:=⟨2,8,(.seq (.set 2 (.comp [] 2 (.one 1) (.itE kı0) .no (.prim .lst .nil))) (.seq (.for_ (.many [3,4,5]) (.itE kı1) (.seq (.set 6 (.call 90 (hø (.call 74 (yı kı0 kı3 kı4))))) (.seq (.for_ (.one 7) (.itE (.call 74 (yı kı0 kı3 kı5))) (.seq (.ifs (jı .NotIn kı6 (jø kı2 kı7)) (.seq (.expr (.meth .append (jø kı2 kı7) (hø kı6))) .pass) .pass) .pass)) .pass))) (.seq (.ret kı2) .pass)))⟩
noncomputable def T7:MDef:=⟨3,3,(.seq (.expr (.call 18 (hø kı0))) (.seq (.expr (.call 42 (hø kı1))) (.seq (.expr (.call 89 (hđ kı0 kı2))) .pass)))⟩
noncomputable def ac3:MDef:=⟨3,3,(.seq (.expr (.call 98 (yı kı0 kı1 kı2))) (.seq (.ret (.make "Bounds" 113 (yı kı0 kı1 kı2))) .pass))⟩
noncomputable def Y4:MDef:=⟨3,5,(.seq (.set 3 (.call 91 (hđ kı1 kı2))) (.seq (.set 4 (hı (.bin .Sub) (jđ (.fld "full") kı0) kı1)) (.seq (.ret (jđ .len (.comp [4,3] 4 (.one 3) (.itE (jđ (.fld "lower_dies") kı0)) (.and_ (.tst (hı (.bin .BitAnd) kı3 kı1)) (.tst (hı (.bin .BitAnd) kı3 kı0))) kı3))) .pass)))⟩
noncomputable def Y0:MDef:=⟨3,3,(.seq (.ifs (.tst (hı (.bin .BitAnd) kı1 (jø (jđ (.fld "worn_by_place") kı0) kı2))) (.seq (.ret (kđ "wear")) .pass) .pass) (.seq (.ifs (.tst (hı (.bin .BitAnd) kı1 (jø (jđ (.fld "later_by_place") kı0) kı2))) (.seq (.ret (kđ "year")) .pass) .pass) (.seq (.ifs (jı .Gt (.call 100 (yı kı0 kı1 kı2)) (jđ (.fld "room") kı0)) (.seq (.ret (kđ "anvil")) .pass) .pass) (.seq (.ifs (.not_ (.tst (jđ .all (.comp [1] 3 (.one 2) (.itE (jø (jđ (.fld "needed_by_place") kı0) kı2)) .no (hı (.bin .BitAnd) kı0 kı2))))) (.seq (.ret (kđ "rule")) .pass) .pass) (.seq (.ret (.lit .non)) .pass)))))⟩
noncomputable def T8:MDef:=⟨4,4,(.seq (.setf "size" ["Bounds"] kı0 (jđ .len kı1)) (.seq (.setf "full" ["Bounds"] kı0 (hı (.bin .Sub) (hı (.bin .LShift) (kø 1) (jđ .len kı1)) (kø 1))) (.seq (.setf "room" ["Bounds"] kı0 kı2) (.seq (.setf "worn_by_place" ["Bounds"] kı0 (.call 94 (hø kı1))) (.seq (.setf "later_by_place" ["Bounds"] kı0 (.call 95 (hø kı1))) (.seq (.setf "lower_dies" ["Bounds"] kı0 (.call 96 (hø kı1))) (.seq (.setf "needed_by_place" ["Bounds"] kı0 (.call 97 (hđ kı1 kı3))) .pass)))))))⟩
section
variable{P:Sig}{σ:S}{g:G}{Q:KD}{E:KX}{t:MT}{it c elt:ME}{d5:List Nat}{n:Nat}
theorem E4(hP:i4 P)(Sh:S->Prop)(p:Nat->Bool)(w:Nat->D){l:List D}{k:IK}(hk:∀g',Ex g g'->k.Is l g')(hl:l.length<=1000)(h0:Sh (C8 σ d5 n))(hs:∀i d σ g',l[i]?=some d->Ex g g'->Sh σ->tgP t d σ fun σ2=>wpT P c σ2 g' (fun b g3=>b=p i/\Ex g g3/\if b=true then wpE P elt σ2 g3 (fun y g4=>y=w i/\Ex g g4/\Sh σ2) NoX else Sh σ2) NoX)(hd:∀g',Ex g g'->Q (.ref g'.length) (g'++[.lst (((List.range l.length).filter p).map w)]))(hi:∀R:IK->G->Prop,R k g->wpI P it σ g R E):wpE P (.comp d5 n t it c elt) σ g Q E:=by
 refine F3 hP (hi _ ?_);refine⟨l,fun i ys σ g'=>Ex g g'/\ys=((List.range i).filter p).map w/\Sh σ,hl,fun i ys σ g' q=>⟨hk _ q.1,?_⟩,⟨Ex.refl _,rfl,h0⟩,fun i x ys σ g' hx q=>?_,fun ys σ g' q=>?_⟩
 ·obtain⟨_,rfl,_⟩:=q;rw[List.length_map];exact Nat.le_trans (List.length_filter_le _ _) (by simp)
 ·obtain⟨e1,rfl,sh⟩:=q;refine v8 (fun σ2 q=>n9 hP c _ _ _ _ _ _ (fun b g3 q=>?_) (fun _ _ z=>z) q) (hs i x σ g' hx e1 sh);obtain⟨rfl,e3,q⟩:=q;have ef:((List.range (i+1)).filter p).map w=((List.range i).filter p).map w++if p i=true then[w i] else[]:=by
   rw[List.range_succ,List.filter_append,List.map_append]
   congr 1
   cases z:p i<;>simp only[List.filter_cons,z,List.filter_nil]<;>rfl
  cases hp:p i with
  |true =>
   rw[hp] at q ef;rw[if_pos rfl] at q ⊢;refine b8 hP elt _ _ _ _ _ _ (fun y g4 q=>?_) (fun _ _ z=>z) q;obtain⟨rfl,e4,sh⟩:=q;exact⟨e4,by rw[ef];rfl,sh⟩
  |false =>
   rw[hp] at q ef;rw[if_neg (by decide)] at q ⊢;exact⟨e3,by rw[ef];simp,q⟩
 ·obtain⟨e1,rfl,sh⟩:=q;exact hd g' e1
theorem comp_map(hP:i4 P)(Sh:S->Prop)(w:Nat->D){l:List D}{k:IK}(hk:∀g',Ex g g'->k.Is l g')(hl:l.length<=1000)(h0:Sh (C8 σ d5 n))(hs:∀i d σ g',l[i]?=some d->Ex g g'->Sh σ->tgP t d σ fun σ2=>wpE P elt σ2 g' (fun y g4=>y=w i/\Ex g g4/\Sh σ2) NoX)(hd:∀g',Ex g g'->Q (.ref g'.length) (g'++[.lst ((List.range l.length).map w)]))(hi:∀R:IK->G->Prop,R k g->wpI P it σ g R E):wpE P (.comp d5 n t it .no elt) σ g Q E:=by
 refine E4 hP Sh (fun _=>true) w hk hl h0 (fun i d σ g' hx e sh=>v8 (fun σ2 q=>au1 ⟨rfl,e,?_⟩) (hs i d σ g' hx e sh)) (fun g' e=>?_) hi
 ·exact ift q
 ·have:=hd g' e
  rwa [show(List.range l.length).filter (fun _=>true)=List.range l.length from List.filter_eq_self.mpr fun _ _=>rfl]
theorem ao3(hP:i4 P){a:Nat}{l:List D}{o:ME}(hl:d4 g a=some l)(h:∀Q:KD,Q (.ref a) g->wpE P o σ g Q E):∀R:IK->G->Prop,R (.lst a) g->wpI P (.itE o) σ g R E:=fun R r=>i_l hP (h _ ⟨a,l,rfl,hl,r⟩)
theorem a27{a:Nat}{l:List D}{o:ME}(hl:d4 g a=some l)(h:∀Q:KD,Q (.ref a) g->wpE P o σ g Q E):∀R:IK->G->Prop,R (.enl a) g->wpI P (.itN o) σ g R E:=fun R r=>i_n (h _ ⟨a,l,rfl,hl,r⟩)
theorem br8(hP:i4 P){j:Nat}{o:ME}(hj:j<=1000)(h:∀Q:KD,Q (.int (j:Nat)) g->wpE P o σ g Q E):∀R:IK->G->Prop,R (.fix (j7 0 j)) g->wpI P (.itR1 o) σ g R E:=fun R r=>ac6 hP (h _ ⟨j,rfl,by omega,by omega,by simpa using r⟩)
end
theorem az9(l:List Nat):d6 l=(l.map fun(i:Nat)=>(i:Int)).map D.int:=by simp[d6]
structure TB0(T:Nat->Option MDef):Prop where
 nf:NF T
 h2:T 2=some E9
 h12:T 12=some A6
 h18:CkC T
 h19:DfC T
 h15:T 15=some ae4
 h20:T 20=some ao0
 h74:T 74=some R9
 h88:T 88=some ac0
 h89:T 89=some T5
 h90:T 90=some X9
 h91:T 91=some R8
 h92:T 92=some ab8
 h93:T 93=some az0
 h94:T 94=some T2
 h95:T 95=some P8
 h96:T 96=some Y5
 h97:T 97=some M9
 h100:T 100=some Y4
 h101:T 101=some Y0
 h113:T 113=some T8
structure TB(T:Nat->Option MDef):Prop extends TB0 T where
 h42:T 42=some K1
 h98:T 98=some T7
 h99:T 99=some ac3
instance{T:Nat->Option MDef}:CoeOut (TB T) (TB0 T):=⟨TB.toTB0⟩
section
variable{T:Nat->Option MDef}{k d:Nat}{g g':G}{Q:KD}{E:KX}{a p:Nat}{cs:List b7}
theorem ap3(h1:NF T)(h83:T 83=some M3){i:Int}{l:List D}(ha:g[a]?=some (.lst l))(h:0<=i->i<l.length->Q .non g)(hn:¬(0<=i/\i<l.length)->E ⟨"NoPlace"⟩ g):c5 T (k+3) 83 [.ref a,.int i] g Q E:=by
 refine call_of h83 rfl ?_;dsimp[M3,d0,List.replicate];walk_at "w5";refine x8 (k:=k) h1 ?_;walk_at "w5";by_cases hi:0<=i/\i<l.length
 ·rw[decide_eq_true hi.1,decide_eq_true (show i<=(l.length:Int)-1 by omega)];walk_at "w5";exact h hi.1 hi.2
 ·have:(decide (0<=i)&&decide (i<=(l.length:Int)-1))=false:=by
   rw[Bool.and_eq_false_iff,decide_eq_false_iff_not,decide_eq_false_iff_not];omega
  rw[this];walk_at "w5";exact hn hi
theorem am1(h1:NF T)(h42:T 42=some K1){i:Int}(h:1<=i->i<=9->Q .non g)(hn:¬(1<=i/\i<=9)->E ⟨"BadAnvils"⟩ g):c5 T (k+3) 42 [.int i] g Q E:=by
 refine call_of h42 rfl ?_;dsimp[K1,d0,List.replicate];walk_at "w5";refine x8 (k:=k) h1 ?_;walk_at "w5";by_cases hi:1<=i/\i<=9
 ·rw[decide_eq_true hi.1,decide_eq_true hi.2];walk_at "w5";exact h hi.1 hi.2
 ·have:(decide (1<=i)&&decide (i<=9))=false:=by
   rw[Bool.and_eq_false_iff,decide_eq_false_iff_not,decide_eq_false_iff_not];omega
  rw[this];walk_at "w5";exact hn hi
theorem I9(h1:NF T)(h19:DfC T)(h74:T 74=some R9){w:RW}{x:Int}(ha:g[a]?=some (.lst (cs.map b7.d)))(hz:cs.length<=1000)(h:∀g' b,Ex g g'->g.length<=b->g'[b]?=some (.lst (d6 (plc cs w x)))->Q (.ref b) g'):c5 T (k+3) 74 [.ref a,.str w.s,.int x] g Q E:=by
 refine call_of h74 rfl ?_;dsimp[R9,d0,List.replicate];walk_at "w5";refine ac5 (k:=k+1) h1 ?_;walk_at "w5";have fld:∀f:Int,(f=0\/f=2)->(∀i c,cs[i]?=some c->meant cs w x i=decide (ac8 f c=x))->wpE (c5 T (k+2)) (.comp [3,2] 5 (.many [3,4]) (.itN (.var 0)) (.tst (.prim (.cmp .Eq) (.cons (.prim .ix (.cons (.var 4) (.cons (.var 0) .nil))) (.cons (.var 1) .nil)))) (.var 3)) [some (.ref a),some (.str w.s),some (.int x),some (.int f)] g Q E:=fun f hf hm=>by
  refine E4 (b0 T _) (fun σ=>∃z2 z3 z4,σ=[some (.int f),some (.int x),z2,z3,z4]) (meant cs w x) (fun i=>.int (i:Nat)) (l:=enD (cs.map b7.d)) (fun g' e=>ak8 (a7 (e.at ha))) (by rw[L5];simpa using hz) ⟨none,none,none,rfl⟩ (fun i d σ g' hx e sh=>?_) (fun g' e=>?_) (a27 (a7 ha) fun Q q=>w_var (d:=.ref a) rfl q)
  ·obtain⟨z2,z3,z4,rfl⟩:=sh;obtain⟨dd,hd,rfl⟩:=af0 hx;rw[List.getElem?_map,Option.map_eq_some_iff] at hd;obtain⟨c,hc,rfl⟩:=hd;refine A3 rfl ?_
   try show wpT _ _ _ _ _ _
   walk_at "w5";refine E1 (aW3 hf c) ?_;walk_at "w5";rw[hm i c hc];refine⟨rfl,e,?_⟩;refine if2 (fun _=>?_) (fun _=>?_)
   ·walk_at "w5";exact⟨rfl,e,_,_,_,rfl⟩
   ·exact⟨_,_,_,rfl⟩
  ·rw[L5,List.length_map];exact h _ _ (e.trans (Ex.snoc _ _)) e.len c7
 cases w with
 |coin =>
  refine ifT (by decide +kernel) ?_;walk_at "w5";refine E4 (b0 T _) (fun σ=>∃z1 z2,σ=[some (.int x),z1,z2]) (meant cs .coin x) (fun i=>.int (i:Nat)) (l:=j7 0 cs.length) (fun g' e=>A2) (by rw[m9];exact hz) ⟨none,none,rfl⟩ (fun i d σ g' hx e sh=>?_) (fun g' e=>?_) (br8 (b0 T _) hz fun Q q=>?_)
  ·obtain⟨z2,z3,rfl⟩:=sh;obtain⟨hi,rfl⟩:=E6 hx;rw[Int.zero_add];refine p9 ?_
   try show wpT _ _ _ _ _ _
   walk_at "w5";refine⟨rfl,e,?_⟩;refine if2 (fun _=>?_) (fun _=>?_)
   ·walk_at "w5";exact⟨rfl,e,_,_,rfl⟩
   ·exact⟨_,_,rfl⟩
  ·rw[m9];exact h _ _ (e.trans (Ex.snoc _ _)) e.len c7
  ·walk_at "w5";rw[List.length_map];exact q
 |lower =>
  refine ifF (by decide +kernel) ?_;walk_at "w5";refine E3 (k:=k) h19 (by decide +kernel) (fun _=>?_) (fun z=>absurd z (by decide +kernel)) (fun z=>absurd rfl z);walk_at "w5";exact fld 0 (.inl rfl) fun i c hc=>by simp only[meant,F6 hc];rfl
 |upper =>
  refine ifF (by decide +kernel) ?_;walk_at "w5";refine E3 (k:=k) h19 (by decide +kernel) (fun z=>absurd z (by decide +kernel)) (fun _=>?_) (fun _ z=>absurd rfl z);walk_at "w5";exact fld 2 (.inr rfl) fun i c hc=>by simp only[meant,F6 hc];rfl
theorem L8(h90:T 90=some X9){l:List Nat}(ha:g[a]?=some (.lst (d6 l)))(hz:l.length<=1000)(hl:∀i∈l,i<=1000)(h:∀g',Ex g g'->Q (.int (stn l:Nat)) g'):c5 T (k+1) 90 [.ref a] g Q E:=by
 refine call_of h90 rfl ?_;dsimp[X9,d0,List.replicate];walk_at "w5";refine comp_map (b0 T _) (fun σ=>∃z0 z1,σ=[z0,z1]) (fun i=>.int ((2 ^ (l.getD i 0):Nat):Int)) (l:=d6 l) (k:=.lst a) (fun g' e=>A1 (a7 (e.at ha))) (by simpa[d6] using hz) ⟨none,none,rfl⟩ (fun i d σ g' hx e sh=>?_) (fun g' e=>?_) (ao3 (b0 T _) (a7 ha) fun Q q=>w_var (d:=.ref a) rfl q)
 ·obtain⟨z0,z1,rfl⟩:=sh;rw[d6,List.getElem?_map,Option.map_eq_some_iff] at hx;obtain⟨j,hj,rfl⟩:=hx;refine p9 ?_
  try show wpE _ _ _ _ _ _
  walk_at "w5";have:=hl j (List.mem_of_getElem? hj);refine aN5 ⟨by omega,by omega,by decide⟩ ?_;refine⟨?_,e,_,_,rfl⟩;simp[List.getD,hj]
 ·refine a55 (ns:=(List.range l.length).map fun i=>((2 ^ (l.getD i 0):Nat):Int)) (a7 (by rw[List.map_map];simpa[d6] using c7)) ?_;have:((List.range l.length).map fun i=>((2 ^ (l.getD i 0):Nat):Int)).sum=(stn l:Nat):=by
   have e2:(List.range l.length).map (fun i=>((2 ^ (l.getD i 0):Nat):Int))=(l.map (2 ^ ·)).map fun(n:Nat)=>(n:Int):=by
    refine List.ext_getElem? fun i=>?_;rw[List.getElem?_map,List.getElem?_map,List.getElem?_map];by_cases hi:i<l.length
    ·rw[List.getElem?_range hi,List.getElem?_eq_getElem hi];simp[List.getD,hi]
    ·rw[List.getElem?_eq_none (by simpa using hi),List.getElem?_eq_none (by omega)]
     rfl
   rw[e2];unfold stn;generalize l.map (2 ^ ·)=m
   induction m with
   |nil=>rfl
   |cons x r ih=>simp[ih]
  rw[this];exact h _ (e.trans (Ex.snoc _ _))
theorem z9(h91:T 91=some R8){s p:Nat}(hp:p<=1000)(h:Q (.int ((s |||2 ^ p:Nat):Int)) g):c5 T (k+1) 91 [.int (s:Nat),.int (p:Nat)] g Q E:=by
 refine call_of h91 rfl ?_;dsimp[R8,d0,List.replicate];walk_at "w5";refine aN5 ⟨by omega,by omega,by decide⟩ ?_;walk_at "w5";refine bK9 ?_;have e:(1:Int)*2 ^ ((p:Nat):Int).toNat=((2 ^ p:Nat):Int):=by simp
 rw[e,bo7];exact h
end
section
variable{T:Nat->Option MDef}{k d:Nat}{g g':G}{Q:KD}{E:KX}{a p:Nat}{cs:List b7}
theorem aO2{c:b7}(h:CB c):c.lm.length<=1000/\c.um.length<=1000:=⟨Nat.le_trans h.1 (by decide),Nat.le_trans h.2 (by decide)⟩
theorem ay5(hT:TB0 T){c e:b7}(hc:CB c)(h:∀g',Ex g g'->Q (.bl (mw c e)) g'):c5 T (k+3) 92 [c.d,e.d] g Q E:=by
 refine call_of hT.h92 rfl ?_;dsimp[ab8,d0,List.replicate];walk_at "w5";refine C6 (b0 T _) (i_t (b0 T _) ?_);walk_at "w5";refine⟨_,rfl,_,fun i σ g'=>Ex g g'/\(∃z2 z3,σ=[some c.d,some e.d,z2,z3])/\(1<=i->(decide (c.lo=e.lo)&&!win c.lm e.lm)=false)/\(2<=i->(decide (c.up=e.up)&&!win c.um e.um)=false),fun _ _ _ _=>A2,⟨Ex.refl _,⟨none,none,rfl⟩,fun z=>absurd z (by omega),fun z=>absurd z (by omega)⟩,fun i x σ g' hx q=>?_,fun σ g' q=>?_⟩
 ·obtain⟨e1,⟨z2,z3,rfl⟩,q1,q2⟩:=q;refine p9 ?_
  try show wpS _ _ _ _ _ _
  match i,hx with
  |0,hx =>
   cases hx;walk_at "w5";refine E3 (k:=k) hT.h19 (by decide +kernel) (fun _=>?_) (fun z=>absurd z (by decide +kernel)) (fun z=>absurd rfl z);walk_at "w5";refine E1 (l:=[.int c.lo,.tup (c.lm.map .int),.int c.up,.tup (c.um.map .int),.int c.yr]) rfl ?_;walk_at "w5";refine E1 (l:=[.int e.lo,.tup (e.lm.map .int),.int e.up,.tup (e.um.map .int),.int e.yr]) rfl ?_;walk_at "w5";refine if2 (fun h1=>?_) (fun h1=>?_)
   ·walk_at "w5";refine E1 (l:=[.int c.lo,.tup (c.lm.map .int),.int c.up,.tup (c.um.map .int),.int c.yr]) rfl ?_;walk_at "w5";refine E1 (l:=[.int e.lo,.tup (e.lm.map .int),.int e.up,.tup (e.um.map .int),.int e.yr]) rfl ?_;walk_at "w5";refine aq4 (k:=k+1) hT.h15 (aO2 hc).1 fun g2 e2=>?_;walk_at "w5";cases hw:win c.lm e.lm with
    |false =>
     walk_at "w5";have:mw c e=true:=by unfold mw;rw[decide_eq_true h1,hw];rfl
     rw[<- this];exact h _ (e1.trans e2)
    |true =>
     walk_at "w5";exact⟨e1.trans e2,⟨_,_,rfl⟩,fun _=>by rw[decide_eq_true h1];rfl,fun z=>absurd z (by omega)⟩
   ·walk_at "w5";exact⟨e1,⟨_,_,rfl⟩,fun _=>by rw[decide_eq_false h1];rfl,fun z=>absurd z (by omega)⟩
  |1,hx =>
   cases hx;walk_at "w5";refine E3 (k:=k) hT.h19 (by decide +kernel) (fun z=>absurd z (by decide +kernel)) (fun _=>?_) (fun _ z=>absurd rfl z);walk_at "w5";refine E1 (l:=[.int c.lo,.tup (c.lm.map .int),.int c.up,.tup (c.um.map .int),.int c.yr]) rfl ?_;walk_at "w5";refine E1 (l:=[.int e.lo,.tup (e.lm.map .int),.int e.up,.tup (e.um.map .int),.int e.yr]) rfl ?_;walk_at "w5";refine if2 (fun h1=>?_) (fun h1=>?_)
   ·walk_at "w5";refine E1 (l:=[.int c.lo,.tup (c.lm.map .int),.int c.up,.tup (c.um.map .int),.int c.yr]) rfl ?_;walk_at "w5";refine E1 (l:=[.int e.lo,.tup (e.lm.map .int),.int e.up,.tup (e.um.map .int),.int e.yr]) rfl ?_;walk_at "w5";refine aq4 (k:=k+1) hT.h15 (aO2 hc).2 fun g2 e2=>?_;walk_at "w5";cases hw:win c.um e.um with
    |false =>
     walk_at "w5";have:mw c e=true:=by unfold mw;rw[decide_eq_true h1,hw];simp
     rw[<- this];exact h _ (e1.trans e2)
    |true =>
     walk_at "w5";exact⟨e1.trans e2,⟨_,_,rfl⟩,fun _=>q1 (by omega),fun _=>by rw[decide_eq_true h1];rfl⟩
   ·walk_at "w5";exact⟨e1,⟨_,_,rfl⟩,fun _=>q1 (by omega),fun _=>by rw[decide_eq_false h1];rfl⟩
  |i+2,hx=>simp at hx
 ·obtain⟨e1,⟨z2,z3,rfl⟩,q1,q2⟩:=q
  try show wpS _ _ _ _ _ _
  walk_at "w5";have:mw c e=false:=by unfold mw;rw[q1 (by decide),q2 (by decide)];rfl
  rw[<- this];exact h _ e1
theorem a26(hT:TB0 T){c e:b7}(h:Q (.bl (ltr c e)) g):c5 T (k+1) 93 [c.d,e.d] g Q E:=by
 refine call_of hT.h93 rfl ?_;dsimp[az0,d0,List.replicate];walk_at "w5";refine E1 (l:=[.int e.lo,.tup (e.lm.map .int),.int e.up,.tup (e.um.map .int),.int e.yr]) rfl ?_;walk_at "w5";refine if2 (fun h1=>?_) (fun h1=>?_)
 ·walk_at "w5";refine E1 (l:=[.int c.lo,.tup (c.lm.map .int),.int c.up,.tup (c.um.map .int),.int c.yr]) rfl ?_;walk_at "w5";have:ltr c e=decide (e.yr<c.yr):=by unfold ltr;rw[decide_eq_true h1];rfl
  rw[<- this];exact h
 ·have:ltr c e=false:=by unfold ltr;rw[decide_eq_false h1];rfl
  rw[<- this];exact h
noncomputable def stL(cs:List b7)(q:b7->b7->Bool):List D:=(List.range cs.length).map fun i=>.int ((stP cs.length fun j=>q (cAt cs j) (cAt cs i):Nat):Int)
theorem ab4{cs:List b7}{q:Nat->Bool}:∀i∈(List.range cs.length).filter q,i<cs.length:=fun i hi=>List.mem_range.mp (List.mem_filter.mp hi).1
theorem Q3{n:Nat}{q:Nat->Bool}:((List.range n).filter q).length<=n:=Nat.le_trans (List.length_filter_le _ _) (by simp)
theorem a83(hT:TB0 T)(ha:g[a]?=some (.lst (cs.map b7.d)))(hz:cs.length<=9)(hB:∀c∈cs,CB c)(h:∀g' b,Ex g g'->g.length<=b->g'[b]?=some (.lst (stL cs mw))->Q (.ref b) g'):c5 T (k+4) 94 [.ref a] g Q E:=by
 refine call_of hT.h94 rfl ?_;dsimp[T2,d0,List.replicate];walk_at "w5";refine comp_map (b0 T _) (fun σ=>∃z1 z2,σ=[some (.ref a),z1,z2]) (fun i=>.int ((stP cs.length fun j=>mw (cAt cs j) (cAt cs i):Nat):Int)) (l:=cs.map b7.d) (k:=.lst a) (fun g' e=>A1 (a7 (e.at ha))) (by simp;omega) ⟨none,none,rfl⟩ (fun i d σ g' hx e sh=>?_) (fun g' e=>?_) (ao3 (b0 T _) (a7 ha) fun Q q=>w_var (d:=.ref a) rfl q)
 ·obtain⟨z1,z2,rfl⟩:=sh;rw[List.getElem?_map,Option.map_eq_some_iff] at hx;obtain⟨c,hc,rfl⟩:=hx;refine p9 ?_
  try show wpE _ _ _ _ _ _
  walk_at "w5";refine E4 (b0 T _) (fun σ=>∃z1 z2 z3,σ=[some c.d,z1,z2,z3]) (fun j=>mw (cAt cs j) (cAt cs i)) (fun i=>.int (i:Nat)) (l:=enD (cs.map b7.d)) (k:=.enl a) (fun g2 e2=>ak8 (a7 ((e.trans e2).at ha))) (by rw[L5];simp;omega) ⟨none,none,none,rfl⟩ (fun j d σ g2 hx e2 sh=>?_) (fun g2 e2=>?_) (a27 (a7 (e.at ha)) fun Q q=>w_var (d:=.ref a) rfl q)
  ·obtain⟨z1,z2,z3,rfl⟩:=sh;obtain⟨dd,hd,rfl⟩:=af0 hx;rw[List.getElem?_map,Option.map_eq_some_iff] at hd;obtain⟨c',hc',rfl⟩:=hd;refine A3 rfl ?_
   try show wpT _ _ _ _ _ _
   walk_at "w5";refine ay5 (k:=k) hT (hB c' (List.mem_of_getElem? hc')) fun g3 e3=>?_;walk_at "w5";refine⟨by simp only[F6 hc',F6 hc],e2.trans e3,?_⟩;cases mw c' c with
   |true =>
    refine ifT rfl ?_;walk_at "w5";exact⟨rfl,e2.trans e3,_,_,_,rfl⟩
   |false=>exact ifF rfl ⟨_,_,_,rfl⟩
  ·walk_at "w5";refine L8 (k:=k+2) hT.h90 (l:=(List.range cs.length).filter fun j=>mw (cAt cs j) (cAt cs i)) (by have:=c7 (g:=g2) (o:=.lst (((List.range (enD (cs.map b7.d)).length).filter fun j=>mw (cAt cs j) (cAt cs i)).map fun i=>D.int (i:Nat)));rw[L5,List.length_map] at this ⊢;exact this) (Nat.le_trans Q3 (by omega)) (fun j hj=>by have:=ab4 j hj;omega) fun g3 e3=>?_;exact⟨rfl,(e.trans (e2.trans (Ex.snoc _ _))).trans e3,_,_,rfl⟩
 ·refine h _ _ (e.trans (Ex.snoc _ _)) e.len ?_;rw[c7,List.length_map]
  rfl
theorem aT2(hT:TB0 T)(ha:g[a]?=some (.lst (cs.map b7.d)))(hz:cs.length<=9)(h:∀g' b,Ex g g'->g.length<=b->g'[b]?=some (.lst (stL cs ltr))->Q (.ref b) g'):c5 T (k+4) 95 [.ref a] g Q E:=by
 refine call_of hT.h95 rfl ?_;dsimp[P8,d0,List.replicate];walk_at "w5";refine comp_map (b0 T _) (fun σ=>∃z1 z2,σ=[some (.ref a),z1,z2]) (fun i=>.int ((stP cs.length fun j=>ltr (cAt cs j) (cAt cs i):Nat):Int)) (l:=cs.map b7.d) (k:=.lst a) (fun g' e=>A1 (a7 (e.at ha))) (by simp;omega) ⟨none,none,rfl⟩ (fun i d σ g' hx e sh=>?_) (fun g' e=>?_) (ao3 (b0 T _) (a7 ha) fun Q q=>w_var (d:=.ref a) rfl q)
 ·obtain⟨z1,z2,rfl⟩:=sh;rw[List.getElem?_map,Option.map_eq_some_iff] at hx;obtain⟨c,hc,rfl⟩:=hx;refine p9 ?_
  try show wpE _ _ _ _ _ _
  walk_at "w5";refine E4 (b0 T _) (fun σ=>∃z1 z2 z3,σ=[some c.d,z1,z2,z3]) (fun j=>ltr (cAt cs j) (cAt cs i)) (fun i=>.int (i:Nat)) (l:=enD (cs.map b7.d)) (k:=.enl a) (fun g2 e2=>ak8 (a7 ((e.trans e2).at ha))) (by rw[L5];simp;omega) ⟨none,none,none,rfl⟩ (fun j d σ g2 hx e2 sh=>?_) (fun g2 e2=>?_) (a27 (a7 (e.at ha)) fun Q q=>w_var (d:=.ref a) rfl q)
  ·obtain⟨z1,z2,z3,rfl⟩:=sh;obtain⟨dd,hd,rfl⟩:=af0 hx;rw[List.getElem?_map,Option.map_eq_some_iff] at hd;obtain⟨c',hc',rfl⟩:=hd;refine A3 rfl ?_
   try show wpT _ _ _ _ _ _
   walk_at "w5";refine a26 (k:=k+2) hT ?_;walk_at "w5";refine⟨by simp only[F6 hc',F6 hc],e2,?_⟩;cases ltr c' c with
   |true =>
    refine ifT rfl ?_;walk_at "w5";exact⟨rfl,e2,_,_,_,rfl⟩
   |false=>exact ifF rfl ⟨_,_,_,rfl⟩
  ·walk_at "w5";refine L8 (k:=k+2) hT.h90 (l:=(List.range cs.length).filter fun j=>ltr (cAt cs j) (cAt cs i)) (by have:=c7 (g:=g2) (o:=.lst (((List.range (enD (cs.map b7.d)).length).filter fun j=>ltr (cAt cs j) (cAt cs i)).map fun i=>D.int (i:Nat)));rw[L5,List.length_map] at this ⊢;exact this) (Nat.le_trans Q3 (by omega)) (fun j hj=>by have:=ab4 j hj;omega) fun g3 e3=>?_;exact⟨rfl,(e.trans (e2.trans (Ex.snoc _ _))).trans e3,_,_,rfl⟩
 ·refine h _ _ (e.trans (Ex.snoc _ _)) e.len ?_;rw[c7,List.length_map]
  rfl
theorem a34(hT:TB0 T)(ha:g[a]?=some (.lst (cs.map b7.d)))(hz:cs.length<=9)(hg:cs.all n6=true)(h:Q (.ref g.length) (g++[.lst ((m7 (cs.map b7.lo)).map .int)])):c5 T (k+7) 20 [.ref a,.str "lower"] g Q E:=by
 refine call_of hT.h20 rfl ?_;dsimp[ao0,d0,List.replicate];walk_at "w5";refine V7 (k:=k) hT.nf hT.h2 hT.h12 hT.h18 ha (by omega) (fun z=>by omega) (fun _ z=>by rw[hg] at z;cases z) fun _ _=>?_;walk_at "w5";refine E3 (k:=k+4) hT.h19 (by decide +kernel) (fun _=>?_) (fun z=>absurd z (by decide +kernel)) (fun z=>absurd rfl z);walk_at "w5";refine a87 (b0 T _) (i_l (b0 T _) ?_);walk_at "w5";refine⟨a,_,rfl,a7 ha,cs.map b7.d,fun i ys σ g'=>∃z w,ys=(cs.take i).map b7.lo/\σ=[some (.int 0),z,w]/\g'=g,by simp;omega,fun i ys σ g' p=>?_,⟨none,none,rfl,rfl,rfl⟩,fun i c ys σ g' hx p=>?_,fun ys σ g' p=>?_⟩
 ·obtain⟨z,w,rfl,rfl,rfl⟩:=p;exact⟨A1 (a7 ha),by simp;omega⟩
 ·obtain⟨z,w,rfl,rfl,rfl⟩:=p;rw[List.getElem?_map,Option.map_eq_some_iff] at hx;obtain⟨c,hc,rfl⟩:=hx;show wpT _ _ _ _ _ _;walk_at "w5";refine E1 (l:=[.int c.lo,.tup (c.lm.map .int),.int c.up,.tup (c.um.map .int),.int c.yr]) rfl ?_;refine⟨_,rfl,_,_,?_,rfl,rfl⟩;rw[List.take_succ,hc];simp
 ·obtain⟨z,w,rfl,rfl,rfl⟩:=p;rw[List.length_map,List.take_length];exact h
noncomputable def U2(cs:List b7):List D:=(m7 (cs.map b7.lo)).map fun d=>.int ((stP cs.length (meant cs .lower d):Nat):Int)
theorem at6(hT:TB0 T)(ha:g[a]?=some (.lst (cs.map b7.d)))(hz:cs.length<=9)(hg:cs.all n6=true)(h:∀g' b,Ex g g'->g.length<=b->g'[b]?=some (.lst (U2 cs))->Q (.ref b) g'):c5 T (k+8) 96 [.ref a] g Q E:=by
 refine call_of hT.h96 rfl ?_;dsimp[Y5,d0,List.replicate];walk_at "w5";have hln:(m7 (cs.map b7.lo)).length<=9:=Nat.le_trans (Q8 _) (by simpa using hz);unfold U2 at h;refine F3 (b0 T _) (i_l (b0 T _) ?_);walk_at "w5";refine a34 (k:=k) hT ha hz hg ?_;have e0:=Ex.snoc g (O.lst ((m7 (cs.map b7.lo)).map .int));have hb:=c7 (g:=g) (o:=O.lst ((m7 (cs.map b7.lo)).map .int));generalize m7 (cs.map b7.lo)=ds at *;generalize g++[O.lst (ds.map .int)]=g1 at *;refine⟨_,_,rfl,a7 hb,ds.map .int,fun i ys σ g'=>Ex g1 g'/\ys=(ds.take i).map (fun d=>.int ((stP cs.length (meant cs .lower d):Nat):Int))/\∃z1 z2,σ=[some (.ref a),z1,z2],by simp;omega,fun i ys σ g' q=>⟨A1 (a7 (q.1.at hb)),?_⟩,⟨Ex.refl _,rfl,none,none,rfl⟩,fun i x ys σ g' hx q=>?_,fun ys σ g' q=>?_⟩
 ·obtain⟨_,rfl,_⟩:=q;simp;omega
 ·obtain⟨e1,rfl,z1,z2,rfl⟩:=q;rw[List.getElem?_map,Option.map_eq_some_iff] at hx;obtain⟨dd,hd,rfl⟩:=hx;refine p9 ?_
  try show wpT _ _ _ _ _ _
  walk_at "w5";refine I9 (k:=k+4) hT.nf hT.h19 hT.h74 (w:=.lower) ((e0.trans e1).at ha) (by omega) fun g2 b2 e2 _ hb2=>?_;walk_at "w5";refine L8 (k:=k+6) hT.h90 hb2 (Nat.le_trans Q3 (by omega)) (fun j hj=>by have:=ab4 j hj;omega) fun g3 e3=>?_;refine⟨e1.trans (e2.trans e3),?_,_,_,rfl⟩;rw[List.take_succ,hd];simp[stP,plc]
 ·obtain⟨e1,rfl,z1,z2,rfl⟩:=q;rw[List.length_map,List.take_length];exact h _ _ (e0.trans (e1.trans (Ex.snoc _ _))) (Nat.le_trans e0.len e1.len) c7
end
theorem aT9{g:G}{a:Nat}{ms:List Int}{i:Int}{k:Bool->Prop}(ha:d4 g a=some (ms.map .int))(h:k (ms.any fun m=>m==i)):inP g (.int i) (.ref a) k:=by
 refine⟨_,.inr ⟨_,_,_,ha,M7 ms,rfl,lay_ints ms,by simp[PyData.canLay0],rfl⟩,?_⟩;rw[List.any_map];exact h
theorem bf4{g:G}{a:Nat}{l:List Nat}{i:Nat}{k:Bool->Prop}(ha:g[a]?=some (.lst (d6 l)))(h:k (decide (i∈l))):inP g (.int (i:Nat)) (.ref a) k:=by
 refine aT9 (ms:=l.map fun(i:Nat)=>(i:Int)) (by rw[<- az9];exact a7 ha) ?_;have:((l.map fun(i:Nat)=>(i:Int)).any fun m=>m==(i:Int))=decide (i∈l):=by
  rw[Bool.eq_iff_iff,List.any_eq_true,decide_eq_true_eq];constructor
  ·rintro⟨x,hx,e⟩;obtain⟨j,hj,rfl⟩:=List.mem_map.mp hx;rw[beq_iff_eq] at e;rw[show i=j by omega];exact hj
  ·exact fun hi=>⟨_,List.mem_map.mpr ⟨i,hi,rfl⟩,by simp⟩
 rw[this];exact h
structure Nds(g:G)(nb lo n:Nat)(B:Nat->Nat)(F:Nat->Nat->Prop):Prop where
 ex:∃as:List Nat,g[nb]?=some (.lst (as.map .ref))/\as.length=n/\as.Nodup/\(∀a∈as,lo<=a/\a≠nb)/\∀i a,as[i]?=some a->∃ms:List Nat,g[a]?=some (.lst (d6 ms))/\ms.length<=B i/\∀m,m∈ms↔F i m
theorem Nds.at{g g':G}{nb lo n:Nat}{B:Nat->Nat}{F:Nat->Nat->Prop}(h:Nds g nb lo n B F)(e:Ex g g'):Nds g' nb lo n B F :=
 let ⟨as,h1,h2,h3,h4,h5⟩:=h.ex
 ⟨⟨as,e.at h1,h2,h3,h4,fun i a hi=>let ⟨ms,m1,m2⟩:=h5 i a hi;⟨ms,e.at m1,m2⟩⟩⟩
theorem Nds.imp{g:G}{nb lo n:Nat}{B B':Nat->Nat}{F F':Nat->Nat->Prop}(h:Nds g nb lo n B F)(hB:∀i,i<n->B i<=B' i)(hF:∀i m,i<n->(F i m↔F' i m)):Nds g nb lo n B' F' :=
 let ⟨as,h1,h2,h3,h4,h5⟩:=h.ex
 ⟨⟨as,h1,h2,h3,h4,fun i a hi=>let ⟨ms,m1,m2,m3⟩:=h5 i a hi
  have hi':i<n:=by rw[<- h2];exact(List.getElem?_eq_some_iff.mp hi).1
  ⟨ms,m1,Nat.le_trans m2 (hB i hi'),fun m=>(m3 m).trans (hF i m hi')⟩⟩⟩
noncomputable def ae2(cs:List b7)(rs:List Rul)(i m:Nat):Prop:=∃r∈rs,meant cs r.w r.y i=true/\m=stP cs.length (meant cs r.w r.x)
noncomputable def i6(rs:List Rul):List D:=rs.map Rul.d
theorem ar1{α:Type}{l:List α}(h:l.Nodup){i j:Nat}{a:α}(hi:l[i]?=some a)(hj:l[j]?=some a):i=j:=by
 obtain⟨h1,e1⟩:=List.getElem?_eq_some_iff.mp hi;obtain⟨h2,e2⟩:=List.getElem?_eq_some_iff.mp hj;exact(List.getElem_inj h).mp (e1.trans e2.symm)
section
variable{T:Nat->Option MDef}{k d:Nat}{g g':G}{Q:KD}{E:KX}{a c p:Nat}{cs:List b7}{rs:List Rul}
theorem aS8(hT:TB0 T)(ha:g[a]?=some (.lst (cs.map b7.d)))(hz:cs.length<=9)(hc:g[c]?=some (.lst (i6 rs)))(hr:rs.length<=900)(h:∀g' b,Ex g g'->g.length<=b->Nds g' b g.length cs.length (fun _=>rs.length) (ae2 cs rs)->Q (.ref b) g'):c5 T (k+4) 97 [.ref a,.ref c] g Q E:=by
 refine call_of hT.h97 rfl ?_;dsimp[M9,d0,List.replicate];walk_at "w5";refine F3 (b0 T _) (i_l (b0 T _) ?_);walk_at "w5";refine⟨a,_,rfl,a7 ha,cs.map b7.d,fun i ys σ g'=>Ex g g'/\(∃as:List Nat,ys=as.map .ref/\as.length=i/\as.Nodup/\∀b∈as,g.length<=b/\g'[b]?=some (.lst []))/\∃z0 z1,σ=[z0,z1],by simp;omega,fun i ys σ g' q=>⟨A1 (a7 (q.1.at ha)),?_⟩,⟨Ex.refl _,⟨[],rfl,rfl,by simp,by simp⟩,none,none,rfl⟩,fun i x ys σ g' hx q=>?_,fun ys σ g' q=>?_⟩
 ·obtain⟨_,⟨as,rfl,rfl,_⟩,_⟩:=q;simp
 ·obtain⟨e1,⟨as,rfl,hl,nd,hA⟩,z0,z1,rfl⟩:=q;refine p9 ?_
  try show wpT _ _ _ _ _ _
  walk_at "w5";refine⟨e1.trans (Ex.snoc _ _),⟨as++[g'.length],by simp,by simp[hl],?_,fun b hb=>?_⟩,_,_,rfl⟩
  ·rw[List.nodup_append];exact⟨nd,by simp,fun x hx y hy=>by cases List.mem_singleton.mp hy;exact Nat.ne_of_lt (j8 (hA x hx).2)⟩
  ·rcases List.mem_append.mp hb with hb|hb
   ·exact⟨(hA b hb).1,(Ex.snoc _ _).at (hA b hb).2⟩
   ·cases List.mem_singleton.mp hb;exact⟨e1.len,c7⟩
 ·obtain⟨e1,⟨as,rfl,hl,nd,hA⟩,z0,z1,rfl⟩:=q;rw[List.length_map] at hl;walk_at "w5";have e2:=e1.trans (Ex.snoc g' (O.lst (as.map D.ref)));have lo:=e1.len;have N0:Nds (g'++[O.lst (as.map D.ref)]) g'.length g.length cs.length (fun _=>0) (ae2 cs []):=⟨⟨as,c7,hl,nd,fun b hb=>⟨(hA b hb).1,Nat.ne_of_lt (j8 (hA b hb).2)⟩,fun i b hb=>⟨[],(Ex.snoc _ _).at (hA b (List.mem_of_getElem? hb)).2,by simp,fun m=>⟨fun z=>absurd z (by simp),fun⟨r,hr,_⟩=>absurd hr (by simp)⟩⟩⟩⟩
  generalize g'++[O.lst (as.map D.ref)]=g1 at *;generalize g'.length=nb at *;refine C6 (b0 T _) (i_l (b0 T _) ?_);walk_at "w5";refine⟨c,_,rfl,a7 (e2.at hc),i6 rs,fun i σ g'=>Ex g g'/\Nds g' nb g.length cs.length (fun _=>i) (ae2 cs (rs.take i))/\∃z3 z4 z5 z6 z7,σ=[some (.ref a),some (.ref c),some (.ref nb),z3,z4,z5,z6,z7],fun i σ g' q=>A1 (a7 (q.1.at hc)),⟨e2,N0,none,none,none,none,none,rfl⟩,fun i x σ g' hx q=>?_,fun σ g' q=>?_⟩
  ·obtain⟨e3,N3,z3,z4,z5,z6,z7,rfl⟩:=q;rw[i6,List.getElem?_map,Option.map_eq_some_iff] at hx;obtain⟨r,hr',rfl⟩:=hx;have hi:i<rs.length:=(List.getElem?_eq_some_iff.mp hr').1;refine A3 (l:=[.str r.w.s,.int r.x,.int r.y]) rfl ?_
   try show wpS _ _ _ _ _ _
   walk_at "w5";refine I9 (k:=k) hT.nf hT.h19 hT.h74 (e3.at ha) (by omega) fun g4 b4 e4 _ hb4=>?_;walk_at "w5";refine L8 (k:=k+2) hT.h90 hb4 (Nat.le_trans Q3 (by omega)) (fun j hj=>by have:=ab4 j hj;omega) fun g5 e5=>?_;walk_at "w5";have e35:=e3.trans (e4.trans e5);have N5:=N3.at (e4.trans e5);have ef:stn (plc cs r.w r.x)=stP cs.length (meant cs r.w r.x):=rfl;rw[ef];generalize stP cs.length (meant cs r.w r.x)=first at *
   refine C6 (b0 T _) (i_l (b0 T _) ?_);walk_at "w5";refine I9 (k:=k) hT.nf hT.h19 hT.h74 (e35.at ha) (by omega) fun g6 b6 e6 hb6 hp6=>?_;refine⟨b6,_,rfl,a7 hp6,d6 (plc cs r.w r.y),fun j σ g'=>Ex g g'/\g'[b6]?=some (.lst (d6 (plc cs r.w r.y)))/\Nds g' nb g.length cs.length (fun q=>i+if q∈(plc cs r.w r.y).take j then 1 else 0) (fun q m=>ae2 cs (rs.take i) q m\/(q∈(plc cs r.w r.y).take j/\m=first))/\(∀as:List Nat,g'[nb]?=some (.lst (as.map .ref))->b6∉as)/\∃z7,σ=[some (.ref a),some (.ref c),some (.ref nb),some (.str r.w.s),some (.int r.x),some (.int r.y),some (.int (first:Nat)),z7],fun j σ g' q=>A1 (a7 q.2.1),⟨e35.trans e6,hp6,(N5.at e6).imp (fun q _=>by simp) (fun q m _=>by simp),?_,z7,rfl⟩,fun j x σ g' hx q=>?_,fun σ g' q=>?_⟩
   ·intro as' h' hm;obtain⟨as2,h1,h2,h3,h4,h5⟩:=N5.ex;have:=(e6.at h1).symm.trans h';have e':as2=as':=by
     have h0:as2.map D.ref=as'.map D.ref:=by injection this with w;injection w
     exact(List.map_inj_right (fun x y z=>by injection z)).mp h0
    subst e';obtain⟨i',hi'⟩:=List.mem_iff_getElem?.mp hm;obtain⟨ms,m1,_⟩:=h5 i' b6 hi';have:=j8 m1;omega
   ·obtain⟨e7,p7,N7,nb7,z7,rfl⟩:=q;rw[d6,List.getElem?_map,Option.map_eq_some_iff] at hx;obtain⟨q,hq,rfl⟩:=hx;have hqn:q<cs.length:=ab4 q (List.mem_of_getElem? hq);have hnt:q∉(plc cs r.w r.y).take j:=fun z=>by
     obtain⟨j',hj'⟩:=List.mem_iff_getElem?.mp z;have hl:j'<j:=by
      have:=(List.getElem?_eq_some_iff.mp hj').1;simp at this;omega
     rw[List.getElem?_take_of_lt hl] at hj';have nd':(plc cs r.w r.y).Nodup:=List.nodup_range.filter _;have:=ar1 nd' hj' hq;omega
    have tk:(plc cs r.w r.y).take (j+1)=(plc cs r.w r.y).take j++[q]:=by rw[List.take_succ,hq];rfl
    obtain⟨as7,h1,h2,h3,h4,h5⟩:=N7.ex;have hq7:q<as7.length:=by omega
    have haq:=List.getElem?_eq_getElem hq7;generalize as7[q]=aq at haq;obtain⟨ms,m1,m2,m3⟩:=h5 q aq haq;have gq:atI (as7.map D.ref) (q:Int)=some (.ref aq):=B0 (by rw[List.getElem?_map,haq];rfl);refine p9 ?_
    try show wpS _ _ _ _ _ _
    walk_at "w5";refine q8 (a7 h1) gq ?_;refine av4 (bf4 m1 ?_);walk_at "w5";by_cases hin:first∈ms
    ·refine ifF (by simp[hin]) ?_;walk_at "w5";refine⟨e7,p7,N7.imp (fun q' _=>?_) (fun q' m _=>?_),nb7,_,rfl⟩
     ·rw[tk];simp only[List.mem_append,List.mem_singleton];by_cases z:q'∈(plc cs r.w r.y).take j
      ·simp[z]
      ·simp[z]
     ·rw[tk];simp only[List.mem_append,List.mem_singleton];constructor
      ·rintro(z|⟨z1,z2⟩)
       ·exact .inl z
       ·exact .inr ⟨.inl z1,z2⟩
      ·rintro(z|⟨z1|z1,z2⟩)
       ·exact .inl z
       ·exact .inr ⟨z1,z2⟩
       ·subst z1 z2;exact(m3 m).mp hin
    ·refine ifT (by simp[hin]) ?_;walk_at "w5";refine q8 (a7 h1) gq ?_
     try refine⟨ab6 m1,?_⟩
     walk_at "w5";rw[if_neg hnt] at m2;refine R7 m1 (by simp[d6];omega) ?_;walk_at "w5";have hmem:=List.mem_of_getElem? haq;have hne:=(h4 aq hmem).2;have hn6:aq≠b6:=fun z=>nb7 as7 h1 (z▸hmem);have gnb:=f6 (o':=O.lst (d6 ms++[D.int (first:Nat)])) h1 hne;refine⟨⟨by simp;exact e7.len,fun i' hi'=>by rw[List.getElem?_set_ne (by have:=(h4 aq hmem).1;omega)];exact e7.old i' hi'⟩,f6 p7 hn6,⟨⟨as7,gnb,h2,h3,h4,fun i' b hb=>?_⟩⟩,fun as' h'=>?_,_,rfl⟩
     ·by_cases hiq:i'=q
      ·subst hiq;have:b=aq:=by rw[haq] at hb;injection hb with z;exact z.symm
       subst this;refine⟨ms++[first],by rw[get_set m1];simp[d6],?_,fun m=>?_⟩
       ·rw[tk];simp;omega
       ·rw[List.mem_append,List.mem_singleton,m3 m,tk];simp only[List.mem_append,List.mem_singleton];constructor
        ·rintro((z|⟨z1,z2⟩)|z)
         ·exact .inl z
         ·exact .inr ⟨.inl z1,z2⟩
         ·exact .inr ⟨.inr trivial,z⟩
        ·rintro(z|⟨z1|z1,z2⟩)
         ·exact .inl (.inl z)
         ·exact .inl (.inr ⟨z1,z2⟩)
         ·exact .inr z2
      ·have hba:aq≠b:=fun z=>hiq (ar1 h3 hb (z▸haq));obtain⟨ms',k1,k2,k3⟩:=h5 i' b hb;refine⟨ms',f6 k1 hba,?_,fun m=>(k3 m).trans ?_⟩
       ·rw[tk];simpa[hiq] using k2
       ·rw[tk];simp[hiq]
     ·rw[gnb] at h';exact nb7 as' (h1.trans h')
   ·obtain⟨e7,p7,N7,nb7,z7,rfl⟩:=q;rw[d6,List.length_map,List.take_length] at N7
    try show wpS _ _ _ _ _ _
    walk_at "w5";refine⟨e7,N7.imp (fun q _=>by split<;>omega) (fun q m hq=>?_),_,_,_,_,_,rfl⟩;have tk:rs.take (i+1)=rs.take i++[r]:=by rw[List.take_succ,hr'];rfl
    unfold ae2;rw[tk];simp only[List.mem_append,List.mem_singleton];constructor
    ·rintro(⟨r',h1,h2⟩|⟨h1,h2⟩)
     ·exact⟨r',.inl h1,h2⟩
     ·exact⟨r,.inr rfl,(List.mem_filter.mp h1).2,by rw[h2];exact ef.symm⟩
    ·rintro⟨r',h1|h1,h2,h3⟩
     ·exact .inl ⟨r',h1,h2,h3⟩
     ·subst h1;exact .inr ⟨List.mem_filter.mpr ⟨List.mem_range.mpr hq,h2⟩,by rw[h3];exact ef⟩
  ·obtain⟨e3,N3,z3,z4,z5,z6,z7,rfl⟩:=q;rw[i6,List.length_map,List.take_length] at N3
   try show wpS _ _ _ _ _ _
   walk_at "w5";exact h _ _ e3 lo N3
end
noncomputable def k8(cs:List b7)(r:Rul):Bool:=!decide (r.x=r.y)&&(!(plc cs r.w r.x).isEmpty&&!(plc cs r.w r.y).isEmpty)
theorem in_words{g:G}{w:RW}{kb:Bool->Prop}(h:kb true):inP g (.str w.s) (.tup [.str "coin",.str "lower",.str "upper"]) kb:=by
 refine⟨_,.inr ⟨_,[.str "coin",.str "lower",.str "upper"],.str w.s,rfl,rfl,rfl,by simp only[PyData.canLayAll0,PyData.canLay0,Bool.and_true];decide +kernel,by simp only[PyData.canLay0];cases w<;>decide +kernel,rfl⟩,?_⟩;have:([PyData.str "coin",PyData.str "lower",PyData.str "upper"].any fun q=>PyData.eqv q (.str w.s))=true:=by
  simp only[List.any_cons,List.any_nil,PyData.eqv];cases w<;>decide +kernel
 rw[this];exact h
theorem ne_nil{g:G}{a b:Nat}{l:List Nat}{Q:KD}(ha:g[a]?=some (.lst (d6 l)))(hb:g[b]?=some (.lst []))(h:Q (.bl (!l.isEmpty)) g):prP (.cmp .NotEq) [.ref a,.ref b] g Q:=by
 refine a42 (aU5 (ms:=l.map fun(i:Nat)=>(i:Int)) (ns:=[]) (by rw[<- az9];exact a7 ha) (a7 hb) ?_);have:decide ((l.map fun(i:Nat)=>(i:Int))=[])=l.isEmpty:=by cases l<;>simp
 rw[this];exact h
structure Bd(g:G)(b:Nat)(cs:List b7)(v:Int)(rs:List Rul):Prop where
 ex:∃w l d nb,g[b]?=some (.ins "Bounds" [("size",.int cs.length),("full",.int ((2 ^ cs.length-1:Nat):Int)),("room",.int v),("worn_by_place",.ref w),("later_by_place",.ref l),("lower_dies",.ref d),("needed_by_place",.ref nb)]) /\
  g[w]?=some (.lst (stL cs mw))/\g[l]?=some (.lst (stL cs ltr))/\g[d]?=some (.lst (U2 cs))/\Nds g nb 0 cs.length (fun _=>rs.length) (ae2 cs rs)
theorem Bd.at{g g':G}{b:Nat}{cs:List b7}{v:Int}{rs:List Rul}(h:Bd g b cs v rs)(e:Ex g g'):Bd g' b cs v rs :=
 let ⟨w,l,d,nb,h1,h2,h3,h4,h5⟩:=h.ex
 ⟨⟨w,l,d,nb,e.at h1,e.at h2,e.at h3,e.at h4,h5.at e⟩⟩
theorem aM6{α:Type}(l:List α)(z:α)(q:α->Bool):((List.range l.length).filter fun i=>q (l.getD i z)).length=(l.filter q).length:=by
 have e:l=(List.range l.length).map fun i=>l.getD i z:=by
  refine List.ext_getElem? fun i=>?_;rw[List.getElem?_map];by_cases hi:i<l.length
  ·rw[List.getElem?_range hi,List.getElem?_eq_getElem hi];simp[List.getD,hi]
  ·rw[List.getElem?_eq_none (by omega),List.getElem?_eq_none (by simpa using hi)]
   rfl
 conv=>rhs;rw[e,List.filter_map,List.length_map]
 rfl
theorem aC1{n:Nat}{q:Nat->Bool}{s:Nat}{S:Nat->Bool}(h:∀i,i<n->s.testBit i=S i):((Builtin.bitAnd ((stP n q:Nat):Int) (s:Nat)) != 0)=(List.range n).any fun i=>S i&&q i:=by
 rw[ap9,Nat.and_comm,af6,Bool.eq_iff_iff,List.any_eq_true,List.any_eq_true];constructor
 ·rintro⟨i,h1,h2⟩;exact⟨i,h1,by rw[<- h i (List.mem_range.mp h1)];exact h2⟩
 ·rintro⟨i,h1,h2⟩;exact⟨i,h1,by rw[h i (List.mem_range.mp h1)];exact h2⟩
theorem a23{n s i:Nat}(h:s<2 ^ n)(hi:i<n):(2 ^ n-1-s).testBit i=!s.testBit i:=by
 rw[show 2 ^ n-1-s=2 ^ n-(s+1) by omega,Nat.testBit_two_pow_sub_succ h,decide_eq_true hi]
 rfl
theorem W6(s p i:Nat):(s |||2 ^ p).testBit i=(s.testBit i||decide (i=p)):=by
 rw[Nat.testBit_or,Nat.testBit_two_pow]
 congr 1
 exact decide_eq_decide.mpr eq_comm
theorem ad6{s p n:Nat}(h:s<2 ^ n)(hp:p<n):s |||2 ^ p<2 ^ n:=Nat.or_lt_two_pow h (Nat.pow_lt_pow_right (by omega) hp)
section
variable{T:Nat->Option MDef}{k d:Nat}{g g':G}{Q:KD}{E:KX}{a b c:Nat}{cs:List b7}{rs:List Rul}{v:Int}
theorem aA0(hT:TB0 T){r:Rul}(ha:g[a]?=some (.lst (cs.map b7.d)))(hz:cs.length<=1000)(h:∀g',Ex g g'->Q (.bl (k8 cs r)) g'):c5 T (k+4) 88 [.ref a,r.d] g Q E:=by
 refine call_of hT.h88 rfl ?_;dsimp[ac0,d0,List.replicate];walk_at "w5";refine A3 (l:=[.str r.w.s,.int r.x,.int r.y]) rfl ?_;walk_at "w5";refine av4 (in_words ?_);walk_at "w5";refine if2 (fun h1=>?_) (fun h1=>?_)
 ·walk_at "w5";have:k8 cs r=false:=by unfold k8;rw[decide_eq_true h1];rfl
  rw[<- this];exact h _ (Ex.refl _)
 ·walk_at "w5";refine I9 (k:=k) hT.nf hT.h19 hT.h74 ha hz fun g1 b1 e1 _ hb1=>?_;walk_at "w5";refine ne_nil ((Ex.snoc _ _).at hb1) c7 ?_;walk_at "w5";cases h2:(plc cs r.w r.x).isEmpty with
  |true =>
   refine ifF rfl ?_;have:k8 cs r=false:=by unfold k8;rw[decide_eq_false h1,h2];rfl
   rw[<- this];exact h _ (e1.trans (Ex.snoc _ _))
  |false =>
   refine ifT rfl ?_;walk_at "w5";refine I9 (k:=k) hT.nf hT.h19 hT.h74 ((e1.trans (Ex.snoc _ _)).at ha) hz fun g2 b2 e2 _ hb2=>?_;walk_at "w5";refine ne_nil ((Ex.snoc _ _).at hb2) c7 ?_;have:k8 cs r=!(plc cs r.w r.y).isEmpty:=by unfold k8;rw[decide_eq_false h1,h2];rfl
   rw[<- this];exact h _ ((e1.trans (Ex.snoc _ _)).trans (e2.trans (Ex.snoc _ _)))
theorem ap2(hT:TB0 T)(ha:g[a]?=some (.lst (cs.map b7.d)))(hz:cs.length<=1000)(hc:g[c]?=some (.lst (i6 rs)))(hr:rs.length<=900)(h:rs.all (k8 cs)=true->∀g',Ex g g'->Q .non g')(hn:rs.all (k8 cs)=false->∀g',Ex g g'->E ⟨"BadRule"⟩ g'):c5 T (k+5) 89 [.ref a,.ref c] g Q E:=by
 refine call_of hT.h89 rfl ?_;dsimp[T5,d0,List.replicate];walk_at "w5";refine C6 (b0 T _) (i_n ?_);walk_at "w5";refine⟨c,_,rfl,a7 hc,enD (i6 rs),fun i σ g'=>Ex g g'/\(∃z2 z3,σ=[some (.ref a),some (.ref c),z2,z3])/\(rs.take i).all (k8 cs)=true,fun i σ g' q=>ak8 (a7 (q.1.at hc)),⟨Ex.refl _,⟨none,none,rfl⟩,rfl⟩,fun i x σ g' hx q=>?_,fun σ g' q=>?_⟩
 ·obtain⟨e1,⟨z2,z3,rfl⟩,q⟩:=q;obtain⟨dd,hd,rfl⟩:=af0 hx;rw[i6,List.getElem?_map,Option.map_eq_some_iff] at hd;obtain⟨r,hr',rfl⟩:=hd;have tk:rs.take (i+1)=rs.take i++[r]:=by rw[List.take_succ,hr'];rfl
  refine A3 rfl ?_
  try show wpS _ _ _ _ _ _
  walk_at "w5";refine aA0 (k:=k) hT (e1.at ha) hz fun g2 e2=>?_;walk_at "w5";cases hg:k8 cs r with
  |true =>
   walk_at "w5";exact⟨e1.trans e2,⟨_,_,rfl⟩,by rw[tk,List.all_append,q];simp[hg]⟩
  |false =>
   walk_at "w5";have hi:i<rs.length:=(List.getElem?_eq_some_iff.mp hr').1;refine bJ7 ?_ ?_
   ·have:(i:Int).natAbs<2 ^ 10:=by rw[Int.natAbs_natCast];omega
    rw[Int.natAbs_natCast] at this ⊢;by_cases h0:i=0
    ·subst h0;decide
    ·exact Nat.lt_trans ((Nat.log2_lt h0).mpr this) (by decide)
   walk_at "w5";refine bo6 rfl ?_;walk_at "w5";refine hn ?_ _ (e1.trans e2);rw[List.all_eq_false];exact⟨r,List.mem_of_getElem? hr',by rw[hg];decide⟩
 ·obtain⟨e1,⟨z2,z3,rfl⟩,q⟩:=q;rw[L5,i6,List.length_map,List.take_length] at q;exact h q _ e1
theorem V8(hT:TB T)(ha:g[a]?=some (.lst (cs.map b7.d)))(hz:cs.length<=1000)(hc:g[c]?=some (.lst (i6 rs)))(hr:rs.length<=900)(hm:9<cs.length->E ⟨"TooMany"⟩ g)(hb:cs.length<=9->cs.all n6=false->E ⟨"BadCoin"⟩ g)(hv:cs.length<=9->cs.all n6=true->¬(1<=v/\v<=9)->E ⟨"BadAnvils"⟩ g)(hw:cs.length<=9->cs.all n6=true->1<=v/\v<=9->rs.all (k8 cs)=false->∀g',Ex g g'->E ⟨"BadRule"⟩ g')(h:cs.length<=9->cs.all n6=true->1<=v/\v<=9->rs.all (k8 cs)=true->∀g',Ex g g'->Q .non g'):c5 T (k+7) 98 [.ref a,.int v,.ref c] g Q E:=by
 refine call_of hT.h98 rfl ?_;dsimp[T7,d0,List.replicate];walk_at "w5";refine V7 (k:=k) hT.nf hT.h2 hT.h12 hT.h18 ha hz hm hb fun h9 hg=>?_;walk_at "w5";refine am1 (k:=k+3) hT.nf hT.h42 (fun v1 v2=>?_) (hv h9 hg);walk_at "w5";exact ap2 (k:=k+1) hT ha hz hc hr (h h9 hg ⟨v1,v2⟩) (hw h9 hg ⟨v1,v2⟩)
theorem aF5{f:Str}{x:D}(fs:List (Str×D)):(j6 f x fs).length<=fs.length+1:=by
 induction fs with
 |nil=>simp[j6]
 |cons y r ih =>
  unfold j6;split<;>simp
  exact ih
theorem U5{f:Str}{x:D}{fs:List (Str×D)}{n:Nat}(h:fs.length+1<n):(j6 f x fs).length<n:=Nat.lt_of_le_of_lt (aF5 fs) h
theorem U4{f:Str}{x:D}{fs:List (Str×D)}{m n:Nat}(h:fs.length+(m+1)<n):(j6 f x fs).length+m<n:=by
 have:=aF5 (f:=f) (x:=x) fs;omega
noncomputable def f3(n:Nat)(v:Int):List (Str×D):=[("size",.int n),("full",.int ((2 ^ n-1:Nat):Int)),("room",.int v)]
theorem V4(n:Nat)(v:Int):(f3 n v).length=3:=rfl
theorem W3(hT:TB0 T)(ha:g[a]?=some (.lst (cs.map b7.d)))(hz:cs.length<=9)(hg:cs.all n6=true)(hB:∀c∈cs,CB c)(hc:g[c]?=some (.lst (i6 rs)))(hr:rs.length<=900)(hb:g[b]?=some (.ins "Bounds" []))(h:∀g',g.length<=g'.length->(∀i,i<g.length->i≠b->g'[i]?=g[i]?)->Bd g' b cs v rs->Q .non g'):c5 T (k+9) 113 [.ref b,.ref a,.int v,.ref c] g Q E:=by
 refine call_of hT.h113 rfl ?_;dsimp[T8,d0,List.replicate];have nab:b≠a:=fun z=>by subst z;rw[ha] at hb;cases hb
 have ncb:b≠c:=fun z=>by subst z;rw[hc] at hb;cases hb
 have lb:=j8 hb;walk_at "w5";refine X2 hb (by simp) (by simp) ?_;walk_at "w5";have ha1:=f6 (o':=O.ins "Bounds" (j6 "size" (.int (cs.map b7.d).length) [])) ha nab;refine S0 (a7 ha1) ?_;walk_at "w5";refine aN5 ⟨by omega,by simp;omega,by decide⟩ ?_;walk_at "w5";refine X2 (get_set hb) (by simp) (by first|(simp;done)|(refine U5 ?_;repeat (first|(rw[V4];omega)|(simp;done)|refine U4 ?_))) ?_;rw[List.set_set];walk_at "w5";refine X2 (get_set hb) (by simp) (by first|(simp;done)|(refine U5 ?_;repeat (first|(rw[V4];omega)|(simp;done)|refine U4 ?_))) ?_;rw[List.set_set];have e0:j6 "room" (.int v) (j6 "full" (.int (1*2 ^ Int.toNat ((cs.map b7.d).length:Int)-1)) (j6 "size" (.int (cs.map b7.d).length) []))=(f3 cs.length v):=by
  have:(1*2 ^ Int.toNat ((cs.map b7.d).length:Int)-1:Int)=((2 ^ cs.length-1:Nat):Int):=by
   rw[List.length_map,Int.toNat_natCast,Int.one_mul];have:=Nat.one_le_two_pow (n:=cs.length);rw[Int.natCast_sub this];simp
  rw[this,List.length_map]
  rfl
 simp only[e0];have kp:∀(g1:G) (o:O),Ex (g.set b o) g1->(∀i,i<g.length->i≠b->g1[i]?=g[i]?)/\g.length<=g1.length:=fun g1 o e=>⟨fun i hi hn=>by rw[e.old i (by simpa using hi),List.getElem?_set_ne (Ne.symm hn)],by have:=e.len;simpa using this⟩
 generalize ho:O.ins "Bounds" (f3 cs.length v)=o1;have hb1:=get_set (o':=o1) hb;have ha1:=f6 (o':=o1) ha nab;have hc1:=f6 (o':=o1) hc ncb;have k1:=kp _ o1 (Ex.refl _);generalize g.set b o1=g1 at *;subst ho;walk_at "w5";refine a83 (k:=k+4) hT ha1 hz hB fun g2 w e2 hw1 hw=>?_;walk_at "w5";refine X2 (e2.at hb1) (by simp) (by rw[V4];omega) ?_;have lw:w≠b:=fun z=>by have:=j8 hb1;omega
 have hb3:=get_set (o':=O.ins "Bounds" (j6 "worn_by_place" (.ref w) (f3 cs.length v))) (e2.at hb1);have hw3:=f6 (o':=O.ins "Bounds" (j6 "worn_by_place" (.ref w) (f3 cs.length v))) hw lw.symm;have ha3:=f6 (o':=O.ins "Bounds" (j6 "worn_by_place" (.ref w) (f3 cs.length v))) (e2.at ha1) nab;have hc3:=f6 (o':=O.ins "Bounds" (j6 "worn_by_place" (.ref w) (f3 cs.length v))) (e2.at hc1) ncb;have k3:(∀i,i<g.length->i≠b->(g2.set b (O.ins "Bounds" (j6 "worn_by_place" (.ref w) (f3 cs.length v))))[i]?=g[i]?)/\g.length<=(g2.set b (O.ins "Bounds" (j6 "worn_by_place" (.ref w) (f3 cs.length v)))).length:=⟨fun i hi hn=>by rw[List.getElem?_set_ne (Ne.symm hn),e2.old i (by have:=k1.2;omega)];exact k1.1 i hi hn,by simp;have:=e2.len;have:=k1.2;omega⟩
 generalize g2.set b (O.ins "Bounds" (j6 "worn_by_place" (.ref w) (f3 cs.length v)))=g3 at *;walk_at "w5";refine aT2 (k:=k+4) hT ha3 hz fun g4 l e4 hl1 hl=>?_;walk_at "w5";refine X2 (e4.at hb3) (by simp) (by first|(simp;done)|(refine U5 ?_;repeat (first|(rw[V4];omega)|(simp;done)|refine U4 ?_))) ?_;have ll:l≠b:=fun z=>by have:=j8 hb3;omega
 generalize ho:O.ins "Bounds" (j6 "later_by_place" (.ref l) (j6 "worn_by_place" (.ref w) (f3 cs.length v)))=o5;have hb5:=get_set (o':=o5) (e4.at hb3);have hw5:=f6 (o':=o5) (e4.at hw3) lw.symm;have hl5:=f6 (o':=o5) hl ll.symm;have ha5:=f6 (o':=o5) (e4.at ha3) nab;have hc5:=f6 (o':=o5) (e4.at hc3) ncb;have k5:(∀i,i<g.length->i≠b->(g4.set b o5)[i]?=g[i]?)/\g.length<=(g4.set b o5).length:=⟨fun i hi hn=>by rw[List.getElem?_set_ne (Ne.symm hn),e4.old i (by have:=k3.2;omega)];exact k3.1 i hi hn,by simp;have:=e4.len;have:=k3.2;omega⟩
 generalize g4.set b o5=g5 at *;subst ho;walk_at "w5";refine at6 (k:=k) hT ha5 hz hg fun g6 dd e6 hd1 hd=>?_;walk_at "w5";refine X2 (e6.at hb5) (by simp) (by first|(simp;done)|(refine U5 ?_;repeat (first|(rw[V4];omega)|(simp;done)|refine U4 ?_))) ?_;have ld:dd≠b:=fun z=>by have:=j8 hb5;omega
 generalize ho:O.ins "Bounds" (j6 "lower_dies" (.ref dd) (j6 "later_by_place" (.ref l) (j6 "worn_by_place" (.ref w) (f3 cs.length v))))=o7;have hb7:=get_set (o':=o7) (e6.at hb5);have hw7:=f6 (o':=o7) (e6.at hw5) lw.symm;have hl7:=f6 (o':=o7) (e6.at hl5) ll.symm;have hd7:=f6 (o':=o7) hd ld.symm;have ha7:=f6 (o':=o7) (e6.at ha5) nab;have hc7:=f6 (o':=o7) (e6.at hc5) ncb;have k7:(∀i,i<g.length->i≠b->(g6.set b o7)[i]?=g[i]?)/\g.length<=(g6.set b o7).length:=⟨fun i hi hn=>by rw[List.getElem?_set_ne (Ne.symm hn),e6.old i (by have:=k5.2;omega)];exact k5.1 i hi hn,by simp;have:=e6.len;have:=k5.2;omega⟩
 generalize g6.set b o7=g7 at *;subst ho;walk_at "w5";refine aS8 (k:=k+4) hT ha7 hz hc7 hr fun g8 nb e8 hn1 hn=>?_;walk_at "w5";refine X2 (e8.at hb7) (by simp) (by first|(simp;done)|(refine U5 ?_;repeat (first|(rw[V4];omega)|(simp;done)|refine U4 ?_))) ?_;have lb7:=j8 hb7;have ln:nb≠b:=fun z=>by omega
 generalize ho:O.ins "Bounds" (j6 "needed_by_place" (.ref nb) (j6 "lower_dies" (.ref dd) (j6 "later_by_place" (.ref l) (j6 "worn_by_place" (.ref w) (f3 cs.length v)))))=o9;refine h _ (by simp;have:=e8.len;have:=k7.2;omega) (fun i hi hn=>by rw[List.getElem?_set_ne (Ne.symm hn),e8.old i (by have:=k7.2;omega)];exact k7.1 i hi hn) ⟨⟨w,l,dd,nb,?_,f6 (e8.at hw7) lw.symm,f6 (e8.at hl7) ll.symm,f6 (e8.at hd7) ld.symm,?_⟩⟩
 ·rw[get_set (e8.at hb7),<- ho]
  rfl
 ·obtain⟨as,q1,q2,q3,q4,q5⟩:=hn.ex;exact⟨⟨as,f6 q1 ln.symm,q2,q3,fun x hx=>⟨by omega,(q4 x hx).2⟩,fun i x hx=>let ⟨ms,m1,m2⟩:=q5 i x hx;⟨ms,f6 m1 (fun z=>by have:=(q4 x (List.mem_of_getElem? hx)).1;omega),m2⟩⟩⟩
end
section
variable{T:Nat->Option MDef}{k d:Nat}{g g':G}{Q:KD}{E:KX}{a b c:Nat}{cs:List b7}{rs:List Rul}{v:Int}
theorem aB5(hT:TB T)(ha:g[a]?=some (.lst (cs.map b7.d)))(hz:cs.length<=1000)(hB:∀c∈cs,CB c)(hc:g[c]?=some (.lst (i6 rs)))(hr:rs.length<=900)(hm:9<cs.length->E ⟨"TooMany"⟩ g)(hb:cs.length<=9->cs.all n6=false->E ⟨"BadCoin"⟩ g)(hv:cs.length<=9->cs.all n6=true->¬(1<=v/\v<=9)->E ⟨"BadAnvils"⟩ g)(hw:cs.length<=9->cs.all n6=true->1<=v/\v<=9->rs.all (k8 cs)=false->∀g',Ex g g'->E ⟨"BadRule"⟩ g')(h:cs.length<=9->cs.all n6=true->1<=v/\v<=9->rs.all (k8 cs)=true->∀g' b,Ex g g'->g.length<=b->Bd g' b cs v rs->Q (.ref b) g'):c5 T (k+10) 99 [.ref a,.int v,.ref c] g Q E:=by
 refine call_of hT.h99 rfl ?_;dsimp[ac3,d0,List.replicate];walk_at "w5";refine V8 (k:=k+2) hT ha hz hc hr hm hb hv hw fun h9 hg hv hR g1 e1=>?_;walk_at "w5";have x1:=Ex.snoc g1 (O.ins "Bounds" []);refine W3 (k:=k) hT (x1.at (e1.at ha)) h9 hg hB (x1.at (e1.at hc)) hr c7 fun g2 l2 o2 B2=>?_;refine⟨rfl,h h9 hg hv hR g2 _ ⟨by have:=e1.len;simp at l2;omega,fun i hi=>?_⟩ e1.len B2⟩;have:=e1.len;rw[o2 i (by simp;omega) (by omega),x1.old i (by omega)];exact e1.old i hi
theorem aE0(hT:TB T)(ha:g[a]?=some (.lst (cs.map b7.d)))(hz:cs.length<=9)(hg:cs.all n6=true)(hB:∀c∈cs,CB c)(hv:1<=v/\v<=9)(hc:g[c]?=some (.lst (i6 rs)))(hr:rs.length<=900)(hR:rs.all (k8 cs)=true)(h:∀g' b,Ex g g'->g.length<=b->Bd g' b cs v rs->Q (.ref b) g'):c5 T (k+10) 99 [.ref a,.int v,.ref c] g Q E :=
 aB5 hT ha (by omega) hB hc hr (fun z=>by omega) (fun _ z=>by rw[hg] at z;cases z) (fun _ _ z=>absurd hv z) (fun _ _ _ z=>by rw[hR] at z;cases z) fun _ _ _ _=>h
theorem ao9(hT:TB0 T)(B:Bd g b cs v rs)(hz:cs.length<=9){s p:Nat}(hs:s<2 ^ cs.length)(hp:p<cs.length)(h:∀g',Ex g g'->Q (.int (aX0 cs s.testBit p:Nat)) g'):c5 T (k+2) 100 [.ref b,.int (s:Nat),.int (p:Nat)] g Q E:=by
 refine call_of hT.h100 rfl ?_;dsimp[Y4,d0,List.replicate];obtain⟨w,l,dd,nb,h1,h2,h3,h4,h5⟩:=B.ex;walk_at "w5";refine z9 (k:=k) hT.h91 (by omega) ?_;walk_at "w5";refine Q2 h1 rfl ?_;walk_at "w5";have e1:((2 ^ cs.length-1:Nat):Int)-(s:Nat)=((2 ^ cs.length-1-s:Nat):Int):=by omega
 rw[e1];have hln:(m7 (cs.map b7.lo)).length<=9:=Nat.le_trans (Q8 _) (by simpa using hz);have hdl:(U2 cs).length=(m7 (cs.map b7.lo)).length:=by simp[U2]
 refine E4 (b0 T _) (fun σ=>∃z2 z3,σ=[some (.int ((2 ^ cs.length-1-s:Nat):Int)),some (.int ((s |||2 ^ p:Nat):Int)),z2,z3]) (fun i=>aw6 cs s.testBit p ((m7 (cs.map b7.lo)).getD i 0)) (fun i=>(U2 cs).getD i .non) (l:=U2 cs) (k:=.lst dd) (fun g' e=>A1 (a7 (e.at h4))) (by rw[hdl];omega) ⟨none,none,rfl⟩ (fun i x σ g' hx e sh=>?_) (fun g' e=>?_) (ao3 (b0 T _) (a7 h4) fun Q q=>?_)
 ·obtain⟨z2,z3,rfl⟩:=sh;have hx':=hx;rw[U2,List.getElem?_map,Option.map_eq_some_iff] at hx';obtain⟨die,hd,rfl⟩:=hx';have eg:(m7 (cs.map b7.lo)).getD i 0=die:=by simp[List.getD,hd]
  refine p9 ?_
  try show wpT _ _ _ _ _ _
  walk_at "w5";refine am7 ?_;walk_at "w5";have b1:=aC1 (n:=cs.length) (q:=meant cs .lower die) (s:=s |||2 ^ p) (S:=fun i=>s.testBit i||decide (i=p)) (fun i _=>W6 s p i);have b2:=aC1 (n:=cs.length) (q:=meant cs .lower die) (s:=2 ^ cs.length-1-s) (S:=fun i=>!s.testBit i) (fun i hi=>a23 hs hi);rw[b1,eg];have hu:aw6 cs s.testBit p die=(((List.range cs.length).any fun i=>(s.testBit i||decide (i=p))&&meant cs .lower die i)&&(List.range cs.length).any fun i=>!s.testBit i&&meant cs .lower die i):=rfl;rw[hu];cases (List.range cs.length).any fun i=>(s.testBit i||decide (i=p))&&meant cs .lower die i with
  |false =>
   refine ifF rfl ?_;exact⟨rfl,e,ifF rfl ⟨_,_,rfl⟩⟩
  |true =>
   refine ifT rfl ?_;walk_at "w5";refine am7 ?_;walk_at "w5";rw[b2,Bool.true_and];refine⟨rfl,e,?_⟩;cases (List.range cs.length).any fun i=>!s.testBit i&&meant cs .lower die i with
   |false=>exact ifF rfl ⟨_,_,rfl⟩
   |true =>
    refine ifT rfl ?_;walk_at "w5";refine⟨?_,e,_,_,rfl⟩;simp[List.getD,hx]
 ·refine S0 (a7 c7) ?_;have:(((List.range (U2 cs).length).filter fun i=>aw6 cs s.testBit p ((m7 (cs.map b7.lo)).getD i 0)).map fun i=>(U2 cs).getD i .non).length=aX0 cs s.testBit p:=by
   rw[List.length_map,hdl,aM6 (m7 (cs.map b7.lo)) 0 (aw6 cs s.testBit p)]
   rfl
  rw[this];exact h _ (e.trans (Ex.snoc _ _))
 ·walk_at "w5";exact Q2 h1 rfl q
theorem aP6{q:b7->b7->Bool}{p:Nat}(hp:p<cs.length):atI (stL cs q) (p:Int)=some (.int ((stP cs.length fun j=>q (cAt cs j) (cAt cs p):Nat):Int)):=B0 (by rw[stL,List.getElem?_map,List.getElem?_range hp];rfl)
theorem aB7{s n:Nat}{q:Nat->Bool}:((Builtin.bitAnd (s:Nat) ((stP n q:Nat):Int)) != 0)=(List.range n).any fun i=>s.testBit i&&q i:=by rw[ap9,af6]
theorem at5(hT:TB0 T)(B:Bd g b cs v rs)(hz:cs.length<=9)(hr:rs.length<=900){s p:Nat}(hs:s<2 ^ cs.length)(hp:p<cs.length)(h:∀g',Ex g g'->Q (fwD (fault cs v rs s.testBit p)) g'):c5 T (k+3) 101 [.ref b,.int (s:Nat),.int (p:Nat)] g Q E:=by
 refine call_of hT.h101 rfl ?_;dsimp[Y0,d0,List.replicate];obtain⟨w,l,dd,nb,h1,h2,h3,h4,h5⟩:=B.ex;walk_at "w5";refine Q2 h1 rfl ?_;walk_at "w5";refine q8 (a7 h2) (aP6 hp) ?_;refine am7 ?_;walk_at "w5";rw[aB7];cases c1:(List.range cs.length).any fun i=>s.testBit i&&mw (cAt cs i) (cAt cs p) with
 |true =>
  refine ifT rfl ?_;walk_at "w5";have:fault cs v rs s.testBit p="wear":=by unfold fault ad5;rw[if_pos c1]
  rw[this] at h;exact h _ (Ex.refl _)
 |false =>
 refine ifF rfl ?_;walk_at "w5";refine Q2 h1 rfl ?_;walk_at "w5";refine q8 (a7 h3) (aP6 hp) ?_;refine am7 ?_;walk_at "w5";rw[aB7];cases c2:(List.range cs.length).any fun i=>s.testBit i&&ltr (cAt cs i) (cAt cs p) with
 |true =>
  refine ifT rfl ?_;walk_at "w5";have:fault cs v rs s.testBit p="year":=by unfold fault ad5 ak7;rw[if_neg (by rw[c1];decide),if_pos c2]
  rw[this] at h;exact h _ (Ex.refl _)
 |false =>
 refine ifF rfl ?_;walk_at "w5";refine ao9 (k:=k) hT B hz hs hp fun g2 e2=>?_;walk_at "w5";refine Q2 (e2.at h1) rfl ?_;walk_at "w5";refine if2 (fun c3=>?_) (fun c3=>?_)
 ·walk_at "w5";have:fault cs v rs s.testBit p="anvil":=by unfold fault ad5 ak7;rw[if_neg (by rw[c1];decide),if_neg (by rw[c2];decide),if_pos c3]
  rw[this] at h;exact h _ e2
 walk_at "w5";obtain⟨as,q1,q2,q3,q4,q5⟩:=h5.ex;have hpa:p<as.length:=by omega
 have hap:=List.getElem?_eq_getElem hpa;generalize as[p]=ap at hap;obtain⟨ms,m1,m2,m3⟩:=q5 p ap hap;refine comp_map (b0 T _) (fun σ=>∃z1 z2,σ=[some (.int (s:Nat)),z1,z2]) (fun i=>.int ((s &&& ms.getD i 0:Nat):Int)) (l:=d6 ms) (k:=.lst ap) (fun g' e=>A1 (a7 ((e2.trans e).at m1))) (by simp[d6];omega) ⟨none,none,rfl⟩ (fun i x σ g' hx e sh=>?_) (fun g' e=>?_) (ao3 (b0 T _) (a7 (e2.at m1)) fun Q q=>?_)
 ·obtain⟨z1,z2,rfl⟩:=sh;rw[d6,List.getElem?_map,Option.map_eq_some_iff] at hx;obtain⟨m,hm,rfl⟩:=hx;refine p9 ?_
  try show wpE _ _ _ _ _ _
  walk_at "w5";refine am7 ?_;refine⟨?_,e,_,_,rfl⟩;rw[ap9];simp[List.getD,hm]
 ·refine bD5 (ns:=(List.range (d6 ms).length).map fun i=>((s &&& ms.getD i 0:Nat):Int)) (a7 (by rw[List.map_map];exact c7)) ?_;have en:(((List.range (d6 ms).length).map fun i=>((s &&& ms.getD i 0:Nat):Int)).all fun n=>n != 0)=au8 cs rs s.testBit p:=by
   rw[Bool.eq_iff_iff,List.all_eq_true];unfold au8;rw[List.all_eq_true];constructor
   ·intro hA r hr;cases hmt:meant cs r.w r.y p with
    |false=>rfl
    |true =>
     have hm:=(m3 (stP cs.length (meant cs r.w r.x))).mpr ⟨r,hr,hmt,rfl⟩;obtain⟨i,hi⟩:=List.mem_iff_getElem?.mp hm;have hil:=(List.getElem?_eq_some_iff.mp hi).1;have:=hA ((s &&& stP cs.length (meant cs r.w r.x):Nat):Int) (List.mem_map.mpr ⟨i,List.mem_range.mpr (by simpa[d6] using hil),by simp[List.getD,hi]⟩);rw[af6] at this;exact this
   ·intro hA x hx;obtain⟨i,hi,rfl⟩:=List.mem_map.mp hx;have hi:i<ms.length:=by simpa[d6] using hi
    have hm:ms.getD i 0∈ms:=by simp[List.getD,hi]
    obtain⟨r,hr,hmt,em⟩:=(m3 _).mp hm;have:=hA r hr;rw[hmt,Bool.not_true,Bool.false_or] at this;rw[em,af6];exact this
  rw[en];walk_at "w5";cases c4:au8 cs rs s.testBit p with
  |true =>
   walk_at "w5";have:fault cs v rs s.testBit p="":=by unfold fault ad5 ak7;rw[if_neg (by rw[c1];decide),if_neg (by rw[c2];decide),if_neg c3,if_pos c4]
   rw[this] at h;exact h _ (e2.trans (e.trans (Ex.snoc _ _)))
  |false =>
   walk_at "w5";have:fault cs v rs s.testBit p="rule":=by unfold fault ad5 ak7;rw[if_neg (by rw[c1];decide),if_neg (by rw[c2];decide),if_neg c3,if_neg (by rw[c4];decide)]
   rw[this] at h;exact h _ (e2.trans (e.trans (Ex.snoc _ _)))
 ·walk_at "w5";refine Q2 (e2.at h1) rfl ?_;walk_at "w5";exact q8 (a7 (e2.at q1)) (B0 (by rw[List.getElem?_map,hap];rfl)) q
end
noncomputable def ae6:MDef:=⟨2,5,(.seq (.set 2 (jø (.prim .lst (yø (kđ "coin") (kđ "coin") (kđ "lower") (kđ "upper"))) (.call 4 (hđ kı0 (kø 4))))) (.seq (.set 3 (jđ .lrng1 (jđ .len kı1))) (.seq (.ifs (jı .Eq kı2 (kđ "lower")) (.seq (.set 3 (jđ .sset (.comp [] 2 (.one 1) (.itE kı1) .no (jø kı1 (kø 0))))) .pass) .pass) (.seq (.ifs (jı .Eq kı2 (kđ "upper")) (.seq (.set 3 (jđ .sset (.comp [] 2 (.one 1) (.itE kı1) .no (jø kı1 (kø 2))))) .pass) .pass) (.seq (.ifs (jı .Lt (jđ .len kı3) (kø 2)) (.seq (.ret (.lit .non)) .pass) .pass) (.seq (.set 4 (.call 4 (hđ kı0 (jđ .len kı3)))) (.seq (.ret (.prim .tup (yı kı2 (jø kı3 kı4) (jø kı3 (hı (.bin .Mod) (hı (.bin .Add) (hı (.bin .Add) kı4 (kø 1)) (.call 4 (hđ kı0 (hı (.bin .Sub) (jđ .len kı3) (kø 1))))) (jđ .len kı3)))))) .pass)))))))⟩
noncomputable def ay8:MDef:=⟨2,5,(.seq (.set 2 (.prim .lst .nil)) (.seq (.for_ (.one 3) (.itR1 (jø (.prim .lst (gı (kø 0) (kø 0) (kø 1) (kø 1) (kø 2) (kø 4))) (.call 4 (hđ kı0 (kø 6))))) (.seq (.set 4 (.call 105 (hđ kı0 kı1))) (.seq (.ifs (jı .IsNot kı4 (.lit .non)) (.seq (.expr (.meth .append kı2 (hø kı4))) .pass) .pass) .pass))) (.seq (.ret kı2) .pass)))⟩
noncomputable def ak6:MDef:=⟨2,4,(.seq (.unp (.many [2,3]) (.call 26 (hđ kı0 kı1))) (.seq (.ret (.prim .tup (yı kı2 kı3 (.call 106 (hđ kı0 kı2))))) .pass))⟩
structure TBR(T:Nat->Option MDef):Prop where
 lf:LF T
 h105:T 105=some ae6
 h106:T 106=some ay8
theorem aR1{cs:List b7}{w:RW}{x:Int}{i:Nat}(hi:i<cs.length)(h:meant cs w x i=true):(plc cs w x).isEmpty=false:=by
 cases e:plc cs w x with
 |nil =>
  have:i∈plc cs w x:=List.mem_filter.mpr ⟨List.mem_range.mpr hi,h⟩;rw[e] at this;cases this
 |cons _ _=>rfl
section
variable{T:Nat->Option MDef}{k d:Nat}{g g':G}{Q:KD}{E:KX}{a b c:Nat}{cs:List b7}{rs:List Rul}{v:Int}
theorem aT1{ns:List Int}{x:Int}:x∈m7 ns↔x∈ns:=by
 rw[(N8 ns).mem_iff,ST.ak5];simp
theorem a18(ns:List Int):(m7 ns).Nodup:=(N8 ns).nodup_iff.mpr (ST.ar3 _ _ (by simp))
theorem aq7(hT:TBR T)(D0:i7 g d){w:RW}{L:List Int}{sL:Nat}{N:Ends}(hN:N.rt=Q)(hL:g[sL]?=some (.lst (L.map .int)))(hd:sL≠d)(nd:L.Nodup)(hl:L.length<=9)(hm:∀x∈L,(plc cs w x).isEmpty=false)(h:∀g',i7 g' d->Gr d g g'->Q .non g'/\∀r,k8 cs r=true->Q r.d g'):wpS (c5 T (k+1)) (match ae6.body with|.seq _ (.seq _ (.seq _ (.seq _ b)))=>b|x=>x) N [some (.ref d),some (.ref a),some (.str w.s),some (.ref sL),none] g E:=by
 subst hN;dsimp[ae6];walk_at "w5";refine if2 (fun h2=>?_) (fun h2=>?_)
 ·walk_at "w5";exact(h g D0 (Gr.refl _ _)).1
 rw[List.length_map] at h2;walk_at "w5";refine i0 (k:=k) hT.lf.pull D0 (by rw[List.length_map];omega) (by rw[List.length_map];omega) fun r1 g1 h0 h1 D1 G1=>?_;rw[List.length_map] at h1;walk_at "w5";obtain⟨j,rfl⟩:∃j:Nat,r1=j:=⟨r1.toNat,by omega⟩
 have hj:j<L.length:=by omega
 have gj:atI (L.map D.int) (j:Int)=some (.int L[j]):=B0 (by rw[List.getElem?_map,List.getElem?_eq_getElem hj];rfl);refine q8 (a7 (G1.at hd hL)) gj ?_;walk_at "w5";refine S0 (a7 (G1.at hd hL)) ?_;walk_at "w5";refine i0 (k:=k) hT.lf.pull D1 (by rw[List.length_map];omega) (by rw[List.length_map];omega) fun r2 g2 k0 k1 D2 G2=>?_;rw[List.length_map] at k1;walk_at "w5";have hL2:=(G1.trans G2).at hd hL;refine S0 (a7 hL2) ?_;walk_at "w5";refine O4 (by rw[List.length_map];omega) ?_;obtain⟨j2,rfl⟩:∃j:Nat,r2=j:=⟨r2.toNat,by omega⟩
 have em:((j:Int)+1+(j2:Nat)) % ((L.map D.int).length:Nat)=(((j+1+j2) % L.length:Nat):Int):=by rw[List.length_map,Int.natCast_emod,show((j+1+j2:Nat):Int)=(j:Int)+1+(j2:Nat) by omega]
 rw[em];have hj3:(j+1+j2) % L.length<L.length:=Nat.mod_lt _ (by omega);have hne:(j+1+j2) % L.length≠j:=by
  by_cases hc:j+1+j2<L.length
  ·rw[Nat.mod_eq_of_lt hc];omega
  ·rw[Nat.mod_eq_sub_mod (by omega),Nat.mod_eq_of_lt (by omega)];omega
 generalize (j+1+j2) % L.length=j3 at *;have gj3:atI (L.map D.int) (j3:Int)=some (.int L[j3]):=B0 (by rw[List.getElem?_map,List.getElem?_eq_getElem hj3];rfl);refine q8 (a7 hL2) gj3 ?_;walk_at "w5";refine(h g2 D2 (G1.trans G2)).2 ⟨w,L[j],L[j3]⟩ ?_;unfold k8;rw[hm _ (List.getElem_mem hj),hm _ (List.getElem_mem hj3),decide_eq_false (fun z=>hne ((List.getElem_inj nd).mp z).symm)]
 rfl
theorem aF1(hT:TBR T)(ha:g[a]?=some (.lst (cs.map b7.d)))(hz:cs.length<=9)(hd:d<a)(D0:i7 g d)(h:∀g',i7 g' d->Gr d g g'->Q .non g'/\∀r,k8 cs r=true->Q r.d g'):c5 T (k+2) 105 [.ref d,.ref a] g Q E:=by
 refine call_of hT.h105 rfl ?_;dsimp[ae6,d0,List.replicate];walk_at "w5";refine i0 (k:=k) hT.lf.pull (D0.snoc _) (by decide) (by decide) fun r0 g1 h0 h1 D1 G1=>?_;have G1':=(Gr.snoc d g _).trans G1;have ha1:=G1'.at (Nat.ne_of_gt hd) ha;have l1:=G1'.len;have dl:=D0.lt;have hw:∃w:RW,atI [D.str "coin",D.str "coin",D.str "lower",D.str "upper"] r0=some (.str w.s):=by
  obtain⟨j,rfl⟩:∃j:Nat,r0=j:=⟨r0.toNat,by omega⟩
  have:j=0\/j=1\/j=2\/j=3:=by omega
  rcases this with rfl|rfl|rfl|rfl
  ·exact⟨.coin,rfl⟩
  ·exact⟨.coin,rfl⟩
  ·exact⟨.lower,rfl⟩
  ·exact⟨.upper,rfl⟩
 obtain⟨w,hw⟩:=hw;walk_at "w5";refine q8 (a7 (G1.at (Nat.ne_of_gt dl) c7)) hw ?_;walk_at "w5";refine lr1 (by omega) (by simp;omega) ?_;walk_at "w5";have e2:=Ex.snoc g1 (O.lst (j7 0 (Int.toNat ((cs.map b7.d).length:Nat))));have hr2:=c7 (g:=g1) (o:=O.lst (j7 0 (Int.toNat ((cs.map b7.d).length:Nat))));generalize g1++[O.lst (j7 0 (Int.toNat ((cs.map b7.d).length:Nat)))]=g2 at *;have ha2:=e2.at ha1;have D2:=e2.draw D1;have G2:=G1'.trans (e2.gr d);have fld:∀(f:Int) (w:RW) (N:Ends),(f=0\/f=2)->(∀i c,cs[i]?=some c->∀x,meant cs w x i=decide (ac8 f c=x))->N.rt=Q->wpE (c5 T (k+1)) (.prim .sset (.cons (.comp [] 2 (.one 1) (.itE (.var 1)) .no (.prim .ix (.cons (.var 1) (.cons (.lit (.int f)) .nil)))) .nil)) [some (.ref d),some (.ref a),some (.str w.s),some (.ref g1.length),none] g2 (fun x g3=>wpS (c5 T (k+1)) (match ae6.body with|.seq _ (.seq _ (.seq _ (.seq _ b)))=>b|x=>x) N [some (.ref d),some (.ref a),some (.str w.s),some x,none] g3 E) E:=fun f w N hf hm hN=>by
  walk_at "w5";refine comp_map (b0 T _) (fun σ=>∃z0 z1,σ=[z0,z1]) (fun i=>.int (ac8 f (cAt cs i))) (l:=cs.map b7.d) (k:=.lst a) (fun g' e=>A1 (a7 (e.at ha2))) (by simp;omega) ⟨none,none,rfl⟩ (fun i x σ g' hx e sh=>?_) (fun g' e=>?_) (ao3 (b0 T _) (a7 ha2) fun Q q=>w_var (d:=.ref a) rfl q)
  ·obtain⟨z0,z1,rfl⟩:=sh;rw[List.getElem?_map,Option.map_eq_some_iff] at hx;obtain⟨c,hc,rfl⟩:=hx;refine p9 ?_
   try show wpE _ _ _ _ _ _
   walk_at "w5";refine E1 (aW3 hf c) ?_;exact⟨by rw[F6 hc],e,_,_,rfl⟩
  ·refine bo5 (ns:=(List.range cs.length).map fun i=>ac8 f (cAt cs i)) (a7 (by rw[List.map_map];rw[c7,List.length_map];rfl)) (by simp;omega) ?_;have e3:=(e.trans (Ex.snoc g' (O.lst ((List.range (cs.map b7.d).length).map fun i=>D.int (ac8 f (cAt cs i)))))).trans (Ex.snoc _ (O.lst ((m7 ((List.range cs.length).map fun i=>ac8 f (cAt cs i))).map .int)));have hln:(m7 ((List.range cs.length).map fun i=>ac8 f (cAt cs i))).length<=9:=Nat.le_trans (Q8 _) (by simpa using hz);refine aq7 (k:=k) hT (e3.draw D2) hN c7 (by have:=D2.lt;have:=e.len;simp;omega) (a18 _) hln (fun x hx=>?_) fun g4 D4 G4=>h g4 D4 (G2.trans ((e3.gr d).trans G4));rw[aT1] at hx;obtain⟨i,hi,rfl⟩:=List.mem_map.mp hx;have hi:=List.mem_range.mp hi;have hc:=List.getElem?_eq_getElem hi;refine aR1 hi ?_;rw[hm i _ hc,F6 hc];exact decide_eq_true rfl
 cases w with
 |coin =>
  refine ifF (by decide +kernel) ?_;walk_at "w5";refine ifF (by decide +kernel) ?_
  try refine J6 ?_
  have er:j7 0 (Int.toNat ((cs.map b7.d).length:Nat))=((List.range cs.length).map fun(i:Nat)=>(i:Int)).map D.int:=by
   simp[j7]
  refine aq7 (k:=k) hT (w:=.coin) (L:=(List.range cs.length).map fun(i:Nat)=>(i:Int)) D2 rfl (by rw[<- er];exact hr2) (by omega) ?_ (by simpa using hz) (fun x hx=>?_) fun g4 D4 G4=>h g4 D4 (G2.trans G4)
  ·exact List.pairwise_map.mpr (List.nodup_range.imp fun h e=>h (by omega))
  ·obtain⟨i,hi,rfl⟩:=List.mem_map.mp hx;exact aR1 (List.mem_range.mp hi) (decide_eq_true rfl)
 |lower =>
  refine ifT (by decide +kernel) ?_;refine ab0 ?_;refine au2 ?_;refine b8 (b0 T _) _ _ _ _ _ _ _ (fun x g3 q=>?_) (fun _ _ z=>z) (fld 0 .lower ⟨fun _ g'=>Q .non g',Q,fun _ _=>False,fun _ _=>False⟩ (.inl rfl) (fun i c hc x=>by simp only[meant,F6 hc];rfl) rfl);refine au3 ?_;walk_at "w5";refine ifF (by decide +kernel) ?_
  try refine J6 ?_
  exact q
 |upper =>
  refine ifF (by decide +kernel) ?_;walk_at "w5";refine ifT (by decide +kernel) ?_;refine ab0 ?_;refine au2 ?_;exact fld 2 .upper _ (.inr rfl) (fun i c hc x=>by simp only[meant,F6 hc];rfl) rfl
end
section
variable{T:Nat->Option MDef}{k d:Nat}{g g':G}{Q:KD}{E:KX}{a b c:Nat}{cs:List b7}{rs:List Rul}{v:Int}
theorem aZ1(hT:TBR T)(ha:g[a]?=some (.lst (cs.map b7.d)))(hz:cs.length<=9)(hd:d<a)(D0:i7 g d)(h:∀(rs:List Rul) b g',rs.length<=4->rs.all (k8 cs)=true->g'[b]?=some (.lst (i6 rs))->g.length<=b->i7 g' d->Gr d g g'->Q (.ref b) g'):c5 T (k+3) 106 [.ref d,.ref a] g Q E:=by
 refine call_of hT.h106 rfl ?_;dsimp[ay8,d0,List.replicate];walk_at "w5";have dl:=D0.lt;have e1:=Ex.snoc g (O.lst []);have hf1:=c7 (g:=g) (o:=O.lst []);have D1:=D0.snoc (O.lst []);generalize g++[O.lst []]=g1 at *;refine C6 (b0 T _) (ac6 (b0 T _) ?_);walk_at "w5";refine i0 (k:=k+1) hT.lf.pull (D1.snoc _) (by decide) (by decide) fun r0 g2 h0 h1 D2 G2=>?_;have l1:=j8 hf1;have hw:∃j:Nat,j<=4/\atI [D.int 0,D.int 0,D.int 1,D.int 1,D.int 2,D.int 4] r0=some (.int (j:Nat)):=by
  obtain⟨j,rfl⟩:∃j:Nat,r0=j:=⟨r0.toNat,by omega⟩
  have:j=0\/j=1\/j=2\/j=3\/j=4\/j=5:=by omega
  rcases this with rfl|rfl|rfl|rfl|rfl|rfl
  ·exact⟨0,by decide,rfl⟩
  ·exact⟨0,by decide,rfl⟩
  ·exact⟨1,by decide,rfl⟩
  ·exact⟨1,by decide,rfl⟩
  ·exact⟨2,by decide,rfl⟩
  ·exact⟨4,by decide,rfl⟩
 obtain⟨j,hj,hw⟩:=hw;refine q8 (a7 (G2.at (by omega) c7)) hw ?_;refine⟨j,rfl,by omega,by omega,_,fun i σ g'=>i7 g' d/\Gr d g g'/\(∃rs:List Rul,rs.length<=i/\rs.all (k8 cs)=true/\g'[g.length]?=some (.lst (i6 rs)))/\∃z3 z4,σ=[some (.ref d),some (.ref a),some (.ref g.length),z3,z4],fun _ _ _ _=>A2,⟨D2,(e1.gr d).trans ((Gr.snoc d g1 _).trans G2),⟨[],by simp,rfl,((Gr.snoc d g1 _).trans G2).at (by omega) hf1⟩,none,none,rfl⟩,fun i x σ g' hx q=>?_,fun σ g' q=>?_⟩
 ·obtain⟨D3,G3,⟨rs,hl,hA,hF⟩,z3,z4,rfl⟩:=q;obtain⟨hi,rfl⟩:=E6 hx;have hi:i<j:=by simpa using hi
  refine p9 ?_
  try show wpS _ _ _ _ _ _
  walk_at "w5";have ha3:=G3.at (Nat.ne_of_gt hd) ha;refine aF1 (k:=k) hT ha3 hz hd D3 fun g4 D4 G4=>⟨?_,fun r hr=>?_⟩
  ·walk_at "w5";exact⟨D4,G3.trans G4,⟨rs,by omega,hA,G4.at (by omega) hF⟩,_,_,rfl⟩
  ·walk_at "w5";refine ifT rfl ?_;walk_at "w5";have hF4:=G4.at (by omega) hF
   try refine⟨ab6 hF4,?_⟩
   walk_at "w5";refine R7 hF4 (by simp[i6];omega) ?_;walk_at "w5";refine⟨D4.F8 (by omega),(G3.trans G4).F8 (Nat.le_refl _),⟨rs++[r],by simp;omega,by rw[List.all_append,hA];simp[hr],?_⟩,_,_,rfl⟩;rw[get_set hF4];simp[i6]
 ·obtain⟨D3,G3,⟨rs,hl,hA,hF⟩,z3,z4,rfl⟩:=q;rw[m9] at hl
  try show wpS _ _ _ _ _ _
  walk_at "w5";exact h rs _ _ (by simp at hl;omega) hA hF (Nat.le_refl _) D3 G3
theorem aZ3(hT:TBR T)(h110:T 110=some ak6){n:Int}(hn:0<=n/\n<=9)(D0:i7 g d)(h:∀(cs:List b7) (rs:List Rul) a c (v:Int) g',(cs.length:Int)<=n->(∀c∈cs,GCn c)->g'[a]?=some (.lst (cs.map b7.d))->g.length<=a->rs.length<=4->rs.all (k8 cs)=true->g'[c]?=some (.lst (i6 rs))->g.length<=c->a≠c->1<=v->v<=6->i7 g' d->Gr d g g'->Q (.tup [.ref a,.int v,.ref c]) g'):c5 T (k+5) 110 [.ref d,.int n] g Q E:=by
 refine call_of h110 rfl ?_;dsimp[ak6,d0,List.replicate];walk_at "w5";refine aL8 (k:=k) hT.lf ⟨hn.1,by omega⟩ D0 fun cs a v g1 hl hg ha hal v1 v2 D1 G1=>?_;refine A3 rfl ?_
 try show wpS _ _ _ _ _ _
 walk_at "w5";have dl:=D0.lt;refine aZ1 (k:=k+1) hT ha (by omega) (by omega) D1 fun rs c g2 hr hR hc hcl D2 G2=>?_;walk_at "w5";exact h cs rs a c v g2 hl hg (G2.at (by omega) ha) hal hr hR hc (Nat.le_trans G1.len hcl) (Nat.ne_of_lt (Nat.lt_of_lt_of_le (j8 ha) hcl)) v1 v2 D2 (G1.trans G2)
end
section
variable{T:Nat->Option MDef}{k d:Nat}{g g':G}{Q:KD}{E:KX}{a b c hl p:Nat}{cs:List b7}{rs:List Rul}{v:Int}{H:List Nat}
end
section
variable{T:Nat->Option MDef}{k d:Nat}{g g':G}{Q:KD}{E:KX}{a b c hl p:Nat}{cs:List b7}{rs:List Rul}{v:Int}{H:List Nat}
end
noncomputable def Y2:MDef:=⟨3,3,(.seq (.ret (.and_ (hı (.cmp .NotEq) (.call 91 (hđ kı1 kı2)) kı1) (hı (.cmp .Is) (.call 101 (yı kı0 kı1 kı2)) (.lit .non)))) .pass)⟩
noncomputable def Y3:MDef:=⟨2,2,(.seq (.ret (.comp [0,1] 4 (.one 3) (.itR1 (jđ (.fld "size") kı0)) (.tst (.call 115 (yı kı0 kı1 kı3))) kı3)) .pass)⟩
noncomputable def Z2(cs:List b7)(v:Int)(rs:List Rul)(s p:Nat):Bool:=!s.testBit p&&decide (fault cs v rs s.testBit p="")
noncomputable def s9(cs:List b7)(v:Int)(rs:List Rul)(s:Nat):List Nat:=(List.range cs.length).filter (Z2 cs v rs s)
theorem a28(x:Str):M5 (fwD x)=decide (x=""):=by
 unfold fwD;by_cases h:x=""
 ·rw[if_pos h,decide_eq_true h];rfl
 ·rw[if_neg h,decide_eq_false h];rfl
theorem by9{s p:Nat}:decide (((s |||2 ^ p:Nat):Int)=(s:Nat))=s.testBit p:=by
 rw[Bool.eq_iff_iff,decide_eq_true_eq];constructor
 ·intro h;have h:s |||2 ^ p=s:=by omega
  have:=W6 s p p;rw[h] at this;rw[this];simp
 ·intro h;have:s |||2 ^ p=s:=Nat.eq_of_testBit_eq fun i=>by
   rw[W6];by_cases hi:i=p
   ·subst hi;rw[h];rfl
   ·rw[decide_eq_false hi,Bool.or_false]
  rw[this]
structure TF(T:Nat->Option MDef):Prop where
 h115:T 115=some Y2
 h116:T 116=some Y3
section
variable{T:Nat->Option MDef}{k d:Nat}{g g':G}{Q:KD}{E:KX}{a b c hl p:Nat}{cs:List b7}{rs:List Rul}{v:Int}{H:List Nat}
theorem aM3(hT:TB0 T)(h115:T 115=some Y2)(B:Bd g b cs v rs)(hz:cs.length<=9)(hr:rs.length<=900){s p:Nat}(hs:s<2 ^ cs.length)(hp:p<cs.length)(h:∀g',Ex g g'->Q (.bl (Z2 cs v rs s p)) g'):c5 T (k+4) 115 [.ref b,.int (s:Nat),.int (p:Nat)] g Q E:=by
 refine call_of h115 rfl ?_;dsimp[Y2,d0,List.replicate];walk_at "w5";refine z9 (k:=k+2) hT.h91 (by omega) ?_;walk_at "w5";rw[by9];cases hb:s.testBit p with
 |true =>
  refine ifF rfl ?_;have:Z2 cs v rs s p=false:=by unfold Z2;rw[hb];rfl
  rw[this] at h;exact h _ (Ex.refl _)
 |false =>
  refine ifT rfl ?_;walk_at "w5";refine at5 (k:=k) hT B hz hr hs hp fun g1 e1=>?_;walk_at "w5";have:Z2 cs v rs s p=M5 (fwD (fault cs v rs s.testBit p)):=by unfold Z2;rw[hb,a28];rfl
  rw[this] at h;exact h _ e1
theorem Q1(hT:TB0 T)(hF:TF T)(B:Bd g b cs v rs)(hz:cs.length<=9)(hr:rs.length<=900){s:Nat}(hs:s<2 ^ cs.length)(h:∀g' l,Ex g g'->g.length<=l->g'[l]?=some (.lst (d6 (s9 cs v rs s)))->Q (.ref l) g'):c5 T (k+5) 116 [.ref b,.int (s:Nat)] g Q E:=by
 refine call_of hF.h116 rfl ?_;dsimp[Y3,d0,List.replicate];obtain⟨w,l,dd,nb,h1,h2,h3,h4,h5⟩:=B.ex;walk_at "w5";refine E4 (b0 T _) (fun σ=>∃z2 z3,σ=[some (.ref b),some (.int (s:Nat)),z2,z3]) (Z2 cs v rs s) (fun i=>.int (i:Nat)) (l:=j7 0 cs.length) (fun g' e=>A2) (by rw[m9];omega) ⟨none,none,rfl⟩ (fun i d σ g' hx e sh=>?_) (fun g' e=>?_) (br8 (b0 T _) (by omega:cs.length<=1000) fun Q q=>?_)
 ·obtain⟨z2,z3,rfl⟩:=sh;obtain⟨hi,rfl⟩:=E6 hx;rw[Int.zero_add];refine p9 ?_
  try show wpT _ _ _ _ _ _
  walk_at "w5";refine aM3 (k:=k) hT hF.h115 (B.at e) hz hr hs hi fun g2 e2=>?_;walk_at "w5";refine⟨rfl,e.trans e2,?_⟩;cases Z2 cs v rs s i with
  |true =>
   refine ifT rfl ?_;walk_at "w5";exact⟨rfl,e.trans e2,_,_,rfl⟩
  |false=>exact ifF rfl ⟨_,_,rfl⟩
 ·rw[m9];exact h _ _ (e.trans (Ex.snoc _ _)) e.len c7
 ·walk_at "w5";exact Q2 h1 rfl q
end
noncomputable def FG(n:Nat)(F:Nat->List Nat):Prop:=∀s p,p∈F s->p<n/\s.testBit p=false
noncomputable def N9(n:Nat)(F:Nat->List Nat):Nat->Nat->List (List Nat)
 |0,s=>if s=2 ^ n-1 then[[]] else[]
 |f+1,s=>if s=2 ^ n-1 then[[]] else(F s).flatMap fun p=>(N9 n F f (s |||2 ^ p)).map (p::·)
noncomputable def n4(n:Nat)(F:Nat->List Nat)(s:Nat):List (List Nat):=N9 n F (2 ^ n) s
theorem au7{s p:Nat}(h:s.testBit p=false):s<s |||2 ^ p:=by
 have h1:s<=s |||2 ^ p:=Nat.left_le_or
 have h2:s |||2 ^ p≠s:=fun e=>by
  have:=W6 s p p;rw[e,h] at this;simp at this
 omega
theorem V3{α β:Type}{l:List α}{f g:α->List β}(h:∀x∈l,f x=g x):l.flatMap f=l.flatMap g:=by
 induction l with
 |nil=>rfl
 |cons a r ih=>rw[List.flatMap_cons,List.flatMap_cons,h a (by simp),ih fun x hx=>h x (by simp[hx])]
theorem ak0{n:Nat}{F:Nat->List Nat}(hF:FG n F):∀(f s:Nat),s<2 ^ n->2 ^ n-1-s<=f->N9 n F f s=N9 n F (f+1) s
 |0,s,hs,hf=>by
  have e:s=2 ^ n-1:=by omega
  simp only[N9];rw[if_pos e,if_pos e]
 |f+1,s,hs,hf=>by
  rw[N9,N9];by_cases e:s=2 ^ n-1
  ·rw[if_pos e,if_pos e]
  ·rw[if_neg e,if_neg e];refine V3 fun p hp=>?_;have:=hF s p hp;rw[ak0 hF f (s |||2 ^ p) (ad6 hs this.1) (by have:=au7 this.2;omega)]
theorem ar0{n:Nat}{F:Nat->List Nat}{s:Nat}(h:s=2 ^ n-1):n4 n F s=[[]]:=by
 unfold n4;obtain⟨m,hm⟩:∃m,2 ^ n=m+1:=⟨2 ^ n-1,by have:=Nat.one_le_two_pow (n:=n);omega⟩
 rw[hm,N9,if_pos h]
theorem aG1{n:Nat}{F:Nat->List Nat}(hF:FG n F){s:Nat}(hs:s<2 ^ n)(h:s≠2 ^ n-1):n4 n F s=(F s).flatMap fun p=>(n4 n F (s |||2 ^ p)).map (p::·):=by
 unfold n4;obtain⟨m,hm⟩:∃m,2 ^ n=m+1:=⟨2 ^ n-1,by have:=Nat.one_le_two_pow (n:=n);omega⟩
 conv=>lhs;rw[hm,N9,if_neg h]
 refine V3 fun p hp=>?_;have:=hF s p hp;rw[hm,<- ak0 hF m (s |||2 ^ p) (ad6 hs this.1) (by omega)]
theorem a85{n:Nat}{F:Nat->List Nat}(hF:FG n F){s:Nat}(hs:s<2 ^ n)(h:s≠2 ^ n-1):(n4 n F s).length=((F s).map fun p=>(n4 n F (s |||2 ^ p)).length).sum:=by
 rw[aG1 hF hs h,List.length_flatMap];simp[Function.comp_def]
inductive Rch(F:Nat->List Nat):Nat->Prop
 |zero:Rch F 0
 |step {s p:Nat} (h:Rch F s) (hp:p∈F s):Rch F (s |||2 ^ p)
theorem Rch.lt{n:Nat}{F:Nat->List Nat}(hF:FG n F){s:Nat}(h:Rch F s):s<2 ^ n:=by
 induction h with
 |zero=>exact Nat.two_pow_pos _
 |step h hp ih=>exact ad6 ih (hF _ _ hp).1
theorem V2(cs:List b7)(v:Int)(rs:List Rul):FG cs.length (s9 cs v rs):=fun s p hp=>by
 obtain⟨h1,h2⟩:=List.mem_filter.mp hp;unfold Z2 at h2;rw[Bool.and_eq_true,Bool.not_eq_true'] at h2;exact⟨List.mem_range.mp h1,h2.1⟩
theorem aM5{α β:Type}{f:α->List β}{l:List α}{j:Nat}{x:α}(hx:l[j]?=some x)(m:Nat):(l.flatMap f)[((l.take j).flatMap f).length+m]?=((l.drop j).flatMap f)[m]?/\(l.drop j).flatMap f=f x++(l.drop (j+1)).flatMap f:=by
 have e:l.flatMap f=(l.take j).flatMap f++(l.drop j).flatMap f:=by rw[<- List.flatMap_append,List.take_append_drop]
 have hj:j<l.length:=(List.getElem?_eq_some_iff.mp hx).1;have ed:l.drop j=x::l.drop (j+1):=by
  rw[List.drop_eq_getElem_cons hj]
  congr 1
  exact(List.getElem?_eq_some_iff.mp hx).2
 constructor
 ·rw[e,List.getElem?_append_right (by omega)]
  congr 1
  omega
 ·rw[ed,List.flatMap_cons]
noncomputable abbrev kN(j:Nat):Key:=.inl (j:Int)
theorem aZ6{kvs:List (Key×D)}{c:Key}{x:D}:p6 (putD kvs c x) c=some x:=by
 unfold p6 putD;by_cases h:(kvs.any fun kv=>decide (kv.1=c))=true
 ·rw[if_pos h]
  induction kvs with
  |nil=>cases h
  |cons kv r ih =>
   rw[List.map_cons,List.find?_cons];by_cases hk:kv.1=c
   ·rw[if_pos hk];simp[hk]
   ·rw[if_neg hk];simp only[hk,decide_false];refine ih ?_;rw[List.any_cons,Bool.or_eq_true] at h;exact h.resolve_left (by simp[hk])
 ·rw[if_neg h,List.find?_append];have:kvs.find? (fun kv=>decide (kv.1=c))=none:=by
   rw[List.find?_eq_none];exact fun kv hk hc=>h (List.any_eq_true.mpr ⟨kv,hk,hc⟩)
  rw[this];simp
theorem aQ5{kvs:List (Key×D)}{c c':Key}{x:D}(hn:c≠c'):p6 (putD kvs c x) c'=p6 kvs c':=by
 unfold p6 putD;by_cases h:(kvs.any fun kv=>decide (kv.1=c))=true
 ·rw[if_pos h];clear h
  induction kvs with
  |nil=>rfl
  |cons kv r ih =>
   rw[List.map_cons,List.find?_cons,List.find?_cons];by_cases hk:kv.1=c
   ·rw[if_pos hk];have:kv.1≠c':=fun z=>hn (hk.symm.trans z);simp only[this,decide_false];exact ih
   ·rw[if_neg hk];by_cases hk':kv.1=c'
    ·simp only[hk',decide_true]
    ·simp only[hk',decide_false];exact ih
 ·rw[if_neg h,List.find?_append];have:[(c,x)].find? (fun kv=>decide (kv.1=c'))=none:=by simp[hn]
  rw[this];simp
theorem aZ5{kvs:List (Key×D)}{c:Key}{x:D}:(putD kvs c x).length<=kvs.length+1:=by
 unfold putD;split<;>simp
theorem bA3{i j:Nat}(h:i≠j):kN i≠kN j:=fun z=>h (by have:(i:Int)=j:=Sum.inl.inj z;omega)
noncomputable def A8:MDef:=⟨1,5,(.seq (.set 1 (.prim (.sdisp 0) .nil)) (.seq (.set 2 (.prim .lst .nil)) (.seq (.for_ (.one 3) (.itR1 (hı (.bin .Add) (jđ (.fld "full") kı0) (kø 1))) (.seq (.ifs (jı .In kı3 kı1) (.seq (.expr (.meth .append kı2 (hø kı3))) (.seq (.for_ (.one 4) (.itE (.call 116 (hđ kı0 kı3))) (.seq (.expr (.meth .sadd kı1 (hø (.call 91 (hđ kı3 kı4))))) .pass)) .pass)) .pass) .pass)) (.seq (.ret kı2) .pass))))⟩
noncomputable def an8:MDef:=⟨1,3,(.seq (.set 1 (.prim .Z3 .nil)) (.seq (.for_ (.one 2) (.itV (.call 117 (hø kı0))) (.seq (.ifs (jı .Eq kı2 (jđ (.fld "full") kı0)) (.seq (.setix kı1 kı2 (kø 1)) .pass) (.seq (.setix kı1 kı2 (jđ .sum (.comp [2,1] 4 (.one 3) (.itE (.call 116 (hđ kı0 kı2))) .no (jø kı1 (.call 91 (hđ kı0 kı3)))))) .pass)) .pass)) (.seq (.ret kı1) .pass)))⟩
noncomputable def ae5:MDef:=⟨4,7,(.seq (.set 4 (.call 116 (hđ kı0 kı2))) (.seq (.set 5 kı3) (.seq (.set 6 (kø 0)) (.seq (.whil (jı .GtE kı5 (jø kı1 (.call 91 (hđ kı2 (jø kı4 kı6))))) (.seq (.augl 5 .isub (jø kı1 (.call 91 (hđ kı2 (jø kı4 kı6))))) (.seq (.augl 6 .iadd (kø 1)) .pass))) (.seq (.ret (hı .tup (jø kı4 kı6) kı5)) .pass)))))⟩
noncomputable def L1:MDef:=⟨3,7,(.seq (.set 3 (.prim .lst .nil)) (.seq (.set 4 (kø 0)) (.seq (.set 5 kı2) (.seq (.whil (jı .NotEq kı4 (jđ (.fld "full") kı0)) (.seq (.unp (.many [6,5]) (.call 122 (yø kı0 kı1 kı4 kı5))) (.seq (.expr (.meth .append kı3 (hø kı6))) (.seq (.set 4 (.call 91 (hđ kı4 kı6))) .pass)))) (.seq (.ret kı3) .pass)))))⟩
noncomputable def M1:MDef:=⟨1,2,(.seq (.set 1 (.call 121 (hø kı0))) (.seq (.ifs (jı .Eq (jø kı1 (kø 0)) (kø 0)) (.seq (.ret (.lit .non)) .pass) .pass) (.seq (.ret (.call 123 (yı kı0 kı1 (kø 0)))) .pass)))⟩
noncomputable def Y1:MDef:=⟨3,3,(.seq (.ret (jø (.call 121 (hø (.call 99 (yı kı0 kı1 kı2)))) (kø 0))) .pass)⟩
theorem aG3:∀{l m:List Nat},l.Nodup->(∀x∈l,x∈m)->l.length<=m.length
 |[],m,_,_=>Nat.zero_le _
 |x::r,m,nd,h=>by
  rw[List.nodup_cons] at nd;have:=aG3 (l:=r) (m:=m.erase x) nd.2 fun y hy=>(List.mem_erase_of_ne fun z=>nd.1 (by rw[<- z];exact hy)).mpr (h y (by simp[hy]));have hx:=h x (by simp);rw[List.length_erase_of_mem hx] at this;have:=List.length_pos_of_mem hx;simp;omega
section
variable{P:Sig}{σ:S}{g:G}{Q:KD}{E:KX}{t:MT}{it elt:ME}{d5:List Nat}{n:Nat}
theorem aV1(hP:i4 P)(h:wpI P it σ g (fun k g1=>∃(l:List D) (Sh:S->Prop) (w:Nat->D),(∀g',Ex g1 g'->k.Is l g')/\l.length<=1000/\Sh (C8 σ d5 n) /\
      (∀ i d σ g',l[i]?=some d->Ex g1 g'->Sh σ->tgP t d σ fun σ2=>wpE P elt σ2 g' (fun y g4=>y=w i/\Ex g1 g4/\Sh σ2) NoX)/\∀ g',Ex g1 g'->Q (.ref g'.length) (g' ++ [.lst ((List.range l.length).map w)])) E):wpE P (.comp d5 n t it .no elt) σ g Q E:=by
  refine F3 hP (y9 hP it _ _ _ _ _ _ (fun k g1 h=>?_) (fun _ _ z=>z) h);obtain⟨l,Sh,w,hk,hl,h0,hs,hd⟩:=h;refine⟨l,fun i ys σ g'=>Ex g1 g'/\ys=(List.range i).map w/\Sh σ,hl,fun i ys σ g' q=>⟨hk _ q.1,by rw[q.2.1];simp⟩,⟨Ex.refl _,rfl,h0⟩,fun i x ys σ g' hx q=>?_,fun ys σ g' q=>?_⟩
  · obtain⟨e1,rfl,sh⟩:=q;refine v8 (fun σ2 q=>au1 (ift (b8 hP elt _ _ _ _ _ _ (fun y g4 q=>?_) (fun _ _ z=>z) q))) (hs i x σ g' hx e1 sh);obtain⟨rfl,e4,sh⟩:=q;exact⟨e4,by rw[List.range_succ,List.map_append];rfl,sh⟩
  · obtain⟨e1,rfl,sh⟩:=q;exact hd g' e1
end
noncomputable def aa1(g:G)(sd n:Nat)(K:List Nat):Prop:=∃S m,g[sd]?=some (.set S m)/\m=K.length/\K.Nodup/\(∀j∈K,j<2 ^ n)/\∀k:Int,S k=true↔∃j∈K,k=(j:Nat)
theorem aa1.at{g g':G}{sd n:Nat}{K:List Nat}(h:aa1 g sd n K)(e:Ex g g'):aa1 g' sd n K:=let ⟨S,m,h1,h2⟩:=h;⟨S,m,e.at h1,h2⟩
theorem aa1.size{g:G}{sd n:Nat}{K:List Nat}(h:aa1 g sd n K):K.length<=2 ^ n:=by
 obtain⟨S,m,_,_,nd,lt,_⟩:=h;have:=aG3 (m:=List.range (2 ^ n)) nd fun x hx=>List.mem_range.mpr (lt x hx);simpa using this
structure TW(T:Nat->Option MDef):Prop where
 h117:T 117=some A8
 h121:T 121=some an8
structure Wy(g:G)(w:Nat)(cs:List b7)(v:Int)(rs:List Rul):Prop where
 ex:∃kvs,g[w]?=some (.dic kvs)/\∀s,Rch (s9 cs v rs) s->p6 kvs (kN s)=some (.int ((n4 cs.length (s9 cs v rs) s).length:Nat))
theorem Wy.at{g g':G}{w:Nat}{cs:List b7}{v:Int}{rs:List Rul}(h:Wy g w cs v rs)(e:Ex g g'):Wy g' w cs v rs:=let ⟨kvs,h1,h2⟩:=h.ex;⟨⟨kvs,e.at h1,h2⟩⟩
theorem aL1{l:List Nat}(hl:l.Pairwise (· > ·)){i s x:Nat}(hi:l[i]?=some s)(hx:x∈l)(h:s<x):x∈l.take i:=by
 obtain⟨j,hj,rfl⟩:=List.mem_iff_getElem.mp hx;obtain⟨hi',rfl⟩:=List.getElem?_eq_some_iff.mp hi;have hji:j<i:=by
  rcases Nat.lt_trichotomy j i with z|z|z
  ·exact z
  ·subst z;omega
  ·have:=List.pairwise_iff_getElem.mp hl i j hi' hj z;omega
 exact List.mem_iff_getElem?.mpr ⟨j,by rw[List.getElem?_take_of_lt hji,List.getElem?_eq_getElem hj]⟩
theorem a04{n:Nat}(h:n<=9):1<=2 ^ n/\2 ^ n<=512:=⟨Nat.one_le_two_pow,Nat.pow_le_pow_right (by omega) h⟩
section
variable{T:Nat->Option MDef}{k d:Nat}{g g':G}{Q:KD}{E:KX}{a b c r:Nat}{cs:List b7}{rs:List Rul}{v:Int}
theorem aj8(hT:TB0 T)(hF:TF T)(h117:T 117=some A8)(B:Bd g b cs v rs)(hz:cs.length<=9)(hr:rs.length<=900)(h:∀(L:List Nat) l g',Ex g g'->g.length<=l->g'[l]?=some (.lst (d6 L))->L.Pairwise (· < ·)->(∀s,s∈L↔Rch (s9 cs v rs) s)->L.length<=512->Q (.ref l) g'):c5 T (k+6) 117 [.ref b] g Q E:=by
 refine call_of h117 rfl ?_;dsimp[A8,d0,List.replicate];have hFG:=V2 cs v rs;generalize hFe:s9 cs v rs=F at *;obtain⟨w0,l0,dd,nb,f1,f2,f3,f4,f5⟩:=B.ex;have p2:=a04 hz;walk_at "w5";refine bd4 ?_;have s1:aa1 (g++[O.set (fun k=>decide (k=0)) 1]) g.length cs.length [0]:=⟨_,_,c7,rfl,by simp,by simp;omega,fun k=>by simp⟩
 have e1:=Ex.snoc g (O.set (fun k=>decide (k=0)) 1);generalize g++[O.set (fun k=>decide (k=0)) 1]=g1 at *;walk_at "w5";have e2:=e1.trans (Ex.snoc g1 (O.lst []));have s2:=s1.at (Ex.snoc g1 (O.lst []));have t2:=c7 (g:=g1) (o:=O.lst []);have l1:g.length<g1.length:=by obtain⟨_,_,z,_⟩:=s1;exact j8 z
 generalize g1++[O.lst []]=g2 at *;generalize g1.length=tl at *;refine C6 (b0 T _) (ac6 (b0 T _) ?_);walk_at "w5";refine Q2 (e2.at f1) rfl ?_;walk_at "w5";have en:((2 ^ cs.length-1:Nat):Int)+1=((2 ^ cs.length:Nat):Int):=by omega
 rw[en];refine⟨by omega,by omega,j7 0 (2 ^ cs.length),fun t σ g'=>Ex g g'/\(∃K,aa1 g' g.length cs.length K/\∀j,j∈K↔j=0\/∃s p,s<t/\Rch F s/\p∈F s/\j=s |||2 ^ p)/\(∃L,g'[tl]?=some (.lst (d6 L))/\L.Pairwise (· < ·)/\(∀s,s∈L↔s<t/\Rch F s)/\L.length<=t)/\∃z3 z4,σ=[some (.ref b),some (.ref g.length),some (.ref tl),z3,z4],fun _ _ _ _=>by rw[Int.toNat_natCast];exact A2,⟨e2,⟨[0],s2,fun j=>by simp⟩,⟨[],t2,by simp,by simp,by simp⟩,none,none,rfl⟩,fun t x σ g' hx q=>?_,fun σ g' q=>?_⟩
 ·obtain⟨e3,⟨K,s3,hK⟩,⟨L,t3,pw,hL,hLl⟩,z3,z4,rfl⟩:=q;obtain⟨ht,rfl⟩:=E6 hx;rw[Int.zero_add];have hmem:t∈K↔Rch F t:=by
   rw[hK];constructor
   ·rintro(rfl|⟨s,p,_,h2,h3,rfl⟩)
    ·exact .zero
    ·exact .step h2 h3
   ·intro h;cases h with
    |zero=>exact .inl rfl
    |step h hp=>exact .inr ⟨_,_,au7 (hFG _ _ hp).2,h,hp,rfl⟩
  refine p9 ?_
  try show wpS _ _ _ _ _ _
  walk_at "w5";obtain⟨S,m,sg,sm,snd,slt,sS⟩:=id s3;refine bD0 sg ?_;walk_at "w5";have hSt:S (t:Nat)=true↔Rch F t:=by
   rw[sS,<- hmem];exact⟨fun⟨j,hj,e⟩=>by rw[show t=j by omega];exact hj,fun z=>⟨t,z,rfl⟩⟩
  cases hb:S (t:Nat) with
  |false =>
   have hno:¬Rch F t:=fun z=>by rw[hSt.mpr z] at hb;cases hb
   refine ifF rfl ?_;walk_at "w5";refine⟨e3,⟨K,s3,fun j=>(hK j).trans ⟨?_,?_⟩⟩,⟨L,t3,pw,fun s=>(hL s).trans ⟨fun z=>⟨by omega,z.2⟩,fun z=>⟨?_,z.2⟩⟩,by omega⟩,_,_,rfl⟩
   ·rintro(z|⟨s,p,h1,h2⟩)
    ·exact .inl z
    ·exact .inr ⟨s,p,by omega,h2⟩
   ·rintro(z|⟨s,p,h1,h2,h3⟩)
    ·exact .inl z
    ·refine .inr ⟨s,p,?_,h2,h3⟩;rcases Nat.lt_or_ge s t with y|y
     ·exact y
     ·exact absurd (show Rch F t by rw[show t=s by omega];exact h2) hno
   ·rcases Nat.lt_or_ge s t with y|y
    ·exact y
    ·exact absurd (show Rch F t by rw[show t=s by omega];exact z.2) hno
  |true =>
   have hR:=hSt.mp hb;refine ifT rfl ?_;walk_at "w5";refine R7 t3 (by simp[d6];omega) ?_;have sne:tl≠g.length:=by omega
   have s4:aa1 (g'.set tl (.lst (d6 L++[D.int (t:Nat)]))) g.length cs.length K:=⟨S,m,f6 sg sne,sm,snd,slt,sS⟩
   have t4:(g'.set tl (.lst (d6 L++[D.int (t:Nat)])))[tl]?=some (.lst (d6 (L++[t]))):=by rw[get_set t3];simp[d6]
   have e4:Ex g (g'.set tl (.lst (d6 L++[D.int (t:Nat)]))):=⟨by simp;exact e3.len,fun i hi=>by rw[List.getElem?_set_ne (by omega)];exact e3.old i hi⟩
   generalize g'.set tl (.lst (d6 L++[D.int (t:Nat)]))=g4 at *;walk_at "w5";refine C6 (b0 T _) (i_l (b0 T _) ?_);walk_at "w5";refine Q1 (k:=k) hT hF (B.at e4) hz hr ht fun g5 fl e5 hfl h5=>?_;rw[hFe] at h5;have l4:tl<g4.length:=j8 t4;refine⟨fl,_,rfl,a7 h5,d6 (F t),fun j σ g'=>Ex g g'/\g'[fl]?=some (.lst (d6 (F t)))/\g'[tl]?=some (.lst (d6 (L++[t])))/\(∃K',aa1 g' g.length cs.length K'/\∀x,x∈K'↔x∈K\/∃p∈(F t).take j,x=t |||2 ^ p)/\∃z4,σ=[some (.ref b),some (.ref g.length),some (.ref tl),some (.int (t:Nat)),z4],fun j σ g' q=>A1 (a7 q.2.1),⟨e4.trans e5,h5,e5.at t4,⟨K,s4.at e5,fun x=>by simp⟩,z4,rfl⟩,fun j x σ g' hx q=>?_,fun σ g' q=>?_⟩
   ·obtain⟨e6,h6,t6,⟨K',s6,hK'⟩,z4,rfl⟩:=q;rw[d6,List.getElem?_map,Option.map_eq_some_iff] at hx;obtain⟨p,hp,rfl⟩:=hx;have hpF:=List.mem_of_getElem? hp;have hpn:=(hFG _ _ hpF)
    have tk:(F t).take (j+1)=(F t).take j++[p]:=by rw[List.take_succ,hp];rfl
    obtain⟨S6,m6,sg6,sm6,snd6,slt6,sS6⟩:=id s6;refine p9 ?_
    try show wpS _ _ _ _ _ _
    walk_at "w5";refine⟨be5 sg6,?_⟩;walk_at "w5";refine z9 (k:=k+4) hT.h91 (by omega) ?_;walk_at "w5";have hsz:=s6.size;refine bq4 sg6 (by omega) ?_;walk_at "w5";have hlt:=ad6 ht hpn.1;refine⟨⟨by simp;exact e6.len,fun i hi=>by rw[List.getElem?_set_ne (by omega)];exact e6.old i hi⟩,f6 h6 (by have:=e4.len;omega),f6 t6 (by omega),?_,_,rfl⟩;by_cases hin:S6 ((t |||2 ^ p:Nat):Int)=true
    ·refine⟨K',⟨_,_,get_set sg6,by rw[if_pos hin];exact sm6,snd6,slt6,fun k=>?_⟩,fun x=>?_⟩
     ·rw[Bool.or_eq_true,decide_eq_true_eq];constructor
      ·rintro(z|z)
       ·exact(sS6 k).mp z
       ·subst z;exact(sS6 _).mp hin
      ·exact fun z=>.inl ((sS6 k).mpr z)
     ·rw[hK' x,tk];simp only[List.mem_append,List.mem_singleton];constructor
      ·rintro(z|⟨q,z1,z2⟩)
       ·exact .inl z
       ·exact .inr ⟨q,.inl z1,z2⟩
      ·rintro(z|⟨q,z1|z1,z2⟩)
       ·exact .inl z
       ·exact .inr ⟨q,z1,z2⟩
       ·subst z1 z2;obtain⟨y,y1,y2⟩:=(sS6 _).mp hin;rw[<- hK',show(t |||2 ^ q)=y by omega];exact y1
    ·have hnot:(t |||2 ^ p)∉K':=fun z=>hin ((sS6 _).mpr ⟨_,z,rfl⟩);refine⟨K'++[t |||2 ^ p],⟨_,_,get_set sg6,by rw[if_neg hin];simp[sm6],?_,fun y hy=>?_,fun k=>?_⟩,fun x=>?_⟩
     ·rw[List.nodup_append];exact⟨snd6,by simp,fun x hx y hy=>by cases List.mem_singleton.mp hy;exact fun z=>hnot (z▸hx)⟩
     ·rcases List.mem_append.mp hy with z|z
      ·exact slt6 y z
      ·cases List.mem_singleton.mp z;exact hlt
     ·rw[Bool.or_eq_true,decide_eq_true_eq,sS6];simp only[List.mem_append,List.mem_singleton];constructor
      ·rintro(⟨y,y1,y2⟩|z)
       ·exact⟨y,.inl y1,y2⟩
       ·exact⟨_,.inr rfl,z⟩
      ·rintro⟨y,y1|y1,y2⟩
       ·exact .inl ⟨y,y1,y2⟩
       ·subst y1;exact .inr y2
     ·rw[List.mem_append,List.mem_singleton,hK' x,tk];simp only[List.mem_append,List.mem_singleton];constructor
      ·rintro((z|⟨q,z1,z2⟩)|z)
       ·exact .inl z
       ·exact .inr ⟨q,.inl z1,z2⟩
       ·exact .inr ⟨p,.inr rfl,z⟩
      ·rintro(z|⟨q,z1|z1,z2⟩)
       ·exact .inl (.inl z)
       ·exact .inl (.inr ⟨q,z1,z2⟩)
       ·subst z1;exact .inr z2
   ·obtain⟨e6,h6,t6,⟨K',s6,hK'⟩,z4,rfl⟩:=q;rw[d6,List.length_map,List.take_length] at hK'
    try show wpS _ _ _ _ _ _
    walk_at "w5";refine⟨e6,⟨K',s6,fun j=>(hK' j).trans ?_⟩,⟨L++[t],t6,?_,fun s=>?_,by simp;omega⟩,_,_,rfl⟩
    ·rw[hK j];constructor
     ·rintro((z|⟨s,p,h1,h2⟩)|⟨p,h1,h2⟩)
      ·exact .inl z
      ·exact .inr ⟨s,p,by omega,h2⟩
      ·exact .inr ⟨t,p,by omega,hR,h1,h2⟩
     ·rintro(z|⟨s,p,h1,h2,h3,h4⟩)
      ·exact .inl (.inl z)
      ·rcases Nat.lt_or_ge s t with y|y
       ·exact .inl (.inr ⟨s,p,y,h2,h3,h4⟩)
       ·have:s=t:=by omega
        subst this;exact .inr ⟨p,h3,h4⟩
    ·rw[List.pairwise_append];exact⟨pw,by simp,fun x hx y hy=>by cases List.mem_singleton.mp hy;exact((hL x).mp hx).1⟩
    ·rw[List.mem_append,List.mem_singleton,hL s];constructor
     ·rintro(z|z)
      ·exact⟨by omega,z.2⟩
      ·subst z;exact⟨by omega,hR⟩
     ·rintro⟨z1,z2⟩;rcases Nat.lt_or_ge s t with y|y
      ·exact .inl ⟨y,z2⟩
      ·exact .inr (by omega)
 ·obtain⟨e3,⟨K,s3,hK⟩,⟨L,t3,pw,hL,hLl⟩,z3,z4,rfl⟩:=q;rw[m9] at hL hLl
  try show wpS _ _ _ _ _ _
  walk_at "w5";exact h L tl g' e3 (by omega) t3 pw (fun s=>(hL s).trans ⟨fun z=>z.2,fun z=>⟨z.lt hFG,z⟩⟩) (by omega)
theorem aE4(hT:TB0 T)(hF:TF T)(hW:TW T)(B:Bd g b cs v rs)(hz:cs.length<=9)(hr:rs.length<=900)(h:∀w g',Ex g g'->g.length<=w->Wy g' w cs v rs->Q (.ref w) g'):c5 T (k+7) 121 [.ref b] g Q E:=by
 refine call_of hW.h121 rfl ?_;dsimp[an8,d0,List.replicate];have hFG:=V2 cs v rs;generalize hFe:s9 cs v rs=F at *;obtain⟨w0,l0,dd,nb,f1,f2,f3,f4,f5⟩:=B.ex;have p2:=a04 hz;walk_at "w5";have e1:=Ex.snoc g (O.dic []);have w1:=c7 (g:=g) (o:=O.dic []);generalize g++[O.dic []]=g1 at *;refine C6 (b0 T _) (i_v ?_);walk_at "w5";refine aj8 (k:=k) hT hF hW.h117 (B.at e1) hz hr fun L l g2 e2 hl h2 pw hL hLl=>?_;rw[hFe] at hL;have lw:=j8 w1;have pwr:L.reverse.Pairwise (· > ·):=List.pairwise_reverse.mpr pw;have ilen:(d6 L).length=L.length:=by simp[d6]
 refine⟨l,_,rfl,a7 h2,(d6 L).reverse,fun i σ g'=>Ex g g'/\g'[l]?=some (.lst (d6 L))/\(∃kvs,g'[g.length]?=some (.dic kvs)/\kvs.length<=i/\∀s∈L.reverse.take i,p6 kvs (kN s)=some (.int ((n4 cs.length F s).length:Nat)))/\∃z2,σ=[some (.ref b),some (.ref g.length),z2],fun i σ g' q=>br9 (a7 q.2.1),⟨e1.trans e2,h2,⟨[],e2.at w1,by simp,by simp⟩,none,rfl⟩,fun i x σ g' hx q=>?_,fun σ g' q=>?_⟩
 ·obtain⟨e3,h3,⟨kvs,w3,hk,hkv⟩,z2,rfl⟩:=q;rw[d6,<- List.map_reverse,List.getElem?_map,Option.map_eq_some_iff] at hx;obtain⟨s,hs,rfl⟩:=hx;have hil:i<L.length:=by have:=(List.getElem?_eq_some_iff.mp hs).1;simpa using this
  have hsR:Rch F s:=(hL s).mp (List.mem_reverse.mp (List.mem_of_getElem? hs));have hsl:=hsR.lt hFG;have tk:L.reverse.take (i+1)=L.reverse.take i++[s]:=by rw[List.take_succ,hs];rfl
  have fin:∀(N:Ends) g4 z2,Ex g' g4->(∀g5,(Ex g g5/\g5[l]?=some (.lst (d6 L))/\(∃kvs,g5[g.length]?=some (.dic kvs)/\kvs.length<=i+1/\∀s∈L.reverse.take (i+1),p6 kvs (kN s)=some (.int ((n4 cs.length F s).length:Nat)))/\∃z2,([some (.ref b),some (.ref g.length),z2]:S)=[some (.ref b),some (.ref g.length),z2])->N.nx [some (.ref b),some (.ref g.length),z2] g5)->S7 (.ref g.length) (.int (s:Nat)) (.int ((n4 cs.length F s).length:Nat)) g4 fun g5=>N.nx [some (.ref b),some (.ref g.length),z2] g5:=fun N g4 z2 e4 hN=>by
   refine a60 (e4.at w3) rfl (by omega) ?_;refine hN _ ⟨⟨by simp;exact(e3.trans e4).len,fun j hj=>by rw[List.getElem?_set_ne (by omega)];exact(e3.trans e4).old j hj⟩,f6 (e4.at h3) (by omega),⟨_,get_set (e4.at w3),Nat.le_trans aZ5 (by omega),fun s' hs'=>?_⟩,z2,rfl⟩;rw[tk] at hs';by_cases hss:s'=s
   ·subst hss;exact aZ6
   ·refine(aQ5 (bA3 (Ne.symm hss))).trans (hkv s' ?_);rcases List.mem_append.mp hs' with z|z
    ·exact z
    ·exact absurd (List.mem_singleton.mp z) hss
  refine p9 ?_
  try show wpS _ _ _ _ _ _
  walk_at "w5";refine Q2 (e3.at f1) rfl ?_;walk_at "w5";have ed:decide (((s:Nat):Int)=((2 ^ cs.length-1:Nat):Int))=decide (s=2 ^ cs.length-1):=decide_eq_decide.mpr (by omega);rw[ed];refine if2 (fun c1=>?_) (fun c1=>?_)
  ·walk_at "w5";have e1:(1:Int)=((n4 cs.length F s).length:Nat):=by rw[ar0 c1];rfl
   rw[e1];exact fin _ _ _ (Ex.refl _) fun g5 z=>⟨z.1,z.2.1,z.2.2.1,_,rfl⟩
  ·walk_at "w5";refine aV1 (b0 T _) (i_l (b0 T _) ?_);walk_at "w5";refine Q1 (k:=k+1) hT hF (B.at e3) hz hr hsl fun g4 fl e4 hfl h4=>?_;rw[hFe] at h4;refine⟨fl,_,rfl,a7 h4,d6 (F s),fun σ=>∃z2 z3,σ=[some (.int (s:Nat)),some (.ref g.length),z2,z3],fun i=>.int ((n4 cs.length F (s |||2 ^ ((F s).getD i 0))).length:Nat),fun g' e=>A1 (a7 (e.at h4)),?_,⟨none,none,rfl⟩,fun j d σ g5 hx e5 sh=>?_,fun g5 e5=>?_⟩
   ·have:(F s).length<=cs.length:=by rw[<- hFe];exact Q3
    simp[d6];omega
   ·obtain⟨z2,z3,rfl⟩:=sh;rw[d6,List.getElem?_map,Option.map_eq_some_iff] at hx;obtain⟨p,hp,rfl⟩:=hx;have hpF:=List.mem_of_getElem? hp;have hpn:=hFG _ _ hpF;refine p9 ?_
    try show wpE _ _ _ _ _ _
    walk_at "w5";refine z9 (k:=k+5) hT.h91 (by omega) ?_;have hv:p6 kvs (kN (s |||2 ^ p))=some (.int ((n4 cs.length F (s |||2 ^ p)).length:Nat)):=by
     refine hkv _ (aL1 pwr hs (List.mem_reverse.mpr ((hL _).mpr (.step hsR hpF))) (au7 hpn.2))
    refine az6 ((e4.trans e5).at w3) rfl hv ?_;exact⟨by simp[List.getD,hp],e5,_,_,rfl⟩
   ·have el:(List.range (d6 (F s)).length).map (fun i=>D.int ((n4 cs.length F (s |||2 ^ ((F s).getD i 0))).length:Nat))=(((F s).map fun p=>(n4 cs.length F (s |||2 ^ p)).length).map fun(n:Nat)=>(n:Int)).map D.int:=by
     refine List.ext_getElem? fun i=>?_;rw[List.getElem?_map,List.getElem?_map,List.getElem?_map,List.getElem?_map];by_cases hi:i<(F s).length
     ·rw[List.getElem?_range (by simpa[d6] using hi),List.getElem?_eq_getElem hi];simp[List.getD,hi]
     ·rw[List.getElem?_eq_none (by simpa[d6] using hi),List.getElem?_eq_none (by omega)]
      rfl
    rw[el];refine a55 (a7 c7) ?_;have es:(((F s).map fun p=>(n4 cs.length F (s |||2 ^ p)).length).map fun(n:Nat)=>(n:Int)).sum=((n4 cs.length F s).length:Nat):=by
     rw[a85 hFG hsl c1];generalize (F s).map (fun p=>(n4 cs.length F (s |||2 ^ p)).length)=m
     induction m with
     |nil=>rfl
     |cons x r ih=>simp[ih]
    rw[es];walk_at "w5";exact fin _ _ _ (e4.trans (e5.trans (Ex.snoc _ _))) fun g6 z=>⟨z.1,z.2.1,z.2.2.1,_,rfl⟩
 ·obtain⟨e3,h3,⟨kvs,w3,hk,hkv⟩,z2,rfl⟩:=q;rw[List.length_reverse,ilen,List.take_of_length_le (by simp)] at hkv
  try show wpS _ _ _ _ _ _
  walk_at "w5";refine h _ _ e3 (Nat.le_refl _) ⟨⟨kvs,w3,fun s hs=>?_⟩⟩;rw[hFe] at hs ⊢;exact hkv s (List.mem_reverse.mpr ((hL s).mpr hs))
end
structure TN(T:Nat->Option MDef):Prop where
 h122:T 122=some ae5
 h123:T 123=some L1
section
variable{T:Nat->Option MDef}{k d:Nat}{g g':G}{Q:KD}{E:KX}{a b c r w:Nat}{cs:List b7}{rs:List Rul}{v:Int}
theorem aD3(hT:TB T)(hF:TF T)(hW:TW T)(h126:T 126=some Y1)(ha:g[a]?=some (.lst (cs.map b7.d)))(hz:cs.length<=9)(hg:cs.all n6=true)(hB:∀c∈cs,CB c)(hv:1<=v/\v<=9)(hc:g[c]?=some (.lst (i6 rs)))(hr:rs.length<=900)(hR:rs.all (k8 cs)=true)(h:∀g',Ex g g'->Q (.int ((n4 cs.length (s9 cs v rs) 0).length:Nat)) g'):c5 T (k+11) 126 [.ref a,.int v,.ref c] g Q E:=by
 refine call_of h126 rfl ?_;dsimp[Y1,d0,List.replicate];walk_at "w5";refine aE0 (k:=k) hT ha hz hg hB hv hc hr hR fun g1 b e1 _ B=>?_;walk_at "w5";refine aE4 (k:=k+3) hT hF hW B hz hr fun w g2 e2 _ W=>?_;walk_at "w5";obtain⟨kvs,w1,w2⟩:=W.ex;exact az6 w1 rfl (w2 0 .zero) (h _ (e1.trans e2))
theorem aJ2(hT:TB0 T)(hF:TF T)(h122:T 122=some ae5)(B:Bd g b cs v rs)(W:Wy g w cs v rs)(hz:cs.length<=9)(hr:rs.length<=900){s m:Nat}(hs:Rch (s9 cs v rs) s)(hne:s≠2 ^ cs.length-1)(hm:m<(n4 cs.length (s9 cs v rs) s).length)(h:∀(p l:Nat) g',Ex g g'->p∈s9 cs v rs s->l<(n4 cs.length (s9 cs v rs) (s |||2 ^ p)).length->(n4 cs.length (s9 cs v rs) s)[m]?=((n4 cs.length (s9 cs v rs) (s |||2 ^ p))[l]?).map (p::·)->Q (.tup [.int (p:Nat),.int (l:Nat)]) g'):c5 T (k+6) 122 [.ref b,.ref w,.int (s:Nat),.int (m:Nat)] g Q E:=by
 refine call_of h122 rfl ?_;dsimp[ae5,d0,List.replicate];have hFG:=V2 cs v rs;have hsl:=hs.lt hFG;have eo:=aG1 hFG hsl hne;walk_at "w5";refine Q1 (k:=k) hT hF B hz hr hsl fun g1 ch e1 _ hch=>?_;generalize hFe:s9 cs v rs=F at *;obtain⟨kvs,w1,w2⟩:=W.ex;rw[hFe] at w2;walk_at "w5";generalize hfe:(fun p=>(n4 cs.length F (s |||2 ^ p)).map (p::·))=f at *;have flen:∀p,(f p).length=(n4 cs.length F (s |||2 ^ p)).length:=fun p=>by rw[<- hfe];simp
 rw[eo] at hm;have ne0:0<(F s).length:=by
  cases hl:F s with
  |nil=>rw[hl] at hm;simp at hm
  |cons _ _=>simp
 refine aE5 (fun mm σ g'=>Ex g1 g'/\∃j lf:Nat,σ=[some (.ref b),some (.ref w),some (.int (s:Nat)),some (.int (m:Nat)),some (.ref ch),some (.int (lf:Nat)),some (.int (j:Nat))]/\j<(F s).length/\mm=(F s).length-j/\m=(((F s).take j).flatMap f).length+lf/\lf<(((F s).drop j).flatMap f).length) _ ⟨Ex.refl _,0,m,rfl,ne0,rfl,by simp,by simpa using hm⟩ (fun mm σ g' q=>?_) (b0 T _);obtain⟨e2,j,lf,rfl,hj,rfl,hml,hlf⟩:=q;have hx:=List.getElem?_eq_getElem hj;generalize (F s)[j]=p at hx;have hpF:=List.mem_of_getElem? hx;have hpn:=hFG _ _ hpF;have hv:p6 kvs (kN (s |||2 ^ p))=some (.int ((f p).length:Nat)):=by rw[flen];exact w2 _ (.step hs hpF)
 have atj:atI (d6 (F s)) (j:Int)=some (.int (p:Nat)):=B0 (by rw[d6,List.getElem?_map,hx];rfl);have sp:=aM5 (f:=f) hx lf;have e12:=e1.trans e2;walk_at "w5";refine q8 (a7 (e2.at hch)) atj ?_;walk_at "w5";refine z9 (k:=k+4) hT.h91 (by omega) ?_;refine az6 (e12.at w1) rfl hv ?_;walk_at "w5";by_cases hc:(f p).length<=lf
 ·refine ifT (decide_eq_true (by omega)) ?_;walk_at "w5";refine aO3 rfl ?_;walk_at "w5";refine q8 (a7 (e2.at hch)) atj ?_;walk_at "w5";refine z9 (k:=k+4) hT.h91 (by omega) ?_;refine az6 (e12.at w1) rfl hv ?_;refine bs0 ?_;walk_at "w5";refine aO3 rfl ?_;walk_at "w5";refine bs6 ?_;have tk:(F s).take (j+1)=(F s).take j++[p]:=by rw[List.take_succ,hx];rfl
  rw[sp.2,List.length_append] at hlf;have hj1:j+1<(F s).length:=by
   rcases Nat.lt_or_ge (j+1) (F s).length with z|z
   ·exact z
   ·rw[List.drop_eq_nil_of_le z] at hlf;simp at hlf;omega
  refine⟨_,?_,e2,j+1,lf-(f p).length,?_,hj1,rfl,?_,by omega⟩
  ·omega
  ·have e1:((lf:Nat):Int)-((f p).length:Nat)=((lf-(f p).length:Nat):Int):=by omega
   have e2:((j:Nat):Int)+1=((j+1:Nat):Int):=by omega
   rw[e1,e2]
   rfl
  ·rw[tk,List.flatMap_append,List.length_append,List.flatMap_cons,List.flatMap_nil,List.append_nil];omega
 ·refine ifF (decide_eq_false (by omega)) ?_;walk_at "w5";refine q8 (a7 (e2.at hch)) atj ?_;walk_at "w5";refine h p lf g' e12 hpF (by rw[flen] at hc;omega) ?_;rw[eo,hml,sp.1,sp.2,List.getElem?_append_left (by omega),<- hfe];simp
theorem aC9(hT:TB0 T)(hF:TF T)(hN:TN T)(B:Bd g b cs v rs)(W:Wy g w cs v rs)(hz:cs.length<=9)(hr:rs.length<=900){m:Nat}{o:List Nat}(hm:(n4 cs.length (s9 cs v rs) 0)[m]?=some o)(h:∀l g',Ex g g'->g.length<=l->g'[l]?=some (.lst (d6 o))->Q (.ref l) g'):c5 T (k+7) 123 [.ref b,.ref w,.int (m:Nat)] g Q E:=by
 refine call_of hN.h123 rfl ?_;dsimp[L1,d0,List.replicate];have hFG:=V2 cs v rs;obtain⟨w0,l0,dd,nb,f1,f2,f3,f4,f5⟩:=B.ex;have p2:=a04 hz;walk_at "w5";have e1:=Ex.snoc g (O.lst []);have h1:=c7 (g:=g) (o:=O.lst []);generalize g++[O.lst []]=g1 at *;refine aE5 (fun mm σ g'=>Ex g g'/\∃(s lf:Nat) (p:List Nat) (z6:Option D),σ=[some (.ref b),some (.ref w),some (.int (m:Nat)),some (.ref g.length),some (.int (s:Nat)),some (.int (lf:Nat)),z6]/\mm=2 ^ cs.length-s/\Rch (s9 cs v rs) s/\lf<(n4 cs.length (s9 cs v rs) s).length/\some o=((n4 cs.length (s9 cs v rs) s)[lf]?).map (p++·)/\g'[g.length]?=some (.lst (d6 p))/\p.length<=s) _ ⟨e1,0,m,[],none,rfl,rfl,.zero,(List.getElem?_eq_some_iff.mp hm).1,by rw[hm];rfl,h1,by simp⟩ (fun mm σ g' q=>?_) (b0 T _);obtain⟨e2,s,lf,p,z6,rfl,rfl,hs,hlf,ho,hp,hpl⟩:=q;have hsl:=hs.lt hFG;walk_at "w5";refine Q2 (e2.at f1) rfl ?_;walk_at "w5";have ed:decide (((s:Nat):Int)=((2 ^ cs.length-1:Nat):Int))=decide (s=2 ^ cs.length-1):=decide_eq_decide.mpr (by omega);rw[ed];by_cases hne:s=2 ^ cs.length-1
 ·refine ifF (by rw[decide_eq_true hne];rfl) ?_;walk_at "w5";rw[ar0 hne] at hlf ho;have:lf=0:=by simp at hlf;omega
  subst this;have:o=p:=by simpa using ho
  subst this;exact h _ _ e2 (Nat.le_refl _) hp
 ·refine ifT (by rw[decide_eq_false hne];rfl) ?_;walk_at "w5";refine aJ2 (k:=k) hT hF hN.h122 (B.at e2) (W.at e2) hz hr hs hne hlf fun q l g3 e3 hq hl hoo=>?_;refine A3 rfl ?_
  try show wpS _ _ _ _ _ _
  have hqn:=hFG _ _ hq;have hp3:=e3.at hp;walk_at "w5"
  try refine⟨ab6 hp3,?_⟩
  walk_at "w5";refine R7 hp3 (by simp[d6];omega) ?_;walk_at "w5";refine z9 (k:=k+5) hT.h91 (by omega) ?_;walk_at "w5";have hgt:=au7 hqn.2;have e23:=e2.trans e3;refine⟨_,?_,⟨by simp;exact e23.len,fun i hi=>by rw[List.getElem?_set_ne (by omega)];exact e23.old i hi⟩,s |||2 ^ q,l,p++[q],_,rfl,rfl,.step hs hq,hl,?_,?_,by simp;omega⟩
  ·omega
  ·rw[ho,hoo];simp[Option.map_map,Function.comp_def]
  ·rw[get_set hp3];simp[d6]
theorem L3(hT:TB0 T)(hF:TF T)(hW:TW T)(hN:TN T)(h124:T 124=some M1)(B:Bd g b cs v rs)(hz:cs.length<=9)(hr:rs.length<=900)(h1:n4 cs.length (s9 cs v rs) 0=[]->∀g',Ex g g'->Q .non g')(h2:∀o l g',(n4 cs.length (s9 cs v rs) 0)[0]?=some o->Ex g g'->g.length<=l->g'[l]?=some (.lst (d6 o))->Q (.ref l) g'):c5 T (k+8) 124 [.ref b] g Q E:=by
 refine call_of h124 rfl ?_;dsimp[M1,d0,List.replicate];walk_at "w5";refine aE4 (k:=k) hT hF hW B hz hr fun w g1 e1 hw W=>?_;walk_at "w5";obtain⟨kvs,w1,w2⟩:=W.ex;refine az6 w1 rfl (w2 0 .zero) ?_;walk_at "w5";cases ho:n4 cs.length (s9 cs v rs) 0 with
 |nil =>
  refine ifT (by simp) ?_;walk_at "w5";exact h1 ho _ e1
 |cons o r =>
  refine ifF (by simp;omega) ?_;walk_at "w5";exact aC9 (k:=k) hT hF hN (m:=0) (B.at e1) W hz hr (by rw[ho];rfl) fun l g2 e2 hl h=>h2 o l g2 (by rw[ho];rfl) (e1.trans e2) (Nat.le_trans e1.len hl) h
end
section
variable{T:Nat->Option MDef}{k d:Nat}{g g':G}{Q:KD}{E:KX}{a b c r w:Nat}{cs:List b7}{rs:List Rul}{v:Int}
end
noncomputable def u5(r:Rul):Rul:=⟨r.w,r.y,r.x⟩
theorem aP3{cs:List b7}{r:Rul}(h:k8 cs r=true):k8 cs (u5 r)=true:=by
 unfold k8 at h ⊢;simp only[Bool.and_eq_true,Bool.not_eq_true',decide_eq_false_iff_not] at h ⊢;exact⟨fun z=>h.1 z.symm,h.2.2,h.2.1⟩
noncomputable def many(cs:List b7)(v:Int)(rs:List Rul):Nat:=(n4 cs.length (s9 cs v rs) 0).length
noncomputable def ac2:MDef:=⟨3,3,(.seq (.ifs (.not_ (.tst (.call 74 (yı kı0 kı1 kı2)))) (.seq (.raise "NoDie" (hø (kđ "no coin is of that die"))) .pass) .pass) .pass)⟩
noncomputable def M0:MDef:=⟨1,2,(.seq (.set 1 (.call 117 (hø kı0))) (.seq (.ifs (jı .Eq (jø kı1 (jđ (.un .USub) (kø 1))) (jđ (.fld "full") kı0)) (.seq (.ret (.lit .non)) .pass) .pass) (.seq (.ret kı1) .pass)))⟩
noncomputable def T4:MDef:=⟨3,3,(.seq (.ifs (jı .Eq kı1 (kđ "coin")) (.seq (.expr (.call 83 (hđ kı0 kı2))) .pass) (.seq (.expr (.call 75 (yı kı0 kı1 kı2))) .pass)) .pass)⟩
noncomputable def Y6:MDef:=⟨4,4,(.seq (.ifs (jı .NotIn kı1 (.lit (.tup [(.str "coin"),(.str "lower"),(.str "upper")]))) (.seq (.raise "BadSide" (hø (kđ "asked about are coins, lower dies or upper dies"))) .pass) .pass) (.seq (.expr (.call 136 (yı kı0 kı1 kı2))) (.seq (.expr (.call 136 (yı kı0 kı1 kı3))) (.seq (.ifs (jı .Eq kı2 kı3) (.seq (.raise "SameOne" (hø (kđ "two unlike ones are asked about"))) .pass) .pass) .pass))))⟩
noncomputable def ab7:MDef:=⟨6,10,(.seq (.expr (.call 98 (yı kı0 kı1 kı2))) (.seq (.expr (.call 137 (yø kı0 kı3 kı4 kı5))) (.seq (.set 6 (.make "Bounds" 113 (yı kı0 kı1 (hı (.bin .Add) kı2 (jđ .lst (.prim .tup (yı kı3 kı4 kı5))))))) (.seq (.set 7 (.make "Bounds" 113 (yı kı0 kı1 (hı (.bin .Add) kı2 (jđ .lst (.prim .tup (yı kı3 kı5 kı4))))))) (.seq (.set 8 (.call 124 (hø kı6))) (.seq (.set 9 (.call 124 (hø kı7))) (.seq (.ifs (.and_ (jı .Is kı8 (.lit .non)) (jı .Is kı9 (.lit .non))) (.seq (.raise "NoOrder" (hø (kđ "there is no order"))) .pass) .pass) (.seq (.ifs (jı .Is kı9 (.lit .non)) (.seq (.ret (hı .tup (kđ "first") (.call 129 (hø kı7)))) .pass) .pass) (.seq (.ifs (jı .Is kı8 (.lit .non)) (.seq (.ret (hı .tup (kđ "later") (.call 129 (hø kı6)))) .pass) .pass) (.seq (.ret (.prim .tup (yı (kđ "either") kı8 kı9))) .pass))))))))))⟩
noncomputable def an9:MDef:=⟨6,6,(.seq (.ret (jø (.call 138 (gı kı0 kı1 kı2 kı3 kı4 kı5)) (kø 0))) .pass)⟩
structure TFi(T:Nat->Option MDef):Prop where
 h75:T 75=some ac2
 h83:T 83=some M3
 h124:T 124=some M1
 h129:T 129=some M0
 h136:T 136=some T4
 h137:T 137=some Y6
 h138:T 138=some ab7
 h139:T 139=some an9
section
variable{T:Nat->Option MDef}{k d:Nat}{g g':G}{Q:KD}{E:KX}{a b c r:Nat}{cs:List b7}{rs:List Rul}{v:Int}
theorem ag9{K:G->Prop}(hT:TB0 T)(ha:g[a]?=some (.lst (cs.map b7.d)))(hz:cs.length<=9)(hg:cs.all n6=true)(hB:∀c∈cs,CB c)(hc:g[c]?=some (.lst (i6 rs)))(hr:rs.length<=900)(h:∀g',Ex g g'->Bd g' g.length cs v rs->K g'):c5 T (k+9) 113 [.ref g.length,.ref a,.int v,.ref c] (g++[.ins "Bounds" []]) (fun d g2=>d=.non/\K g2) E:=by
 have x1:=Ex.snoc g (O.ins "Bounds" []);refine W3 (k:=k) hT (x1.at ha) hz hg hB (x1.at hc) hr c7 fun g2 l2 o2 B2=>?_;refine⟨rfl,h g2 ⟨by simp at l2;omega,fun i hi=>?_⟩ B2⟩;rw[o2 i (by simp;omega) (by omega),x1.old i hi]
noncomputable def N6(cs:List b7)(w:RW)(x:Int):Bool:=!(plc cs w x).isEmpty
theorem aI9{cs:List b7}{x:Int}(h:N6 cs .coin x=true):0<=x/\x<cs.length:=by
 unfold N6 at h;cases e:plc cs .coin x with
 |nil=>rw[e] at h;cases h
 |cons p _ =>
  have hp:p∈plc cs .coin x:=by rw[e];simp
  obtain⟨h1,h2⟩:=List.mem_filter.mp hp;have:=List.mem_range.mp h1;have:=of_decide_eq_true h2;omega
theorem V6(hT:TB0 T)(hF:TFi T){w:RW}{x:Int}(ha:g[a]?=some (.lst (cs.map b7.d)))(hz:cs.length<=9)(ht:N6 cs w x=true)(h:∀g',Ex g g'->Q .non g'):c5 T (k+5) 136 [.ref a,.str w.s,.int x] g Q E:=by
 refine call_of hF.h136 rfl ?_;dsimp[T4,d0,List.replicate];walk_at "w5";have die:w≠.coin->c5 T (k+4) 75 [.ref a,.str w.s,.int x] g (fun _ g1=>Q .non g1) E:=fun hw=>by
  refine call_of hF.h75 rfl ?_;dsimp[ac2,d0,List.replicate];walk_at "w5";refine I9 (k:=k) hT.nf hT.h19 hT.h74 ha (by omega) fun g1 b e1 _ hb=>?_;walk_at "w5";refine bv6 (a7 hb) ?_;have:(d6 (plc cs w x)).isEmpty=(plc cs w x).isEmpty:=by unfold d6;cases plc cs w x<;>rfl
  rw[this];have ht':(plc cs w x).isEmpty=false:=by unfold N6 at ht;simpa using ht
  rw[ht'];walk_at "w5";exact h _ e1
 cases w with
 |coin =>
  refine ifT (by decide +kernel) ?_;walk_at "w5";have:=aI9 ht;exact ap3 (k:=k+1) hT.nf hF.h83 ha (fun _ _=>h _ (Ex.refl _)) (fun z=>absurd ⟨this.1,by rw[List.length_map];exact this.2⟩ z)
 |lower =>
  refine ifF (by decide +kernel) ?_;walk_at "w5";exact die (fun z=>by cases z)
 |upper =>
  refine ifF (by decide +kernel) ?_;walk_at "w5";exact die (fun z=>by cases z)
theorem at8(hT:TB0 T)(hF:TFi T){w:RW}{x y:Int}(ha:g[a]?=some (.lst (cs.map b7.d)))(hz:cs.length<=9)(hx:N6 cs w x=true)(hy:N6 cs w y=true)(hn:x≠y)(h:∀g',Ex g g'->Q .non g'):c5 T (k+6) 137 [.ref a,.str w.s,.int x,.int y] g Q E:=by
 refine call_of hF.h137 rfl ?_;dsimp[Y6,d0,List.replicate];walk_at "w5";refine av4 (in_words ?_);walk_at "w5";refine V6 (k:=k) hT hF ha hz hx fun g1 e1=>?_;walk_at "w5";refine V6 (k:=k) hT hF (e1.at ha) hz hy fun g2 e2=>?_;walk_at "w5";refine ifF (decide_eq_false hn) ?_;walk_at "w5";exact h _ (e1.trans e2)
theorem an3(hT:TB0 T)(hF:TF T)(hW:T 117=some A8)(h129:T 129=some M0)(B:Bd g b cs v rs)(hz:cs.length<=9)(hr:rs.length<=900)(h:∀(L:List Nat) l g',Ex g g'->g.length<=l->g'[l]?=some (.lst (d6 L))->L.Pairwise (· < ·)->(∀s,s∈L↔Rch (s9 cs v rs) s)->L.length<=512->(Rch (s9 cs v rs) (2 ^ cs.length-1)->Q .non g')/\(¬Rch (s9 cs v rs) (2 ^ cs.length-1)->Q (.ref l) g')):c5 T (k+7) 129 [.ref b] g Q E:=by
 refine call_of h129 rfl ?_;dsimp[M0,d0,List.replicate];obtain⟨w0,l0,dd,nb,f1,f2,f3,f4,f5⟩:=B.ex;walk_at "w5";refine aj8 (k:=k) hT hF hW B hz hr fun L l g1 e1 hl h1 pw hL hLl=>?_;obtain⟨hq1,hq2⟩:=h L l g1 e1 hl h1 pw hL hLl;have h0:0∈L:=(hL 0).mpr .zero;have hpos:=List.length_pos_of_mem h0;have hlast:=List.getElem?_eq_getElem (show L.length-1<L.length by omega);generalize hz':L[L.length-1]=z at hlast;have atl:atI (d6 L) (-1)=some (.int (z:Nat)):=by
  unfold atI ixN;have il:(d6 L).length=L.length:=by simp[d6]
  rw[if_neg (by decide),il,if_pos (by omega)];show(d6 L)[(-1+(L.length:Int)).toNat]?=_;rw[show(-1+(L.length:Int)).toNat=L.length-1 by omega,d6,List.getElem?_map,hlast]
  rfl
 have hzm:z∈L:=List.mem_of_getElem? hlast;have hmax:∀x∈L,x<=z:=fun x hx=>by
  obtain⟨i,hi,rfl⟩:=List.mem_iff_getElem.mp hx;rcases Nat.lt_or_ge i (L.length-1) with y|y
  ·have:=List.pairwise_iff_getElem.mp pw i (L.length-1) hi (by omega) y;omega
  ·have:i=L.length-1:=by omega
   subst this;omega
 have hzl:=((hL z).mp hzm).lt (V2 cs v rs);walk_at "w5";refine q8 (a7 h1) atl ?_;walk_at "w5";refine Q2 (e1.at f1) rfl ?_;walk_at "w5";have ed:decide (((z:Nat):Int)=((2 ^ cs.length-1:Nat):Int))=decide (z=2 ^ cs.length-1):=decide_eq_decide.mpr (by omega);rw[ed];refine if2 (fun c1=>?_) (fun c1=>?_)
 ·walk_at "w5";exact hq1 (c1▸(hL z).mp hzm)
 ·walk_at "w5";refine hq2 fun hR=>c1 ?_;have:=hmax _ ((hL _).mpr hR);omega
theorem aD4{r:Rul}(h:k8 cs r=true):N6 cs r.w r.x=true/\N6 cs r.w r.y=true/\r.x≠r.y:=by
 unfold k8 at h;simp only[Bool.and_eq_true,Bool.not_eq_true',decide_eq_false_iff_not] at h;unfold N6;rw[h.2.1,h.2.2];exact⟨rfl,rfl,h.1⟩
noncomputable def L7(m1 m2:Nat):Str:=if m2=0 then "first" else if m1=0 then "later" else "either"
theorem a90(hT:TB T)(hF:TF T)(hW:TW T)(hN:TN T)(hI:TFi T){r:Rul}(ha:g[a]?=some (.lst (cs.map b7.d)))(hz:cs.length<=9)(hg:cs.all n6=true)(hB:∀c∈cs,CB c)(hv:1<=v/\v<=9)(hc:g[c]?=some (.lst (i6 rs)))(hr:rs.length<=800)(hR:rs.all (k8 cs)=true)(hgr:k8 cs r=true)(h1:many cs v (rs++[r])=0->many cs v (rs++[u5 r])=0->∀g',Ex g g'->E ⟨"NoOrder"⟩ g')(h2:¬(many cs v (rs++[r])=0/\many cs v (rs++[u5 r])=0)->∀g',Ex g g'->Q (.str (L7 (many cs v (rs++[r])) (many cs v (rs++[u5 r])))) g'):c5 T (k+13) 139 [.ref a,.int v,.ref c,.str r.w.s,.int r.x,.int r.y] g Q E:=by
 refine call_of hI.h139 rfl ?_;dsimp[an9,d0,List.replicate];walk_at "w5";refine call_of hI.h138 rfl ?_;dsimp[ab7,d0,List.replicate];walk_at "w5";refine V8 (k:=k+4) hT ha (by omega) hc (by omega) (fun z=>by omega) (fun _ z=>by rw[hg] at z;cases z) (fun _ _ z=>absurd hv z) (fun _ _ _ z=>by rw[hR] at z;cases z) fun _ _ _ _ g1 e1=>?_;walk_at "w5";obtain⟨tx,ty,nxy⟩:=aD4 hgr;refine at8 (k:=k+5) hT.toTB0 hI (e1.at ha) hz tx ty nxy fun g2 e2=>?_;have e12:=e1.trans e2;walk_at "w5";have s3:=Ex.snoc g2 (O.lst (i6 [r]));have hcat:∀r:Rul,i6 rs++i6 [r]=i6 (rs++[r]):=fun r=>by simp[i6]
 refine am4 ((Ex.snoc _ _).at (e12.at hc)) c7 (by simp[i6];omega) ?_;rw[show[D.tup [D.str r.w.s,D.int r.x,D.int r.y]]=i6 [r] from rfl,hcat];walk_at "w5";have e4:=(Ex.snoc g2 (O.lst (i6 [r]))).trans (Ex.snoc _ (O.lst (i6 (rs++[r]))));have c4:=c7 (g:=g2++[O.lst (i6 [r])]) (o:=O.lst (i6 (rs++[r])));generalize (g2++[O.lst (i6 [r])])++[O.lst (i6 (rs++[r]))]=g4 at *;have e14:=e12.trans e4;refine ag9 (k:=k+2) hT.toTB0 (e14.at ha) hz hg hB c4 (by simp;omega) fun g5 e5 B5=>?_;have e15:=e14.trans e5;generalize g4.length=b1 at *;walk_at "w5";refine am4 ((Ex.snoc _ _).at (e15.at hc)) c7 (by simp[i6];omega) ?_;rw[show[D.tup [D.str r.w.s,D.int r.y,D.int r.x]]=i6 [u5 r] from rfl,hcat];walk_at "w5";have e6:=(Ex.snoc g5 (O.lst (i6 [u5 r]))).trans (Ex.snoc _ (O.lst (i6 (rs++[u5 r]))));have c6:=c7 (g:=g5++[O.lst (i6 [u5 r])]) (o:=O.lst (i6 (rs++[u5 r])));generalize (g5++[O.lst (i6 [u5 r])])++[O.lst (i6 (rs++[u5 r]))]=g6 at *;have e16:=e15.trans e6;refine ag9 (k:=k+2) hT.toTB0 (e16.at ha) hz hg hB c6 (by simp;omega) fun g7 e7 B7=>?_;have e17:=e16.trans e7;have B57:=B5.at (e6.trans e7);generalize g6.length=b2 at *;walk_at "w5";have lr1:(rs++[r]).length<=900:=by simp;omega
 have lr2:(rs++[u5 r]).length<=900:=by simp;omega
 have mz:∀{rs:List Rul},n4 cs.length (s9 cs v rs) 0=[]↔many cs v rs=0:=fun{rs}=>by unfold many;exact List.length_eq_zero_iff.symm
 have nz:∀{rs:List Rul} {o:List Nat},(n4 cs.length (s9 cs v rs) 0)[0]?=some o->many cs v rs≠0:=fun{rs o} h z=>by rw[mz.mpr z] at h;cases h
 generalize hm1:many cs v (rs++[r])=m1 at *;generalize hm2:many cs v (rs++[u5 r])=m2 at *;have rest:∀(N:Ends) (E:KX) (x y:D) g8,Ex g7 g8->((m1=0/\x=.non)\/(m1≠0/\∃i,x=.ref i))->((m2=0/\y=.non)\/(m2≠0/\∃i,y=.ref i))->(m1=0->m2=0->∀g',Ex g g'->E ⟨"NoOrder"⟩ g')->(¬(m1=0/\m2=0)->∀g' l,Ex g g'->l≠[]->l.head?=some (.str (L7 m1 m2))->N.rt (.tup l) g')->wpS (c5 T (k+11)) (match ab7.body with|.seq _ (.seq _ (.seq _ (.seq _ (.seq _ (.seq _ b)))))=>b|x=>x) N [some (.ref a),some (.int v),some (.ref c),some (.str r.w.s),some (.int r.x),some (.int r.y),some (.ref b1),some (.ref b2),some x,some y] g8 E:=by
  intro N E x y g8 e8 hx hy h1 h2;have e18:=e17.trans e8;dsimp[ab7];have paper:∀{b rs'} {Q:KD} {E:KX} {g8:G},Ex g g8->Bd g8 b cs v rs'->rs'.length<=900->(∀g' x,Ex g g'->Q x g')->c5 T (k+11) 129 [.ref b] g8 Q E:=fun e8 B hl hN =>
   an3 (k:=k+4) hT.toTB0 hF hW.h117 hI.h129 B hz hl fun L l g9 e9 _ _ _ _ _=>⟨fun _=>hN _ _ (e8.trans e9),fun _=>hN _ _ (e8.trans e9)⟩
  rcases hx with⟨z1,rfl⟩|⟨z1,i1,rfl⟩
  ·rcases hy with⟨z2,rfl⟩|⟨z2,i2,rfl⟩
   ·walk_at "w5";exact h1 z1 z2 _ e18
   ·walk_at "w5";refine paper e18 (B57.at e8) lr1 fun g' x e'=>?_;walk_at "w5";exact h2 (fun z=>z2 z.2) _ _ e' (by simp) (by unfold L7;rw[if_neg z2,if_pos z1];rfl)
  ·rcases hy with⟨z2,rfl⟩|⟨z2,i2,rfl⟩
   ·walk_at "w5";refine paper e18 (B7.at e8) lr2 fun g' x e'=>?_;walk_at "w5";exact h2 (fun z=>z1 z.1) _ _ e' (by simp) (by unfold L7;rw[if_pos z2];rfl)
   ·walk_at "w5";exact h2 (fun z=>z1 z.1) _ _ e18 (by simp) (by unfold L7;rw[if_neg z2,if_neg z1];rfl)
 have fin:¬(m1=0/\m2=0)->∀g' (l:List D),Ex g g'->l≠[]->l.head?=some (.str (L7 m1 m2))->wpE (c5 T (k+12)) (.lit (.int 0)) [some (.ref a),some (.int v),some (.ref c),some (.str r.w.s),some (.int r.x),some (.int r.y)] g' (fun y g2=>prP .ix [.tup l,y] g2 Q) E:=fun hne g' l e' hl hh=>by
  walk_at "w5";refine E1 (d:=.str (L7 m1 m2)) (B0 (j:=0) (by cases l with|nil=>exact absurd rfl hl|cons x _=>simpa using hh)) ?_;exact h2 hne _ e'
 refine L3 (k:=k+3) hT.toTB0 hF hW hN hI.h124 B57 hz lr1 (fun ho g8 e8=>?_) (fun o i g8 ho e8 _ _=>?_)
 ·have z1:m1=0:=hm1▸mz.mp ho;walk_at "w5";refine L3 (k:=k+3) hT.toTB0 hF hW hN hI.h124 (B7.at e8) hz lr2 (fun ho2 g9 e9=>?_) (fun o2 i2 g9 ho2 e9 _ _=>?_)
  ·exact rest _ _ _ _ g9 (e8.trans e9) (.inl ⟨z1,rfl⟩) (.inl ⟨hm2▸mz.mp ho2,rfl⟩) h1 fin
  ·exact rest _ _ _ _ g9 (e8.trans e9) (.inl ⟨z1,rfl⟩) (.inr ⟨hm2▸nz ho2,_,rfl⟩) h1 fin
 ·have z1:m1≠0:=hm1▸nz ho;walk_at "w5";refine L3 (k:=k+3) hT.toTB0 hF hW hN hI.h124 (B7.at e8) hz lr2 (fun ho2 g9 e9=>?_) (fun o2 i2 g9 ho2 e9 _ _=>?_)
  ·exact rest _ _ _ _ g9 (e8.trans e9) (.inr ⟨z1,_,rfl⟩) (.inl ⟨hm2▸mz.mp ho2,rfl⟩) h1 fin
  ·exact rest _ _ _ _ g9 (e8.trans e9) (.inr ⟨z1,_,rfl⟩) (.inr ⟨hm2▸nz ho2,_,rfl⟩) h1 fin
end
noncomputable def az1:MDef:=⟨6,6,(.seq (.W8 (.seq (.ret (.call 139 (gı kı0 kı1 kı2 kı3 kı4 kı5))) .pass) [("NoOrder",(.lit (.str "")))]) .pass)⟩
noncomputable def a22:MDef:=⟨1,13,(.seq (.set 1 (.call 3 (hø kı0))) (.seq (.unp (.many [2,3,4]) (.call 110 (hđ kı1 (kø 8)))) (.seq (.set 5 (.call 105 (hđ kı1 kı2))) (.seq (.ifs (jı .Is kı5 (.lit .non)) (.seq (.ret (.lit (.bl true))) .pass) .pass) (.seq (.unp (.many [6,7,8]) kı5) (.seq (.set 9 (.call 126 (yı kı2 kı3 (hı (.bin .Add) kı4 (jđ .lst kı5))))) (.seq (.set 10 (.call 126 (yı kı2 kı3 (hı (.bin .Add) kı4 (jđ .lst (.prim .tup (yı kı6 kı8 kı7))))))) (.seq (.set 11 (jø (.prim .lst (yø (kđ "") (kđ "first") (kđ "later") (kđ "either"))) (hı (.bin .Add) (jđ .int (hı (.cmp .Gt) kı9 (kø 0))) (hı (.bin .Mult) (kø 2) (jđ .int (hı (.cmp .Gt) kı10 (kø 0))))))) (.seq (.set 12 (jø (.prim .lst (yø (kđ "") (kđ "later") (kđ "first") (kđ "either"))) (hı (.bin .Add) (jđ .int (hı (.cmp .Gt) kı9 (kø 0))) (hı (.bin .Mult) (kø 2) (jđ .int (hı (.cmp .Gt) kı10 (kø 0))))))) (.seq (.ifs (.not_ (.tst (.call 7 (hđ (.call 30 (gı kı2 kı3 kı4 kı6 kı7 kı8)) kı11)))) (.seq (.ret (.lit (.bl false))) .pass) .pass) (.seq (.ret (.call 7 (hđ (.call 30 (gı kı2 kı3 kı4 kı6 kı8 kı7)) kı12))) .pass)))))))))))⟩
structure T29(T:Nat->Option MDef):Prop where
 tb:TB T
 tbr:TBR T
 tf:TF T
 tw:TW T
 tn:TN T
 ti:TFi T
 h3:T 3=some au9
 h6:T 6=some ay9
 h7:T 7=some B4
 h11:T 11=some a22
 h30:T 30=some az1
 h110:T 110=some ak6
 h126:T 126=some Y1
noncomputable def ai7(m1 m2:Nat):Str:=if m1=0/\m2=0 then "" else L7 m1 m2
section
variable{T:Nat->Option MDef}{k d:Nat}{g g':G}{Q:KD}{E:KX}{a b c:Nat}{cs:List b7}{rs:List Rul}{v:Int}
theorem am5(hT:T29 T){r:Rul}(ha:g[a]?=some (.lst (cs.map b7.d)))(hz:cs.length<=9)(hg:cs.all n6=true)(hB:∀c∈cs,CB c)(hv:1<=v/\v<=9)(hc:g[c]?=some (.lst (i6 rs)))(hr:rs.length<=800)(hR:rs.all (k8 cs)=true)(hgr:k8 cs r=true)(h:∀g',Ex g g'->Q (.str (ai7 (many cs v (rs++[r])) (many cs v (rs++[u5 r])))) g'):c5 T (k+14) 30 [.ref a,.int v,.ref c,.str r.w.s,.int r.x,.int r.y] g Q E:=by
 refine call_of hT.h30 rfl ?_;dsimp[az1,d0,List.replicate];walk_at "w5";refine a90 (k:=k) hT.tb hT.tf hT.tw hT.tn hT.ti ha hz hg hB hv hc hr hR hgr (fun z1 z2 g1 e1=>?_) (fun hn g1 e1=>?_)
 ·refine bB6 rfl ?_;walk_at "w5";have:=h _ e1;rw[ai7,if_pos ⟨z1,z2⟩] at this;exact this
 ·have:=h _ e1;rw[ai7,if_neg hn] at this;exact this
theorem aU7{m1 m2:Nat}{x y z w:D}:atI [x,y,z,w] ((if decide ((0:Int)<(m1:Nat)) then 1 else 0)+2*(if decide ((0:Int)<(m2:Nat)) then 1 else 0))=some (if m1=0 then(if m2=0 then x else z) else(if m2=0 then y else w)):=by
 by_cases h1:m1=0
 ·by_cases h2:m2=0
  ·subst h1 h2;rfl
  ·rw[if_pos h1,if_neg h2,if_neg (by simp;omega),if_pos (by simp;omega)]
   rfl
 ·by_cases h2:m2=0
  ·rw[if_neg h1,if_pos h2,if_pos (by simp;omega),if_neg (by simp;omega)]
   rfl
  ·rw[if_neg h1,if_neg h2,if_pos (by simp;omega),if_pos (by simp;omega)]
   rfl
theorem bt1{m1 m2:Nat}:(if m1=0 then(if m2=0 then D.str "" else D.str "later") else(if m2=0 then D.str "first" else D.str "either"))=.str (ai7 m1 m2):=by
 unfold ai7 L7;by_cases h1:m1=0<;>by_cases h2:m2=0<;>simp[h1,h2]
theorem bf9{m1 m2:Nat}:(if m1=0 then(if m2=0 then D.str "" else D.str "first") else(if m2=0 then D.str "later" else D.str "either"))=.str (ai7 m2 m1):=by
 unfold ai7 L7;by_cases h1:m1=0<;>by_cases h2:m2=0<;>simp[h1,h2]
theorem a25(hT:T29 T){ns:List Int}:c5 T (k+15) 11 [.ref 0] [.fro (ns.map .int)] (fun d _=>d=.bl true) NoX:=by
 refine call_of hT.h11 rfl ?_;dsimp[a22,d0,List.replicate];walk_at "w5";refine bd5 (k:=k+13) hT.h3 (a:=0) (ns:=ns) rfl fun d g D1 _ _=>?_;walk_at "w5";have dl:=D1.lt;refine aZ3 (k:=k+9) hT.tbr hT.h110 ⟨by decide,by decide⟩ D1 fun cs rs a c v g2 hl hG ha hal hr hR hc hcl hac v1 v2 D2 G2=>?_;refine A3 rfl ?_
 try show wpS _ _ _ _ _ _
 have hz:cs.length<=9:=by omega
 have hB:∀c∈cs,CB c:=fun c hc=>⟨(hG c hc).l8,(hG c hc).u8⟩
 have hg:cs.all n6=true:=List.all_eq_true.mpr fun c hc=>(hG c hc).good;have many_ok:∀{g':G} {c':Nat} {rs':List Rul} {Q:KD} {E:KX},g'[a]?=some (.lst (cs.map b7.d))->g'[c']?=some (.lst (i6 rs'))->rs'.length<=900->rs'.all (k8 cs)=true->(∀g'',Ex g' g''->Q (.int (many cs v rs':Nat)) g'')->c5 T (k+14) 126 [.ref a,.int v,.ref c'] g' Q E:=fun h1 h2 h3 h4 h5 =>
  aD3 (k:=k+3) hT.tb hT.tf hT.tw hT.h126 h1 hz hg hB ⟨v1,by omega⟩ h2 h3 h4 h5
 walk_at "w5";refine aF1 (k:=k+12) hT.tbr ha hz (by omega) D2 fun g4 D4 G4=>?_;have a4:=G4.at (by omega) ha;have c4:=G4.at (by omega) hc;have cat:∀{rs1 rs2:List Rul},i6 rs1++i6 rs2=i6 (rs1++rs2):=fun{rs1 rs2}=>by simp[i6]
 constructor
 ·walk_at "w5"
  rfl
 ·intro r hgr;have hgs:=aP3 hgr;walk_at "w5";refine ifF rfl ?_;walk_at "w5";refine A3 (l:=[.str r.w.s,.int r.x,.int r.y]) rfl ?_
  try show wpS _ _ _ _ _ _
  walk_at "w5";refine am4 ((Ex.snoc _ _).at c4) c7 (by simp[i6];omega) ?_;rw[show[r.d]=i6 [r] from rfl,cat];walk_at "w5";have e5:=(Ex.snoc g4 (O.lst (i6 [r]))).trans (Ex.snoc _ (O.lst (i6 (rs++[r]))));refine many_ok (e5.at a4) c7 (by simp;omega) (by rw[List.all_append,hR];simp[hgr]) fun g6 e6=>?_;have e46:=e5.trans e6;have a6:=e46.at a4;have c6:=e46.at c4;clear e5 e6;walk_at "w5";refine am4 ((Ex.snoc _ _).at c6) c7 (by simp[i6];omega) ?_;rw[show[D.tup [D.str r.w.s,D.int r.y,D.int r.x]]=i6 [u5 r] from rfl,cat];walk_at "w5";have e7:=(Ex.snoc g6 (O.lst (i6 [u5 r]))).trans (Ex.snoc _ (O.lst (i6 (rs++[u5 r]))));refine many_ok (e7.at a6) c7 (by simp;omega) (by rw[List.all_append,hR];simp[hgs]) fun g8 e8=>?_;have e68:=e7.trans e8;have a8:=e68.at a6;have c8:=e68.at c6;clear e7 e8;generalize hm1:many cs v (rs++[r])=m1 at *;generalize hm2:many cs v (rs++[u5 r])=m2 at *;walk_at "w5";refine K6 (ac9 (by decide) (by decide)) ?_;walk_at "w5";refine q8 (a7 c7) aU7 ?_;rw[bt1];walk_at "w5";refine K6 (ac9 (by decide) (by decide)) ?_;walk_at "w5";refine q8 (a7 c7) aU7 ?_;rw[bf9];walk_at "w5";have e9:=(Ex.snoc g8 (O.lst [D.str "",D.str "first",D.str "later",D.str "either"])).trans (Ex.snoc _ (O.lst [D.str "",D.str "later",D.str "first",D.str "either"]));generalize (g8++[O.lst [D.str "",D.str "first",D.str "later",D.str "either"]])++[O.lst [D.str "",D.str "later",D.str "first",D.str "either"]]=g9 at *;have a9:=e9.at a8;have c9:=e9.at c8;refine am5 (k:=k) hT a9 hz hg hB ⟨v1,by omega⟩ c9 (by omega) hR hgr fun g10 e10=>?_;rw[hm1,hm2];walk_at "w5";refine ar5 hT.h6 hT.h7 0 (k:=k+12) (.str _) fun g11 e11=>?_;walk_at "w5";have e911:=e10.trans e11;refine am5 (k:=k) hT (r:=u5 r) (e911.at a9) hz hg hB ⟨v1,by omega⟩ (e911.at c9) (by omega) hR hgs fun g12 e12=>?_;rw[show u5 (u5 r)=r from rfl,hm1,hm2];walk_at "w5";refine ar5 hT.h6 hT.h7 0 (k:=k+12) (.str _) fun g13 e13=>?_
  rfl
end
end M

namespace Lk
open PySem L2 M
noncomputable def top(i:Nat):Stmt:=PySem.Challenge.pw_trussel_k29_whole_firsts_by_counts.main.body.getD i (.Pass ⟨0,0,0,0⟩)
noncomputable def bg1:Stmt->List Stmt
 |.ClassDef (body:=b) ..=>b
 |_=>[]
noncomputable def bq0(i j:Nat):Stmt:=(bg1 (top i)).getD j (.Pass ⟨0,0,0,0⟩)
noncomputable def F:List RF:=[⟨38,"is_number",["thing"],1,13,ab9⟩,⟨1,"number_from",["number","least","most"],3,14,T3⟩,⟨2,"good_marks",["marks","least","spot"],1,15,E9⟩,⟨15,"within",["one","other"],2,16,ae4⟩,⟨12,"good_coin",["coin","lower","lower_marks","upper","upper_marks","year","good_lower","good_upper"],1,23,A6⟩,⟨39,"check_coin",["coin"],1,24,Y7⟩,⟨18,"check_coins",["coins","coin"],1,25,T6⟩,⟨83,"check_place",["coins","place"],2,26,M3⟩,⟨40,"check_side",["side"],1,27,O2⟩,⟨19,"die_field",["side"],1,28,ac1⟩,⟨74,"places_of",["coins","word","thing","field"],3,29,R9⟩,⟨75,"check_die",["coins","side","die"],3,30,ac2⟩,⟨20,"dies_of",["coins","side","field"],2,31,ao0⟩,⟨42,"check_anvils",["anvils"],1,36,K1⟩,⟨88,"good_rule",["coins","rule","word","one","other"],2,37,ac0⟩,⟨89,"check_rules",["coins","rules","at","rule"],2,38,T5⟩,⟨90,"stand_of",["places"],1,39,X9⟩,⟨91,"with_coin",["stand","place"],2,40,R8⟩,⟨92,"more_worn",["one","other","side","field"],2,41,ab8⟩,⟨93,"later",["one","other"],2,42,az0⟩,⟨94,"worn_stands",["coins"],1,43,T2⟩,⟨95,"later_stands",["coins"],1,44,P8⟩,⟨96,"die_stands",["coins"],1,45,Y5⟩,⟨97,"needed_stands",["coins","rules","needed","word","one","other","first","place"],2,46,M9⟩,⟨98,"check_asked",["coins","anvils","rules"],3,48,T7⟩,⟨99,"bounds_of",["coins","anvils","rules"],3,49,ac3⟩,⟨100,"dies_in_use",["bounds","stand","place","struck","left"],3,50,Y4⟩,⟨101,"next_fault",["bounds","stand","place"],3,51,Y0⟩,⟨115,"follows",["bounds","stand","place"],3,53,Y2⟩,⟨116,"followers",["bounds","stand"],2,54,Y3⟩,⟨117,"reached_stands",["bounds","led_to","told","stand","place"],1,55,A8⟩,⟨121,"ways_on",["bounds","ways","stand"],1,57,an8⟩,⟨122,"step_on",["bounds","ways","stand","number","choices","left","at"],4,58,ae5⟩,⟨123,"numbered_order",["bounds","ways","number","order","stand","left","place"],3,59,L1⟩,⟨124,"first_order",["bounds","ways"],1,60,M1⟩,⟨126,"how_many",["coins","anvils","rules"],3,61,Y1⟩,⟨129,"shown_paper",["bounds","stands"],1,63,M0⟩,⟨136,"check_thing",["coins","word","thing"],3,65,T4⟩,⟨137,"check_pair",["coins","word","one","other"],4,66,Y6⟩,⟨138,"why_of",["coins","anvils","rules","word","one","other","one_ahead","other_ahead","one_order","other_order"],6,67,ab7⟩,⟨139,"told_of",["coins","anvils","rules","word","one","other"],6,68,an9⟩,⟨3,"_law_open",["_law_script"],1,70,au9⟩,⟨4,"_law_pull",["_law_draw","_law_total_of","_law_cell","_law_got","_law_seed"],2,71,C7⟩,⟨6,"_law_num",["_law_found"],1,72,ay9⟩,⟨7,"_law_like",["_law_found","_law_due"],2,73,B4⟩,⟨21,"_law_order_of",["_law_draw","_law_numbers","_law_left","_law_found","_law_step"],2,74,P7⟩,⟨22,"_law_any_coin",["_law_draw","_law_menu","_law_lower","_law_upper","_law_year"],1,75,Y8⟩,⟨23,"_law_seated",["_law_draw","_law_seats","_law_fresh","_law_anvils"],4,76,E8⟩,⟨24,"_law_struck",["_law_draw","_law_size","_law_anvils","_law_seats","_law_fresh","_law_worn","_law_year","_law_step","_law_wear","_law_shift","_law_found","_law_k","_law_keys","_law_key","_law_spot","_law_named","_law_told_year"],3,77,E7⟩,⟨25,"_law_opened",["_law_draw","_law_size","_law_dies","_law_row","_law_held","_law_found","_law_k","_law_year"],2,78,ae7⟩,⟨26,"_law_list",["_law_draw","_law_most","_law_size","_law_anvils","_law_way","_law_found","_law_at","_law_coin","_law_other"],2,79,O1⟩,⟨105,"_law_rule",["_law_draw","_law_coins","_law_word","_law_some","_law_at"],2,80,ae6⟩,⟨106,"_law_rules",["_law_draw","_law_coins","_law_found","_law_k","_law_rule_here"],2,81,ay8⟩,⟨110,"_law_ready",["_law_draw","_law_most","_law_coins","_law_anvils"],2,82,ak6⟩,⟨30,"_law_asked",["_law_coins","_law_anvils","_law_rules_here","_law_word","_law_one","_law_other"],6,83,az1⟩,⟨11,"law",["_law_script","_law_draw","_law_coins","_law_anvils","_law_rules_here","_law_rule_here","_law_word","_law_one","_law_other","_law_ahead","_law_behind","_law_due","_law_turned_due"],1,84,a22⟩]
noncomputable def Ms:List RM:=[⟨113,"Bounds","__init__","Bounds.__init__",["self","coins","anvils","rules"],4,47,0,T8⟩]
noncomputable def con:List (Str×D):=[("LAST_SPOT",.int 7),("MOST_COINS",.int 9),("LAST_DIE",.int 99),("LAST_YEAR",.int 9999),("SIDES",.tup [(.str "lower"),(.str "upper")]),("MOST_ANVILS",.int 9),("RULE_WORDS",.tup [(.str "coin"),(.str "lower"),(.str "upper")]),("YEAR_FIELD",.int 4)]
noncomputable def gd:List (Str×List D):=[("DIE_FIELDS",[.tup [.str "lower",.int 0],.tup [.str "upper",.int 2]])]
noncomputable def exc:List Str:=["BadAnvils","BadCoin","BadRule","BadSide","NoDie","NoOrder","NoPlace","SameOne","TooMany"]
noncomputable def c0:f9:=⟨[],[],true,F.map fun r=>(r.nm,r.id),con,["len","enumerate","list","tuple","isinstance","all","range","int","bool","str","max","min","sorted","set","sum","reversed"],exc,gd,[("Bounds",113)],Ms.map fun r=>(r.nm,r.cl,r.id),[("size","Bounds"),("full","Bounds"),("room","Bounds"),("worn_by_place","Bounds"),("later_by_place","Bounds"),("lower_dies","Bounds"),("needed_by_place","Bounds")],true,true⟩
noncomputable abbrev T:Nat->Option MDef:=an2 F Ms
theorem tx:TabTx c0 F Ms top bq0:=by
 refine⟨rfl,rfl,by decide +kernel,by decide +kernel,by decide +kernel,by decide +kernel,?_,?_,?_,?_⟩
 all_goals
  repeat first
   |exact BF.nil
   |exact BM.nil
   |exact YF.nil
   |exact YM.nil
   |refine YF.cons (by kernel_rfl) ?_
   |refine YM.cons (by kernel_rfl) ?_
   |refine BF.cons (fun _ _ _ _ _ _ us hl=>(by rcases us with _|⟨_,_|⟨_,_|⟨_,_|⟨_,_|⟨_,_|⟨_,_|⟨_,_⟩⟩⟩⟩⟩⟩⟩<;>first|(simp at hl;done)|(exfalso;simp at hl;omega)|rfl)) ?_
   |refine BM.cons (fun _ _ _ _ _ _ us hl=>(by rcases us with _|⟨_,_|⟨_,_|⟨_,_|⟨_,_|⟨_,_|⟨_,_|⟨_,_⟩⟩⟩⟩⟩⟩⟩<;>first|(simp at hl;done)|(exfalso;simp at hl;omega)|rfl)) ?_
inductive aq3:List DictEntry->List (Str×V)->Prop
 |nil:aq3 [] []
 |cons {h:Int} {x:Str} {t:Tok} {u:Value} {v:V} {es:List DictEntry} {vs:List (Str×V)} (r:RelV v u) (q:aq3 es vs):aq3 (⟨h,.str x t,u⟩::es) ((x,v)::vs)
theorem aq3.find{es vs}(x:Str)(h:aq3 es vs):E5 (vs.lookup x) (findBy Value.isStrOf es.toArray x):=by
 induction h with
 |nil=>trivial
 |cons r q ih =>
  rename_i h y t u v es vs;unfold findBy at ih ⊢;rw[List.find?_toArray] at ih ⊢;rw[List.find?_cons,List.lookup_cons];by_cases e:x=y
  ·rw[show(x==y)=true from by simp[e],show Value.isStrOf x (.str y t)=true from by simp[Value.isStrOf,e]];exact r
  ·rw[show(x==y)=false from by simpa using e,show Value.isStrOf x (.str y t)=false from by simp[Value.isStrOf];exact fun z=>e (z.symm)];exact ih
theorem all_mk{l:PySem.W.OpenLaw}{w:World}{K:PySem.W.Frag}{h:Heap}{mg:Str->Option Value}{fa:Addr}{ca4 ca6 ga0:Addr}{t0 t1 t2 t3 ct4_0 ct4_1 t5 ct6_0 ct6_1 ct6_2 t7 gt0_0 gt0_1 gt0_2 gt0_3:Tok}{csl4:Array (Option Value)}{cnn4:Nat}{csl6:Array (Option Value)}{cnn6:Nat}{gn0:Nat}{gh0_0 gh0_1:Int}(X:K.In h)(G:h.Ns mainGlobals mg)(hfa:mg "law"=some (.ref fa))(I:TabIn K c0 F Ms top bq0)(e0:PySem.W.nsIn K mainGlobals "LAST_SPOT"=some (some (Value.int 7 t0)))(e1:PySem.W.nsIn K mainGlobals "MOST_COINS"=some (some (Value.int 9 t1)))(e2:PySem.W.nsIn K mainGlobals "LAST_DIE"=some (some (Value.int 99 t2)))(e3:PySem.W.nsIn K mainGlobals "LAST_YEAR"=some (some (Value.int 9999 t3)))(e4:PySem.W.nsIn K mainGlobals "SIDES"=some (some (.ref ca4)))(ce4:K.lookup ca4=some ⟨.type "tuple",none,.seq #[Value.str "lower" ct4_0,Value.str "upper" ct4_1] cnn4,csl4⟩)(e5:PySem.W.nsIn K mainGlobals "MOST_ANVILS"=some (some (Value.int 9 t5)))(e6:PySem.W.nsIn K mainGlobals "RULE_WORDS"=some (some (.ref ca6)))(ce6:K.lookup ca6=some ⟨.type "tuple",none,.seq #[Value.str "coin" ct6_0,Value.str "lower" ct6_1,Value.str "upper" ct6_2] cnn6,csl6⟩)(e7:PySem.W.nsIn K mainGlobals "YEAR_FIELD"=some (some (Value.int 4 t7)))(g0:PySem.W.nsIn K mainGlobals "DIE_FIELDS"=some (some (.ref ga0)))(ge0:K.lookup ga0=some ⟨.type "dict",none,.dict #[⟨gh0_0,Value.str "lower" gt0_0,Value.int 0 gt0_1⟩,⟨gh0_1,Value.str "upper" gt0_2,Value.int 2 gt0_3⟩] gn0,#[]⟩)(qgh0_0:gh0_0=PyData.keyHash w.params "lower")(qgh0_1:gh0_1=PyData.keyHash w.params "upper")(gs0:(ga0==sysModules)=false)
  : ∃fd:FuncData,(∀(s:Shared) (v:Value),BindsTo s fd ⟨[v],[]⟩ [("_law_script",v)])/\∀base:Heap,K.In base->base.Ns mainGlobals mg->FnOk l.prog w K mg base (CXE l.prog w) 80 fa fd ["_law_script"] (spD exc K 1 (c5 T 40 11)):=by
 have A:TabOk w K mg c0 T:=by
  refine bi0 I tx X G (fun x d hx=>?_) (fun x kvs hx=>?_)
  ·have hm:=PySem.mem_of_lookup hx;simp only[c0,con,List.mem_cons,List.mem_nil_iff,or_false] at hm;rcases hm with z|z|z|z|z|z|z|z
   ·cases z;exact⟨(.int 7),_,PySem.W.mg_of X G e0,⟨_,rfl⟩,fun _ _=>.int _⟩
   ·cases z;exact⟨(.int 9),_,PySem.W.mg_of X G e1,⟨_,rfl⟩,fun _ _=>.int _⟩
   ·cases z;exact⟨(.int 99),_,PySem.W.mg_of X G e2,⟨_,rfl⟩,fun _ _=>.int _⟩
   ·cases z;exact⟨(.int 9999),_,PySem.W.mg_of X G e3,⟨_,rfl⟩,fun _ _=>.int _⟩
   ·cases z;exact⟨.ref ca4,_,PySem.W.mg_of X G e4,rfl,fun _ _=>.tup (vs:=[.str "lower",.str "upper"]) (.inr ⟨_,_,_,ce4,rfl,rfl,rfl,(by show 2<=sizeLine;decide),.cons ⟨_,rfl⟩ (.cons ⟨_,rfl⟩ (.nil))⟩) (.cons (.str _) (.cons (.str _) (.nil)))⟩
   ·cases z;exact⟨(.int 9),_,PySem.W.mg_of X G e5,⟨_,rfl⟩,fun _ _=>.int _⟩
   ·cases z;exact⟨.ref ca6,_,PySem.W.mg_of X G e6,rfl,fun _ _=>.tup (vs:=[.str "coin",.str "lower",.str "upper"]) (.inr ⟨_,_,_,ce6,rfl,rfl,rfl,(by show 3<=sizeLine;decide),.cons ⟨_,rfl⟩ (.cons ⟨_,rfl⟩ (.cons ⟨_,rfl⟩ (.nil)))⟩) (.cons (.str _) (.cons (.str _) (.cons (.str _) (.nil))))⟩
   ·cases z;exact⟨(.int 4),_,PySem.W.mg_of X G e7,⟨_,rfl⟩,fun _ _=>.int _⟩
  ·have hm:=PySem.mem_of_lookup hx;simp only[c0,gd,List.mem_cons,List.mem_nil_iff,or_false] at hm;have z:=hm
   ·cases z;have er:aq3 [⟨gh0_0,Value.str "lower" gt0_0,Value.int 0 gt0_1⟩,⟨gh0_1,Value.str "upper" gt0_2,Value.int 2 gt0_3⟩] [("lower",.int 0),("upper",.int 2)]:=.cons (v:=.int 0) ⟨_,rfl⟩ (.cons (v:=.int 2) ⟨_,rfl⟩ (.nil));exact⟨ga0,_,PySem.W.mg_of X G g0,⟨_,_,ge0,⟨⟨_,_,rfl,qgh0_0⟩,⟨⟨_,_,rfl,qgh0_1⟩,True.intro⟩⟩,gs0,fun x=>er.find x⟩,.cons (fun _ _=>.int _) (.cons (fun _ _=>.int _) (.nil))⟩
 obtain⟨f,fd,O,a,t⟩:=aF3 I tx _ (List.mem_of_getElem? (i:=55) rfl);cases hfa.symm.trans (PySem.W.mg_of X G a);obtain⟨oc,od,kV,doc,pm,an,cdv,ct,osl,rfl,lk,hcd⟩:=O.fn.ex;exact⟨_,fun s v=>.of_eq rfl,fun base kin gns=>bu2 kin gns A 40 11 _ _ fa _ rfl O⟩
theorem walk{l:PySem.W.OpenLaw}{q:Program}{loose:List Str}{XP:(Str->Option Value)->Heap->Prop}{YP:World->Heap->Prop}{d:DefRec}{K:Params->PySem.W.Frag}(hn:l.most=some 63)(hdf:d.params.defaults=[])(hY:∀(w:World) (h:Heap),YP w h->(K w.params).In h)(F:∀ (w:World) (mg:Str->Option Value) (fa:Addr) (h:Heap),(K w.params).In h->h.Ns mainGlobals mg->mg d.name=some (.ref fa) ->
   ∃ fd:FuncData,(∀ (s:Shared) (u:Value),BindsTo s fd ⟨[u],[]⟩ [("_law_script",u)])/\∀ base:Heap,(K w.params).In base->base.Ns mainGlobals mg->FnOk l.prog w (K w.params) mg base (CXE l.prog w) 80 fa fd ["_law_script"] (spD exc (K w.params) 1 (c5 T 40 11))) :
  PySem.W.WalkO q loose XP YP l.row.toRowW d [] (fun f vs=>PySem.call f vs) :=
 L2.a86 (n:=63) (k:=80) (x:="_law_script") (CX:=fun w=>CXE l.prog w) (sp:=fun w=>spD exc (K w.params) 1 (c5 T 40 11)) hn (by decide) hdf ⟨rfl,by decide,by decide⟩ hY F (fun w H a ns hl hO hS=>br0 hO hS (a25 (k:=25) ⟨⟨⟨⟨rfl,rfl⟩,rfl,rfl,⟨rfl,rfl⟩,⟨rfl,rfl⟩,rfl,rfl,rfl,rfl,rfl,rfl,rfl,rfl,rfl,rfl,rfl,rfl,rfl,rfl,rfl,rfl⟩,rfl,rfl,rfl⟩,⟨⟨rfl,rfl,rfl,rfl,rfl,rfl,rfl⟩,rfl,rfl⟩,⟨rfl,rfl⟩,⟨rfl,rfl⟩,⟨rfl,rfl⟩,⟨rfl,rfl,rfl,rfl,rfl,rfl,rfl,rfl⟩,rfl,rfl,rfl,rfl,rfl,rfl,rfl⟩)) fun _ _ _ _ _ ⟨_,_,_,_,_,_,_,z⟩=>z
end Lk
open PySem PySem.W PyProof.Rows
set_option maxRecDepth 100000 in
set_option maxHeartbeats 0 in
theorem PySem.Challenge.cw_trussel_k29_whole_firsts_by_counts_holds : PySem.Challenge.rw_trussel_k29_whole_firsts_by_counts.Holds := by
 w_on;o_law;k_head;(case hw=>w_witness2)
 k_fill
 refine Lk.walk (l:=PySem.Challenge.rw_trussel_k29_whole_firsts_by_counts) rfl rfl (fun w h Y=>PySem.W.kIn_of Y) ?F
 case F =>
  intro w mg fa h KX G hmg
  refine' Lk.all_mk KX G hmg ⟨?zz1,?zz2,?zz3,?zz4,?zz5,?zz6,?zz7⟩ ?_ ?_ ?_ ?_ ?_ ?_ ?_ ?_ ?_ ?_ ?_ ?_ ?_ ?_ ?_
  (case zz1=>repeat' first | (with_reducible show _=_;k_is) | exact M.PF.nil | apply M.PF.cons)
  (case zz2=>repeat' first | (with_reducible show _=_;k_is) | exact M.PM.nil | apply M.PM.cons)
  (case zz3=>repeat' first | (with_reducible show _=_;k_is) | exact M.PC.nil | apply M.PC.cons)
  (case zz4=>repeat' first | (with_reducible show _=_;k_is) | exact M.PA.nil | apply M.PA.cons)
  (case zz5=>repeat' first | (with_reducible show _=_;k_is) | exact M.PB.nil | apply M.PB.cons)
  (case zz6=>repeat' first | (with_reducible show _=_;first | (with_reducible show PySem.W.excIn _ _ _ _=true;k_exc) | k_is) | exact M.PX.nil | apply M.PX.cons)
  (case zz7=>kernel_rfl)
  all_goals try (with_reducible show _=_;k_is)
  all_goals try ((with_reducible show _=_);rfl)
#print axioms PySem.Challenge.cw_trussel_k29_whole_firsts_by_counts_holds
