import PyProof.Rows.All
import Wide.All
import OpenK.AllK
import Wide.FinOn
import Lean
import PyProof.EqAt
import PyProof.EqKinds
import PyProof.TupleCall
import PySem.Challenge.RW_trussel_k33_dies_fixed_and_laid_off
set_option Elab.async false
set_option linter.all false
set_option maxRecDepth 100000
set_option maxHeartbeats 4000000
namespace PySem.W.Fast
def tw236567183194867365:=()
def tw12326567597867601626:=()
def tw1549928324790517858:=()
def tw630100709484102962:=()
def tw2251160816553341408:=()
def tw5056267586226576418:=()
def tw16280724945687291075:=()
def tw297696792782509845:=()
def tw11409246658824937131:=()
def tw8197007180474972022:=()
def tw7912794112784063570:=()
def tw12099572175797193853:=()
def tw15622148630033855923:=()
def tw10569715649908472291:=()
def tw1414405775001857526:=()
def tw13299306333156591340:=()
def tw17818615959550854519:=()
def tw4244655437677463997:=()
def tw4939284085222052080:=()
def tw1756383713787289870:=()
def tw4867845429656277170:=()
def tw16812583675588117921:=()
def tw10085382702698588678:=()
def tw17516689236611288732:=()
def tw3079918610015505701:=()
def tw14225518535770775462:=()
def tw13562046385282402438:=()
def tw12714488876180750796:=()
def tw14519629058858457598:=()
def tw9591881279286722834:=()
def tw5526275595775105135:=()
def tw7185066619528698170:=()
def tw15200283483851899011:=()
def tw18082558329917333011:=()
def tw7302473536490701339:=()
def tw2115634022134402341:=()
def tw4834528160432861789:=()
def tw6508257077572656404:=()
def tw7201131617524536554:=()
def tw526316697961744588:=()
def tw1264910801229863313:=()
def tw16095828863153287706:=()
def tw16307203388612319111:=()
def tw7129719222015769324:=()
def tw6992338978164282785:=()
def tw13553012402314128148:=()
def tw17510882066859018003:=()
def tw1729616293634882965:=()
def tw7179638210516421794:=()
def tw16870086922890527220:=()
def tw2502232181382714718:=()
def tw7735176414952333994:=()
def tw7981017740002887811:=()
def tw7649357300856528873:=()
def tw6357107794764017425:=()
def tw14639932277473753988:=()
def tw4289978255484343338:=()
def tw2139888105878650899:=()
def tw13892476567535117523:=()
def tw14718449205272439553:=()
def tw16639667231406537746:=()
def tw10677165929541666175:=()
def tw1678600254832534643:=()
def tw3850016124269703648:=()
def tw210722023770020556:=()
def tw2937206104106828641:=()
def tw330744606343876177:=()
def tw7981065747281974183:=()
def tw13090471993495991207:=()
def tw8140650233925601845:=()
def tw18380201104533346047:=()
def tw8373137186699786316:=()
def tw6770484684346417990:=()
def tw5550933509298360564:=()
def tw14471944461600551026:=()
def tw17954138024767990450:=()
def tw11842769298705019848:=()
def tw13835338440107361720:=()
def tw8004679768149814447:=()
def tw11472270355656123254:=()
def tw10636473306224992307:=()
def tw10480048830988217950:=()
def tw13990980658571018968:=()
def tw4331253169252599601:=()
def tw10997838602459950044:=()
def tw17418643156403695394:=()
def tw260506698160459267:=()
def tw15537457060699044797:=()
def tw9890465577518988420:=()
def tw9597702314411994528:=()
def tw10529434290847500705:=()
def tw18389262051187690836:=()
def tw458639085336873999:=()
def tw12273476788279596347:=()
def tw18155345939442380798:=()
def tw18152744478386137355:=()
def tw18130425644074381302:=()
def tw1221664451546195434:=()
def tw11566809242840671031:=()
def tw9821004575634589874:=()
def tw8178292133525533221:=()
def tw11582619626338564766:=()
def tw7751043871545460173:=()
def tw10620452152074550859:=()
def tw16110003244865697518:=()
def tw10467209545268616790:=()
def tw14652251717562788772:=()
def tw5617707849596932204:=()
def tw10467623689381063857:=()
def tw10773656021952811814:=()
def tw3085197931814046147:=()
def tw4095529553862481359:=()
def tw5155406101618662330:=()
def tw18135037108201038883:=()
def tw5220810025405061836:=()
def tw14783059667106857797:=()
def tw3245599120791425495:=()
def tw3645673369701292240:=()
def tw15871305497457247739:=()
def tw12299035163711102643:=()
def tw17308988670354856729:=()
def tw13427595933289852638:=()
def tw5203285036725024446:=()
def tw5779121908227251331:=()
def tw3468059976355232971:=()
def tw12480822485153245635:=()
def tw9651315838016688963:=()
def tw1849957322959058058:=()
def tw4484856472926645019:=()
def tw1318475547366093414:=()
def tw16901174946358384800:=()
def tw13893017261580403291:=()
def tw7699308785865661583:=()
def tw829665509618616778:=()
def tw12981347035547254143:=()
def tw13755079517573701228:=()
def tw14092932723141218083:=()
def tw4700623199062124890:=()
def tw15674030028776096621:=()
def tw13947668414729159632:=()
def tw10153269881389493737:=()
def tw13805937632859538524:=()
def tw4746452051120995669:=()
def tw3461526421754395519:=()
def tw3623946201073221324:=()
def tw3527645762721913534:=()
def tw213212896770223299:=()
def tw17103009763748077674:=()
def tw4114664706296217102:=()
def tw12891513980009262720:=()
def tw9951327127320897351:=()
def tw6154419904148456517:=()
def tw14586083943810568713:=()
def tw11309157735981591057:=()
def tw2027364359774467650:=()
def tw3724327637405065045:=()
def tw13424360667725411313:=()
def tw11881123703178736174:=()
def tw17481244075912816536:=()
def tw12150114267400659923:=()
def tw2877315567528343172:=()
def tw677746686204104688:=()
def tw15181418140657535463:=()
def tw6450421703172900238:=()
def tw4538860552728803164:=()
def tw6481826704901008181:=()
def tw14713690686939818276:=()
def tw2084116825076662473:=()
def tw2560064048178687333:=()
def tw1699192847486902768:=()
def tw1006371837155908623:=()
def tw18395609533246305942:=()
def tw2943004128725566734:=()
def tw11160666232576760934:=()
def tw138058805763412968:=()
def tw7523229358366793224:=()
def tw18229060900750011346:=()
def tw10015155538391690467:=()
def tw16817343740287253994:=()
def tw4167246060628939948:=()
def tw2313266028863112297:=()
def tw12575036664614011430:=()
def tw6079432767490282441:=()
def tw12584549544459403546:=()
def tw5510429170919021589:=()
def tw6602217639019824046:=()
def tw329072486304347215:=()
def tw8317792917441350551:=()
def tw13035706957604477065:=()
def tw10266774158175936953:=()
def tw5018856918366831216:=()
def tw10890384085875452252:=()
def tw15464730647632958203:=()
def tw4690577783717950911:=()
def tw6688664635100923681:=()
def tw15087420313884243843:=()
def tw3092366640293358687:=()
def tw16080432174141731723:=()
def tw13926533373447069722:=()
def tw9425436050666348135:=()
def tw12246082334745696117:=()
def tw2039308979925443864:=()
def tw9036064034121947323:=()
def tw18145059415831382646:=()
def tw10220617874476728923:=()
def tw11395126457597631498:=()
def tw279925598231068593:=()
def tw1192255613479105492:=()
def tw5496428388878439973:=()
def tw17069471236156950011:=()
def tw9308895850761625652:=()
def tw13726341715314698278:=()
def tw13110727750402523269:=()
def tw9416970469548572254:=()
def tw11155955688011781150:=()
def tw7038354096316693630:=()
def tw6461951250288084694:=()
def tw12343876323455985842:=()
def tw12157723388652556727:=()
def tw13404132953511549060:=()
def tw10930414570380142972:=()
def tw1824769807745506155:=()
def tw1811295912619458087:=()
def tw16555056032399588637:=()
def tw8441902821002757430:=()
def tw12568873611884304990:=()
def tw2337430137170614961:=()
def tw7379234005665385213:=()
def tw12646029624313031450:=()
def tw551878958495419010:=()
def tw12271964812436173389:=()
def tw16179361172233289969:=()
def tw16725911211872704881:=()
def tw10218108999620305401:=()
def tw2500985148039634728:=()
def tw3545886291037047899:=()
def tw4948124068046625849:=()
def tw1410719712495106331:=()
def tw16864386273136482855:=()
def tw9866650521547656637:=()
def tw1688536269653574568:=()
def tw38988294802516375:=()
def tw17493937441608379330:=()
def tw5540819547665850129:=()
def tw2353040320785145198:=()
def tw9038405724707124348:=()
def tw17982091428279355348:=()
def tw4325667420843615282:=()
def tw311648854184952400:=()
def tw14447109864195008455:=()
def tw17870315347057519508:=()
def tw17442832624690709392:=()
def tw8490460828905840821:=()
def tw4965130859192842549:=()
def tw8906453743273780825:=()
def tw7432399182216657521:=()
def tw741817674865292040:=()
def tw5549781168258677391:=()
def tw2540335648544929154:=()
def tw16436793702477059481:=()
def tw18090084590961244239:=()
def tw17050819648693640538:=()
def tw1864848753406235225:=()
def tw17677997668991562002:=()
def tw13872889399226188899:=()
def tw7029085111565905552:=()
def tw5435266597999312045:=()
def tw1706693521648764762:=()
def tw9158641457633476132:=()
def tw6002274051024467432:=()
def tw13255845357037010958:=()
def tw613518722997072899:=()
def tw3073018039029816128:=()
def tw11277169707297749267:=()
def tw3097836177329404698:=()
def tw13620175470744309248:=()
def tw10401397874601581725:=()
def tw3531583705384441955:=()
def tw4118209660817952458:=()
def tw9022164752125634325:=()
def tw693762288466644804:=()
def tw15807988517751791672:=()
def tw3908709570995333421:=()
def tw8966620153072354094:=()
def tw7997234953704918981:=()
def tw16359261837263446096:=()
def tw2217837847507731336:=()
def tw9919693065301451186:=()
def tw8880407580545993515:=()
def tw3444755053073981877:=()
def tw10092176287963392129:=()
def tw14424673494276907563:=()
def tw12674877840311535540:=()
def tw801189755984101525:=()
def tw15683114780558076963:=()
def tw18077197643557346077:=()
def tw8739488765174800712:=()
def tw5477289587415440434:=()
def tw14208352459772551752:=()
def tw1893488880411847243:=()
def tw14477730387005152492:=()
def tw471527973502518887:=()
def tw8733369451901172911:=()
def tw2061968856218066684:=()
def tw14139316617641416889:=()
def tw6447728870543463539:=()
def tw3340011232781931326:=()
def tw10321865894452775272:=()
def tw18280614802824119416:=()
def tw14672148477748879994:=()
def tw5304484771297642837:=()
def tw14284142511690390991:=()
def tw1214216507254089:=()
def tw5677928572026495755:=()
def tw3471690923995777907:=()
def tw7427900683754808892:=()
def tw15918368151707602863:=()
def tw10509505041897074533:=()
def tw1002997998711931523:=()
def tw16199732642588994875:=()
def tw5235576681933067100:=()
def tw3317163512158945712:=()
def tw12369039462266220193:=()
def tw7810484788286530924:=()
def tw10663749544215727828:=()
def tw6938491149555473893:=()
def tw7754408823856146603:=()
def tw7387888203180675085:=()
def tw3993308850406288578:=()
def tw18053767727159256610:=()
def tw434050885366767584:=()
def tw2967008445731476513:=()
def tw2281518393205417116:=()
def tw9494466670193908950:=()
def tw13034939338371713301:=()
def tw4504715698103378830:=()
def tw12729433856456233737:=()
def tw14409735607118631337:=()
def tw16370305836779690112:=()
def tw16638651866228403336:=()
def tw8311895926081693603:=()
def tw12778097018489710701:=()
def tw3835894740157935290:=()
def tw14496483542615943473:=()
def tw18432405976375258439:=()
def tw14678192346033202333:=()
def tw8177272563633355410:=()
def tw2643874608425344042:=()
def tw8387741638198405658:=()
def tw4105296379526891379:=()
def tw17429062669782676799:=()
def tw17523645521203799861:=()
def tw6351138003005211534:=()
def tw3280540808529586796:=()
def tw3935636599622332047:=()
def tw6041096134928104010:=()
def tw4568349233568309620:=()
def tw11421484274725756573:=()
def tw13242489381897861532:=()
def tw6730238666570151266:=()
def tw5391186083688945162:=()
def tw9390066187025645264:=()
def tw12847844634309278863:=()
def tw7977700477875975229:=()
def tw17944953438319774898:=()
def tw7773302779778629482:=()
def tw8971333539695338095:=()
def tw17652659889566331278:=()
def tw16370564907849278243:=()
def tw5810607211116137507:=()
def tw6138311077035183351:=()
def tw15046930188811185960:=()
def tw8239826339346101098:=()
def tw15058208203034108928:=()
def tw13709143107867882619:=()
def tw89558974203133654:=()
def tw10880274183983065763:=()
def tw14770267819725840433:=()
def tw12300467925809810291:=()
def tw10762552972984934489:=()
def tw422309776664561556:=()
def tw3890475954018208128:=()
def tw10398739383881021405:=()
def tw15399149727281643141:=()
def tw1183848025583760016:=()
def tw13388297542667135788:=()
def tw2450748375114950946:=()
def tw10781162547131658359:=()
def tw239243554926362701:=()
def tw15902258055206038:=()
def tw4859290237051226224:=()
def tw17469467273034230054:=()
def tw2642772888066486962:=()
def tw3417850147581920071:=()
def tw15635458721695705290:=()
def tw12567257042853456493:=()
def tw7707018884900624082:=()
def tw10387892392647097741:=()
def tw15679025034575558726:=()
def tw6037379777276253304:=()
def tw14348297950922302370:=()
def tw4580512759092078270:=()
def tw3681778801756394865:=()
def tw10313271872474036942:=()
def tw15817522650033083920:=()
def tw14351457352690650046:=()
def tw17063510111292362498:=()
def tw11979669122694081187:=()
def tw13707035230165788266:=()
def tw13662325548443222988:=()
def tw13473636366460596493:=()
def tw6685228394368518100:=()
def tw2383317825285667738:=()
def tw11863218359669146727:=()
def tw2618521837712481917:=()
def tw8736163545204907345:=()
def tw8275212455653525883:=()
def tw10991082774083377848:=()
def tw3673198968819932185:=()
def tw10419269299599156017:=()
def tw11468412726336578967:=()
def tw15530386819469560725:=()
def tw5280071376756729893:=()
def tw6513942517652342912:=()
def tw4049113082596301468:=()
def tw6470139889763805684:=()
def tw4996930882964104849:=()
def tw7009261006029752558:=()
def tw2966570039487144189:=()
def tw14342810713532077717:=()
def tw4713625585815290418:=()
def tw16225829986645555898:=()
def tw5353883996999969952:=()
def tw13219690909026347579:=()
def tw4225700757897040481:=()
def tw12770075574418927818:=()
def tw5418594432272431149:=()
def tw14380064682002137665:=()
def tw5464565910127728382:=()
def tw5009490861179522005:=()
def tw15428471047153337613:=()
def tw3553125229671759062:=()
def tw3087757886554416176:=()
def tw17357072158515282155:=()
def tw8213685463004520063:=()
def tw3594045232813630075:=()
def tw13338602401243412579:=()
def tw8346155777423890402:=()
def tw14719743674752435802:=()
def tw8725026713646605943:=()
def tw3115962143967768623:=()
def tw10977966690025384092:=()
def tw2013799751584308824:=()
def tw7327655012734212426:=()
def tw12916747350260286073:=()
def tw18270880759591685667:=()
def tw3937698422526867669:=()
def tw16368705929998145745:=()
def tw6279980549492628143:=()
def tw15141773178545002736:=()
def tw3212831597044920920:=()
def tw12145493568373394221:=()
def tw16288528619106898902:=()
def tw16998234824869085210:=()
def tw11285275454628862849:=()
def tw15417295333879253434:=()
def tw1030046141048216531:=()
def tw8957570158199649151:=()
def tw1730378149893462748:=()
def tw16054471622485010475:=()
def tw4162287557244916828:=()
def tw16204480754946022826:=()
def tw12137356908529286010:=()
def tw13831312055269990764:=()
def tw4761846124194245205:=()
def tw5942860590841409755:=()
def tw11154795366647515791:=()
def tw6438558810758540152:=()
def tw1687467237911203817:=()
def tw7527474830436781647:=()
def tw6114752804564338414:=()
def tw14119720359498996617:=()
def tw1504259514373165458:=()
def tw3748696227322869726:=()
def tw14782306173953020287:=()
def tw677433617790371686:=()
def tw12533210086077746852:=()
def tw18414749446847466385:=()
def tw12112520005495354363:=()
def tw15075505711532230003:=()
def tw1133417781135881750:=()
def tw1109065890299865080:=()
def tw17308774178618061195:=()
def tw8698900972674699521:=()
def tw12942763457224469306:=()
def tw7677590395635105899:=()
def tw11102308839672168376:=()
def tw2470193751373959476:=()
end PySem.W.Fast
namespace L2
open PySem PySem.Spec PyProof.Rows
noncomputable abbrev Key := Sum Int Str
noncomputable def keyIs : Key -> Value -> Bool
 | .inl k, v => Value.isInt k v
 | .inr x, v => Value.isStrOf x v
noncomputable def keyH (w : World) : Key -> Int
 | .inl k => hashInt k
 | .inr x => hashStr w x
theorem keyIs_shape : ∀ {k : Key} {v : Value}, keyIs k v = true -> (∃ i t, k = Sum.inl i /\ v = Value.int i t) \/ (∃ x t, k = Sum.inr x /\ v = Value.str x t)
 | .inl i, v, h => by
  obtain ⟨t, e⟩ := Value.isInt_shape (k := i) (v := v) h
  exact .inl ⟨i, t, rfl, e⟩
 | .inr x, v, h => by
  obtain ⟨t, e⟩ := Value.isStrOf_shape (x := x) (v := v) h
  exact .inr ⟨x, t, rfl, e⟩
theorem keyIs_int (i : Int) (t : Tok) : keyIs (.inl i) (.int i t) = true := by simp [keyIs, Value.isInt]
theorem keyIs_str (x : Str) (t : Tok) : keyIs (.inr x) (.str x t) = true := by simp [keyIs, Value.isStrOf]
theorem key_ll (a b : Int) : decide ((Sum.inl a : Key) = Sum.inl b) = (a == b) := by
 by_cases e : a = b
 ·subst e; simp
 ·have h : ¬ (Sum.inl a : Key) = Sum.inl b := fun q => e (Sum.inl.inj q)
  rw [decide_eq_false h]
  exact (beq_eq_false_iff_ne.mpr e).symm
theorem key_rr (a b : Str) : decide ((Sum.inr a : Key) = Sum.inr b) = decide (a = b) := by
 by_cases e : a = b
 ·subst e; simp
 ·have h : ¬ (Sum.inr a : Key) = Sum.inr b := fun q => e (Sum.inr.inj q)
  rw [decide_eq_false h, decide_eq_false e]
theorem key_lr (a : Int) (b : Str) : decide ((Sum.inl a : Key) = Sum.inr b) = false := decide_eq_false (fun q => nomatch q)
theorem key_rl (a : Str) (b : Int) : decide ((Sum.inr a : Key) = Sum.inl b) = false := decide_eq_false (fun q => nomatch q)
noncomputable def mixKind (prog : Program) (w : World) : PySem.KeyKind prog w Key where
 is := keyIs
 hash := keyH w
 inj := fun v a b ha hb => by
  rcases keyIs_shape ha with ⟨i, t, rfl, rfl⟩ | ⟨x, t, rfl, rfl⟩
  ·rcases keyIs_shape hb with ⟨j, u, rfl, e⟩ | ⟨y, u, rfl, e⟩
   ·injection e with e1 _; rw [e1]
   ·exact nomatch e
  ·rcases keyIs_shape hb with ⟨j, u, rfl, e⟩ | ⟨y, u, rfl, e⟩
   ·exact nomatch e
   ·injection e with e1 _; rw [e1]
 byValue := fun k v h => by
  rcases keyIs_shape h with ⟨i, t, rfl, rfl⟩ | ⟨x, t, rfl, rfl⟩ <;> rfl
 pyHash := fun hv h => by
  rcases keyIs_shape hv with ⟨i, t, rfl, rfl⟩ | ⟨x, t, rfl, rfl⟩
  ·exact wpAny_pyHash_int h
  ·exact wpAny_pyHash_str h
 eqBool := fun hu hv h => by
  rcases keyIs_shape hu with ⟨i, t, rfl, rfl⟩ | ⟨x, t, rfl, rfl⟩
  ·rcases keyIs_shape hv with ⟨j, u, rfl, rfl⟩ | ⟨y, u, rfl, rfl⟩
   ·rw [key_ll] at h; exact wpAny_eqBool_int h
   ·rw [key_lr] at h; exact SeqAt.EqAt.int_str i t y u _ _ _ _ h
  ·rcases keyIs_shape hv with ⟨j, u, rfl, rfl⟩ | ⟨y, u, rfl, rfl⟩
   ·rw [key_rl] at h; exact SeqAt.EqAt.str_int x t j u _ _ _ _ h
   ·rw [key_rr] at h; exact wpAny_eqBool_str h
 «strs» := fun k x t v h => by
  rcases keyIs_shape h with ⟨i, u, rfl, e⟩ | ⟨y, u, rfl, e⟩
  ·exact nomatch e
  ·injection e with e1 _
   subst e1
   cases v <;> rfl
theorem mixKind_int (prog : Program) (w : World) (i : Int) (t : Tok) : (mixKind prog w).is (.inl i) (.int i t) = true := keyIs_int i t
theorem mixKind_str (prog : Program) (w : World) (x : Str) (t : Tok) : (mixKind prog w).is (.inr x) (.str x t) = true := keyIs_str x t
end L2
namespace L2
open PySem PySem.Spec PyProof.Rows
inductive V where
 | non | bl (b : Bool) | int (i : Int) | str (x : Str) | byt (b : Array UInt8) | flt (b : UInt64) | ref (a : Addr) | ty (n : String)
 deriving DecidableEq
noncomputable def RelV : V -> Value -> Prop
 | .non, u => u = Value.none
 | .bl b, u => u = Value.bool b
 | .int i, u => ∃ t, u = Value.int i t
 | .str x, u => ∃ t, u = Value.str x t
 | .byt b, u => ∃ t, u = Value.bytes b t
 | .flt b, u => ∃ t, u = Value.float b t
 | .ref a, u => u = Value.ref a
 | .ty n, u => u = Value.type n
noncomputable abbrev Vals : List V -> List Value -> Prop := Paired RelV
theorem Vals.length {xs : List V} {us : List Value} (r : Vals xs us) : xs.length = us.length := Paired.length r
theorem Vals.get : ∀ {xs : List V} {us : List Value} {i : Nat} {x : V}, Vals xs us -> xs[i]? = some x -> ∃ u, us[i]? = some u /\ RelV x u
 | _, _, _, _, .nil, e => by simp at e
 | _, _, 0, _, .cons r _, e => by simp at e; subst e; exact ⟨_, rfl, r⟩
 | _, _, i + 1, x, .cons _ t, e => by
  obtain ⟨u, h1, h2⟩ := Vals.get (i := i) (x := x) t (by simpa using e)
  exact ⟨u, by simpa using h1, h2⟩
theorem Vals.set {x : V} {u : Value} (r : RelV x u) : ∀ {xs : List V} {us : List Value} (i : Nat), Vals xs us -> Vals (xs.set i x) (us.set i u)
 | _, _, _, .nil => .nil
 | _, _, 0, .cons _ t => .cons r t
 | _, _, i + 1, .cons q t => .cons q (Vals.set r i t)
theorem Vals.append : ∀ {xs ys : List V} {us ws : List Value}, Vals xs us -> Vals ys ws -> Vals (xs ++ ys) (us ++ ws)
 | _, _, _, _, .nil, s => s
 | _, _, _, _, .cons r t, s => .cons r (Vals.append t s)
theorem Vals.take : ∀ {xs : List V} {us : List Value} (n : Nat), Vals xs us -> Vals (xs.take n) (us.take n)
 | _, _, 0, _ => .nil
 | _, _, _ + 1, .nil => .nil
 | _, _, n + 1, .cons r t => .cons r (Vals.take n t)
theorem Vals.drop : ∀ {xs : List V} {us : List Value} (n : Nat), Vals xs us -> Vals (xs.drop n) (us.drop n)
 | _, _, 0, r => r
 | _, _, _ + 1, .nil => .nil
 | _, _, n + 1, .cons _ t => Vals.drop n t
theorem Vals.none_of : ∀ {xs : List V} {us : List Value} {i : Nat}, Vals xs us -> xs[i]? = none -> us[i]? = none := fun {xs us i} r e => by
 have h1 := r.length
 have h2 : xs.length <= i := List.getElem?_eq_none_iff.mp e
 exact List.getElem?_eq_none_iff.mpr (by omega)
noncomputable def RelO : Option V -> Option Value -> Prop
 | some v, some u => RelV v u
 | none, none => True
 | _, _ => False
noncomputable def KV {κ : Type} : List (κ × V) -> List (κ × Value) -> Prop := Paired fun (p : κ × V) (q : κ × Value) => p.1 = q.1 /\ RelV p.2 q.2
noncomputable def kV : Key -> V
 | .inl i => .int i
 | .inr x => .str x
inductive HO where
 | lst (xs : List V)
 | tup (xs : List V)
 | dK (kvs : List (Key × V)) | dT (kvs : List (List Key × V))
 | set (S : Int -> Bool) (n : Nat)
 | ins (C dx : Addr) (fs : List (Str × V))
 | own (x : Addr)
 | xd (fs : List (Str × V))
 | met (f x : Addr)
 | rng (lo hi : Int)
 | frz (o : Obj) (u : HO)
 | tbl (ps : Array Value)
 | ext (φ : Heap -> Prop)
noncomputable abbrev Hp := Addr -> Option HO
noncomputable def upd (H : Hp) (a : Addr) (o : HO) : Hp := fun b => if b = a then some o else H b
theorem upd_same {H : Hp} {a : Addr} {o : HO} : upd H a o a = some o := by unfold upd; rw [if_pos rfl]
theorem upd_ne {H : Hp} {a b : Addr} {o : HO} (h : b ≠ a) : upd H a o b = H b := by unfold upd; rw [if_neg h]
theorem ne_of {H : Hp} {a b : Addr} {o u : HO} (h : H a = some o) (h' : H b = some u) (d : o ≠ u) : a ≠ b := by
 intro e; subst e; rw [h] at h'; exact d (Option.some.inj h')
theorem ne_of_none {H : Hp} {a b : Addr} {o : HO} (h : H a = some o) (h' : H b = none) : a ≠ b := by
 intro e; subst e; rw [h] at h'; cases h'
noncomputable def IsTupD (h : Heap) (a : Addr) (items : Array Value) : Prop := ∃ o, h.get? a = some o /\ o.cls = .type "tuple" /\ (∃ n, o.data = .seq items n) /\ o.dict = none
theorem IsTupD.tup {h : Heap} {a : Addr} {items : Array Value} (x : IsTupD h a items) : IsTup h a items := let ⟨o, e, c, d, _⟩ := x; ⟨o, e, c, d⟩
theorem IsTupD.new (h : Heap) (items : Array Value) : IsTupD (h.push { cls := .type "tuple", data := .seq items }) h.objs.size items := ⟨_, Heap.get?_push_size _ rfl, rfl, ⟨_, rfl⟩, rfl⟩
section
variable (P : Program) (w : World)
noncomputable def ObjOk (H : Hp) (h : Heap) (a : Addr) : HO -> Prop
 | .lst xs => xs.length <= sizeLine /\ ∃ (its : List Value) (n : Nat), Vals xs its /\ h.get? a = some { cls := .type "list", data := .seq its.toArray n }
 | .tup xs => xs.length <= sizeLine /\ ∃ its : List Value, Vals xs its /\ IsTupD h a its.toArray
 | .dK kvs => kvs.length <= sizeLine /\ (a == sysModules) = false /\ ∃ vs, KV kvs vs /\ h.DictOf (mixKind P w) a vs
 | .dT kvs => kvs.length <= sizeLine /\ (a == sysModules) = false /\ ∃ xs : List (List Key × Addr × Value),
   Paired (fun (p : List Key × V) (q : List Key × Addr × Value) => p.1 = q.1 /\ H q.2.1 = some (.tup (p.1.map kV)) /\ RelV p.2 q.2.2) kvs xs /\
   ∃ o es ep, h.get? a = some o /\ o.ExactDict /\ o.data = .dict es ep /\ es.toList = xs.map (entryOfKey (tupleKind (mixKind P w))) /\ (xs.map (·.1)).Nodup
 | .set S n => h.SetOf (intKind P w) a S n
 | .ins C dx fs => H dx = some (.own a) /\ fs.length <= 1000 /\ dx ≠ a /\ h.get? a = some (PySem.W.instObj C dx) /\
   ∃ mA, h.Ns1 dx mA /\ (∀ f, RelO (fs.lookup f) (mA f)) /\ PySem.Within mA (fs.map (·.1))
 | .own _ => ∃ o, h.get? a = some o
 | .xd fs => ∃ mA, h.Ns1 a mA /\ ∀ f, RelO (fs.lookup f) (mA f)
 | .rng lo hi => ∃ t u v, h.get? a = some { cls := .type "range", data := .fields #[.int lo t, .int hi u, .int 1 v] }
 | .frz o u => h.get? a = some o /\ ObjOk H h a u
 | .tbl ps => h.get? a = some { cls := .none, data := .fields ps }
 | .met f x => h.get? a = some (PySem.W.methodObj (.ref f) (.ref x))
 | .ext φ => φ h /\ (∃ o, h.get? a = some o) /\ ∀ h1 h2 : Heap, φ h1 -> (∀ o, h1.get? a = some o -> h2.get? a = some o) -> φ h2
noncomputable def HOk (H : Hp) (h : Heap) : Prop := ∀ a o, H a = some o -> ObjOk P w H h a o
end
section
variable {P : Program} {w : World} {H H' : Hp} {h h' : Heap} {a : Addr} {o : HO}
theorem ObjOk.lt (x : ObjOk P w H h a o) : a < h.objs.size := by
 cases o with
 | lst xs => obtain ⟨_, _, _, _, e⟩ := x; exact Heap.lt_size e
 | tup xs => obtain ⟨_, _, _, p⟩ := x; exact p.tup.lt
 | dK kvs => obtain ⟨_, _, _, _, o, _, _, e, _⟩ := x; exact Heap.lt_size e
 | dT kvs => obtain ⟨_, _, _, _, o, _, _, e, _⟩ := x; exact Heap.lt_size e
 | set S n => obtain ⟨o, _, _, _, e, _⟩ := x; exact Heap.lt_size e
 | ins C dx fs => obtain ⟨_, _, _, e, _⟩ := x; exact Heap.lt_size e
 | own y => obtain ⟨_, e⟩ := x; exact Heap.lt_size e
 | xd fs => obtain ⟨_, ⟨_, _, _, e, _⟩, _⟩ := x; exact Heap.lt_size e
 | rng lo hi => obtain ⟨_, _, _, e⟩ := x; exact Heap.lt_size e
 | frz ob u => obtain ⟨e, _⟩ := x; exact Heap.lt_size e
 | tbl ps => exact Heap.lt_size (show h.get? a = some _ from x)
 | met f y => exact Heap.lt_size (show h.get? a = some _ from x)
 | ext φ => obtain ⟨_, ⟨_, e⟩, _⟩ := x; exact Heap.lt_size e
theorem Paired.mapP {α β : Type} {F G : α -> β -> Prop} : ∀ {l₁ : List α} {l₂ : List β}, Paired F l₁ l₂ -> (∀ a b, F a b -> G a b) -> Paired G l₁ l₂
 | _, _, .nil, _ => .nil
 | _, _, .cons r t, f => .cons (f _ _ r) (Paired.mapP t f)
theorem ObjOk.stay (x : ObjOk P w H h a o) (k : ∀ b u, (b = a \/ H b = some (.own a)) -> h.get? b = some u -> h'.get? b = some u)
  (ho : ∀ b, H b = some (.own a) -> H' b = some (.own a)) (ht : ∀ b xs, H b = some (.tup xs) -> H' b = some (.tup xs)) : ObjOk P w H' h' a o := by
 induction o with
 | lst xs => obtain ⟨z, its, n, r, e⟩ := x; exact ⟨z, its, n, r, k _ _ (.inl rfl) e⟩
 | tup xs => obtain ⟨z, its, r, ob, e, c⟩ := x; exact ⟨z, its, r, ob, k _ _ (.inl rfl) e, c⟩
 | dK kvs => obtain ⟨z, y, vs, r, ob, es, ep, e, c⟩ := x; exact ⟨z, y, vs, r, ob, es, ep, k _ _ (.inl rfl) e, c⟩
 | dT kvs =>
  obtain ⟨z, y, xs, r, ob, es, ep, e, c⟩ := x
  exact ⟨z, y, xs, Paired.mapP r fun p q z => ⟨z.1, ht _ _ z.2.1, z.2.2⟩, ob, es, ep, k _ _ (.inl rfl) e, c⟩
 | set S n => obtain ⟨ob, es, ep, t, e, c⟩ := x; exact ⟨ob, es, ep, t, k _ _ (.inl rfl) e, c⟩
 | ins C dx fs =>
  obtain ⟨d, z, ne, e, mA, ⟨od, es, ep, e2, c⟩, r⟩ := x
  exact ⟨ho _ d, z, ne, k _ _ (.inl rfl) e, mA, ⟨od, es, ep, k _ _ (.inr d) e2, c⟩, r⟩
 | own y => obtain ⟨ob, e⟩ := x; exact ⟨ob, k _ _ (.inl rfl) e⟩
 | xd fs => obtain ⟨mA, ⟨od, es, ep, e, c⟩, r⟩ := x; exact ⟨mA, ⟨od, es, ep, k _ _ (.inl rfl) e, c⟩, r⟩
 | rng lo hi => obtain ⟨t, u, v, e⟩ := x; exact ⟨t, u, v, k _ _ (.inl rfl) e⟩
 | frz ob u ih => obtain ⟨e, q⟩ := x; exact ⟨k _ _ (.inl rfl) e, ih q⟩
 | tbl ps =>
  have e : h.get? a = some { cls := .none, data := .fields ps } := x
  show h'.get? a = some { cls := .none, data := .fields ps }
  exact k a _ (.inl rfl) e
 | met f y =>
  have e : h.get? a = some (PySem.W.methodObj (.ref f) (.ref y)) := x
  show h'.get? a = some (PySem.W.methodObj (.ref f) (.ref y))
  exact k a _ (.inl rfl) e
 | ext φ => obtain ⟨p, ⟨o, e⟩, st⟩ := x; exact ⟨st _ _ p fun o q => k _ _ (.inl rfl) q, ⟨o, k _ _ (.inl rfl) e⟩, st⟩
theorem HOk.lt (x : HOk P w H h) (e : H a = some o) : a < h.objs.size := (x a o e).lt
theorem HOk.fresh (x : HOk P w H h) (e : h.objs.size <= a) : H a = none := by
 cases q : H a with
 | none => rfl
 | some u => exact absurd (Nat.lt_of_lt_of_le (x.lt q) e) (Nat.lt_irrefl _)
theorem HOk.kept (x : HOk P w H h) (k : ∀ b u, h.get? b = some u -> h'.get? b = some u) : HOk P w H h' := fun a o e =>
 (x a o e).stay (fun b u _ q => k b u q) (fun _ q => q) fun _ _ q => q
theorem HOk.laid (x : HOk P w H h) (k : ∀ b u, h.get? b = some u -> h'.get? b = some u) (hp : h.objs.size <= a) (new : ObjOk P w (upd H a o) h' a o) : HOk P w (upd H a o) h' := fun b u e => by
 have hn := x.fresh hp
 by_cases hb : b = a
 ·subst hb; rw [upd_same] at e; cases e; exact new
 ·rw [upd_ne hb] at e
  exact (x b u e).stay (fun c v _ q => k c v q) (fun c q => by rw [upd_ne (ne_of_none q hn)]; exact q) fun c xs q => by rw [upd_ne (ne_of_none q hn)]; exact q
end
noncomputable def Rd (H : Hp) (a : Addr) (u : HO) : Prop := H a = some u \/ ∃ o, H a = some (.frz o u)
theorem Rd.of {H : Hp} {a : Addr} {u : HO} (h : H a = some u) : Rd H a u := .inl h
theorem Rd.ok {P : Program} {w : World} {H : Hp} {h : Heap} {a : Addr} {u : HO} (r : Rd H a u) (x : HOk P w H h) : ObjOk P w H h a u := by
 rcases r with r | ⟨o, r⟩
 ·exact x a u r
 ·obtain ⟨_, q⟩ := x a _ r
  exact q
noncomputable def Mut : Option HO -> Prop
 | some (.lst _) => True
 | some (.dK _) => True
 | some (.dT _) => True
 | some (.set _ _) => True
 | some (.ins _ _ _) => True
 | some (.ext _) => True
 | _ => False
section
variable {P : Program} {w : World} {H : Hp} {h h' : Heap} {x e : Addr} {o' : HO}
theorem HOk.write (ok : HOk P w H h) (mu : Mut (H x)) (he : e = x \/ H e = some (.own x)) (k : ∀ b u, b ≠ e -> h.get? b = some u -> h'.get? b = some u) (heo : ∃ u, h'.get? e = some u)
  (new : ObjOk P w (upd H x o') h' x o') : HOk P w (upd H x o') h' := fun b u q => by
 have nown : ∀ c y, H c = some (.own y) -> c ≠ x := fun c y r z => by subst z; rw [r] at mu; exact mu
 have ntup : ∀ c xs, H c = some (.tup xs) -> c ≠ x := fun c xs r z => by subst z; rw [r] at mu; exact mu
 by_cases hb : b = x
 ·subst hb; rw [upd_same] at q; cases q; exact new
 ·rw [upd_ne hb] at q
  by_cases hbe : b = e
  ·have q' : H b = some (.own x) := by
    rcases he with z | z
    ·exact absurd (hbe.trans z) hb
    ·rw [hbe]; exact z
   rw [q] at q'; cases q'
   obtain ⟨v, hv⟩ := heo
   exact ⟨v, by rw [hbe]; exact hv⟩
  ·refine (ok b u q).stay (fun c v hc r => k c v ?_ r) (fun c r => by rw [upd_ne (nown c b r)]; exact r) fun c xs r => by rw [upd_ne (ntup c xs r)]; exact r
   rcases hc with rfl | hc
   ·exact hbe
   ·rintro rfl
    rcases he with z | z
    ·exact nown c b hc z
    ·rw [hc] at z; cases z; exact hb rfl
end
structure Un (fs ex : List Addr) (H H' : Hp) (h h' : Heap) : Prop where
 keep : ∀ b o, h.get? b = some o -> H b = none -> b ∉ fs -> b ∉ ex -> h'.get? b = some o
 slot : ∀ b o, h.get? b = some o -> H b = none -> b ∈ fs -> b ∉ ex -> ∃ sl, h'.get? b = some { o with slots := sl }
 free : ∀ b o, h.get? b = some o -> H b = none -> b ∉ ex -> H' b = none
 there : ∀ b o, h.get? b = some o -> b ∉ ex -> ∃ o', h'.get? b = some o'
 tups : ∀ b xs, H b = some (.tup xs) -> H' b = some (.tup xs)
 frzs : ∀ b o u, H b = some (.frz o u) -> H' b = some (.frz o u)
 tbls : ∀ b ps, H b = some (.tbl ps) -> ∃ more, H' b = some (.tbl (ps ++ more))
section
variable {fs fs' ex ex' : List Addr} {H H1 H2 : Hp} {h h1 h2 h' : Heap} {a x e : Addr} {o : HO}
theorem Un.any (u : Un fs ex H H1 h h1) {b : Addr} {ob : Obj} (q : h.get? b = some ob) (n : H b = none) (hx : b ∉ ex) : ∃ sl, h1.get? b = some { ob with slots := sl } := by
 by_cases hb : b ∈ fs
 ·exact u.slot b ob q n hb hx
 ·exact ⟨ob.slots, u.keep b ob q n hb hx⟩
theorem Un.trans (a : Un fs ex H H1 h h1) (b : Un fs ex H1 H2 h1 h2) : Un fs ex H H2 h h2 where
 keep := fun c ob q n hc hx => b.keep c ob (a.keep c ob q n hc hx) (a.free c ob q n hx) hc hx
 slot := fun c ob q n hc hx => by
  obtain ⟨sl, e1⟩ := a.slot c ob q n hc hx
  obtain ⟨sl', e2⟩ := b.slot c _ e1 (a.free c ob q n hx) hc hx
  exact ⟨sl', e2⟩
 free := fun c ob q n hx => by
  obtain ⟨o', e1⟩ := a.there c ob q hx
  exact b.free c o' e1 (a.free c ob q n hx) hx
 there := fun c ob q hx => by
  obtain ⟨o', e1⟩ := a.there c ob q hx
  exact b.there c o' e1 hx
 tups := fun c xs q => b.tups c xs (a.tups c xs q)
 frzs := fun c ob xs q => b.frzs c ob xs (a.frzs c ob xs q)
 tbls := fun c ps q => by
  obtain ⟨m1, e1⟩ := a.tbls c ps q
  obtain ⟨m2, e2⟩ := b.tbls c _ e1
  exact ⟨m1 ++ m2, by rw [e2, Array.append_assoc]⟩
theorem Un.kept (k : ∀ b u, h.get? b = some u -> h'.get? b = some u) : Un fs ex H H h h' :=
 ⟨fun b ob q _ _ _ => k b ob q, fun b ob q _ _ _ => ⟨ob.slots, k b ob q⟩, fun _ _ _ n _ => n, fun b ob q _ => ⟨ob, k b ob q⟩, fun _ _ q => q, fun _ _ _ q => q, fun _ ps q => ⟨#[], by rw [q]; simp⟩⟩
theorem Un.refl : Un fs ex H H h h := Un.kept fun _ _ q => q
theorem Un.laid (k : ∀ b u, h.get? b = some u -> h'.get? b = some u) (hp : h.objs.size <= a) (hn : H a = none) : Un fs ex H (upd H a o) h h' where
 keep := fun b u q _ _ _ => k b u q
 slot := fun b u q _ _ _ => ⟨u.slots, k b u q⟩
 free := fun b u q n _ => by rw [upd_ne (Nat.ne_of_lt (Nat.lt_of_lt_of_le (Heap.lt_size q) hp))]; exact n
 there := fun b u q _ => ⟨u, k b u q⟩
 tups := fun b xs q => by rw [upd_ne (ne_of_none q hn)]; exact q
 frzs := fun b u xs q => by rw [upd_ne (ne_of_none q hn)]; exact q
 tbls := fun b ps q => ⟨#[], by rw [upd_ne (ne_of_none q hn), q]; simp⟩
theorem Un.write (mu : Mut (H x)) (he : e = x \/ H e = some (.own x)) (k : ∀ b u, b ≠ e -> h.get? b = some u -> h'.get? b = some u) (heo : ∃ u, h'.get? e = some u) : Un fs ex H (upd H x o) h h' := by
 have hx : ∀ b, H b = none -> b ≠ x := fun b n z => by subst z; rw [n] at mu; exact mu
 have hb : ∀ b, H b = none -> b ≠ e := fun b n z => by
  subst z
  rcases he with r | r
  ·exact hx b n r
  ·rw [n] at r; cases r
 have hm : ∀ b u, H b = some u -> ¬ Mut (some u) -> b ≠ x := fun b u q nm z => by subst z; rw [q] at mu; exact nm mu
 refine ⟨fun b u q n _ _ => k b u (hb b n) q, fun b u q n _ _ => ⟨u.slots, k b u (hb b n) q⟩, fun b u q n _ => by rw [upd_ne (hx b n)]; exact n, fun b u q _ => ?_,
  fun b xs q => by rw [upd_ne (hm b _ q fun z => z)]; exact q, fun b u xs q => by rw [upd_ne (hm b _ q fun z => z)]; exact q, fun b ps q => ⟨#[], by rw [upd_ne (hm b _ q fun z => z), q]; simp⟩⟩
 by_cases hbe : b = e
 ·subst hbe; exact heo
 ·exact ⟨u, k b u hbe q⟩
theorem Un.mono (u : Un fs ex H H1 h h1) (hs : ∀ b ∈ fs, b ∈ fs') (hx : ∀ b ∈ ex, b ∈ ex') : Un fs' ex' H H1 h h1 :=
 ⟨fun b ob q n hb he => u.keep b ob q n (fun z => hb (hs b z)) fun z => he (hx b z), fun _ _ q n _ he => u.any q n fun z => he (hx _ z), fun b ob q n he => u.free b ob q n fun z => he (hx b z), fun b ob q he => u.there b ob q fun z => he (hx b z), u.tups, u.frzs, u.tbls⟩
end
noncomputable def trk (h : Heap) (H : Hp) : List Addr := (List.range h.objs.size).filter fun a => (H a).isSome
noncomputable def hidT (h : Heap) (H : Hp) : Heap := PySem.W.hideAll h (trk h H)
theorem hidT_size (h : Heap) (H : Hp) : (hidT h H).objs.size = h.objs.size := PySem.W.hideAll_size _ _
theorem hidT_get {h : Heap} {H : Hp} {b : Addr} {o : Obj} (e : h.get? b = some o) (n : H b = none) : (hidT h H).get? b = some o :=
 PySem.W.hideAll_get _ e fun hm => by
  have q : (H b).isSome = true := (List.mem_filter.mp hm).2
  rw [n] at q; simp at q
theorem of_hidT {h : Heap} {H : Hp} {b : Addr} {o : Obj} (e : (hidT h H).get? b = some o) : h.get? b = some o /\ H b = none := by
 have e' : h.get? b = some o := PySem.W.of_hideAll (trk h H) e
 refine ⟨e', ?_⟩
 cases q : H b with
 | none => rfl
 | some x =>
  have hm : b ∈ trk h H := List.mem_filter.mpr ⟨List.mem_range.mpr (Heap.lt_size e'), by simp [q]⟩
  have z : (hidT h H).get? b = none := PySem.W.hideAll_none (trk h H) hm
  rw [z] at e; cases e
noncomputable def allNews (g h : Heap) (L : Addr) : List (Addr × Obj) := (List.range h.objs.size).filterMap fun a => if a = L \/ (g.get? a).isSome = true then none else (h.get? a).map fun o => (a, o)
noncomputable def rest (g h : Heap) (L d : Addr) : List (Addr × Obj) := (allNews g h L).filter fun p => decide (p.1 ≠ d)
end L2
namespace L2
open PySem PySem.Spec PyProof.Rows
structure Mod (K : PySem.W.Frag) (mg : Str -> Option Value) (base : Heap) : Prop where
 kin : K.In base
 glob : base.Ns mainGlobals mg
 blt : ∃ mb, base.Ns builtinsNs mb /\ ∀ x : Str, x ≠ "__name__" -> mb x = bootBuiltins x
 nolimit : base.NoLimit
structure Cx where
 prog : Program
 w : World
 K : PySem.W.Frag
 mg : Str -> Option Value
 base : Heap
 A : Around
 N : List Str
 s₀ : Shared
 H₀ : Hp
 env : Env
 outer : List Env
 stack : List Env
 ex : List Addr
 fn : Str -> Bool
 calm : Bool
 pn : List (Addr × Obj)
 xe : Value -> Shared -> Prop
noncomputable def frs (l : List Env) : List Addr := l.filterMap (·.frame)
noncomputable abbrev Cx.fs (X : Cx) : List Addr := frs X.outer
noncomputable def Vis (sc : Scope) (x : Str) : Prop := sc.names.lookup x = some .local \/ sc.names.lookup x = some .cell \/ sc.names.lookup x = some .free
noncomputable def Loc (sc : Scope) (x : Str) : Prop := sc.names.lookup x = some .local \/ sc.names.lookup x = some .cell
noncomputable def Look (env : Env) (h : Heap) (m : Str -> Option Value) (x : Str) (u : Value) : Prop :=
 (env.kindOf x = some .local /\ m x = some u) \/ ((env.kindOf x = some .cell \/ env.kindOf x = some .free) /\ ∃ c, env.cells.lookup x = some c /\ h.IsCell c (some u))
structure Cx.Ok (X : Cx) : Prop where
 mod : Mod X.K X.mg X.base
 kind : X.env.scope.kind = .function
 glob : X.env.globals = mainGlobals
 blt : X.env.builtins = builtinsNs
 above : X.s₀.heap.objs.size <= X.env.locals
 inj : ∀ x y c, X.env.cells.lookup x = some c -> X.env.cells.lookup y = some c -> x = y
 has : ∀ x, (X.env.kindOf x = some .cell \/ X.env.kindOf x = some .free) -> ∃ c, X.env.cells.lookup x = some c
 cab : ∀ x c, X.fn x = true -> X.env.cells.lookup x = some c -> X.s₀.heap.objs.size <= c
 hd : X.calm = true -> X.A.handled = none
 frames : X.A.frames = some X.stack
 stk : X.stack = X.outer \/ (X.stack = X.env :: X.outer /\ X.env.frame = some X.env.locals)
 exf : ∀ b ∈ X.ex, b ≠ X.env.locals /\ ∀ x c, X.env.cells.lookup x = some c -> c ≠ b
 bs : ∀ b o, X.base.get? b = some o -> X.s₀.heap.get? b = some o /\ X.H₀ b = none
 bsz : X.base.objs.size <= X.s₀.heap.objs.size
 noex : ∀ b o, X.base.get? b = some o -> b ∉ X.ex
 exfs : ∀ b ∈ X.ex, b ∉ X.fs
 funs : X.s₀.heap.FunFrames X.base X.outer
 frf : ∀ b ∈ X.fs, X.H₀ b = none
structure Inv (X : Cx) (pins : List (Addr × Obj)) (σ : List (Option V)) (H : Hp) (s : Shared) : Prop where
 ok : X.Ok
 os : s.os = X.s₀.os
 bare : AllBare s.gens
 base : Un X.fs X.ex X.H₀ H X.s₀.heap s.heap
 loc : ∃ m, s.heap.Ns X.env.locals m /\ ∀ (i : Nat) (x : Str) (v : V), X.N[i]? = some x -> σ[i]? = some (some v) -> Vis X.env.scope x -> ∃ u, RelV v u /\ Look X.env s.heap m x u
 cell : ∀ x c, X.env.cells.lookup x = some c -> ∃ v, s.heap.IsCell c v
 free : H X.env.locals = none
 freeC : ∀ x c, X.env.cells.lookup x = some c -> H c = none
 pin : ∀ p ∈ X.pn ++ pins, s.heap.get? p.1 = some p.2 /\ H p.1 = none /\ p.1 ≠ X.env.locals /\ p.1 ∉ X.fs /\ ∀ v, p.2.data ≠ .cell v
 hok : HOk X.prog X.w H s.heap
 len : σ.length = X.N.length
section
variable {X : Cx} {pins : List (Addr × Obj)} {σ : List (Option V)} {H H' : Hp} {s : Shared} {h' : Heap}
theorem Cx.Ok.nofr (ok : X.Ok) {b : Addr} {o : Obj} (e : X.base.get? b = some o) : b ∉ X.fs := fun hb => by
 have := (ok.funs.mem hb).1
 rw [e] at this; cases this
theorem Inv.bs (I : Inv X pins σ H s) : ∀ b o, X.base.get? b = some o -> s.heap.get? b = some o /\ H b = none := fun b o e =>
 ⟨I.base.keep b o (I.ok.bs b o e).1 (I.ok.bs b o e).2 (I.ok.nofr e) (I.ok.noex b o e), I.base.free b o (I.ok.bs b o e).1 (I.ok.bs b o e).2 (I.ok.noex b o e)⟩
theorem Inv.bk (I : Inv X pins σ H s) : ∀ b o, X.base.get? b = some o -> s.heap.get? b = some o := fun b o e => (I.bs b o e).1
theorem Inv.mod (I : Inv X pins σ H s) : Mod X.K X.mg X.base := I.ok.mod
theorem Inv.kIn (I : Inv X pins σ H s) : X.K.In s.heap := I.ok.mod.kin.keeps I.bk
theorem Inv.nolimit (I : Inv X pins σ H s) : s.heap.NoLimit := I.ok.mod.nolimit.keeps I.bk
theorem Inv.fr (I : Inv X pins σ H s) : ∃ m, Fr X.base X.env.locals s.heap m :=
 let ⟨m, hn, _⟩ := I.loc
 ⟨m, hn, I.bk, Nat.le_trans I.ok.bsz I.ok.above⟩
theorem Inv.lt (I : Inv X pins σ H s) : X.env.locals < s.heap.objs.size := let ⟨_, hn, _⟩ := I.loc; hn.lt
theorem Inv.sz (I : Inv X pins σ H s) : X.s₀.heap.objs.size <= s.heap.objs.size := Nat.le_trans I.ok.above (Nat.le_of_lt I.lt)
theorem Inv.nofs (I : Inv X pins σ H s) {a : Addr} (h : s.heap.objs.size <= a) : a ∉ X.fs := fun hb => by
 obtain ⟨_, o, ho, _⟩ := I.ok.funs.mem hb
 exact absurd (Nat.lt_of_lt_of_le (Heap.lt_size ho) (Nat.le_trans I.sz h)) (Nat.lt_irrefl _)
theorem Inv.cne (I : Inv X pins σ H s) : ∀ x c, X.env.cells.lookup x = some c -> c ≠ X.env.locals := fun x c e z => by
 obtain ⟨v, o, ho, hd⟩ := I.cell x c e
 obtain ⟨m, ⟨o', es, ep, ho', hd', _⟩, _⟩ := I.loc
 rw [z, ho'] at ho; cases ho; rw [hd'] at hd; cases hd
theorem Inv.funs (I : Inv X pins σ H s) : s.heap.FunFrames X.base X.outer := by
 have all : ∀ (l : List Env), (∀ b ∈ frs l, b ∈ X.fs) -> X.s₀.heap.FunFrames X.base l -> s.heap.FunFrames X.base l := by
  intro l
  induction l with
  | nil => intro _ _; trivial
  | cons env r ih =>
   intro hs hl
   obtain ⟨hk, ⟨L, o, hf, hn, ho, hd⟩, hr⟩ := hl
   have hL : L ∈ X.fs := hs L (by unfold frs; rw [List.filterMap_cons, hf]; exact List.mem_cons_self)
   obtain ⟨sl, e⟩ := I.base.slot L o ho (I.ok.frf L hL) hL fun z => I.ok.exfs L z hL
   exact ⟨hk, ⟨L, _, hf, hn, e, hd⟩, ih (fun b hb => hs b (by unfold frs; rw [List.filterMap_cons, hf]; exact List.mem_cons_of_mem _ hb)) hr⟩
 exact all X.outer (fun _ hb => hb) I.ok.funs
theorem Inv.stack (I : Inv X pins σ H s) : s.heap.FunFrames X.base X.stack := by
 rcases I.ok.stk with e | ⟨e, hf⟩
 ·rw [e]; exact I.funs
 ·rw [e]
  obtain ⟨m, hn, _⟩ := I.loc
  refine .cons (by rw [I.ok.kind]; decide) hf hn ?_ I.funs
  exact Heap.get?_none_of_le (Nat.le_trans I.ok.bsz I.ok.above)
theorem Inv.stkSub (I : Inv X pins σ H s) : ∀ b ∈ frs X.stack, b ∈ X.env.locals :: X.fs := fun b hb => by
 rcases I.ok.stk with e | ⟨e, hf⟩
 ·rw [e] at hb; exact List.mem_cons_of_mem _ hb
 ·rw [e] at hb
  unfold frs at hb
  rw [List.filterMap_cons, hf] at hb
  exact hb
theorem Inv.stkFree (I : Inv X pins σ H s) : ∀ b ∈ frs X.stack, H b = none := fun b hb => by
 rcases List.mem_cons.mp (I.stkSub b hb) with e | hb
 ·rw [e]; exact I.free
 ·obtain ⟨_, o, ho, _⟩ := I.ok.funs.mem hb
  exact I.base.free b o ho (I.ok.frf b hb) fun z => I.ok.exfs b z hb
theorem Inv.step {g' : Array GenState} {t' : Nat} {d' : Drawn} {ch : List Addr} (I : Inv X pins σ H s)
  (hch : ∀ b ∈ ch, (b ∈ X.ex \/ X.s₀.heap.objs.size <= b) /\ b ≠ X.env.locals /\ (∀ x c, X.env.cells.lookup x = some c -> c ≠ b) /\ ∀ p ∈ X.pn ++ pins, p.1 ≠ b)
  (keep : ∀ b o, b ≠ X.env.locals -> b ∉ X.fs -> b ∉ ch -> s.heap.get? b = some o -> H b = none -> h'.get? b = some o)
  (slot : ∀ b o, b ≠ X.env.locals -> b ∈ X.fs -> b ∉ ch -> s.heap.get? b = some o -> H b = none -> ∃ sl, h'.get? b = some { o with slots := sl }) (free : ∀ b o, b ∉ ch -> s.heap.get? b = some o -> H b = none -> H' b = none)
  (there : ∀ b o, b ∉ ch -> s.heap.get? b = some o -> ∃ o', h'.get? b = some o')
  (tups : ∀ b xs, H b = some (.tup xs) -> H' b = some (.tup xs)) (frzs : ∀ b o u, H b = some (.frz o u) -> H' b = some (.frz o u)) (tbls : ∀ b ps, H b = some (.tbl ps) -> ∃ more, H' b = some (.tbl (ps ++ more)))
  (ns : ∀ m, s.heap.Ns X.env.locals m -> h'.Ns X.env.locals m) (hok : HOk X.prog X.w H' h') (hg : AllBare g') :
  Inv X pins σ H' { s with heap := h', gens := g', drawn := d', toks := t' } := by
 have neL : ∀ b o, X.s₀.heap.get? b = some o -> b ≠ X.env.locals := fun b o e => Nat.ne_of_lt (Nat.lt_of_lt_of_le (Heap.lt_size e) I.ok.above)
 have neC : ∀ b o, X.s₀.heap.get? b = some o -> b ∉ X.ex -> b ∉ ch := fun b o e hx hb => by
  rcases (hch b hb).1 with z | z
  ·exact hx z
  ·exact absurd (Nat.lt_of_lt_of_le (Heap.lt_size e) z) (Nat.lt_irrefl _)
 have cellK : ∀ x c, X.env.cells.lookup x = some c -> ∀ v, s.heap.IsCell c v -> h'.IsCell c v := fun x c e v ⟨o, ho, hd⟩ => by
  have nch : c ∉ ch := fun z => (hch c z).2.2.1 x c e rfl
  by_cases hc : c ∈ X.fs
  ·obtain ⟨sl, q⟩ := slot c o (I.cne x c e) hc nch ho (I.freeC x c e)
   exact ⟨_, q, hd⟩
  ·exact ⟨o, keep c o (I.cne x c e) hc nch ho (I.freeC x c e), hd⟩
 refine ⟨I.ok, I.os, hg, ⟨fun b o e n hb hx => ?_, fun b o e n hb hx => ?_, fun b o e n hx => ?_, fun b o e hx => ?_, fun b xs e => tups b xs (I.base.tups b xs e), fun b o xs e => frzs b o xs (I.base.frzs b o xs e), fun b ps e => ?_⟩, ?_, fun x c e => ?_, ?_, fun x c e => ?_, fun p hp => ?_, hok, I.len⟩
 ·exact keep b o (neL b o e) hb (neC b o e hx) (I.base.keep b o e n hb hx) (I.base.free b o e n hx)
 ·obtain ⟨sl, e1⟩ := I.base.slot b o e n hb hx
  obtain ⟨sl', e2⟩ := slot b _ (neL b o e) hb (neC b o e hx) e1 (I.base.free b o e n hx)
  exact ⟨sl', e2⟩
 ·obtain ⟨o', e1⟩ := I.base.there b o e hx
  exact free b o' (neC b o e hx) e1 (I.base.free b o e n hx)
 ·obtain ⟨o', e1⟩ := I.base.there b o e hx
  exact there b o' (neC b o e hx) e1
 ·obtain ⟨m1, e1⟩ := I.base.tbls b ps e
  obtain ⟨m2, e2⟩ := tbls b _ e1
  exact ⟨m1 ++ m2, by rw [e2, Array.append_assoc]⟩
 ·obtain ⟨m, hn, hl⟩ := I.loc
  refine ⟨m, ns m hn, fun i x v e1 e2 e3 => ?_⟩
  obtain ⟨u, r, l⟩ := hl i x v e1 e2 e3
  refine ⟨u, r, ?_⟩
  rcases l with l | ⟨k, c, e, z⟩
  ·exact .inl l
  ·exact .inr ⟨k, c, e, cellK x c e _ z⟩
 ·obtain ⟨v, z⟩ := I.cell x c e
  exact ⟨v, cellK x c e v z⟩
 ·obtain ⟨m, ⟨o, _, _, ho, _⟩, _⟩ := I.loc
  exact free _ o (fun z => (hch _ z).2.1 rfl) ho I.free
 ·obtain ⟨v, o, ho, hd⟩ := I.cell x c e
  exact free c o (fun z => (hch c z).2.2.1 x c e rfl) ho (I.freeC x c e)
 ·obtain ⟨e, n, ne, nf, d⟩ := I.pin p hp
  have nch : p.1 ∉ ch := fun z => (hch p.1 z).2.2.2 p hp rfl
  exact ⟨keep p.1 p.2 ne nf nch e n, free p.1 p.2 nch e n, ne, nf, d⟩
theorem Inv.un {t' : Nat} (I : Inv X pins σ H s) (u : Un X.fs [] H H' s.heap h') (hok : HOk X.prog X.w H' h') : Inv X pins σ H' { s with heap := h', toks := t' } := by
 obtain ⟨m, ⟨o, es, ep, ho, r⟩, _⟩ := id I.loc
 obtain ⟨sl, hL⟩ := u.any ho I.free (by simp)
 exact I.step (g' := s.gens) (d' := s.drawn) (ch := []) (fun _ z => nomatch z) (fun b o _ hb _ e n => u.keep b o e n hb (by simp)) (fun b o _ hb _ e n => u.slot b o e n hb (by simp)) (fun b o _ e n => u.free b o e n (by simp)) (fun b o _ e => u.there b o e (by simp)) u.tups u.frzs u.tbls (fun m' hm => by
  obtain ⟨o', es', ep', ho', r'⟩ := hm
  rw [ho] at ho'; cases ho'
  exact ⟨_, es', ep', hL, r'⟩) hok I.bare
theorem Inv.call {g' : Array GenState} {t' : Nat} {d' : Drawn} {ch : List Addr} (I : Inv X pins σ H s) (u : Un (frs X.stack) ch H H' s.heap h') (hok : HOk X.prog X.w H' h') (hg : AllBare g')
  (hch : ∀ b ∈ ch, (b ∈ X.ex \/ X.s₀.heap.objs.size <= b) /\ b ≠ X.env.locals /\ (∀ x c, X.env.cells.lookup x = some c -> c ≠ b) /\ ∀ p ∈ X.pn ++ pins, p.1 ≠ b) :
  Inv X pins σ H' { s with heap := h', gens := g', drawn := d', toks := t' } := by
 obtain ⟨m, ⟨o, es, ep, ho, r⟩, _⟩ := id I.loc
 obtain ⟨sl, hL⟩ := u.any ho I.free fun z => (hch _ z).2.1 rfl
 exact I.step (ch := ch) hch (fun b o hL hb hc e n => u.keep b o e n (fun z => (List.mem_cons.mp (I.stkSub b z)).elim hL hb) hc) (fun b o _ _ hc e n => u.any e n hc) (fun b o hc e n => u.free b o e n hc) (fun b o hc e => u.there b o e hc) u.tups u.frzs u.tbls (fun m' hm => by
  obtain ⟨o', es', ep', ho', r'⟩ := hm
  rw [ho] at ho'; cases ho'
  exact ⟨_, es', ep', hL, r'⟩) hok hg
theorem Inv.turned {t' : Nat} {it : Addr} (I : Inv X pins σ H s) (k : ∀ b o, b ≠ it -> s.heap.get? b = some o -> h'.get? b = some o) (hn : H it = none) (hL : it ≠ X.env.locals)
  (h1 : it ∈ X.ex \/ X.s₀.heap.objs.size <= it) (h2 : ∀ x c, X.env.cells.lookup x = some c -> c ≠ it) (h3 : ∀ p ∈ X.pn ++ pins, p.1 ≠ it) : Inv X pins σ H { s with heap := h', toks := t' } := by
 have nit : ∀ b u, H b = some u -> b ≠ it := fun b u e z => by rw [z, hn] at e; cases e
 refine I.step (g' := s.gens) (d' := s.drawn) (ch := [it]) (fun b hb => ?_) (fun b o _ _ hc e _ => k b o (fun z => hc (by simp [z])) e) (fun b o _ _ hc e _ => ⟨o.slots, k b o (fun z => hc (by simp [z])) e⟩) (fun _ _ _ _ n => n)
  (fun b o hc e => ⟨o, k b o (fun z => hc (by simp [z])) e⟩) (fun _ _ e => e) (fun _ _ _ e => e) (fun b ps e => ⟨#[], by rw [e]; simp⟩) (fun m hm => ?_) (fun b u e => ?_) I.bare
 ·have e : b = it := by simpa using hb
  subst e
  exact ⟨h1, hL, h2, h3⟩
 ·obtain ⟨o, es, ep, ho, r⟩ := hm
  exact ⟨o, es, ep, k _ o (Ne.symm hL) ho, r⟩
 ·refine (I.hok b u e).stay (fun c v hc q => k c v ?_ q) (fun _ q => q) fun _ _ q => q
  rcases hc with z | z
  ·rw [z]; exact nit b u e
  ·exact nit c _ z
theorem Inv.tok (I : Inv X pins σ H s) (t : Nat) : Inv X pins σ H { s with toks := t } := I.un (h' := s.heap) (t' := t) Un.refl I.hok
theorem Inv.kept {t' : Nat} (I : Inv X pins σ H s) (k : ∀ b u, s.heap.get? b = some u -> h'.get? b = some u) : Inv X pins σ H { s with heap := h', toks := t' } := I.un (Un.kept k) (I.hok.kept k)
theorem Inv.laid {a : Addr} {o : HO} {t' : Nat} (I : Inv X pins σ H s) (k : ∀ b u, s.heap.get? b = some u -> h'.get? b = some u) (hp : s.heap.objs.size <= a) (new : ObjOk X.prog X.w (upd H a o) h' a o) :
  Inv X pins σ (upd H a o) { s with heap := h', toks := t' } := I.un (Un.laid k hp (I.hok.fresh hp)) (I.hok.laid k hp new)
theorem Inv.write {x e : Addr} {o : HO} {t' : Nat} (I : Inv X pins σ H s) (mu : Mut (H x)) (he : e = x \/ H e = some (.own x)) (k : ∀ b u, b ≠ e -> s.heap.get? b = some u -> h'.get? b = some u) (heo : ∃ u, h'.get? e = some u)
  (new : ObjOk X.prog X.w (upd H x o) h' x o) : Inv X pins σ (upd H x o) { s with heap := h', toks := t' } := I.un (Un.write mu he k heo) (I.hok.write mu he k heo new)
theorem Inv.weak {σ' : List (Option V)} (I : Inv X pins σ H s) (hl : σ'.length = σ.length) (w : ∀ (i : Nat) v, σ'[i]? = some (some v) -> σ[i]? = some (some v)) : Inv X pins σ' H s :=
 ⟨I.ok, I.os, I.bare, I.base, let ⟨m, hn, hl'⟩ := I.loc; ⟨m, hn, fun i x v e1 e2 e3 => hl' i x v e1 (w i v e2) e3⟩, I.cell, I.free, I.freeC, I.pin, I.hok, hl.trans I.len⟩
theorem Inv.pins_of {pins' : List (Addr × Obj)} (I : Inv X pins σ H s) (h : ∀ p ∈ pins', s.heap.get? p.1 = some p.2 /\ H p.1 = none /\ p.1 ≠ X.env.locals /\ p.1 ∉ X.fs /\ ∀ v, p.2.data ≠ .cell v) : Inv X pins' σ H s :=
 ⟨I.ok, I.os, I.bare, I.base, I.loc, I.cell, I.free, I.freeC, fun p hp => (List.mem_append.mp hp).elim (fun z => I.pin p (List.mem_append_left _ z)) (h p), I.hok, I.len⟩
theorem nodup_ix {N : List Str} (hN : N.Nodup) {i j : Nat} {x : Str} (a : N[i]? = some x) (b : N[j]? = some x) : i = j := by
 obtain ⟨h1, e1⟩ := List.getElem?_eq_some_iff.mp a
 obtain ⟨h2, e2⟩ := List.getElem?_eq_some_iff.mp b
 exact (List.getElem_inj hN).mp (e1.trans e2.symm)
theorem store_ok2 {M : Model} {A : Around} {E : Value -> Shared -> Prop} {i : Nat} {x : Str} {v : V} {u : Value} {Q : Unit -> Shared -> Prop} (I : Inv X pins σ H s) (hN : X.N.Nodup) (hi : X.N[i]? = some x) (hx : Loc X.env.scope x) (r : RelV v u)
  (h : ∀ s', Inv X pins (σ.set i (some v)) H s' -> (∃ a, Heap.SameBut a s.heap s'.heap /\ (a = X.env.locals \/ X.env.cells.lookup x = some a)) -> Q () s') (hf : X.fn x = true \/ X.env.scope.names.lookup x = some .local := by first | exact .inl rfl | exact .inr rfl | assumption) : wpAny M A (storeName X.env x u) Q E s := by
 obtain ⟨m, hn, hl⟩ := id I.loc
 have hcls : (X.env.scope.kind == .class || (X.env.scope.kind == .module && X.env.locals != X.env.globals)) = false := by rw [I.ok.kind]; rfl
 have hiσ : i < σ.length := by rw [I.len]; exact (List.getElem?_eq_some_iff.mp hi).1
 have cne := I.cne
 have tracked : ∀ {a : Addr} {h' : Heap}, (∃ o, s.heap.get? a = some o /\ H a = none) -> Heap.SameBut a s.heap h' -> HOk X.prog X.w H h' := fun {a h'} ha hs b ob e => by
  obtain ⟨_, _, hfree⟩ := ha
  refine (I.hok b ob e).stay (fun c w' hc q => (hs.2 c ?_).trans q) (fun _ q => q) fun _ _ q => q
  rintro rfl
  rcases hc with rfl | hc
  ·rw [hfree] at e; cases e
  ·rw [hfree] at hc; cases hc
 rcases hx with hk | hk
 ·refine wpAny_storeName_local hk hn (fun h' hn' hs => ?_) hcls
  obtain ⟨oL, _, _, hoL, _⟩ := id hn
  refine h _ ⟨I.ok, I.os, I.bare, ⟨fun b o e n hb hx => ?_, fun b o e n hb hx => ?_, I.base.free, fun b o e hx => ?_, I.base.tups, I.base.frzs, I.base.tbls⟩, ⟨_, hn', fun j y v' e1 e2 e3 => ?_⟩, fun y c e => ?_, I.free, I.freeC, fun p hp => ?_, tracked ⟨oL, hoL, I.free⟩ hs, by simpa using I.len⟩ ⟨_, hs, .inl rfl⟩
  ·exact (hs.2 b (Nat.ne_of_lt (Nat.lt_of_lt_of_le (Heap.lt_size e) I.ok.above))).trans (I.base.keep b o e n hb hx)
  ·obtain ⟨sl, e1⟩ := I.base.slot b o e n hb hx
   exact ⟨sl, (hs.2 b (Nat.ne_of_lt (Nat.lt_of_lt_of_le (Heap.lt_size e) I.ok.above))).trans e1⟩
  ·obtain ⟨o', e1⟩ := I.base.there b o e hx
   exact ⟨o', (hs.2 b (Nat.ne_of_lt (Nat.lt_of_lt_of_le (Heap.lt_size e) I.ok.above))).trans e1⟩
  ·by_cases hj : j = i
   ·subst hj
    rw [hi] at e1; cases e1
    rw [List.getElem?_set_self hiσ] at e2
    cases e2
    exact ⟨u, r, .inl ⟨hk, by simp⟩⟩
   ·rw [List.getElem?_set_ne (Ne.symm hj)] at e2
    obtain ⟨u', r', q⟩ := hl j y v' e1 e2 e3
    refine ⟨u', r', ?_⟩
    rcases q with ⟨k, e⟩ | ⟨k, c, e, z⟩
    ·refine .inl ⟨k, ?_⟩
     have : y ≠ x := fun e => hj (nodup_ix hN e1 (e ▸ hi))
     simp [this, e]
    ·exact .inr ⟨k, c, e, z.sameBut hs (cne y c e)⟩
  ·obtain ⟨w', z⟩ := I.cell y c e
   exact ⟨w', z.sameBut hs (cne y c e)⟩
  ·obtain ⟨e, n, ne, nf, d⟩ := I.pin p hp
   exact ⟨(hs.2 p.1 ne).trans e, n, ne, nf, d⟩
 ·have hfn : X.fn x = true := by
   rcases hf with z | z
   ·exact z
   ·rw [z] at hk; cases hk
  obtain ⟨c, hc⟩ := I.ok.has x (.inl hk)
  obtain ⟨w', z⟩ := I.cell x c hc
  refine wpAny_storeName_cell I.ok.kind hk hc z (fun h' hc' hs => ?_)
  obtain ⟨oc, hoc, hocd⟩ := id z
  refine h { s with heap := h' } ⟨I.ok, I.os, I.bare, ⟨fun b o e n hb hx => ?_, fun b o e n hb hx => ?_, I.base.free, fun b o e hx => ?_, I.base.tups, I.base.frzs, I.base.tbls⟩, ⟨m, hn.sameBut hs (Ne.symm (cne x c hc)), fun j y v' e1 e2 e3 => ?_⟩, fun y c' e => ?_, I.free, I.freeC, fun p hp => ?_, tracked ⟨oc, hoc, I.freeC x c hc⟩ hs, by simpa using I.len⟩ ⟨c, hs, .inr hc⟩
  ·exact (hs.2 b (Nat.ne_of_lt (Nat.lt_of_lt_of_le (Heap.lt_size e) (I.ok.cab x c hfn hc)))).trans (I.base.keep b o e n hb hx)
  ·obtain ⟨sl, e1⟩ := I.base.slot b o e n hb hx
   exact ⟨sl, (hs.2 b (Nat.ne_of_lt (Nat.lt_of_lt_of_le (Heap.lt_size e) (I.ok.cab x c hfn hc)))).trans e1⟩
  ·obtain ⟨o', e1⟩ := I.base.there b o e hx
   exact ⟨o', (hs.2 b (Nat.ne_of_lt (Nat.lt_of_lt_of_le (Heap.lt_size e) (I.ok.cab x c hfn hc)))).trans e1⟩
  ·by_cases hj : j = i
   ·subst hj
    rw [hi] at e1; cases e1
    rw [List.getElem?_set_self hiσ] at e2
    cases e2
    exact ⟨u, r, .inr ⟨.inl hk, c, hc, hc'⟩⟩
   ·rw [List.getElem?_set_ne (Ne.symm hj)] at e2
    obtain ⟨u', r', q⟩ := hl j y v' e1 e2 e3
    refine ⟨u', r', ?_⟩
    rcases q with q | ⟨k, c', e, z'⟩
    ·exact .inl q
    ·refine .inr ⟨k, c', e, z'.sameBut hs ?_⟩
     rintro rfl
     exact hj (nodup_ix hN e1 (I.ok.inj _ _ _ e hc ▸ hi))
  ·by_cases hcc : c' = c
   ·subst hcc; exact ⟨_, hc'⟩
   ·obtain ⟨w2, z2⟩ := I.cell y c' e
    exact ⟨w2, z2.sameBut hs hcc⟩
  ·obtain ⟨e, n, ne, nf, d⟩ := I.pin p hp
   refine ⟨(hs.2 p.1 ?_).trans e, n, ne, nf, d⟩
   intro q
   rw [q, hoc] at e
   have q' : oc = p.2 := Option.some.inj e
   exact d w' (by rw [<- q']; exact hocd)
theorem store_ok {M : Model} {A : Around} {E : Value -> Shared -> Prop} {i : Nat} {x : Str} {v : V} {u : Value} {Q : Unit -> Shared -> Prop} (I : Inv X pins σ H s) (hN : X.N.Nodup) (hi : X.N[i]? = some x) (hx : Loc X.env.scope x) (r : RelV v u)
  (h : ∀ s', Inv X pins (σ.set i (some v)) H s' -> Q () s') (hf : X.fn x = true \/ X.env.scope.names.lookup x = some .local := by first | exact .inl rfl | exact .inr rfl | assumption) : wpAny M A (storeName X.env x u) Q E s :=
 store_ok2 I hN hi hx r (fun s' I' _ => h s' I') hf
theorem Inv.call' {s' : Shared} {ch : List Addr} (I : Inv X pins σ H s) (ho : s'.os = s.os) (u : Un (frs X.stack) ch H H' s.heap s'.heap) (hok : HOk X.prog X.w H' s'.heap) (hg : AllBare s'.gens)
  (hch : ∀ b ∈ ch, (b ∈ X.ex \/ X.s₀.heap.objs.size <= b) /\ b ≠ X.env.locals /\ (∀ x c, X.env.cells.lookup x = some c -> c ≠ b) /\ ∀ p ∈ X.pn ++ pins, p.1 ≠ b) : Inv X pins σ H' s' := by
 obtain ⟨h', g', d', t', o'⟩ := s'
 have e : o' = s.os := ho
 subst e
 exact I.call (g' := g') (t' := t') (d' := d') u hok hg hch
end
noncomputable abbrev XK := Value -> Option Addr -> Hp -> Prop
noncomputable abbrev St := List (Option V)
noncomputable abbrev VK := V -> Hp -> Prop
noncomputable abbrev TE := St -> Hp -> VK -> Prop
noncomputable abbrev TT := St -> Hp -> (Bool -> Hp -> Prop) -> Prop
noncomputable abbrev TA := St -> Hp -> (List V -> Hp -> Prop) -> Prop
structure Ends where
 nx : St -> Hp -> Prop
 rt : VK
 bk : St -> Hp -> Prop := fun _ _ => False
 ct : St -> Hp -> Prop := fun _ _ => False
noncomputable abbrev TS := Ends -> St -> Hp -> Prop
noncomputable def EP (X : Cx) (pins : List (Addr × Obj)) (σ : St) (Q : VK) (u : Value) (s' : Shared) : Prop := ∃ v H', Inv X pins σ H' s' /\ RelV v u /\ Q v H'
noncomputable def TP (X : Cx) (pins : List (Addr × Obj)) (σ : St) (Q : Bool -> Hp -> Prop) (b : Bool) (s' : Shared) : Prop := ∃ H', Inv X pins σ H' s' /\ Q b H'
noncomputable def AP (X : Cx) (pins : List (Addr × Obj)) (σ : St) (Q : List V -> Hp -> Prop) (us : List Value) (s' : Shared) : Prop := ∃ vs H', Inv X pins σ H' s' /\ Vals vs us /\ Q vs H'
noncomputable def SP (X : Cx) (pins : List (Addr × Obj)) (D : Ends) (f : Flow) (s' : Shared) : Prop :=
 match f with
 | .next => ∃ σ' H', Inv X pins σ' H' s' /\ D.nx σ' H'
 | .brk => ∃ σ' H', Inv X pins σ' H' s' /\ D.bk σ' H'
 | .cont => ∃ σ' H', Inv X pins σ' H' s' /\ D.ct σ' H'
 | .ret u => ∃ v σ' H', Inv X pins σ' H' s' /\ RelV v u /\ D.rt v H'
noncomputable def PE (X : Cx) (e : Expr) (t : TE) : Prop :=
 ∀ (pins : List (Addr × Obj)) (s : Shared) (σ : St) (H : Hp) (Q : VK), Inv X pins σ H s -> t σ H Q -> wpAny (model X.prog X.w) X.A (eval e X.env) (EP X pins σ Q) X.xe s
noncomputable def PT (X : Cx) (e : Expr) (t : TT) : Prop :=
 ∀ (pins : List (Addr × Obj)) (s : Shared) (σ : St) (H : Hp) (Q : Bool -> Hp -> Prop), Inv X pins σ H s -> t σ H Q -> wpAny (model X.prog X.w) X.A (isTrue e X.env (eval e X.env)) (TP X pins σ Q) X.xe s
noncomputable def PW (X : Cx) (e : Expr) (t : TT) : Prop :=
 ∀ (whole : Sem Value) (pins : List (Addr × Obj)) (s : Shared) (σ : St) (H : Hp) (Q : Bool -> Hp -> Prop), Inv X pins σ H s -> t σ H Q -> wpAny (model X.prog X.w) X.A (isTrue e X.env whole) (TP X pins σ Q) X.xe s
theorem PW.pt {X : Cx} {e : Expr} {t : TT} (h : PW X e t) : PT X e t := h _
noncomputable def PA (X : Cx) (es : List Expr) (t : TA) : Prop :=
 ∀ (pos : Pos) (pins : List (Addr × Obj)) (s : Shared) (σ : St) (H : Hp) (Q : List V -> Hp -> Prop), Inv X pins σ H s -> t σ H Q -> wpAny (model X.prog X.w) X.A (spliced (backTo pos (starEach es X.env))) (AP X pins σ Q) X.xe s
noncomputable def PS (X : Cx) (st : Stmt) (t : TS) : Prop :=
 ∀ (pins : List (Addr × Obj)) (s : Shared) (σ : St) (H : Hp) (D : Ends), Inv X pins σ H s -> t D σ H -> wpAny (model X.prog X.w) X.A (exec st X.env) (SP X pins D) X.xe s
noncomputable def PSs (X : Cx) (st : List Stmt) (t : TS) : Prop :=
 ∀ (pins : List (Addr × Obj)) (s : Shared) (σ : St) (H : Hp) (D : Ends), Inv X pins σ H s -> t D σ H -> wpAny (model X.prog X.w) X.A (execs st X.env) (SP X pins D) X.xe s
theorem thn {α : Type} {t : Sem α} {Q Q' : α -> Shared -> Prop} {M : Model} {A : Around} {E : Value -> Shared -> Prop} {s : Shared} (h : wpAny M A t Q E s) (hQ : ∀ a s, Q a s -> Q' a s) : wpAny M A t Q' E s := wpAny_mono h hQ fun _ _ x => x
end L2
namespace L2
open PySem PySem.Spec PyProof.Rows
section
variable {X : Cx}
theorem bin {a b : Expr} {ta tb : TE} (ha : PE X a ta) (hb : PE X b tb) {pins : List (Addr × Obj)} {s : Shared} {σ : St} {H : Hp} {R : V -> V -> Hp -> Prop} (I : Inv X pins σ H s) (h : ta σ H fun x H1 => tb σ H1 fun y H2 => R x y H2)
  {α : Type} {Q : α -> Shared -> Prop} {f : Value -> Value -> Sem α}
  (hf : ∀ v u s2 x y H2, Inv X pins σ H2 s2 -> RelV x v -> RelV y u -> R x y H2 -> wpAny (model X.prog X.w) X.A (f v u) Q X.xe s2) :
  wpAny (model X.prog X.w) X.A (eval a X.env) (fun v s₁ => wpAny (model X.prog X.w) X.A (eval b X.env) (fun u s₂ => wpAny (model X.prog X.w) X.A (f v u) Q X.xe s₂) X.xe s₁) X.xe s := by
 refine thn (ha pins s σ H _ I h) fun v s1 ⟨x, H1, I1, r1, q1⟩ => ?_
 refine thn (hb pins s1 σ H1 _ I1 q1) fun u s2 ⟨y, H2, I2, r2, q2⟩ => ?_
 exact hf v u s2 x y H2 I2 r1 r2 q2
noncomputable def tVar (i : Nat) : TE := fun σ H Q => ∃ v, σ[i]? = some (some v) /\ Q v H
noncomputable def tC (v : V) : TE := fun _ H Q => Q v H
theorem pe_var {i : Nat} {x : Str} {pos : Pos} (hN : X.N[i]? = some x) (hv : Vis X.env.scope x) (hd : (x == ("__debug__" : Str)) = false := by decide) (hcd : (x == ("__classdict__" : Str)) = false := by decide) : PE X (.Name x pos) (tVar i) := by
 intro pins s σ H Q I h
 obtain ⟨v, e, h⟩ := h
 obtain ⟨m, hn, hl⟩ := I.loc
 obtain ⟨u, r, l⟩ := hl i x v hN e hv
 have fin : EP X pins σ Q u s := ⟨v, H, I, r, h⟩
 rcases l with ⟨hk, hm⟩ | ⟨hk, c, hc, hcell⟩
 ·exact wpAny_Name (wpAny_loadName_local I.ok.kind hk hn hm fin) hd
 ·rcases hk with hk | hk
  ·exact wpAny_Name (wpAny_loadName_cell I.ok.kind hk hc hcell fin) hd
  ·exact wpAny_Name (wpAny_loadName_free I.ok.kind hk hc hcell fin hcd) hd
theorem pe_int {i j pos} : PE X (.Constant (.int i) j pos) (tC (.int i)) := fun _ _ _ H _ I h => wpAny_Constant_int ⟨.int i, H, I.tok _, ⟨_, rfl⟩, h⟩
theorem pe_bl {b j pos} : PE X (.Constant (.bool b) j pos) (tC (.bl b)) := fun _ _ _ H _ I h => Constant_bool ⟨.bl b, H, I, rfl, h⟩
theorem pe_non {j pos} : PE X (.Constant .none j pos) (tC .non) := fun _ _ _ H _ I h => Constant_none ⟨.non, H, I, rfl, h⟩
theorem pe_str {x j pos} : PE X (.Constant (.str x) j pos) (tC (.str x)) := fun _ _ _ H _ I h => Calls.Constant_str ⟨.str x, H, I.tok _, ⟨_, rfl⟩, h⟩
noncomputable def Gl (X : Cx) (x : Str) : Prop := X.env.kindOf x = some .globalImplicit
theorem ld_glob {E : Value -> Shared -> Prop} {pins : List (Addr × Obj)} {s : Shared} {σ : St} {H : Hp} {x : Str} {u : Value} {pos : Pos} {Q : Value -> Shared -> Prop} (I : Inv X pins σ H s) (hg : Gl X x) (hm : X.mg x = some u) (h : Q u s)
  (hd : (x == ("__debug__" : Str)) = false := by decide) : wpAny (model X.prog X.w) X.A (eval (.Name x pos) X.env) Q E s :=
 Calls.Name_function_global I.ok.kind hg (Calls.loadGlobal_global (by rw [I.ok.glob]; exact I.mod.glob.keeps I.bk) hm h) hd
theorem ld_blt {E : Value -> Shared -> Prop} {pins : List (Addr × Obj)} {s : Shared} {σ : St} {H : Hp} {x : Str} {u : Value} {pos : Pos} {Q : Value -> Shared -> Prop} (I : Inv X pins σ H s) (hg : Gl X x) (hm : X.mg x = none) (hv : bootBuiltins x = some u) (h : Q u s)
  (hn : x ≠ "__name__" := by decide) (hd : (x == ("__debug__" : Str)) = false := by decide) : wpAny (model X.prog X.w) X.A (eval (.Name x pos) X.env) Q E s := by
 obtain ⟨mb, h1, h2⟩ := I.mod.blt
 exact Calls.Name_function_global I.ok.kind hg (Calls.loadGlobal_builtin (by rw [I.ok.glob]; exact I.mod.glob.keeps I.bk) hm (by rw [I.ok.blt]; exact h1.keeps I.bk) ((h2 x hn).trans hv) h) hd
theorem pe_glob {x : Str} {v : V} {u : Value} {pos : Pos} (hg : Gl X x) (hm : X.mg x = some u) (r : RelV v u) (hd : (x == ("__debug__" : Str)) = false := by decide) : PE X (.Name x pos) (tC v) :=
 fun _ _ _ H _ I h => ld_glob I hg hm ⟨v, H, I, r, h⟩ hd
theorem pe_bltn {x : Str} {v : V} {u : Value} {pos : Pos} (hg : Gl X x) (hm : X.mg x = none) (hv : bootBuiltins x = some u) (r : RelV v u) (hn : x ≠ "__name__" := by decide) (hd : (x == ("__debug__" : Str)) = false := by decide) : PE X (.Name x pos) (tC v) :=
 fun _ _ _ H _ I h => ld_blt I hg hm hv ⟨v, H, I, r, h⟩ hn hd
variable {a b : Expr} {ta tb : TE} {pos : Pos}
variable {tA tB' : TT} {rest : List Expr}
noncomputable def tAnd (t u : TT) : TT := fun σ H Q => t σ H fun c H1 => if c = true then u σ H1 Q else Q false H1
noncomputable def tOr (t u : TT) : TT := fun σ H Q => t σ H fun c H1 => if c = true then Q true H1 else u σ H1 Q
noncomputable def tNot (t : TT) : TT := fun σ H Q => t σ H fun c H1 => Q (!c) H1
theorem pw_and1 (ha : PT X a tA) : PW X (.BoolOp .And [a] pos) tA := by
 intro wh pins s σ H Q I h
 refine isTrue_and (thn (ha pins s σ H Q I h) fun c s1 e => ?_)
 cases c with
 | true => exact isTrue_and_nil e
 | false => exact e
theorem pw_or1 (ha : PT X a tA) : PW X (.BoolOp .Or [a] pos) tA := by
 intro wh pins s σ H Q I h
 refine isTrue_or (thn (ha pins s σ H Q I h) fun c s1 e => ?_)
 cases c with
 | false => exact isTrue_or_nil e
 | true => exact e
theorem pw_and (ha : PT X a tA) (hb : PW X (.BoolOp .And (b :: rest) pos) tB') : PW X (.BoolOp .And (a :: b :: rest) pos) (tAnd tA tB') := by
 intro wh pins s σ H Q I h
 refine isTrue_and (thn (ha pins s σ H _ I h) fun c s1 ⟨H1, I1, q1⟩ => ?_)
 cases c with
 | true => exact hb wh pins s1 σ H1 Q I1 q1
 | false => exact ⟨H1, I1, q1⟩
theorem pw_or (ha : PT X a tA) (hb : PW X (.BoolOp .Or (b :: rest) pos) tB') : PW X (.BoolOp .Or (a :: b :: rest) pos) (tOr tA tB') := by
 intro wh pins s σ H Q I h
 refine isTrue_or (thn (ha pins s σ H _ I h) fun c s1 ⟨H1, I1, q1⟩ => ?_)
 cases c with
 | true => exact ⟨H1, I1, q1⟩
 | false => exact hb wh pins s1 σ H1 Q I1 q1
theorem pt_not (ha : PT X a tA) : PT X (.UnaryOp .Not a pos) (tNot tA) := by
 intro pins s σ H Q I h
 exact isTrue_not (ha pins s σ H (fun c H1 => Q (!c) H1) I h)
noncomputable def tAndV (ta tb : TE) : TE := fun σ H Q => ta σ H fun x H1 => ∃ c, x = .bl c /\ if c = true then tb σ H1 Q else Q (.bl false) H1
noncomputable def tOrV (ta tb : TE) : TE := fun σ H Q => ta σ H fun x H1 => ∃ c, x = .bl c /\ if c = true then Q (.bl true) H1 else tb σ H1 Q
noncomputable def tNotV (ta : TE) : TE := fun σ H Q => ta σ H fun x H1 => ∃ c, x = .bl c /\ Q (.bl (!c)) H1
theorem pe_one {op} {t : TE} (h : PE X a t) : PE X (.BoolOp op [a] pos) t := fun pins s σ H Q I hw => BoolOp_one (h pins s σ H Q I hw)
theorem pe_and (ha : PE X a ta) (hb : PE X (.BoolOp .And (b :: rest) pos) tb) : PE X (.BoolOp .And (a :: b :: rest) pos) (tAndV ta tb) := by
 intro pins s σ H Q I h
 refine BoolOp_and (thn (ha pins s σ H _ I h) fun v s1 ⟨x, H1, I1, r1, q1⟩ => ?_)
 obtain ⟨c, rfl, q1⟩ := q1
 cases r1
 refine wpAny_truthy_bool ?_
 cases c with
 | true => exact hb pins s1 σ H1 Q I1 q1
 | false => exact ⟨.bl false, H1, I1, rfl, q1⟩
theorem pe_or (ha : PE X a ta) (hb : PE X (.BoolOp .Or (b :: rest) pos) tb) : PE X (.BoolOp .Or (a :: b :: rest) pos) (tOrV ta tb) := by
 intro pins s σ H Q I h
 refine BoolOp_or (thn (ha pins s σ H _ I h) fun v s1 ⟨x, H1, I1, r1, q1⟩ => ?_)
 obtain ⟨c, rfl, q1⟩ := q1
 cases r1
 refine wpAny_truthy_bool ?_
 cases c with
 | false => exact hb pins s1 σ H1 Q I1 q1
 | true => exact ⟨.bl true, H1, I1, rfl, q1⟩
theorem pe_not (ha : PE X a ta) : PE X (.UnaryOp .Not a pos) (tNotV ta) := by
 intro pins s σ H Q I h
 refine UnaryOp_ (thn (ha pins s σ H _ I h) fun v s1 ⟨x, H1, I1, r1, q1⟩ => ?_)
 obtain ⟨c, rfl, q1⟩ := q1
 cases r1
 exact not_of (wpAny_truthy_bool ⟨.bl (!c), H1, I1, rfl, q1⟩)
noncomputable def tIf (t : TT) (ta tb : TE) : TE := fun σ H Q => t σ H fun c H1 => if c = true then ta σ H1 Q else tb σ H1 Q
theorem pe_ifExp {c : Expr} (hc : PT X c tA) (ha : PE X a ta) (hb : PE X b tb) : PE X (.IfExp c a b pos) (tIf tA ta tb) := by
 intro pins s σ H Q I h
 refine wpAny_IfExp (thn (hc pins s σ H _ I h) fun d s1 ⟨H1, I1, q1⟩ => ?_)
 cases d with
 | true => exact ha pins s1 σ H1 Q I1 q1
 | false => exact hb pins s1 σ H1 Q I1 q1
end
end L2
namespace L2
open PySem PySem.Spec PyProof.Rows
noncomputable def SqL (K : PySem.W.Frag) (H : Hp) (a : Addr) (xs : List V) : Prop :=
 Rd H a (.lst xs) \/
  ∃ (o : Obj) (its : Array Value) (n : Nat), K.lookup a = some o /\ o.cls = .type "list" /\ o.dict = none /\ o.data = .seq its n /\ its.size <= sizeLine /\ Vals xs its.toList
noncomputable def SqT (K : PySem.W.Frag) (H : Hp) (a : Addr) (xs : List V) : Prop :=
 Rd H a (.tup xs) \/
  ∃ (o : Obj) (its : Array Value) (n : Nat), K.lookup a = some o /\ o.cls = .type "tuple" /\ o.data = .seq its n /\ its.size <= sizeLine /\ Vals xs its.toList
noncomputable def absV : Value -> Option V
 | .none => some .non
 | .bool b => some (.bl b)
 | .int i _ => some (.int i)
 | .str x _ => some (.str x)
 | .bytes b _ => some (.byt b)
 | .float b _ => some (.flt b)
 | .ref a => some (.ref a)
 | .type n => some (.ty n)
 | _ => none
theorem RelV.abs {x : V} {u : Value} (r : RelV x u) : absV u = some x := by
 cases x with
 | non => cases r; rfl
 | bl _ => cases r; rfl
 | int _ => obtain ⟨t, rfl⟩ := r; rfl
 | str _ => obtain ⟨t, rfl⟩ := r; rfl
 | byt _ => obtain ⟨t, rfl⟩ := r; rfl
 | flt _ => obtain ⟨t, rfl⟩ := r; rfl
 | ref _ => cases r; rfl
 | ty _ => cases r; rfl
theorem RelV.inj {x y : V} {u : Value} (r : RelV x u) (q : RelV y u) : x = y := Option.some.inj (r.abs.symm.trans q.abs)
theorem Vals.inj : ∀ {xs ys : List V} {us : List Value}, Vals xs us -> Vals ys us -> xs = ys
 | _, _, _, .nil, .nil => rfl
 | _, _, _, .cons r t, .cons r' t' => by rw [r.inj r', Vals.inj t t']
section
variable {X : Cx} {pins : List (Addr × Obj)} {σ : St} {H : Hp} {s : Shared} {a : Addr} {xs ys : List V}
theorem SqL.of {K : PySem.W.Frag} (h : H a = some (.lst xs)) : SqL K H a xs := .inl (.inl h)
theorem SqT.of {K : PySem.W.Frag} (h : H a = some (.tup xs)) : SqT K H a xs := .inl (.inl h)
theorem Inv.list (I : Inv X pins σ H s) (h : SqL X.K H a xs) : ∃ its : List Value, Vals xs its /\ PlainL s.heap a its.toArray /\ xs.length <= sizeLine := by
 rcases h with h | ⟨o, its, n, hk, hc, hd, hs, hz, r⟩
 ·obtain ⟨z, its, n, r, e⟩ := h.ok I.hok
  exact ⟨its, r, ⟨_, n, e, rfl, rfl, rfl⟩, z⟩
 ·refine ⟨its.toList, r, ⟨o, n, I.kIn a o hk, hc, hd, by simpa using hs⟩, ?_⟩
  have e := r.length
  simp only [Array.length_toList] at e
  omega
theorem Inv.tuple (I : Inv X pins σ H s) (h : SqT X.K H a xs) : ∃ its : List Value, Vals xs its /\ IsTup s.heap a its.toArray /\ xs.length <= sizeLine := by
 rcases h with h | ⟨o, its, n, hk, hc, hs, hz, r⟩
 ·obtain ⟨z, its, r, p⟩ := h.ok I.hok
  exact ⟨its, r, p.tup, z⟩
 ·refine ⟨its.toList, r, ⟨o, I.kIn a o hk, hc, n, by simpa using hs⟩, ?_⟩
  have e := r.length
  simp only [Array.length_toList] at e
  omega
theorem Inv.list_inj (I : Inv X pins σ H s) (h : SqL X.K H a xs) (h' : SqL X.K H a ys) : xs = ys := by
 obtain ⟨its, r, ⟨o, n, e, _, _, d⟩, _⟩ := I.list h
 obtain ⟨its', r', ⟨o', n', e', _, _, d'⟩, _⟩ := I.list h'
 rw [e] at e'; cases e'
 rw [d] at d'
 injection d' with d1 _
 have : its = its' := by simpa using congrArg Array.toList d1
 subst this
 exact r.inj r'
theorem Inv.tuple_inj (I : Inv X pins σ H s) (h : SqT X.K H a xs) (h' : SqT X.K H a ys) : xs = ys := by
 obtain ⟨its, r, ⟨o, e, _, n, d⟩, _⟩ := I.tuple h
 obtain ⟨its', r', ⟨o', e', _, n', d'⟩, _⟩ := I.tuple h'
 rw [e] at e'; cases e'
 rw [d] at d'
 injection d' with d1 _
 have : its = its' := by simpa using congrArg Array.toList d1
 subst this
 exact r.inj r'
end
noncomputable abbrev Cx.wish (X : Cx) (E : Value -> Shared -> Prop) : Cx := { X with xe := E }
noncomputable abbrev Cx.nox (X : Cx) : Cx := X.wish fun _ _ => False
theorem Cx.Ok.wish {X : Cx} (ok : X.Ok) (E : Value -> Shared -> Prop) : (X.wish E).Ok :=
 ⟨ok.mod, ok.kind, ok.glob, ok.blt, ok.above, ok.inj, ok.has, ok.cab, ok.hd, ok.frames, ok.stk, ok.exf, ok.bs, ok.bsz, ok.noex, ok.exfs, ok.funs, ok.frf⟩
theorem Cx.Ok.unwish {X : Cx} {E : Value -> Shared -> Prop} (ok : (X.wish E).Ok) : X.Ok :=
 ⟨ok.mod, ok.kind, ok.glob, ok.blt, ok.above, ok.inj, ok.has, ok.cab, ok.hd, ok.frames, ok.stk, ok.exf, ok.bs, ok.bsz, ok.noex, ok.exfs, ok.funs, ok.frf⟩
section
variable {X : Cx} {pins : List (Addr × Obj)} {σ : St} {H : Hp} {s : Shared} {E : Value -> Shared -> Prop}
theorem Inv.wish (I : Inv X pins σ H s) (E : Value -> Shared -> Prop) : Inv (X.wish E) pins σ H s := ⟨I.ok.wish E, I.os, I.bare, I.base, I.loc, I.cell, I.free, I.freeC, I.pin, I.hok, I.len⟩
theorem Inv.unwish (I : Inv (X.wish E) pins σ H s) : Inv X pins σ H s := ⟨I.ok.unwish, I.os, I.bare, I.base, I.loc, I.cell, I.free, I.freeC, I.pin, I.hok, I.len⟩
theorem SP.unwish {D : Ends} {f : Flow} {s' : Shared} (h : SP (X.wish E) pins D f s') : SP X pins D f s' := by
 cases f with
 | next => obtain ⟨σ', H', I, q⟩ := h; exact ⟨σ', H', I.unwish, q⟩
 | brk => obtain ⟨σ', H', I, q⟩ := h; exact ⟨σ', H', I.unwish, q⟩
 | cont => obtain ⟨σ', H', I, q⟩ := h; exact ⟨σ', H', I.unwish, q⟩
 | ret u => obtain ⟨v, σ', H', I, r, q⟩ := h; exact ⟨v, σ', H', I.unwish, r, q⟩
theorem PE.nox {e : Expr} {t : TE} (h : PE X.nox e t) : PE X e t := fun pins s σ H Q I hw =>
 wpAny_mono (h pins s σ H Q (I.wish _) hw) (fun _ _ ⟨v, H', I', r, q⟩ => ⟨v, H', I'.unwish, r, q⟩) fun _ _ z => False.elim z
theorem PT.nox {e : Expr} {t : TT} (h : PT X.nox e t) : PT X e t := fun pins s σ H Q I hw =>
 wpAny_mono (h pins s σ H Q (I.wish _) hw) (fun _ _ ⟨H', I', q⟩ => ⟨H', I'.unwish, q⟩) fun _ _ z => False.elim z
theorem PSs.nox {st : List Stmt} {t : TS} (h : PSs X.nox st t) : PSs X st t := fun pins s σ H D I hw =>
 wpAny_mono (h pins s σ H D (I.wish _) hw) (fun _ _ q => q.unwish) fun _ _ z => False.elim z
end
section
variable {X : Cx} {st : Stmt} {rest : List Stmt} {t u : TS} {e : Expr} {te : TE} {pos : Pos}
noncomputable def tNext : TS := fun D σ H => D.nx σ H
noncomputable def tSeq (t u : TS) : TS := fun D σ H => t { D with nx := u D } σ H
theorem pss_nil : PSs X [] tNext := fun _ _ σ H _ I h => wpAny_execs_nil ⟨σ, H, I, h⟩
theorem pss_cons (h1 : PS X st t) (h2 : PSs X rest u) : PSs X (st :: rest) (tSeq t u) := by
 intro pins s σ H D I h
 refine wpAny_execs_cons (thn (h1 pins s σ H { D with nx := u D } I h) fun f s1 q => ?_)
 cases f with
 | next =>
  obtain ⟨σ', H', I', q⟩ := q
  exact h2 pins s1 σ' H' D I' q
 | ret v => exact q
 | brk => exact q
 | cont => exact q
theorem ps_pass : PS X (.Pass pos) tNext := fun _ _ σ H _ I h => wpAny_Pass ⟨σ, H, I, h⟩
theorem Inv.quiet {pins : List (Addr × Obj)} {σ : St} {H : Hp} {s : Shared} (I : Inv X pins σ H s) : interactive X.env = false := by simp [interactive, I.ok.kind]
noncomputable def tDrop (te : TE) : TS := fun D σ H => te σ H fun _ H1 => D.nx σ H1
theorem ps_expr (he : PE X e te) (hs : swapsWith e none pos.line X.env = pure false := by rfl) : PS X (.Expr e pos) (tDrop te) := by
 intro pins s σ H D I h
 exact wpAny_Expr_any (thn (he pins s σ H _ I h) fun v s1 ⟨x, H1, I1, r1, q1⟩ => ⟨σ, H1, I1, q1⟩) I.quiet hs
noncomputable def tRet (te : TE) : TS := fun D σ H => te σ H D.rt
theorem ps_ret (he : PE X e te) : PS X (.Return (some e) pos) (tRet te) := by
 intro pins s σ H D I h
 exact wpAny_Return_some (thn (he pins s σ H _ I h) fun v s1 ⟨x, H1, I1, r1, q1⟩ => ⟨x, σ, H1, I1, r1, q1⟩)
noncomputable def tRetN : TS := fun D _ H => D.rt .non H
theorem ps_retN : PS X (.Return none pos) tRetN := fun _ _ σ H _ I h => wpAny_Return_none ⟨.non, σ, H, I, rfl, h⟩
noncomputable def tIfS (c : TT) (t u : TS) : TS := fun D σ H => c σ H fun b H1 => if b = true then t D σ H1 else u D σ H1
theorem ps_if {c : Expr} {a b : List Stmt} {tc : TT} (hc : PT X c tc) (ha : PSs X a t) (hb : PSs X b u) : PS X (.If c a b pos) (tIfS tc t u) := by
 intro pins s σ H D I h
 refine wpAny_If (thn (hc pins s σ H _ I h) fun d s1 ⟨H1, I1, q1⟩ => ?_)
 cases d with
 | true => exact ha pins s1 σ H1 D I1 q1
 | false => exact hb pins s1 σ H1 D I1 q1
end
noncomputable abbrev TG := V -> St -> Hp -> (St -> Hp -> Prop) -> Prop
noncomputable abbrev TGs := List V -> St -> Hp -> (St -> Hp -> Prop) -> Prop
noncomputable def PG (X : Cx) (target : Expr) (t : TG) : Prop :=
 ∀ (pins : List (Addr × Obj)) (s : Shared) (σ : St) (H : Hp) (v : V) (u : Value) (Q : St -> Hp -> Prop), Inv X pins σ H s -> RelV v u -> t v σ H Q ->
  wpAny (model X.prog X.w) X.A (assign target X.env u) (fun _ s' => ∃ σ' H', Inv X pins σ' H' s' /\ Q σ' H') X.xe s
noncomputable def PGs (X : Cx) (ts : List Expr) (t : TGs) : Prop :=
 ∀ (pins : List (Addr × Obj)) (s : Shared) (σ : St) (H : Hp) (vs : List V) (us : List Value) (Q : St -> Hp -> Prop), Inv X pins σ H s -> Vals vs us -> t vs σ H Q ->
  wpAny (model X.prog X.w) X.A (assignInOrder ((assignEach ts X.env).map (·.2)) us) (fun _ s' => ∃ σ' H', Inv X pins σ' H' s' /\ Q σ' H') X.xe s
noncomputable abbrev TSet := V -> V -> V -> Hp -> (Hp -> Prop) -> Prop
noncomputable def PSet (X : Cx) (t : TSet) : Prop :=
 ∀ (pins : List (Addr × Obj)) (s : Shared) (σ : St) (H : Hp) (o i v : V) (ov iv u : Value) (Q : Hp -> Prop), Inv X pins σ H s -> RelV o ov -> RelV i iv -> RelV v u -> t o i v H Q ->
  wpAny (model X.prog X.w) X.A (setItem ov iv u) (fun _ s' => ∃ H', Inv X pins σ H' s' /\ Q H') X.xe s
section
variable {X : Cx} {pos : Pos}
noncomputable def gName (i : Nat) : TG := fun v σ H Q => Q (σ.set i (some v)) H
theorem pg_name {i : Nat} {x : Str} (hN : X.N.Nodup) (hi : X.N[i]? = some x) (hx : Loc X.env.scope x) (hf : X.fn x = true \/ X.env.scope.names.lookup x = some .local := by first | exact .inl rfl | exact .inr rfl | assumption) : PG X (.Name x pos) (gName i) := by
 intro pins s σ H v u Q I r h
 exact wpAny_assign_Name (store_ok I hN hi hx r (fun s' I' => ⟨_, H, I', h⟩) hf)
noncomputable def gNil : TGs := fun vs σ H Q => vs = [] /\ Q σ H
noncomputable def gCons (t : TG) (u : TGs) : TGs := fun vs σ H Q => ∃ v r, vs = v :: r /\ t v σ H fun σ' H' => u r σ' H' Q
theorem pgs_nil : PGs X [] gNil := by
 intro pins s σ H vs us Q I r h
 obtain ⟨e, h⟩ := h
 subst e
 cases r
 exact assignInOrder_nil ⟨σ, H, I, h⟩
theorem pgs_cons {e : Expr} {es : List Expr} {t : TG} {u : TGs} (h1 : PG X e t) (h2 : PGs X es u)
  (hs : (assignEach (e :: es) X.env).map (·.2) = assign e X.env :: (assignEach es X.env).map (·.2) := by rfl) : PGs X (e :: es) (gCons t u) := by
 intro pins s σ H vs us Q I r h
 obtain ⟨v, vr, e1, h⟩ := h
 subst e1
 cases r with
 | cons r rr =>
  rw [hs]
  refine assignInOrder_cons (thn (h1 pins s σ H _ _ _ I r h) fun _ s1 ⟨σ1, H1, I1, q1⟩ => ?_)
  exact h2 pins s1 σ1 H1 _ _ Q I1 rr q1
noncomputable def gTup (K : PySem.W.Frag) (n : Nat) (t : TGs) : TG := fun v σ H Q => ∃ a xs, v = .ref a /\ SqT K H a xs /\ xs.length = n /\ t xs σ H Q
theorem pg_tup {es : List Expr} {k : Nat} {t : TGs} {n : Nat} (hc : X.calm = true) (h : PGs X es t)
  (hn : (assignEach es X.env).length = n := by rfl) (hst : (assignEach es X.env).findIdx? (·.1) = none := by rfl) : PG X (.Tuple es k pos) (gTup X.K n t) := by
 intro pins s σ H v u Q I r hw
 obtain ⟨a, xs, e1, hq, hl, hw⟩ := hw
 subst e1
 cases r
 obtain ⟨its, rv, ht, hz⟩ := I.tuple hq
 refine assign_Tuple_tuple (I.ok.hd hc) ht (by simp [hn, <- hl, rv.length]) hst fun h' hx => ?_
 have I1 : Inv X pins σ H { s with heap := h' } := I.kept (t' := s.toks) fun b o e => hx b o (Nat.ne_of_lt (Heap.lt_size e)) e
 exact h pins _ σ H xs _ Q I1 (by simpa using rv) hw
noncomputable def gSub (to ti : TE) (t : TSet) : TG := fun v σ H Q => to σ H fun o H1 => ti σ H1 fun i H2 => t o i v H2 fun H3 => Q σ H3
theorem pg_sub {o i : Expr} {to ti : TE} {t : TSet} (ho : PE X o to) (hi : PE X i ti) (hs : PSet X t)
  (ha : ∀ v, assign (.Subscript o i pos) X.env v = (do
   let ov <- holding [v] (eval o X.env)
   let iv <- holding [v, ov] (eval i X.env)
   standAt pos
   holding [v, ov, iv] (setItem ov iv v)
   release [v, ov, iv] []) := by intro _; rfl) : PG X (.Subscript o i pos) (gSub to ti t) := by
 intro pins s σ H v u Q I r h
 rw [ha]
 refine wpAny_bind (wpAny_holding (thn (ho pins s σ H _ I h) fun ov s1 ⟨x, H1, I1, r1, q1⟩ => ?_))
 refine wpAny_bind (wpAny_holding (thn (hi pins s1 σ H1 _ I1 q1) fun iv s2 ⟨y, H2, I2, r2, q2⟩ => ?_))
 refine wpAny_bind (wpAny_standAt (wpAny_bind (wpAny_holding (thn (hs pins s2 σ H2 x y v ov iv u _ I2 r1 r2 r q2) fun _ s3 ⟨H3, I3, q3⟩ => ?_))))
 exact wpAny_release ⟨σ, H3, I3, q3⟩
noncomputable def tAsg (te : TE) (g : TG) : TS := fun D σ H => te σ H fun x H1 => g x σ H1 D.nx
theorem ps_asg {tg e : Expr} {te : TE} {g : TG} (he : PE X e te) (hg : PG X tg g) (hs : swapsWithSole [tg] e pos.line X.env = pure false := by rfl) (hw : swappedStores [tg] e X.env = pure none := by rfl)
  (h1 : (assignEach [tg] X.env).map (·.2) = [assign tg X.env] := by rfl) : PS X (.Assign [tg] e pos) (tAsg te g) := by
 intro pins s σ H D I h
 refine wpAny_Assign_stores (thn (he pins s σ H _ I h) fun v s1 ⟨x, H1, I1, r1, q1⟩ => ?_) hs hw
 rw [h1]
 exact thn (hg pins s1 σ H1 x v _ I1 r1 q1) fun _ s2 q => q
theorem ps_set {i : Nat} {x : Str} {e : Expr} {te : TE} {pos' : Pos} (hN : X.N.Nodup) (hi : X.N[i]? = some x) (hx : Loc X.env.scope x) (he : PE X e te) (hs : swapsWith e (some (.Name x pos')) pos.line X.env = pure false := by rfl) (hf : X.fn x = true \/ X.env.scope.names.lookup x = some .local := by first | exact .inl rfl | exact .inr rfl | assumption) :
  PS X (.Assign [.Name x pos'] e pos) (tAsg te (gName i)) := by
 intro pins s σ H D I h
 refine wpAny_Assign_Name (thn (he pins s σ H _ I h) fun v s1 ⟨y, H1, I1, r1, q1⟩ => ?_) hs
 exact store_ok I1 hN hi hx r1 (fun s2 I2 => ⟨_, H1, I2, q1⟩) hf
noncomputable def tPar (i j : Nat) (ta : TA) : TS := fun D σ H => ta σ H fun vs H1 => ∃ v w, vs = [v, w] /\ D.nx ((σ.set i (some v)).set j (some w)) H1
theorem ps_par {i j : Nat} {x y : Str} {a b : Expr} {ta : TA} {px py pt : Pos} {kt k2 pt2} (hc : X.calm = true) (hN : X.N.Nodup) (hi : X.N[i]? = some x) (hj : X.N[j]? = some y) (hij : i ≠ j)
  (hx : X.env.scope.names.lookup x = some .local) (hy : X.env.scope.names.lookup y = some .local) (ha : PA X [a, b] ta)
  (hw : swappedStores [.Tuple [.Name x px, .Name y py] kt pt] (.Tuple [a, b] k2 pt2) X.env = pure (some [x, y]))
  (hs : swapsWithSole [.Tuple [.Name x px, .Name y py] kt pt] (.Tuple [a, b] k2 pt2) pos.line X.env = pure false := by rfl) :
  PS X (.Assign [.Tuple [.Name x px, .Name y py] kt pt] (.Tuple [a, b] k2 pt2) pos) (tPar i j ta) := by
 intro pins s σ H D I h
 rw [exec_Assign_arm]
 refine wpAny_bind (wpAny_standAt ?_)
 rw [hs]
 refine wpAny_bind (wpAny_pure ?_)
 rw [if_neg (by decide)]
 refine wpAny_bind (Tuple_ (thn (ha _ pins s σ H _ I h) fun us s1 ⟨vs, H1, I1, r1, q1⟩ => ?_))
 obtain ⟨v, w, e1, q1⟩ := q1
 subst e1
 obtain ⟨u1, u2, rfl, rv, rw'⟩ : ∃ u1 u2, us = [u1, u2] /\ RelV v u1 /\ RelV w u2 := by
  cases r1 with
  | cons p q =>
   cases q with
   | cons p' q' =>
    cases q'
    exact ⟨_, _, rfl, p, p'⟩
 refine wpAny_newObj_type ?_ (by show 2 <= sizeLine; decide)
 have I2 : Inv X pins σ H1 { s1 with heap := s1.heap.push { cls := .type "tuple", data := .seq [u1, u2].toArray } } := I1.kept (t' := s1.toks) fun b o e => Heap.get?_push_of_some _ e
 rw [hw]
 refine wpAny_bind (wpAny_pure ?_)
 show wpAny (model X.prog X.w) X.A (do rule "assign.swapped-stores"; let items <- unpackItems (.ref s1.heap.objs.size) 2 none; assignInOrder [fun v => bindName X.env y v, fun v => bindName X.env x v] items.reverse; pure Flow.next) _ _ _
 refine wpAny_bind (wpAny_rule (wpAny_bind (unpackItems_tuple (items := #[u1, u2]) (I.ok.hd hc) (IsTup.new s1.heap _) fun h' hx' => ?_)))
 have I3 := I2.kept (h' := h') (t' := s1.toks) fun b o e => hx' b o (Nat.ne_of_lt (Heap.lt_size e)) e
 show wpAny _ _ (assignInOrder [fun v => bindName X.env y v, fun v => bindName X.env x v] [u2, u1] >>= fun _ => pure Flow.next) _ _ _
 refine wpAny_bind (assignInOrder_cons (wpAny_bindName (store_ok I3 hN hj (.inl hy) rw' (fun s2 I4 => ?_) (.inr hy))))
 refine assignInOrder_cons (wpAny_bindName (store_ok I4 hN hi (.inl hx) rv (fun s3 I5 => assignInOrder_nil (wpAny_pure ?_)) (.inr hx)))
 rw [List.set_comm _ _ (Ne.symm hij)] at I5
 exact ⟨_, H1, I5, q1⟩
end
section
variable {X : Cx} {pos : Pos}
noncomputable def tWhile (c : TT) (tb : TS) : TS := fun D σ H => ∃ W : Nat -> St -> Hp -> Prop, (∃ m, W m σ H) /\ ∀ m σ H, W m σ H ->
 c σ H fun b H1 => if b = true then ∃ N : St -> Hp -> Prop, (∀ σ' H', N σ' H' -> ∃ m', m' < m /\ W m' σ' H') /\ tb { D with nx := N, ct := N, bk := D.nx } σ H1 else D.nx σ H1
theorem ps_while {c : Expr} {body : List Stmt} {tc : TT} {tb : TS} (hp : PassesOwn (model X.prog X.w) X.A X.env X.xe) (hc : PT X c tc) (hb : PSs X body tb) : PS X (.While c body [] pos) (tWhile tc tb) := by
 intro pins s σ H D I h
 obtain ⟨W, ⟨m0, w0⟩, turn⟩ := h
 refine wpAny_While (codeAny_whileLoop (fun n s' => ∃ σ' H', Inv X pins σ' H' s' /\ W n σ' H') ?_ m0 ⟨σ, H, I, w0⟩)
 rintro n s1 ⟨σ1, H1, I1, w1⟩
 refine wpAny_passesOwn hp (thn (hc pins s1 σ1 H1 _ I1 (turn n σ1 H1 w1)) fun b s2 ⟨H2, I2, q2⟩ => ?_)
 cases b with
 | true =>
  obtain ⟨N, hN, q2⟩ := q2
  rw [if_pos rfl]
  refine wpAny_passesOwn hp (thn (hb pins s2 σ1 H2 _ I2 q2) fun f s3 q3 => ?_)
  cases f with
  | next =>
   obtain ⟨σ3, H3, I3, n3⟩ := q3
   obtain ⟨m', hm, w3⟩ := hN σ3 H3 n3
   exact ⟨m', hm, σ3, H3, I3, w3⟩
  | cont =>
   obtain ⟨σ3, H3, I3, n3⟩ := q3
   obtain ⟨m', hm, w3⟩ := hN σ3 H3 n3
   exact ⟨m', hm, σ3, H3, I3, w3⟩
  | brk => exact q3
  | ret v => exact q3
 | false =>
  rw [if_neg Bool.false_ne_true]
  exact wpAny_execs_nil ⟨σ1, H2, I2, q2⟩
end
structure It where
 go : Nat -> Hp -> Prop
 yld : Nat -> Hp -> V -> Hp -> Prop
 stop : Nat -> Hp -> Prop
noncomputable def FpOk (X : Cx) (pins : List (Addr × Obj)) (H : Hp) (b : Addr) : Prop :=
 H b = none /\ b ≠ X.env.locals /\ b ∉ X.fs /\ (b ∈ X.ex \/ X.s₀.heap.objs.size <= b) /\ (∀ x c, X.env.cells.lookup x = some c -> c ≠ b) /\ ∀ p ∈ X.pn ++ pins, p.1 ≠ b
theorem Inv.fpOk {X : Cx} {pins : List (Addr × Obj)} {σ : St} {H H' : Hp} {s : Shared} {b : Addr} (I : Inv X pins σ H s) (hb : s.heap.objs.size <= b) (hn : H' b = none) : FpOk X pins H' b := by
 refine ⟨hn, Nat.ne_of_gt (Nat.lt_of_lt_of_le I.lt hb), I.nofs hb, .inr (Nat.le_trans I.sz hb), fun x c e z => ?_, fun p hp z => ?_⟩
 ·obtain ⟨v, q⟩ := I.cell x c e
  exact absurd (Nat.lt_of_lt_of_le q.lt (by rw [z]; exact hb)) (Nat.lt_irrefl _)
 ·exact absurd (Nat.lt_of_lt_of_le (Heap.lt_size (I.pin p hp).1) (by rw [z]; exact hb)) (Nat.lt_irrefl _)
structure Turn (P : Program) (w : World) (K : PySem.W.Frag) (tg : Expr) (J : It) (fp : List Addr) (it : Addr) (tn : Nat -> Heap -> Prop) : Prop where
 mem : it ∈ fp
 obj : ∀ i h, tn i h -> ∀ b ∈ fp, ∃ o, h.get? b = some o /\ ∀ v, o.data ≠ .cell v
 keep : ∀ i h h', tn i h -> (∀ b ∈ fp, ∀ o, h.get? b = some o -> h'.get? b = some o) -> tn i h'
 item : ∀ (X : Cx), X.prog = P -> X.w = w -> X.K = K -> X.calm = true -> ∀ (i : Nat) (pins : List (Addr × Obj)) (s : Shared) (σ : St) (H : Hp) (E : Value -> Shared -> Prop), Inv X pins σ H s -> (∀ b ∈ fp, FpOk X pins H b) -> tn i s.heap -> J.go i H ->
  wpAny (model P w) X.A (pyNext (.ref it)) (fun r s1 => ∃ u, r = some u /\
   wpAny (model P w) X.A (letOwnedTupleGo tg (.ref it) u) (fun _ s2 => ∃ x H', Inv X pins σ H' s2 /\ RelV x u /\ J.yld i H x H' /\ tn (i + 1) s2.heap /\ ∀ b ∈ fp, H' b = none) E s1) E s
 done : ∀ (X : Cx), X.prog = P -> X.w = w -> X.K = K -> X.calm = true -> ∀ (i : Nat) (pins : List (Addr × Obj)) (s : Shared) (σ : St) (H : Hp) (E : Value -> Shared -> Prop), Inv X pins σ H s -> (∀ b ∈ fp, FpOk X pins H b) -> tn i s.heap -> J.stop i H ->
  wpAny (model P w) X.A (pyNext (.ref it)) (fun r s1 => r = none /\ Inv X pins σ H s1) E s
 self : ∀ (A : Around) (i : Nat) (s : Shared) (Q : Value -> Shared -> Prop) (E : Value -> Shared -> Prop), tn i s.heap -> Q (.ref it) s -> wpAny (model P w) A (pyIter (.ref it)) Q E s
noncomputable abbrev TI := St -> Hp -> (It -> Hp -> Prop) -> Prop
noncomputable def PIE (X : Cx) (pins : List (Addr × Obj)) (σ : St) (tg : Expr) (R : It -> Hp -> Prop) (itv : Value) (s2 : Shared) : Prop :=
 ∃ (it : Addr) (fp : List Addr) (tn : Nat -> Heap -> Prop) (J : It) (H' : Hp), itv = .ref it /\ Inv X pins σ H' s2 /\ Turn X.prog X.w X.K tg J fp it tn /\ tn 0 s2.heap /\ (∀ b ∈ fp, FpOk X pins H' b) /\ R J H'
noncomputable def PI (X : Cx) (tg iter : Expr) (wi : TI) : Prop :=
 ∀ (pins : List (Addr × Obj)) (s : Shared) (σ : St) (H : Hp) (R : It -> Hp -> Prop), Inv X pins σ H s -> wi σ H R ->
  wpAny (model X.prog X.w) X.A (eval iter X.env) (fun v s1 => wpAny (model X.prog X.w) X.A (pyIter v) (PIE X pins σ tg R) X.xe s1) X.xe s
theorem go_of {M : Model} {A : Around} {E : Value -> Shared -> Prop} {s : Shared} {tg : Expr} {it : Addr} {u : Value} {o : Obj} {n : String} {vs : Array Value} {Q : Unit -> Shared -> Prop} (ho : s.heap.get? it = some o) (hc : o.cls = .type n) (hd : o.data = .fields vs)
    (hn : ["enumerate", "zip", "dict_itemiterator", "dict_reverseitemiterator", "odict_iterator", "itertools.zip_longest", "itertools.pairwise"].contains n = false) (hQ : Q () s) : wpAny M A (letOwnedTupleGo tg (.ref it) u) Q E s := by
  unfold letOwnedTupleGo
  cases tg <;> first
    | exact wpAny_pure hQ
    | (cases u <;> first
        | exact wpAny_pure hQ
        | (refine wpAny_bind (wpAny_load ho ?_)
           rw [hc, hd]
           show wpAny M A (if (["enumerate", "zip", "dict_itemiterator", "dict_reverseitemiterator", "odict_iterator", "itertools.zip_longest", "itertools.pairwise"].contains n && vs[0]? == some (rawInt _)) = true then _ else _) Q E s
           rw [if_neg (by intro h; rw [hn, Bool.false_and] at h; cases h)]
           exact wpAny_pure hQ))
noncomputable def Itl (K : PySem.W.Frag) (a : Addr) : It :=
 ⟨fun i H => ∃ xs x, SqL K H a xs /\ xs[i]? = some x, fun i H x H' => H' = H /\ ∀ xs, SqL K H a xs -> xs[i]? = some x, fun i H => ∃ xs, SqL K H a xs /\ xs.length <= i⟩
noncomputable def Itt (K : PySem.W.Frag) (a : Addr) : It :=
 ⟨fun i H => ∃ xs x, SqT K H a xs /\ xs[i]? = some x, fun i H x H' => H' = H /\ ∀ xs, SqT K H a xs -> xs[i]? = some x, fun i H => ∃ xs, SqT K H a xs /\ xs.length <= i⟩
noncomputable def Itr (lo : Int) (n : Nat) : It := ⟨fun i _ => i < n, fun i H x H' => H' = H /\ x = .int (lo + i), fun i _ => n <= i⟩
theorem turn_list {P : Program} {w : World} {K : PySem.W.Frag} {tg : Expr} (a it : Addr) : Turn P w K tg (Itl K a) [it] it (fun i h => h.IsListIter it a i) where
 mem := by simp
 obj := fun i h st b hb => by
  have e : b = it := by simpa using hb
  subst e
  obtain ⟨o, e, c, d⟩ := st
  exact ⟨o, e, fun v z => by rw [d] at z; cases z⟩
 keep := fun i h h' st k => st.at fun o e => k it (by simp) o e
 item := by
  intro X hP hw hK hc i pins s σ H E I hf st hg
  subst hP hw hK
  obtain ⟨xs, x, hq, hx⟩ := hg
  obtain ⟨its, rv, p, hz⟩ := I.list hq
  obtain ⟨u, hu, ru⟩ := rv.get hx
  obtain ⟨f0, f1, f2, f3, f4, f5⟩ := hf it (by simp)
  refine wpAny_pyNext_list_item st p.isList (x := u) (by simpa using hu) fun h' st' sb => ?_
  have I1 : Inv X pins σ H { s with heap := h' } := I.turned (t' := s.toks) (fun b o hb e => (sb.2 b hb).trans e) f0 f1 f3 f4 f5
  obtain ⟨o, e, c, d⟩ := id st'
  exact ⟨u, rfl, go_of (s := { s with heap := h' }) e c d (by decide) ⟨x, H, I1, ru, ⟨rfl, fun ys hy => by rw [I.list_inj hy hq]; exact hx⟩, st', fun b hb => (hf b hb).1⟩⟩
 done := by
  intro X hP hw hK hc i pins s σ H E I hf st hg
  subst hP hw hK
  obtain ⟨xs, hq, hx⟩ := hg
  obtain ⟨its, rv, p, hz⟩ := I.list hq
  obtain ⟨f0, f1, f2, f3, f4, f5⟩ := hf it (by simp)
  have hl := rv.length
  exact wpAny_pyNext_list_end (I.ok.hd hc) st p.isList (by simp; omega) fun h' eb => ⟨rfl, I.turned (t' := s.toks) (fun b o hb e => eb b o hb e) f0 f1 f3 f4 f5⟩
 self := fun _ _ _ _ _ st h => wpAny_pyIter_listiter st h
theorem turn_tuple {P : Program} {w : World} {K : PySem.W.Frag} {tg : Expr} (a it : Addr) : Turn P w K tg (Itt K a) [it] it (fun i h => h.IsTupleIter it a i) where
 mem := by simp
 obj := fun i h st b hb => by
  have e : b = it := by simpa using hb
  subst e
  obtain ⟨o, e, c, d⟩ := st
  exact ⟨o, e, fun v z => by rw [d] at z; cases z⟩
 keep := fun i h h' st k => st.at fun o e => k it (by simp) o e
 item := by
  intro X hP hw hK hc i pins s σ H E I hf st hg
  subst hP hw hK
  obtain ⟨xs, x, hq, hx⟩ := hg
  obtain ⟨its, rv, p, hz⟩ := I.tuple hq
  obtain ⟨u, hu, ru⟩ := rv.get hx
  obtain ⟨f0, f1, f2, f3, f4, f5⟩ := hf it (by simp)
  refine wpAny_pyNext_tuple_item st (show s.heap.IsTuple a its.toArray from p) (x := u) (by simpa using hu) fun h' st' sb => ?_
  have I1 : Inv X pins σ H { s with heap := h' } := I.turned (t' := s.toks) (fun b o hb e => (sb.2 b hb).trans e) f0 f1 f3 f4 f5
  obtain ⟨o, e, c, d⟩ := id st'
  exact ⟨u, rfl, go_of (s := { s with heap := h' }) e c d (by decide) ⟨x, H, I1, ru, ⟨rfl, fun ys hy => by rw [I.tuple_inj hy hq]; exact hx⟩, st', fun b hb => (hf b hb).1⟩⟩
 done := by
  intro X hP hw hK hc i pins s σ H E I hf st hg
  subst hP hw hK
  obtain ⟨xs, hq, hx⟩ := hg
  obtain ⟨its, rv, p, hz⟩ := I.tuple hq
  obtain ⟨f0, f1, f2, f3, f4, f5⟩ := hf it (by simp)
  have hl := rv.length
  exact wpAny_pyNext_tuple_end (I.ok.hd hc) st (show s.heap.IsTuple a its.toArray from p) (by simp; omega) fun h' eb => ⟨rfl, I.turned (t' := s.toks) (fun b o hb e => eb b o hb e) f0 f1 f3 f4 f5⟩
 self := fun _ _ _ _ _ st h => wpAny_pyIter_tupleiter st h
theorem turn_range {P : Program} {w : World} {K : PySem.W.Frag} {tg : Expr} (it : Addr) (lo : Int) (n : Nat) : Turn P w K tg (Itr lo n) [it] it (fun i h => IsRangeIter h it (lo + (i : Nat) * 1) ((n : Int) - (i : Nat)) 1) where
 mem := by simp
 obj := fun i h st b hb => by
  have e : b = it := by simpa using hb
  subst e
  exact ⟨_, st, fun v z => by
   have z' : Data.fields _ = Data.cell v := z
   cases z'⟩
 keep := fun i h h' st k => k it (by simp) _ st
 item := by
  intro X hP hw hK hc i pins s σ H E I hf st hg
  subst hP hw hK
  obtain ⟨f0, f1, f2, f3, f4, f5⟩ := hf it (by simp)
  have W := Walks.range (prog := X.prog) (w := X.w) (I.ok.hd hc) it lo 1 n
  refine W.item i s _ _ hg st fun v h' tk hv st' kk => ?_
  obtain ⟨t, rfl⟩ := hv
  have I1 : Inv X pins σ H { s with heap := h', toks := tk } := I.turned (fun b o hb e => kk b o (by simpa using hb) e) f0 f1 f3 f4 f5
  refine ⟨_, rfl, go_of (s := { s with heap := h', toks := tk }) (n := "range_iterator") st' rfl rfl (by decide) ⟨.int (lo + i), H, I1, ⟨t, ?_⟩, ⟨rfl, rfl⟩, st', fun b hb => (hf b hb).1⟩⟩
  rw [Int.mul_one]
 done := by
  intro X hP hw hK hc i pins s σ H E I hf st hg
  subst hP hw hK
  obtain ⟨f0, f1, f2, f3, f4, f5⟩ := hf it (by simp)
  exact wpAny_pyNext_range_end (I.ok.hd hc) st (by have : n <= i := hg; omega) fun h' eb => ⟨rfl, I.turned (t' := s.toks) (fun b o hb e => eb b o hb e) f0 f1 f3 f4 f5⟩
 self := fun _ _ _ _ _ st h => wpAny_pyIter_rangeiter st h
end L2
namespace L2
open PySem PySem.Spec PyProof.Rows
section
variable {X : Cx} {tg : Expr}
theorem range_it {pins : List (Addr × Obj)} {σ : St} {H : Hp} {s : Shared} {R : It -> Hp -> Prop} {E : Value -> Shared -> Prop} {lo hi : Int} {t u v : Tok} {tk : Nat} (I : Inv X pins σ H s) (h1 : -(2 ^ 62) <= lo) (h2 : lo < 2 ^ 62) (h3 : -(2 ^ 62) <= hi) (h4 : hi < 2 ^ 62)
  (q : R (Itr lo (hi - lo).toNat) H) : wpAny (model X.prog X.w) X.A (pyIter (.ref s.heap.objs.size)) (PIE X pins σ tg R) E { s with heap := s.heap.push { cls := .type "range", data := .fields #[.int lo t, .int hi u, .int 1 v] }, toks := tk } := by
 refine wpAny_pyIter_range (IsRange.new ..) (small_one h1 h2 h3 h4) ?_
 have I1 : Inv X pins σ H { s with heap := s.heap.push { cls := .type "range", data := .fields #[.int lo t, .int hi u, .int 1 v] }, toks := tk } := I.kept fun b o e => Heap.get?_push_of_some _ e
 refine ⟨(s.heap.push { cls := .type "range", data := .fields #[.int lo t, .int hi u, .int 1 v] }).objs.size, [(s.heap.push { cls := .type "range", data := .fields #[.int lo t, .int hi u, .int 1 v] }).objs.size], _, _, H, rfl,
  I1.kept (t' := tk) fun b o e => Heap.get?_push_of_some _ e, turn_range _ lo (hi - lo).toNat, ?_, fun b hb => ?_, q⟩
 ·have e1 : lo + ((0 : Nat) : Int) * 1 = lo := by simp
  have e2 : (((hi - lo).toNat : Nat) : Int) - ((0 : Nat) : Int) = Builtin.Range.rangeSize lo hi 1 := by rw [rangeSize_one]; split <;> omega
  show IsRangeIter _ _ (lo + ((0 : Nat) : Int) * 1) ((((hi - lo).toNat : Nat) : Int) - ((0 : Nat) : Int)) 1
  rw [e1, e2]
  exact Heap.get?_push_size _ rfl
 ·have e : b = (s.heap.push { cls := .type "range", data := .fields #[.int lo t, .int hi u, .int 1 v] }).objs.size := by simpa using hb
  subst e
  exact I1.fpOk (Nat.le_refl _) (I1.hok.fresh (Nat.le_refl _))
noncomputable def iRng1 (ta : TA) : TI := fun σ H R => ta σ H fun vs H1 => ∃ j : Int, vs = [.int j] /\ -(2 ^ 62) <= j /\ j < 2 ^ 62 /\ R (Itr 0 j.toNat) H1
noncomputable def iRng2 (ta : TA) : TI := fun σ H R => ta σ H fun vs H1 => ∃ i j : Int, vs = [.int i, .int j] /\ (-(2 ^ 62) <= i /\ i < 2 ^ 62 /\ -(2 ^ 62) <= j /\ j < 2 ^ 62) /\ R (Itr i (j - i).toNat) H1
theorem pi_range1 {a : Expr} {ta : TA} {p pos : Pos} (hg : Gl X "range") (hm : X.mg "range" = none) (ha : PA X [a] ta) (hs : starEach [a] X.env = [(false, eval a X.env)] := by rfl) : PI X tg (.Call (.Name "range" p) [a] [] pos) (iRng1 ta) := by
 intro pins s σ H R I h
 refine Call_ (ld_blt I hg hm boot_range (PyProof.Rows.callWith_type1 (thn (ha pos pins s σ H _ I h) fun us s1 ⟨vs, H1, I1, r1, q1⟩ => ?_) hs rfl))
 obtain ⟨j, e, q1, q2, q⟩ := q1
 subst e
 cases r1 with
 | cons r rr =>
  cases rr
  obtain ⟨t, rfl⟩ := r
  exact call_range_1 (range_it I1 (by omega) (by omega) q1 q2 (by simpa using q))
theorem pi_range2 {a b : Expr} {ta : TA} {p pos : Pos} (hg : Gl X "range") (hm : X.mg "range" = none) (ha : PA X [a, b] ta) (hs : starEach [a, b] X.env = [(false, eval a X.env), (false, eval b X.env)] := by rfl) (hs2 : starEach [b] X.env = [(false, eval b X.env)] := by rfl) :
  PI X tg (.Call (.Name "range" p) [a, b] [] pos) (iRng2 ta) := by
 intro pins s σ H R I h
 refine Call_ (ld_blt I hg hm boot_range (PyProof.Rows.callWith_type1 (thn (ha pos pins s σ H _ I h) fun us s1 ⟨vs, H1, I1, r1, q1⟩ => ?_) (by rw [hs, hs2]) (by rw [hs2]; rfl)))
 obtain ⟨i, j, e, ⟨q1, q2, q3, q4⟩, q⟩ := q1
 subst e
 cases r1 with
 | cons r rr =>
  cases rr with
  | cons r' rr =>
   cases rr
   obtain ⟨t, rfl⟩ := r
   obtain ⟨t', rfl⟩ := r'
   exact call_range_2 (range_it I1 q1 q2 q3 q4 q)
noncomputable def tFor (wi : TI) (g : TG) (tb : TS) : TS := fun D σ H => wi σ H fun J H1 => ∃ W : Nat -> Nat -> St -> Hp -> Prop, (∃ m, W 0 m σ H1) /\ ∀ i m σ H, W i m σ H ->
 (J.stop i H /\ D.nx σ H) \/ (J.go i H /\ ∃ N : St -> Hp -> Prop, (∀ σ' H', N σ' H' -> ∃ m', m' < m /\ W (i + 1) m' σ' H') /\ ∀ x H', J.yld i H x H' -> g x σ H' fun σ2 H2 => tb { D with nx := N, ct := N, bk := D.nx } σ2 H2)
noncomputable def pinsAt (fp : List Addr) (h : Heap) : List (Addr × Obj) := fp.filterMap fun b => (h.get? b).map fun o => (b, o)
theorem mem_pinsAt {fp : List Addr} {h : Heap} {b : Addr} {o : Obj} (hb : b ∈ fp) (e : h.get? b = some o) : (b, o) ∈ pinsAt fp h := List.mem_filterMap.mpr ⟨b, hb, by rw [e]; rfl⟩
theorem of_pinsAt {fp : List Addr} {h : Heap} {p : Addr × Obj} (hp : p ∈ pinsAt fp h) : p.1 ∈ fp /\ h.get? p.1 = some p.2 := by
 obtain ⟨b, hb, e⟩ := List.mem_filterMap.mp hp
 cases q : h.get? b with
 | none => rw [q] at e; cases e
 | some o =>
  rw [q] at e
  have e' : (b, o) = p := Option.some.inj e
  subst e'
  exact ⟨hb, q⟩
theorem Inv.pinned {pins : List (Addr × Obj)} {σ : St} {H : Hp} {s : Shared} {fp : List Addr} (I : Inv X pins σ H s) (hf : ∀ b ∈ fp, FpOk X pins H b) (ho : ∀ b ∈ fp, ∃ o, s.heap.get? b = some o /\ ∀ v, o.data ≠ .cell v) : Inv X (pins ++ pinsAt fp s.heap) σ H s :=
 I.pins_of fun p hp => (List.mem_append.mp hp).elim (fun z => I.pin p (List.mem_append_right _ z)) fun z => by
  obtain ⟨hb, e⟩ := of_pinsAt z
  obtain ⟨f0, f1, f2, _⟩ := hf p.1 hb
  obtain ⟨o, e', d⟩ := ho p.1 hb
  rw [e] at e'; cases e'
  exact ⟨e, f0, f1, f2, d⟩
theorem Inv.unpinned {pins pl : List (Addr × Obj)} {σ : St} {H : Hp} {s : Shared} (I : Inv X (pins ++ pl) σ H s) : Inv X pins σ H s := I.pins_of fun p hp => I.pin p (List.mem_append_right _ (List.mem_append_left _ hp))
theorem ps_for {iter : Expr} {body : List Stmt} {wi : TI} {g : TG} {tb : TS} {pos : Pos} (hp : PassesOwn (model X.prog X.w) X.A X.env X.xe) (hc : X.calm = true) (hi : PI X tg iter wi) (hg : PG X tg g) (hb : PSs X body tb)
  (hs : ∀ x, foldedSetIterable iter X.env x = pure x := by intro _; rfl) : PS X (.For tg iter body [] pos) (tFor wi g tb) := by
 intro pins s σ H D I h
 refine wpAny_For (thn (hi pins s σ H _ I h) fun v s1 h1 => thn h1 fun itv s2 h2 => ?_) hs
 obtain ⟨it, fp, tn, J, H2, e, I2, T, st2, f2, W, ⟨m0, w0⟩, turn⟩ := h2
 subst e
 have stat : ∀ {H' : Hp}, (∀ b ∈ fp, H' b = none) -> ∀ b ∈ fp, FpOk X pins H' b := fun hn b hb => ⟨hn b hb, (f2 b hb).2⟩
 refine codeAny_forLoop_any (fun n s' => ∃ i σ' H', Inv X pins σ' H' s' /\ tn i s'.heap /\ (∀ b ∈ fp, H' b = none) /\ W i n σ' H') ?_ m0 ⟨0, σ, H2, I2, st2, fun b hb => (f2 b hb).1, w0⟩
 rintro n s3 ⟨i, σ3, H3, I3, st3, fr3, w3⟩
 rcases turn i n σ3 H3 w3 with ⟨stop, qn⟩ | ⟨go, N, hN, step⟩
 ·refine wpAny_passesOwn hp (thn (T.done X rfl rfl rfl hc i pins s3 σ3 H3 X.xe I3 (stat fr3) st3 stop) fun r s4 ⟨hr, I4⟩ => ?_)
  subst hr
  exact wpAny_execs_nil ⟨σ3, H3, I4, qn⟩
 ·refine wpAny_passesOwn hp (thn (T.item X rfl rfl rfl hc i pins s3 σ3 H3 X.xe I3 (stat fr3) st3 go) fun r s4 ⟨u, hr, h4⟩ => ?_)
  subst hr
  refine wpAny_passesOwn hp (thn h4 fun _ s5 ⟨x, H5, I5, r5, y5, st5, fr5⟩ => ?_)
  have I5' := I5.pinned (stat fr5) (T.obj _ _ st5)
  refine wpAny_passesOwn hp (thn (hg _ s5 σ3 H5 x u _ I5' r5 (step x H5 y5)) fun _ s6 ⟨σ6, H6, I6, q6⟩ => ?_)
  refine wpAny_passesOwn hp (thn (hb _ s6 σ6 H6 _ I6 q6) fun f s7 q7 => ?_)
  have again : ∀ {σ7 : St} {H7 : Hp}, Inv X (pins ++ pinsAt fp s5.heap) σ7 H7 s7 -> N σ7 H7 -> ∃ m, m < n /\ ∃ i σ' H', Inv X pins σ' H' s7 /\ tn i s7.heap /\ (∀ b ∈ fp, H' b = none) /\ W i m σ' H' := fun {σ7 H7} I7 n7 => by
   obtain ⟨m', hm, w7⟩ := hN σ7 H7 n7
   refine ⟨m', hm, i + 1, σ7, H7, I7.unpinned, T.keep _ _ _ st5 fun b hb o e => (I7.pin (b, o) (List.mem_append_right _ (List.mem_append_right _ (mem_pinsAt hb e)))).1, fun b hb => ?_, w7⟩
   obtain ⟨o, e, d⟩ := T.obj _ _ st5 b hb
   exact (I7.pin (b, o) (List.mem_append_right _ (List.mem_append_right _ (mem_pinsAt hb e)))).2.1
  cases f with
  | next => obtain ⟨σ7, H7, I7, n7⟩ := q7; exact again I7 n7
  | cont => obtain ⟨σ7, H7, I7, n7⟩ := q7; exact again I7 n7
  | brk => obtain ⟨σ7, H7, I7, q7⟩ := q7; exact ⟨σ7, H7, I7.unpinned, q7⟩
  | ret v => obtain ⟨x7, σ7, H7, I7, r7, q7⟩ := q7; exact ⟨x7, σ7, H7, I7.unpinned, r7, q7⟩
end
end L2
namespace L2
open PySem PySem.Spec PyProof.Rows
noncomputable abbrev R2 := V -> V -> Hp -> VK -> Prop
noncomputable def OpR (X : Cx) (f : Value -> Value -> Sem Value) (r : R2) : Prop :=
 ∀ (pins : List (Addr × Obj)) (s : Shared) (σ : St) (H : Hp) (x y : V) (v u : Value) (Q : VK), Inv X pins σ H s -> RelV x v -> RelV y u -> r x y H Q ->
  wpAny (model X.prog X.w) X.A (f v u) (EP X pins σ Q) X.xe s
noncomputable def UnR (X : Cx) (f : Value -> Sem Value) (r : V -> Hp -> VK -> Prop) : Prop :=
 ∀ (pins : List (Addr × Obj)) (s : Shared) (σ : St) (H : Hp) (x : V) (v : Value) (Q : VK), Inv X pins σ H s -> RelV x v -> r x H Q ->
  wpAny (model X.prog X.w) X.A (f v) (EP X pins σ Q) X.xe s
noncomputable def CallR (X : Cx) (f : Value) (r : List V -> Hp -> VK -> Prop) : Prop :=
 ∀ (pins : List (Addr × Obj)) (s : Shared) (σ : St) (H : Hp) (xs : List V) (us : List Value) (Q : VK), Inv X pins σ H s -> Vals xs us -> r xs H Q ->
  wpAny (model X.prog X.w) X.A (call f us) (EP X pins σ Q) X.xe s
noncomputable def TruR (X : Cx) (r : V -> Hp -> (Bool -> Hp -> Prop) -> Prop) : Prop :=
 ∀ (pins : List (Addr × Obj)) (s : Shared) (σ : St) (H : Hp) (x : V) (v : Value) (Q : Bool -> Hp -> Prop), Inv X pins σ H s -> RelV x v -> r x H Q ->
  wpAny (model X.prog X.w) X.A (truthy v) (TP X pins σ Q) X.xe s
noncomputable def tOp (r : R2) (ta tb : TE) : TE := fun σ H Q => ta σ H fun x H1 => tb σ H1 fun y H2 => r x y H2 Q
noncomputable def tUn (r : V -> Hp -> VK -> Prop) (ta : TE) : TE := fun σ H Q => ta σ H fun x H1 => r x H1 Q
noncomputable def rI (C : Int -> Int -> Prop) (g : Int -> Int -> V) : R2 := fun x y H Q => ∃ i j, x = .int i /\ y = .int j /\ C i j /\ Q (g i j) H
noncomputable def rI0 (g : Int -> Int -> V) : R2 := fun x y H Q => ∃ i j, x = .int i /\ y = .int j /\ Q (g i j) H
noncomputable def rU (g : Int -> V) : V -> Hp -> VK -> Prop := fun x H Q => ∃ i, x = .int i /\ Q (g i) H
section
variable {X : Cx} {a b c : Expr} {ta tb tc : TE} {pos : Pos}
theorem binT (ha : PE X a ta) (hb : PE X b tb) {pins : List (Addr × Obj)} {s : Shared} {σ : St} {H : Hp} {R : V -> V -> Hp -> Prop} (I : Inv X pins σ H s)
  (h : ta σ H fun x H1 => tb σ H1 fun y H2 => R x y H2) {Q : Value -> Shared -> Prop} {f : Value -> Value -> Sem Value}
  (hf : ∀ v u s2 x y H2, Inv X pins σ H2 s2 -> RelV x v -> RelV y u -> R x y H2 -> wpAny (model X.prog X.w) X.A (f v u) Q X.xe s2) :
  wpAny (model X.prog X.w) X.A (eval a X.env) (fun v s₁ => wpAny (model X.prog X.w) X.A (eval b X.env) (fun u s₂ => wpAny (model X.prog X.w) X.A (f v u) Q X.xe s₂) X.xe s₁) X.xe s := by
 refine thn (ha pins s σ H _ I h) fun v s1 ⟨x, H1, I1, r1, q1⟩ => ?_
 refine thn (hb pins s1 σ H1 _ I1 q1) fun u s2 ⟨y, H2, I2, r2, q2⟩ => ?_
 exact hf v u s2 x y H2 I2 r1 r2 q2
theorem pe_op {op : Operator} {r : R2} (ho : OpR X (binaryOp op) r) (ha : PE X a ta) (hb : PE X b tb) : PE X (.BinOp a op b pos) (tOp r ta tb) := by
 intro pins s σ H Q I h
 exact wpAny_BinOp (binT ha hb I h fun v u s2 x y H2 I2 rx ry q => ho pins s2 σ H2 x y v u Q I2 rx ry q)
theorem pe_un {op : UnaryOp} {r : V -> Hp -> VK -> Prop} (ho : UnR X (unaryOp op) r) (ha : PE X a ta) : PE X (.UnaryOp op a pos) (tUn r ta) := by
 intro pins s σ H Q I h
 exact UnaryOp_ (thn (ha pins s σ H _ I h) fun v s1 ⟨x, H1, I1, r1, q1⟩ => ho pins s1 σ H1 x v Q I1 r1 q1)
theorem opI {f : Value -> Value -> Sem Value} {C : Int -> Int -> Prop} {g : Int -> Int -> Int}
  (rule : ∀ (i j : Int) (t u : Tok) (s : Shared) (Q : Value -> Shared -> Prop) (E : Value -> Shared -> Prop), C i j -> Q (.int (g i j) s.toks) { s with toks := s.toks + 1 } -> wpAny (model X.prog X.w) X.A (f (.int i t) (.int j u)) Q E s) :
  OpR X f (rI C fun i j => .int (g i j)) := by
 intro pins s σ H x y v u Q I rx ry h
 obtain ⟨i, j, rfl, rfl, hc, q⟩ := h
 obtain ⟨t, rfl⟩ := rx
 obtain ⟨t', rfl⟩ := ry
 exact rule i j t t' s _ _ hc ⟨.int (g i j), H, I.tok _, ⟨_, rfl⟩, q⟩
theorem opI0 {f : Value -> Value -> Sem Value} {g : Int -> Int -> Int}
  (rule : ∀ (i j : Int) (t u : Tok) (s : Shared) (Q : Value -> Shared -> Prop) (E : Value -> Shared -> Prop), Q (.int (g i j) s.toks) { s with toks := s.toks + 1 } -> wpAny (model X.prog X.w) X.A (f (.int i t) (.int j u)) Q E s) :
  OpR X f (rI0 fun i j => .int (g i j)) := by
 intro pins s σ H x y v u Q I rx ry h
 obtain ⟨i, j, rfl, rfl, q⟩ := h
 obtain ⟨t, rfl⟩ := rx
 obtain ⟨t', rfl⟩ := ry
 exact rule i j t t' s _ _ ⟨.int (g i j), H, I.tok _, ⟨_, rfl⟩, q⟩
theorem opB0 {f : Value -> Value -> Sem Value} {g : Int -> Int -> Bool}
  (rule : ∀ (i j : Int) (t u : Tok) (s : Shared) (Q : Value -> Shared -> Prop) (E : Value -> Shared -> Prop), Q (.bool (g i j)) s -> wpAny (model X.prog X.w) X.A (f (.int i t) (.int j u)) Q E s) :
  OpR X f (rI0 fun i j => .bl (g i j)) := by
 intro pins s σ H x y v u Q I rx ry h
 obtain ⟨i, j, rfl, rfl, q⟩ := h
 obtain ⟨t, rfl⟩ := rx
 obtain ⟨t', rfl⟩ := ry
 exact rule i j t t' s _ _ ⟨.bl (g i j), H, I, rfl, q⟩
noncomputable def CDiv (i j : Int) : Prop := 0 < j /\ j < 1073741824
noncomputable def CPow (i j : Int) : Prop := 0 <= j /\ j <= 1000000 /\ i.natAbs < 2 ^ 64
noncomputable def CMul (i j : Int) : Prop := (-(2 ^ 64) < i /\ i < 2 ^ 64) \/ (-(2 ^ 64) < j /\ j < 2 ^ 64)
theorem CMul.ok {i j : Int} (h : CMul i j) : IntMulOk i j := by
 rcases h with ⟨h1, h2⟩ | ⟨h1, h2⟩
 ·exact .of_left (intBits_le_64 h1 h2)
 ·exact .of_right (intBits_le_64 h1 h2)
theorem op_add : OpR X (binaryOp .Add) (rI0 fun i j => .int (i + j)) := opI0 fun _ _ _ _ _ _ _ q => add_int q
theorem op_sub : OpR X (binaryOp .Sub) (rI0 fun i j => .int (i - j)) := opI0 fun _ _ _ _ _ _ _ q => sub_int q
theorem op_mul : OpR X (binaryOp .Mult) (rI CMul fun i j => .int (i * j)) := opI fun _ _ _ _ _ _ _ hc q => mul_int q hc.ok
theorem op_fdiv : OpR X (binaryOp .FloorDiv) (rI CDiv fun i j => .int (i / j)) := opI fun i j _ _ _ _ _ hc q => by
 have h1 : (0 : Int) < j := hc.1
 have h2 : j < 1073741824 := hc.2
 exact floordiv_int (by omega) (by rw [Int.fdiv_eq_ediv_of_nonneg i (by omega)]; exact q) (.inl (PyProof.noPylong_small (by omega)))
theorem op_mod : OpR X (binaryOp .Mod) (rI (fun _ j => 0 < j) fun i j => .int (i % j)) := opI fun i j _ _ _ _ _ hc q => by
 have h1 : (0 : Int) < j := hc
 exact mod_int' (by omega) (by rw [Int.fmod_eq_emod_of_nonneg i (by omega)]; exact q)
theorem op_pow : OpR X (binaryOp .Pow) (rI CPow fun i j => .int (i ^ j.toNat)) := opI fun _ _ _ _ _ _ _ hc q => pow_int_small hc.1 hc.2.1 hc.2.2 q
theorem unI {f : Value -> Sem Value} {g : Int -> Int}
  (rule : ∀ (i : Int) (t : Tok) (s : Shared) (Q : Value -> Shared -> Prop) (E : Value -> Shared -> Prop), Q (.int (g i) s.toks) { s with toks := s.toks + 1 } -> wpAny (model X.prog X.w) X.A (f (.int i t)) Q E s) :
  UnR X f (rU fun i => .int (g i)) := by
 intro pins s σ H x v Q I rx h
 obtain ⟨i, rfl, q⟩ := h
 obtain ⟨t, rfl⟩ := rx
 exact rule i t s _ _ ⟨.int (g i), H, I.tok _, ⟨_, rfl⟩, q⟩
theorem un_neg : UnR X (unaryOp .USub) (rU fun i => .int (-i)) := unI fun _ _ _ _ _ q => neg_int q
end
noncomputable def scal : V -> V -> Bool
 | .non, .non => true | .non, .int _ => true | .int _, .non => true | .non, .bl _ => true | .bl _, .non => true | .non, .str _ => true | .str _, .non => true
 | .int _, .int _ => true | .bl _, .bl _ => true | .str _, .str _ => true | .byt _, .byt _ => true
 | .int _, .str _ => true | .str _, .int _ => true | .bl _, .str _ => true | .str _, .bl _ => true
 | _, _ => false
noncomputable def rEq : R2 := fun x y H Q => scal x y = true /\ Q (.bl (decide (x = y))) H
noncomputable def rNe : R2 := fun x y H Q => scal x y = true /\ Q (.bl (!decide (x = y))) H
theorem dec_int {i j : Int} : decide (V.int i = V.int j) = (i == j) := by
 rw [Bool.eq_iff_iff]
 simp
theorem dec_bl {i j : Bool} : decide (V.bl i = V.bl j) = (i == j) := by
 rw [Bool.eq_iff_iff]
 simp
theorem dec_str {i j : Str} : decide (V.str i = V.str j) = (i == j) := by
 rw [Bool.eq_iff_iff]
 simp
theorem dec_byt {i j : Array UInt8} : decide (V.byt i = V.byt j) = (i.toList == j.toList) := by
 rw [Bool.eq_iff_iff]
 cases i
 cases j
 simp
section
variable {X : Cx} {a b c : Expr} {ta tb tc : TE} {pos : Pos}
theorem fin_bl {pins : List (Addr × Obj)} {σ : St} {H : Hp} {s : Shared} {Q : VK} {k k' : Bool} (I : Inv X pins σ H s) (q : Q (.bl k) H) (e : k = k') : EP X pins σ Q (.bool k') s := by
 subst e
 exact ⟨.bl k, H, I, rfl, q⟩
theorem op_eq : OpR X (compareOp .Eq) rEq := by
 intro pins s σ H x y v u Q I rx ry h
 obtain ⟨hs, q⟩ := h
 cases x with
 | non =>
  cases rx
  cases y with
  | non => cases ry; exact PySem.EqNone.eq_none_none (fin_bl I q (by simp))
  | bl j => cases ry; exact PySem.EqNone.eq_none_bool (fin_bl I q (by simp))
  | int j => obtain ⟨t', rfl⟩ := ry; exact PySem.EqNone.eq_none_int (fin_bl I q (by simp))
  | str j => obtain ⟨t', rfl⟩ := ry; exact PySem.EqNone.eq_none_str (fin_bl I q (by simp))
  | _ => exact absurd (show false = true from hs) Bool.false_ne_true
 | bl i =>
  cases rx
  cases y with
  | non => cases ry; exact PySem.EqNone.eq_bool_none (fin_bl I q (by simp))
  | bl j => cases ry; exact eq_bool (fin_bl I q dec_bl)
  | str j => obtain ⟨t', rfl⟩ := ry; exact PySem.EqMixed.eq_bool_str (fin_bl I q (by simp))
  | _ => exact absurd (show false = true from hs) Bool.false_ne_true
 | int i =>
  obtain ⟨t, rfl⟩ := rx
  cases y with
  | non => cases ry; exact PySem.EqNone.eq_int_none (fin_bl I q (by simp))
  | int j => obtain ⟨t', rfl⟩ := ry; exact eq_int (fin_bl I q dec_int)
  | str j => obtain ⟨t', rfl⟩ := ry; exact PySem.EqMixed.eq_int_str (fin_bl I q (by simp))
  | _ => exact absurd (show false = true from hs) Bool.false_ne_true
 | str i =>
  obtain ⟨t, rfl⟩ := rx
  cases y with
  | non => cases ry; exact PySem.EqNone.eq_str_none (fin_bl I q (by simp))
  | bl j => cases ry; exact PySem.EqMixed.eq_str_bool (fin_bl I q (by simp))
  | int j => obtain ⟨t', rfl⟩ := ry; exact PySem.EqMixed.eq_str_int (fin_bl I q (by simp))
  | str j => obtain ⟨t', rfl⟩ := ry; exact eq_str (fin_bl I q dec_str)
  | _ => exact absurd (show false = true from hs) Bool.false_ne_true
 | byt i =>
  obtain ⟨t, rfl⟩ := rx
  cases y with
  | byt j => obtain ⟨t', rfl⟩ := ry; exact PySem.W.eq_bytes (fin_bl I q dec_byt)
  | _ => exact absurd (show false = true from hs) Bool.false_ne_true
 | _ => cases y <;> exact absurd (show false = true from hs) Bool.false_ne_true
theorem op_ne : OpR X (compareOp .NotEq) rNe := by
 intro pins s σ H x y v u Q I rx ry h
 obtain ⟨hs, q⟩ := h
 cases x with
 | non =>
  cases rx
  cases y with
  | non => cases ry; exact PySem.EqNone.ne_none_none (fin_bl I q (by simp))
  | bl j => cases ry; exact PySem.EqNone.ne_none_bool (fin_bl I q (by simp))
  | int j => obtain ⟨t', rfl⟩ := ry; exact PySem.EqNone.ne_none_int (fin_bl I q (by simp))
  | str j => obtain ⟨t', rfl⟩ := ry; exact PySem.EqNone.ne_none_str (fin_bl I q (by simp))
  | _ => exact absurd (show false = true from hs) Bool.false_ne_true
 | bl i =>
  cases rx
  cases y with
  | non => cases ry; exact PySem.EqNone.ne_bool_none (fin_bl I q (by simp))
  | bl j => cases ry; exact ne_bool (fin_bl I q (congrArg not dec_bl))
  | str j => obtain ⟨t', rfl⟩ := ry; exact PySem.EqMixed.ne_bool_str (fin_bl I q (by simp))
  | _ => exact absurd (show false = true from hs) Bool.false_ne_true
 | int i =>
  obtain ⟨t, rfl⟩ := rx
  cases y with
  | non => cases ry; exact PySem.EqNone.ne_int_none (fin_bl I q (by simp))
  | int j => obtain ⟨t', rfl⟩ := ry; exact ne_int (fin_bl I q (congrArg not dec_int))
  | str j => obtain ⟨t', rfl⟩ := ry; exact PySem.EqMixed.ne_int_str (fin_bl I q (by simp))
  | _ => exact absurd (show false = true from hs) Bool.false_ne_true
 | str i =>
  obtain ⟨t, rfl⟩ := rx
  cases y with
  | non => cases ry; exact PySem.EqNone.ne_str_none (fin_bl I q (by simp))
  | bl j => cases ry; exact PySem.EqMixed.ne_str_bool (fin_bl I q (by simp))
  | int j => obtain ⟨t', rfl⟩ := ry; exact PySem.EqMixed.ne_str_int (fin_bl I q (by simp))
  | str j => obtain ⟨t', rfl⟩ := ry; exact ne_str (fin_bl I q (congrArg not dec_str))
  | _ => exact absurd (show false = true from hs) Bool.false_ne_true
 | byt i =>
  obtain ⟨t, rfl⟩ := rx
  cases y with
  | byt j => obtain ⟨t', rfl⟩ := ry; exact PySem.W.ne_bytes (fin_bl I q (congrArg not dec_byt))
  | _ => exact absurd (show false = true from hs) Bool.false_ne_true
 | _ => cases y <;> exact absurd (show false = true from hs) Bool.false_ne_true
theorem op_lt : OpR X (compareOp .Lt) (rI0 fun i j => .bl (decide (i < j))) := opB0 fun _ _ _ _ _ _ _ q => lt_int q
theorem op_le : OpR X (compareOp .LtE) (rI0 fun i j => .bl (decide (i <= j))) := opB0 fun _ _ _ _ _ _ _ q => le_int q
theorem op_gt : OpR X (compareOp .Gt) (rI0 fun i j => .bl (decide (j < i))) := opB0 fun _ _ _ _ _ _ _ q => gt_int q
theorem op_ge : OpR X (compareOp .GtE) (rI0 fun i j => .bl (decide (j <= i))) := opB0 fun _ _ _ _ _ _ _ q => ge_int q
theorem op_isN : OpR X (compareOp .Is) (fun x y H Q => y = .non /\ Q (.bl (decide (x = .non))) H) := by
 intro pins s σ H x y v u Q I rx ry h
 obtain ⟨rfl, q⟩ := h
 cases ry
 refine is_none_gen (fin_bl I q ?_)
 cases x <;> first
  | (cases rx; rfl)
  | (obtain ⟨t, rfl⟩ := rx; rfl)
theorem op_notN : OpR X (compareOp .IsNot) (fun x y H Q => y = .non /\ Q (.bl (!decide (x = .non))) H) := by
 intro pins s σ H x y v u Q I rx ry h
 obtain ⟨rfl, q⟩ := h
 cases ry
 refine isnot_none_gen (fin_bl I q ?_)
 cases x <;> first
  | (cases rx; rfl)
  | (obtain ⟨t, rfl⟩ := rx; rfl)
theorem OpR.or {f : Value -> Value -> Sem Value} {r r' : R2} (h : OpR X f r) (h' : OpR X f r') : OpR X f (fun x y H Q => r x y H Q \/ r' x y H Q) := by
 intro pins s σ H x y v u Q I rx ry q
 rcases q with q | q
 ·exact h pins s σ H x y v u Q I rx ry q
 ·exact h' pins s σ H x y v u Q I rx ry q
theorem pe_cmpR {op : CmpOp} {r : R2} (ho : OpR X (compareOp op) r) (ha : PE X a ta) (hb : PE X b tb) (hm : behindInMarks op b = false) : PE X (.Compare a [op] [b] pos) (tOp r ta tb) := by
 intro pins s σ H Q I h
 exact wpAny_Compare1 (binT ha hb I h fun v u s2 x y H2 I2 rx ry q => ho pins s2 σ H2 x y v u Q I2 rx ry q) hm
noncomputable def tTest (t : TE) : TT := fun σ H Q => t σ H fun x H' => ∃ k, x = .bl k /\ Q k H'
theorem pt_cmpR {op : CmpOp} {r : R2} (ho : OpR X (compareOp op) r) (ha : PE X a ta) (hb : PE X b tb) (hm : behindInMarks op b = false) : PT X (.Compare a [op] [b] pos) (tTest (tOp r ta tb)) := by
 intro pins s σ H Q I h
 refine wpAny_isTrue_Compare1 (thn (ha pins s σ H _ I h) fun v s1 ⟨x, H1, I1, r1, q1⟩ => thn (hb pins s1 σ H1 _ I1 q1) fun u s2 ⟨y, H2, I2, r2, q2⟩ =>
  thn (ho pins s2 σ H2 x y v u _ I2 r1 r2 q2) fun c s3 ⟨z, H3, I3, r3, k, e, q3⟩ => ?_) hm
 subst e
 cases r3
 exact wpAny_truthy_bool ⟨H3, I3, q3⟩
noncomputable def tChain (r r' : R2) (ta tb tc : TE) : TE := fun σ H Q => ta σ H fun x H1 => tb σ H1 fun y H2 => r x y H2 fun z H3 => ∃ k, z = .bl k /\
 (if k = true then tc σ H3 fun w' H4 => r' y w' H4 Q else Q (.bl false) H3)
theorem pe_chain {op op' : CmpOp} {r r' : R2} (ho : OpR X (compareOp op) r) (ho' : OpR X (compareOp op') r') (ha : PE X a ta) (hb : PE X b tb) (hc : PE X c tc)
  (hm : lastMarks [op, op'] [b, c] = false := by with_unfolding_all rfl) : PE X (.Compare a [op, op'] [b, c] pos) (tChain r r' ta tb tc) := by
 intro pins s σ H Q I h
 refine Compare_chain (thn (ha pins s σ H _ I h) fun v s1 ⟨x, H1, I1, r1, q1⟩ => chain_link (thn (hb pins s1 σ H1 _ I1 q1) fun u s2 ⟨y, H2, I2, r2, q2⟩ =>
  thn (ho pins s2 σ H2 x y v u _ I2 r1 r2 q2) fun d s3 ⟨z, H3, I3, r3, k, e, q3⟩ => ?_)) hm
 subst e
 cases r3
 refine wpAny_truthy_bool ?_
 cases k with
 | false => exact ite_ff ⟨.bl false, H3, I3, rfl, q3⟩
 | true => exact ite_tt (chain_last (thn (hc pins s3 σ H3 _ I3 q3) fun w' s4 ⟨z', H4, I4, r4, q4⟩ => ho' pins s4 σ H4 y z' u w' Q I4 r2 r4 q4))
theorem pt_chain {op op' : CmpOp} {r r' : R2} (ho : OpR X (compareOp op) r) (ho' : OpR X (compareOp op') r') (ha : PE X a ta) (hb : PE X b tb) (hc : PE X c tc)
  (hm : lastMarks [op, op'] [b, c] = false := by with_unfolding_all rfl) : PT X (.Compare a [op, op'] [b, c] pos) (tTest (tChain r r' ta tb tc)) := by
 intro pins s σ H Q I h
 refine isTrue_chain (thn (ha pins s σ H _ I h) fun v s1 ⟨x, H1, I1, r1, q1⟩ => test_link (thn (hb pins s1 σ H1 _ I1 q1) fun u s2 ⟨y, H2, I2, r2, q2⟩ =>
  thn (ho pins s2 σ H2 x y v u _ I2 r1 r2 q2) fun d s3 ⟨z, H3, I3, r3, k, e, q3⟩ => ?_)) hm
 subst e
 cases r3
 refine wpAny_truthy_bool ?_
 cases k with
 | false =>
  obtain ⟨k', e', q'⟩ := q3
  cases e'
  exact ite_ff ⟨H3, I3, q'⟩
 | true =>
  refine ite_tt (test_last (thn (hc pins s3 σ H3 _ I3 q3) fun w' s4 ⟨z', H4, I4, r4, q4⟩ => thn (ho' pins s4 σ H4 y z' u w' _ I4 r2 r4 q4) fun d' s5 ⟨z2, H5, I5, r5, k2, e2, q5⟩ => ?_))
  subst e2
  cases r5
  exact wpAny_truthy_bool ⟨H5, I5, q5⟩
noncomputable def TruV (K : PySem.W.Frag) (x : V) (H : Hp) (k : Bool) : Prop :=
 match x with
 | .non => k = false
 | .bl b => k = b
 | .int i => k = (i != 0)
 | .str y => y.length <= sizeLine /\ k = ((y.length : Int) != 0)
 | .byt y => y.size <= sizeLine /\ k = ((y.size : Int) != 0)
 | .ref p => (∃ xs, SqL K H p xs /\ k = !xs.isEmpty) \/ (∃ xs, SqT K H p xs /\ k = !xs.isEmpty) \/ ∃ kvs, H p = some (.dK kvs) /\ k = !kvs.isEmpty
 | _ => False
theorem isEmpty_kv {κ : Type} {kvs : List (κ × V)} {vs : List (κ × Value)} (r : KV kvs vs) : (!vs.isEmpty) = !kvs.isEmpty := by
 cases r <;> rfl
theorem isEmpty_of {xs : List V} {its : List Value} (r : Vals xs its) : (!its.toArray.isEmpty) = !xs.isEmpty := by
 cases r <;> simp
theorem line63 : (sizeLine : Nat) < 2 ^ 63 := by rw [sizeLine_eq]; decide
theorem tru_ok : TruR X (fun x H Q => ∃ k, TruV X.K x H k /\ Q k H) := by
 intro pins s σ H x v Q I rx h
 obtain ⟨k, e, q⟩ := h
 have hl := line63
 have hs : sizeLine = 16777216 := sizeLine_eq
 cases x with
 | non =>
  cases rx
  have e' : k = false := e
  subst e'
  exact truthy_none ⟨H, I, q⟩
 | bl b =>
  cases rx
  have e' : k = b := e
  subst e'
  exact wpAny_truthy_bool ⟨H, I, q⟩
 | int i =>
  obtain ⟨t, rfl⟩ := rx
  have e' : k = (i != 0) := e
  subst e'
  exact PySem.P.truthy_int ⟨H, I, q⟩
 | str y =>
  obtain ⟨t, rfl⟩ := rx
  obtain ⟨hy, e'⟩ : y.length <= sizeLine /\ k = ((y.length : Int) != 0) := e
  subst e'
  exact PySem.P.truthy_str (by omega) ⟨H, I.tok _, q⟩
 | byt y =>
  obtain ⟨t, rfl⟩ := rx
  obtain ⟨hy, e'⟩ : y.size <= sizeLine /\ k = ((y.size : Int) != 0) := e
  subst e'
  exact PySem.W.truthy_bytes (by omega) ⟨H, I.tok _, q⟩
 | ref p =>
  cases rx
  have e' : (∃ xs, SqL X.K H p xs /\ k = !xs.isEmpty) \/ (∃ xs, SqT X.K H p xs /\ k = !xs.isEmpty) \/ ∃ kvs, H p = some (.dK kvs) /\ k = !kvs.isEmpty := e
  rcases e' with ⟨xs, hx, e'⟩ | ⟨xs, hx, e'⟩ | ⟨kvs, hx, e'⟩
  ·subst e'
   obtain ⟨its, r, pl, hz⟩ := I.list hx
   have hlen := r.length
   exact wpAny_truthy_list pl.isList (by simp only [List.size_toArray]; omega) ⟨H, I.tok _, by rw [isEmpty_of r]; exact q⟩
  ·subst e'
   obtain ⟨its, r, pl, hz⟩ := I.tuple hx
   have hlen := r.length
   exact truthy_tuple pl (by simp only [List.size_toArray]; omega) ⟨H, I.tok _, by rw [isEmpty_of r]; exact q⟩
  ·subst e'
   obtain ⟨hz, hS, vs, r, m⟩ : kvs.length <= sizeLine /\ (p == sysModules) = false /\ ∃ vs, KV kvs vs /\ s.heap.DictOf (mixKind X.prog X.w) p vs := I.hok p _ hx
   have hlen : kvs.length = vs.length := Paired.length r
   exact wpAny_truthy_dict hS m (by omega) ⟨H, I.tok _, by rw [isEmpty_kv r]; exact q⟩
 | _ => exact (show False from e).elim
theorem pt_truth (ha : PE X a ta) (he : ∀ whole, isTrue a X.env whole = (do let v <- whole; standAt a.pos; holding [v] (truthy v))) :
  PT X a (fun σ H Q => ta σ H fun x H' => ∃ k, TruV X.K x H' k /\ Q k H') := by
 intro pins s σ H Q I h
 exact isTrue_plain (thn (ha pins s σ H _ I h) fun v s1 ⟨x, H1, I1, r1, q1⟩ => tru_ok pins s1 σ H1 x v Q I1 r1 q1) (he _)
theorem op_add_str : OpR X (binaryOp .Add) (fun x y H Q => ∃ i j, x = .str i /\ y = .str j /\ i.length + j.length <= sizeLine /\ Q (.str (i ++ j)) H) := by
 intro pins s σ H x y v u Q I rx ry h
 obtain ⟨i, j, rfl, rfl, hz, q⟩ := h
 obtain ⟨t, rfl⟩ := rx
 obtain ⟨t', rfl⟩ := ry
 exact add_str (fun t' tk => ⟨.str (i ++ j), H, I.tok _, ⟨_, rfl⟩, q⟩) hz
theorem vals1 {x : V} {us : List Value} (r : Vals [x] us) : ∃ u, us = [u] /\ RelV x u := by
 cases r with
 | cons r1 r2 => cases r2; exact ⟨_, rfl, r1⟩
theorem vals2 {x y : V} {us : List Value} (r : Vals [x, y] us) : ∃ u w', us = [u, w'] /\ RelV x u /\ RelV y w' := by
 cases r with
 | cons r1 r2 =>
  cases r2 with
  | cons r3 r4 => cases r4; exact ⟨_, _, rfl, r1, r3⟩
theorem call_max2 (hc : X.calm = true) : CallR X (.builtin "max") (fun xs H Q => ∃ i j, xs = [.int i, .int j] /\ Q (.int (if j > i then j else i)) H) := by
 intro pins s σ H xs us Q I r h
 obtain ⟨i, j, rfl, q⟩ := h
 obtain ⟨u, w', rfl, ⟨t, rfl⟩, ⟨t', rfl⟩⟩ := vals2 r
 refine max_two_ints (I.ok.hd hc) fun h' tk k => ⟨_, H, I.kept k, ?_, q⟩
 by_cases hj : j > i
 ·rw [if_pos hj, if_pos hj]; exact ⟨_, rfl⟩
 ·rw [if_neg hj, if_neg hj]; exact ⟨_, rfl⟩
theorem call_min2 (hc : X.calm = true) : CallR X (.builtin "min") (fun xs H Q => ∃ i j, xs = [.int i, .int j] /\ Q (.int (if j < i then j else i)) H) := by
 intro pins s σ H xs us Q I r h
 obtain ⟨i, j, rfl, q⟩ := h
 obtain ⟨u, w', rfl, ⟨t, rfl⟩, ⟨t', rfl⟩⟩ := vals2 r
 refine min_two_ints (I.ok.hd hc) fun h' tk k => ⟨_, H, I.kept k, ?_, q⟩
 by_cases hj : j < i
 ·rw [if_pos hj, if_pos hj]; exact ⟨_, rfl⟩
 ·rw [if_neg hj, if_neg hj]; exact ⟨_, rfl⟩
theorem call_int1 : CallR X (.type "int") (fun xs H Q => (∃ i, xs = [.int i] /\ Q (.int i) H) \/ ∃ k, xs = [.bl k] /\ Q (.int (if k then 1 else 0)) H) := by
 intro pins s σ H xs us Q I r h
 rcases h with ⟨i, rfl, q⟩ | ⟨k, rfl, q⟩
 ·obtain ⟨u, rfl, t, rfl⟩ := vals1 r
  exact call_int_int ⟨.int i, H, I, ⟨_, rfl⟩, q⟩
 ·obtain ⟨u, rfl, r1⟩ := vals1 r
  cases r1
  exact call_int_bool ⟨.int (if k then 1 else 0), H, I.tok _, ⟨_, rfl⟩, q⟩
theorem call_str_int : CallR X (.type "str") (fun xs H Q => ∃ i, xs = [.int i] /\ i.natAbs.log2 < 1920 /\ Q (.str (toString i)) H) := by
 intro pins s σ H xs us Q I r h
 obtain ⟨i, rfl, hz, q⟩ := h
 obtain ⟨u, rfl, t, rfl⟩ := vals1 r
 exact PySem.P.str_of_int hz ⟨.str _, H, I.tok _, ⟨_, rfl⟩, q⟩
end
end L2
namespace L2
open PySem PySem.Spec PyProof.Rows
structure ObjM (h : Heap) (x dx C : Addr) (mA : Str -> Option Value) : Prop where
 obj : h.get? x = some (PySem.W.instObj C dx)
 ns : h.Ns1 dx mA
 ne : dx ≠ x
theorem lookIn_ns {h : Heap} {dx : Addr} {mA : Str -> Option Value} (n : h.Ns1 dx mA) : ∃ od, h.get? dx = some od /\ ∀ name, PySem.W.lookIn name od = some (mA name) := by
 obtain ⟨o, es, ep, ho, hd, hk, _, hm⟩ := n
 refine ⟨o, ho, fun name => ?_⟩
 have e := hm name
 unfold nsFind findBy at e
 rw [<- Array.find?_toList] at e
 unfold PySem.W.lookIn
 rw [hd]
 dsimp only
 split
 ·rename_i y q
  rw [q] at e
  exact congrArg some e
 ·rename_i q
  rw [q] at e
  have a : es.toList.any (·.refKey) = false := by
   rw [List.any_eq_false]
   intro y hy
   obtain ⟨z, t, hkey⟩ := hk y (Array.mem_toList_iff.mp hy)
   simp [DictEntry.refKey, hkey]
  have a' : ¬ es.toList.any (·.refKey) = true := by rw [a]; exact Bool.false_ne_true
  rw [if_neg a']
  exact congrArg some e
theorem ObjM.look {h : Heap} {x dx C : Addr} {mA : Str -> Option Value} (I : ObjM h x dx C mA) : ∃ od, PySem.W.InstAt h x (PySem.W.instObj C dx) C (some od) /\ ∀ name, PySem.W.lookIn name od = some (mA name) :=
 let ⟨od, ho, hl⟩ := lookIn_ns I.ns
 ⟨od, ⟨I.obj, rfl, rfl, ho⟩, hl⟩
section
variable {prog : Program} {w : World} {A : Around} {E : Value -> Shared -> Prop} {s : Shared} {K : PySem.W.Frag} {x dx C f : Addr} {mA : Str -> Option Value} {name : Str} {v : Value}
theorem get_map {expr : Bool} {Q : Value -> Shared -> Prop} (X : K.In s.heap) (I : ObjM s.heap x dx C mA) (hg : PySem.W.plainGet K C name = true) (hh : PySem.W.hasDictIn K C = true)
  (ha : PySem.W.findIn K (.ref C) name = some none) (hv : mA name = some v) (hv' : PySem.W.handedIn v = true) (h : Q v { s with toks := s.toks + 1 }) :
  wpAny (model prog w) A (getAttr (.ref x) name expr) Q E s := by
 obtain ⟨od, J, hl⟩ := I.look
 exact PySem.W.get_value X J (PySem.W.plainGet_of hg).1 (PySem.W.findObj_own hh ha rfl (by rw [hl, hv])) hv' h
theorem get_meth {pl : Sem Bool} {Q : Value × List Value -> Shared -> Prop} (X : K.In s.heap) (I : ObjM s.heap x dx C mA) (hg : PySem.W.plainGet K C name = true)
  (hf : PySem.W.findIn K (.ref C) name = some (some (.ref f))) (ht : PySem.W.isFn K (.ref f) = true) (hv : mA name = none) (h : Q (.ref f, [.ref x]) s) :
  wpAny (model prog w) A (getMethod (.ref x) name pl) Q E s := by
 obtain ⟨od, J, hl⟩ := I.look
 exact PySem.W.method_fn X J (PySem.W.plainGet_of hg).1 (PySem.W.plainGet_of hg).2 hf (beq_iff_eq.mp ht) (by show (PySem.W.lookIn name od).map (·.isSome) = some false; rw [hl, hv]; rfl) h
theorem set_map {ns : List Str} {Q : Unit -> Shared -> Prop} (X : K.In s.heap) (I : ObjM s.heap x dx C mA)
  (hs : PySem.W.findIn K (.ref C) "__setattr__" = some (some (.builtin "object.__setattr__"))) (hp : PySem.W.plainOver K C = true) (ht : PySem.W.takerIn K C name = some none) (hh : PySem.W.hasDictIn K C = true)
  (hw : PySem.Within mA ns) (hsz : ns.length <= sizeLine)
  (h : ∀ h', ObjM h' x dx C (fun y => if y = name then some v else mA y) -> Heap.SameBut dx s.heap h' -> Q () { s with heap := h', toks := s.toks + 2 }) :
  wpAny (model prog w) A (setAttr (.ref x) name v) Q E s := by
 obtain ⟨od, J, hl⟩ := I.look
 refine PySem.W.set_plain X J hs (PySem.W.osa_open (s := { s with toks := s.toks + 1 }) (r := none) X J hp ht fun b => ?_)
 obtain ⟨cd, hc, hd'⟩ := PySem.W.any_some hh
 have hx : s.heap.get? x = some ⟨.ref C, some dx, .plain, #[]⟩ := I.obj
 refine wpAny_bind (wpAny_pure (wpAny_bind (wpAny_bind (wpAny_loadPart hx (wpAny_bind (PySem.W.Looks.here (s := { s with toks := s.toks + 1 }) (PySem.W.looks_clsIn X hc) ?_))))))
 rw [hd']
 refine wpAny_pure (a := some dx) (wpAny_bind (wpAny_pure (wpAny_bind ?_)))
 refine wpAny_nsSet1 (s := { s with toks := s.toks + 1 }) I.ns fun h' hn2 hs2 => ?_
 obtain ⟨oD, esD, epD, hoD, hdD, hcD⟩ := hn2.count (PySem.Within.cons name v hw)
 refine wpAny_bind (wpAny_lookBehind hoD (by rw [hdD]; exact pastItsLine_dict (Nat.le_trans hcD (by rw [List.length_cons]; omega))) ?_)
 exact wpAny_pure (h _ ⟨(hs2.2 _ (Ne.symm I.ne)).trans I.obj, hn2, I.ne⟩ hs2)
theorem make_map {R : Result -> Shared -> Prop} {vs : List Value} {kw : List (Str × Value)} (X : K.In s.heap) (hm : PySem.W.makesIn K C = true)
  (hi : PySem.W.findIn K (.ref C) "__init__" = some (some (.ref f))) (hf : PySem.W.typeIn K (.ref f) = some (.type "function"))
  (h : codeAny (model prog w) (A.under (.builtin "type.__call__" ⟨.ref C :: vs, kw⟩)) (.call (.ref f) ⟨.ref (s.heap.objs.size + 1) :: vs, kw⟩) (PySem.W.InitBack (s.heap.objs.size + 1) R)
   { s with heap := (s.heap.push PySem.W.emptyDict).push (PySem.W.instObj C s.heap.objs.size) }) :
  codeAny (model prog w) A (.call (.ref C) ⟨vs, kw⟩) R s := by
 obtain ⟨hh, g, d, t, os⟩ := s
 exact PySem.W.make_core (PySem.W.makes_of X hm) (PySem.W.looks_findIn X hi) (fun self => PySem.W.bind_fn X self hf) (.inl rfl) h
end
noncomputable def putF (f : Str) (v : V) : List (Str × V) -> List (Str × V)
 | [] => [(f, v)]
 | (g, x) :: r => if g = f then (g, v) :: r else (g, x) :: putF f v r
theorem lookup_putF (f g : Str) (v : V) : ∀ fs : List (Str × V), (putF f v fs).lookup g = if g = f then some v else fs.lookup g
 | [] => by
  show List.lookup g [(f, v)] = _
  by_cases h : g = f
  ·have hb : (g == f) = true := beq_iff_eq.mpr h
   simp only [List.lookup, hb, if_pos h]
  ·have hb : (g == f) = false := beq_eq_false_iff_ne.mpr h
   simp only [List.lookup, hb, if_neg h]
 | (k, x) :: r => by
  have ih := lookup_putF f g v r
  rw [show putF f v ((k, x) :: r) = (if k = f then (k, v) :: r else (k, x) :: putF f v r) from rfl]
  by_cases hk : k = f
  ·rw [if_pos hk]
   by_cases h : g = k
   ·have hb : (g == k) = true := beq_iff_eq.mpr h
    simp only [List.lookup, hb, if_pos (h.trans hk)]
   ·have hb : (g == k) = false := beq_eq_false_iff_ne.mpr h
    simp only [List.lookup, hb, if_neg (fun e : g = f => h (e.trans hk.symm))]
  ·rw [if_neg hk]
   by_cases h : g = k
   ·have hb : (g == k) = true := beq_iff_eq.mpr h
    simp only [List.lookup, hb, if_neg (fun e : g = f => hk (h.symm.trans e))]
   ·have hb : (g == k) = false := beq_eq_false_iff_ne.mpr h
    simp only [List.lookup, hb]
    exact ih
theorem keys_putF (f : Str) (v : V) : ∀ fs : List (Str × V), f ∈ (putF f v fs).map (·.1) /\ ∀ g, g ∈ fs.map (·.1) -> g ∈ (putF f v fs).map (·.1)
 | [] => ⟨by simp [putF], fun g h => by simp at h⟩
 | (k, x) :: r => by
  obtain ⟨i1, i2⟩ := keys_putF f v r
  rw [show putF f v ((k, x) :: r) = (if k = f then (k, v) :: r else (k, x) :: putF f v r) from rfl]
  by_cases hk : k = f
  ·rw [if_pos hk]
   subst hk
   exact ⟨by simp, fun g h => by simpa using h⟩
  ·rw [if_neg hk]
   refine ⟨?_, fun g h => ?_⟩
   ·rw [List.map_cons]
    exact List.mem_cons_of_mem _ i1
   ·rw [List.map_cons] at h ⊢
    rcases List.mem_cons.mp h with e | e
    ·exact List.mem_cons.mpr (.inl e)
    ·exact List.mem_cons_of_mem _ (i2 g e)
theorem length_putF (f : Str) (v : V) : ∀ fs : List (Str × V), (putF f v fs).length <= fs.length + 1
 | [] => by simp [putF]
 | (k, x) :: r => by
  have ih := length_putF f v r
  rw [show putF f v ((k, x) :: r) = (if k = f then (k, v) :: r else (k, x) :: putF f v r) from rfl]
  by_cases hk : k = f
  ·rw [if_pos hk, List.length_cons, List.length_cons]; omega
  ·rw [if_neg hk, List.length_cons, List.length_cons]; omega
theorem RelO.some_of {v : V} {o : Option Value} (r : RelO (some v) o) : ∃ u, o = some u /\ RelV v u := by
 cases o with
 | none => exact (show False from r).elim
 | some u => exact ⟨u, rfl, r⟩
theorem RelO.none_of {o : Option Value} (r : RelO none o) : o = none := by
 cases o with
 | none => rfl
 | some u => exact (show False from r).elim
theorem handed_of {v : V} {u : Value} (r : RelV v u) : PySem.W.handedIn u = true := by
 cases v with
 | non => cases (show u = Value.none from r); rfl
 | bl b => cases (show u = Value.bool b from r); rfl
 | int i => obtain ⟨t, e⟩ := (show ∃ t, u = Value.int i t from r); cases e; rfl
 | str x => obtain ⟨t, e⟩ := (show ∃ t, u = Value.str x t from r); cases e; rfl
 | byt b => obtain ⟨t, e⟩ := (show ∃ t, u = Value.bytes b t from r); cases e; rfl
 | flt b => obtain ⟨t, e⟩ := (show ∃ t, u = Value.float b t from r); cases e; rfl
 | ref a => cases (show u = Value.ref a from r); rfl
 | ty n => cases (show u = Value.type n from r); rfl
section
variable {P : Program} {w : World} {H H' : Hp} {h h' : Heap} {a C dx : Addr} {fs fs' : List (Str × V)}
theorem ins_get (hok : HOk P w H h) (e : H a = some (.ins C dx fs)) : ∃ mA, ObjM h a dx C mA /\ (∀ f, RelO (fs.lookup f) (mA f)) /\ PySem.Within mA (fs.map (·.1)) /\ fs.length <= 1000 /\ H dx = some (.own a) := by
 obtain ⟨d, z, ne, ob, mA, n, r, q⟩ := (show ObjOk P w H h a (.ins C dx fs) from hok a _ e)
 exact ⟨mA, ⟨ob, n, ne⟩, r, q, z, d⟩
end
structure Cls (K : PySem.W.Frag) (C : Addr) : Prop where
 pg : PySem.W.plainGet K C Str.empty = true
 hd : PySem.W.hasDictIn K C = true
 po : PySem.W.plainOver K C = true
 sa : PySem.W.findIn K (.ref C) "__setattr__" = some (some (.builtin "object.__setattr__"))
theorem Cls.get {K : PySem.W.Frag} {C : Addr} (c : Cls K C) (f : Str) : PySem.W.plainGet K C f = true := c.pg
noncomputable def NoAttr (K : PySem.W.Frag) (C : Addr) (f : Str) : Prop := PySem.W.findIn K (.ref C) f = some none
theorem NoAttr.taker {K : PySem.W.Frag} {C : Addr} {f : Str} (n : NoAttr K C f) : PySem.W.takerIn K C f = some none := by
 unfold PySem.W.takerIn
 rw [show PySem.W.findIn K (.ref C) f = some none from n]
 rfl
structure Con (K : PySem.W.Frag) (C : Addr) (f : Str) (v : V) (u : Value) : Prop where
 at_ : PySem.W.findIn K (.ref C) f = some (some u)
 rel : RelV v u
 get : PySem.W.specialIn K u "__get__" = some none
 cp : PySem.W.copiedNames.contains f = false
structure Meth (K : PySem.W.Frag) (C : Addr) (m : Str) (f : Addr) : Prop where
 at_ : PySem.W.findIn K (.ref C) m = some (some (.ref f))
 fn : PySem.W.isFn K (.ref f) = true
 kp : PySem.W.keepIn K (.ref f) = true
section
variable {X : Cx} {pins : List (Addr × Obj)} {σ : St} {H : Hp} {s : Shared} {a C dx : Addr} {fs : List (Str × V)} {f : Str} {v : V} {A : Around} {E : Value -> Shared -> Prop}
theorem getattr_ok {b : Bool} {Q : Value -> Shared -> Prop} (I : Inv X pins σ H s) (e : H a = some (.ins C dx fs)) (c : Cls X.K C) (n : NoAttr X.K C f) (l : fs.lookup f = some v)
  (h : ∀ u s', Inv X pins σ H s' -> RelV v u -> Q u s') : wpAny (model X.prog X.w) A (getAttr (.ref a) f b) Q E s := by
 obtain ⟨mA, O, r, _, _, _⟩ := ins_get I.hok e
 obtain ⟨u, hu, ru⟩ := RelO.some_of (v := v) (o := mA f) (by rw [<- l]; exact r f)
 exact get_map I.kIn O (c.get f) c.hd n hu (handed_of ru) (h u _ (I.tok _) ru)
theorem getmeth_ok {m : Str} {g : Addr} {pl : Sem Bool} {Q : Value × List Value -> Shared -> Prop} (I : Inv X pins σ H s) (e : H a = some (.ins C dx fs)) (c : Cls X.K C) (k : Meth X.K C m g) (l : fs.lookup m = none)
  (h : Q (.ref g, [.ref a]) s) : wpAny (model X.prog X.w) A (getMethod (.ref a) m pl) Q E s := by
 obtain ⟨mA, O, r, _, _, _⟩ := ins_get I.hok e
 have hn : mA m = none := RelO.none_of (by rw [<- l]; exact r m)
 exact get_meth I.kIn O (c.get m) k.at_ k.fn hn h
theorem setattr_ok {y : V} {u : Value} {Q : Unit -> Shared -> Prop} (I : Inv X pins σ H s) (e : H a = some (.ins C dx fs)) (c : Cls X.K C) (n : NoAttr X.K C f) (hl : fs.length < 1000) (ry : RelV y u)
  (h : ∀ s', Inv X pins σ (upd H a (.ins C dx (putF f y fs))) s' -> Q () s') : wpAny (model X.prog X.w) A (setAttr (.ref a) f u) Q E s := by
 obtain ⟨mA, O, r, wi, _, ho⟩ := ins_get I.hok e
 have hz : (fs.map (·.1)).length <= sizeLine := by rw [List.length_map, sizeLine_eq]; omega
 refine set_map I.kIn O c.sa c.po n.taker c.hd wi hz fun h' O' sb => h _ ?_
 have hd : ∃ o, h'.get? dx = some o := let ⟨o, _, _, e', _⟩ := O'.ns; ⟨o, e'⟩
 refine I.write (x := a) (e := dx) (by rw [e]; exact True.intro) (.inr ho) (fun b q hb z => (sb.2 b hb).trans z) hd ?_
 refine ⟨by rw [upd_ne O.ne]; exact ho, ?_, O.ne, O'.obj, _, O'.ns, fun g => ?_, fun g hg => ?_⟩
 ·have := length_putF f y fs; omega
 ·show RelO ((putF f y fs).lookup g) (if g = f then some u else mA g)
  rw [lookup_putF]
  by_cases q : g = f
  ·rw [if_pos q, if_pos q]; exact ry
  ·rw [if_neg q, if_neg q]; exact r g
 ·by_cases q : g = f
  ·rw [q]; exact (keys_putF f y fs).1
  ·refine (keys_putF f y fs).2 g (wi g fun z => hg ?_)
   show (if g = f then some u else mA g) = none
   rw [if_neg q]; exact z
theorem Inv.made (I : Inv X pins σ H s) : Inv X pins σ (upd (upd H s.heap.objs.size (.own (s.heap.objs.size + 1))) (s.heap.objs.size + 1) (.ins C s.heap.objs.size []))
  { s with heap := (s.heap.push PySem.W.emptyDict).push (PySem.W.instObj C s.heap.objs.size) } := by
 have e1 : (s.heap.push PySem.W.emptyDict).get? s.heap.objs.size = some PySem.W.emptyDict := Heap.get?_push_size s.heap rfl
 have e2 : ((s.heap.push PySem.W.emptyDict).push (PySem.W.instObj C s.heap.objs.size)).get? (s.heap.objs.size + 1) = some (PySem.W.instObj C s.heap.objs.size) := by
  have := Heap.get?_push_size (s.heap.push PySem.W.emptyDict) (o := PySem.W.instObj C s.heap.objs.size) rfl
  rwa [Heap.size_push] at this
 have e3 : (s.heap.push PySem.W.emptyDict).Ns s.heap.objs.size (fun _ => none) := ⟨PySem.W.emptyDict, #[], _, e1, rfl, (fun e he => absurd he (by simp)), fun _ => rfl⟩
 have I1 := I.laid (a := s.heap.objs.size) (o := .own (s.heap.objs.size + 1)) (h' := s.heap.push PySem.W.emptyDict) (t' := s.toks) (fun b u q => Heap.get?_push_of_some _ q) (Nat.le_refl _) ⟨_, e1⟩
 refine I1.laid (a := s.heap.objs.size + 1) (o := .ins C s.heap.objs.size []) (t' := s.toks) (fun b u q => Heap.get?_push_of_some _ q) (Nat.le_of_eq (Heap.size_push _ _)) ?_
 have ne : s.heap.objs.size ≠ s.heap.objs.size + 1 := Nat.ne_of_lt (Nat.lt_succ_self _)
 refine ⟨by rw [upd_ne ne, upd_same], Nat.zero_le _, ne, e2, fun _ => none, (Heap.Ns1.of_empty e3).at fun o q => Heap.get?_push_of_some _ q, fun _ => True.intro, fun y hy => absurd rfl hy⟩
theorem attr_of {prog : Program} {w : World} {env : Env} {e : Expr} {f : Str} {pos : Pos} {s : Shared} {Q : Value -> Shared -> Prop} (hb : attributeBase e f env (eval e env) = eval e env)
  (h : wpAny (model prog w) A (eval e env) (fun o s₁ => wpAny (model prog w) A (getAttr o f true) Q E s₁) E s) : wpAny (model prog w) A (eval (.Attribute e f pos) env) Q E s :=
 Attribute_any_ h (by rw [arm_eval_Attribute, hb])
end
noncomputable def tFld (K : PySem.W.Frag) (ta : TE) (f : Str) : TE := fun σ H Q => ta σ H fun x H1 => ∃ a C dx fs v, x = .ref a /\ H1 a = some (.ins C dx fs) /\ Cls K C /\ NoAttr K C f /\ fs.lookup f = some v /\ Q v H1
noncomputable def sFld (K : PySem.W.Frag) (ta tv : TE) (f : Str) : TS := fun D σ H => tv σ H fun y H1 => ta σ H1 fun x H2 => ∃ a C dx fs, x = .ref a /\ H2 a = some (.ins C dx fs) /\ Cls K C /\ NoAttr K C f /\ fs.length < 1000 /\
 D.nx σ (upd H2 a (.ins C dx (putF f y fs)))
noncomputable def InOp (X : Cx) (op : Operator) (rd : V -> V -> Hp -> VK -> Prop) : Prop :=
 ∀ (pins : List (Addr × Obj)) (s : Shared) (σ : St) (H : Hp) (x y : V) (u v : Value) (Q : VK), Inv X pins σ H s -> RelV x u -> RelV y v -> rd x y H Q -> wpAny (model X.prog X.w) X.A (inplaceOp op u v) (EP X pins σ Q) X.xe s
noncomputable def sFldAug (K : PySem.W.Frag) (ta tv : TE) (rd : V -> V -> Hp -> VK -> Prop) (f : Str) : TS := fun D σ H => ta σ H fun x H1 => ∃ a C dx fs v, x = .ref a /\ H1 a = some (.ins C dx fs) /\ Cls K C /\ NoAttr K C f /\ fs.lookup f = some v /\
 tv σ H1 fun y H2 => rd v y H2 fun z H3 => ∃ dx' fs', H3 a = some (.ins C dx' fs') /\ fs'.length < 1000 /\ D.nx σ (upd H3 a (.ins C dx' (putF f z fs')))
section
variable {X : Cx} {o e value : Expr} {f : Str} {pos pos' tpos : Pos} {ta tv : TE}
theorem pe_fld (he : PE X e ta) (hb : attributeBase e f X.env (eval e X.env) = eval e X.env) : PE X (.Attribute e f pos) (tFld X.K ta f) := by
 intro pins s σ H Q I h
 refine attr_of hb (thn (he pins s σ H _ I h) fun u s1 ⟨x, H1, I1, rx, a, C, dx, fs, v, ex, ea, c, n, l, q⟩ => ?_)
 subst ex
 obtain rfl : u = Value.ref a := rx
 exact getattr_ok I1 ea c n l fun u' s2 I2 ru => ⟨v, H1, I2, ru, q⟩
theorem ps_fld (ha : PE X o ta) (hv : PE X value tv) (hs : swapsWith value (some (.Attribute o f pos')) pos.line X.env = pure false) : PS X (.Assign [.Attribute o f pos'] value pos) (sFld X.K ta tv f) := by
 intro pins s σ H D I h
 refine plainObj_wpAny_Assign_Attribute (thn (hv pins s σ H _ I h) fun u s1 ⟨y, H1, I1, ry, q⟩ => thn (ha pins s1 σ H1 _ I1 q) fun ov s2 ⟨x, H2, I2, rx, a, C, dx, fs, ex, ea, c, n, l, q2⟩ => ?_) hs
 subst ex
 obtain rfl : ov = Value.ref a := rx
 exact setattr_ok I2 ea c n l ry fun s3 I3 => ⟨σ, _, I3, q2⟩
theorem ps_fldaug {op : Operator} {rd : V -> V -> Hp -> VK -> Prop} (ha : PE X o ta) (hv : PE X value tv) (hop : InOp X op rd) : PS X (.AugAssign (.Attribute o f tpos) op value pos) (sFldAug X.K ta tv rd f) := by
 intro pins s σ H D I h
 refine wpAny_AugAssign_AttributeAny (thn (ha pins s σ H _ I h) fun ov s1 ⟨x, H1, I1, rx, a, C, dx, fs, v, ex, ea, c, n, l, q⟩ => ?_)
 subst ex
 obtain rfl : ov = Value.ref a := rx
 refine getattr_ok I1 ea c n l fun u s2 I2 ru => thn (hv pins s2 σ H1 _ I2 q) fun w3 s3 ⟨y, H2, I3, ry, q3⟩ => thn (hop pins s3 σ H2 v y u w3 _ I3 ru ry q3) fun w4 s4 ⟨z, H3, I4, rz, dx', fs', ea', l', q4⟩ => ?_
 exact setattr_ok I4 ea' c n l' rz fun s5 I5 => ⟨σ, _, I5, q4⟩
noncomputable def rAdd : V -> V -> Hp -> VK -> Prop := fun x y H Q => ∃ i j, x = .int i /\ y = .int j /\ Q (.int (i + j)) H
theorem in_add : InOp X .Add rAdd := by
 rintro pins s σ H x y u v Q I rx ry ⟨i, j, rfl, rfl, q⟩
 obtain ⟨t, rfl⟩ := (show ∃ t, u = Value.int i t from rx)
 obtain ⟨t', rfl⟩ := (show ∃ t', v = Value.int j t' from ry)
 exact PyProof.Rows.iadd_int ⟨.int (i + j), H, I.tok _, ⟨_, rfl⟩, q⟩
end
section
variable {X : Cx} {pins : List (Addr × Obj)} {σ : St} {H : Hp} {s : Shared} {A : Around} {E : Value -> Shared -> Prop} {Q : Value -> Shared -> Prop} {c : Value} {b : Bool}
inductive TyOf (K : PySem.W.Frag) (H : Hp) : V -> Value -> Prop where
 | non : TyOf K H .non (.type "NoneType")
 | bl (x : Bool) : TyOf K H (.bl x) (.type "bool")
 | int (i : Int) : TyOf K H (.int i) (.type "int")
 | str (x : Str) : TyOf K H (.str x) (.type "str")
 | flt (x : UInt64) : TyOf K H (.flt x) (.type "float")
 | lst {a : Addr} {xs : List V} (e : H a = some (.lst xs)) : TyOf K H (.ref a) (.type "list")
 | frz {a : Addr} {o : Obj} {xs : List V} (e : H a = some (.frz o (.lst xs))) : TyOf K H (.ref a) (.type "list")
 | tup {a : Addr} {xs : List V} (e : H a = some (.tup xs)) : TyOf K H (.ref a) (.type "tuple")
 | dK {a : Addr} {kvs : List (Key × V)} (e : H a = some (.dK kvs)) : TyOf K H (.ref a) (.type "dict")
 | dT {a : Addr} {kvs : List (List Key × V)} (e : H a = some (.dT kvs)) : TyOf K H (.ref a) (.type "dict")
 | ins {a C dx : Addr} {fs : List (Str × V)} (e : H a = some (.ins C dx fs)) (cl : Cls K C) (ha : PySem.W.findIn K (.ref C) "__class__" = some (some (.builtin "object.__class__")))
   (hn : PySem.W.specialIn K (.builtin "object.__class__") "__get__" = some (some (.builtin "getset_descriptor.__get__"))) (htk : PySem.W.takesIn K (.builtin "object.__class__") = some true)
   (hm : PySem.W.mroIn K C (.type "object") = some true) : TyOf K H (.ref a) (.ref C)
theorem isinst_ok {x : V} {u t : Value} (I : Inv X pins σ H s) (rx : RelV x u) (ty : TyOf X.K H x t) (e : PySem.W.kitOne X.K t c = some b) (h : ∀ tk, Q (.bool b) { s with toks := tk }) :
  wpAny (model X.prog X.w) A (call (.builtin "isinstance") [u, c]) Q E s := by
 cases ty with
 | non => cases (show u = Value.none from rx); exact PySem.W.kia_one PySem.W.kitx_none I.kIn True.intro e (fun z => nomatch z) h
 | bl y => cases (show u = Value.bool y from rx); exact PySem.W.kia_one PySem.W.kitx_bool I.kIn True.intro e (fun z => nomatch z) h
 | int i => obtain ⟨t, q⟩ := (show ∃ t, u = Value.int i t from rx); cases q; exact PySem.W.kia_one PySem.W.kitx_int I.kIn True.intro e (fun z => nomatch z) h
 | str y => obtain ⟨t, q⟩ := (show ∃ t, u = Value.str y t from rx); cases q; exact PySem.W.kia_one PySem.W.kitx_str I.kIn True.intro e (fun z => nomatch z) h
 | flt y => obtain ⟨t, q⟩ := (show ∃ t, u = Value.float y t from rx); cases q; exact PySem.W.kia_one PySem.W.kitx_float I.kIn True.intro e (fun z => nomatch z) h
 | @lst a xs ea =>
  cases (show u = Value.ref a from rx)
  obtain ⟨_, _, n, _, h1⟩ := (show ObjOk X.prog X.w H s.heap a (.lst xs) from I.hok a _ ea)
  exact PySem.W.kia_one PySem.W.kitx_list I.kIn ⟨_, h1, rfl⟩ e (fun z => nomatch z) h
 | @frz a ob xs ea =>
  cases (show u = Value.ref a from rx)
  obtain ⟨_, _, _, n, _, h1⟩ := (show ObjOk X.prog X.w H s.heap a (.frz ob (.lst xs)) from I.hok a _ ea)
  exact PySem.W.kia_one PySem.W.kitx_list I.kIn ⟨_, h1, rfl⟩ e (fun z => nomatch z) h
 | @tup a xs ea =>
  cases (show u = Value.ref a from rx)
  obtain ⟨_, _, _, p⟩ := (show ObjOk X.prog X.w H s.heap a (.tup xs) from I.hok a _ ea)
  obtain ⟨o, h1, h2, _⟩ := p
  exact PySem.W.kia_one PySem.W.kitx_tuple I.kIn ⟨o, h1, h2⟩ e (fun z => nomatch z) h
 | @dK a kvs ea =>
  cases (show u = Value.ref a from rx)
  obtain ⟨_, _, vs, _, p⟩ := (show ObjOk X.prog X.w H s.heap a (.dK kvs) from I.hok a _ ea)
  obtain ⟨o, es, ep, h1, h2, _⟩ := p
  exact PySem.W.kia_one PySem.W.kitx_dict I.kIn ⟨o, h1, h2.1⟩ e (fun z => nomatch z) h
 | @dT a kvs ea =>
  cases (show u = Value.ref a from rx)
  obtain ⟨_, _, xs, _, o, es, ep, h1, h2, _⟩ := (show ObjOk X.prog X.w H s.heap a (.dT kvs) from I.hok a _ ea)
  exact PySem.W.kia_one PySem.W.kitx_dict I.kIn ⟨o, h1, h2.1⟩ e (fun z => nomatch z) h
 | @ins a C dx fs ea cl ha hn htk hm =>
  cases (show u = Value.ref a from rx)
  obtain ⟨mA, O, _⟩ := ins_get I.hok ea
  obtain ⟨od, J, _⟩ := O.look
  exact PySem.W.kia_one (PySem.W.kitx_own (cl.get _) cl.hd ha hn htk hm) I.kIn J e (fun z => nomatch z) h
end
end L2
namespace L2
open PySem PySem.Spec PyProof.Rows
structure Room (k : Nat) (A : Around) : Prop where
 hd : A.handled = none
 dp : A.depth + 3 * k + 5 < recursionLimit
 un : A.units + 16 * k + 200 < cLine
theorem Room.mono {j k : Nat} {A : Around} (r : Room k A) (h : j <= k) : Room j A := ⟨r.hd, by have := r.dp; omega, by have := r.un; omega⟩
theorem Room.deeper {k : Nat} {A : Around} (r : Room (k + 1) A) (env : Env) : Room k (A.deeper env) :=
 ⟨r.hd, by have := r.dp; show A.depth + 1 + 3 * k + 5 < _; omega, by have := r.un; show A.units + 3 + 16 * k + 200 < _; omega⟩
theorem Room.in1 {k : Nat} {A : Around} (r : Room (k + 1) A) : Room k A.in1 :=
 ⟨r.hd, by have := r.dp; show A.depth + 3 * k + 5 < _; omega, by have := r.un; show A.units + 1 + 16 * k + 200 < _; omega⟩
theorem make_depth {A : Around} {C : Addr} {us : List Value} {kw : List (Str × Value)} : (A.under (.builtin "type.__call__" ⟨.ref C :: us, kw⟩)).depth = A.depth + 1 := by
 first | rfl | simp [Around.under, Code.weight, Code.isCreation, Code.isGuard, Code.isCaller, Code.frames, Code.isFrame, guardIds]
theorem make_units {A : Around} {C : Addr} {us : List Value} {kw : List (Str × Value)} : (A.under (.builtin "type.__call__" ⟨.ref C :: us, kw⟩)).units = A.units + 1 := by
 first | rfl | simp [Around.under, Code.cUnits, Code.frames, Code.isFrame]
theorem Room.make {k : Nat} {A : Around} (r : Room (k + 1) A) (C : Addr) (us : List Value) (kw : List (Str × Value)) : Room k (A.under (.builtin "type.__call__" ⟨.ref C :: us, kw⟩)) :=
 ⟨r.hd, by have := r.dp; rw [make_depth]; omega, by have := r.un; rw [make_units]; omega⟩
theorem Room.depth {k : Nat} {A : Around} (r : Room k A) : A.depth < recursionLimit := by have := r.dp; omega
theorem Room.units {k : Nat} {A : Around} (r : Room k A) : A.units + 64 < cLine := by have := r.un; omega
noncomputable def tNil : TA := fun _ H Q => Q [] H
noncomputable def tCons (ta : TE) (tr : TA) : TA := fun σ H Q => ta σ H fun x H1 => tr σ H1 fun xs H2 => Q (x :: xs) H2
section
variable {X : Cx} {e : Expr} {es : List Expr} {te : TE} {t : TA} {pos : Pos}
theorem pa_nil : PA X [] tNil := fun _ _ _ _ H Q I h => Calls.spliced_nil ⟨[], H, I, .nil, h⟩
theorem pa_cons (ha : PE X e te) (hr : PA X es t) (hs : starEach (e :: es) X.env = (false, eval e X.env) :: starEach es X.env := by rfl) : PA X (e :: es) (tCons te t) := by
 intro pos pins s σ H Q I h
 rw [hs]
 show wpAny _ _ (spliced ((false, eval e X.env) :: backTo pos (starEach es X.env))) _ _ s
 refine Calls.spliced_cons (thn (ha pins s σ H _ I h) fun u s1 ⟨x, H1, I1, r1, q1⟩ => ?_)
 exact thn (hr pos pins s1 σ H1 _ I1 q1) fun us s2 ⟨xs, H2, I2, r2, q2⟩ => ⟨x :: xs, H2, I2, .cons r1 r2, q2⟩
noncomputable def tTup (t : TA) : TE := fun σ H Q => t σ H fun xs H1 => xs.length <= sizeLine /\ ∀ p, H1 p = none -> Q (.ref p) (upd H1 p (.tup xs))
noncomputable def tLst (t : TA) : TE := fun σ H Q => t σ H fun xs H1 => xs.length <= sizeLine /\ ∀ p, H1 p = none -> Q (.ref p) (upd H1 p (.lst xs))
theorem pe_tup {x1} (h : PA X es t) : PE X (.Tuple es x1 pos) (tTup t) := by
 intro pins s σ H Q I hq
 refine wpAny_Tuple_spliced (thn (h pos pins s σ H _ I hq) fun us s1 ⟨xs, H1, I1, r, z, q⟩ => ⟨by rw [<- r.length]; exact z, ?_⟩)
 have hf : H1 s1.heap.objs.size = none := I1.hok.fresh (Nat.le_refl _)
 refine ⟨.ref s1.heap.objs.size, upd H1 s1.heap.objs.size (.tup xs), I1.laid (t' := s1.toks) (fun b u e => Heap.get?_push_of_some _ e) (Nat.le_refl _) ?_, rfl, q _ hf⟩
 exact ⟨z, us, r, ⟨_, Heap.get?_push_size _ rfl, rfl, ⟨_, rfl⟩, rfl⟩⟩
theorem pe_lst (h : PA X es t) : PE X (.List es pos) (tLst t) := by
 intro pins s σ H Q I hq
 refine wpAny_List_spliced (thn (h pos pins s σ H _ I hq) fun us s1 ⟨xs, H1, I1, r, z, q⟩ => ⟨by rw [<- r.length]; exact z, ?_⟩)
 have hf : H1 s1.heap.objs.size = none := I1.hok.fresh (Nat.le_refl _)
 refine ⟨.ref s1.heap.objs.size, upd H1 s1.heap.objs.size (.lst xs), I1.laid (t' := s1.toks) (fun b u e => Heap.get?_push_of_some _ e) (Nat.le_refl _) ?_, rfl, q _ hf⟩
 exact ⟨z, us, 0, r, Heap.get?_push_size _ rfl⟩
end
noncomputable abbrev Sp := List V -> Hp -> VK -> XK -> Prop
noncomputable abbrev CXT := List Env -> Hp -> Shared -> XK -> Value -> Shared -> Prop
structure Env0 (P : Program) (w : World) (K : PySem.W.Frag) (mg : Str -> Option Value) (base : Heap) (A : Around) (outer : List Env) (s : Shared) (H : Hp) : Prop where
 frames : A.frames = some outer
 mod : Mod K mg base
 bs : ∀ b o, base.get? b = some o -> s.heap.get? b = some o /\ H b = none
 bsz : base.objs.size <= s.heap.objs.size
 funs : s.heap.FunFrames base outer
 frf : ∀ b ∈ frs outer, H b = none
 hok : HOk P w H s.heap
 bare : AllBare s.gens
noncomputable def CE (outer : List Env) (P : Program) (w : World) (H : Hp) (s : Shared) (Q : VK) (u : Value) (s' : Shared) : Prop :=
 ∃ v H', s'.os = s.os /\ AllBare s'.gens /\ Un (frs outer) [] H H' s.heap s'.heap /\ HOk P w H' s'.heap /\ RelV v u /\ Q v H'
noncomputable def CR (CX : CXT) (outer : List Env) (P : Program) (w : World) (H : Hp) (s : Shared) (Q : VK) (E : XK) (r : Result) (s' : Shared) : Prop :=
 match r with
 | .ok (.ret u) => CE outer P w H s Q u s'
 | .ok _ => False
 | .error e => CX outer H s E e s'
structure FnOk (P : Program) (w : World) (K : PySem.W.Frag) (mg : Str -> Option Value) (base : Heap) (CX : CXT) (k : Nat) (f : Addr) (fd : FuncData) (ps : List Str) (sp : Sp) : Prop where
 len : ∀ vs H Q E, sp vs H Q E -> vs.length = ps.length
 run : ∀ (A : Around) (outer : List Env) (s : Shared) (H : Hp) (args : Args) (us : List Value) (vs : List V) (Q : VK) (E : XK), Room k A -> Env0 P w K mg base A outer s H -> BindsTo s fd args (ps.zip us) -> Vals vs us -> sp vs H Q E ->
  codeAny (model P w) A (.call (.ref f) args) (CR CX outer P w H s Q E) s
theorem FnOk.mono {P : Program} {w : World} {K : PySem.W.Frag} {mg : Str -> Option Value} {base : Heap} {CX : CXT} {j k : Nat} {f : Addr} {fd : FuncData} {ps : List Str} {sp : Sp} (F : FnOk P w K mg base CX j f fd ps sp) (h : j <= k) :
  FnOk P w K mg base CX k f fd ps sp := ⟨F.len, fun A outer s H args us vs Q E hr => F.run A outer s H args us vs Q E (hr.mono h)⟩
theorem FnOk.imp {P : Program} {w : World} {K : PySem.W.Frag} {mg : Str -> Option Value} {base : Heap} {CX : CXT} {k : Nat} {f : Addr} {fd : FuncData} {ps : List Str} {sp sp' : Sp} (F : FnOk P w K mg base CX k f fd ps sp)
  (h : ∀ vs H Q E, sp' vs H Q E -> sp vs H Q E) : FnOk P w K mg base CX k f fd ps sp' :=
 ⟨fun vs H Q E q => F.len vs H Q E (h _ _ _ _ q), fun A outer s H args us vs Q E hr he hb hv hs => F.run A outer s H args us vs Q E hr he hb hv (h _ _ _ _ hs)⟩
theorem Env0.make {P : Program} {w : World} {K : PySem.W.Frag} {mg : Str -> Option Value} {base : Heap} {A : Around} {outer : List Env} {s : Shared} {H : Hp} (e : Env0 P w K mg base A outer s H) (C : Addr) (us : List Value) (kw : List (Str × Value)) :
  Env0 P w K mg base (A.under (.builtin "type.__call__" ⟨.ref C :: us, kw⟩)) outer s H := ⟨by first | exact e.frames | (simpa [Around.under, Code.envs, Code.isFrame, pushEnvs] using e.frames), e.mod, e.bs, e.bsz, e.funs, e.frf, e.hok, e.bare⟩
theorem Env0.in1 {P : Program} {w : World} {K : PySem.W.Frag} {mg : Str -> Option Value} {base : Heap} {A : Around} {outer : List Env} {s : Shared} {H : Hp} (e : Env0 P w K mg base A outer s H) :
  Env0 P w K mg base A.in1 outer s H := ⟨e.frames, e.mod, e.bs, e.bsz, e.funs, e.frf, e.hok, e.bare⟩
section
variable {X : Cx} {pins : List (Addr × Obj)} {σ : St} {H : Hp} {s s' : Shared}
theorem Inv.env0 (I : Inv X pins σ H s) : Env0 X.prog X.w X.K X.mg X.base X.A X.stack s H :=
 ⟨I.ok.frames, I.ok.mod, I.bs, Nat.le_trans I.ok.bsz I.sz, I.stack, I.stkFree, I.hok, I.bare⟩
theorem Inv.after {Q : VK} {u : Value} (I : Inv X pins σ H s) (h : CE X.stack X.prog X.w H s Q u s') : EP X pins σ Q u s' := by
 obtain ⟨v, H', os, bare, un, hok, r, q⟩ := h
 obtain ⟨hh, g, d, t, os'⟩ := s'
 obtain rfl : os' = s.os := os
 exact ⟨v, H', I.call (h' := hh) (g' := g) (d' := d) (t' := t) (ch := []) un hok bare (fun b z => absurd z (by simp)), r, q⟩
end
noncomputable def tCall (sp : Sp) (dvs : List V) (E : XK) (t : TA) : TE := fun σ H Q => t σ H fun vs H1 => sp (vs ++ dvs) H1 Q E
noncomputable def tMake (C : Addr) (sp : Sp) (dvs : List V) (E : XK) (t : TA) : TE := fun σ H Q => t σ H fun vs H1 => ∀ x dx, H1 x = none -> H1 dx = none -> dx ≠ x ->
 sp (.ref x :: (vs ++ dvs)) (upd (upd H1 dx (.own x)) x (.ins C dx [])) (fun v H2 => v = .non /\ Q (.ref x) H2) E
noncomputable def Binds (K : PySem.W.Frag) (fd : FuncData) (ps : List Str) (ds : List Value) : Prop :=
 ∀ (s : Shared) (us : List Value), K.In s.heap -> (us ++ ds).length = ps.length -> BindsTo s fd ⟨us, []⟩ (ps.zip (us ++ ds))
theorem Binds.all {K : PySem.W.Frag} {fd : FuncData} {ps : List Str} (h : ∀ us : List Value, us.length = ps.length -> bindArgs fd ⟨us, []⟩ = pure (ps.zip us)) : Binds K fd ps [] := fun s us _ hl => by
 rw [List.append_nil] at hl ⊢
 exact .of_eq (h us hl)
noncomputable def Passes (CX : CXT) (X : Cx) (E : XK) : Prop := ∀ (pins : List (Addr × Obj)) (σ : St) (H : Hp) (s : Shared) (e : Value) (s' : Shared), Inv X pins σ H s -> CX X.stack H s E e s' -> X.xe e s'
section
variable {X : Cx} {CX : CXT} {k : Nat} {f C : Addr} {fd : FuncData} {ps : List Str} {sp : Sp} {dvs : List V} {ds : List Value} {E : XK} {x m : Str} {p pos apos : Pos} {e o : Expr} {es : List Expr} {ta : TE} {t : TA}
theorem run_fn {pins : List (Addr × Obj)} {σ : St} {H : Hp} {s : Shared} {Q : VK} {us : List Value} {vs : List V} (F : FnOk X.prog X.w X.K X.mg X.base CX k f fd ps sp) (hr : Room k X.A) (hb : Binds X.K fd ps ds) (hd : Vals dvs ds) (hx : Passes CX X E)
  (I : Inv X pins σ H s) (r : Vals vs us) (h : sp (vs ++ dvs) H Q E) : wpAny (model X.prog X.w) X.A (call (.ref f) us) (EP X pins σ Q) X.xe s := by
 have r2 : Vals (vs ++ dvs) (us ++ ds) := r.append hd
 have hl : (us ++ ds).length = ps.length := by rw [<- r2.length]; exact F.len _ _ _ _ h
 refine wpAny_call (codeAny_mono (F.run X.A X.stack s H ⟨us, []⟩ (us ++ ds) (vs ++ dvs) Q E hr I.env0 (hb s us I.kIn hl) r2 h) fun r s' hq => ?_)
 cases r with
 | error e => exact hx pins σ H s e s' I hq
 | ok fl =>
  cases fl with
  | ret u => exact I.after hq
  | next => exact False.elim hq
  | brk => exact False.elim hq
  | cont => exact False.elim hq
theorem pe_call (F : FnOk X.prog X.w X.K X.mg X.base CX k f fd ps sp) (hr : Room k X.A) (hg : Gl X x) (hm : X.mg x = some (.ref f)) (hk : PySem.W.keepIn X.K (.ref f) = true) (hb : Binds X.K fd ps ds) (hd : Vals dvs ds) (hx : Passes CX X E)
  (ha : PA X (e :: es) t) (hdb : (x == ("__debug__" : Str)) = false := by decide) (he : starEach (e :: es) X.env = (false, eval e X.env) :: starEach es X.env := by rfl) (hpl : (backTo pos (starEach es X.env)).any (·.1) = false := by rfl) :
  PE X (.Call (.Name x p) (e :: es) [] pos) (tCall sp dvs E t) := by
 intro pins s σ H Q I h
 refine wpAny_Call_Name_kw (ld_glob I hg hm ?_ hdb)
 refine PySem.W.callWith_K (h₀ := X.base) I.ok.mod.kin hk (thn (ha pos pins s σ H _ I h) fun us s1 ⟨vs, H1, I1, r, q⟩ => ⟨I1.kIn, ?_⟩) he hpl
 exact run_fn F hr hb hd hx I1 r q
structure Mk (K : PySem.W.Frag) (C f : Addr) : Prop where
 makes : PySem.W.makesIn K C = true
 init : PySem.W.findIn K (.ref C) "__init__" = some (some (.ref f))
 fn : PySem.W.isFn K (.ref f) = true
 kp : PySem.W.keepIn K (.ref C) = true
theorem run_make {pins : List (Addr × Obj)} {σ : St} {H : Hp} {s : Shared} {Q : VK} {us : List Value} {vs : List V} (M : Mk X.K C f) (F : FnOk X.prog X.w X.K X.mg X.base CX k f fd ps sp) (hr : Room (k + 1) X.A) (hb : Binds X.K fd ps ds) (hd : Vals dvs ds)
  (hx : Passes CX X E) (I : Inv X pins σ H s) (r : Vals vs us)
  (h : ∀ x dx, H x = none -> H dx = none -> dx ≠ x -> sp (.ref x :: (vs ++ dvs)) (upd (upd H dx (.own x)) x (.ins C dx [])) (fun v H2 => v = .non /\ Q (.ref x) H2) E) :
  wpAny (model X.prog X.w) X.A (call (.ref C) us) (EP X pins σ Q) X.xe s := by
 have hq := h (s.heap.objs.size + 1) s.heap.objs.size (I.hok.fresh (Nat.le_succ _)) (I.hok.fresh (Nat.le_refl _)) (Nat.ne_of_lt (Nat.lt_succ_self _))
 have I2 := Inv.made (C := C) I
 have r2 : Vals (V.ref (s.heap.objs.size + 1) :: (vs ++ dvs)) (Value.ref (s.heap.objs.size + 1) :: (us ++ ds)) := .cons rfl (r.append hd)
 have hl : (Value.ref (s.heap.objs.size + 1) :: us ++ ds).length = ps.length := by
  have e := r2.length
  rw [F.len _ _ _ _ hq] at e
  exact e.symm
 refine wpAny_call (make_map (f := f) I.kIn M.makes M.init (beq_iff_eq.mp M.fn) (codeAny_mono (F.run _ X.stack _ _ ⟨Value.ref (s.heap.objs.size + 1) :: us, []⟩ (Value.ref (s.heap.objs.size + 1) :: (us ++ ds)) _ _ E (hr.make C us [])
  (I2.env0.make C us []) (hb _ (Value.ref (s.heap.objs.size + 1) :: us) I2.kIn hl) r2 hq) fun r s' hq' => ?_))
 cases r with
 | error e => exact hx pins σ _ _ e s' I2 hq'
 | ok fl =>
  cases fl with
  | ret u =>
   obtain ⟨v, H', I3, rv, ev, q3⟩ := I2.after hq'
   subst ev
   exact ⟨rv, ⟨V.ref (s.heap.objs.size + 1), H', I3, rfl, q3⟩⟩
  | next => exact False.elim hq'
  | brk => exact False.elim hq'
  | cont => exact False.elim hq'
theorem pe_make (M : Mk X.K C f) (F : FnOk X.prog X.w X.K X.mg X.base CX k f fd ps sp) (hr : Room (k + 1) X.A) (hg : Gl X x) (hm : X.mg x = some (.ref C)) (hb : Binds X.K fd ps ds) (hd : Vals dvs ds) (hx : Passes CX X E)
  (ha : PA X (e :: es) t) (hdb : (x == ("__debug__" : Str)) = false := by decide) (he : starEach (e :: es) X.env = (false, eval e X.env) :: starEach es X.env := by rfl) (hpl : (backTo pos (starEach es X.env)).any (·.1) = false := by rfl) :
  PE X (.Call (.Name x p) (e :: es) [] pos) (tMake C sp dvs E t) := by
 intro pins s σ H Q I h
 refine wpAny_Call_Name_kw (ld_glob I hg hm ?_ hdb)
 refine PySem.W.callWith_K (h₀ := X.base) I.ok.mod.kin M.kp (thn (ha pos pins s σ H _ I h) fun us s1 ⟨vs, H1, I1, r, q⟩ => ⟨I1.kIn, ?_⟩) he hpl
 exact run_make M F hr hb hd hx I1 r q
theorem pe_make0 (M : Mk X.K C f) (F : FnOk X.prog X.w X.K X.mg X.base CX k f fd ps sp) (hr : Room (k + 1) X.A) (hg : Gl X x) (hm : X.mg x = some (.ref C)) (hb : Binds X.K fd ps ds) (hd : Vals dvs ds) (hx : Passes CX X E)
  (hdb : (x == ("__debug__" : Str)) = false := by decide) : PE X (.Call (.Name x p) [] [] pos) (tMake C sp dvs E tNil) := by
 intro pins s σ H Q I h
 refine wpAny_Call_Name_kw (ld_glob I hg hm ?_ hdb)
 exact PySem.W.callWith_K0 I.kIn M.kp (run_make (us := []) M F hr hb hd hx I .nil h)
end
section
variable {X : Cx} {CX : CXT} {k : Nat} {f C : Addr} {fd : FuncData} {ps ks : List Str} {sp : Sp} {E : XK} {x m : Str} {p pos apos kpos : Pos} {e o : Expr} {es : List Expr} {kws : List Keyword} {te ta : TE} {t tk : TA} {nm : Option Str}
structure KBinds (K : PySem.W.Frag) (fd : FuncData) (ps ks : List Str) (g : List Value -> List Value -> List Value) (gV : List V -> List V -> List V) : Prop where
 to : ∀ (s : Shared) (us ws : List Value), K.In s.heap -> (g us ws).length = ps.length -> BindsTo s fd ⟨us, ks.zip ws⟩ (ps.zip (g us ws))
 rel : ∀ {vs : List V} {us : List Value} {zs : List V} {ws : List Value}, Vals vs us -> Vals zs ws -> Vals (gV vs zs) (g us ws)
variable {g : List Value -> List Value -> List Value} {gV : List V -> List V -> List V}
end
structure FnScope (N P : List Str) (sc : Scope) : Prop where
 kind : sc.kind = .function
 co : sc.isCoroutine = false
 gen : sc.isGenerator = false
 nd : N.Nodup
 pre : N.take P.length = P
 par : ∀ x ∈ P, sc.names.lookup x = some .local \/ sc.names.lookup x = some .cell
 nofree : ∀ y ∈ sc.names, y.2 ≠ .free
theorem bindL_out {kindOf : Str -> Option NameKind} {x : Str} : ∀ {binds : List (Str × Value)} {m : Str -> Option Value}, (∀ v, (x, v) ∉ binds) -> bindL kindOf binds m x = m x
 | [], _, _ => rfl
 | (n, v) :: r, m, h => by
  unfold bindL
  rw [bindL_out fun w hw => h w (List.mem_cons_of_mem _ hw)]
  split
  ·have : x ≠ n := by rintro rfl; exact h v List.mem_cons_self
   simp [this]
  ·rfl
theorem bindC_out {kindOf : Str -> Option NameKind} {x : Str} : ∀ {binds : List (Str × Value)} {m : Str -> Option Value}, (∀ v, (x, v) ∉ binds) -> bindC kindOf binds m x = m x
 | [], _, _ => rfl
 | (n, v) :: r, m, h => by
  unfold bindC
  rw [bindC_out fun w hw => h w (List.mem_cons_of_mem _ hw)]
  split
  ·rfl
  ·have : x ≠ n := by rintro rfl; exact h v List.mem_cons_self
   simp [this]
theorem bindL_get {kindOf : Str -> Option NameKind} {x : Str} {v : Value} : ∀ {P : List Str} {vs : List Value} {i : Nat} {m : Str -> Option Value}, P.Nodup -> P[i]? = some x -> vs[i]? = some v -> kindOf x = some .local ->
  bindL kindOf (P.zip vs) m x = some v
 | [], _, _, _, _, h, _, _ => by simp at h
 | _ :: _, [], _, _, _, _, h, _ => by simp at h
 | p :: P, w :: vs, 0, m, nd, h1, h2, hk => by
  simp at h1 h2; subst h1; subst h2
  show bindL kindOf ((p, w) :: P.zip vs) m p = _
  unfold bindL
  rw [bindL_out fun v hv => (List.nodup_cons.mp nd).1 (List.of_mem_zip hv).1, if_pos hk]
  simp
 | p :: P, w :: vs, i + 1, m, nd, h1, h2, hk => by
  show bindL kindOf ((p, w) :: P.zip vs) m x = _
  unfold bindL
  exact bindL_get (i := i) (List.nodup_cons.mp nd).2 (by simpa using h1) (by simpa using h2) hk
theorem bindC_get {kindOf : Str -> Option NameKind} {x : Str} {v : Value} : ∀ {P : List Str} {vs : List Value} {i : Nat} {m : Str -> Option Value}, P.Nodup -> P[i]? = some x -> vs[i]? = some v -> kindOf x ≠ some .local ->
  bindC kindOf (P.zip vs) m x = some v
 | [], _, _, _, _, h, _, _ => by simp at h
 | _ :: _, [], _, _, _, _, h, _ => by simp at h
 | p :: P, w :: vs, 0, m, nd, h1, h2, hk => by
  simp at h1 h2; subst h1; subst h2
  show bindC kindOf ((p, w) :: P.zip vs) m p = _
  unfold bindC
  rw [bindC_out fun v hv => (List.nodup_cons.mp nd).1 (List.of_mem_zip hv).1, if_neg hk]
  simp
 | p :: P, w :: vs, i + 1, m, nd, h1, h2, hk => by
  show bindC kindOf ((p, w) :: P.zip vs) m x = _
  unfold bindC
  exact bindC_get (i := i) (List.nodup_cons.mp nd).2 (by simpa using h1) (by simpa using h2) hk
noncomputable def start (N : List Str) (vs : List V) : St := vs.map some ++ List.replicate (N.length - vs.length) none
noncomputable def cxOf (CX : CXT) (P : Program) (w : World) (K : PySem.W.Frag) (mg : Str -> Option Value) (base : Heap) (N : List Str) (qual : Str) (scope : Scope) (f : Addr) (cd : Value) (A : Around) (outer : List Env) (s : Shared) (H : Hp) (E : XK) : Cx where
 prog := P
 w := w
 K := K
 mg := mg
 base := base
 A := A.deeper (envOfC qual scope s.heap.objs.size f cd)
 N := N
 s₀ := s
 H₀ := H
 env := envOfC qual scope s.heap.objs.size f cd
 outer := outer
 stack := envOfC qual scope s.heap.objs.size f cd :: outer
 ex := []
 calm := true
 fn := fun _ => true
 pn := []
 xe := fun e s' => wpAny (model P w) (A.deeper (envOfC qual scope s.heap.objs.size f cd)) (leaving (envOfC qual scope s.heap.objs.size f cd) e) (fun _ s'' => CX outer H s E e s'') (fun e' s'' => CX outer H s E e' s'') s'
theorem cell_has {sc : Scope} {n : Nat} {x : Str} (h : sc.names.lookup x = some .cell) : ∃ c, (cellsFrom n sc.names []).lookup x = some c := by
 have q := PySem.W.cellsFrom_some sc.names n [] (.inl h)
 exact Option.isSome_iff_exists.mp q
theorem inv_start {CX : CXT} {P : Program} {w : World} {K : PySem.W.Frag} {mg : Str -> Option Value} {base : Heap} {N ps : List Str} {qual : Str} {scope : Scope} {f : Addr} {cd : Value} {A : Around} {outer : List Env} {s s1 : Shared} {H : Hp} {E : XK} {us : List Value} {vs : List V}
  (S : FnScope N ps scope) (hd : A.handled = none) (e0 : Env0 P w K mg base A outer s H) (hl : vs.length = ps.length) (r : Vals vs us)
  (x : InCallC s s.heap.objs.size (bindL (envOfC qual scope s.heap.objs.size f cd).kindOf (ps.zip us) fun _ => none) (cellsFrom (s.heap.objs.size + 1) scope.names []) (bindC (envOfC qual scope s.heap.objs.size f cd).kindOf (ps.zip us) fun _ => none) s1) :
  Inv (cxOf CX P w K mg base N qual scope f cd A outer s H E) [] (start N vs) H s1 := by
 have hpl : ps.length <= N.length := by have := congrArg List.length S.pre; rw [List.length_take] at this; omega
 obtain ⟨h1, tk, rfl, hk⟩ := x.done
 have noA : ∀ b : Addr, b ∉ (cxOf CX P w K mg base N qual scope f cd A outer s H E).ex := fun b z => absurd (show b ∈ ([] : List Addr) from z) (by simp)
 refine ⟨⟨e0.mod, S.kind, rfl, rfl, Nat.le_refl _, fun y z c h1 h2 => ?_, fun y hy => ?_, fun y c _ h => ?_, fun _ => hd, Around.frames_deeper e0.frames, .inr ⟨rfl, rfl⟩, fun b z => absurd z (noA b), e0.bs, e0.bsz, fun b _ _ => noA b, fun b z => absurd z (noA b), e0.funs, e0.frf⟩,
  rfl, e0.bare, Un.kept hk, ⟨_, x.toInCall.ns, fun i y v h1 h2 h3 => ?_⟩, fun y c h => ⟨_, x.cell y c h⟩, e0.hok.fresh (Nat.le_refl _), fun y c h => ?_, fun p hp => absurd (show p ∈ ([] : List (Addr × Obj)) from hp) (by simp), e0.hok.kept hk, ?_⟩
 ·exact name_of_addr x.apart (PySem.mem_of_lookup h1) (PySem.mem_of_lookup h2)
 ·have hy : scope.names.lookup y = some .cell \/ scope.names.lookup y = some .free := hy
  rcases hy with hy | hy
  ·exact cell_has hy
  ·exact absurd rfl (S.nofree _ (PySem.mem_of_lookup hy))
 ·exact Nat.le_of_lt (x.above y c (PySem.mem_of_lookup h))
 ·have hi : i < vs.length := by
   unfold start at h2
   by_cases hi : i < vs.length
   ·exact hi
   ·rw [List.getElem?_append_right (by simpa using hi)] at h2
    rw [List.getElem?_replicate] at h2
    split at h2 <;> cases h2
  have ha : vs[i]? = some v := by
   unfold start at h2
   rw [List.getElem?_append_left (by simpa using hi), List.getElem?_map] at h2
   cases e : vs[i]? with
   | none => rw [e] at h2; cases h2
   | some a => rw [e] at h2; cases h2; rfl
  obtain ⟨u, hu, rv⟩ := r.get ha
  have hp : ps[i]? = some y := by
   rw [<- S.pre, List.getElem?_take_of_lt (by omega)]; exact h1
  have ndP : ps.Nodup := by rw [<- S.pre]; exact S.nd.sublist (List.take_sublist _ _)
  refine ⟨u, rv, ?_⟩
  rcases S.par y (List.mem_of_getElem? hp) with k | k
  ·exact .inl ⟨k, bindL_get ndP hp hu k⟩
  ·obtain ⟨c, e⟩ := cell_has (n := s.heap.objs.size + 1) k
   refine .inr ⟨.inl k, c, e, ?_⟩
   have q := x.cell y c e
   rw [bindC_get ndP hp hu (by show scope.names.lookup y ≠ _; rw [k]; decide)] at q
   exact q
 ·exact e0.hok.fresh (Nat.le_of_lt (x.above y c (PySem.mem_of_lookup h)))
 ·unfold start
  show _ = N.length
  rw [List.length_append, List.length_map, List.length_replicate]
  omega
theorem fn_of {CX : CXT} {P : Program} {w : World} {K : PySem.W.Frag} {mg : Str -> Option Value} {base : Heap} {k : Nat} {f : Addr} {name qual : Str} {params : Arguments} {body : List Stmt} {scope : Scope} {dV kV doc pm cdv ct oc : Value} {an od : Option Addr}
  {osl : Array (Option Value)} {N ps : List Str} {sp : Sp} (lk : K.lookup f = some ⟨oc, od, .func (PySem.W.fnOf name qual params body scope dV kV doc pm an cdv ct), osl⟩) (hcd : PySem.W.codeIn K cdv qual = true) (S : FnScope N ps scope)
  (len : ∀ vs H Q E, sp vs H Q E -> vs.length = ps.length)
  (hbody : ∀ (A : Around) (outer : List Env) (s : Shared) (H : Hp) (vs : List V) (Q : VK) (E : XK), Room k (A.deeper (envOfC qual scope s.heap.objs.size f cdv)) -> sp vs H Q E ->
   ∃ t, PSs (cxOf CX P w K mg base N qual scope f cdv A outer s H E) body t /\ t { nx := fun _ H' => Q .non H', rt := Q } (start N vs) H) :
  FnOk P w K mg base CX (k + 1) f (PySem.W.fnOf name qual params body scope dV kV doc pm an cdv ct) ps sp := by
 refine ⟨len, fun A outer s H args us vs Q E hr e0 hb r hsp => ?_⟩
 have hl := len _ _ _ _ hsp
 have KX : K.In s.heap := e0.mod.kin.keeps fun b o e => (e0.bs b o e).1
 have lim : s.heap.NoLimit := e0.mod.nolimit.keeps fun b o e => (e0.bs b o e).1
 have hkind : ∀ y ∈ ps.zip us, scope.names.lookup y.1 = some .local \/ (scope.names.lookup y.1 = some .cell /\ ((cellsFrom (s.heap.objs.size + 1) scope.names []).lookup y.1).isSome = true) := fun ⟨n, v⟩ hy => by
  rcases S.par n (List.of_mem_zip hy).1 with q | q
  ·exact .inl q
  ·exact .inr ⟨q, PySem.W.cellsFrom_some _ _ _ (.inl q)⟩
 refine codeAny_call_function hr.depth (KX _ _ lk) rfl S.co S.gen rfl (PySem.W.codeRec_of KX hcd) (hb _ _ _ _ ?_)
 refine wpAny_newFunctionEnv_cells S.kind hkind fun env he s1 x => ?_
 subst he
 refine ⟨lim.keeps x.toInCall.keep, codeAny_func ?_⟩
 obtain ⟨t, ht, hq⟩ := hbody A outer s H vs Q E (hr.deeper _) hsp
 have I : Inv (cxOf CX P w K mg base N qual scope f cdv A outer s H E) [] (start N vs) H s1 := inv_start S hr.hd e0 hl r x
 refine wpAny_mono (ht [] s1 (start N vs) H _ I hq) (fun fl s' hs => ?_) fun e s' hs => hs
 have fin : ∀ {σ' : St} {H' : Hp} {v : V} {u : Value}, Inv (cxOf CX P w K mg base N qual scope f cdv A outer s H E) [] σ' H' s' -> RelV v u -> Q v H' -> CE outer P w H s Q u s' :=
  fun {σ' H' v u} J rv q => ⟨v, H', J.os, J.bare, J.base, J.hok, rv, q⟩
 cases fl with
 | ret u =>
  obtain ⟨v, σ', H', J, rv, q⟩ := hs
  exact fin J rv q
 | next =>
  obtain ⟨σ', H', J, q⟩ := hs
  exact fin (v := V.non) (u := Value.none) J rfl q
 | brk =>
  obtain ⟨_, _, _, q⟩ := hs
  exact False.elim q
 | cont =>
  obtain ⟨_, _, _, q⟩ := hs
  exact False.elim q
end L2
namespace L2
open PySem PySem.Spec PyProof.Rows
section
variable {X : Cx} {x : Str} {p pos : Pos} {e : Expr} {es : List Expr} {t : TA} {id T : String} {r : List V -> Hp -> VK -> Prop}
noncomputable def tCB (r : List V -> Hp -> VK -> Prop) (t : TA) : TE := fun σ H Q => t σ H fun vs H1 => r vs H1 Q
theorem pe_callB (hc : CallR X (.builtin id) r) (hg : Gl X x) (hm : X.mg x = none) (hv : bootBuiltins x = some (.builtin id)) (ha : PA X (e :: es) t) (hn : x ≠ "__name__" := by decide) (hdb : (x == ("__debug__" : Str)) = false := by decide)
  (he : starEach (e :: es) X.env = (false, eval e X.env) :: starEach es X.env := by rfl) (hpl : (backTo pos (starEach es X.env)).any (·.1) = false := by rfl) : PE X (.Call (.Name x p) (e :: es) [] pos) (tCB r t) := by
 intro pins s σ H Q I h
 refine wpAny_Call_Name_kw (ld_blt I hg hm hv ?_ hn hdb)
 exact PyProof.Rows.callWith_builtin1 (thn (ha pos pins s σ H _ I h) fun us s1 ⟨vs, H1, I1, r1, q1⟩ => hc pins s1 σ H1 vs us Q I1 r1 q1) he hpl
theorem pe_callTy (hc : CallR X (.type T) r) (hg : Gl X x) (hm : X.mg x = none) (hv : bootBuiltins x = some (.type T)) (ha : PA X (e :: es) t) (hn : x ≠ "__name__" := by decide) (hdb : (x == ("__debug__" : Str)) = false := by decide)
  (he : starEach (e :: es) X.env = (false, eval e X.env) :: starEach es X.env := by rfl) (hpl : (backTo pos (starEach es X.env)).any (·.1) = false := by rfl) : PE X (.Call (.Name x p) (e :: es) [] pos) (tCB r t) := by
 intro pins s σ H Q I h
 refine wpAny_Call_Name_kw (ld_blt I hg hm hv ?_ hn hdb)
 exact PyProof.Rows.callWith_type1 (thn (ha pos pins s σ H _ I h) fun us s1 ⟨vs, H1, I1, r1, q1⟩ => hc pins s1 σ H1 vs us Q I1 r1 q1) he hpl
end
end L2

namespace HT
open PySem PyProof.Rows
section
open PySem.SeqAt
open PySem.AutoSeq1 (wpAny_loadPart')
open PySem.MeetsSeq PySem.MeetsSeq2 PySem.MeetsSeq3
end
section
variable {prog : Program} {w : World} {A : Around} {E : Value -> Shared -> Prop} {s : Shared}
theorem cat_tup {t b : Addr} {vs ws : List Value} {Q : Value -> Shared -> Prop} (ht : IsTup s.heap t vs.toArray) (hb : IsTup s.heap b ws.toArray) (hv : vs ≠ [])
  (h1 : ws = [] -> Q (.ref t) s) (h2 : ws ≠ [] -> Q (.ref s.heap.objs.size) { s with heap := s.heap.push { cls := .type "tuple", data := .seq (vs ++ ws).toArray } })
  (hsz : vs.length + ws.length <= sizeLine) : wpAny (model prog w) A (binaryOp .Add (.ref t) (.ref b)) Q E s := by
 obtain ⟨⟨cls, dd, data, sl⟩, ho, hc, n, hd⟩ := id ht
 obtain ⟨⟨cls2, dd2, data2, sl2⟩, ho2, hc2, n2, hd2⟩ := id hb
 simp only at hc hd hc2 hd2
 subst hc hd hc2 hd2
 have e : vs.toArray ++ ws.toArray = (vs ++ ws).toArray := by simp
 by_cases hw : ws = []
 ·exact concat_meets ⟨_, ho, rfl⟩ ⟨_, ho2, rfl⟩ noFill_tuple_add seq_tuple_add PySem.F.slot_tuple_add PySem.F.entry_tuple_add (PySem.F.args_tuple_add_2 _ _)
   (tuple_addW1 t b vs.toArray ws.toArray n n2 dd dd2 sl sl2 (by simpa using hv) (by simp [hw])) ⟨ho, ho2, h1 hw⟩
 ·refine concat_meets ⟨_, ho, rfl⟩ ⟨_, ho2, rfl⟩ noFill_tuple_add seq_tuple_add PySem.F.slot_tuple_add PySem.F.entry_tuple_add (PySem.F.args_tuple_add_2 _ _)
   (tuple_addW2 t b vs.toArray ws.toArray n n2 dd dd2 sl sl2 (by simpa using hv) (by simpa using hw) (by rw [List.size_toArray, List.size_toArray]; exact hsz)) ⟨ho, ho2, ?_⟩
  rw [e]
  exact h2 hw
noncomputable def sIx (n d : Nat) : Option Int -> Nat
 | none => d
 | some v => if v < 0 then (v + (n : Int)).toNat else min v.toNat n
theorem sIx_le (n d : Nat) (hd : d <= n) (o : Option Int) : sIx n d o <= n := by
 cases o with
 | none => exact hd
 | some v =>
  show (if v < 0 then (v + (n : Int)).toNat else min v.toNat n) <= n
  by_cases hv : v < 0
  ·rw [if_pos hv]; omega
  ·rw [if_neg hv]; exact Nat.min_le_right _ _
theorem clip_eq (v : Int) (n d : Nat) : (if v < 0 then max (v + (n : Int)) 0 else min v (n : Int)) = ((sIx n d (some v) : Nat) : Int) := by
 show (if v < 0 then max (v + (n : Int)) 0 else min v (n : Int)) = (((if v < 0 then (v + (n : Int)).toNat else min v.toNat n) : Nat) : Int)
 by_cases hv : v < 0
 ·simp only [if_pos hv]; omega
 ·simp only [if_neg hv]; omega
theorem adjust_gen (lo hi : Option Int) (n : Nat) : Builtin.Slice.sliceAdjust lo hi 1 (n : Int) = (((sIx n 0 lo : Nat) : Int), ((sIx n n hi : Nat) : Int)) := by
 have h1 : ¬ ((1 : Int) < 0) := by omega
 unfold Builtin.Slice.sliceAdjust
 simp only [h1, if_false]
 refine Prod.ext ?_ ?_
 ·cases lo with
  | none => rfl
  | some v => exact clip_eq v n 0
 ·cases hi with
  | none => rfl
  | some v => exact clip_eq v n n
theorem places_gen (i j : Nat) : Builtin.Slice.slicePlaces (i : Int) (j : Int) 1 = j - i := by
 unfold Builtin.Slice.slicePlaces
 have h1 : (1 : Int) > 0 := by omega
 simp only [h1, if_true, Int.ediv_one]
 split <;> omega
theorem slicePart_ {v : Value} {o : Option Int} {Q : Option Int -> Shared -> Prop} (p : IsPart v o) (h : Q o s) : wpAny (model prog w) A (Builtin.Slice.slicePartIndex v) Q E s := by
 cases p with
 | none => exact slicePart_none h
 | int i t => exact slicePart_int h
theorem sliceApplied_gen {sl : Addr} {vl vu : Value} {lo hi : Option Int} {n : Nat} {Q : Int × Int × Nat -> Shared -> Prop} (hs : s.heap.IsSliceOf sl vl vu .none) (pl : IsPart vl lo) (pu : IsPart vu hi)
  (h : Q (((sIx n 0 lo : Nat) : Int), 1, sIx n n hi - sIx n 0 lo) s) : wpAny (model prog w) A (Builtin.Slice.sliceApplied (.ref sl) (pure (n : Int))) Q E s := by
 obtain ⟨os, hos, hcs, hds⟩ := id hs
 unfold Builtin.Slice.sliceApplied Builtin.Slice.sliceFields
 refine wpAny_bind (wpAny_bind (wpAny_field hos hds (x := vl) rfl (wpAny_bind (wpAny_field hos hds (x := vu) rfl (wpAny_bind (wpAny_field hos hds (x := .none) rfl (wpAny_pure ?_)))))))
 refine wpAny_bind (slicePart_none ?_)
 show wpAny _ _ (if ((1 : Int) == 0) = true then _ else _) _ _ s
 rw [if_neg (by decide)]
 refine wpAny_bind (slicePart_ pl (wpAny_bind (slicePart_ pu (wpAny_bind (wpAny_pure ?_)))))
 show wpAny _ _ (match Builtin.Slice.sliceAdjust lo hi 1 (n : Int) with | (lo, hi) => pure (lo, (1 : Int), Builtin.Slice.slicePlaces lo hi 1)) _ _ s
 rw [adjust_gen lo hi n]
 show wpAny _ _ (pure (((sIx n 0 lo : Nat) : Int), (1 : Int), Builtin.Slice.slicePlaces ((sIx n 0 lo : Nat) : Int) ((sIx n n hi : Nat) : Int) 1)) _ _ s
 rw [places_gen]
 exact wpAny_pure h
theorem pick_gen (xs : Array Value) (i k : Nat) : ((List.range k).filterMap fun (m : Nat) => xs[((i : Int) + (m : Int) * 1).toNat]?).toArray = ((xs.toList.drop i).take k).toArray := by
 have e : (fun (m : Nat) => xs[((i : Int) + (m : Int) * 1).toNat]?) = fun m => xs[i + m]? := by
  funext m
  have : ((i : Int) + (m : Int) * 1).toNat = i + m := by omega
  rw [this]
 rw [e]
 have := pick_run xs i k
 rw [List.filterMap_map] at this
 have e2 : ((fun x => xs[x]?) ∘ fun x => i + x) = fun m => xs[i + m]? := rfl
 rw [e2] at this
 rw [this]
theorem getItem_tuple_cut {t sl : Addr} {items : Array Value} {vl vu : Value} {lo hi : Option Int} {Q : Value -> Shared -> Prop} (ht : IsTup s.heap t items) (hs : s.heap.IsSliceOf sl vl vu .none) (pl : IsPart vl lo) (pu : IsPart vu hi)
  (hw : ¬ (sIx items.size 0 lo = 0 /\ sIx items.size items.size hi = items.size))
  (h : Q (.ref s.heap.objs.size) { s with heap := s.heap.push { cls := .type "tuple", data := .seq ((items.toList.drop (sIx items.size 0 lo)).take (sIx items.size items.size hi - sIx items.size 0 lo)).toArray } })
  (hsz : items.size <= sizeLine) : wpAny (model prog w) A (getItem (.ref t) (.ref sl)) Q E s := by
 have htake : sizeOk (.seq ((items.toList.drop (sIx items.size 0 lo)).take (sIx items.size items.size hi - sIx items.size 0 lo)).toArray) := by
  show ((items.toList.drop (sIx items.size 0 lo)).take (sIx items.size items.size hi - sIx items.size 0 lo)).toArray.size <= sizeLine
  rw [List.size_toArray, List.length_take, List.length_drop, Array.length_toList]
  omega
 have hj : sIx items.size items.size hi <= items.size := sIx_le _ _ (Nat.le_refl _) hi
 obtain ⟨os, hos, hcs, hds⟩ := id hs
 have hTs : s.TypeIs (.ref sl) "slice" := ⟨os, hos, hcs⟩
 unfold getItem
 try with_reducible refine wpAny_holding ?_
 first | refine wpAny_bind (wpAny_pure ?_) | skip
 refine wpAny_bind (wpAny_sequenceKey ht.typeIs (by decide) ?_)
 refine wpAny_bind (wpAny_callSpecial?_slot (name := Str.ofString "__getitem__") ht.typeIs PyProof.Rows.slot_tuple_getitem
  (wpAny_call_entry PyProof.Rows.slot_tuple_getitem ht.typeIs entry_tuple_getitem ?_ (args_tuple_getitem _ _)))
 show wpAny _ _ (Builtin.Tuple.tupleItemsOf (.ref t) >>= _) _ _ s
 refine wpAny_bind (tupleItemsOf_ ht ?_)
 refine wpAny_bind (wpAny_typeOf hTs ?_)
 rw [if_pos (by decide)]
 refine wpAny_bind (sliceApplied_gen hs pl pu ?_)
 have hno : ¬ ((((sIx items.size 0 lo : Nat) : Int) == 0 && (1 : Int) == 1 && (sIx items.size items.size hi - sIx items.size 0 lo) == items.size) = true) := by
  intro q
  rw [Bool.and_eq_true, Bool.and_eq_true] at q
  have q1 : ((sIx items.size 0 lo : Nat) : Int) = 0 := eq_of_beq q.1.1
  have q2 : sIx items.size items.size hi - sIx items.size 0 lo = items.size := eq_of_beq q.2
  exact hw ⟨by omega, by omega⟩
 show wpAny _ _ (if (((sIx items.size 0 lo : Nat) : Int) == 0 && (1 : Int) == 1 && (sIx items.size items.size hi - sIx items.size 0 lo) == items.size) = true then _ else _) _ _ s
 rw [if_neg hno, pick_gen]
 first
  | exact wpAny_bind (m := Builtin.Tuple.tupleExact _) (wpAny_newObj_type (wpAny_pure ⟨_, rfl, wpAny_pure h⟩) htake)
  | exact wpAny_bind (m := Builtin.Tuple.tupleExact _) (wpAny_newObj_type (wpAny_bind (wpAny_pure (wpAny_pure ⟨_, rfl, wpAny_pure h⟩))) htake)
  | exact wpAny_bind (wpAny_bind (m := Builtin.Tuple.tupleExact _) (wpAny_newObj_type (wpAny_pure (wpAny_pure ⟨_, rfl, wpAny_pure h⟩)) htake))
  | exact wpAny_bind (wpAny_bind (m := Builtin.Tuple.tupleExact _) (wpAny_newObj_type (wpAny_pure ⟨_, rfl, wpAny_pure h⟩) htake))
end
end HT
namespace L2
open PySem PySem.Spec PyProof.Rows
noncomputable abbrev TO := St -> Hp -> (Option Int -> Hp -> Prop) -> Prop
noncomputable def PO (X : Cx) (e : Option Expr) (t : TO) : Prop :=
 ∀ (pins : List (Addr × Obj)) (s : Shared) (σ : St) (H : Hp) (Q : Option Int -> Hp -> Prop), Inv X pins σ H s -> t σ H Q ->
  wpAny (model X.prog X.w) X.A (evalPart e X.env) (fun u s' => ∃ o H', Inv X pins σ H' s' /\ IsPart u o /\ Q o H') X.xe s
noncomputable def tNoPart : TO := fun _ H Q => Q none H
noncomputable def tPart (t : TE) : TO := fun σ H Q => t σ H fun x H1 => ∃ i, x = .int i /\ Q (some i) H1
section
variable {X : Cx} {e : Expr} {te : TE} {lo hi : Option Expr} {tl th : TO} {pos p2 : Pos}
theorem po_none : PO X none tNoPart := by
 intro pins s σ H Q I h
 rw [evalPart_none]
 exact wpAny_pure ⟨none, H, I, .none, h⟩
theorem po_some (h : PE X e te) : PO X (some e) (tPart te) := by
 intro pins s σ H Q I hw
 rw [evalPart_some]
 refine thn (h pins s σ H _ I hw) fun u s1 ⟨x, H1, I1, r1, q1⟩ => ?_
 obtain ⟨i, rfl, q⟩ := q1
 obtain ⟨t, rfl⟩ := r1
 exact ⟨some i, H1, I1, .int i t, q⟩
noncomputable def SlR (X : Cx) (r : V -> Option Int -> Option Int -> Hp -> VK -> Prop) : Prop :=
 ∀ (pins : List (Addr × Obj)) (s : Shared) (σ : St) (H : Hp) (x : V) (v vl vu : Value) (lo hi : Option Int) (sl : Addr) (Q : VK), Inv X pins σ H s -> RelV x v -> s.heap.IsSliceOf sl vl vu .none -> IsPart vl lo -> IsPart vu hi -> r x lo hi H Q ->
  ∃ T id, typeLookup (.type T) "__getitem__" = pure (some (.builtin id)) /\ s.TypeIs v T /\ wpAny (model X.prog X.w) X.A (getItem v (.ref sl)) (EP X pins σ Q) X.xe s
theorem SlR.or {r r' : V -> Option Int -> Option Int -> Hp -> VK -> Prop} (h : SlR X r) (h' : SlR X r') : SlR X (fun x lo hi H Q => r x lo hi H Q \/ r' x lo hi H Q) := by
 intro pins s σ H x v vl vu lo hi sl Q I rx hs pl pu q
 rcases q with q | q
 ·exact h pins s σ H x v vl vu lo hi sl Q I rx hs pl pu q
 ·exact h' pins s σ H x v vl vu lo hi sl Q I rx hs pl pu q
noncomputable def tSl (r : V -> Option Int -> Option Int -> Hp -> VK -> Prop) (te : TE) (tl th : TO) : TE := fun σ H Q => te σ H fun x H1 => tl σ H1 fun l H2 => th σ H2 fun u H3 => r x l u H3 Q
theorem pe_slice {r : V -> Option Int -> Option Int -> Hp -> VK -> Prop} (hr : SlR X r) (he : PE X e te) (hl : PO X lo tl) (hu : PO X hi th) : PE X (.Subscript e (.Slice lo hi none p2) pos) (tSl r te tl th) := by
 intro pins s σ H Q I h
 refine Subscript_ (thn (he pins s σ H _ I h) fun v s1 ⟨x, H1, I1, r1, q1⟩ => ?_)
 refine wpAny_Slice (thn (hl pins s1 σ H1 _ I1 q1) fun vl s2 ⟨l, H2, I2, pl, q2⟩ => thn (hu pins s2 σ H2 _ I2 q2) fun vu s3 ⟨u, H3, I3, pu, q3⟩ => ?_)
 rw [evalPart_none]
 refine wpAny_pure ?_
 have I4 : Inv X pins σ H3 { s3 with heap := s3.heap.push { cls := .type "slice", data := .fields #[vl, vu, .none] } } := I3.kept (t' := s3.toks) fun b ob q => Heap.get?_push_of_some _ q
 obtain ⟨T, id, hT, ht, hg⟩ := hr pins { s3 with heap := s3.heap.push { cls := .type "slice", data := .fields #[vl, vu, .none] } } σ H3 x v vl vu l u s3.heap.objs.size Q I4 r1 (Heap.IsSliceOf.new ..) pl pu q3
 show wpAny (model X.prog X.w) X.A (subscriptTail e (.Slice lo hi none p2) v (.ref s3.heap.objs.size)) (EP X pins σ Q) X.xe { s3 with heap := s3.heap.push { cls := .type "slice", data := .fields #[vl, vu, .none] } }
 exact tail_any (ops := [.ref s3.heap.objs.size, v]) ht hT hg (by with_unfolding_all rfl)
noncomputable def cutV (xs : List V) (lo hi : Option Int) : List V := (xs.drop (HT.sIx xs.length 0 lo)).take (HT.sIx xs.length xs.length hi - HT.sIx xs.length 0 lo)
theorem cutV_length (xs : List V) (lo hi : Option Int) : (cutV xs lo hi).length <= xs.length := by
 unfold cutV
 rw [List.length_take, List.length_drop]
 omega
noncomputable def rSlT (K : PySem.W.Frag) : V -> Option Int -> Option Int -> Hp -> VK -> Prop := fun x lo hi H Q => ∃ a xs, x = .ref a /\ SqT K H a xs /\
 ¬ (HT.sIx xs.length 0 lo = 0 /\ HT.sIx xs.length xs.length hi = xs.length) /\ ∀ p, H p = none -> Q (.ref p) (upd H p (.tup (cutV xs lo hi)))
theorem sl_tup : SlR X (rSlT X.K) := by
 intro pins s σ H x v vl vu lo hi sl Q I rx hs pl pu h
 obtain ⟨a, xs, rfl, hx, hw, q⟩ := h
 cases rx
 obtain ⟨its, r, ht, hz⟩ := I.tuple hx
 have hlen : its.toArray.size = xs.length := by rw [List.size_toArray]; exact r.length.symm
 refine ⟨"tuple", _, PyProof.Rows.slot_tuple_getitem.lookup, ht.typeIs, ?_⟩
 refine HT.getItem_tuple_cut ht hs pl pu (by rw [hlen]; exact hw) ?_ (by rw [hlen]; exact hz)
 rw [hlen]
 refine ⟨.ref s.heap.objs.size, _, I.laid (t' := s.toks) (o := .tup (cutV xs lo hi)) (fun b ob q => Heap.get?_push_of_some _ q) (Nat.le_refl _) ?_, rfl, q _ (I.hok.fresh (Nat.le_refl _))⟩
 exact ⟨Nat.le_trans (cutV_length xs lo hi) hz, _, (r.drop (HT.sIx xs.length 0 lo)).take (HT.sIx xs.length xs.length hi - HT.sIx xs.length 0 lo), IsTupD.new _ _⟩
noncomputable def rCatT (K : PySem.W.Frag) : R2 := fun x y H Q => ∃ a b xs ys, x = .ref a /\ y = .ref b /\ SqT K H a xs /\ SqT K H b ys /\ xs ≠ [] /\ xs.length + ys.length <= sizeLine /\
 (ys = [] -> Q (.ref a) H) /\ (ys ≠ [] -> ∀ p, H p = none -> Q (.ref p) (upd H p (.tup (xs ++ ys))))
theorem Vals.nil_iff {xs : List V} {us : List Value} (r : Vals xs us) : us = [] ↔ xs = [] := by
 cases r with
 | nil => simp
 | cons _ _ => simp
theorem op_catT : OpR X (binaryOp .Add) (rCatT X.K) := by
 intro pins s σ H x y v u Q I rx ry h
 obtain ⟨a, b, xs, ys, rfl, rfl, ha, hb, hx, hz, q1, q2⟩ := h
 cases rx
 cases ry
 obtain ⟨its, r1, p1, _⟩ := I.tuple ha
 obtain ⟨its2, r2, p2, _⟩ := I.tuple hb
 refine HT.cat_tup p1 p2 (fun z => hx (r1.nil_iff.mp z)) (fun z => ⟨.ref a, H, I, rfl, q1 (r2.nil_iff.mp z)⟩) (fun z => ?_) (by rw [<- r1.length, <- r2.length]; exact hz)
 refine ⟨.ref s.heap.objs.size, _, I.laid (t' := s.toks) (o := .tup (xs ++ ys)) (fun b ob q => Heap.get?_push_of_some _ q) (Nat.le_refl _) ?_, rfl, q2 (fun w => z (r2.nil_iff.mpr w)) _ (I.hok.fresh (Nat.le_refl _))⟩
 exact ⟨by rw [List.length_append]; exact hz, _, r1.append r2, IsTupD.new _ _⟩
end
end L2
namespace L2
open PySem PySem.Spec PyProof.Rows
noncomputable def ixN (n : Nat) (i : Int) : Option Nat := if 0 <= i then (if i < n then some i.toNat else none) else if -(n : Int) <= i then some (i + n).toNat else none
noncomputable def atI {α : Type} (xs : List α) (i : Int) : Option α := (ixN xs.length i).bind fun j => xs[j]?
theorem ixN_seq {n : Nat} {i : Int} {j : Nat} (h : ixN n i = some j) : seqIndex? i n = some j /\ j < n /\ -(n : Int) <= i /\ i < n := by
 unfold ixN at h
 by_cases h0 : 0 <= i
 ·rw [if_pos h0] at h
  by_cases h1 : i < n
  ·rw [if_pos h1] at h
   have e : i.toNat = j := Option.some.inj h
   exact ⟨by rw [seqIndex_of h0 h1, e], by omega, by omega, h1⟩
  ·rw [if_neg h1] at h; cases h
 ·rw [if_neg h0] at h
  by_cases h1 : -(n : Int) <= i
  ·rw [if_pos h1] at h
   have e : (i + n).toNat = j := Option.some.inj h
   exact ⟨by rw [seqIndex_neg (by omega) h1, e], by omega, h1, by omega⟩
  ·rw [if_neg h1] at h; cases h
theorem atI_get {α : Type} {xs : List α} {i : Int} {v : α} (h : atI xs i = some v) : ∃ j, seqIndex? i xs.length = some j /\ xs[j]? = some v /\ j < xs.length /\ -(xs.length : Int) <= i /\ i < xs.length := by
 unfold atI at h
 cases e : ixN xs.length i with
 | none => rw [e] at h; cases h
 | some j =>
  rw [e] at h
  obtain ⟨h1, h2, h3, h4⟩ := ixN_seq e
  exact ⟨j, h1, h, h2, h3, h4⟩
theorem atI_nat {α : Type} {xs : List α} {j : Nat} {v : α} (h : xs[j]? = some v) : atI xs (j : Int) = some v := by
 have hj : j < xs.length := (List.getElem?_eq_some_iff.mp h).1
 have e : ixN xs.length (j : Int) = some j := by
  unfold ixN
  rw [if_pos (by omega), if_pos (by omega)]; simp
 unfold atI; rw [e]; exact h
noncomputable def PlainIx (b : Expr) : Prop := ∀ o i, subscripted b false o i = operate [o, i] (getItem o i)
noncomputable def IxR (X : Cx) (r : R2) : Prop :=
 ∀ (value slice : Expr) (pins : List (Addr × Obj)) (s : Shared) (σ : St) (H : Hp) (x y : V) (v u : Value) (Q : VK), Inv X pins σ H s -> RelV x v -> RelV y u -> r x y H Q ->
  subscripted slice false v u = operate [v, u] (getItem v u) -> wpAny (model X.prog X.w) X.A (subscriptTail value slice v u) (EP X pins σ Q) X.xe s
noncomputable def MtR (X : Cx) (id : String) (r : V -> List V -> Hp -> VK -> Prop) : Prop :=
 ∀ (pins : List (Addr × Obj)) (s : Shared) (σ : St) (H : Hp) (x : V) (xs : List V) (v : Value) (us : List Value) (Q : VK), Inv X pins σ H s -> RelV x v -> Vals xs us -> r x xs H Q ->
  wpAny (model X.prog X.w) X.A (call (.builtin id) (v :: us)) (EP X pins σ Q) X.xe s
section
variable {X : Cx} {a b : Expr} {ta tb : TE} {pos : Pos}
theorem IxR.or {r r' : R2} (h : IxR X r) (h' : IxR X r') : IxR X (fun x y H Q => r x y H Q \/ r' x y H Q) := by
 intro value slice pins s σ H x y v u Q I rx ry q hs
 rcases q with q | q
 ·exact h value slice pins s σ H x y v u Q I rx ry q hs
 ·exact h' value slice pins s σ H x y v u Q I rx ry q hs
theorem MtR.or {id : String} {r r' : V -> List V -> Hp -> VK -> Prop} (h : MtR X id r) (h' : MtR X id r') : MtR X id (fun x xs H Q => r x xs H Q \/ r' x xs H Q) := by
 intro pins s σ H x xs v us Q I rx rs q
 rcases q with q | q
 ·exact h pins s σ H x xs v us Q I rx rs q
 ·exact h' pins s σ H x xs v us Q I rx rs q
theorem pe_ix {r : R2} (hr : IxR X r) (ha : PE X a ta) (hb : PE X b tb) (hs : PlainIx b) : PE X (.Subscript a b pos) (tOp r ta tb) := by
 intro pins s σ H Q I h
 exact Subscript_ (binT ha hb I h fun v u s2 x y H2 I2 rx ry q => hr a b pins s2 σ H2 x y v u Q I2 rx ry q (hs _ _))
noncomputable def rIxL (K : PySem.W.Frag) : R2 := fun x y H Q => ∃ p xs i v, x = .ref p /\ y = .int i /\ SqL K H p xs /\ atI xs i = some v /\ Q v H
noncomputable def rIxT (K : PySem.W.Frag) : R2 := fun x y H Q => ∃ p xs i v, x = .ref p /\ y = .int i /\ SqT K H p xs /\ atI xs i = some v /\ Q v H
noncomputable def rIxS : R2 := fun x y H Q => ∃ z i c, x = .str z /\ y = .int i /\ z.length <= sizeLine /\ atI z.cps.toList i = some c /\ Q (.str ⟨#[c]⟩) H
theorem ix_list : IxR X (rIxL X.K) := by
 intro value slice pins s σ H x y v u Q I rx ry h hs
 obtain ⟨p, xs, i, z, rfl, rfl, hq, he, q⟩ := h
 cases rx
 obtain ⟨t, rfl⟩ := ry
 obtain ⟨its, r, pl, hz⟩ := I.list hq
 obtain ⟨j, h1, h2, h3, h4, h5⟩ := atI_get he
 obtain ⟨w, ew, rw'⟩ := r.get h2
 have hl := r.length
 have hn := line63
 have fin : EP X pins σ Q w s := ⟨z, H, I, rw', q⟩
 by_cases h0 : 0 <= i
 ·have hj : i.toNat = j := by
   rw [seqIndex_of h0 h5] at h1
   exact Option.some.inj h1
  exact item_listR pl.isList h0 (by omega) (by rw [hj]; simpa using ew) fin hs
 ·have hj : (i + (its.toArray.size : Int)).toNat = j := by
   rw [seqIndex_neg (by omega) h4] at h1
   rw [List.size_toArray, <- hl]
   exact Option.some.inj h1
  exact subscriptTail_builtinR (x := w) pl.isList.typeIs slot_list_getitem.lookup
   (wpAny_getItem_list_neg (Q := fun r s' => r = w /\ EP X pins σ Q r s') pl.isList (by omega) (by rw [List.size_toArray] <;> omega) (by omega) (by rw [hj]; simpa using ew) ⟨rfl, fin⟩) hs
theorem ix_tup : IxR X (rIxT X.K) := by
 intro value slice pins s σ H x y v u Q I rx ry h hs
 obtain ⟨p, xs, i, z, rfl, rfl, hq, he, q⟩ := h
 cases rx
 obtain ⟨t, rfl⟩ := ry
 obtain ⟨its, r, pl, hz⟩ := I.tuple hq
 obtain ⟨j, h1, h2, h3, h4, h5⟩ := atI_get he
 obtain ⟨w, ew, rw'⟩ := r.get h2
 have hl := r.length
 have hn := line63
 have fin : EP X pins σ Q w s := ⟨z, H, I, rw', q⟩
 exact subscriptTail_builtinR (x := w) pl.typeIs slot_tuple_getitem.lookup
  (getItem_tuple (j := j) (Q := fun r s' => r = w /\ EP X pins σ Q r s') pl (by omega) (by omega) (by rw [List.size_toArray, <- hl]; exact h1) (by simpa using ew) ⟨rfl, fin⟩) hs
theorem ix_str : IxR X rIxS := by
 intro value slice pins s σ H x y v u Q I rx ry h hs
 obtain ⟨z, i, c, rfl, rfl, hz, he, q⟩ := h
 obtain ⟨t, rfl⟩ := rx
 obtain ⟨t', rfl⟩ := ry
 obtain ⟨j, h1, h2, h3, h4, h5⟩ := atI_get he
 have hl : z.cps.toList.length = z.length := by simp [Str.length]
 rw [hl] at h1 h4 h5
 have hn := line63
 exact tail_any (typeIs_str s z t) slot_str_getitem.lookup (getItem_str (c := c) (by
  have e1 : decide (i < -(2 ^ 63 : Int)) = false := decide_eq_false (by omega)
  have e2 : decide (i >= 2 ^ 63) = false := decide_eq_false (by omega)
  rw [e1, e2, Bool.or_false]) (by rw [h1]; simpa using h2) ⟨.str ⟨#[c]⟩, H, I.tok _, ⟨_, rfl⟩, q⟩) hs
theorem mapSeq_set (its : List Value) (n j : Nat) (u : Value) : Obj.mapSeq (·.setIfInBounds j u) { cls := .type "list", data := .seq its.toArray n } = { cls := .type "list", data := .seq (its.set j u).toArray n } := by
 simp [Obj.mapSeq]
theorem Inv.lst {pins : List (Addr × Obj)} {σ : St} {H : Hp} {s : Shared} {p : Addr} {xs : List V} (I : Inv X pins σ H s) (h : H p = some (.lst xs)) :
  ∃ (its : List Value) (n : Nat), Vals xs its /\ s.heap.get? p = some { cls := .type "list", data := .seq its.toArray n } /\ xs.length <= sizeLine := by
 obtain ⟨z, its, n, r, e⟩ := I.hok p _ h
 exact ⟨its, n, r, e, z⟩
theorem Inv.lstUpd {pins : List (Addr × Obj)} {σ : St} {H : Hp} {s : Shared} {p : Addr} {xs ys : List V} {its its' : List Value} {n n' : Nat} {f : Obj -> Obj} (I : Inv X pins σ H s) (h : H p = some (.lst xs))
  (ho : s.heap.get? p = some { cls := .type "list", data := .seq its.toArray n }) (hf : f { cls := .type "list", data := .seq its.toArray n } = { cls := .type "list", data := .seq its'.toArray n' }) (r : Vals ys its') (hz : ys.length <= sizeLine) (t : Nat) :
  Inv X pins σ (upd H p (.lst ys)) { s with heap := s.heap.update p f, toks := t } := by
 have e : (s.heap.update p f).get? p = some { cls := .type "list", data := .seq its'.toArray n' } := by
  rw [Heap.get?_update_self f ho (by rw [hf] <;> rfl), hf]
 refine I.write (x := p) (e := p) (by rw [h]; trivial) (.inl rfl) (fun b u hb q => (Heap.get?_update_other _ _ (Ne.symm hb)).trans q) ⟨_, e⟩ ?_
 exact ⟨hz, its', n', r, e⟩
noncomputable def rSetL : V -> V -> V -> Hp -> (Hp -> Prop) -> Prop := fun o i v H Q => ∃ p xs k j, o = .ref p /\ i = .int k /\ H p = some (.lst xs) /\ ixN xs.length k = some j /\ Q (upd H p (.lst (xs.set j v)))
theorem set_list : PSet X rSetL := by
 intro pins s σ H o i v ov iv u Q I ro ri rv h
 obtain ⟨p, xs, k, j, rfl, rfl, hp, hj, q⟩ := h
 cases ro
 obtain ⟨t, rfl⟩ := ri
 obtain ⟨its, n, r, ho, hz⟩ := I.lst hp
 obtain ⟨h1, h2, h3, h4⟩ := ixN_seq hj
 have hl := r.length
 have hn := line63
 have I' : Inv X pins σ (upd H p (.lst (xs.set j v))) { s with heap := s.heap.update p (Obj.mapSeq (·.setIfInBounds j u)) } :=
  I.lstUpd hp ho (mapSeq_set its n j u) (r.set rv j) (by rw [List.length_set]; exact hz) s.toks
 by_cases h0 : 0 <= k
 ·have hk : k.toNat = j := by
   rw [seqIndex_of h0 h4] at h1
   exact Option.some.inj h1
  exact PySem.W.ki_setAt ho h0 (by omega) (by rw [List.size_toArray, <- hl]; exact h4) (by rw [hk]; exact ⟨_, I', q⟩)
 ·have hk : (k + (its.toArray.size : Int)).toNat = j := by
   rw [seqIndex_neg (by omega) h3] at h1
   rw [List.size_toArray, <- hl]
   exact Option.some.inj h1
  exact PySem.W.ki_setBack ho (by omega) (by rw [List.size_toArray, <- hl]; exact h3) (by omega) (by rw [hk]; exact ⟨_, I', q⟩)
theorem slice_bounds (lo hi : Option Int) (n : Nat) : (sliceBounds lo hi none n).1 = ((HT.sIx n 0 lo : Nat) : Int) /\ (sliceBounds lo hi none n).2.1 = ((HT.sIx n n hi : Nat) : Int) /\ (sliceBounds lo hi none n).2.2 = 1 := by
 refine ⟨?_, ?_, rfl⟩
 ·cases lo with
  | none => simp [sliceBounds, HT.sIx]
  | some i =>
   simp only [sliceBounds, HT.sIx, Option.getD_none, show (1 : Int) > 0 by decide, if_true]
   by_cases h : i < 0
   ·simp only [h, if_true] <;> omega
   ·simp only [h, if_false] <;> omega
 ·cases hi with
  | none => simp [sliceBounds, HT.sIx]
  | some i =>
   simp only [sliceBounds, HT.sIx, Option.getD_none, show (1 : Int) > 0 by decide, if_true]
   by_cases h : i < 0
   ·simp only [h, if_true] <;> omega
   ·simp only [h, if_false] <;> omega
theorem slicePick_cut (its : List Value) (lo hi : Option Int) : slicePick its.toArray lo hi none = ((its.drop (HT.sIx its.length 0 lo)).take (HT.sIx its.length its.length hi - HT.sIx its.length 0 lo)).toArray := by
 obtain ⟨h1, h2, h3⟩ := slice_bounds lo hi its.toArray.size
 unfold slicePick
 rw [h1, h2, h3]
 simp only [sliceRange_one, pick_run, List.size_toArray] <;> rfl
noncomputable def rSlL (K : PySem.W.Frag) : V -> Option Int -> Option Int -> Hp -> VK -> Prop := fun x lo hi H Q => ∃ a xs, x = .ref a /\ SqL K H a xs /\ ∀ p, H p = none -> Q (.ref p) (upd H p (.lst (cutV xs lo hi)))
theorem sl_list : SlR X (rSlL X.K) := by
 intro pins s σ H x v vl vu lo hi sl Q I rx hs pl pu h
 obtain ⟨a, xs, rfl, hx, q⟩ := h
 cases rx
 obtain ⟨its, r, ht, hz⟩ := I.list hx
 have hlen := r.length
 refine ⟨"list", _, slot_list_getitem.lookup, ht.isList.typeIs, ?_⟩
 refine wpAny_getItem_list_slice ht.isList hs pl pu .none (by simp) ?_ (by rw [List.size_toArray] <;> omega)
 rw [slicePick_cut, <- hlen]
 refine ⟨.ref s.heap.objs.size, _, I.laid (t' := s.toks) (o := .lst (cutV xs lo hi)) (fun b ob q => Heap.get?_push_of_some _ q) (Nat.le_refl _) ?_, rfl, q _ (I.hok.fresh (Nat.le_refl _))⟩
 exact ⟨Nat.le_trans (cutV_length xs lo hi) hz, _, 0, (r.drop (HT.sIx xs.length 0 lo)).take (HT.sIx xs.length xs.length hi - HT.sIx xs.length 0 lo), Heap.get?_push_size _ rfl⟩
noncomputable def flatV : V -> Bool
 | .non => true
 | .bl _ => true
 | .int _ => true
 | .str _ => true
 | _ => false
noncomputable def eqV : V -> V -> Bool
 | .non, .non => true
 | .bl a, .bl b => a == b
 | .bl a, .int b => (if a then 1 else 0) == b
 | .int a, .bl b => a == (if b then 1 else 0)
 | .int a, .int b => a == b
 | .str a, .str b => a == b
 | _, _ => false
theorem eqAt_V {A : Around} {s : Shared} {y x : V} {u v : Value} (ry : RelV y u) (rx : RelV x v) (fy : flatV y = true) (fx : flatV x = true) : SeqAt.EqAt A s u v (eqV y x) := by
 cases y with
 | non =>
  cases ry
  cases x with
  | non => cases rx; exact SeqAt.EqAt.same _
  | bl b => cases rx; exact SeqAt.EqAt.none_bool b
  | int b => obtain ⟨t, rfl⟩ := rx; exact SeqAt.EqAt.none_int b t
  | str b => obtain ⟨t, rfl⟩ := rx; exact SeqAt.EqAt.none_str b t
  | _ => exact absurd (show false = true from fx) Bool.false_ne_true
 | bl a =>
  cases ry
  cases x with
  | non => cases rx; exact SeqAt.EqAt.bool_none a
  | bl b => cases rx; exact SeqAt.EqAt.bool_bool a b
  | int b => obtain ⟨t, rfl⟩ := rx; exact SeqAt.EqAt.bool_int a b t
  | str b => obtain ⟨t, rfl⟩ := rx; exact SeqAt.EqAt.bool_str a b t
  | _ => exact absurd (show false = true from fx) Bool.false_ne_true
 | int a =>
  obtain ⟨t', rfl⟩ := ry
  cases x with
  | non => cases rx; exact SeqAt.EqAt.int_none a t'
  | bl b => cases rx; exact SeqAt.EqAt.int_bool a t' b
  | int b => obtain ⟨t, rfl⟩ := rx; exact SeqAt.EqAt.int_int a t' b t
  | str b => obtain ⟨t, rfl⟩ := rx; exact SeqAt.EqAt.int_str a t' b t
  | _ => exact absurd (show false = true from fx) Bool.false_ne_true
 | str a =>
  obtain ⟨t', rfl⟩ := ry
  cases x with
  | non => cases rx; exact SeqAt.EqAt.str_none a t'
  | bl b => cases rx; exact SeqAt.EqAt.str_bool a t' b
  | int b => obtain ⟨t, rfl⟩ := rx; exact SeqAt.EqAt.str_int a t' b t
  | str b => obtain ⟨t, rfl⟩ := rx; exact SeqAt.EqAt.str_str a t' b t
  | _ => exact absurd (show false = true from fx) Bool.false_ne_true
 | _ => exact absurd (show false = true from fy) Bool.false_ne_true
noncomputable def eqU (x : V) (u : Value) : Bool := match u with
 | .none => eqV .non x
 | .bool b => eqV (.bl b) x
 | .int i _ => eqV (.int i) x
 | .str z _ => eqV (.str z) x
 | _ => false
theorem eqU_of {x y : V} {u : Value} (r : RelV y u) (f : flatV y = true) : eqU x u = eqV y x := by
 cases y with
 | non => cases r; rfl
 | bl b => cases r; rfl
 | int i => obtain ⟨t, rfl⟩ := r; rfl
 | str z => obtain ⟨t, rfl⟩ := r; rfl
 | _ => exact absurd (show false = true from f) Bool.false_ne_true
theorem mem_eqAt {A : Around} {s : Shared} {x : V} {v : Value} (rx : RelV x v) (fx : flatV x = true) : ∀ {xs : List V} {us : List Value}, Vals xs us -> xs.all flatV = true -> ∀ u ∈ us, SeqAt.EqAt A s u v (eqU x u)
 | _, _, .nil, _ => fun u hu => by cases hu
 | y :: xs, u :: us, .cons r t, f => fun u' hu => by
  rw [List.all_cons, Bool.and_eq_true] at f
  rcases List.mem_cons.mp hu with rfl | hu
  ·rw [eqU_of r f.1]; exact eqAt_V r rx f.1 fx
  ·exact mem_eqAt rx fx t f.2 u' hu
theorem call_len_seq : CallR X (.builtin "len") (fun xs H Q => ∃ p ys, xs = [.ref p] /\ (SqL X.K H p ys \/ SqT X.K H p ys) /\ Q (.int ys.length) H) := by
 intro pins s σ H xs us Q I r h
 obtain ⟨p, ys, rfl, hq, q⟩ := h
 obtain ⟨u, rfl, rx⟩ := vals1 r
 cases rx
 have hn := line63
 rcases hq with hq | hq
 ·obtain ⟨its, r', pl, hz⟩ := I.list hq
  have hlen := r'.length
  exact Calls.call_len_list pl.isList (by simp only [List.size_toArray] <;> omega) ⟨.int ys.length, H, I.tok _, ⟨s.toks + 1, by rw [List.size_toArray, hlen]⟩, q⟩
 ·obtain ⟨its, r', pl, hz⟩ := I.tuple hq
  have hlen := r'.length
  exact len_tuple pl (by simp only [List.size_toArray] <;> omega) ⟨.int ys.length, H, I.tok _, ⟨s.toks + 1, by rw [List.size_toArray, hlen]⟩, q⟩
theorem call_len_str : CallR X (.builtin "len") (fun xs H Q => ∃ z, xs = [.str z] /\ z.length <= sizeLine /\ Q (.int z.length) H) := by
 intro pins s σ H xs us Q I r h
 obtain ⟨z, rfl, hz, q⟩ := h
 obtain ⟨u, rfl, t, rfl⟩ := vals1 r
 have hn := line63
 exact len_str (by omega) ⟨.int z.length, H, I.tok _, ⟨_, rfl⟩, q⟩
theorem CallR.or {f : Value} {r r' : List V -> Hp -> VK -> Prop} (h : CallR X f r) (h' : CallR X f r') : CallR X f (fun xs H Q => r xs H Q \/ r' xs H Q) := by
 intro pins s σ H xs us Q I rs q
 rcases q with q | q
 ·exact h pins s σ H xs us Q I rs q
 ·exact h' pins s σ H xs us Q I rs q
theorem call_list_of : CallR X (.type "list") (fun xs H Q => ∃ p ys, xs = [.ref p] /\ (SqL X.K H p ys \/ SqT X.K H p ys) /\ ∀ l, H l = none -> Q (.ref l) (upd H l (.lst ys))) := by
 intro pins s σ H xs us Q I r h
 obtain ⟨p, ys, rfl, hq, q⟩ := h
 obtain ⟨u, rfl, rx⟩ := vals1 r
 cases rx
 have fin : ∀ (its : List Value), Vals ys its -> ys.length <= sizeLine -> ∀ (h' : Heap) (c' : Nat), (∀ b o', s.heap.get? b = some o' -> h'.get? b = some o') ->
   h'.get? s.heap.objs.size = some { cls := .type "list", dict := none, data := .seq its.toArray c', slots := #[] } -> EP X pins σ Q (.ref s.heap.objs.size) { s with heap := h' } := fun its r' hz h' c' kp e =>
  ⟨.ref s.heap.objs.size, _, I.laid (t' := s.toks) kp (Nat.le_refl _) (show ObjOk X.prog X.w _ h' _ (.lst ys) from ⟨hz, its, c', r', e⟩), rfl, q _ (I.hok.fresh (Nat.le_refl _))⟩
 rcases hq with hq | hq
 ·obtain ⟨its, r', pl, hz⟩ := I.list hq
  have hlen := r'.length
  obtain ⟨o, ho, hc, n, hd⟩ := pl.isList
  exact call_list_seq p (.inl rfl) ho hc hd (fun h' c' kp e => fin its r' hz h' c' kp e) (by simp only [List.size_toArray] <;> omega)
 ·obtain ⟨its, r', pl, hz⟩ := I.tuple hq
  have hlen := r'.length
  obtain ⟨o, ho, hc, n, hd⟩ := pl
  exact call_list_seq p (.inr rfl) ho hc hd (fun h' c' kp e => fin its r' hz h' c' kp e) (by simp only [List.size_toArray] <;> omega)
theorem call_tuple_of : CallR X (.type "tuple") (fun xs H Q => ∃ p ys, xs = [.ref p] /\ ((SqL X.K H p ys /\ ∀ l, H l = none -> Q (.ref l) (upd H l (.tup ys))) \/ (SqT X.K H p ys /\ Q (.ref p) H))) := by
 intro pins s σ H xs us Q I r h
 obtain ⟨p, ys, rfl, h⟩ := h
 obtain ⟨u, rfl, rx⟩ := vals1 r
 cases rx
 rcases h with ⟨hq, q⟩ | ⟨hq, q⟩
 ·obtain ⟨its, r', pl, hz⟩ := I.list hq
  have hlen := r'.length
  refine call_tuple_list pl.isList (fun h' kp => ?_) (by simp only [List.size_toArray] <;> omega)
  have I1 : Inv X pins σ H { s with heap := h' } := I.kept (t' := s.toks) kp
  have I2 : Inv X pins σ (upd H h'.objs.size (.tup ys)) { s with heap := h'.push { cls := .type "tuple", data := .seq its.toArray } } :=
   I1.laid (t' := s.toks) (fun b o e => Heap.get?_push_of_some _ e) (Nat.le_refl _) (show ObjOk X.prog X.w _ _ _ (.tup ys) from ⟨hz, its, r', IsTupD.new _ _⟩)
  exact ⟨.ref h'.objs.size, _, I2, rfl, q _ (I1.hok.fresh (Nat.le_refl _))⟩
 ·obtain ⟨its, r', pl, hz⟩ := I.tuple hq
  exact call_tuple_same pl ⟨.ref p, H, I, rfl, q⟩
noncomputable def tyV (K : PySem.W.Frag) (T : String) (x : V) (H : Hp) : Prop := match x with
 | .str _ => T = "str"
 | .int _ => T = "int"
 | .ref p => (T = "list" /\ ∃ xs, SqL K H p xs) \/ (T = "tuple" /\ ∃ o, K.lookup p = some o /\ o.cls = .type "tuple" /\ o.dict = none) \/
   (T = "dict" /\ ((∃ kvs, H p = some (.dK kvs)) \/ ∃ kvs, H p = some (.dT kvs))) \/ (T = "set" /\ ∃ S n, H p = some (.set S n))
 | _ => False
theorem tyV_is {pins : List (Addr × Obj)} {σ : St} {H : Hp} {s : Shared} {T : String} {x : V} {v : Value} (I : Inv X pins σ H s) (r : RelV x v) (ty : tyV X.K T x H) :
  s.TypeIs v T /\ ∀ a, v = .ref a -> ∃ ob, s.heap.get? a = some ob /\ ob.dict = none := by
 cases x with
 | str z =>
  obtain ⟨t, rfl⟩ := r
  cases (show T = "str" from ty)
  exact ⟨typeIs_str s z t, fun _ e => nomatch e⟩
 | int i =>
  obtain ⟨t, rfl⟩ := r
  cases (show T = "int" from ty)
  exact ⟨typeIs_int s i t, fun _ e => nomatch e⟩
 | ref p =>
  cases r
  rcases ty with ⟨rfl, xs, hq⟩ | ⟨rfl, o, hk, hc, hd⟩ | ⟨rfl, hk⟩ | ⟨rfl, S, n, hk⟩
  ·obtain ⟨its, _, pl, _⟩ := I.list hq
   refine ⟨pl.isList.typeIs, fun a e => ?_⟩
   cases e
   obtain ⟨o, n, e, c, hd, _⟩ := pl
   exact ⟨o, e, hd⟩
  ·refine ⟨⟨o, I.kIn p o hk, hc⟩, fun a e => ?_⟩
   cases e
   exact ⟨o, I.kIn _ o hk, hd⟩
  ·have z : ∃ o, s.heap.get? p = some o /\ o.ExactDict := by
    rcases hk with ⟨kvs, hk⟩ | ⟨kvs, hk⟩
    ·obtain ⟨_, _, _, _, o, _, _, e, ex, _⟩ := I.hok p _ hk
     exact ⟨o, e, ex⟩
    ·obtain ⟨_, _, _, _, o, _, _, e, ex, _⟩ := I.hok p _ hk
     exact ⟨o, e, ex⟩
   obtain ⟨o, e, ex⟩ := z
   refine ⟨⟨o, e, ex.1⟩, fun a e2 => ?_⟩
   cases e2
   exact ⟨o, e, ex.2.1⟩
  ·obtain ⟨o, _, _, _, e, ex, _⟩ := I.hok p _ hk
   refine ⟨⟨o, e, ex.1⟩, fun a e2 => ?_⟩
   cases e2
   exact ⟨o, e, ex.2.1⟩
 | _ => exact False.elim ty
noncomputable def tBM (K : PySem.W.Frag) (T : String) (r : V -> List V -> Hp -> VK -> Prop) (to : TE) (t : TA) : TE := fun σ H Q => to σ H fun x H1 => tyV K T x H1 /\ t σ H1 fun xs H2 => r x xs H2 Q
variable {o e : Expr} {es : List Expr} {to : TE} {t : TA} {name : Str} {apos cpos : Pos} {T id : String} {r : V -> List V -> Hp -> VK -> Prop}
theorem pe_bm (pa : PlainAttrs T) (slot : Slot T name id) (hty : typeOf (.builtin id) = pure (.type "method_descriptor")) (hm : MtR X id r) (ho : PE X o to) (ha : PA X (e :: es) t)
  (hbase : attributeBase o name X.env (eval o X.env) = eval o X.env := by rfl)
  (hfew : ((backTo cpos (starEach (e :: es) X.env)).all (fun x => !x.1) && (backToKw cpos (keywordEach [] X.env)).all (fun x => x.1.isSome)
   && decide ((e :: es).length + ([] : List Keyword).length + (if ([] : List Keyword).isEmpty then 0 else 1) < 30)) = true := by rfl)
  (hline : (apos.endLine == cpos.line) = true := by rfl) (hs : starEach (e :: es) X.env = (false, eval e X.env) :: starEach es X.env := by rfl) (hplain : (backTo cpos (starEach es X.env)).any (·.1) = false := by rfl) :
  PE X (.Call (.Attribute o name apos) (e :: es) [] cpos) (tBM X.K T r to t) := by
 intro pins s σ H Q I h
 refine wpAny_Call_method_late hbase hfew hline rfl (thn (ho pins s σ H _ I h) fun v s1 ⟨x, H1, I1, r1, ty, q1⟩ => ?_)
 obtain ⟨h1, h2⟩ := tyV_is I1 r1 ty
 refine ⟨T, id, pa, slot, hty, h1, h2, ?_⟩
 have hA := ha cpos pins s1 σ H1 _ I1 q1
 rw [hs] at hA ⊢
 refine Calls.callWith_builtin (by show (false || (backTo cpos (starEach es X.env)).any (·.1)) = false; rw [hplain] <;> rfl) (Calls.evalArgs_plain ?_)
 exact thn hA fun us s2 ⟨vs, H2, I2, r2, q2⟩ => hm pins s2 σ H2 x vs v us Q I2 r1 r2 q2
end
end L2
namespace L2
open PySem PySem.Spec PyProof.Rows
noncomputable def MtM (X : Cx) (id : String) (r : V -> List V -> Hp -> VK -> Prop) : Prop :=
 ∀ (pins : List (Addr × Obj)) (s : Shared) (σ : St) (H : Hp) (x : V) (xs : List V) (v : Value) (us : List Value) (Q : VK), Inv X pins σ H s -> RelV x v -> Vals xs us -> r x xs H Q ->
  wpAny (model X.prog X.w) X.A (call (.builtin id) (v :: us)) (EP X pins σ Q) X.xe s
theorem Vals.one : ∀ {x : V} {us : List Value}, Vals [x] us -> ∃ u, us = [u] /\ RelV x u
 | _, _, .cons r .nil => ⟨_, rfl, r⟩
theorem Vals.two : ∀ {x y : V} {us : List Value}, Vals [x, y] us -> ∃ u v, us = [u, v] /\ RelV x u /\ RelV y v
 | _, _, _, .cons r (.cons q .nil) => ⟨_, _, rfl, r, q⟩
theorem Vals.zero : ∀ {us : List Value}, Vals [] us -> us = []
 | _, .nil => rfl
theorem Vals.eraseIdx : ∀ {xs : List V} {us : List Value} (i : Nat), Vals xs us -> Vals (xs.eraseIdx i) (us.eraseIdx i)
 | _, _, _, .nil => .nil
 | _, _, 0, .cons _ t => t
 | _, _, i + 1, .cons r t => .cons r (Vals.eraseIdx i t)
theorem Vals.reverse {xs : List V} {us : List Value} (h : Vals xs us) : Vals xs.reverse us.reverse := by
 induction h with
 | nil => exact .nil
 | cons r t ih => rw [List.reverse_cons, List.reverse_cons]; exact Vals.append ih (.cons r .nil)
theorem Vals.rep {xs : List V} {us : List Value} (h : Vals xs us) : ∀ k : Nat, Vals (List.replicate k xs).flatten (List.replicate k us).flatten
 | 0 => .nil
 | k + 1 => by
  rw [List.replicate_succ, List.replicate_succ, List.flatten_cons, List.flatten_cons]
  exact Vals.append h (Vals.rep h k)
theorem len_erase {α : Type} : ∀ (l : List α) (i : Nat), (l.eraseIdx i).length <= l.length
 | [], _ => Nat.le_refl _
 | _ :: _, 0 => Nat.le_succ _
 | _ :: r, i + 1 => Nat.succ_le_succ (len_erase r i)
theorem foldl_rep (its : List Value) : ∀ (k : Nat) (acc : List Value),
  List.foldl (fun x1 x2 => x1 ++ x2) acc.toArray (List.replicate k its.toArray) = (acc ++ (List.replicate k its).flatten).toArray
 | 0, acc => by simp
 | k + 1, acc => by
  have e : acc.toArray ++ its.toArray = (acc ++ its).toArray := by simp
  have e2 : (acc ++ its) ++ (List.replicate k its).flatten = acc ++ (List.replicate (k + 1) its).flatten := by
   rw [List.replicate_succ, List.flatten_cons, List.append_assoc]
  rw [<- e2, <- foldl_rep its k (acc ++ its), <- e, List.replicate_succ, List.foldl_cons]
section
variable {X : Cx} {pins : List (Addr × Obj)} {σ : St} {H : Hp} {s : Shared} {l b : Addr} {xs ys zs : List V}
theorem Inv.lset {its its' : List Value} {n : Nat} {f : Array Value -> Array Value} {t' : Nat} (I : Inv X pins σ H s) (hH : H l = some (.lst xs))
  (e : s.heap.get? l = some { cls := .type "list", data := .seq its.toArray n }) (hf : f its.toArray = its'.toArray) (hv : Vals ys its') (hz : ys.length <= sizeLine) :
  Inv X pins σ (upd H l (.lst ys)) { s with heap := s.heap.update l (Obj.mapSeq f), toks := t' } := by
 have q := PySem.IsL.update e f
 rw [hf] at q
 refine I.write (x := l) (e := l) (by rw [hH]; exact trivial) (.inl rfl) (fun b' u hb hu => (Heap.get?_update_other s.heap (Obj.mapSeq f) (Ne.symm hb)).trans hu) ⟨_, q⟩ ?_
 exact ⟨hz, its', _, hv, q⟩
theorem Inv.lnew {its : List Value} {t' : Nat} (I : Inv X pins σ H s) (hv : Vals ys its) (hz : ys.length <= sizeLine) :
  Inv X pins σ (upd H s.heap.objs.size (.lst ys)) { s with heap := s.heap.push { cls := .type "list", data := .seq its.toArray }, toks := t' } :=
 I.laid (fun _ _ q => Heap.get?_push_of_some _ q) (Nat.le_refl _) ⟨hz, its, 0, hv, Heap.get?_push_size _ rfl⟩
theorem Inv.fresh (I : Inv X pins σ H s) : H s.heap.objs.size = none := I.hok.fresh (Nat.le_refl _)
theorem Inv.lstM (I : Inv X pins σ H s) (hH : H l = some (.lst xs)) : xs.length <= sizeLine /\ ∃ (its : List Value) (n : Nat), Vals xs its /\ xs.length = its.length /\ s.heap.get? l = some { cls := .type "list", data := .seq its.toArray n } := by
 obtain ⟨z, its, n, r, e⟩ := I.hok l _ hH
 exact ⟨z, its, n, r, r.length, e⟩
theorem notLongL {n : Nat} (h : n <= sizeLine) : Builtin.List.listTooLong n = false := by
 unfold Builtin.List.listTooLong
 exact decide_eq_false (by omega)
end
section
variable {X : Cx}
noncomputable def rAppend : V -> List V -> Hp -> VK -> Prop := fun x vs H Q => ∃ l xs y, x = .ref l /\ vs = [y] /\ H l = some (.lst xs) /\ xs.length < sizeLine /\ Q .non (upd H l (.lst (xs ++ [y])))
theorem mt_append : MtM X "list.append" rAppend := by
 intro pins s σ H x vs v us Q I rx rv h
 obtain ⟨l, xs, y, rfl, rfl, hH, hz, q⟩ := h
 cases rx
 obtain ⟨u, rfl, ru⟩ := rv.one
 obtain ⟨z, its, n, r, hl, e⟩ := I.lstM hH
 refine call_meets F.slot_list_append ⟨_, e, rfl⟩ F.entry_list_append (F.args_list_append_2 _ _) (PySem.list_append l its.toArray n u (by rw [List.size_toArray]; omega)) ⟨e, ?_⟩
 refine ⟨.non, _, I.lset (its' := its ++ [u]) hH e (by simp) (r.append (.cons ru .nil)) ?_, rfl, q⟩
 rw [List.length_append, List.length_singleton]
 omega
noncomputable def rPopAt : V -> List V -> Hp -> VK -> Prop := fun x vs H Q => ∃ l xs i k y, x = .ref l /\ vs = [.int i] /\ H l = some (.lst xs) /\ -(2 ^ 63) <= i /\ i < 2 ^ 63 /\ seqIndex? i xs.length = some k /\ xs[k]? = some y /\ Q y (upd H l (.lst (xs.eraseIdx k)))
theorem mt_popAt : MtM X "list.pop" rPopAt := by
 intro pins s σ H x vs v us Q I rx rv h
 obtain ⟨l, xs, i, k, y, rfl, rfl, hH, h1, h2, hk, hy, q⟩ := h
 cases rx
 obtain ⟨u, rfl, ru⟩ := rv.one
 obtain ⟨t, rfl⟩ := ru
 obtain ⟨z, its, n, r, hl, e⟩ := I.lstM hH
 obtain ⟨w, hw, rw'⟩ := r.get hy
 refine call_meets F.slot_list_pop ⟨_, e, rfl⟩ F.entry_list_pop (F.args_list_pop_2 _ _)
  (MeetsSeq.list_pop_at l its.toArray n i t k w (fitsIndex_both h1 h2) (by rw [List.size_toArray, <- hl]; exact hk) (by rw [<- Array.getElem?_toList]; exact hw) (by rw [List.size_toArray]; omega)) ⟨e, ?_⟩
 refine ⟨y, _, I.lset (its' := its.eraseIdx k) hH e ?_ (r.eraseIdx k) ?_, rw', q⟩
 ·show its.toArray.eraseIdxIfInBounds k = (its.eraseIdx k).toArray
  rw [List.eraseIdxIfInBounds_toArray]
 ·have := len_erase xs k
  omega
noncomputable def rCat : R2 := fun x y H Q => ∃ l b xs zs, x = .ref l /\ y = .ref b /\ H l = some (.lst xs) /\ H b = some (.lst zs) /\ xs.length + zs.length <= sizeLine /\ ∀ p, H p = none -> Q (.ref p) (upd H p (.lst (xs ++ zs)))
theorem op_cat : OpR X (binaryOp .Add) rCat := by
 intro pins s σ H x y v u Q I rx ry h
 obtain ⟨l, b, xs, zs, rfl, rfl, hH, hB, hz, q⟩ := h
 cases rx
 cases ry
 obtain ⟨z, its, n, r, hl, e⟩ := I.lstM hH
 obtain ⟨z2, its2, n2, r2, hl2, e2⟩ := I.lstM hB
 refine PySem.P.add_list e e2 ?_ (by rw [List.size_toArray, List.size_toArray]; omega)
 have ea : its.toArray ++ its2.toArray = (its ++ its2).toArray := by simp
 rw [ea]
 exact ⟨.ref _, _, I.lnew (t' := s.toks) (r.append r2) (by rw [List.length_append]; omega), rfl, q _ I.fresh⟩
noncomputable def rRep : R2 := fun x y H Q => ∃ l k xs, x = .ref l /\ y = .int k /\ H l = some (.lst xs) /\ -(2 ^ 63) <= k /\ k < 2 ^ 63 /\ xs.length * k.toNat <= sizeLine /\
 ∀ p, H p = none -> Q (.ref p) (upd H p (.lst (List.replicate k.toNat xs).flatten))
theorem len_rep {α : Type} (xs : List α) (k : Nat) : (List.replicate k xs).flatten.length = k * xs.length := by
 induction k with
 | zero => simp
 | succ k ih => rw [List.replicate_succ, List.flatten_cons, List.length_append, ih, Nat.succ_mul, Nat.add_comm]
theorem op_rep : OpR X (binaryOp .Mult) rRep := by
 intro pins s σ H x y v u Q I rx ry h
 obtain ⟨l, k, xs, rfl, rfl, hH, h1, h2, hz, q⟩ := h
 cases rx
 obtain ⟨t, rfl⟩ := ry
 obtain ⟨z, its, n, r, hl, e⟩ := I.lstM hH
 have hlen : its.toArray.size * k.toNat <= sizeLine := by rw [List.size_toArray, <- hl]; exact hz
 have hcap : ¬ its.toArray.size * k.toNat > (2 ^ 63 - 1) / 8 := by
  have : (sizeLine : Nat) <= (2 ^ 63 - 1) / 8 := by decide
  omega
 have hfit : ¬ (!Builtin.List.listFitsIndex k) = true := by
  rw [fitsIndex_both h1 h2]
  exact Bool.false_ne_true
 have hlong : ¬ Builtin.List.listTooLong (its.toArray.size * k.toNat) = true := by
  rw [notLongL hlen]
  exact Bool.false_ne_true
 have hnew : List.foldl (fun x1 x2 => x1 ++ x2) #[] (List.replicate (if its.toArray.isEmpty = true then 0 else k.toNat) its.toArray) = (List.replicate k.toNat its).flatten.toArray := by
  have f0 : ∀ m : Nat, List.foldl (fun x1 x2 => x1 ++ x2) #[] (List.replicate m its.toArray) = (List.replicate m its).flatten.toArray := fun m => by
   have := foldl_rep its m []
   rw [List.nil_append] at this
   exact this
  rw [f0]
  cases its with
  | nil => simp
  | cons a r' => rw [if_neg (by simp)]
 refine wpAny_binaryOp_repeat_ref (T := "list") (U := "int") (by decide) ⟨_, e, rfl⟩ (fun s' => typeIs_int s' k t) noFill_list_mul F.fills_int_mul F.slot_int_rmul repeat_list F.slot_int_index.lookup
  (call_meets F.slot_int_rmul (typeIs_int s k t) F.entry_int_rmul (F.args_int_rmul_2 _ _) (int___rmul___int_list k t l its.toArray n)
   ⟨e, rfl, ⟨_, e, rfl⟩, call_meets F.slot_list_mul ⟨_, e, rfl⟩ F.entry_list_mul (F.args_list_mul_2 _ _) (AutoListH.list___mul___list_int_3 l its.toArray n k t hfit hcap hlong) ⟨e, ?_⟩⟩)
 rw [hnew]
 exact ⟨.ref _, _, I.lnew (t' := s.toks) (r.rep k.toNat) (by rw [len_rep, Nat.mul_comm]; exact hz), rfl, q _ I.fresh⟩
end
section
variable {prog : Program} {w : World} {A : Around} {E : Value -> Shared -> Prop} {s : Shared}
end
section
variable {X : Cx}
end
end L2

namespace L2
open PySem PySem.Spec PyProof.Rows
section
variable {κ : Type} [DecidableEq κ]
noncomputable def valV (kvs : List (κ × V)) (k : κ) : Option V := (kvs.find? fun kv => decide (kv.1 = k)).map (·.2)
noncomputable def putK (kvs : List (κ × V)) (k : κ) (v : V) : List (κ × V) :=
 if (kvs.any fun kv => decide (kv.1 = k)) = true then kvs.map (fun kv => if kv.1 = k then (kv.1, v) else kv) else kvs ++ [(k, v)]
noncomputable def dropK (kvs : List (κ × V)) (k : κ) : List (κ × V) := kvs.filter fun kv => decide (kv.1 ≠ k)
theorem valV_pos {p : κ × V} {r : List (κ × V)} {k : κ} (e : p.1 = k) : valV (p :: r) k = some p.2 := by simp [valV, List.find?_cons, e]
theorem valV_neg {p : κ × V} {r : List (κ × V)} {k : κ} (e : ¬ p.1 = k) : valV (p :: r) k = valV r k := by simp [valV, List.find?_cons, e]
theorem valV_any (k : κ) : ∀ kvs : List (κ × V), (kvs.any fun kv => decide (kv.1 = k)) = (valV kvs k).isSome
 | [] => rfl
 | p :: r => by
  rw [List.any_cons]
  by_cases e : p.1 = k
  ·simp only [valV_pos e, decide_eq_true e, Bool.true_or, Option.isSome_some]
  ·rw [valV_neg e, decide_eq_false e, Bool.false_or]; exact valV_any k r
theorem length_putK (kvs : List (κ × V)) (k : κ) (v : V) : (putK kvs k v).length <= kvs.length + 1 := by
 unfold putK
 split
 ·rw [List.length_map]; omega
 ·rw [List.length_append, List.length_cons, List.length_nil]; omega
theorem RelO.isSome_eq {o : Option V} {u : Option Value} (r : RelO o u) : o.isSome = u.isSome := by
 cases o with
 | none => cases u with
  | none => rfl
  | some _ => exact (show False from r).elim
 | some _ => cases u with
  | none => exact (show False from r).elim
  | some _ => rfl
theorem RelO.getD {o : Option V} {u : Option Value} {d : V} {d' : Value} (r : RelO o u) (rd : RelV d d') : RelV (o.getD d) (u.getD d') := by
 cases o with
 | none => cases u with
  | none => exact rd
  | some _ => exact (show False from r).elim
 | some _ => cases u with
  | none => exact (show False from r).elim
  | some _ => exact r
theorem KV.val {kvs : List (κ × V)} {vs : List (κ × Value)} (r : KV kvs vs) (k : κ) : RelO (valV kvs k) (valueAt vs k) := by
 unfold KV at r
 induction r with
 | nil => exact True.intro
 | @cons p q ps qs h t ih =>
  obtain ⟨h1, h2⟩ := h
  by_cases e : p.1 = k
  ·have e' : q.1 = k := h1.symm.trans e
   have b : valueAt (q :: qs) k = some q.2 := by simp [valueAt, List.find?_cons, e']
   rw [valV_pos e, b]; exact h2
  ·have e' : ¬ q.1 = k := fun z => e (h1.trans z)
   have b : valueAt (q :: qs) k = valueAt qs k := by simp [valueAt, List.find?_cons, e']
   rw [valV_neg e, b]; exact ih
theorem KV.any {kvs : List (κ × V)} {vs : List (κ × Value)} (r : KV kvs vs) (k : κ) : (kvs.any fun kv => decide (kv.1 = k)) = vs.any fun kv => decide (kv.1 = k) := by
 unfold KV at r
 induction r with
 | nil => rfl
 | cons h t ih => rw [List.any_cons, List.any_cons, ih, h.1]
theorem KV.repl {kvs : List (κ × V)} {vs : List (κ × Value)} (r : KV kvs vs) (k : κ) {y : V} {u : Value} (ry : RelV y u) :
  KV (kvs.map fun kv => if kv.1 = k then (kv.1, y) else kv) (vs.map fun kv => if kv.1 = k then (kv.1, u) else kv) := by
 unfold KV at r ⊢
 induction r with
 | nil => exact .nil
 | @cons p q ps qs h t ih =>
  rw [List.map_cons, List.map_cons]
  refine .cons ?_ ih
  obtain ⟨h1, h2⟩ := h
  by_cases e : p.1 = k
  ·rw [if_pos e, if_pos (h1.symm.trans e)]; exact ⟨h1, ry⟩
  ·rw [if_neg e, if_neg (fun z => e (h1.trans z))]; exact ⟨h1, h2⟩
theorem KV.put {kvs : List (κ × V)} {vs : List (κ × Value)} (r : KV kvs vs) (k : κ) {y : V} {u : Value} (ry : RelV y u) : KV (putK kvs k y) (stored vs k u) := by
 unfold putK stored
 rw [r.any k]
 by_cases e : (vs.any fun kv => decide (kv.1 = k)) = true
 ·rw [if_pos e, if_pos e]; exact r.repl k ry
 ·rw [if_neg e, if_neg e]; exact Paired.snoc r ⟨rfl, ry⟩
theorem KV.drop {kvs : List (κ × V)} {vs : List (κ × Value)} (r : KV kvs vs) (k : κ) : KV (dropK kvs k) (without vs k) := by
 unfold KV at r ⊢
 unfold dropK without
 induction r with
 | nil => exact .nil
 | @cons p q ps qs h t ih =>
  obtain ⟨h1, h2⟩ := h
  rw [List.filter_cons, List.filter_cons]
  by_cases e : p.1 = k
  ·have a : ¬ decide (p.1 ≠ k) = true := by simp [e]
   have b : ¬ decide (q.1 ≠ k) = true := by simp [h1.symm.trans e]
   rw [if_neg a, if_neg b]; exact ih
  ·have e' : ¬ q.1 = k := fun z => e (h1.trans z)
   have a : decide (p.1 ≠ k) = true := by simp [e]
   have b : decide (q.1 ≠ k) = true := by simp [e']
   rw [if_pos a, if_pos b]; exact .cons ⟨h1, h2⟩ ih
theorem KV.keys {kvs : List (κ × V)} {vs : List (κ × Value)} (r : KV kvs vs) : kvs.map (·.1) = vs.map (·.1) := by
 unfold KV at r
 induction r with
 | nil => rfl
 | cons h t ih => rw [List.map_cons, List.map_cons, ih, h.1]
theorem KV.length {kvs : List (κ × V)} {vs : List (κ × Value)} (r : KV kvs vs) : kvs.length = vs.length := Paired.length r
end
theorem kV_is {P : Program} {w : World} {k : Key} {u : Value} (r : RelV (kV k) u) : (mixKind P w).is k u = true := by
 cases k with
 | inl i => obtain ⟨t, e⟩ := (show ∃ t, u = Value.int i t from r); subst e; exact mixKind_int P w i t
 | inr x => obtain ⟨t, e⟩ := (show ∃ t, u = Value.str x t from r); subst e; exact mixKind_str P w x t
theorem items_are {P : Program} {w : World} : ∀ {ks : List Key} {us : List Value}, Vals (ks.map kV) us -> ItemsAre (mixKind P w) ks us
 | [], _, r => by rw [List.map_nil] at r; cases r; exact .nil
 | k :: ks, _, r => by
  rw [List.map_cons] at r
  cases r with
  | cons h t => exact .cons (kV_is h) (items_are t)
noncomputable abbrev KT (H : Hp) : List (List Key × V) -> List (List Key × Addr × Value) -> Prop := Paired fun p q => p.1 = q.1 /\ H q.2.1 = some (.tup (p.1.map kV)) /\ RelV p.2 q.2.2
theorem KT.val {H : Hp} {kvs : List (List Key × V)} {xs : List (List Key × Addr × Value)} (r : KT H kvs xs) (k : List Key) : RelO (valV kvs k) ((atKey xs k).map (·.2)) := by
 induction r with
 | nil => exact True.intro
 | @cons p q ps qs h t ih =>
  obtain ⟨h1, _, h2⟩ := h
  by_cases e : p.1 = k
  ·have e' : q.1 = k := h1.symm.trans e
   have b : atKey (q :: qs) k = some q.2 := by simp [atKey, List.find?_cons, e']
   rw [valV_pos e, b]; exact h2
  ·have e' : ¬ q.1 = k := fun z => e (h1.trans z)
   have b : atKey (q :: qs) k = atKey qs k := by simp [atKey, List.find?_cons, e']
   rw [valV_neg e, b]; exact ih
theorem KT.repl {H : Hp} {kvs : List (List Key × V)} {xs : List (List Key × Addr × Value)} (r : KT H kvs xs) (k : List Key) {y : V} {u : Value} (ry : RelV y u) :
  KT H (kvs.map fun kv => if kv.1 = k then (kv.1, y) else kv) (xs.map (putAt k u)) := by
 induction r with
 | nil => exact .nil
 | @cons p q ps qs h t ih =>
  rw [List.map_cons, List.map_cons]
  refine .cons ?_ ih
  obtain ⟨h1, h2, h3⟩ := h
  unfold putAt
  by_cases e : p.1 = k
  ·rw [if_pos e, if_pos (h1.symm.trans e)]; exact ⟨h1, h2, ry⟩
  ·rw [if_neg e, if_neg (fun z => e (h1.trans z))]; exact ⟨h1, h2, h3⟩
theorem KT.put {H : Hp} {kvs : List (List Key × V)} {xs : List (List Key × Addr × Value)} (r : KT H kvs xs) (k : List Key) {b : Addr} {y : V} {u : Value} (hb : H b = some (.tup (k.map kV))) (ry : RelV y u) :
  KT H (putK kvs k y) (storedH xs k b u) := by
 have e : (kvs.any fun kv => decide (kv.1 = k)) = (atKey xs k).isSome := by
  rw [valV_any, (r.val k).isSome_eq, Option.isSome_map]
 unfold putK storedH
 rw [e]
 by_cases q : (atKey xs k).isSome = true
 ·rw [if_pos q, if_pos q]; exact r.repl k ry
 ·rw [if_neg q, if_neg q]; exact Paired.snoc r ⟨rfl, hb, ry⟩
theorem KT.keeps {H H' : Hp} {kvs : List (List Key × V)} {xs : List (List Key × Addr × Value)} (r : KT H kvs xs) (ht : ∀ b ys, H b = some (.tup ys) -> H' b = some (.tup ys)) : KT H' kvs xs :=
 Paired.mapP r fun _ _ z => ⟨z.1, ht _ _ z.2.1, z.2.2⟩
section
variable {P : Program} {w : World} {H : Hp} {h : Heap} {a : Addr}
theorem rd_of {u : HO} (ok : HOk P w H h) (e : Rd H a u) : ObjOk P w H h a u := e.ok ok
theorem dk_rd {kvs : List (Key × V)} (ok : HOk P w H h) (e : Rd H a (.dK kvs)) : kvs.length <= sizeLine /\ (a == sysModules) = false /\ ∃ vs, KV kvs vs /\ h.DictOf (mixKind P w) a vs :=
 show ObjOk P w H h a (.dK kvs) from rd_of ok e
theorem dk_of {kvs : List (Key × V)} (ok : HOk P w H h) (e : H a = some (.dK kvs)) : kvs.length <= sizeLine /\ (a == sysModules) = false /\ ∃ vs, KV kvs vs /\ h.DictOf (mixKind P w) a vs := dk_rd ok (.inl e)
theorem key_of {ks : List Key} (ok : HOk P w H h) (e : H a = some (.tup (ks.map kV))) : (tupleKind (mixKind P w)).is h ks a := by
 obtain ⟨_, its, r, o, h1, h2, ⟨n, h3⟩, _⟩ := (show ObjOk P w H h a (.tup (ks.map kV)) from ok a _ e)
 exact ⟨o, its.toArray, n, h1, h2, h3, by simpa using items_are r⟩
theorem dt_rd {kvs : List (List Key × V)} (ok : HOk P w H h) (e : Rd H a (.dT kvs)) : kvs.length <= sizeLine /\ (a == sysModules) = false /\
  ∃ xs, KT H kvs xs /\ h.DictOfH (tupleKind (mixKind P w)) a xs := by
 obtain ⟨z, y, xs, r, o, es, ep, h1, h2, h3, h4, h5⟩ := (show ObjOk P w H h a (.dT kvs) from rd_of ok e)
 refine ⟨z, y, xs, r, o, es, ep, h1, h2, h3, h4, fun x hx => ?_, h5⟩
 have all : ∀ {l : List (List Key × V)} {m : List (List Key × Addr × Value)}, KT H l m -> ∀ x ∈ m, (tupleKind (mixKind P w)).is h x.1 x.2.1 := by
  intro l m q
  induction q with
  | nil => intro x hx; exact nomatch hx
  | @cons p q ps qs hq t ih =>
   intro x hx
   rcases List.mem_cons.mp hx with e | hx
   ·subst e
    exact key_of ok (by rw [<- hq.1]; exact hq.2.1)
   ·exact ih x hx
 exact all r x hx
theorem dt_of {kvs : List (List Key × V)} (ok : HOk P w H h) (e : H a = some (.dT kvs)) : kvs.length <= sizeLine /\ (a == sysModules) = false /\
  ∃ xs, KT H kvs xs /\ h.DictOfH (tupleKind (mixKind P w)) a xs := dt_rd ok (.inl e)
end
noncomputable def DGet (H : Hp) (a : Addr) (y : V) (r : Option V) : Prop :=
 (∃ kvs k, Rd H a (.dK kvs) /\ y = kV k /\ r = valV kvs k) \/ ∃ kvs k b, Rd H a (.dT kvs) /\ y = .ref b /\ H b = some (.tup (k.map kV)) /\ r = valV kvs k
noncomputable def DPut (H : Hp) (a : Addr) (y v : V) (H' : Hp) : Prop :=
 (∃ kvs k, H a = some (.dK kvs) /\ y = kV k /\ kvs.length < sizeLine /\ H' = upd H a (.dK (putK kvs k v))) \/
 ∃ kvs k b, H a = some (.dT kvs) /\ y = .ref b /\ H b = some (.tup (k.map kV)) /\ kvs.length < sizeLine /\ H' = upd H a (.dT (putK kvs k v))
theorem DGet.k {H : Hp} {a : Addr} {kvs : List (Key × V)} {k : Key} (e : H a = some (.dK kvs)) : DGet H a (kV k) (valV kvs k) := .inl ⟨kvs, k, .inl e, rfl, rfl⟩
theorem DGet.t {H : Hp} {a b : Addr} {kvs : List (List Key × V)} {k : List Key} (e : H a = some (.dT kvs)) (eb : H b = some (.tup (k.map kV))) : DGet H a (.ref b) (valV kvs k) := .inr ⟨kvs, k, b, .inl e, rfl, eb, rfl⟩
theorem DPut.k {H : Hp} {a : Addr} {kvs : List (Key × V)} {k : Key} {v : V} (e : H a = some (.dK kvs)) (hl : kvs.length < sizeLine) : DPut H a (kV k) v (upd H a (.dK (putK kvs k v))) := .inl ⟨kvs, k, e, rfl, hl, rfl⟩
theorem DPut.t {H : Hp} {a b : Addr} {kvs : List (List Key × V)} {k : List Key} {v : V} (e : H a = some (.dT kvs)) (eb : H b = some (.tup (k.map kV))) (hl : kvs.length < sizeLine) :
  DPut H a (.ref b) v (upd H a (.dT (putK kvs k v))) := .inr ⟨kvs, k, b, e, rfl, eb, hl, rfl⟩
section
variable {X : Cx} {pins : List (Addr × Obj)} {σ : St} {H : Hp} {s : Shared} {a : Addr} {y v : V} {u r : Value} {o : Option V} {A : Around} {E : Value -> Shared -> Prop}
theorem Inv.big (I : Inv X pins σ H s) : sysModules < s.heap.objs.size := by
 have h : mainGlobals < s.heap.objs.size := (I.mod.glob.keeps I.bk).lt
 exact Nat.lt_trans (by decide) h
theorem d_getItem {Q : Value -> Shared -> Prop} (hu : A.units + 1 < cLine) (I : Inv X pins σ H s) (g : DGet H a y (some v)) (ry : RelV y u) (h : ∀ w' s', Inv X pins σ H s' -> RelV v w' -> Q w' s') :
  wpAny (model X.prog X.w) A (getItem (.ref a) u) Q E s := by
 rcases g with ⟨kvs, k, e, ey, l⟩ | ⟨kvs, k, b, e, ey, eb, l⟩
 ·subst ey
  obtain ⟨z, hd, vs, rel, dd⟩ := dk_rd I.hok e
  obtain ⟨w', hw, rw'⟩ := RelO.some_of (v := v) (o := valueAt vs k) (by rw [l]; exact rel.val k)
  exact wpAny_getItem_of (kV_is ry) dd.mapOf hw (h w' _ (I.tok _) rw')
 ·subst ey
  cases (show u = Value.ref b from ry)
  obtain ⟨z, hd, xs, rel, dd⟩ := dt_rd I.hok e
  obtain ⟨w', hw, rw'⟩ := RelO.some_of (v := v) (o := (atKey xs k).map (·.2)) (by rw [l]; exact rel.val k)
  obtain ⟨p, hp, hp2⟩ := Option.map_eq_some_iff.mp hw
  refine wpAny_getItem_heap (tupleKind_room_in1 hu) (key_of I.hok eb) dd hp ?_
  rw [hp2]
  exact h w' _ (I.tok _) rw'
theorem d_in {Q : Value -> Shared -> Prop} (hu : A.units + 1 < cLine) (I : Inv X pins σ H s) (g : DGet H a y o) (ry : RelV y u) (h : ∀ s', Inv X pins σ H s' -> Q (.bool o.isSome) s') :
  wpAny (model X.prog X.w) A (compareOp .In u (.ref a)) Q E s := by
 rcases g with ⟨kvs, k, e, ey, l⟩ | ⟨kvs, k, b, e, ey, eb, l⟩
 ·subst ey
  obtain ⟨z, hd, vs, rel, dd⟩ := dk_rd I.hok e
  refine wpAny_in_of (kV_is ry) hd dd.mapOf ?_
  rw [<- (rel.val k).isSome_eq, <- l]
  exact h _ (I.tok _)
 ·subst ey
  cases (show u = Value.ref b from ry)
  obtain ⟨z, hd, xs, rel, dd⟩ := dt_rd I.hok e
  refine wpAny_in_heap (tupleKind_room_in1 hu) (key_of I.hok eb) hd dd ?_
  have q := (rel.val k).isSome_eq
  rw [Option.isSome_map] at q
  rw [<- q, <- l]
  exact h _ (I.tok _)
theorem d_notIn {Q : Value -> Shared -> Prop} (hu : A.units + 1 < cLine) (I : Inv X pins σ H s) (g : DGet H a y o) (ry : RelV y u) (h : ∀ s', Inv X pins σ H s' -> Q (.bool (!o.isSome)) s') :
  wpAny (model X.prog X.w) A (compareOp .NotIn u (.ref a)) Q E s := by
 rcases g with ⟨kvs, k, e, ey, l⟩ | ⟨kvs, k, b, e, ey, eb, l⟩
 ·subst ey
  obtain ⟨z, hd, vs, rel, dd⟩ := dk_rd I.hok e
  refine wpAny_notIn_of (kV_is ry) hd dd.mapOf ?_
  rw [<- (rel.val k).isSome_eq, <- l]
  exact h _ (I.tok _)
 ·subst ey
  cases (show u = Value.ref b from ry)
  obtain ⟨z, hd, xs, rel, dd⟩ := dt_rd I.hok e
  refine wpAny_notIn_heap (tupleKind_room_in1 hu) (key_of I.hok eb) hd dd ?_
  have q := (rel.val k).isSome_eq
  rw [Option.isSome_map] at q
  rw [<- q, <- l]
  exact h _ (I.tok _)
theorem d_write {h' : Heap} {t' : Nat} {ob : HO} (I : Inv X pins σ H s) (mu : Mut (H a)) (hs : Heap.SameBut a s.heap h') (he : ∃ q, h'.get? a = some q) (new : ObjOk X.prog X.w (upd H a ob) h' a ob) :
  Inv X pins σ (upd H a ob) { s with heap := h', toks := t' } :=
 I.write (x := a) (e := a) mu (.inl rfl) (fun b q hb z => (hs.2 b hb).trans z) he new
theorem dk_new {P : Program} {w : World} {H' : Hp} {h' : Heap} {kvs : List (Key × V)} {vs : List (Key × Value)} (z : kvs.length <= sizeLine) (hd : (a == sysModules) = false) (rel : KV kvs vs) (dd : h'.DictOf (mixKind P w) a vs) :
  ObjOk P w H' h' a (.dK kvs) := ⟨z, hd, vs, rel, dd⟩
theorem d_setItem {H' : Hp} {Q : Unit -> Shared -> Prop} (hu : A.units + 1 < cLine) (I : Inv X pins σ H s) (g : DPut H a y v H') (ry : RelV y u) (rv : RelV v r) (h : ∀ s', Inv X pins σ H' s' -> Q () s') :
  wpAny (model X.prog X.w) A (setItem (.ref a) u r) Q E s := by
 rcases g with ⟨kvs, k, e, ey, l, eH⟩ | ⟨kvs, k, b, e, ey, eb, l, eH⟩
 ·subst ey eH
  obtain ⟨z, hd, vs, rel, dd⟩ := dk_of I.hok e
  have hz : vs.length <= sizeLine := by rw [<- rel.length]; exact z
  have hl : (putK kvs k v).length <= sizeLine := by have := length_putK kvs k v; omega
  refine wpAny_setItem_pairs (hsz := hz) (kV_is ry) dd fun h' dd' hs => h _ ?_
  have he : ∃ q, h'.get? a = some q := let ⟨q, _, _, hq, _⟩ := dd'; ⟨q, hq⟩
  exact d_write I (by rw [e]; exact True.intro) hs he (dk_new hl hd (rel.put k rv) dd')
 ·subst ey eH
  cases (show u = Value.ref b from ry)
  obtain ⟨z, hd, xs, rel, dd⟩ := dt_of I.hok e
  have hz : xs.length <= sizeLine := by rw [<- Paired.length rel]; exact z
  have hl : (putK kvs k v).length <= sizeLine := by have := length_putK kvs k v; omega
  refine wpAny_setItem_heap (hsz := hz) (tupleKind_room_in1 hu) (key_of I.hok eb) dd fun h' dd' hs => h _ ?_
  obtain ⟨q, es, ep, hq, h2, h3, h4, _, h5⟩ := dd'
  refine d_write I (by rw [e]; exact True.intro) hs ⟨q, hq⟩ ⟨hl, hd, _, (rel.put k eb rv).keeps fun c ys ec => ?_, q, es, ep, hq, h2, h3, h4, h5⟩
  rw [upd_ne (ne_of ec e (fun z => nomatch z))]
  exact ec
end
section
variable {X : Cx} {pins : List (Addr × Obj)} {σ : St} {H : Hp} {s : Shared} {a : Addr} {kvs : List (Key × V)} {k : Key} {u : Value} {A : Around} {E : Value -> Shared -> Prop}
theorem d_len {Q : Value -> Shared -> Prop} (I : Inv X pins σ H s) (e : Rd H a (.dK kvs)) (h : ∀ t s', Inv X pins σ H s' -> Q (.int kvs.length t) s') : wpAny (model X.prog X.w) A (call (.builtin "len") [.ref a]) Q E s := by
 obtain ⟨z, hd, vs, rel, dd⟩ := dk_rd I.hok e
 refine call_len_dict hd dd (by rw [<- rel.length]; rw [sizeLine_eq] at z; omega) ?_
 rw [<- rel.length]
 exact h _ _ (I.tok _)
end
theorem dict_typeIs {X : Cx} {pins : List (Addr × Obj)} {σ : St} {H : Hp} {s : Shared} {a : Addr} {y : V} {o : Option V} (I : Inv X pins σ H s) (g : DGet H a y o) : s.TypeIs (.ref a) "dict" := by
 rcases g with ⟨kvs, k, e, _, _⟩ | ⟨kvs, k, b, e, _, _, _⟩
 ·obtain ⟨_, _, vs, _, dd⟩ := dk_rd I.hok e
  exact dd.typeIs
 ·obtain ⟨_, _, xs, _, dd⟩ := dt_rd I.hok e
  exact dd.typeIs
section
variable {X : Cx} {o i e value : Expr} {pos pos' tpos : Pos} {td ty tv : TE}
end
theorem dk_empty {P : Program} {w : World} {H : Hp} (h : Heap) (hb : sysModules < h.objs.size) : ObjOk P w H (h.push { cls := .type "dict", data := .dict #[] }) h.objs.size (.dK []) :=
 ⟨Nat.zero_le _, beq_eq_false_iff_ne.mpr (Ne.symm (Nat.ne_of_lt hb)), [], .nil, Heap.DictOf.new h⟩
noncomputable def tDNewK : TE := fun _ H Q => ∀ p, H p = none -> Q (.ref p) (upd H p (.dK []))
section
variable {X : Cx} {pos : Pos}
theorem pe_dnewK : PE X (.Dict [] [] pos) tDNewK := fun pins s σ H Q I h =>
 wpAny_Dict_empty ⟨.ref s.heap.objs.size, _, I.laid (a := s.heap.objs.size) (o := .dK []) (t' := s.toks) (fun _ _ q => Heap.get?_push_of_some _ q) (Nat.le_refl _) (dk_empty s.heap I.big), rfl, h _ (I.hok.fresh (Nat.le_refl _))⟩
end
noncomputable def tPairs : List (TE × TE) -> St -> Hp -> (List (V × V) -> Hp -> Prop) -> Prop
 | [], _, H, Q => Q [] H
 | (tk, tv) :: r, σ, H, Q => tk σ H fun x H1 => tv σ H1 fun y H2 => tPairs r σ H2 fun ps H3 => Q ((x, y) :: ps) H3
noncomputable abbrev VV : List (V × V) -> List (Value × Value) -> Prop := Paired fun p q => RelV p.1 q.1 /\ RelV p.2 q.2
noncomputable def PPs (X : Cx) (pos : Pos) (keys : List (Option Expr)) (values : List Expr) (trs : List (TE × TE)) : Prop :=
 ∀ (pins : List (Addr × Obj)) (s : Shared) (σ : St) (H : Hp) (Q : List (V × V) -> Hp -> Prop), Inv X pins σ H s -> tPairs trs σ H Q ->
  wpAny (model X.prog X.w) X.A (evalPairs (pairTrees keys values X.env pos)) (fun vs s' => ∃ ps H', Inv X pins σ H' s' /\ VV ps vs /\ Q ps H') X.xe s
theorem pps_nil {X : Cx} {pos : Pos} : PPs X pos [] [] [] := fun pins s σ H Q I h => pairTrees_nil_walk ⟨[], H, I, .nil, h⟩
theorem pps_cons {X : Cx} {pos : Pos} {k v : Expr} {ks : List (Option Expr)} {vs : List Expr} {tk tv : TE} {trs : List (TE × TE)} (hk : PE X k tk) (hv : PE X v tv) (hr : PPs X pos ks vs trs) :
  PPs X pos (some k :: ks) (v :: vs) ((tk, tv) :: trs) := fun pins s σ H Q I h =>
 pairTrees_cons_walk (thn (hk pins s σ H _ I h) fun u s1 ⟨x, H1, I1, rx, q1⟩ => thn (hv pins s1 σ H1 _ I1 q1) fun w2 s2 ⟨y, H2, I2, ry, q2⟩ =>
  thn (hr pins s2 σ H2 _ I2 q2) fun ws s3 ⟨ps, H3, I3, rel, q3⟩ => ⟨(x, y) :: ps, H3, I3, .cons ⟨rx, ry⟩ rel, q3⟩)
noncomputable def mergeK (kvs more : List (Key × V)) : List (Key × V) := more.foldl (fun acc kv => putK acc kv.1 kv.2) kvs
theorem KV.merge : ∀ {more : List (Key × V)} {rs : List (Key × Value)} {kvs : List (Key × V)} {vs : List (Key × Value)}, KV more rs -> KV kvs vs -> KV (mergeK kvs more) (merged vs rs) := by
 intro more rs kvs vs r
 unfold KV at r
 induction r generalizing kvs vs with
 | nil => intro q; exact q
 | @cons p q ps qs h t ih =>
  intro r0
  have e : KV (putK kvs p.1 p.2) (stored vs q.1 q.2) := by
   have := r0.put p.1 h.2
   rw [<- h.1]; exact this
  exact ih e
theorem length_mergeK : ∀ (more kvs : List (Key × V)), (mergeK kvs more).length <= kvs.length + more.length
 | [], kvs => by show kvs.length <= kvs.length + 0; omega
 | p :: r, kvs => by
  have h1 := length_mergeK r (putK kvs p.1 p.2)
  have h2 := length_putK kvs p.1 p.2
  show (mergeK (putK kvs p.1 p.2) r).length <= _
  rw [List.length_cons]; omega
theorem carries_of {P : Program} {w : World} : ∀ {kvs : List (Key × V)} {ws : List (Value × Value)}, VV (kvs.map fun kv => (kV kv.1, kv.2)) ws -> ∃ rs, Carries (mixKind P w) ws rs /\ KV kvs rs
 | [], _, r => by rw [List.map_nil] at r; cases r; exact ⟨[], True.intro, .nil⟩
 | p :: kvs, _, r => by
  rw [List.map_cons] at r
  cases r with
  | @cons a b as bs h t =>
   obtain ⟨rs, c, q⟩ := carries_of (P := P) (w := w) t
   obtain ⟨b1, b2⟩ := b
   exact ⟨(p.1, b2) :: rs, ⟨kV_is h.1, rfl, c⟩, .cons ⟨rfl, h.2⟩ q⟩
noncomputable def tDisp (trs : List (TE × TE)) : TE := fun σ H Q => ∀ p, H p = none -> tPairs trs σ (upd H p (.dK [])) fun ps H2 => H2 p = some (.dK []) /\ ∃ kvs : List (Key × V), ps = kvs.map (fun kv => (kV kv.1, kv.2)) /\ kvs.length <= 15 /\ Q (.ref p) (upd H2 p (.dK (mergeK [] kvs)))
theorem pe_disp {X : Cx} {pos : Pos} {keys : List (Option Expr)} {values : List Expr} {trs : List (TE × TE)} (h : PPs X pos keys values trs) (hall : keys.all (·.isSome) = true) (hl : keys.length = values.length) (h0 : keys ≠ [])
  (h15 : keys.length <= 15) : PE X (.Dict keys values pos) (tDisp trs) := by
 intro pins s σ H Q I q
 have hn := I.hok.fresh (Nat.le_refl s.heap.objs.size)
 have I1 := I.laid (a := s.heap.objs.size) (o := .dK []) (h' := s.heap.push { cls := .type "dict", data := .dict #[] }) (t' := s.toks) (fun _ _ q => Heap.get?_push_of_some _ q) (Nat.le_refl _) (dk_empty s.heap I.big)
 refine wpAny_Dict_walk (knd := mixKind X.prog X.w) hall hl h0 h15 (thn (h pins _ σ _ _ I1 (q _ hn)) fun ws s2 ⟨ps, H2, I2, rel, e, kvs, ep, lk, q2⟩ => ?_)
 subst ep
 obtain ⟨rs, c, rk⟩ := carries_of (P := X.prog) (w := X.w) rel
 obtain ⟨z, hd, vs0, r0, dd⟩ := dk_of I2.hok e
 cases r0
 refine ⟨rs, c, dd, fun h' dd' hs => ⟨.ref s.heap.objs.size, _, ?_, rfl, q2⟩⟩
 have hz : (mergeK [] kvs).length <= sizeLine := by
  have h1 := length_mergeK kvs []
  rw [List.length_nil] at h1
  rw [sizeLine_eq]; omega
 have he : ∃ q, h'.get? s.heap.objs.size = some q := let ⟨q, _, _, hq, _⟩ := dd'; ⟨q, hq⟩
 exact d_write I2 (by rw [e]; exact True.intro) hs he (dk_new hz hd (rk.merge .nil) dd')
structure M1 (X : Cx) (o : Expr) (m : Str) (apos : Pos) (e : Expr) (cpos : Pos) : Prop where
 base : attributeBase o m X.env (eval o X.env) = eval o X.env
 few : ((backTo cpos (starEach [e] X.env)).all (fun x => !x.1) && (backToKw cpos (keywordEach [] X.env)).all (fun x => x.1.isSome)
  && decide (([e] : List Expr).length + ([] : List Keyword).length + (if ([] : List Keyword).isEmpty then 0 else 1) < 30)) = true
 line : (apos.endLine == cpos.line) = true
 trees : backTo cpos (starEach [e] X.env) = [(false, eval e X.env)]
structure M2 (X : Cx) (o : Expr) (m : Str) (apos : Pos) (e f : Expr) (cpos : Pos) : Prop where
 base : attributeBase o m X.env (eval o X.env) = eval o X.env
 few : ((backTo cpos (starEach [e, f] X.env)).all (fun x => !x.1) && (backToKw cpos (keywordEach [] X.env)).all (fun x => x.1.isSome)
  && decide (([e, f] : List Expr).length + ([] : List Keyword).length + (if ([] : List Keyword).isEmpty then 0 else 1) < 30)) = true
 line : (apos.endLine == cpos.line) = true
 trees : backTo cpos (starEach [e, f] X.env) = [(false, eval e X.env), (false, eval f X.env)]
section
variable {X : Cx} {pins : List (Addr × Obj)} {σ : St} {H : Hp} {s : Shared} {a : Addr} {y d : V} {u r : Value} {o : Option V} {A : Around} {E : Value -> Shared -> Prop}
theorem d_get2 {Q : Value -> Shared -> Prop} (hu : A.units + 1 < cLine) (I : Inv X pins σ H s) (g : DGet H a y o) (ry : RelV y u) (rd : RelV d r) (h : ∀ w' s', Inv X pins σ H s' -> RelV (o.getD d) w' -> Q w' s') :
  wpAny (model X.prog X.w) A (call (.builtin "dict.get") [.ref a, u, r]) Q E s := by
 rcases g with ⟨kvs, k, e, ey, l⟩ | ⟨kvs, k, b, e, ey, eb, l⟩
 ·subst ey
  obtain ⟨z, hd, vs, rel, dd⟩ := dk_rd I.hok e
  refine call_meetsIn PySem.F.slot_dict_get dd.typeIs PySem.F.entry_dict_get (PySem.F.args_dict_get_3 _ _ _) (meets_dict_get_default (mixKind X.prog X.w) a (kV_is ry) hd r) ⟨_, dd.mapOf, h _ _ (I.tok _) ?_⟩
  rw [l]
  exact (rel.val k).getD rd
 ·subst ey
  cases (show u = Value.ref b from ry)
  obtain ⟨z, hd, xs, rel, dd⟩ := dt_rd I.hok e
  refine call_meetsIn PySem.F.slot_dict_get dd.typeIs PySem.F.entry_dict_get (PySem.F.args_dict_get_3 _ _ _) (meetsH_dict_get_default (tupleKind (mixKind X.prog X.w)) a b hd r) ⟨tupleKind_room_in1 hu, k, xs, key_of I.hok eb, dd, h _ _ (I.tok _) ?_⟩
  rw [l]
  exact (rel.val k).getD rd
end
section
variable {X : Cx} {o e f : Expr} {apos cpos : Pos} {td ty tx : TE}
end
section
variable {X : Cx} {pins : List (Addr × Obj)} {σ : St} {H : Hp} {s : Shared} {a : Addr} {kvs : List (Key × V)} {A : Around} {E : Value -> Shared -> Prop}
end
section
variable {X : Cx} {pins : List (Addr × Obj)} {σ : St} {H : Hp} {s : Shared} {a : Addr} {y : V} {u : Value} {A : Around} {E : Value -> Shared -> Prop}
end
end L2

namespace Att
open PySem PySem.W PySem.Calls PyProof.Rows
theorem ints_of_wellAll {P : Params} {h : Heap} : ∀ (ns : List Int) (vs : List Value), WellAll P h vs (ns.map WData.int) -> IntsAre vs ns := by
 intro ns
 induction ns with
 | nil =>
  intro vs w
  rw [List.map_nil] at w
  cases w
  exact .nil
 | cons n ns ih =>
  intro vs w
  rw [List.map_cons] at w
  cases w with
  | cons a b =>
   cases a
   exact .cons _ _ (ih _ b)
theorem script_of {l : OpenLaw} {n : Nat} (hn : l.most = some n) {P : Params} {h : Heap} {args : List WData} {vals : List Value}
  (hpre : l.row.toRowW.claim.pre args = true) (hwl : WellAll P h vals args) :
  ∃ a vs ns, vals = [Value.ref a] /\ args = [WData.list (ns.map WData.int)] /\ h.get? a = some { cls := .type "list", data := .seq vs.toArray } /\ IntsAre vs ns /\ ns.length <= n := by
 have hsh : WShape.hasAll [] args [.list .int] = true := (pre_splitW hpre).1
 have hc : l.pre.holds [] { args := args } = true := (pre_splitW hpre).2
 obtain ⟨d, r, rfl, h1, h2⟩ := hasAllW_cons hsh
 obtain rfl := hasAllW_nil h2
 obtain ⟨xs, rfl, h3⟩ := hasW_list h1
 obtain ⟨ns, rfl⟩ := items_int h3
 have hlen : ns.length <= n := by
  unfold OpenLaw.pre at hc
  have h4 : (WTm.not (.lt (.lit (.int (n : Int))) (.len (.arg 0)))).holds [] { args := [.list (ns.map .int)] } = true := by
   have h4 := (holds_andW hc).1
   rw [hn] at h4
   exact h4
  have h5 := condW_of h4 (w_not (w_lt w_lit (w_len_list (w_arg rfl))))
  rw [List.length_map] at h5
  refine Nat.le_of_not_lt fun q => ?_
  have q' : (n : Int) < ((ns.length : Nat) : Int) := by omega
  first
   | (rw [decide_eq_true q'] at h5; exact absurd h5 (by decide))
   | (simp at h5; omega)
 cases hwl with
 | cons w1 w2 =>
  cases w2
  cases w1 with
  | list ho hall => exact ⟨_, _, ns, rfl, rfl, ho, ints_of_wellAll ns _ hall, hlen⟩
theorem post_true (l : OpenLaw) (args : List WData) : l.row.toRowW.claim.post args (.bool true) args = true :=
 postW_of (r := l.row.toRowW) (X := (true == true))
  (show WShape.has [] (.bool true) .bool = true by first | rfl | decide | simp [WShape.has, WShape.arms, WShape.armsAll])
  (show (WTm.eq .res (.lit (.bool true))).value [] { args := args, res := some (.bool true), after := args } = some (.bool (true == true)) from w_eq_bool (w_res rfl) w_lit) rfl
theorem attach_call {l : OpenLaw} {n : Nat} {q : Program} {loose : List Str} {XP : (Str -> Option Value) -> Heap -> Prop} {YP : World -> Heap -> Prop} {d : DefRec}
  (hn : l.most = some n) (hdf : d.params.defaults = [])
  (call : ∀ (w : World) (s₀ s₁ : Shared) (mg mb : Str -> Option Value) (fa : Addr) (o : Obj) (pm cd doc : Value) (a : Addr) (vs : List Value) (ns : List Int),
   Ground q loose [] XP w s₀ mg mb s₁.heap -> YP w s₁.heap ->
   s₁.heap.get? fa = some o -> o.data = .func (docDef d.name d.params d.body d.scope pm cd doc) -> s₁.heap.CodeRec cd d.name -> mg d.name = some (.ref fa) ->
   s₁.heap.get? a = some { cls := .type "list", data := .seq vs.toArray } -> IntsAre vs ns -> ns.length <= n -> s₁.gens = #[] ->
   codeAny (model l.prog w) callerA (.call (.ref fa) ⟨[.ref a], []⟩) (fun r s' => r = .ok (.ret (.bool true)) /\ OldK s₁.heap s'.heap /\ s'.os = s₁.os /\ AllBare s'.gens) s₁) :
  WalkO q loose XP YP l.row.toRowW d [] (fun f vs => PySem.call f vs) := by
 intro w s₀ s₁ mg mb G Y fa o pm cd doc dV kV ho hd hcd hD hmg hg args vals as hpre hlay hrd hwl hlo
 obtain rfl : dV = .none := Dflts.none hD hdf
 obtain rfl : kV = .none := Dflts.noKw hD
 obtain ⟨a, vs, ns, rfl, rfl, hobj, hints, hlen⟩ := script_of hn hpre hwl
 refine enter_call (codeAny_mono (call w s₀ s₁ mg mb fa o pm cd doc a vs ns G Y ho (fd_plain hd) hcd hmg hobj hints hlen hg) fun r s' hq => ?_)
 obtain ⟨rfl, h2, h3, h4⟩ := hq
 exact ⟨.inl ⟨.bool true, .bool true, [], rfl, fun _ => rfl, .bool true, post_true l _, fun _ => ⟨List.Pairwise.nil, fun _ hm => (nomatch hm)⟩⟩, h2, h3, h4⟩
section
variable {prog : Program} {w : World} {A : Around} {E : Value -> Shared -> Prop} {s : Shared} {K : Frag}
end
end Att
namespace L2
open PySem PySem.Spec PyProof.Rows
theorem vals_ints : ∀ {vs : List Value} {ns : List Int}, IntsAre vs ns -> Vals (ns.map V.int) vs
 | _, _, .nil => .nil
 | _, _, .cons n t h => .cons ⟨t, rfl⟩ (vals_ints h)
noncomputable def Only (H : Hp) : Prop := ∀ b, H b = none \/ ∃ o xs, H b = some (.frz o (.lst xs))
theorem law_call {P : Program} {w : World} {K : PySem.W.Frag} {mg mb : Str -> Option Value} {CX : CXT} {k : Nat} {fa a : Addr} {fd : FuncData} {x : Str} {sp : Sp} {s₁ : Shared} {vs : List Value} {ns : List Int}
  (KX : K.In s₁.heap) (hns : s₁.heap.Ns mainGlobals mg) (hb : s₁.heap.Ns builtinsNs mb) (hbb : ∀ x : Str, x ≠ "__name__" -> mb x = bootBuiltins x) (hlim : s₁.heap.NoLimit) (hg : s₁.gens = #[])
  (ha : s₁.heap.get? a = some { cls := .type "list", data := .seq vs.toArray }) (hi : IntsAre vs ns) (hl : ns.length <= sizeLine) (hr : Room k callerA)
  (F : ∀ base : Heap, K.In base -> base.Ns mainGlobals mg -> FnOk P w K mg base CX k fa fd [x] sp) (hbind : ∀ (s : Shared) (u : Value), BindsTo s fd ⟨[u], []⟩ [(x, u)])
  (hsp : ∀ H : Hp, Only H -> SqL K H a (ns.map V.int) -> sp [.ref a] H (fun v _ => v = .bl true) fun _ _ _ => False)
  (hCX : ∀ H e s', CX [] H s₁ (fun _ _ _ => False) e s' -> False) :
  codeAny (model P w) callerA (.call (.ref fa) ⟨[.ref a], []⟩) (fun r s' => r = .ok (.ret (.bool true)) /\ OldK s₁.heap s'.heap /\ s'.os = s₁.os /\ AllBare s'.gens) s₁ := by
 have rv := vals_ints hi
 have lenV := hi.length
 have core : ∀ H : Hp, Only H -> SqL K H a (ns.map V.int) -> HOk P w H s₁.heap -> (∀ b, H b ≠ none -> b = a) -> (H a ≠ none -> K.lookup a = none) ->
   codeAny (model P w) callerA (.call (.ref fa) ⟨[.ref a], []⟩) (fun r s' => r = .ok (.ret (.bool true)) /\ OldK s₁.heap s'.heap /\ s'.os = s₁.os /\ AllBare s'.gens) s₁ := by
  intro H hO hS hok hA hK
  have base_of : ∀ {b : Addr} {o : Obj}, s₁.heap.get? b = some o -> H b = none -> (hidT s₁.heap H).get? b = some o := fun e n => hidT_get e n
  have noA : ∀ {b : Addr} {o : Obj} {es : Array DictEntry} {ep : Nat}, s₁.heap.get? b = some o -> o.data = .dict es ep -> H b = none := fun {b o es ep} e d => by
   cases q : H b with
   | none => rfl
   | some u =>
    have e' : b = a := hA b (by rw [q]; simp)
    subst e'
    rw [ha] at e; cases e
    have d' : Data.seq vs.toArray _ = Data.dict es ep := d
    cases d'
  have nsK : ∀ {b : Addr} {m : Str -> Option Value}, s₁.heap.Ns b m -> (hidT s₁.heap H).Ns b m := fun {b m} ⟨o, es, ep, e, d, r⟩ => ⟨o, es, ep, base_of e (noA e d), d, r⟩
  have hKb : K.In (hidT s₁.heap H) := fun b o e => base_of (KX b o e) (by
   cases q : H b with
   | none => rfl
   | some u =>
    have e' : b = a := hA b (by rw [q]; simp)
    subst e'
    rw [hK (by rw [q]; simp)] at e; cases e)
  have hM : Mod K mg (hidT s₁.heap H) := ⟨hKb, nsK hns, ⟨mb, nsK hb, hbb⟩, let ⟨mc, h1, h2⟩ := hlim; ⟨mc, nsK h1, h2⟩⟩
  have e0 : Env0 P w K mg (hidT s₁.heap H) callerA [] s₁ H := ⟨rfl, hM, fun b o e => of_hidT e, Nat.le_of_eq (hidT_size _ _), trivial, fun b hb => absurd (show b ∈ ([] : List Addr) from hb) (by simp), hok, .of_eq hg⟩
  refine codeAny_mono ((F _ hKb (nsK hns)).run callerA [] s₁ H ⟨[.ref a], []⟩ [.ref a] [.ref a] _ _ hr e0 (hbind s₁ (.ref a)) (.cons rfl .nil) (hsp H hO hS)) fun r s' h => ?_
  cases r with
  | error e => exact (hCX H e s' h).elim
  | ok fl =>
   cases fl with
   | next => exact False.elim h
   | brk => exact False.elim h
   | cont => exact False.elim h
   | ret u =>
    obtain ⟨v, H', os, bare, un, hok', r', q⟩ := h
    have q' : v = .bl true := q
    subst q'
    obtain rfl : u = Value.bool true := r'
    refine ⟨rfl, OldK.of_keep fun b o e => ?_, os, bare⟩
    cases q : H b with
    | none => exact un.keep b o e q (by intro z; exact absurd (show b ∈ ([] : List Addr) from z) (by simp)) (by simp)
    | some u =>
     rcases hO b with z | ⟨ob, xs, z⟩
     ·rw [q] at z; cases z
     ·have z2 := un.frzs b ob _ z
      obtain ⟨e1, _⟩ := hok b _ z
      obtain ⟨e2, _⟩ := hok' b _ z2
      rw [e] at e1; cases e1
      exact e2
 cases hk : K.lookup a with
 | some o =>
  have e := KX a o hk
  rw [ha] at e
  cases e
  refine core (fun _ => none) (fun _ => .inl rfl) (.inr ⟨_, vs.toArray, _, hk, rfl, rfl, rfl, by rw [List.size_toArray, lenV]; exact hl, by simpa using rv⟩) (fun b u z => by have z' : (none : Option HO) = some u := z; cases z') (fun b z => absurd rfl z) fun z => absurd rfl z
 | none =>
  refine core (fun b => if b = a then some (.frz { cls := .type "list", data := .seq vs.toArray } (.lst (ns.map V.int))) else none) (fun b => ?_) (.inl (.inr ⟨{ cls := .type "list", data := .seq vs.toArray }, if_pos rfl⟩)) (fun b u z => ?_) (fun b z => ?_) fun _ => hk
  ·by_cases hb : b = a
   ·exact .inr ⟨_, _, if_pos hb⟩
   ·exact .inl (if_neg hb)
  ·by_cases hb : b = a
   ·have z' := (if_pos hb).symm.trans z
    cases z'
    subst hb
    exact ⟨ha, by rw [List.length_map]; exact hl, vs, _, rv, ha⟩
   ·have z' := (if_neg hb).symm.trans z
    cases z'
  ·by_cases hb : b = a
   ·exact hb
   ·exact absurd (if_neg hb) z
end L2
namespace L2
open PySem PySem.Spec PyProof.Rows
theorem walk_of {l : PySem.W.OpenLaw} {n k : Nat} {q : Program} {loose : List Str} {XP : (Str -> Option Value) -> Heap -> Prop} {YP : World -> Heap -> Prop} {d : DefRec} {K : Params -> PySem.W.Frag} {CX : World -> CXT} {sp : World -> Sp} {x : Str}
  (hn : l.most = some n) (hn2 : n <= sizeLine) (hdf : d.params.defaults = []) (hr : Room k callerA)
  (hY : ∀ (w : World) (h : Heap), YP w h -> (K w.params).In h)
  (F : ∀ (w : World) (mg : Str -> Option Value) (fa : Addr) (h : Heap), (K w.params).In h -> h.Ns mainGlobals mg -> mg d.name = some (.ref fa) ->
   ∃ fd : FuncData, (∀ (s : Shared) (u : Value), BindsTo s fd ⟨[u], []⟩ [(x, u)]) /\
    ∀ base : Heap, (K w.params).In base -> base.Ns mainGlobals mg -> FnOk l.prog w (K w.params) mg base (CX w) k fa fd [x] (sp w))
  (hsp : ∀ (w : World) (H : Hp) (a : Addr) (ns : List Int), ns.length <= n -> Only H -> SqL (K w.params) H a (ns.map V.int) -> sp w [.ref a] H (fun v _ => v = .bl true) fun _ _ _ => False)
  (hCX : ∀ (w : World) (H : Hp) (s : Shared) (e : Value) (s' : Shared), CX w [] H s (fun _ _ _ => False) e s' -> False) :
  PySem.W.WalkO q loose XP YP l.row.toRowW d [] (fun f vs => PySem.call f vs) := by
 refine Att.attach_call hn hdf fun w s₀ s₁ mg mb fa o pm cd doc a vs ns G Y ho hd hcd hmg hobj hints hlen hg => ?_
 have KX := hY w _ Y
 obtain ⟨fd, hb, hF⟩ := F w mg fa _ KX G.T.g hmg
 exact law_call KX G.T.g G.T.b G.T.builtins G.T.nolimit hg hobj hints (Nat.le_trans hlen hn2) hr hF hb (fun H hO hS => hsp w H a ns hlen hO hS) fun H e s' => hCX w H s₁ e s'
end L2
namespace L2
open PySem PySem.Spec PyProof.Rows
noncomputable def defArgs (s : Stmt) : Arguments := match s with
 | .FunctionDef _ a _ _ _ _ _ _ _ _ => a
 | _ => { posonlyargs := [], args := [], vararg := none, kwonlyargs := [], kw_defaults := [], kwarg := none, defaults := [] }
noncomputable def defBody (s : Stmt) : List Stmt := match s with
 | .FunctionDef _ _ b _ _ _ _ _ _ _ => b
 | _ => []
noncomputable def defScope (s : Stmt) : Scope := match s with
 | .FunctionDef _ _ _ _ _ _ sc _ _ _ => sc
 | _ => { kind := .function, names := [], isGenerator := false, isCoroutine := false }
noncomputable abbrev CX0 : CXT := fun _ _ _ _ _ _ => False
structure Fun (K : PySem.W.Frag) (x qual : Str) (st : Stmt) (f : Addr) (fd : FuncData) : Prop where
 ex : ∃ (oc : Value) (od : Option Addr) (kV doc pm : Value) (an : Option Addr) (cdv ct : Value) (osl : Array (Option Value)),
  fd = PySem.W.fnOf x qual (defArgs st) (defBody st) (defScope st) .none kV doc pm an cdv ct /\ K.lookup f = some ⟨oc, od, .func fd, osl⟩ /\ PySem.W.codeIn K cdv qual = true
 kp : PySem.W.keepIn K (.ref f) = true
section
variable {P : Program} {w : World} {K : PySem.W.Frag} {mg : Str -> Option Value} {base : Heap}
theorem Fun.ok {x qual : Str} {st : Stmt} {f : Addr} {fd : FuncData} {N ps : List Str} {k : Nat} {sp : Sp} (F : Fun K x qual st f fd) (S : FnScope N ps (defScope st)) (len : ∀ vs H Q E, sp vs H Q E -> vs.length = ps.length)
  (hbody : ∀ (cdv : Value) (A : Around) (outer : List Env) (s : Shared) (H : Hp) (vs : List V) (Q : VK) (E : XK), Room k (A.deeper (envOfC qual (defScope st) s.heap.objs.size f cdv)) -> sp vs H Q E ->
   ∃ t, PSs (cxOf CX0 P w K mg base N qual (defScope st) f cdv A outer s H E).nox (defBody st) t /\ t { nx := fun _ H' => Q .non H', rt := Q } (start N vs) H) : FnOk P w K mg base CX0 (k + 1) f fd ps sp := by
 obtain ⟨oc, od, kV, doc, pm, an, cdv, ct, osl, rfl, lk, hcd⟩ := F.ex
 refine fn_of lk hcd S len fun A outer s H vs Q E hr hsp => ?_
 obtain ⟨t, h, q⟩ := hbody cdv A outer s H vs Q E hr hsp
 exact ⟨t, h.nox, q⟩
theorem Fun.binds {x qual : Str} {st : Stmt} {f : Addr} {fd : FuncData} {ps : List Str} (F : Fun K x qual st f fd)
  (h : ∀ (kV doc pm : Value) (an : Option Addr) (cdv ct : Value) (us : List Value), us.length = ps.length -> bindArgs (PySem.W.fnOf x qual (defArgs st) (defBody st) (defScope st) .none kV doc pm an cdv ct) ⟨us, []⟩ = pure (ps.zip us)) : Binds K fd ps [] := by
 obtain ⟨oc, od, kV, doc, pm, an, cdv, ct, osl, rfl, lk, hcd⟩ := F.ex
 exact .all (h kV doc pm an cdv ct)
theorem fun_mk {x qual : Str} {st : Stmt} {f : Addr} {oc : Value} {od an : Option Addr} {osl : Array (Option Value)} {kV doc pm cdv ct : Value} (l : K.lookup f = some ⟨oc, od, .func (PySem.W.fnOf x qual (defArgs st) (defBody st) (defScope st) .none kV doc pm an cdv ct), osl⟩)
  (c : PySem.W.codeIn K cdv qual = true) (k : PySem.W.keepIn K (.ref f) = true) : Fun K x qual st f (PySem.W.fnOf x qual (defArgs st) (defBody st) (defScope st) .none kV doc pm an cdv ct) := ⟨⟨oc, od, kV, doc, pm, an, cdv, ct, osl, rfl, l, c⟩, k⟩
end
section
variable {X : Cx}
theorem pv (i : Nat) {x : Str} {pos : Pos} (hN : X.N[i]? = some x := by rfl) (hv : Vis X.env.scope x := by first | exact Or.inl rfl | exact Or.inr (Or.inl rfl) | exact Or.inr (Or.inr rfl)) (hd : (x == ("__debug__" : Str)) = false := by decide)
  (hcd : (x == ("__classdict__" : Str)) = false := by decide) : PE X (.Name x pos) (tVar i) := pe_var hN hv hd hcd
theorem call_lenD : CallR X (.builtin "len") (fun xs H Q => ∃ a kvs, xs = [V.ref a] /\ H a = some (.dK kvs) /\ Q (.int kvs.length) H) := by
 intro pins s σ H xs us Q I r h
 obtain ⟨a, kvs, rfl, ha, q⟩ := h
 obtain ⟨u, rfl, ru⟩ := vals1 r
 cases ru
 exact d_len I (.inl ha) fun t s' I' => ⟨.int kvs.length, H, I', ⟨t, rfl⟩, q⟩
end
noncomputable def Same (H H' : Hp) : Prop := ∀ b o, H b = some o -> H' b = some o
theorem Same.refl (H : Hp) : Same H H := fun _ _ h => h
theorem Same.trans {H H1 H2 : Hp} (a : Same H H1) (b : Same H1 H2) : Same H H2 := fun c o h => b c o (a c o h)
theorem Same.free {H H' : Hp} (e : Same H H') {l : Addr} (h : H' l = Option.none) : H l = Option.none := by
 cases q : H l with
 | none => rfl
 | some o =>
  rw [e l o q] at h
  cases h
theorem Same.seq {K : PySem.W.Frag} {H H' : Hp} {a : Addr} {xs : List V} (e : Same H H') (h : SqL K H a xs) : SqL K H' a xs := by
 rcases h with (h | ⟨o, h⟩) | h
 ·exact .inl (.inl (e _ _ h))
 ·exact .inl (.inr ⟨o, e _ _ h⟩)
 ·exact .inr h
section
variable {κ : Type} [DecidableEq κ]
end
end L2

namespace L2
open PySem PySem.Spec PyProof.Rows
section
variable {prog : Program} {w : World} {A : Around} {R : Result -> Shared -> Prop} {s : Shared}
theorem compLoop_any {elt target iter : Expr} {ifs : List Expr} {scope : Scope} {pos : Pos} {it acc : Value} {env : Env} (I : Nat -> Shared -> Prop)
  (turn : ∀ n s, I n s -> wpAny (model prog w) A (pyNext it) (fun r s₁ => match r with
   | none => R (.ok .next) s₁
   | some v => wpAny (model prog w) A (letOwnedTupleGo target it v) (fun _ s₁ => wpAny (model prog w) A (assign target env v) (fun _ s₂ =>
     wpAny (model prog w) A (forIn ifs true fun c r => if r = true then do let ok <- isTrue c env (eval c env); pure (ForInStep.yield ok) else pure (ForInStep.yield r)) (fun ok s₃ =>
      if ok = true then wpAny (model prog w) A (eval elt env) (fun x s₄ =>
       wpAny (model prog w) A (call (.builtin "list.append") [acc, x]) (fun _ s₅ => ∃ m, m < n /\ I m s₅) (fun _ _ => False) s₄) (fun _ _ => False) s₃
      else ∃ m, m < n /\ I m s₃) (fun _ _ => False) s₂) (fun _ _ => False) s₁) (fun _ _ => False) s₁) (fun _ _ => False) s)
  (n : Nat) (h : I n s) :
  codeAny (model prog w) A (.compLoop (.ListComp elt [⟨target, iter, ifs, 0⟩] scope pos) 0 it acc env) R s := by
 refine codeAny_loop rfl I (fun n s hI => ?_) n h
 show wpAny _ A ((compTurn (.ListComp elt [⟨target, iter, ifs, 0⟩] scope pos) 0 it acc env).onRaise (fun x => do noteFrame x env; theTreesLotGoes x)) _ _ s
 refine wpAny_noted ?_
 rw [compTurn_list]
 refine wpAny_bind (wpAny_standAt (wpAny_bind (wpAny_mono (turn n s hI) (fun r s₁ h₁ => ?_) fun _ _ h' => h'.elim)))
 cases r with
 | none => exact wpAny_pure h₁
 | some v =>
  refine wpAny_bind (wpAny_mono h₁ (fun _ s₁ h₁ => ?_) fun _ _ h' => h'.elim)
  refine wpAny_bind (wpAny_mono h₁ (fun _ s₂ h₂ => wpAny_bind (wpAny_mono h₂ (fun ok s₃ h₃ => ?_) fun _ _ h' => h'.elim)) fun _ _ h' => h'.elim)
  cases ok with
  | false => exact wpAny_pure ⟨rfl, h₃⟩
  | true =>
   exact wpAny_bind (wpAny_bind (wpAny_mono h₃ (fun x s₄ h₄ => wpAny_bind (wpAny_mono h₄ (fun _ s₅ h₅ => wpAny_pure (wpAny_pure ⟨rfl, h₅⟩)) fun _ _ h' => h'.elim)) fun _ _ h' => h'.elim))
end
noncomputable def PTs (X : Cx) (es : List Expr) (t : TT) : Prop :=
 ∀ (pins : List (Addr × Obj)) (s : Shared) (σ : St) (H : Hp) (Q : Bool -> Hp -> Prop), Inv X pins σ H s -> t σ H Q ->
  wpAny (model X.prog X.w) X.A (forIn es true fun c r => if r = true then do let ok <- isTrue c X.env (eval c X.env); pure (ForInStep.yield ok) else pure (ForInStep.yield r)) (TP X pins σ Q) X.xe s
noncomputable def tYes : TT := fun _ H Q => Q true H
section
variable {X : Cx}
theorem pts_nil : PTs X [] tYes := fun pins s σ H Q I h => wpAny_pure ⟨H, I, h⟩
theorem pts_one {c : Expr} {t : TT} (h : PT X c t) : PTs X [c] t := by
 intro pins s σ H Q I q
 simp only [List.forIn_cons, List.forIn_nil, if_true]
 exact wpAny_bind (wpAny_bind (wpAny_mono (h pins s σ H Q I q) (fun b s' hb => wpAny_pure (wpAny_pure hb)) fun _ _ x => x))
end
noncomputable def compCx (X : Cx) (pins : List (Addr × Obj)) (scope : Scope) (N' : List Str) (cl : List (Str × Addr)) (C : Addr) (s : Shared) (H : Hp) (fp : List Addr) : Cx where
 prog := X.prog
 w := X.w
 K := X.K
 mg := X.mg
 base := X.base
 A := X.A
 N := N'
 s₀ := s
 H₀ := H
 env := compEnvC scope cl C X.env
 outer := X.stack
 stack := X.stack
 ex := fp
 calm := true
 fn := fun _ => false
 pn := X.pn ++ pins
 xe := fun _ _ => False
structure CompScope (X : Cx) (scope : Scope) (N' : List Str) (caps : List Nat) (cl : List (Str × Addr)) : Prop where
 kind : scope.kind = .function
 nocell : ∀ y ∈ scope.names, y.2 ≠ .cell
 names : ∀ y ∈ scope.names, y.2 = .local -> scope.names.lookup y.1 = some .local
 clos : closureFor scope X.env = pure cl
 cin : ∀ x c, cl.lookup x = some c -> X.env.cells.lookup x = some c
 chas : ∀ x, scope.names.lookup x = some .free -> ∃ c, cl.lookup x = some c
 nd : N'.Nodup
 cap : ∀ (i j : Nat), caps[i]? = some j -> ∃ x, N'[i]? = some x /\ X.N[j]? = some x /\ scope.names.lookup x = some .free /\ (X.env.kindOf x = some .cell \/ X.env.kindOf x = some .free)
 clen : caps.length <= N'.length
theorem lookup_relabel_free {env : Env} : ∀ {names : List (Str × NameKind)} {x : Str}, names.lookup x = some .free ->
  (names.map fun (n, k) => if (k == NameKind.free && env.scope.kind == .function && env.kindOf n == some .cell) then (n, NameKind.cell) else (n, k)).lookup x = some .cell \/
  (names.map fun (n, k) => if (k == NameKind.free && env.scope.kind == .function && env.kindOf n == some .cell) then (n, NameKind.cell) else (n, k)).lookup x = some .free
 | [], _, h => by simp at h
 | (n, k) :: r, x, h => by
  have ih := @lookup_relabel_free env r x
  show List.lookup x ((if (k == NameKind.free && env.scope.kind == .function && env.kindOf n == some .cell) = true then (n, NameKind.cell) else (n, k)) :: _) = _ \/ List.lookup x ((if (k == NameKind.free && env.scope.kind == .function && env.kindOf n == some .cell) = true then (n, NameKind.cell) else (n, k)) :: _) = _
  cases hx : x == n with
  | true =>
   simp only [List.lookup_cons, hx] at h
   cases h
   by_cases hc : (NameKind.free == NameKind.free && env.scope.kind == .function && env.kindOf n == some .cell) = true
   ·rw [if_pos hc]; simp [List.lookup_cons, hx]
   ·rw [if_neg hc]; simp [List.lookup_cons, hx]
  | false =>
   simp only [List.lookup_cons, hx] at h
   by_cases hc : (k == NameKind.free && env.scope.kind == .function && env.kindOf n == some .cell) = true
   ·rw [if_pos hc]; simp only [List.lookup_cons, hx]; exact ih h
   ·rw [if_neg hc]; simp only [List.lookup_cons, hx]; exact ih h
theorem lookup_relabel_back {env : Env} : ∀ {names : List (Str × NameKind)} {x : Str}, ((names.map fun (n, k) => if (k == NameKind.free && env.scope.kind == .function && env.kindOf n == some .cell) then (n, NameKind.cell) else (n, k)).lookup x = some .cell \/
  (names.map fun (n, k) => if (k == NameKind.free && env.scope.kind == .function && env.kindOf n == some .cell) then (n, NameKind.cell) else (n, k)).lookup x = some .free) -> names.lookup x = some .free \/ names.lookup x = some .cell
 | [], _, h => by simp at h
 | (n, k) :: r, x, h => by
  have ih := @lookup_relabel_back env r x
  rw [List.map_cons] at h
  cases hx : x == n with
  | true =>
   simp only [List.lookup_cons, hx]
   by_cases hc : (k == NameKind.free && env.scope.kind == .function && env.kindOf n == some .cell) = true
   ·left
    simp only [Bool.and_eq_true, beq_iff_eq] at hc
    rw [hc.1.1]
   ·simp only [if_neg hc, List.lookup_cons, hx] at h
    rcases h with h | h
    ·exact .inr h
    ·exact .inl h
  | false =>
   simp only [List.lookup_cons, hx]
   by_cases hc : (k == NameKind.free && env.scope.kind == .function && env.kindOf n == some .cell) = true
   ·simp only [if_pos hc, List.lookup_cons, hx] at h
    exact ih h
   ·simp only [if_neg hc, List.lookup_cons, hx] at h
    exact ih h
noncomputable def capsSt (σ : St) (caps : List Nat) (n : Nat) : St := caps.map (fun j => (σ[j]?).join) ++ List.replicate (n - caps.length) none
section
variable {X : Cx} {pins : List (Addr × Obj)} {σ : St} {H : Hp} {s : Shared}
theorem Inv.comp_start {scope : Scope} {N' : List Str} {caps : List Nat} {cl : List (Str × Addr)} {C : Addr} {h1 : Heap} {fp : List Addr} {tk : Nat}
  (I : Inv X pins σ H s) (S : CompScope X scope N' caps cl) (hc : X.calm = true) (hf : ∀ b ∈ fp, FpOk X pins H b) (ho : ∀ b ∈ fp, ∃ o, s.heap.get? b = some o)
  (hC : s.heap.objs.size <= C) (hn : ∃ m, h1.Ns C m) (k : ∀ b o, s.heap.get? b = some o -> h1.get? b = some o) :
  Inv (compCx X pins scope N' cl C s H fp) [] (capsSt σ caps N'.length) H { s with heap := h1, toks := tk } := by
 obtain ⟨m, hm⟩ := hn
 have hkf : (relabel scope X.env).kind = .function := S.kind
 have noC : ∀ b o, s.heap.get? b = some o -> b ≠ C := fun b o e z => absurd (Heap.lt_size e) (by rw [z]; exact Nat.not_lt.mpr hC)
 refine ⟨⟨I.mod, hkf, I.ok.glob, I.ok.blt, hC, ?_, ?_, ?_, fun _ => I.ok.hd hc, I.ok.frames, .inl rfl, ?_, I.bs, ?_, ?_, ?_, I.stack, I.stkFree⟩, rfl, I.bare, Un.kept k, ⟨m, hm, ?_⟩, ?_, ?_, ?_, ?_, I.hok.kept k, ?_⟩
 ·exact fun x y c h1 h2 => I.ok.inj x y c (S.cin x c h1) (S.cin y c h2)
 ·intro x hx
  rcases lookup_relabel_back (env := X.env) (names := scope.names) hx with z | z
  ·exact S.chas x z
  ·exact absurd rfl (S.nocell _ (PySem.mem_of_lookup z))
 ·intro x c h
  cases h
 ·intro b hb
  obtain ⟨f0, f1, f2, f3, f4, f5⟩ := hf b hb
  obtain ⟨o, e⟩ := ho b hb
  exact ⟨noC b o e, fun x c h => f4 x c (S.cin x c h)⟩
 ·exact Nat.le_trans I.ok.bsz I.sz
 ·intro b o e hb
  obtain ⟨f0, f1, f2, f3, f4, f5⟩ := hf b hb
  rcases f3 with f3 | f3
  ·exact I.ok.noex b o e f3
  ·exact absurd (Heap.lt_size (I.ok.bs b o e).1) (Nat.not_lt.mpr f3)
 ·intro b hb z
  obtain ⟨f0, f1, f2, f3, f4, f5⟩ := hf b hb
  rcases List.mem_cons.mp (I.stkSub b z) with z | z
  ·exact f1 z
  ·exact f2 z
 ·intro i x v h1' h2 h3
  have hi : i < caps.length := by
   unfold capsSt at h2
   by_cases hi : i < caps.length
   ·exact hi
   ·rw [List.getElem?_append_right (by simpa using hi), List.getElem?_replicate] at h2
    split at h2 <;> cases h2
  obtain ⟨j, hj⟩ : ∃ j, caps[i]? = some j := ⟨_, List.getElem?_eq_getElem hi⟩
  have hs : σ[j]? = some (some v) := by
   unfold capsSt at h2
   rw [List.getElem?_append_left (by simpa using hi), List.getElem?_map, hj] at h2
   simp only [Option.map_some] at h2
   cases e : σ[j]? with
   | none => rw [e] at h2; cases h2
   | some a => rw [e] at h2; exact congrArg some (Option.some.inj h2)
  obtain ⟨y, hy1, hy2, hy3, hy4⟩ := S.cap i j hj
  have ey : y = x := by
   have h1'' : N'[i]? = some x := h1'
   rw [hy1] at h1''; exact Option.some.inj h1''
  subst ey
  obtain ⟨m0, hm0, hl⟩ := I.loc
  obtain ⟨u, ru, hu⟩ := hl j y v hy2 hs (by
   rcases hy4 with z | z
   ·exact .inr (.inl z)
   ·exact .inr (.inr z))
  refine ⟨u, ru, .inr ⟨lookup_relabel_free (env := X.env) (names := scope.names) hy3, ?_⟩⟩
  rcases hu with ⟨z, _⟩ | ⟨_, c, hc1, hc2⟩
  ·rcases hy4 with z' | z' <;> (rw [z'] at z; cases z)
  ·obtain ⟨c', hc'⟩ := S.chas y hy3
   have e := S.cin y c' hc'
   rw [hc1] at e
   cases e
   obtain ⟨o, e1, e2⟩ := hc2
   exact ⟨c, hc', o, k _ _ e1, e2⟩
 ·intro x c h
  obtain ⟨v, q⟩ := I.cell x c (S.cin x c h)
  obtain ⟨o, e1, e2⟩ := q
  exact ⟨v, o, k _ _ e1, e2⟩
 ·exact I.hok.fresh hC
 ·exact fun x c h => I.freeC x c (S.cin x c h)
 ·intro p hp
  have hp' : p ∈ X.pn ++ pins := by simpa [compCx] using hp
  obtain ⟨p1, p2, p3, p4, p5⟩ := I.pin p hp'
  refine ⟨k _ _ p1, p2, noC _ _ p1, fun z => ?_, p5⟩
  rcases List.mem_cons.mp (I.stkSub _ z) with z | z
  ·exact p3 z
  ·exact p4 z
 ·unfold capsSt
  show _ = N'.length
  rw [List.length_append, List.length_map, List.length_replicate]
  have := S.clen
  omega
theorem Inv.comp_end {scope : Scope} {N' : List Str} {cl : List (Str × Addr)} {C : Addr} {fp : List Addr} {pins' : List (Addr × Obj)} {σ' : St} {H' : Hp} {s' : Shared}
  (I : Inv X pins σ H s) (hf : ∀ b ∈ fp, FpOk X pins H b) (J : Inv (compCx X pins scope N' cl C s H fp) pins' σ' H' s') : Inv X pins σ H' s' :=
 I.call' (ch := fp) J.os J.base J.hok J.bare fun b hb => by
  obtain ⟨f0, f1, f2, f3, f4, f5⟩ := hf b hb
  exact ⟨f3, f1, f4, f5⟩
theorem Inv.track {D : Addr} {ys : List V} {its : List Value} {n : Nat} (I : Inv X pins σ H s) (f : FpOk X pins H D) (hs : X.s₀.heap.objs.size <= D) (hv : Vals ys its) (hz : ys.length <= sizeLine)
  (ho : s.heap.get? D = some { cls := .type "list", data := .seq its.toArray n }) : Inv X pins σ (upd H D (.lst ys)) s := by
 obtain ⟨f0, f1, f2, f3, f4, f5⟩ := f
 have hne : ∀ b o, X.s₀.heap.get? b = some o -> b ≠ D := fun b o e z => absurd (Heap.lt_size e) (by rw [z]; exact Nat.not_lt.mpr hs)
 have tup : ∀ b u, H b = some u -> upd H D (.lst ys) b = some u := fun b u e => by rw [upd_ne (ne_of_none e f0)]; exact e
 refine ⟨I.ok, I.os, I.bare, ⟨?_, ?_, ?_, I.base.there, ?_, ?_, ?_⟩, I.loc, I.cell, ?_, ?_, ?_, ?_, I.len⟩
 ·exact fun b o e n1 n2 n3 => I.base.keep b o e n1 n2 n3
 ·exact fun b o e n1 n2 n3 => I.base.slot b o e n1 n2 n3
 ·exact fun b o e n1 n2 => by rw [upd_ne (hne b o e)]; exact I.base.free b o e n1 n2
 ·exact fun b xs e => tup _ _ (I.base.tups b xs e)
 ·exact fun b o u e => tup _ _ (I.base.frzs b o u e)
 ·exact fun b ps e => by
   obtain ⟨more, q⟩ := I.base.tbls b ps e
   exact ⟨more, tup _ _ q⟩
 ·rw [upd_ne f1.symm]; exact I.free
 ·exact fun x c e => by rw [upd_ne (f4 x c e)]; exact I.freeC x c e
 ·intro p hp
  obtain ⟨p1, p2, p3⟩ := I.pin p hp
  exact ⟨p1, by rw [upd_ne (f5 p hp)]; exact p2, p3⟩
 ·intro a o e
  by_cases ha : a = D
  ·subst ha
   rw [upd_same] at e
   cases e
   exact ⟨hz, its, n, hv, ho⟩
  ·rw [upd_ne ha] at e
   have q := I.hok a o e
   refine q.stay (fun b u _ h => h) (fun b hb => tup _ _ hb) (fun b xs hb => tup _ _ hb)
end
end L2

namespace L2
open PySem PySem.Spec PyProof.Rows
noncomputable def tComp (wi : TI) (caps : List Nat) (n : Nat) (g : TG) (tc : TT) (te : TE) : TE := fun σ H Q => wi σ H fun J H1 => ∃ W : Nat -> Nat -> List V -> St -> Hp -> Prop, (∃ m, W 0 m [] (capsSt σ caps n) H1) /\ ∀ i m ys σ H, W i m ys σ H ->
 (J.stop i H /\ ∀ p, H p = none -> Q (.ref p) (upd H p (.lst ys))) \/
 (J.go i H /\ ys.length < sizeLine /\ ∀ x H', J.yld i H x H' -> g x σ H' fun σ2 H2 => tc σ2 H2 fun b H3 =>
  if b = true then te σ2 H3 fun y H4 => ∃ m', m' < m /\ W (i + 1) m' (ys ++ [y]) σ2 H4 else ∃ m', m' < m /\ W (i + 1) m' ys σ2 H3)
noncomputable abbrev objL (its : List Value) (n : Nat) : Obj := { cls := .type "list", data := .seq its.toArray n }
section
variable {X : Cx} {pins : List (Addr × Obj)} {σ : St} {H : Hp} {s : Shared}
theorem comp_block {elt tg iter : Expr} {ifs : List Expr} {scope : Scope} {N' : List Str} {caps : List Nat} {cl : List (Str × Addr)} {pos : Pos} {it : Addr} {fp : List Addr} {tn : Nat -> Heap -> Prop} {J : It}
  {g : TG} {tc : TT} {te : TE} {RR : Value -> Addr -> Result -> Shared -> Prop} {E : Value -> Shared -> Prop} {W : Nat -> Nat -> List V -> St -> Hp -> Prop} {m0 : Nat} {Q : VK}
  (S : CompScope X scope N' caps cl) (hc : X.calm = true)
  (hg : ∀ C s H, PG (compCx X pins scope N' cl C s H fp) tg g) (ht : ∀ C s H, PTs (compCx X pins scope N' cl C s H fp) ifs tc) (he : ∀ C s H, PE (compCx X pins scope N' cl C s H fp) elt te)
  (I : Inv X pins σ H s) (T : Turn X.prog X.w X.K tg J fp it tn) (st : tn 0 s.heap) (hf : ∀ b ∈ fp, FpOk X pins H b) (w0 : W 0 m0 [] (capsSt σ caps N'.length) H)
  (turn : ∀ i m ys σ H, W i m ys σ H -> (J.stop i H /\ ∀ p, H p = none -> Q (.ref p) (upd H p (.lst ys))) \/
   (J.go i H /\ ys.length < sizeLine /\ ∀ x H', J.yld i H x H' -> g x σ H' fun σ2 H2 => tc σ2 H2 fun b H3 =>
    if b = true then te σ2 H3 fun y H4 => ∃ m', m' < m /\ W (i + 1) m' (ys ++ [y]) σ2 H4 else ∃ m', m' < m /\ W (i + 1) m' ys σ2 H3))
  (hRR : ∀ D C s' H' m, Inv X pins σ H' s' -> Q (.ref D) H' -> s'.heap.Ns C m -> H' C = none -> s.heap.objs.size <= C -> RR (.ref D) C (.ok .next) s') :
  wpAny (model X.prog X.w) X.A (newList []) (fun acc s₃ => wpAny (model X.prog X.w) X.A (newFunctionEnv scope X.env.globals cl [] X.env.qual none .none (some X.env)) (fun cenv s₄ =>
   codeAny (model X.prog X.w) X.A (.compStart (.ListComp elt [⟨tg, iter, ifs, 0⟩] scope pos) 0 (.ref it) acc { cenv with scope := relabel scope X.env }) (RR acc cenv.locals) s₄) E s₃) E s := by
 refine wpAny_newObj_type (wpAny_newFunctionEnv S.nocell (by intro y hy; simp at hy) (fun h₁ hns₁ hsb₁ => ?_) S.kind)
 dsimp only at hns₁ hsb₁ ⊢
 generalize hH2 : s.heap.push { cls := .type "list", dict := none, data := .seq ([] : List Value).toArray } = H2 at hns₁ hsb₁ ⊢
 generalize eD : s.heap.objs.size = D at *
 have hC : H2.objs.size = D + 1 := by rw [<- hH2, Heap.size_push, eD]
 generalize eC : H2.objs.size = C at *
 have hDC : D ≠ C := by omega
 have lt : ∀ b o, s.heap.get? b = some o -> b < D := fun b o e => by rw [<- eD]; exact Heap.lt_size e
 have leC : D <= C := by omega
 have neC : ∀ b o, s.heap.get? b = some o -> b ≠ C := fun b o e => Nat.ne_of_lt (Nat.lt_of_lt_of_le (lt b o e) leC)
 have neD : ∀ b o, s.heap.get? b = some o -> b ≠ D := fun b o e => Nat.ne_of_lt (lt b o e)
 have old : ∀ b o, s.heap.get? b = some o -> h₁.get? b = some o := fun b o e => hsb₁.extBut b o (neC b o e) (Heap.get?_push_of_some _ (hH2 ▸ Heap.get?_push_of_some _ e))
 have hacc : h₁.get? D = some (objL [] 0) := hsb₁.extBut _ _ hDC (Heap.get?_push_of_some _ (by rw [<- hH2, <- eD]; exact Heap.get?_push_size _ rfl))
 have hobj : ∀ b ∈ fp, ∃ o, s.heap.get? b = some o := fun b hb => by
  obtain ⟨o, e, _⟩ := T.obj _ _ st b hb
  exact ⟨o, e⟩
 have hDf : D ∉ fp := fun hm => by
  obtain ⟨o, e⟩ := hobj D hm
  exact neD D o e rfl
 have X1 : Inv (compCx X pins scope N' cl C s H fp) [] (capsSt σ caps N'.length) H { s with heap := h₁, toks := s.toks + ([] : List (Str × Value)).length } :=
  I.comp_start S hc hf hobj (by rw [eD]; omega) ⟨_, hns₁⟩ old
 have st1 : tn 0 h₁ := T.keep _ _ _ st fun b _ o e => old b o e
 have fpc : ∀ {H' : Hp}, (∀ b ∈ fp, H' b = none) -> ∀ b ∈ fp, FpOk (compCx X pins scope N' cl C s H fp) [] H' b := fun hn b hb => by
  obtain ⟨f0, f1, f2, f3, f4, f5⟩ := hf b hb
  obtain ⟨o, e⟩ := hobj b hb
  refine ⟨hn b hb, ?_, ?_, .inl hb, fun x c q => f4 x c (S.cin x c q), fun p hp => ?_⟩
  ·exact neC b o e
  ·exact fun z => by
    rcases List.mem_cons.mp (I.stkSub b z) with z | z
    ·exact f1 z
    ·exact f2 z
  ·have hp' : p ∈ X.pn ++ pins := by simpa [compCx] using hp
   exact f5 p hp'
 have fD : ∀ {H' : Hp}, H' D = none -> FpOk (compCx X pins scope N' cl C s H fp) [] H' D := fun hn => by
  refine ⟨hn, hDC, fun z => ?_, .inr (by show s.heap.objs.size <= D; omega), fun x c q => ?_, fun p hp => ?_⟩
  ·exact absurd (I.nofs (a := D) (by omega)) fun hno => by
    rcases List.mem_cons.mp (I.stkSub D z) with z | z
    ·exact absurd I.lt (by rw [<- z, eD]; exact Nat.lt_irrefl _)
    ·exact hno z
  ·obtain ⟨v, o, e, _⟩ := I.cell x c (S.cin x c q)
   exact neD c o e
  ·have hp' : p ∈ X.pn ++ pins := by simpa [compCx] using hp
   exact neD _ _ (I.pin p hp').1
 have pinD : ∀ {H' : Hp} {s' : Shared} {σ' : St} {its : List Value} {n : Nat}, Inv (compCx X pins scope N' cl C s H fp) [] σ' H' s' -> H' D = none -> s'.heap.get? D = some (objL its n) ->
   Inv (compCx X pins scope N' cl C s H fp) [(D, objL its n)] σ' H' s' := fun {H' s' σ' its n} J0 hn e => J0.pins_of fun p hp => by
  have z : p = (D, objL its n) := by simpa using hp
  subst z
  obtain ⟨f0, f1, f2, _⟩ := fD hn
  exact ⟨e, f0, f1, f2, fun v z => nomatch z⟩
 have fpD : ∀ {H' : Hp} {its : List Value} {n : Nat}, (∀ b ∈ fp, H' b = none) -> ∀ b ∈ fp, FpOk (compCx X pins scope N' cl C s H fp) [(D, objL its n)] H' b := fun {H' its n} hn b hb => by
  obtain ⟨f0, f1, f2, f3, f4, f5⟩ := fpc hn b hb
  refine ⟨f0, f1, f2, f3, f4, fun p hp => ?_⟩
  have hp' : p ∈ (compCx X pins scope N' cl C s H fp).pn \/ p = (D, objL its n) := by simpa using hp
  rcases hp' with z | z
  ·exact f5 p (List.mem_append_left _ z)
  ·subst z
   exact fun z => hDf (by rw [show D = b from z]; exact hb)
 have loop : ∀ s₃ : Shared, s₃ = { s with heap := h₁, toks := s.toks + ([] : List (Str × Value)).length } ->
   codeAny (model X.prog X.w) X.A (.compLoop (.ListComp elt [⟨tg, iter, ifs, 0⟩] scope pos) 0 (.ref it) (.ref D) (compEnvC scope cl C X.env)) (RR (.ref D) C) s₃ := by
  rintro s₃ rfl
  refine compLoop_any (fun n s' => ∃ i ys σ' H' its nn, Inv (compCx X pins scope N' cl C s H fp) [] σ' H' s' /\ tn i s'.heap /\ (∀ b ∈ fp, H' b = none) /\ H' D = none /\ Vals ys its /\ ys.length <= sizeLine /\
   s'.heap.get? D = some (objL its nn) /\ W i n ys σ' H') ?_ m0 ⟨0, [], _, H, [], 0, X1, st1, fun b hb => (hf b hb).1, I.hok.fresh (by omega), .nil, Nat.zero_le _, hacc, w0⟩
  rintro n s3 ⟨i, ys, σ3, H3, its, nn, I3, st3, fr3, d3, v3, z3, o3, w3⟩
  have I3' := pinD I3 d3 o3
  rcases turn i n ys σ3 H3 w3 with ⟨stop, q⟩ | ⟨go, hz, step⟩
  ·refine thn (T.done (compCx X pins scope N' cl C s H fp) rfl rfl rfl rfl i _ s3 _ H3 _ I3' (fpD fr3) st3 stop) fun r s4 ⟨hr, I4⟩ => ?_
   subst hr
   have o4 := (I4.pin (D, objL its nn) (by simp)).1
   have J4 : Inv X pins σ H3 s4 := I.comp_end hf I4
   have fD4 : FpOk X pins H3 D := by
    refine ⟨d3, Nat.ne_of_gt (by rw [<- eD]; exact I.lt), I.nofs (by omega), .inr (by have := I.sz; omega), fun x c q => ?_, fun p hp => ?_⟩
    ·obtain ⟨v, o, e, _⟩ := I.cell x c q
     exact neD c o e
    ·exact neD _ _ (I.pin p hp).1
   obtain ⟨mC, hmC, _⟩ := I4.loc
   exact hRR D C s4 (upd H3 D (.lst ys)) mC (J4.track fD4 (by have := I.sz; omega) v3 z3 o4) (q D d3) hmC (by rw [upd_ne hDC.symm]; exact I4.free) (by omega)
  ·refine thn (T.item (compCx X pins scope N' cl C s H fp) rfl rfl rfl rfl i _ s3 _ H3 _ I3' (fpD fr3) st3 go) fun r s4 ⟨u, hr, h4⟩ => ?_
   subst hr
   refine thn h4 fun _ s5 ⟨x, H5, I5, r5, y5, st5, fr5⟩ => ?_
   have o5 := I5.pin (D, objL its nn) (by simp)
   have I5' := I5.pinned (fpD fr5) (T.obj _ _ st5)
   refine thn (hg C s H _ s5 _ H5 x u _ I5' r5 (step x H5 y5)) fun _ s6 ⟨σ6, H6, I6, q6⟩ => ?_
   refine thn (ht C s H _ s6 σ6 H6 _ I6 q6) fun ok s7 ⟨H7, I7, q7⟩ => ?_
   have back : ∀ {σ8 : St} {H8 : Hp} {s8 : Shared}, Inv (compCx X pins scope N' cl C s H fp) ([(D, objL its nn)] ++ pinsAt fp s5.heap) σ8 H8 s8 -> (∀ b ∈ fp, H8 b = none) /\ tn (i + 1) s8.heap /\ H8 D = none /\ s8.heap.get? D = some (objL its nn) :=
    fun {σ8 H8 s8} I8 => by
     have pf : ∀ b ∈ fp, ∀ o, s5.heap.get? b = some o -> s8.heap.get? b = some o /\ H8 b = none := fun b hb o e => by
      have := I8.pin (b, o) (List.mem_append_right _ (List.mem_append_right _ (mem_pinsAt hb e)))
      exact ⟨this.1, this.2.1⟩
     have pd := I8.pin (D, objL its nn) (by simp)
     refine ⟨fun b hb => ?_, T.keep _ _ _ st5 fun b hb o e => (pf b hb o e).1, pd.2.1, pd.1⟩
     obtain ⟨o, e, _⟩ := T.obj _ _ st5 b hb
     exact (pf b hb o e).2
   cases ok with
   | false =>
    obtain ⟨m', hm, w7⟩ := q7
    obtain ⟨b1, b2, b3, b4⟩ := back I7
    exact ⟨m', hm, i + 1, ys, σ6, H7, its, nn, I7.pins_of fun p hp => absurd hp (by simp), b2, b1, b3, v3, z3, b4, w7⟩
   | true =>
    refine thn (he C s H _ s7 σ6 H7 _ I7 q7) fun xv s8 ⟨y, H8, I8, r8, m', hm, w8⟩ => ?_
    obtain ⟨b1, b2, b3, b4⟩ := back I8
    refine call_meets F.slot_list_append ⟨_, b4, rfl⟩ F.entry_list_append (F.args_list_append_2 _ _) (PySem.list_append D its.toArray nn xv (by rw [List.size_toArray]; have := v3.length; omega)) ⟨b4, ?_⟩
    have q : ∃ n', (s8.heap.update D (Obj.mapSeq (·.push xv))).get? D = some (objL (its ++ [xv]) n') := by
     have q0 := PySem.IsL.update b4 (·.push xv)
     have e0 : its.toArray.push xv = (its ++ [xv]).toArray := by simp
     rw [e0] at q0
     exact ⟨_, q0⟩
    obtain ⟨n', q⟩ := q
    have I8' : Inv (compCx X pins scope N' cl C s H fp) [] σ6 H8 s8 := I8.pins_of fun p hp => absurd hp (by simp)
    obtain ⟨f0, f1, f2, f3, f4, f5⟩ := fD (H' := H8) b3
    have kp : ∀ b o, b ≠ D -> s8.heap.get? b = some o -> (s8.heap.update D (Obj.mapSeq (·.push xv))).get? b = some o := fun b' u hb hu => (Heap.get?_update_other s8.heap (Obj.mapSeq (·.push xv)) (Ne.symm hb)).trans hu
    refine ⟨m', hm, i + 1, ys ++ [y], σ6, H8, its ++ [xv], n', I8'.turned (it := D) (t' := s8.toks) kp f0 f1 f3 f4 f5, T.keep _ _ _ b2 fun b hb o e => kp b o (fun z => hDf (by rw [<- z]; exact hb)) e, b1, b3, v3.append (.cons r8 .nil), ?_, q, w8⟩
    rw [List.length_append, List.length_singleton]
    omega
 exact codeAny_compStart_list (loop _ rfl) (T.self _ 0 _ _ _ st1 (loop _ rfl))
theorem Inv.letgo {C : Addr} {h' : Heap} {s2 : Shared} {H2 : Hp} (I : Inv X pins σ H s) (hC : s2.heap.objs.size <= C) (I2 : Inv X pins σ H2 s2) (hn : H C = none) (sb : Heap.SameBut C s.heap h') : Inv X pins σ H { s with heap := h' } := by
 have f := I2.fpOk (b := C) (H' := H) hC hn
 obtain ⟨f0, f1, f2, f3, f4, f5⟩ := f
 exact I.turned (t' := s.toks) (fun b o hb e => sb.extBut b o hb e) f0 f1 f3 f4 f5
theorem pe_comp {elt tg iter : Expr} {ifs : List Expr} {scope : Scope} {N' : List Str} {caps : List Nat} {cl : List (Str × Addr)} {pos : Pos} {wi : TI} {g : TG} {tc : TT} {te : TE}
  (S : CompScope X scope N' caps cl) (hc : X.calm = true) (hi : PI X tg iter wi)
  (hg : ∀ pins C s H fp, PG (compCx X pins scope N' cl C s H fp) tg g) (ht : ∀ pins C s H fp, PTs (compCx X pins scope N' cl C s H fp) ifs tc) (he : ∀ pins C s H fp, PE (compCx X pins scope N' cl C s H fp) elt te)
  (hs : ∀ x, foldedSetIterable iter X.env x = pure x) : PE X (.ListComp elt [⟨tg, iter, ifs, 0⟩] scope pos) (tComp wi caps N'.length g tc te) := by
 intro pins s σ H Q I h
 rw [eval_ListComp]
 refine wpAny_comprehension_free (use := none) rfl hs S.clos S.kind S.names (thn (hi pins s σ H _ I h) fun xv s₁ h₁ => thn h₁ fun itv s₂ h₂ => ?_)
 obtain ⟨it, fp, tn, J, H2, e, I2, T, st2, f2, W, ⟨m0, w0⟩, turn⟩ := h₂
 subst e
 refine comp_block (RR := fun acc C => compPost (model X.prog X.w) X.A X.xe none (EP X pins σ Q) acc C) S hc (fun C s H => hg pins C s H fp) (fun C s H => ht pins C s H fp) (fun C s H => he pins C s H fp) I2 T st2 f2 w0 turn ?_
 intro D C s' H' m I' q hn hC hsz
 exact ⟨m, hn, fun h' sb => ⟨.ref D, H', I'.letgo hsz I2 hC sb, rfl, q⟩⟩
theorem ps_set_comp {elt tg iter : Expr} {ifs : List Expr} {scope : Scope} {N' : List Str} {caps : List Nat} {cl : List (Str × Addr)} {pos spos px : Pos} {wi : TI} {g : TG} {tc : TT} {te : TE} {i : Nat} {x : Str}
  (S : CompScope X scope N' caps cl) (hc : X.calm = true) (hi : PI X tg iter wi)
  (hg : ∀ pins C s H fp, PG (compCx X pins scope N' cl C s H fp) tg g) (ht : ∀ pins C s H fp, PTs (compCx X pins scope N' cl C s H fp) ifs tc) (he : ∀ pins C s H fp, PE (compCx X pins scope N' cl C s H fp) elt te)
  (hs : ∀ x, foldedSetIterable iter X.env x = pure x)
  (hN : X.N.Nodup) (hix : X.N[i]? = some x) (hx : Loc X.env.scope x) (hf : X.fn x = true \/ X.env.scope.names.lookup x = some .local) :
  PS X (.Assign [.Name x px] (.ListComp elt [⟨tg, iter, ifs, 0⟩] scope pos) spos) (tAsg (tComp wi caps N'.length g tc te) (gName i)) := by
 intro pins s σ H D I h
 have hsw : ∃ b, swapsWith (.ListComp elt [⟨tg, iter, ifs, 0⟩] scope pos) (some (.Name x px)) spos.line X.env = pure b := ⟨_, rfl⟩
 obtain ⟨b, hsw⟩ := hsw
 cases b with
 | false => exact ps_set hN hix hx (pe_comp S hc hi hg ht he hs) hsw hf pins s σ H D I h
 | true =>
  rw [exec_Assign_Name_used _ _ _ _ hsw]
  refine wpAny_bind (wpAny_standAt (wpAny_bind ?_))
  show wpAny _ X.A (do let _ <- comprehension (.ListComp elt [⟨tg, iter, ifs, 0⟩] scope pos) scope X.env _ (newList []) false (eval iter X.env) (some (assign (.Name x px) X.env))) _ _ s
  refine wpAny_bind (wpAny_mono (wpAny_comprehension_free (use := some (assign (.Name x px) X.env)) (Q := fun _ s' => SP X pins D .next s') rfl hs S.clos S.kind S.names
   (thn (hi pins s σ H _ I h) fun xv s₁ h₁ => thn h₁ fun itv s₂ h₂ => ?_)) (fun _ s' hq => wpAny_pure (wpAny_pure hq)) fun _ _ e => e)
  obtain ⟨it, fp, tn, J, H2, e, I2, T, st2, f2, W, ⟨m0, w0⟩, turn⟩ := h₂
  subst e
  refine comp_block (Q := fun v H1 => gName i v σ H1 D.nx) (RR := fun acc C => compPost (model X.prog X.w) X.A X.xe (some (assign (.Name x px) X.env)) (fun _ s' => SP X pins D .next s') acc C) S hc (fun C s H => hg pins C s H fp) (fun C s H => ht pins C s H fp) (fun C s H => he pins C s H fp) I2 T st2 f2 w0 turn ?_
  intro Dl C s' H' m I' q hn hC hsz
  show wpAny _ X.A (assign (.Name x px) X.env (.ref Dl)) _ _ _
  refine wpAny_assign_Name (store_ok2 I' hN hix hx (v := .ref Dl) rfl (fun s3 I3 ⟨a, sb, ha⟩ => ?_) hf)
  have hCL : C ≠ a := by
   obtain ⟨f0, f1, f2, f3, f4, f5⟩ := I2.fpOk (b := C) (H' := H') hsz hC
   rcases ha with z | z
   ·rw [z]; exact f1
   ·exact fun z' => f4 _ _ z z'.symm
  obtain ⟨f0, f1, f2, f3, f4, f5⟩ := I2.fpOk (b := C) (H' := H') hsz hC
  refine ⟨m, hn.sameBut sb hCL, fun h3 sb3 => ⟨_, H', I3.turned (t' := s3.toks) (fun b o hb e => sb3.extBut b o hb e) f0 f1 f3 f4 f5, q⟩⟩
end
end L2

namespace HT
open PySem PyProof.Rows
section
variable {prog : Program} {w : World} {A : Around} {E : Value -> Shared -> Prop} {s : Shared}
theorem cat_tup0 {t b : Addr} {ws : List Value} {Q : Value -> Shared -> Prop} (ht : IsTup s.heap t #[]) (hb : IsTup s.heap b ws.toArray) (h1 : Q (.ref b) s) : wpAny (model prog w) A (binaryOp .Add (.ref t) (.ref b)) Q E s := by
 obtain ⟨⟨cls, dd, data, sl⟩, ho, hc, n, hd⟩ := id ht
 obtain ⟨⟨cls2, dd2, data2, sl2⟩, ho2, hc2, n2, hd2⟩ := id hb
 simp only at hc hd hc2 hd2
 subst hc hd hc2 hd2
 exact concat_meets ⟨_, ho, rfl⟩ ⟨_, ho2, rfl⟩ noFill_tuple_add seq_tuple_add PySem.F.slot_tuple_add PySem.F.entry_tuple_add (PySem.F.args_tuple_add_2 _ _)
   (tuple_addW0 t b #[] ws.toArray n n2 dd dd2 sl sl2 rfl) ⟨ho, ho2, h1⟩
theorem getItem_tuple_whole {t sl : Addr} {items : Array Value} {vl vu : Value} {lo hi : Option Int} {Q : Value -> Shared -> Prop} (ht : IsTup s.heap t items) (hs : s.heap.IsSliceOf sl vl vu .none) (pl : IsPart vl lo) (pu : IsPart vu hi)
  (hw : sIx items.size 0 lo = 0 /\ sIx items.size items.size hi = items.size) (h : Q (.ref t) s) : wpAny (model prog w) A (getItem (.ref t) (.ref sl)) Q E s := by
 obtain ⟨os, hos, hcs, hds⟩ := id hs
 have hTs : s.TypeIs (.ref sl) "slice" := ⟨os, hos, hcs⟩
 unfold getItem
 try with_reducible refine wpAny_holding ?_
 first | refine wpAny_bind (wpAny_pure ?_) | skip
 refine wpAny_bind (wpAny_sequenceKey ht.typeIs (by decide) ?_)
 refine wpAny_bind (wpAny_callSpecial?_slot (name := Str.ofString "__getitem__") ht.typeIs PyProof.Rows.slot_tuple_getitem
  (wpAny_call_entry PyProof.Rows.slot_tuple_getitem ht.typeIs entry_tuple_getitem ?_ (args_tuple_getitem _ _)))
 show wpAny _ _ (Builtin.Tuple.tupleItemsOf (.ref t) >>= _) _ _ s
 refine wpAny_bind (tupleItemsOf_ ht ?_)
 refine wpAny_bind (wpAny_typeOf hTs ?_)
 rw [if_pos (by decide)]
 refine wpAny_bind (sliceApplied_gen hs pl pu ?_)
 have hyes : ((((sIx items.size 0 lo : Nat) : Int) == 0 && (1 : Int) == 1 && (sIx items.size items.size hi - sIx items.size 0 lo) == items.size) = true) := by
  rw [hw.1, hw.2]
  simp
 show wpAny _ _ (if (((sIx items.size 0 lo : Nat) : Int) == 0 && (1 : Int) == 1 && (sIx items.size items.size hi - sIx items.size 0 lo) == items.size) = true then _ else _) _ _ s
 rw [if_pos hyes]
 obtain ⟨o, ho, hc, _⟩ := id ht
 unfold Builtin.Tuple.tupleIsExact
 refine wpAny_bind (wpAny_bind (wpAny_typeOf ht.typeIs (wpAny_pure ?_)))
 rw [if_pos (by decide)]
 first
  | exact wpAny_bind (wpAny_rule (wpAny_bind (wpAny_pure ⟨_, rfl, wpAny_pure h⟩)))
  | exact wpAny_bind (wpAny_rule (wpAny_pure ⟨_, rfl, wpAny_pure h⟩))
  | exact wpAny_bind (wpAny_rule (wpAny_bind (wpAny_pure (wpAny_pure ⟨_, rfl, wpAny_pure h⟩))))
end
end HT
namespace L2
open PySem PySem.Spec PyProof.Rows
section
variable {X : Cx}
noncomputable def rCatT2 (K : PySem.W.Frag) : R2 := fun x y H Q => ∃ a b xs ys, x = .ref a /\ y = .ref b /\ SqT K H a xs /\ SqT K H b ys /\ xs.length + ys.length <= sizeLine /\
 (xs = [] -> Q (.ref b) H) /\ (ys = [] -> Q (.ref a) H) /\ (∀ p, H p = none -> Q (.ref p) (upd H p (.tup (xs ++ ys))))
theorem op_catT2 : OpR X (binaryOp .Add) (rCatT2 X.K) := by
 intro pins s σ H x y v u Q I rx ry h
 obtain ⟨a, b, xs, ys, rfl, rfl, ha, hb, hz, q0, q1, q2⟩ := h
 by_cases hx : xs = []
 ·subst hx
  cases rx
  cases ry
  obtain ⟨its, r1, p1, _⟩ := I.tuple ha
  obtain ⟨its2, r2, p2, _⟩ := I.tuple hb
  cases r1
  exact HT.cat_tup0 p1 p2 ⟨.ref b, H, I, rfl, q0 rfl⟩
 ·exact op_catT pins s σ H _ _ v u Q I rx ry ⟨a, b, xs, ys, rfl, rfl, ha, hb, hx, hz, q1, fun _ => q2⟩
noncomputable def rSlT2 (K : PySem.W.Frag) : V -> Option Int -> Option Int -> Hp -> VK -> Prop := fun x lo hi H Q => ∃ a xs, x = .ref a /\ SqT K H a xs /\
 (cutV xs lo hi = xs -> Q (.ref a) H) /\ ∀ p, H p = none -> Q (.ref p) (upd H p (.tup (cutV xs lo hi)))
theorem sl_tup2 : SlR X (rSlT2 X.K) := by
 intro pins s σ H x v vl vu lo hi sl Q I rx hs pl pu h
 obtain ⟨a, xs, rfl, hx, q0, q⟩ := h
 by_cases hw : HT.sIx xs.length 0 lo = 0 /\ HT.sIx xs.length xs.length hi = xs.length
 ·cases rx
  obtain ⟨its, r, ht, hz⟩ := I.tuple hx
  have hlen : its.toArray.size = xs.length := by rw [List.size_toArray]; exact r.length.symm
  refine ⟨"tuple", _, PyProof.Rows.slot_tuple_getitem.lookup, ht.typeIs, ?_⟩
  exact HT.getItem_tuple_whole ht hs pl pu (by rw [hlen]; exact hw) ⟨.ref a, H, I, rfl, q0 (by unfold cutV; rw [hw.1, hw.2]; simp)⟩
 ·exact sl_tup pins s σ H _ v vl vu lo hi sl Q I rx hs pl pu ⟨a, xs, rfl, hx, hw, q⟩
theorem call_isinst : CallR X (.builtin "isinstance") (fun xs H Q => ∃ x t c b, xs = [x, .ty c] /\ TyOf X.K H x t /\ PySem.W.kitOne X.K t (.type c) = some b /\ Q (.bl b) H) := by
 intro pins s σ H xs us Q I r h
 obtain ⟨x, t, c, b, rfl, hT, hk, q⟩ := h
 obtain ⟨u, w', rfl, ru, rw'⟩ := vals2 r
 cases (show w' = Value.type c from rw')
 exact isinst_ok I ru hT hk fun tk => ⟨.bl b, H, I.tok tk, rfl, q⟩
theorem call_allB (hc : X.calm = true) : CallR X (.builtin "all") (fun xs H Q => ∃ (a : Addr) (bs : List Bool), xs = [.ref a] /\ SqL X.K H a (bs.map V.bl) /\ Q (.bl (bs.all id)) H) := by
 intro pins s σ H xs us Q I r h
 obtain ⟨a, bs, rfl, ha, q⟩ := h
 obtain ⟨u, rfl, ru⟩ := vals1 r
 cases ru
 obtain ⟨its, rv, p, hz⟩ := I.list ha
 refine call_all_walk ?_
 refine wpAny_pyIter_list p.isList ?_
 have hne : a ≠ s.heap.objs.size := by
  obtain ⟨o, e, _⟩ := id p.isList
  exact Nat.ne_of_lt (Heap.lt_size e)
 have hl := rv.length
 rw [List.length_map] at hl
 refine ⟨s.heap.objs.size, _, _, _, _, _, fun i => bs.getD i true, rfl, Walks.list (A := X.A.in1) (I.ok.hd hc) _ a hne its.toArray, ⟨⟨_, Heap.get?_push_size _ rfl, rfl, rfl⟩, ?_⟩, ?_, fun h' tk k => ?_⟩
 ·obtain ⟨o, e, q1⟩ := id p.isList
  exact ⟨o, Heap.get?_push_of_some _ e, q1⟩
 ·intro i v s' Q' E' hP hQ
  have hv : its[i]? = some v := by simpa using hP
  have hi : i < bs.length := by rw [hl]; exact (List.getElem?_eq_some_iff.mp hv).1
  obtain ⟨u', hu', ru'⟩ := rv.get (i := i) (x := V.bl bs[i]) (by rw [List.getElem?_map, List.getElem?_eq_getElem hi]; rfl)
  rw [hv] at hu'
  cases hu'
  cases (show v = Value.bool bs[i] from ru')
  refine wpAny_truthy_bool ?_
  have : bs.getD i true = bs[i] := by simp [List.getD, hi]
  dsimp only at hQ
  rw [this] at hQ
  exact hQ
 ·have e1 : (List.range its.toArray.size).all (fun i => bs.getD i true) = bs.all id := by
   rw [List.size_toArray, <- hl]
   rw [Bool.eq_iff_iff]
   simp only [List.all_eq_true, List.mem_range, id]
   constructor
   ·intro hh x hx
    obtain ⟨i, hi, rfl⟩ := List.mem_iff_getElem.mp hx
    have := hh i hi
    simpa [List.getD, hi] using this
   ·intro hh i hi
    have := hh bs[i] (List.getElem_mem hi)
    simpa [List.getD, hi] using this
  rw [e1]
  exact ⟨.bl (bs.all id), H, I.kept (t' := tk) fun b o e => k b o (by
   intro hb
   have : b = s.heap.objs.size := by simpa using hb
   exact absurd (Heap.lt_size e) (by rw [this]; exact Nat.lt_irrefl _)) (Heap.get?_push_of_some _ e), rfl, q⟩
end
end L2

namespace HT
open PySem PyProof.Rows
section
variable {prog : Program} {w : World} {A : Around} {E : Value -> Shared -> Prop} {s : Shared}
theorem sliceApplied_rev {sl : Addr} {n : Nat} {t : Tok} {Q : Int × Int × Nat -> Shared -> Prop} (hs : s.heap.IsSliceOf sl .none .none (.int (-1) t)) (h : Q ((n : Int) - 1, -1, n) s) :
  wpAny (model prog w) A (Builtin.Slice.sliceApplied (.ref sl) (pure (n : Int))) Q E s := by
 obtain ⟨os, hos, hcs, hds⟩ := id hs
 unfold Builtin.Slice.sliceApplied Builtin.Slice.sliceFields
 refine wpAny_bind (wpAny_bind (wpAny_field hos hds (x := .none) rfl (wpAny_bind (wpAny_field hos hds (x := .none) rfl (wpAny_bind (wpAny_field hos hds (x := .int (-1) t) rfl (wpAny_pure ?_)))))))
 refine wpAny_bind (slicePart_int ?_)
 show wpAny _ _ (if ((-1 : Int) == 0) = true then _ else _) _ _ s
 rw [if_neg (by decide)]
 refine wpAny_bind (slicePart_none (wpAny_bind (slicePart_none (wpAny_bind (wpAny_pure ?_)))))
 show wpAny _ _ (match Builtin.Slice.sliceAdjust none none (-1) (n : Int) with | (lo, hi) => pure (lo, (-1 : Int), Builtin.Slice.slicePlaces lo hi (-1))) _ _ s
 have e1 : Builtin.Slice.sliceAdjust none none (-1) (n : Int) = ((n : Int) - 1, -1) := rfl
 rw [e1]
 show wpAny _ _ (pure ((n : Int) - 1, (-1 : Int), Builtin.Slice.slicePlaces ((n : Int) - 1) (-1) (-1))) _ _ s
 have e2 : Builtin.Slice.slicePlaces ((n : Int) - 1) (-1) (-1) = n := by
  unfold Builtin.Slice.slicePlaces
  have h1 : ¬ ((-1 : Int) > 0) := by omega
  simp only [h1, if_false]
  have h2 : (-(-1 : Int)) = 1 := by omega
  rw [h2]
  simp only [Int.ediv_one]
  split <;> omega
 rw [e2]
 exact wpAny_pure h
theorem pick_rev (xs : Array Value) : ((List.range xs.size).filterMap fun (m : Nat) => xs[(((xs.size : Nat) : Int) - 1 + (m : Int) * (-1)).toNat]?).toArray = xs.toList.reverse.toArray := by
 congr 1
 apply List.ext_getElem?
 intro i
 have e : (List.range xs.size).filterMap (fun (m : Nat) => xs[(((xs.size : Nat) : Int) - 1 + (m : Int) * (-1)).toNat]?) = (List.range xs.size).map fun m => xs.toList.reverse.getD m .none := by
  have : ∀ (l : List Nat), (∀ m ∈ l, m < xs.size) -> l.filterMap (fun (m : Nat) => xs[(((xs.size : Nat) : Int) - 1 + (m : Int) * (-1)).toNat]?) = l.map fun m => xs.toList.reverse.getD m .none := by
   intro l hl
   induction l with
   | nil => rfl
   | cons a r ih =>
    have ha := hl a (by simp)
    have e1 : (((xs.size : Nat) : Int) - 1 + (a : Int) * (-1)).toNat = xs.size - 1 - a := by omega
    have e2 : xs[xs.size - 1 - a]? = some xs[xs.size - 1 - a] := by simp
    have e3 : xs.toList.reverse.getD a .none = xs[xs.size - 1 - a] := by
     have hl : a < xs.toList.reverse.length := by simpa using ha
     rw [List.getD_eq_getElem?_getD, List.getElem?_eq_getElem hl]
     simp [List.getElem_reverse]
    rw [List.filterMap_cons, e1, e2, List.map_cons, e3, ih fun m hm => hl m (by simp [hm])]
  exact this _ fun m hm => by simpa using hm
 rw [e]
 by_cases hi : i < xs.size
 ·rw [List.getElem?_map, List.getElem?_range hi]
  simp only [Option.map_some, List.getD_eq_getElem?_getD]
  rw [List.getElem?_eq_getElem (by simpa using hi)]
  rfl
 ·rw [List.getElem?_eq_none (by simpa using hi), List.getElem?_eq_none (by simpa using hi)]
theorem getItem_tuple_rev {t sl : Addr} {items : Array Value} {tk : Tok} {Q : Value -> Shared -> Prop} (ht : IsTup s.heap t items) (hs : s.heap.IsSliceOf sl .none .none (.int (-1) tk))
  (h : Q (.ref s.heap.objs.size) { s with heap := s.heap.push { cls := .type "tuple", data := .seq items.toList.reverse.toArray } }) (hsz : items.size <= sizeLine) : wpAny (model prog w) A (getItem (.ref t) (.ref sl)) Q E s := by
 have htake : sizeOk (.seq items.toList.reverse.toArray) := by
  show items.toList.reverse.toArray.size <= sizeLine
  rw [List.size_toArray, List.length_reverse, Array.length_toList]
  exact hsz
 obtain ⟨os, hos, hcs, hds⟩ := id hs
 have hTs : s.TypeIs (.ref sl) "slice" := ⟨os, hos, hcs⟩
 unfold getItem
 try with_reducible refine wpAny_holding ?_
 first | refine wpAny_bind (wpAny_pure ?_) | skip
 refine wpAny_bind (wpAny_sequenceKey ht.typeIs (by decide) ?_)
 refine wpAny_bind (wpAny_callSpecial?_slot (name := Str.ofString "__getitem__") ht.typeIs PyProof.Rows.slot_tuple_getitem
  (wpAny_call_entry PyProof.Rows.slot_tuple_getitem ht.typeIs entry_tuple_getitem ?_ (args_tuple_getitem _ _)))
 show wpAny _ _ (Builtin.Tuple.tupleItemsOf (.ref t) >>= _) _ _ s
 refine wpAny_bind (tupleItemsOf_ ht ?_)
 refine wpAny_bind (wpAny_typeOf hTs ?_)
 rw [if_pos (by decide)]
 refine wpAny_bind (sliceApplied_rev hs ?_)
 have hno : ¬ ((((items.size : Nat) : Int) - 1 == 0 && (-1 : Int) == 1 && items.size == items.size) = true) := by
  intro q
  rw [Bool.and_eq_true, Bool.and_eq_true] at q
  exact absurd q.1.2 (by decide)
 show wpAny _ _ (if (((items.size : Nat) : Int) - 1 == 0 && (-1 : Int) == 1 && items.size == items.size) = true then _ else _) _ _ s
 rw [if_neg hno, pick_rev]
 first
  | exact wpAny_bind (m := Builtin.Tuple.tupleExact _) (wpAny_newObj_type (wpAny_pure ⟨_, rfl, wpAny_pure h⟩) htake)
  | exact wpAny_bind (m := Builtin.Tuple.tupleExact _) (wpAny_newObj_type (wpAny_bind (wpAny_pure (wpAny_pure ⟨_, rfl, wpAny_pure h⟩))) htake)
  | exact wpAny_bind (wpAny_bind (m := Builtin.Tuple.tupleExact _) (wpAny_newObj_type (wpAny_pure (wpAny_pure ⟨_, rfl, wpAny_pure h⟩)) htake))
  | exact wpAny_bind (wpAny_bind (m := Builtin.Tuple.tupleExact _) (wpAny_newObj_type (wpAny_pure ⟨_, rfl, wpAny_pure h⟩) htake))
end
end HT
namespace L2
open PySem PySem.Spec PyProof.Rows
section
variable {X : Cx} {e st : Expr} {te ts : TE} {pos p2 : Pos}
theorem pe_rev (he : PE X e te) (hs : PE X st ts) : PE X (.Subscript e (.Slice none none (some st) p2) pos) (fun σ H Q => te σ H fun x H1 => ts σ H1 fun y H2 => y = .int (-1) /\ ∃ a xs, x = .ref a /\ SqT X.K H2 a xs /\ ∀ p, H2 p = none -> Q (.ref p) (upd H2 p (.tup xs.reverse))) := by
 intro pins s σ H Q I h
 refine Subscript_ (thn (he pins s σ H _ I h) fun v s1 ⟨x, H1, I1, r1, q1⟩ => ?_)
 refine wpAny_Slice ?_
 rw [evalPart_none]
 refine wpAny_pure ?_
 refine wpAny_pure ?_
 rw [evalPart_some]
 refine thn (hs pins s1 σ H1 _ I1 q1) fun u s2 ⟨y, H2, I2, r2, q2⟩ => ?_
 obtain ⟨rfl, a, xs, rfl, hx, q⟩ := q2
 obtain ⟨t, rfl⟩ := r2
 cases r1
 have I4 : Inv X pins σ H2 { s2 with heap := s2.heap.push { cls := .type "slice", data := .fields #[.none, .none, .int (-1) t] } } := I2.kept (t' := s2.toks) fun b ob q => Heap.get?_push_of_some _ q
 obtain ⟨its, r, ht, hz⟩ := I4.tuple hx
 have hlen : its.toArray.size = xs.length := by rw [List.size_toArray]; exact r.length.symm
 show wpAny (model X.prog X.w) X.A (subscriptTail e (.Slice none none (some st) p2) (.ref a) (.ref s2.heap.objs.size)) (EP X pins σ Q) X.xe { s2 with heap := s2.heap.push { cls := .type "slice", data := .fields #[.none, .none, .int (-1) t] } }
 refine tail_any (ops := [.ref a, .ref s2.heap.objs.size]) ht.typeIs PyProof.Rows.slot_tuple_getitem.lookup (HT.getItem_tuple_rev ht (Heap.IsSliceOf.new ..) ?_ (by rw [hlen]; exact hz)) (by with_unfolding_all rfl)
 have ee : its.toArray.toList.reverse.toArray = its.reverse.toArray := by simp
 rw [ee]
 refine ⟨.ref _, _, I4.laid (t' := s2.toks) (o := .tup xs.reverse) (fun b ob q => Heap.get?_push_of_some _ q) (Nat.le_refl _) ?_, rfl, q _ (I4.hok.fresh (Nat.le_refl _))⟩
 exact ⟨by rw [List.length_reverse]; exact hz, its.reverse, r.reverse, IsTupD.new _ _⟩
end
end L2

namespace L2
open PySem PySem.Spec PyProof.Rows
theorem ObjOk.get {P : Program} {w : World} {H : Hp} {h : Heap} {a : Addr} : ∀ {o : HO}, ObjOk P w H h a o -> ∃ ob, h.get? a = some ob
 | .lst _, x => by obtain ⟨_, _, _, _, e⟩ := x; exact ⟨_, e⟩
 | .tup _, x => by obtain ⟨_, _, _, o, e, _⟩ := x; exact ⟨o, e⟩
 | .dK _, x => by obtain ⟨_, _, _, _, o, es, ep, e, _⟩ := x; exact ⟨o, e⟩
 | .dT _, x => by obtain ⟨_, _, _, _, o, es, ep, e, _⟩ := x; exact ⟨o, e⟩
 | .set _ _, x => by obtain ⟨o, es, ep, t, e, _⟩ := x; exact ⟨o, e⟩
 | .ins _ _ _, x => by obtain ⟨_, _, _, e, _⟩ := x; exact ⟨_, e⟩
 | .own _, x => x
 | .xd _, x => by obtain ⟨mA, n, _⟩ := x; obtain ⟨od, e, _⟩ := lookIn_ns n; exact ⟨od, e⟩
 | .rng _ _, x => by obtain ⟨_, _, _, e⟩ := x; exact ⟨_, e⟩
 | .frz _ _, x => ⟨_, x.1⟩
 | .tbl _, x => ⟨_, x⟩
 | .met _ _, x => ⟨_, x⟩
 | .ext _, x => x.2.1
noncomputable def Flies (H' : Hp) (h0 : Heap) (l : List Env) (e : Value) (C : Addr) (h : Heap) : Prop :=
 ∃ (ea : Addr) (a0 : Value) (B : Heap), e = .ref ea /\ Heap.FlyingW B l ea (.ref C) a0 h /\ ∀ b o, h.get? b = some o -> b ∉ frs l -> (H' b ≠ none \/ ∃ o0, h0.get? b = some o0) -> B.get? b = some o
noncomputable def CXE (P : Program) (w : World) : CXT := fun outer H s E e s' => ∃ (C : Addr) (H' : Hp), s'.os = s.os /\ AllBare s'.gens /\ Un (frs outer) [] H H' s.heap s'.heap /\ HOk P w H' s'.heap /\ Flies H' s.heap outer e C s'.heap /\ E (.ref C) none H'
section
variable {X : Cx} {pins : List (Addr × Obj)} {σ : St} {H : Hp} {s s' : Shared} {E : XK} {e : Value}
theorem Inv.flew (I : Inv X pins σ H s) (h : CXE X.prog X.w X.stack H s E e s') : ∃ C H', Inv X pins σ H' s' /\ Flies H' s.heap X.stack e C s'.heap /\ E (.ref C) none H' := by
 obtain ⟨C, H', ho, hb, hu, hok, fl, hE⟩ := h
 exact ⟨C, H', I.call' (ch := []) ho hu hok hb (by simp), fl, hE⟩
theorem frame_ok (I : Inv X pins σ H s) {b : Addr} (hb : b ∈ frs X.stack) : ∃ o, s.heap.get? b = some o /\ ∀ vs, o.data ≠ .fields vs := (I.stack.mem hb).2
theorem cx_of {h'' : Heap} {B : Heap} {ea C : Addr} {a0 : Value} (I : Inv X pins σ H s) (hst : X.stack = X.env :: X.outer) (hex : X.ex = []) (hf : X.env.frame = some X.env.locals)
  (inB : ∀ b o, s.heap.get? b = some o -> b ∉ frs X.stack -> (H b ≠ none \/ ∃ o0, X.s₀.heap.get? b = some o0) -> B.get? b = some o)
  (sl : ∀ b ∈ frs X.stack, ∀ o, s.heap.get? b = some o -> ∃ sl, h''.get? b = some { o with slots := sl })
  (fw : Heap.FlyingW B X.outer ea (.ref C) a0 h'') (hE : E (.ref C) none H) : CXE X.prog X.w X.outer X.H₀ X.s₀ E (.ref ea) { s with heap := h'' } := by
 have hsub : ∀ b, b ∈ frs X.outer -> b ∈ frs X.stack := fun b hb => by rw [hst]; unfold frs at hb ⊢; rw [List.filterMap_cons, hf]; exact List.mem_cons_of_mem _ hb
 have nost : ∀ b o, X.s₀.heap.get? b = some o -> b ∉ frs X.outer -> b ∉ frs X.stack := fun b o e hb z => by
  rcases List.mem_cons.mp (I.stkSub b z) with z | z
  ·exact absurd (Heap.lt_size e) (by rw [z]; exact Nat.not_lt.mpr I.ok.above)
  ·exact hb z
 have trk : ∀ b u, H b = some u -> b ∉ frs X.stack := fun b u e z => by rw [I.stkFree b z] at e; cases e
 have kept : ∀ b o, s.heap.get? b = some o -> b ∉ frs X.stack -> (H b ≠ none \/ ∃ o0, X.s₀.heap.get? b = some o0) -> h''.get? b = some o := fun b o e n q => fw.1 b o (inB b o e n q)
 have nex : ∀ b, b ∉ X.ex := fun b => by rw [hex]; simp
 refine ⟨C, H, I.os, I.bare, ⟨?_, ?_, ?_, ?_, I.base.tups, I.base.frzs, I.base.tbls⟩, ?_, ⟨ea, a0, B, rfl, fw, ?_⟩, hE⟩
 ·exact fun b o e n1 n2 _ => kept b o (I.base.keep b o e n1 n2 (nex b)) (nost b o e n2) (.inr ⟨o, e⟩)
 ·intro b o e n1 n2 _
  obtain ⟨sl1, e1⟩ := I.base.slot b o e n1 n2 (nex b)
  obtain ⟨sl2, e2⟩ := sl b (hsub b n2) _ e1
  exact ⟨sl2, e2⟩
 ·exact fun b o e n1 _ => I.base.free b o e n1 (nex b)
 ·intro b o e _
  obtain ⟨o1, e1⟩ := I.base.there b o e (nex b)
  by_cases hb : b ∈ frs X.stack
  ·obtain ⟨sl2, e2⟩ := sl b hb _ e1
   exact ⟨_, e2⟩
  ·exact ⟨o1, kept b o1 e1 hb (.inr ⟨o, e⟩)⟩
 ·intro a o e
  exact (I.hok a o e).stay (fun b u hb q => by
   have hb' : ∃ v, H b = some v := by
    rcases hb with rfl | hb
    ·exact ⟨o, e⟩
    ·exact ⟨_, hb⟩
   obtain ⟨v, hv⟩ := hb'
   exact kept b u q (trk b v hv) (.inl (by rw [hv]; simp))) (fun b hb => hb) (fun b xs hb => hb)
 ·intro b o e n q
  rcases q with q | ⟨o0, q⟩
  ·obtain ⟨v, hv⟩ := Option.ne_none_iff_exists'.mp q
   obtain ⟨o1, e1⟩ := (I.hok b v hv).get
   have z := inB b o1 e1 (trk b v hv) (.inl (by rw [hv]; simp))
   have z' := fw.1 b o1 z
   have : o = o1 := by
    have e' : h''.get? b = some o := e
    rw [z'] at e'; exact (Option.some.inj e').symm
   subst this
   exact z
  ·obtain ⟨o1, e1⟩ := I.base.there b o0 q (nex b)
   have z := inB b o1 e1 (nost b o0 q n) (.inr ⟨o0, q⟩)
   have z' := fw.1 b o1 z
   have : o = o1 := by
    have e' : h''.get? b = some o := e
    rw [z'] at e'; exact (Option.some.inj e').symm
   subst this
   exact z
theorem leave_flying {h0 : Heap} {C : Addr} {Ex : Value -> Shared -> Prop} (I : Inv X pins σ H s) (fl : Flies H h0 X.stack e C s.heap) (h0k : ∀ b o, X.s₀.heap.get? b = some o -> ∃ o', h0.get? b = some o') (hst : X.stack = X.env :: X.outer) (hex : X.ex = [])
  (hf : X.env.frame = some X.env.locals) (hE : E (.ref C) none H) : wpAny (model X.prog X.w) X.A (leaving X.env e) (fun _ s'' => CXE X.prog X.w X.outer X.H₀ X.s₀ E e s'') Ex s := by
 obtain ⟨ea, a0, B, rfl, fw, hB⟩ := fl
 have fw0 := fw
 rw [hst] at fw
 refine wpAny_leaves_onW (by rw [I.ok.frames, hst]) hf fw fun h'' fw' us => ?_
 refine cx_of I hst hex hf (fun b o e n q => hB b o e n (q.imp id fun ⟨o0, q⟩ => h0k b o0 q)) (fun b hb o e => ?_) fw' hE
 obtain ⟨o1, e1, nf⟩ := frame_ok I hb
 rw [e] at e1; cases e1
 exact us b o e nf
theorem leave_made {h' : Heap} {ea C : Addr} {vs : List Value} {Ex : Value -> Shared -> Prop} (I : Inv X pins σ H s) (hx : Heap.MadeExcOf s.heap h' ea (.ref C) vs) (hst : X.stack = X.env :: X.outer) (hex : X.ex = [])
  (hf : X.env.frame = some X.env.locals) (hE : E (.ref C) none H) : wpAny (model X.prog X.w) X.A (leaving X.env (.ref ea)) (fun _ s'' => CXE X.prog X.w X.outer X.H₀ X.s₀ E (.ref ea) s'') Ex { s with heap := h' } := by
 have hfn := I.stack
 rw [hst] at hfn
 have hin : ∀ env ∈ (X.env :: X.outer), ∀ b, env.frame = some b -> b ∈ frs X.stack := fun env he b hb => by rw [hst]; exact List.mem_filterMap.mpr ⟨env, he, hb⟩
 refine wpAny_leaves_madeW (s := { s with heap := h' }) (base := PySem.W.hideAll s.heap (frs X.stack)) (h := s.heap) (by rw [I.ok.frames, hst]) hf (fun b o q => PySem.W.of_hideAll _ q) (PySem.W.funFrames_hide hfn hin) hx fun h'' t fw _ _ us => ?_
 refine (show CXE X.prog X.w X.outer X.H₀ X.s₀ E (.ref ea) { s with heap := h'' } from cx_of I hst hex hf (fun b o e n _ => PySem.W.hideAll_get _ e n) (fun b hb o e => ?_) fw hE)
 obtain ⟨o1, e1, nf⟩ := frame_ok I hb
 rw [e] at e1; cases e1
 exact us b o (hx.keeps b o e) nf
theorem un_slots {l : List Env} {H H' : Hp} {h0 h h1 B : Heap} {Pg : Program} {w : World} (u : Un (frs l) [] H H' h0 h) (ok : HOk Pg w H' h)
  (hB : ∀ b o, h.get? b = some o -> b ∉ frs l -> (H' b ≠ none \/ ∃ o0, h0.get? b = some o0) -> B.get? b = some o) (st : B.StaysIn h1) (us : h.UpToSlots h1)
  (hfr : ∀ b ∈ frs l, H' b = none /\ ∃ o, h.get? b = some o /\ ∀ vs, o.data ≠ .fields vs) : Un (frs l) [] H H' h0 h1 /\ HOk Pg w H' h1 /\ ∀ b o, h1.get? b = some o -> b ∉ frs l -> (H' b ≠ none \/ ∃ o0, h0.get? b = some o0) -> B.get? b = some o := by
 have trk : ∀ b u, H' b = some u -> b ∉ frs l := fun b u e z => by rw [(hfr b z).1] at e; cases e
 have kept : ∀ b o, h.get? b = some o -> b ∉ frs l -> (H' b ≠ none \/ ∃ o0, h0.get? b = some o0) -> h1.get? b = some o := fun b o e n q => st b o (hB b o e n q)
 have fsl : ∀ b ∈ frs l, ∀ o, h.get? b = some o -> ∃ sl, h1.get? b = some { o with slots := sl } := fun b hb o e => by
  obtain ⟨_, o1, e1, nf⟩ := hfr b hb
  rw [e] at e1; cases e1
  exact us b o e nf
 refine ⟨⟨?_, ?_, u.free, ?_, u.tups, u.frzs, u.tbls⟩, ?_, ?_⟩
 ·exact fun b o e n1 n2 n3 => kept b o (u.keep b o e n1 n2 n3) n2 (.inr ⟨o, e⟩)
 ·intro b o e n1 n2 n3
  obtain ⟨sl1, e1⟩ := u.slot b o e n1 n2 n3
  obtain ⟨sl2, e2⟩ := fsl b n2 _ e1
  exact ⟨sl2, e2⟩
 ·intro b o e n
  obtain ⟨o1, e1⟩ := u.there b o e n
  by_cases hb : b ∈ frs l
  ·obtain ⟨sl2, e2⟩ := fsl b hb _ e1
   exact ⟨_, e2⟩
  ·exact ⟨o1, kept b o1 e1 hb (.inr ⟨o, e⟩)⟩
 ·intro a o e
  exact (ok a o e).stay (fun b u hb q => by
   have hb' : ∃ v, H' b = some v := by
    rcases hb with rfl | hb
    ·exact ⟨o, e⟩
    ·exact ⟨_, hb⟩
   obtain ⟨v, hv⟩ := hb'
   exact kept b u q (trk b v hv) (.inl (by rw [hv]; simp))) (fun b hb => hb) (fun b xs hb => hb)
 ·intro b o e n q
  have : ∃ o1, h.get? b = some o1 := by
   rcases q with q | ⟨o0, q⟩
   ·obtain ⟨v, hv⟩ := Option.ne_none_iff_exists'.mp q
    exact (ok b v hv).get
   ·exact u.there b o0 q (by simp)
  obtain ⟨o1, e1⟩ := this
  have z := hB b o1 e1 n q
  rw [st b o1 z] at e
  cases e
  exact z
noncomputable def RaiseOk (X : Cx) (Ξ : XK) : Prop := ∀ (pins : List (Addr × Obj)) (σ : St) (H : Hp) (s : Shared) (h' : Heap) (ea C : Addr) (vs : List Value), Inv X pins σ H s -> Heap.MadeExcOf s.heap h' ea (.ref C) vs -> Ξ (.ref C) none H -> X.xe (.ref ea) { s with heap := h' }
noncomputable def tRaise (C : Addr) (Ξ : XK) (t : TA) : TS := fun _ σ H => t σ H fun vs H1 => vs.length <= sizeLine /\ Ξ (.ref C) none H1
theorem ps_raise {x : Str} {C : Addr} {B newId initId : String} {bm : List Value} {np cpos pos : Pos} {e₀ : Expr} {rest : List Expr} {t : TA} {Ξ : XK} (hc : X.calm = true) (O : OwnCls x C bm newId X.mg X.base) (FB : ExcBaseFacts B newId initId bm) (hg : Gl X x)
  (ha : PA X (e₀ :: rest) t) (hr : RaiseOk X Ξ) (he : starEach (e₀ :: rest) X.env = (false, eval e₀ X.env) :: starEach rest X.env) (hplain : (backTo cpos (starEach rest X.env)).any (·.1) = false) (hd : (x == ("__debug__" : Str)) = false) :
  PS X (.Raise (some (.Call (.Name x np) (e₀ :: rest) [] cpos)) none pos) (tRaise C Ξ t) := by
 intro pins s σ H D I h
 obtain ⟨tl, N, nm, q, bs, hdct, sn, sub, ab, col, dd, k0, k1, k2, k3, k5, mN, hC, hN, hni, T⟩ := O.obj
 refine wpAny_Raise_call_subT (C := C) (nm := nm) (q := q) (N := N) (bs := bs) (bm := tl) (hdct := hdct) (sn := sn) (sub := sub) (ab := ab) (col := col) (dd := dd) (k0 := k0) (k1 := k1) (k2 := k2) (k3 := k3) (k5 := k5)
  FB (mN := mN) (T.hasType FB.hasBase) (I.ok.hd hc) (by rw [he]; show (false || (backTo cpos (starEach rest X.env)).any (·.1)) = false; rw [hplain]; rfl) hni (ld_glob I hg O.bound ⟨rfl, ?_⟩ hd)
 have h' := ha cpos pins s σ H _ I h
 rw [he] at h' ⊢
 refine Calls.evalArgs_plain (wpAny_mono h' (fun vs s₂ h₂ => ?_) fun _ _ y => y)
 obtain ⟨ws, H1, I1, rv, hz, hE⟩ := h₂
 exact ⟨rfl, by rw [<- rv.length]; exact hz, I1.bk _ _ hC, hN.keeps I1.bk, T.keeps I1.bk, fun h2 ea hm => hr pins σ H1 s₂ h2 ea C vs I1 hm hE⟩
noncomputable def tryCx (X : Cx) (pins : List (Addr × Obj)) (xe : Value -> Shared -> Prop) : Cx := { X with pn := X.pn ++ pins, xe := xe }
noncomputable def markCx (X : Cx) (ea : Addr) : Cx := { X with A := X.A.mark (some (.ref ea)), calm := false, xe := fun _ _ => False }
theorem Inv.toTry {xe : Value -> Shared -> Prop} (I : Inv X pins σ H s) : Inv (tryCx X pins xe) [] σ H s :=
 ⟨⟨I.ok.mod, I.ok.kind, I.ok.glob, I.ok.blt, I.ok.above, I.ok.inj, I.ok.has, I.ok.cab, I.ok.hd, I.ok.frames, I.ok.stk, I.ok.exf, I.ok.bs, I.ok.bsz, I.ok.noex, I.ok.exfs, I.ok.funs, I.ok.frf⟩, I.os, I.bare, I.base, I.loc, I.cell, I.free, I.freeC,
  fun p hp => I.pin p (by simpa [tryCx] using hp), I.hok, I.len⟩
theorem Inv.ofTry {xe : Value -> Shared -> Prop} {pins' : List (Addr × Obj)} (I : Inv (tryCx X pins xe) pins' σ H s) : Inv X pins σ H s :=
 ⟨⟨I.ok.mod, I.ok.kind, I.ok.glob, I.ok.blt, I.ok.above, I.ok.inj, I.ok.has, I.ok.cab, I.ok.hd, I.ok.frames, I.ok.stk, I.ok.exf, I.ok.bs, I.ok.bsz, I.ok.noex, I.ok.exfs, I.ok.funs, I.ok.frf⟩, I.os, I.bare, I.base, I.loc, I.cell, I.free, I.freeC,
  fun p hp => I.pin p (List.mem_append_left _ hp), I.hok, I.len⟩
theorem Inv.toMark {ea : Addr} (I : Inv X pins σ H s) : Inv (markCx X ea) pins σ H s :=
 ⟨⟨I.ok.mod, I.ok.kind, I.ok.glob, I.ok.blt, I.ok.above, I.ok.inj, I.ok.has, I.ok.cab, fun z => (by cases z), I.ok.frames, I.ok.stk, I.ok.exf, I.ok.bs, I.ok.bsz, I.ok.noex, I.ok.exfs, I.ok.funs, I.ok.frf⟩, I.os, I.bare, I.base, I.loc, I.cell, I.free, I.freeC, I.pin, I.hok, I.len⟩
theorem Inv.ofMark {ea : Addr} (J : X.Ok) (I : Inv (markCx X ea) pins σ H s) : Inv X pins σ H s :=
 ⟨J, I.os, I.bare, I.base, I.loc, I.cell, I.free, I.freeC, I.pin, I.hok, I.len⟩
theorem SP.ofTry {xe : Value -> Shared -> Prop} {D : Ends} {f : Flow} (h : SP (tryCx X pins xe) [] D f s) : SP X pins D f s := by
 cases f with
 | next => obtain ⟨a, b, I, q⟩ := h; exact ⟨a, b, I.ofTry, q⟩
 | brk => obtain ⟨a, b, I, q⟩ := h; exact ⟨a, b, I.ofTry, q⟩
 | cont => obtain ⟨a, b, I, q⟩ := h; exact ⟨a, b, I.ofTry, q⟩
 | ret u => obtain ⟨v, a, b, I, r, q⟩ := h; exact ⟨v, a, b, I.ofTry, r, q⟩
theorem SP.ofMark {ea : Addr} {D : Ends} {f : Flow} (J : X.Ok) (h : SP (markCx X ea) pins D f s) : SP X pins D f s := by
 cases f with
 | next => obtain ⟨a, b, I, q⟩ := h; exact ⟨a, b, I.ofMark J, q⟩
 | brk => obtain ⟨a, b, I, q⟩ := h; exact ⟨a, b, I.ofMark J, q⟩
 | cont => obtain ⟨a, b, I, q⟩ := h; exact ⟨a, b, I.ofMark J, q⟩
 | ret u => obtain ⟨v, a, b, I, r, q⟩ := h; exact ⟨v, a, b, I.ofMark J, r, q⟩
noncomputable def Takes (X : Cx) (D : Ends) (C : Addr) (H : Hp) : List ExceptHandler -> Prop
 | .ExceptHandler (some (.Name x _)) none (b₀ :: suite) _ :: rest => Gl X x /\ (x == ("__debug__" : Str)) = false /\ ∃ C' b, X.mg x = some (.ref C') /\ PySem.W.exmOne X.K (.ref C) (.ref C') = some b /\
   (if b = true then ∃ t : TS, (∀ ea, PSs (markCx X ea) (b₀ :: suite) t) /\ t D (List.replicate X.N.length none) H else Takes X D C H rest)
 | _ => False
end
end L2

namespace L2
open PySem PySem.Spec PyProof.Rows
section
variable {X : Cx} {pins : List (Addr × Obj)} {σ : St} {H H' : Hp} {s s' : Shared} {e : Value} {D : Ends}
noncomputable def tryXe (X : Cx) (pins : List (Addr × Obj)) (D : Ends) (hs : List ExceptHandler) : Value -> Shared -> Prop := fun e s₁ =>
 wpAny (model X.prog X.w) X.A (noteFrame e X.env) (fun _ s₂ => wpAny (model X.prog X.w) X.A (setFlight e none) (fun _ s₃ => wpAny (model X.prog X.w) X.A (handleBy e X.env hs) (SP X pins D) X.xe s₃) X.xe s₂) X.xe s₁
structure Lies (X : Cx) (H H' : Hp) (s : Shared) (B : Heap) (ea C : Addr) (a0 : Value) (s' : Shared) : Prop where
 os : s'.os = s.os
 bare : AllBare s'.gens
 un : Un (frs X.stack) [] H H' s.heap s'.heap
 hok : HOk X.prog X.w H' s'.heap
 inB : ∀ b o, s'.heap.get? b = some o -> b ∉ frs X.stack -> (H' b ≠ none \/ ∃ o0, s.heap.get? b = some o0) -> B.get? b = some o
theorem Lies.inv {B : Heap} {ea C : Addr} {a0 : Value} (I : Inv X pins σ H s) (l : Lies X H H' s B ea C a0 s') : Inv X pins σ H' s' := I.call' (ch := []) l.os l.un l.hok l.bare (by simp)
theorem Lies.step {B h1 : Heap} {ea C : Addr} {a0 : Value} (I : Inv X pins σ H s) (l : Lies X H H' s B ea C a0 s') (st : B.StaysIn h1) (us : s'.heap.UpToSlots h1) : Lies X H H' s B ea C a0 { s' with heap := h1 } := by
 have J := l.inv I
 obtain ⟨u, ok, ib⟩ := un_slots l.un l.hok l.inB st us fun b hb => ⟨J.stkFree b hb, frame_ok J hb⟩
 exact ⟨l.os, l.bare, u, ok, ib⟩
theorem handle_ok {B : Heap} {ea C : Addr} {a0 : Value} : ∀ (hs : List ExceptHandler) (s' : Shared), Inv X pins σ H s -> Lies X H H' s B ea C a0 s' -> Heap.FlyingW B X.stack ea (.ref C) a0 s'.heap -> Takes X D C H' hs ->
  wpAny (model X.prog X.w) X.A (handleBy (.ref ea) X.env hs) (SP X pins D) X.xe s'
 | [], _, _, _, _, t => t.elim
 | .ExceptHandler none _ _ _ :: _, _, _, _, _, t => t.elim
 | .ExceptHandler (some e) nm bd pos :: rest, s', I, l, fw, t => by
  cases e
  case Name x np =>
   cases nm with
   | some y => exact t.elim
   | none =>
    cases bd with
    | nil => exact t.elim
    | cons b₀ suite =>
     obtain ⟨hg, hdb, C', b, hm, hx, q⟩ := t
     have J := l.inv I
     have JM : Inv (markCx X ea) pins σ H' s' := J.toMark
     have LT : PySem.W.Looks (model X.prog X.w) s'.heap (typeOf (.ref ea)) (.ref C) := fun A Q E s2 k q => by
      obtain ⟨ob, ho, hc⟩ := fw.there
      exact wpAny_typeOf_ref (k _ _ ho) (by rw [hc]; exact q)
     refine wpAny_handleBy_cons (codeAny_handlers_test ?_) (by intro z; cases z)
     refine ld_glob (X := markCx X ea) JM hg hm ?_ hdb
     refine (PySem.W.exm_one (M := model X.prog X.w) J.kIn LT hx).here ?_
     cases b with
     | false =>
      simp only [Bool.false_eq_true, if_false] at q
      exact handle_ok rest s' I l fw q
     | true =>
      simp only [if_true] at q
      obtain ⟨t, ht, hq⟩ := q
      refine codeAny_handlers_suite ?_
      refine wpAny_setFlight_noneW fw.1 fw.2.2.1 fw.2.2.2.at fun h2 k1 k2 k3 k4 => ?_
      have l2 := l.step I k1 (fun b o hb hn => ⟨o.slots, k4 b o hb hn⟩)
      have J2 := l2.inv I
      have J3 : Inv (markCx X ea) pins (List.replicate X.N.length none) H' { s' with heap := h2 } := (J2.weak (by rw [List.length_replicate, J2.len]) fun i v z => by
       rw [List.getElem?_replicate] at z; split at z <;> cases z).toMark
      refine wpAny_mono (ht ea pins _ _ H' D J3 hq) (fun f s2 hf => hf.ofMark I.ok) fun _ _ z => z.elim
  all_goals exact t.elim
theorem pass_try {hs : List ExceptHandler} {Ξ : XK} (hst : X.stack = X.env :: X.outer) (hf : X.env.frame = some X.env.locals) (hT : ∀ C H', Ξ (.ref C) none H' -> Takes X D C H' hs) :
  Passes (CXE X.prog X.w) (tryCx X pins (tryXe X pins D hs)) Ξ := by
 intro pins' σ H s e s' I0 h
 have I : Inv X pins σ H s := I0.ofTry
 obtain ⟨C, H', ho, hb, hu, hok, ⟨ea, a0, B, rfl, fw, hB⟩, hE⟩ := h
 have l : Lies X H H' s B ea C a0 s' := ⟨ho, hb, hu, hok, hB⟩
 have fw : Heap.FlyingW B X.stack ea (.ref C) a0 s'.heap := fw
 show tryXe X pins D hs (.ref ea) s'
 unfold tryXe
 have fw' := fw
 rw [hst] at fw'
 refine wpAny_looks_onW (by rw [I.ok.frames, hst]) hf fw' fun h1 held us => ?_
 have l1 := l.step I held.1 us
 refine wpAny_landsW held fun h2 fl us2 => ?_
 have l2 := l1.step I fl.1 us2
 rw [<- hst] at fl
 exact handle_ok hs _ I l2 fl (hT C H' hE)
theorem ps_try {hs : List ExceptHandler} {h₀ : ExceptHandler} {body : List Stmt} {pos : Pos} {t : Ends -> TS} {Ξ : Ends -> XK} (hst : X.stack = X.env :: X.outer) (hf : X.env.frame = some X.env.locals)
  (hb : ∀ pins D, (∀ C H', Ξ D (.ref C) none H' -> Takes X D C H' (h₀ :: hs)) -> PSs (tryCx X pins (tryXe X pins D (h₀ :: hs))) body (t D)) :
  PS X (.Try body (h₀ :: hs) [] [] pos) (fun D σ H => (∀ C H', Ξ D (.ref C) none H' -> Takes X D C H' (h₀ :: hs)) /\ t D D σ H) := by
 intro pins s σ H D I ⟨hT, h⟩
 refine wpAny_Try_except (wpAny_mono (hb pins D hT [] s σ H D I.toTry h) (fun f s1 q => ?_) fun e s1 q => q)
 have q := q.ofTry
 cases f with
 | next =>
  obtain ⟨σ', H', I', q⟩ := q
  exact thn (wpAny_execs_nil ⟨σ', H', I', q⟩) fun _ _ z => z
 | brk => exact q
 | cont => exact q
 | ret u => exact q
end
end L2

namespace L2
open PySem PySem.Spec PyProof.Rows
noncomputable def Ite (K : PySem.W.Frag) (a : Addr) : It :=
 ⟨fun i H => ∃ xs x, SqL K H a xs /\ xs[i]? = some x, fun i H v H' => ∃ p x, H p = none /\ v = .ref p /\ (∀ xs, SqL K H a xs -> xs[i]? = some x) /\ H' = upd H p (.tup [.int i, x]), fun i H => ∃ xs, SqL K H a xs /\ xs.length <= i⟩
theorem turn_enum {P : Program} {w : World} {K : PySem.W.Frag} {elts : List Expr} {x1 : Nat} {tp : Pos} (a e it : Addr) (hei : e ≠ it) : Turn P w K (.Tuple elts x1 tp) (Ite K a) [e, it] e (fun i h => (∃ old, IsEnum h e it i old) /\ h.IsListIter it a i) where
 mem := by simp
 obj := fun i h st b hb => by
  obtain ⟨⟨old, h1⟩, o, h2, c, d⟩ := st
  rcases List.mem_cons.mp hb with z | z
  ·subst z; exact ⟨_, h1, fun v z => by
    have z' : Data.fields _ = Data.cell v := z
    cases z'⟩
  ·have z : b = it := by simpa using z
   subst z; exact ⟨o, h2, fun v z => by rw [d] at z; cases z⟩
 keep := fun i h h' st k => by
  obtain ⟨⟨old, h1⟩, h2⟩ := st
  exact ⟨⟨old, k e (by simp) _ h1⟩, h2.at fun o x => k it (by simp) o x⟩
 item := by
  intro X hP hw hK hc i pins s σ H E I hf st hg
  subst hP hw hK
  obtain ⟨⟨old, h1⟩, h2⟩ := st
  obtain ⟨xs, x, hq, hx⟩ := hg
  obtain ⟨its, rv, p, hz⟩ := I.list hq
  obtain ⟨u, hu, ru⟩ := rv.get hx
  obtain ⟨e0, e1, e2, e3, e4, e5⟩ := hf e (by simp)
  obtain ⟨f0, f1, f2, f3, f4, f5⟩ := hf it (by simp)
  refine wpAny_pyNext_enum_item h1 h2 p.isList (x := u) (by simpa using hu) hei fun h' heo hit' ht' hz' hk' => ?_
  refine ⟨_, rfl, wpAny_letOwnedTupleGo_enum heo fun h2' he2 hs2 => ?_⟩
  have hs2 : Heap.SameBut e h' h2' := hs2
  have elt : e < s.heap.objs.size := Heap.lt_size h1
  have kp : ∀ b o, b ≠ e -> b ≠ it -> s.heap.get? b = some o -> h2'.get? b = some o := fun b o b1 b2 q => (hs2.2 b b1).trans (hk' b o b1 b2 q)
  have hn : H s.heap.objs.size = none := I.hok.fresh (Nat.le_refl _)
  have tup2 : h2'.get? s.heap.objs.size = some { cls := .type "tuple", data := .seq #[.int i s.toks, u] } := (hs2.2 _ (Nat.ne_of_gt elt)).trans ht'
  have ne : ∀ b u', H b = some u' -> b ≠ e /\ b ≠ it := fun b u' q => And.intro (fun (z : b = e) => by rw [z, e0] at q; cases q) (fun (z : b = it) => by rw [z, f0] at q; cases q)
  have hok : HOk X.prog X.w (upd H s.heap.objs.size (.tup [.int i, x])) h2' := fun b o q => by
   by_cases hb : b = s.heap.objs.size
   ·subst hb
    rw [upd_same] at q; cases q
    exact ⟨by show 2 <= sizeLine; decide, [.int i s.toks, u], .cons ⟨_, rfl⟩ (.cons ru .nil), _, tup2, rfl, ⟨_, rfl⟩, rfl⟩
   ·rw [upd_ne hb] at q
    refine (I.hok b o q).stay (fun c v hc q' => ?_) (fun c q' => by rw [upd_ne (ne_of_none q' hn)]; exact q') fun c ys q' => by rw [upd_ne (ne_of_none q' hn)]; exact q'
    rcases hc with z | z
    ·subst z; exact kp _ _ (ne _ _ q).1 (ne _ _ q).2 q'
    ·exact kp _ _ (ne _ _ z).1 (ne _ _ z).2 q'
  have I2 : Inv X pins σ (upd H s.heap.objs.size (.tup [.int i, x])) { s with heap := h2', toks := s.toks + 1 } := by
   refine I.step (g' := s.gens) (d' := s.drawn) (t' := s.toks + 1) (ch := [e, it]) (fun b hb => ?_) (fun b o _ _ hb q _ => kp b o (fun z => hb (by simp [z])) (fun z => hb (by simp [z])) q) (fun b o _ _ hb q _ => ⟨o.slots, kp b o (fun z => hb (by simp [z])) (fun z => hb (by simp [z])) q⟩)
    (fun b o _ q n => by rw [upd_ne (Nat.ne_of_lt (Heap.lt_size q))]; exact n) (fun b o hb q => ⟨o, kp b o (fun z => hb (by simp [z])) (fun z => hb (by simp [z])) q⟩)
    (fun b ys q => by rw [upd_ne (ne_of_none q hn)]; exact q) (fun b o' ys q => by rw [upd_ne (ne_of_none q hn)]; exact q) (fun b ps q => ⟨#[], by rw [upd_ne (ne_of_none q hn), q]; simp⟩) (fun m hm => ?_) hok I.bare
   ·rcases List.mem_cons.mp hb with z | z
    ·subst z; exact ⟨e3, e1, e4, e5⟩
    ·have z : b = it := by simpa using z
     subst z; exact ⟨f3, f1, f4, f5⟩
   ·obtain ⟨o, es, ep, ho, r⟩ := hm
    exact ⟨o, es, ep, kp _ o (Ne.symm e1) (Ne.symm f1) ho, r⟩
  refine ⟨.ref s.heap.objs.size, _, I2, rfl, ⟨s.heap.objs.size, x, hn, rfl, fun ys hy => by rw [I.list_inj hy hq]; exact hx, rfl⟩, ⟨⟨u, by simpa using he2⟩, hit'.at fun o y => (hs2.2 it hei.symm).trans y⟩, fun b hb => ?_⟩
  have hb' : b < s.heap.objs.size := by
   rcases List.mem_cons.mp hb with z | z
   ·subst z; exact elt
   ·have z : b = it := by simpa using z
    subst z; obtain ⟨o, h2, _⟩ := h2; exact Heap.lt_size h2
  rw [upd_ne (Nat.ne_of_lt hb')]
  exact (hf b hb).1
 done := by
  intro X hP hw hK hc i pins s σ H E I hf st hg
  subst hP hw hK
  obtain ⟨⟨old, h1⟩, h2⟩ := st
  obtain ⟨xs, hq, hx⟩ := hg
  obtain ⟨its, rv, p, hz⟩ := I.list hq
  obtain ⟨f0, f1, f2, f3, f4, f5⟩ := hf it (by simp)
  have hl := rv.length
  exact wpAny_pyNext_enum_end (I.ok.hd hc) h1 h2 p.isList (by simp; omega) fun h' eb => ⟨rfl, I.turned (t' := s.toks) (fun b o hb e => eb b o hb e) f0 f1 f3 f4 f5⟩
 self := fun _ _ _ _ _ st h => by
  obtain ⟨⟨old, h1⟩, h2⟩ := st
  exact wpAny_pyIter_enum h1 h
section
variable {X : Cx}
theorem pi_enum {l : Expr} {ta : TA} {p pos tp : Pos} {elts : List Expr} {x1 : Nat} (hg : Gl X "enumerate") (hm : X.mg "enumerate" = none) (ha : PA X [l] ta) (hs : starEach [l] X.env = [(false, eval l X.env)]) :
  PI X (.Tuple elts x1 tp) (.Call (.Name "enumerate" p) [l] [] pos) (fun σ H R => ta σ H fun vs H1 => ∃ a, vs = [.ref a] /\ (∃ xs, SqL X.K H1 a xs) /\ R (Ite X.K a) H1) := by
 intro pins s σ H R I h
 refine Call_ (ld_blt I hg hm PyProof.Rows.boot_enumerate (PyProof.Rows.callWith_type1 (thn (ha pos pins s σ H _ I h) fun us s1 ⟨vs, H1, I1, r1, q1⟩ => ?_) hs rfl))
 obtain ⟨a, e, ⟨xs, hq⟩, q⟩ := q1
 subst e
 cases r1 with
 | cons r rr =>
  cases rr
  cases r
  obtain ⟨its, rv, p, hz⟩ := I1.list hq
  refine call_enumerate_list p.isList fun h' he hit hsz hk => wpAny_pyIter_enum he ?_
  refine ⟨s1.heap.objs.size + 1, [s1.heap.objs.size + 1, s1.heap.objs.size], _, _, H1, rfl, I1.kept (t' := s1.toks) hk, turn_enum a _ _ (by simp), ⟨⟨_, he⟩, hit⟩, fun b hb => ?_, q⟩
  have hb' : s1.heap.objs.size <= b := by
   rcases List.mem_cons.mp hb with z | z
   ·rw [z]; exact Nat.le_succ _
   ·have z : b = s1.heap.objs.size := by simpa using z
    rw [z]; exact Nat.le_refl _
  exact I1.fpOk hb' (I1.hok.fresh hb')
theorem pe_fv {e : Expr} {t : TE} {pos : Pos} (he : PE X e t) : PE X (.FormattedValue e (-1) none pos) (fun σ H Q => t σ H fun x H1 => (∃ i, x = .int i /\ i.natAbs.log2 < 1920 /\ Q (.str (toString i)) H1) \/ ∃ y, x = .str y /\ y.length <= sizeLine /\ Q (.str y) H1) := by
 intro pins s σ H Q I h
 refine wpAny_FormattedValue_plain (thn (he pins s σ H _ I h) fun v s1 ⟨x, H1, I1, r1, q1⟩ => ?_)
 rcases q1 with ⟨i, rfl, hd, q⟩ | ⟨y, rfl, hy, q⟩
 ·obtain ⟨t, rfl⟩ := r1
  exact wpAny_formatField_int hd ⟨.str _, H1, I1.tok _, ⟨_, rfl⟩, q⟩
 ·obtain ⟨t, rfl⟩ := r1
  exact wpAny_formatField_str ⟨.str _, H1, I1, ⟨_, rfl⟩, q⟩ ⟨.str _, H1, I1.tok _, ⟨_, rfl⟩, q⟩ hy
inductive PJs (X : Cx) : List Expr -> List TE -> Prop
 | nil : PJs X [] []
 | cons {e : Expr} {t : TE} {es : List Expr} {ts : List TE} (h : PE X e t) (r : PJs X es ts) : PJs X (e :: es) (t :: ts)
noncomputable def tJoin : List TE -> St -> Hp -> Str -> (Str -> Hp -> Prop) -> Prop
 | [], _, H, acc, Q => Q acc H
 | t :: ts, σ, H, acc, Q => t σ H fun x H1 => ∃ y, x = .str y /\ (acc ++ y).length <= sizeLine /\ tJoin ts σ H1 (acc ++ y) Q
theorem joins_of {pins : List (Addr × Obj)} {σ : St} {Q : Str -> Hp -> Prop} : ∀ {es : List Expr} {ts : List TE}, PJs X es ts -> ∀ {s : Shared} {H : Hp} {acc : Str}, Inv X pins σ H s -> tJoin ts σ H acc Q ->
  Joins (model X.prog X.w) X.A X.xe (evalEach es X.env) acc (fun out s1 => ∃ H1, Inv X pins σ H1 s1 /\ Q out H1) s
 | _, _, .nil, s, H, acc, I, h => ⟨H, I, h⟩
 | _, _, .cons he r, s, H, acc, I, h => by
  rw [arm_evalEach_cons]
  refine thn (he pins s σ H _ I h) fun v s1 ⟨x, H1, I1, r1, y, ey, hy, q1⟩ => ?_
  subst ey
  obtain ⟨t, rfl⟩ := r1
  exact ⟨y, t, rfl, hy, joins_of r I1 q1⟩
theorem Joins_mono {M : Model} {A : Around} {E : Value -> Shared -> Prop} {Q Q' : Str -> Shared -> Prop} (hq : ∀ x s, Q x s -> Q' x s) : ∀ {l : List (Sem Value)} {acc : Str} {s : Shared}, Joins M A E l acc Q s -> Joins M A E l acc Q' s
 | [], acc, s, h => hq _ _ h
 | x :: r, acc, s, h => thn h fun v s1 ⟨y, t, e, hz, h1⟩ => ⟨y, t, e, hz, Joins_mono hq h1⟩
theorem pe_join {v₁ v₂ : Expr} {rest : List Expr} {ts : List TE} {pos : Pos} (h : PJs X (v₁ :: v₂ :: rest) ts) : PE X (.JoinedStr (v₁ :: v₂ :: rest) pos) (fun σ H Q => tJoin ts σ H Str.empty fun out H1 => out.length <= sizeLine /\ Q (.str out) H1) := by
 intro pins s σ H Q I hw
 refine wpAny_JoinedStr (Joins_mono (fun x s1 ⟨H1, I1, hl, q⟩ => ⟨hl, .str x, H1, I1.tok _, ⟨_, rfl⟩, q⟩) (joins_of h I hw))
theorem items_ints {lo : Int} {acc : Array Value} {n : Nat} (h : ItemsOf (fun i v => ∃ t, v = .int (lo + i * 1) t) acc n) : Vals ((List.range n).map fun (k : Nat) => V.int (lo + k)) acc.toList := by
 have hl : acc.toList.length = n := by
  have := h.1
  simpa using this
 have go : ∀ (m : Nat) (l : List Value), l.length <= n -> m + l.length = n -> (∀ i v, l[i]? = some v -> ∃ t, v = Value.int (lo + ((m + i : Nat) : Int)) t) -> Vals ((List.range' m l.length).map fun (k : Nat) => V.int (lo + k)) l := by
  intro m l
  induction l generalizing m with
  | nil => intro _ _ _; exact .nil
  | cons x r ih =>
   intro h1 h2 h3
   simp only [List.length_cons, List.range'_succ, List.map_cons]
   refine .cons ?_ (ih (m + 1) (by simp at h1; omega) (by simp at h2; omega) fun i v hv => ?_)
   ·obtain ⟨t, e⟩ := h3 0 x rfl
    exact ⟨t, by rw [e]; simp⟩
   ·obtain ⟨t, e⟩ := h3 (i + 1) v (by simpa using hv)
    exact ⟨t, by rw [e, show m + (i + 1) = m + 1 + i by omega]⟩
 have := go 0 acc.toList (by omega) (by omega) fun i v hv => ?_
 ·rw [hl, <- List.range_eq_range'] at this
  exact this
 ·have hi : i < n := by
   have := (List.getElem?_eq_some_iff.mp hv).1
   omega
  have : acc[i]? = some v := by rw [<- Array.getElem?_toList]; exact hv
  obtain ⟨t, e⟩ := h.2 i v this
  refine ⟨t, ?_⟩
  rw [e]
  simp
theorem call_list_rng (hc : X.calm = true) : CallR X (.type "list") (fun xs H Q => ∃ a lo hi, xs = [.ref a] /\ H a = some (.rng lo hi) /\ (-(2 ^ 62) <= lo /\ lo < 2 ^ 62 /\ -(2 ^ 62) <= hi /\ hi < 2 ^ 62 /\ hi - lo <= 100000) /\ ∀ p, H p = none -> Q (.ref p) (upd H p (.lst ((List.range (hi - lo).toNat).map fun (k : Nat) => V.int (lo + k))))) := by
 intro pins s σ H xs us Q I r h
 obtain ⟨a, lo, hi, rfl, ha, ⟨h1, h2, h3, h4, h5⟩, q⟩ := h
 obtain ⟨t, u, v, ho⟩ := I.hok a _ ha
 cases r with
 | cons r rr =>
 cases rr
 cases r
 have hn : Builtin.Range.rangeSize lo hi 1 = ((hi - lo).toNat : Nat) := by rw [rangeSize_one]; split <;> omega
 refine call_list_range (n := (hi - lo).toNat) (I.ok.hd hc) ho (small_one h1 h2 h3 h4) hn (by omega) fun h' tk' acc c hk hS hi' => ?_
 have hp : H s.heap.objs.size = none := I.hok.fresh (Nat.le_refl _)
 refine ⟨.ref _, _, I.laid (a := s.heap.objs.size) (o := .lst ((List.range (hi - lo).toNat).map fun (k : Nat) => V.int (lo + k))) (t' := tk') hk (Nat.le_refl _) ⟨?_, acc.toList, c, items_ints hi', by simpa using hS⟩, rfl, q _ hp⟩
 rw [List.length_map, List.length_range]
 have : (hi - lo).toNat <= 100000 := by omega
 exact Nat.le_trans this (by decide)
theorem pe_range1 {a : Expr} {ta : TA} {p pos : Pos} (hg : Gl X "range") (hm : X.mg "range" = none) (ha : PA X [a] ta) (hs : starEach [a] X.env = [(false, eval a X.env)]) : PE X (.Call (.Name "range" p) [a] [] pos) (fun σ H Q => ta σ H fun vs H1 => ∃ j : Int, vs = [.int j] /\ ∀ q, H1 q = none -> Q (.ref q) (upd H1 q (.rng 0 j))) := by
 intro pins s σ H Q I h
 refine wpAny_Call_Name_kw (ld_blt I hg hm boot_range (PyProof.Rows.callWith_type1 (thn (ha pos pins s σ H _ I h) fun us s1 ⟨vs, H1, I1, r1, q1⟩ => ?_) hs rfl))
 obtain ⟨j, e, q⟩ := q1
 subst e
 cases r1 with
 | cons r rr =>
  cases rr
  obtain ⟨t, rfl⟩ := r
  exact call_range_1 ⟨.ref s1.heap.objs.size, _, I1.laid (a := s1.heap.objs.size) (o := .rng 0 j) (fun b o e => Heap.get?_push_of_some _ e) (Nat.le_refl _) ⟨_, _, _, Heap.get?_push_size _ rfl⟩, rfl, q _ (I1.hok.fresh (Nat.le_refl _))⟩
theorem pe_range2 {a b : Expr} {ta : TA} {p pos : Pos} (hg : Gl X "range") (hm : X.mg "range" = none) (ha : PA X [a, b] ta) (hs : starEach [a, b] X.env = [(false, eval a X.env), (false, eval b X.env)]) (hs2 : starEach [b] X.env = [(false, eval b X.env)]) : PE X (.Call (.Name "range" p) [a, b] [] pos) (fun σ H Q => ta σ H fun vs H1 => ∃ i j : Int, vs = [.int i, .int j] /\ ∀ q, H1 q = none -> Q (.ref q) (upd H1 q (.rng i j))) := by
 intro pins s σ H Q I h
 refine wpAny_Call_Name_kw (ld_blt I hg hm boot_range (PyProof.Rows.callWith_type1 (thn (ha pos pins s σ H _ I h) fun us s1 ⟨vs, H1, I1, r1, q1⟩ => ?_) (by rw [hs, hs2]) (by rw [hs2]; rfl)))
 obtain ⟨i, j, e, q⟩ := q1
 subst e
 cases r1 with
 | cons r rr =>
  cases rr with
  | cons r' rr =>
   cases rr
   obtain ⟨t, rfl⟩ := r
   obtain ⟨t', rfl⟩ := r'
   exact call_range_2 ⟨.ref s1.heap.objs.size, _, I1.laid (a := s1.heap.objs.size) (o := .rng i j) (fun b o e => Heap.get?_push_of_some _ e) (Nat.le_refl _) ⟨_, _, _, Heap.get?_push_size _ rfl⟩, rfl, q _ (I1.hok.fresh (Nat.le_refl _))⟩
noncomputable def KDict (K : PySem.W.Frag) (P : Params) (a : Addr) (kvs : List (Str × V)) : Prop :=
 ∃ es n, K.lookup a = some ⟨.type "dict", none, .dict es n, #[]⟩ /\ PySem.W.KeysLit P es.toList /\ (a == sysModules) = false /\ ∀ x, RelO (kvs.lookup x) (findBy Value.isStrOf es x)
theorem op_kin {kvs : List (Str × V)} (neg : Bool) : OpR X (compareOp (if neg then .NotIn else .In)) (fun x y H Q => ∃ a z, y = .ref a /\ KDict X.K X.w.params a kvs /\ x = .str z /\ Q (.bl (xor neg (kvs.lookup z).isSome)) H) := by
 intro pins s σ H x y v u Q I rx ry h
 obtain ⟨a, z, rfl, ⟨es, n, hl, hk, lo, hf⟩, rfl, q⟩ := h
 obtain ⟨t, rfl⟩ := rx
 cases ry
 have hm := PySem.W.mapOf_K (prog := X.prog) (w := X.w) I.kIn hl hk
 have e := hf z
 have ee : (findBy Value.isStrOf es z).isSome = (kvs.lookup z).isSome := by
  cases h1 : kvs.lookup z <;> cases h2 : findBy Value.isStrOf es z <;> rw [h1, h2] at e <;> first | rfl | exact e.elim
 cases neg
 ·exact wpAny_in_of (strKind_is X.prog X.w z t) lo hm ⟨.bl _, H, I.tok _, by rw [ee]; rfl, by simpa using q⟩
 ·exact wpAny_notIn_of (strKind_is X.prog X.w z t) lo hm ⟨.bl _, H, I.tok _, by rw [ee]; rfl, by simpa using q⟩
theorem ix_kd {kvs : List (Str × V)} : IxR X (fun x y H Q => ∃ a z v, x = .ref a /\ KDict X.K X.w.params a kvs /\ y = .str z /\ kvs.lookup z = some v /\ Q v H) := by
 intro value slice pins s σ H x y v u Q I rx ry h hs
 obtain ⟨a, z, d, rfl, ⟨es, n, hl, hk, lo, hf⟩, rfl, hz, q⟩ := h
 cases rx
 obtain ⟨t, rfl⟩ := ry
 have hm := PySem.W.mapOf_K (prog := X.prog) (w := X.w) I.kIn hl hk
 have e := hf z
 rw [hz] at e
 cases h2 : findBy Value.isStrOf es z with
 | none => rw [h2] at e; exact e.elim
 | some r =>
  rw [h2] at e
  exact tail_any hm.typeIs slot_dict_getitem.lookup (wpAny_getItem_of (strKind_is X.prog X.w z t) hm h2 ⟨d, H, I.tok _, e, q⟩) hs
theorem ix_dict (hu : X.A.units + 1 < cLine) : IxR X (fun x y H Q => ∃ a v, x = .ref a /\ DGet H a y (some v) /\ Q v H) := by
 intro value slice pins s σ H x y v u Q I rx ry h hs
 obtain ⟨a, d, rfl, g, q⟩ := h
 cases rx
 exact tail_any (dict_typeIs I g) slot_dict_getitem.lookup (d_getItem hu I g ry fun w' s3 I3 rw' => ⟨d, H, I3, rw', q⟩) hs
end
end L2

namespace ST
open PySem PyProof.Rows
noncomputable abbrev Ris (xs : Array Nat) : Prop := xs.toList.Pairwise (· < ·)
theorem Ris.lt {xs : Array Nat} (h : Ris xs) {i k : Nat} (hik : i < k) (hk : k < xs.size) : xs.getD i 0 < xs.getD k 0 := by
 have := List.pairwise_iff_getElem.mp h i k (by simpa using Nat.lt_trans hik hk) (by simpa using hk) hik
 simp only [Array.getElem_toList] at this
 rw [<- Array.getElem_eq_getD (h := Nat.lt_trans hik hk), <- Array.getElem_eq_getD (h := hk)]
 exact this
theorem Ris.le {xs : Array Nat} (h : Ris xs) {i k : Nat} (hik : i <= k) (hk : k < xs.size) : xs.getD i 0 <= xs.getD k 0 := by
 rcases Nat.eq_or_lt_of_le hik with e | e
 ·rw [e]; exact Nat.le_refl _
 ·exact Nat.le_of_lt (h.lt e hk)
structure Well (L : Bool) (t : SetTable) : Prop where
 ris : Ris t.place
 dum : t.dummies = #[]
 led : t.led = L
end ST

namespace ST
open PySem PyProof.Rows
noncomputable def toI : Value -> Int
 | .int k _ => k
 | _ => 0
noncomputable def Led (w : World) : Bool := !(w.params.followText "set-order")
section
variable {prog : Program} {w : World}
noncomputable def SetW (prog : Program) (w : World) (h : Heap) (a : Addr) (ks : List Int) : Prop :=
 ∃ o es ep t, h.get? a = some o /\ o.ExactSet /\ o.data = .set es ep t /\ ElemsOf (intKind prog w) es.toList /\ (es.toList.map fun e => toI e.2).Perm ks /\ ks.Nodup /\ es.size < scanBound /\ t.fits es.size = true /\ Well (Led w) t
theorem SetW.at {h h' : Heap} {a : Addr} {ks : List Int} (x : SetW prog w h a ks) (k : ∀ o, h.get? a = some o -> h'.get? a = some o) : SetW prog w h' a ks := by
 obtain ⟨o, es, ep, t, e, r⟩ := x
 exact ⟨o, es, ep, t, k o e, r⟩
theorem ent_int {e : Int × Value} {es : List (Int × Value)} (h : ElemsOf (intKind prog w) es) (he : e ∈ es) : ∃ tk, e.2 = .int (toI e.2) tk /\ e.1 = (intKind prog w).hash (toI e.2) := by
 obtain ⟨⟨k, h1, h2⟩, _⟩ := h e he
 obtain ⟨t, ht⟩ := Value.isInt_shape (k := k) (v := e.2) h1
 refine ⟨t, by rw [ht]; rfl, ?_⟩
 rw [h2, ht]
 rfl
theorem ent_is {e : Int × Value} {es : List (Int × Value)} (h : ElemsOf (intKind prog w) es) (he : e ∈ es) (k : Int) : (intKind prog w).is k e.2 = decide (toI e.2 = k) := by
 obtain ⟨t, ht, _⟩ := ent_int h he
 show Value.isInt k e.2 = _
 rw [ht]
 generalize toI e.2 = m
 show Value.isInt k (.int m t) = decide (m = k)
 by_cases z : m = k
 ·subst z; simp [Value.isInt]
 ·rw [decide_eq_false z]
  cases hv : Value.isInt k (.int m t) with
  | false => rfl
  | true =>
   obtain ⟨t', e'⟩ := Value.isInt_shape hv
   cases e'
   exact absurd rfl z
theorem SetW.mem {a : Addr} {es : List (Int × Value)} {ks : List Int} (h : ElemsOf (intKind prog w) es) (hp : (es.map fun e => toI e.2).Perm ks) (k : Int) : (es.findIdx? fun e => (intKind prog w).is k e.2).isSome = decide (k ∈ ks) := by
 rw [Bool.eq_iff_iff, decide_eq_true_iff, <- hp.mem_iff, List.mem_map, Option.isSome_iff_exists]
 constructor
 ·rintro ⟨i, hi⟩
  obtain ⟨h1, h2, _⟩ := List.findIdx?_eq_some_iff_getElem.mp hi
  have hm := List.getElem_mem h1
  rw [ent_is h hm] at h2
  exact ⟨_, hm, of_decide_eq_true h2⟩
 ·rintro ⟨e, he, rfl⟩
  cases hf : es.findIdx? fun e' => (intKind prog w).is (toI e.2) e'.2 with
  | some i => exact ⟨i, rfl⟩
  | none =>
   have := List.findIdx?_eq_none_iff.mp hf e he
   rw [ent_is h he] at this
   simp at this
variable {A : Around} {E : Value -> Shared -> Prop} {s : Shared}
noncomputable def addK (ks : List Int) (k : Int) : List Int := if k ∈ ks then ks else ks ++ [k]
end
end ST

namespace ST
open PySem PyProof.Rows
end ST

namespace ST
open PySem PyProof.Rows
inductive Rd | text | plain | drawn
structure Lies (h : Heap) (a : Addr) (es : Array (Int × Value)) (ep : Nat) (t : SetTable) : Prop where
 at_ : ∃ o, h.get? a = some o /\ o.cls = .type "set" /\ o.data = .set es ep t
 fit : t.fits es.size = true
theorem Lies.at {h h' : Heap} {a : Addr} {es : Array (Int × Value)} {ep : Nat} {t : SetTable} (x : Lies h a es ep t) (k : ∀ o, h.get? a = some o -> h'.get? a = some o) : Lies h' a es ep t :=
 ⟨let ⟨o, e, r⟩ := x.at_; ⟨o, k o e, r⟩, x.fit⟩
noncomputable def IsIt (h : Heap) (I a : Addr) (f : Value) (i n ep : Nat) : Prop := ∃ o, h.get? I = some o /\ o.cls = .type "set_iterator" /\ o.data = .fields #[f, rawInt i, .ref a, rawInt n, rawInt ep]
theorem IsIt.at {h h' : Heap} {I a : Addr} {f : Value} {i n ep : Nat} (x : IsIt h I a f i n ep) (k : ∀ o, h.get? I = some o -> h'.get? I = some o) : IsIt h' I a f i n ep := let ⟨o, e, r⟩ := x; ⟨o, k o e, r⟩
theorem IsIt.ty {s : Shared} {I a : Addr} {f : Value} {i n ep : Nat} (x : IsIt s.heap I a f i n ep) : s.TypeIs (.ref I) "set_iterator" := let ⟨o, e, c, _⟩ := x; ⟨o, e, c⟩
section
variable {prog : Program} {w : World} {A : Around} {E : Value -> Shared -> Prop} {s : Shared} {a : Addr} {es : Array (Int × Value)} {ep : Nat} {t : SetTable}
end
end ST

namespace ST
open PySem PyProof.Rows
section
variable {prog : Program} {w : World} {A : Around} {E : Value -> Shared -> Prop} {s : Shared} {a I b : Addr} {es : Array (Int × Value)} {ep : Nat} {t : SetTable} {pl : List Nat}
end
end ST

namespace ST
open PySem PyProof.Rows
section
variable {prog : Program} {w : World} {A : Around} {E : Value -> Shared -> Prop} {s : Shared} {a I b : Addr} {es : Array (Int × Value)} {ep : Nat} {t : SetTable} {pl : List Nat}
theorem Lies.ty (hL : Lies s.heap a es ep t) : s.TypeIs (.ref a) "set" := let ⟨o, e, c, _⟩ := hL.at_; ⟨o, e, c⟩
end
end ST

namespace ST
open PySem PyProof.Rows
section
variable {prog : Program} {w : World} {A : Around} {E : Value -> Shared -> Prop} {s : Shared} {a I b : Addr} {es : Array (Int × Value)} {ep : Nat} {t : SetTable} {pl : List Nat}
end
end ST

namespace ST
open PySem PyProof.Rows
noncomputable def addAll (ks xs : List Int) : List Int := xs.foldl addK ks
section
variable {prog : Program} {w : World} {A : Around} {E : Value -> Shared -> Prop} {s : Shared} {a : Addr}
end
end ST

namespace ST
open PySem PyProof.Rows
section
variable {prog : Program} {w : World} {A : Around} {E : Value -> Shared -> Prop} {s : Shared} {a : Addr}
noncomputable def IsSq (h : Heap) (l : Addr) (items : Array Value) : Prop := h.IsList l items \/ h.IsTuple l items
theorem IsSq.lt {h : Heap} {l : Addr} {items : Array Value} (x : IsSq h l items) : l < h.objs.size := by
 rcases x with ⟨_, e, _⟩ | ⟨_, e, _⟩ <;> exact Heap.lt_size e
end
end ST

namespace L2
open PySem PySem.Spec PyProof.Rows
noncomputable def sortU (ns : List Int) : List Int := (ST.addAll [] ns).mergeSort (fun a b => decide (a <= b))
section
variable {X : Cx} {pins : List (Addr × Obj)} {σ : St} {H : Hp} {s : Shared}
theorem Inv.draw (I : Inv X pins σ H s) (d : Drawn) : Inv X pins σ H { s with drawn := d } :=
 I.step (g' := s.gens) (t' := s.toks) (d' := d) (ch := []) (by simp) (fun b o _ _ _ e _ => e) (fun b o _ _ _ e _ => ⟨o.slots, e⟩) (fun b o _ _ e => e) (fun b o _ e => ⟨o, e⟩) (fun _ _ e => e) (fun _ _ _ e => e) (fun b ps e => ⟨#[], by simp [e]⟩) (fun m hm => hm) I.hok I.bare
end
end L2

namespace ST
open PySem PyProof.Rows
end ST
namespace L2
open PySem PySem.Spec PyProof.Rows
section
variable {prog : Program} {w : World} {A : Around} {R : Result -> Shared -> Prop} {s : Shared}
end
section
variable {X : Cx} {pins : List (Addr × Obj)} {σ : St} {H : Hp} {s : Shared}
end
end L2

namespace HT
open PySem PyProof.Rows Builtin
theorem noFill_tuple_mul : fillsNumberSlot (.type "tuple") "mul" = pure false :=
 PySem.fillsNumberSlot_seq (id := "tuple.__mul__") (r := some (.builtin "tuple.__rmul__")) F.slot_tuple_mul.lookup (by decide +kernel) F.slot_tuple_rmul.lookup (by decide +kernel)
theorem repeat_tuple : seqRepeat? (.type "tuple") = pure (some (.builtin "tuple.__mul__")) := by
 unfold seqRepeat?
 rw [PySem.seqSlot_of (T := "tuple") (name := "__mul__") (id := "tuple.__mul__") F.slot_tuple_mul.lookup (by decide +kernel), PySem.seqSlot_of (T := "tuple") (name := "__rmul__") (id := "tuple.__rmul__") F.slot_tuple_rmul.lookup (by decide +kernel)]
 rfl
theorem int_rmul_tuple (a : Int) (t : Tok) (l : Addr) (items : Array Value) (n : Nat) (dd : Option Addr) (sl : Array (Option Value)) :
  Meets (Builtin.«int.__rmul__» ⟨[.int a t, .ref l], []⟩) (fun _ R s => s.heap.get? l = some { cls := .type "tuple", dict := dd, data := .seq items n, slots := sl } /\ R (.ok (.ret Value.notImplemented)) s) :=
 .of_wp fun prog w A R s h => by obtain ⟨hp, g, d, tk, os⟩ := s; obtain ⟨hl, h⟩ := h; wp_walk; exact ⟨_, rfl, h⟩
theorem tuple_mul_tree (t : Value) (c : Value) : Builtin.«tuple.__mul__» ⟨[t, c], []⟩ = (do
 let n <- asIndex c
 if n < -(2 ^ 63) || n >= 2 ^ 63 then
  rule "tuple.repeat.overflow"; raiseError "OverflowError" s!"cannot fit '{<- typeNameOf c}' into an index-sized integer"
 let xs <- Builtin.Tuple.tupleItemsOf t
 if xs.isEmpty || n == 1 then
  if <- Builtin.Tuple.tupleIsExact t then rule "tuple.repeat.same-object"; return <- ret t
 if n <= 0 || xs.isEmpty then return <- ret (<- Builtin.Tuple.tupleExact #[])
 if xs.size * n > (2 ^ 63 - 1) / 8 then rule "tuple.repeat.no-memory"; raiseNew (<- newExc (.type "MemoryError") [])
 if Builtin.Tuple.tupleTooMany (xs.size * n) then unsupported "tuple.__mul__:memory"
 ret (<- Builtin.Tuple.tupleExact ((List.replicate n.toNat xs).foldl (· ++ ·) #[]))) := rfl
section
variable {prog : Program} {w : World} {A : Around} {E : Value -> Shared -> Prop} {s : Shared}
theorem foldl_repA (its : List Value) : ∀ (m : Nat) (acc : Array Value), List.foldl (fun x1 x2 => x1 ++ x2) acc (List.replicate m its.toArray) = acc ++ (List.replicate m its).flatten.toArray := by
 intro m
 induction m with
 | zero => intro acc; simp
 | succ m ih => intro acc; rw [List.replicate_succ, List.foldl_cons, ih, List.replicate_succ, List.flatten_cons]; simp
theorem tuple_mul {a : Addr} {its : List Value} {n : Int} {t : Tok} {Q : Value -> Shared -> Prop} (ht : IsTup s.heap a its.toArray) (hne : its ≠ []) (h1 : 1 <= n) (h2 : n < 2 ^ 62) (hz : its.length * n.toNat <= sizeLine)
  (q1 : n = 1 -> Q (.ref a) s) (q2 : Q (.ref s.heap.objs.size) { s with heap := s.heap.push { cls := .type "tuple", data := .seq (List.replicate n.toNat its).flatten.toArray } }) : wpAny (model prog w) A (binaryOp .Mult (.ref a) (.int n t)) Q E s := by
 obtain ⟨o, ho, hc, k, hd⟩ := id ht
 obtain ⟨cls, dict, data, slots⟩ := o
 dsimp only at hc hd
 subst hc hd
 have he : its.toArray.isEmpty = false := by cases its <;> first | exact absurd rfl hne | rfl
 refine wpAny_binaryOp_repeat_ref (T := "tuple") (U := "int") (by decide) ht.typeIs (fun s' => typeIs_int s' n t) noFill_tuple_mul F.fills_int_mul F.slot_int_rmul repeat_tuple F.slot_int_index.lookup
  (call_meets F.slot_int_rmul (typeIs_int s n t) F.entry_int_rmul (F.args_int_rmul_2 _ _) (int_rmul_tuple n t a its.toArray k dict slots) ⟨ho, rfl, ht.typeIs, ?_⟩)
 refine wpAny_call_entry F.slot_tuple_mul ht.typeIs F.entry_tuple_mul ?_ (F.args_tuple_mul_2 _ _)
 rw [tuple_mul_tree]
 refine wpAny_bind (wpAny_of_eq (show asIndex (.int n t) = pure n from rfl) ?_)
 dsimp only
 rw [if_neg (by simp only [Bool.or_eq_true, decide_eq_true_eq]; omega)]
 refine wpAny_bind (tupleItemsOf_ ht ?_)
 have big : ¬ ((its.toArray.size : Int) * n > (2 ^ 63 - 1) / 8) := by
  rw [List.size_toArray]
  have : ((its.length * n.toNat : Nat) : Int) = (its.length : Int) * n := by rw [Int.natCast_mul]; rw [show ((n.toNat : Nat) : Int) = n by omega]
  rw [<- this]
  have hs : sizeLine < 2 ^ 59 := by decide
  omega
 have many : ¬ (Builtin.Tuple.tupleTooMany ((its.toArray.size : Int) * n) = true) := by
  unfold Builtin.Tuple.tupleTooMany
  rw [List.size_toArray, decide_eq_true_iff]
  have : ((its.length * n.toNat : Nat) : Int) = (its.length : Int) * n := by rw [Int.natCast_mul]; rw [show ((n.toNat : Nat) : Int) = n by omega]
  rw [<- this]
  omega
 have hsz : sizeOk (.seq (List.replicate n.toNat its).flatten.toArray) := by
  show (List.replicate n.toNat its).flatten.toArray.size <= sizeLine
  simp only [List.size_toArray, List.length_flatten, List.map_replicate, List.sum_replicate_nat]
  rw [Nat.mul_comm]
  exact hz
 by_cases e1 : n = 1
 ·subst e1
  rw [if_pos (by rw [he]; rfl)]
  unfold Builtin.Tuple.tupleIsExact
  refine wpAny_bind (wpAny_bind (wpAny_typeOf ht.typeIs (wpAny_pure ?_)))
  rw [if_pos (by decide)]
  first
   | exact wpAny_bind (wpAny_rule (wpAny_bind (wpAny_pure ⟨_, rfl, wpAny_pure (q1 rfl)⟩)))
   | exact wpAny_bind (wpAny_rule (wpAny_pure ⟨_, rfl, (q1 rfl)⟩))
   | exact wpAny_bind (wpAny_rule (wpAny_pure ⟨_, rfl, wpAny_pure (q1 rfl)⟩))
 ·rw [if_neg (by rw [he]; simpa using e1)]
  rw [if_neg (by rw [he]; simp; omega), if_neg big, if_neg many]
  rw [show List.foldl (fun x1 x2 => x1 ++ x2) #[] (List.replicate n.toNat its.toArray) = (List.replicate n.toNat its).flatten.toArray by rw [foldl_repA]; simp]
  first
   | exact wpAny_bind (m := Builtin.Tuple.tupleExact _) (wpAny_newObj_type (wpAny_pure ⟨_, rfl, q2⟩) hsz)
   | exact wpAny_bind (m := Builtin.Tuple.tupleExact _) (wpAny_newObj_type (wpAny_pure ⟨_, rfl, wpAny_pure q2⟩) hsz)
end
end HT
namespace L2
open PySem PySem.Spec PyProof.Rows
section
variable {X : Cx}
noncomputable def rRepT (K : PySem.W.Frag) : R2 := fun x y H Q => ∃ (a : Addr) (n : Int) (xs : List V), x = .ref a /\ y = .int n /\ SqT K H a xs /\ xs ≠ [] /\ 1 <= n /\ n < 2 ^ 62 /\ xs.length * n.toNat <= sizeLine /\
 (n = 1 -> Q (.ref a) H) /\ (∀ p, H p = none -> Q (.ref p) (upd H p (.tup (List.replicate n.toNat xs).flatten)))
theorem op_repT : OpR X (binaryOp .Mult) (rRepT X.K) := by
 intro pins s σ H x y v u Q I rx ry h
 obtain ⟨a, n, xs, rfl, rfl, ha, hne, h1, h2, hz, q1, q2⟩ := h
 cases rx
 obtain ⟨tk, rfl⟩ := ry
 obtain ⟨its, r, p, _⟩ := I.tuple ha
 refine HT.tuple_mul p (fun z => hne (r.nil_iff.mp z)) h1 h2 (by rw [<- r.length]; exact hz) (fun e => ⟨.ref a, H, I, rfl, q1 e⟩) ?_
 refine ⟨.ref s.heap.objs.size, _, I.laid (t' := s.toks) (o := .tup (List.replicate n.toNat xs).flatten) (fun b ob q => Heap.get?_push_of_some _ q) (Nat.le_refl _) ?_, rfl, q2 _ (I.hok.fresh (Nat.le_refl _))⟩
 exact ⟨by rw [len_rep, Nat.mul_comm]; exact hz, _, r.rep _, IsTupD.new _ _⟩
noncomputable def joinLen (sep : Str) (ys : List Str) : Nat := ys.foldl (fun n y => n + y.length + sep.length) 0
end
end L2

namespace HT
open PySem PyProof.Rows Builtin PySem.SeqAt
theorem tuple_indexAt (l : Addr) (items : Array Value) (n : Nat) (dd : Option Addr) (sl : Array (Option Value)) (x : Value) (e : Value -> Bool) (j : Nat) (hj : j < items.size)
    (hit : e items[j] = true) (hno : ∀ m (hm : m < items.size), m < j -> e items[m] = false) :
    Meets (Builtin.«tuple.index» ⟨[.ref l, x], []⟩)
      (fun A R s => s.heap.get? l = some { cls := .type "tuple", dict := dd, data := .seq items n, slots := sl } /\ (∀ y, y ∈ items -> EqAt A.in1 s y x (e y)) /\ R (.ok (.ret (.int j s.toks))) { s with toks := s.toks + 1 }) :=
  .of_wp fun prog w A R s h => by
    obtain ⟨hp, g, d, tk, os⟩ := s; obtain ⟨hl, he, h⟩ := h
    wp_walk using wpAny_loadPart' hl
    show wpAny (model prog w) A.in1 (forIn ([:Min.min items.size items.size] : Std.Legacy.Range) ((none, ()) : Option PySem.Fin × Unit) (fun (i : Nat) __s =>
            match items[i]? with
            | some y => do
              let __do_lift <- eqBool y x
              if __do_lift = true then do
                  let __do_lift <- retInt (i : Nat)
                  pure (ForInStep.done (some __do_lift, ()))
                else pure (ForInStep.yield (none, ()))
            | x => pure (ForInStep.yield (none, ())))) _ _ _
    rw [Std.Legacy.Range.forIn_eq_forIn_range']
    simp only [Std.Legacy.Range.size, Nat.sub_zero, Nat.add_sub_cancel, Nat.div_one, Nat.min_self]
    refine wpAny_forIn_list _ (fun rest b s' => b = (none, ()) /\ s' = ⟨hp, g, d, tk, os⟩ /\ ∃ i, rest = List.range' i (items.size - i) /\ i <= j) _ ?_ ?_ _ _ ⟨rfl, rfl, 0, by simp, Nat.zero_le _⟩
    · rintro y rest b s' ⟨rfl, rfl, i, hr, hi⟩
      have hlt : i < items.size := by omega
      rw [show items.size - i = (items.size - (i + 1)) + 1 by omega, List.range'_succ] at hr
      cases hr
      rw [show items[y]? = some items[y] from Array.getElem?_eq_getElem hlt]
      refine wpAny_bind (he _ (Array.getElem_mem hlt) prog w _ _ ?_)
      by_cases hij : y = j
      · subst hij
        rw [hit]
        wp_walk
        exact ⟨_, rfl, h⟩
      · rw [hno y hlt (by omega)]
        wp_walk
        exact ⟨rfl, rfl, y + 1, rfl, by omega⟩
    · rintro b s' ⟨rfl, rfl, i, hr, hi⟩
      exfalso
      have := congrArg List.length hr
      simp at this
      omega
section
variable {prog : Program} {w : World} {A : Around} {E : Value -> Shared -> Prop} {s : Shared}
theorem noI_tuple : typeLookup (.type "tuple") (dunderI "add") = pure none := by
 show typeLookup (.type "tuple") "__iadd__" = pure none
 rw [typeLookup_type, builtinLookup_eq_fast]; kernel_rfl
theorem icat_tup {t b : Addr} {vs ws : List Value} {Q : Value -> Shared -> Prop} (ht : IsTup s.heap t vs.toArray) (hb : IsTup s.heap b ws.toArray)
  (h0 : vs = [] -> Q (.ref b) s) (h1 : ws = [] -> Q (.ref t) s) (h2 : Q (.ref s.heap.objs.size) { s with heap := s.heap.push { cls := .type "tuple", data := .seq (vs ++ ws).toArray } })
  (hsz : vs.length + ws.length <= sizeLine) : wpAny (model prog w) A (inplaceOp .Add (.ref t) (.ref b)) Q E s := by
 obtain ⟨⟨cls, dd, data, sl⟩, ho, hc, n, hd⟩ := id ht
 obtain ⟨⟨cls2, dd2, data2, sl2⟩, ho2, hc2, n2, hd2⟩ := id hb
 simp only at hc hd hc2 hd2
 subst hc hd hc2 hd2
 have e : vs.toArray ++ ws.toArray = (vs ++ ws).toArray := by simp
 refine wpAny_inplaceOp_concat (T := "tuple") ⟨_, ho, rfl⟩ ⟨_, ho2, rfl⟩ noI_tuple noFill_tuple_add seq_tuple_add ?_
 by_cases hv : vs = []
 ·subst hv
  exact call_meets F.slot_tuple_add ⟨_, ho, rfl⟩ F.entry_tuple_add (F.args_tuple_add_2 _ _) (tuple_addW0 t b #[] ws.toArray n n2 dd dd2 sl sl2 rfl) ⟨ho, ho2, h0 rfl⟩
 by_cases hw : ws = []
 ·exact call_meets F.slot_tuple_add ⟨_, ho, rfl⟩ F.entry_tuple_add (F.args_tuple_add_2 _ _) (tuple_addW1 t b vs.toArray ws.toArray n n2 dd dd2 sl sl2 (by simpa using hv) (by simp [hw])) ⟨ho, ho2, h1 hw⟩
 ·refine call_meets F.slot_tuple_add ⟨_, ho, rfl⟩ F.entry_tuple_add (F.args_tuple_add_2 _ _) (tuple_addW2 t b vs.toArray ws.toArray n n2 dd dd2 sl sl2 (by simpa using hv) (by simpa using hw) (by rw [List.size_toArray, List.size_toArray]; exact hsz)) ⟨ho, ho2, ?_⟩
  rw [e]
  exact h2
end
end HT
namespace L2
open PySem PySem.Spec PyProof.Rows
section
variable {X : Cx}
noncomputable def FirstAt (ys : List V) (y : V) (n : Nat) : Prop := ys.all flatV = true /\ flatV y = true /\ (∃ z, ys[n]? = some z /\ eqV z y = true) /\ ∀ (m : Nat) z, m < n -> ys[m]? = some z -> eqV z y = false
theorem vals_at : ∀ {xs : List V} {us : List Value} {i : Nat} (hi : i < us.length), Vals xs us -> ∃ x, xs[i]? = some x /\ RelV x us[i]
 | _, _, 0, hi, .cons r _ => ⟨_, rfl, r⟩
 | _, _, i + 1, hi, .cons _ t => by
  obtain ⟨x, h1, h2⟩ := vals_at (i := i) (by simpa using hi) t
  exact ⟨x, by simpa using h1, by simpa using h2⟩
theorem all_at {xs : List V} (h : xs.all flatV = true) {i : Nat} {x : V} (e : xs[i]? = some x) : flatV x = true := List.all_eq_true.mp h x (List.mem_of_getElem? e)
theorem first_hit {ys : List V} {y : V} {n : Nat} {its : List Value} (F : FirstAt ys y n) (r : Vals ys its) : ∃ hn : n < its.toArray.size, eqU y its.toArray[n] = true /\ ∀ m (hm : m < its.toArray.size), m < n -> eqU y its.toArray[m] = false := by
 obtain ⟨fs, fy, ⟨z, hz, he⟩, hno⟩ := F
 have hl := r.length
 have hn : n < its.length := by
  have := (List.getElem?_eq_some_iff.mp hz).1
  omega
 refine ⟨by simpa using hn, ?_, fun m hm hmn => ?_⟩
 ·obtain ⟨x, hx, rx⟩ := vals_at hn r
  rw [hz] at hx
  cases hx
  rw [List.getElem_toArray, eqU_of rx (all_at fs hz)]
  exact he
 ·have hm' : m < its.length := by simpa using hm
  obtain ⟨x, hx, rx⟩ := vals_at hm' r
  rw [List.getElem_toArray, eqU_of rx (all_at fs hx)]
  exact hno m x hmn hx
noncomputable def rIndexT (K : PySem.W.Frag) : V -> List V -> Hp -> VK -> Prop := fun x xs H Q => ∃ a ys y n, x = .ref a /\ xs = [y] /\ SqT K H a ys /\ FirstAt ys y n /\ Q (.int n) H
noncomputable def rIndexL (K : PySem.W.Frag) : V -> List V -> Hp -> VK -> Prop := fun x xs H Q => ∃ a ys y n, x = .ref a /\ xs = [y] /\ SqL K H a ys /\ FirstAt ys y n /\ n < 2 ^ 62 /\ Q (.int n) H
theorem mt_indexT : MtR X "tuple.index" (rIndexT X.K) := by
 intro pins s σ H x xs v us Q I rx r h
 obtain ⟨a, ys, y, n, rfl, rfl, hq, W, q⟩ := h
 cases rx
 cases r with
 | cons ry rr =>
 cases rr
 obtain ⟨its, rv, p, hz⟩ := I.tuple hq
 obtain ⟨hn, hit, hno⟩ := first_hit W rv
 obtain ⟨⟨cls, dd, data, sl⟩, ho, hc, k, hd⟩ := id p
 simp only at hc hd
 subst hc hd
 refine call_meets F.slot_tuple_index p.typeIs F.entry_tuple_index (F.args_tuple_index_2 _ _) (HT.tuple_indexAt a its.toArray k dd sl _ (eqU y) n hn hit hno) ⟨ho, fun w hw => mem_eqAt ry W.2.1 rv W.1 w (by simpa using hw), ⟨.int n, H, I.tok _, ⟨_, rfl⟩, q⟩⟩
theorem mt_indexL : MtR X "list.index" (rIndexL X.K) := by
 intro pins s σ H x xs v us Q I rx r h
 obtain ⟨a, ys, y, n, rfl, rfl, hq, W, hn2, q⟩ := h
 cases rx
 cases r with
 | cons ry rr =>
 cases rr
 obtain ⟨its, rv, p, hz⟩ := I.list hq
 obtain ⟨hn, hit, hno⟩ := first_hit W rv
 have pt := p.isList.typeIs
 obtain ⟨⟨cls, dd, data, sl⟩, k, ho, hc, hdd, hd⟩ := id p
 simp only at hc hdd hd
 subst hc hdd hd
 refine call_meets F.slot_list_index pt F.entry_list_index (F.args_list_index_2 _ _) (SeqAt.list_indexAt a its.toArray k none sl _ (eqU y) n hn (by omega) hit hno) ⟨ho, fun w hw => mem_eqAt ry W.2.1 rv W.1 w (by simpa using hw), ⟨.int n, H, I.tok _, ⟨_, rfl⟩, q⟩⟩
noncomputable def TupD (K : PySem.W.Frag) (H : Hp) (a : Addr) (xs : List V) : Prop :=
 H a = some (.tup xs) \/ ∃ (o : Obj) (its : Array Value) (n : Nat), K.lookup a = some o /\ o.cls = .type "tuple" /\ o.dict = none /\ o.data = .seq its n /\ its.size <= sizeLine /\ Vals xs its.toList
theorem TupD.sq {K : PySem.W.Frag} {H : Hp} {a : Addr} {xs : List V} (h : TupD K H a xs) : SqT K H a xs := by
 rcases h with h | ⟨o, its, n, h1, h2, _, h3, h4, h5⟩
 ·exact .inl (.inl h)
 ·exact .inr ⟨o, its, n, h1, h2, h3, h4, h5⟩
theorem Inv.tupD {pins : List (Addr × Obj)} {σ : St} {H : Hp} {s : Shared} {a : Addr} {xs : List V} (I : Inv X pins σ H s) (h : TupD X.K H a xs) : s.TypeIs (.ref a) "tuple" /\ ∀ b, Value.ref a = .ref b -> ∃ ob, s.heap.get? b = some ob /\ ob.dict = none := by
 rcases h with h | ⟨o, its, n, h1, h2, h3, _⟩
 ·obtain ⟨_, its, _, o, e, c, _, d⟩ := (show ObjOk X.prog X.w H s.heap a (.tup xs) from I.hok a _ h)
  exact ⟨⟨o, e, c⟩, fun b q => by cases q; exact ⟨o, e, d⟩⟩
 ·exact ⟨⟨o, I.kIn a o h1, h2⟩, fun b q => by cases q; exact ⟨o, I.kIn a o h1, h3⟩⟩
noncomputable def tIndex (K : PySem.W.Frag) (to : TE) (t : TA) : TE := fun σ H Q => to σ H fun x H1 => (∃ a xs, x = .ref a /\ SqL K H1 a xs /\ t σ H1 fun ys H2 => rIndexL K x ys H2 Q) \/ (∃ a xs, x = .ref a /\ TupD K H1 a xs /\ t σ H1 fun ys H2 => rIndexT K x ys H2 Q)
theorem pe_index {o e : Expr} {es : List Expr} {to : TE} {t : TA} {apos cpos : Pos} (ho : PE X o to) (ha : PA X (e :: es) t)
  (hbase : attributeBase o "index" X.env (eval o X.env) = eval o X.env)
  (hfew : ((backTo cpos (starEach (e :: es) X.env)).all (fun x => !x.1) && (backToKw cpos (keywordEach [] X.env)).all (fun x => x.1.isSome)
   && decide ((e :: es).length + ([] : List Keyword).length + (if ([] : List Keyword).isEmpty then 0 else 1) < 30)) = true)
  (hline : (apos.endLine == cpos.line) = true) (hs : starEach (e :: es) X.env = (false, eval e X.env) :: starEach es X.env) (hplain : (backTo cpos (starEach es X.env)).any (·.1) = false) :
  PE X (.Call (.Attribute o "index" apos) (e :: es) [] cpos) (tIndex X.K to t) := by
 intro pins s σ H Q I h
 refine wpAny_Call_method_late hbase hfew hline rfl (thn (ho pins s σ H _ I h) fun v s1 ⟨x, H1, I1, r1, q1⟩ => ?_)
 rcases q1 with ⟨a, xs, rfl, hq, q1⟩ | ⟨a, xs, rfl, hq, q1⟩
 ·cases r1
  obtain ⟨its, rv, pl, hz⟩ := I1.list hq
  have pt := pl.isList.typeIs
  obtain ⟨ob, k, e1, _, e2, _⟩ := id pl
  refine ⟨"list", "list.index", F.plainAttrs_list, F.slot_list_index, F.type_list_index, pt, fun b q => by cases q; exact ⟨ob, e1, e2⟩, ?_⟩
  have hA := ha cpos pins s1 σ H1 _ I1 q1
  rw [hs] at hA ⊢
  refine Calls.callWith_builtin (by show (false || (backTo cpos (starEach es X.env)).any (·.1)) = false; rw [hplain] <;> rfl) (Calls.evalArgs_plain ?_)
  exact thn hA fun us s2 ⟨vs, H2, I2, r2, q2⟩ => mt_indexL pins s2 σ H2 (.ref a) vs (.ref a) us Q I2 rfl r2 q2
 ·cases r1
  obtain ⟨pt, hd⟩ := I1.tupD hq
  refine ⟨"tuple", "tuple.index", F.plainAttrs_tuple, F.slot_tuple_index, F.type_tuple_index, pt, hd, ?_⟩
  have hA := ha cpos pins s1 σ H1 _ I1 q1
  rw [hs] at hA ⊢
  refine Calls.callWith_builtin (by show (false || (backTo cpos (starEach es X.env)).any (·.1)) = false; rw [hplain] <;> rfl) (Calls.evalArgs_plain ?_)
  exact thn hA fun us s2 ⟨vs, H2, I2, r2, q2⟩ => mt_indexT pins s2 σ H2 (.ref a) vs (.ref a) us Q I2 rfl r2 q2
noncomputable def rIadd (K : PySem.W.Frag) : V -> V -> Hp -> VK -> Prop := fun x y H Q => (∃ i j, x = .int i /\ y = .int j /\ Q (.int (i + j)) H) \/
 ∃ a b xs ys, x = .ref a /\ y = .ref b /\ SqT K H a xs /\ SqT K H b ys /\ xs.length + ys.length <= sizeLine /\ (xs = [] -> Q (.ref b) H) /\ (ys = [] -> Q (.ref a) H) /\ (∀ p, H p = none -> Q (.ref p) (upd H p (.tup (xs ++ ys))))
theorem in_iadd : InOp X .Add (rIadd X.K) := by
 rintro pins s σ H x y u v Q I rx ry h
 rcases h with h | ⟨a, b, xs, ys, rfl, rfl, ha, hb, hz, q0, q1, q2⟩
 ·exact in_add pins s σ H x y u v Q I rx ry h
 ·cases rx
  cases ry
  obtain ⟨its, r1, p1, _⟩ := I.tuple ha
  obtain ⟨its2, r2, p2, _⟩ := I.tuple hb
  refine HT.icat_tup p1 p2 (fun z => ⟨.ref b, H, I, rfl, q0 (r1.nil_iff.mp z)⟩) (fun z => ⟨.ref a, H, I, rfl, q1 (r2.nil_iff.mp z)⟩) ?_ (by rw [<- r1.length, <- r2.length]; exact hz)
  refine ⟨.ref s.heap.objs.size, _, I.laid (t' := s.toks) (o := .tup (xs ++ ys)) (fun b ob q => Heap.get?_push_of_some _ q) (Nat.le_refl _) ?_, rfl, q2 _ (I.hok.fresh (Nat.le_refl _))⟩
  exact ⟨by rw [List.length_append]; exact hz, _, r1.append r2, IsTupD.new _ _⟩
end
end L2

namespace ST
open PySem PyProof.Rows
noncomputable def Spot (k : Int) : Prop := 0 <= k /\ k < 8
structure Own (mask : Nat) (owner : Array (Option Nat)) (pre : List Int) : Prop where
 sz : owner.size = mask + 1
 fwd : ∀ (i : Nat) (k : Int), pre[i]? = some k -> owner[k.toNat]? = some (some i)
 bwd : ∀ (j i : Nat), owner[j]? = some (some i) -> pre[i]? = some (j : Int)
end ST

namespace ST
open PySem PyProof.Rows
section
variable {prog : Program} {w : World} {A : Around} {E : Value -> Shared -> Prop} {s : Shared} {a : Addr}
noncomputable def SetV (prog : Program) (w : World) (h : Heap) (a : Addr) (ks : List Int) : Prop :=
 ∃ o es ep t, h.get? a = some o /\ o.ExactSet /\ o.data = .set es ep t /\ ElemsOf (intKind prog w) es.toList /\ (es.toList.map fun e => toI e.2).Perm ks /\ ks.Nodup /\ es.size < scanBound /\ t.fits es.size = true /\ Well (Led w) t /\ (ks = [] -> 7 <= t.mask)
theorem SetW.toV {h : Heap} {ks : List Int} (x : SetW prog w h a ks) (hn : ks ≠ []) : SetV prog w h a ks := by
 obtain ⟨o, es, ep, t, h1, h2, h3, h4, h5, h6, h7, h8, h9⟩ := x
 exact ⟨o, es, ep, t, h1, h2, h3, h4, h5, h6, h7, h8, h9, fun z => absurd z hn⟩
theorem SetV.at {h h' : Heap} {ks : List Int} (x : SetV prog w h a ks) (k : ∀ o, h.get? a = some o -> h'.get? a = some o) : SetV prog w h' a ks := by
 obtain ⟨o, es, ep, t, e, r⟩ := x
 exact ⟨o, es, ep, t, k o e, r⟩
theorem SetW.same {h : Heap} {ks us : List Int} (x : SetW prog w h a ks) (hp : ks.Perm us) : SetW prog w h a us := by
 obtain ⟨o, es, ep, t, h1, h2, h3, h4, h5, h6, h7⟩ := x
 exact ⟨o, es, ep, t, h1, h2, h3, h4, h5.trans hp, hp.nodup_iff.mp h6, h7⟩
theorem above : ∀ n, n < 300 -> 7 < SetTable.sizeAbove n /\ n < SetTable.sizeAbove n /\ SetTable.sizeAbove n <= sizeLine := by decide +kernel
end
end ST
namespace L2
open PySem PySem.Spec PyProof.Rows
variable {X : Cx}
end L2

namespace M
open PySem L2
inductive D where
 | non | bl (b : Bool) | int (i : Int) | str (x : Str) | ty (n : String) | ref (i : Nat) | tup (l : List D)
inductive O where
 | lst (l : List D) | fro (l : List D)
 | dic (kvs : List (Key × D))
 | ins (c : Str) (fs : List (Str × D))
noncomputable def O.mut : O -> Bool
 | .fro _ => false
 | _ => true
noncomputable def keyD : D -> Option Key
 | .int i => some (.inl i)
 | .str x => some (.inr x)
 | _ => none
noncomputable def valD (kvs : List (Key × D)) (k : Key) : Option D := (kvs.find? fun kv => decide (kv.1 = k)).map (·.2)
noncomputable def putD (kvs : List (Key × D)) (k : Key) (v : D) : List (Key × D) :=
 if (kvs.any fun kv => decide (kv.1 = k)) = true then kvs.map (fun kv => if kv.1 = k then (kv.1, v) else kv) else kvs ++ [(k, v)]
noncomputable def putFD (f : Str) (v : D) : List (Str × D) -> List (Str × D)
 | [] => [(f, v)]
 | (g, x) :: r => if g = f then (g, v) :: r else (g, x) :: putFD f v r
noncomputable def lookD : List D -> Str -> Option D
 | .tup [.str y, v] :: r, x => if x = y then some v else lookD r x
 | _ :: _, _ => none
 | [], _ => none
noncomputable def joinD : List D -> Option Str
 | [] => some Str.empty
 | .str x :: r => (joinD r).map fun y => x ++ y
 | _ => none
structure Xn where
 cls : Str
noncomputable abbrev G := List O
noncomputable abbrev S := List (Option D)
noncomputable abbrev KD := D -> G -> Prop
noncomputable abbrev KX := Xn -> G -> Prop
noncomputable abbrev NoX : KX := fun _ _ => False
noncomputable def itemsO : Option O -> Option (List D)
 | some (.lst l) => some l
 | some (.fro l) => some l
 | _ => none
noncomputable abbrev itemsL (g : G) (a : Nat) : Option (List D) := itemsO g[a]?
noncomputable def rd (g : G) : Nat -> D -> Option PyData
 | _, .non => some .none
 | _, .bl b => some (.bool b)
 | _, .int i => some (.int i)
 | _, .str x => some (.str x)
 | _, .ty _ => none
 | 0, .ref _ => none
 | 0, .tup _ => none
 | n + 1, .ref a => match itemsL g a with
  | some l => (l.mapM (rd g n)).map .list
  | none => none
 | n + 1, .tup l => (l.mapM (rd g n)).map .tuple
noncomputable def rds (g : G) (l : List D) : Option (List PyData) := l.mapM (rd g 6)
noncomputable def itemsD (g : G) : D -> Option (List D)
 | .tup l => some l
 | .ref a => itemsL g a
 | _ => none
noncomputable def isNon : D -> Bool
 | .non => true
 | _ => false
noncomputable def cut {α : Type} (xs : List α) (lo hi : Option Int) : List α := (xs.drop (HT.sIx xs.length 0 lo)).take (HT.sIx xs.length xs.length hi - HT.sIx xs.length 0 lo)
noncomputable def isTy (g : G) (x : D) (c : String) : Option Bool := match x with
 | .non => some (c == "NoneType")
 | .bl _ => some (c == "bool" || c == "int")
 | .int _ => some (c == "int")
 | .str _ => some (c == "str")
 | .tup _ => some (c == "tuple")
 | .ref a => match g[a]? with
  | some (.lst _) => some (c == "list")
  | _ => none
 | .ty _ => none
noncomputable def rngD (lo : Int) (n : Nat) : List D := (List.range n).map fun (k : Nat) => .int (lo + k)
noncomputable def allBl : List D -> Option Bool
 | [] => some true
 | .bl b :: r => (allBl r).map fun c => b && c
 | _ => none
inductive Pr where
 | bin (op : Operator) | un (op : UnaryOp) | cmp (op : CmpOp)
 | ix | slc (lo hi : Bool) | rev | tup | lst | dnew
 | len | list | tuple | isin | all | max | min | int | str | lrng1 | lrng2 | sset | sun
 | gin | gnin | gget | fv | fstr | fld (f : Str)
 | append | pop | get | index | join | iadd
noncomputable abbrev DR := List D -> G -> D -> G -> Prop
noncomputable def arR : Operator -> Int -> Int -> Int -> Prop
 | .Add, i, j, r => r = i + j
 | .Sub, i, j, r => r = i - j
 | .Mult, i, j, r => CMul i j /\ r = i * j
 | .FloorDiv, i, j, r => CDiv i j /\ r = i / j
 | .Mod, i, j, r => 0 < j /\ r = i % j
 | .Pow, i, j, r => CPow i j /\ r = i ^ j.toNat
 | _, _, _, _ => False
noncomputable def binR (op : Operator) : DR := fun xs g d g' =>
 (∃ i j r, xs = [.int i, .int j] /\ arR op i j r /\ d = .int r /\ g' = g) \/
 (op = .Add /\ ((∃ l m, xs = [.tup l, .tup m] /\ l.length + m.length <= 100000 /\ d = .tup (l ++ m) /\ g' = g) \/
  (∃ a b l m, xs = [.ref a, .ref b] /\ g[a]? = some (.lst l) /\ g[b]? = some (.lst m) /\ l.length + m.length <= 100000 /\ d = .ref g.length /\ g' = g ++ [.lst (l ++ m)]) \/
  (∃ x y, xs = [.str x, .str y] /\ x.length + y.length <= 100000 /\ d = .str (x ++ y) /\ g' = g))) \/
 (op = .Mult /\ ((∃ a l n, xs = [.ref a, .int n] /\ g[a]? = some (.lst l) /\ -(2 ^ 62) <= n /\ n < 2 ^ 62 /\ l.length * n.toNat <= 100000 /\ d = .ref g.length /\ g' = g ++ [.lst (List.replicate n.toNat l).flatten]) \/
  (∃ l n, xs = [.tup l, .int n] /\ l ≠ [] /\ 1 <= n /\ n < 2 ^ 62 /\ l.length * n.toNat <= 100000 /\ d = .tup (List.replicate n.toNat l).flatten /\ g' = g)))
noncomputable def unR (op : UnaryOp) : DR := fun xs g d g' => op = .USub /\ ∃ i, xs = [.int i] /\ d = .int (-i) /\ g' = g
noncomputable def eqR (g : G) (x y : D) (b : Bool) : Prop :=
 (∃ i j, x = .int i /\ y = .int j /\ b = decide (i = j)) \/ (∃ i j, x = .bl i /\ y = .bl j /\ b = (i == j)) \/ (∃ i j, x = .str i /\ y = .str j /\ b = decide (i = j)) \/
 ∃ p q, rd g 6 x = some p /\ rd g 6 y = some q /\ p.canLay0 = true /\ q.canLay0 = true /\ b = PyData.eqv p q
noncomputable def inR (g : G) (x y : D) (b : Bool) : Prop :=
 (∃ a kvs c, y = .ref a /\ g[a]? = some (.dic kvs) /\ keyD x = some c /\ b = (valD kvs c).isSome) \/
 ∃ l ps p, itemsD g y = some l /\ rds g l = some ps /\ rd g 6 x = some p /\ PyData.canLayAll0 ps = true /\ p.canLay0 = true /\ b = (ps.any fun q => PyData.eqv q p)
noncomputable def cmpB (g : G) (x y : D) (b : Bool) : CmpOp -> Prop
 | .Eq => eqR g x y b
 | .NotEq => eqR g x y (!b)
 | .In => inR g x y b
 | .NotIn => inR g x y (!b)
 | .Lt => ∃ i j, x = .int i /\ y = .int j /\ b = decide (i < j)
 | .LtE => ∃ i j, x = .int i /\ y = .int j /\ b = decide (i <= j)
 | .Gt => ∃ i j, x = .int i /\ y = .int j /\ b = decide (j < i)
 | .GtE => ∃ i j, x = .int i /\ y = .int j /\ b = decide (j <= i)
 | .Is => y = .non /\ b = isNon x
 | .IsNot => y = .non /\ b = !isNon x
noncomputable def cmpR (op : CmpOp) : DR := fun xs g d g' => ∃ x y b, xs = [x, y] /\ cmpB g x y b op /\ d = .bl b /\ g' = g
noncomputable def truR (g : G) (x : D) (b : Bool) : Prop :=
 (x = .non /\ b = false) \/ x = .bl b \/ (∃ i, x = .int i /\ b = (i != 0)) \/ (∃ l, x = .tup l /\ b = !l.isEmpty) \/ ∃ a l, x = .ref a /\ itemsL g a = some l /\ b = !l.isEmpty
noncomputable def ixR : DR := fun xs g d g' => g' = g /\ ((∃ x l i, xs = [x, .int i] /\ itemsD g x = some l /\ atI l i = some d) \/ (∃ a kvs y c, xs = [.ref a, y] /\ g[a]? = some (.dic kvs) /\ keyD y = some c /\ valD kvs c = some d) \/
 ∃ x i c, xs = [.str x, .int i] /\ x.length <= 100000 /\ atI x.cps.toList i = some c /\ d = .str ⟨#[c]⟩)
noncomputable def slR (x : D) (lo hi : Option Int) (g : G) (d : D) (g' : G) : Prop := (∃ l, x = .tup l /\ d = .tup (cut l lo hi) /\ g' = g) \/ ∃ a l, x = .ref a /\ itemsL g a = some l /\ d = .ref g.length /\ g' = g ++ [.lst (cut l lo hi)]
noncomputable def slcR : Bool -> Bool -> DR
 | false, false, xs, g, d, g' => ∃ x, xs = [x] /\ slR x none none g d g'
 | true, false, xs, g, d, g' => ∃ x i, xs = [x, .int i] /\ slR x (some i) none g d g'
 | false, true, xs, g, d, g' => ∃ x j, xs = [x, .int j] /\ slR x none (some j) g d g'
 | true, true, xs, g, d, g' => ∃ x i j, xs = [x, .int i, .int j] /\ slR x (some i) (some j) g d g'
noncomputable def revR : DR := fun xs g d g' => ∃ l, xs = [.tup l] /\ d = .tup l.reverse /\ g' = g
noncomputable def tupR : DR := fun xs g d g' => xs.length <= 1000 /\ d = .tup xs /\ g' = g
noncomputable def lstR : DR := fun xs g d g' => xs.length <= 1000 /\ d = .ref g.length /\ g' = g ++ [.lst xs]
noncomputable def dctD : List D -> List (Key × D) -> Option (List (Key × D))
 | [], kvs => some kvs
 | k :: v :: r, kvs => (keyD k).bind fun c => dctD r (putD kvs c v)
 | _, _ => none
noncomputable def dnewR : DR := fun xs g d g' => xs = [] /\ d = .ref g.length /\ g' = g ++ [.dic []]
noncomputable def lenR : DR := fun xs g d g' => g' = g /\ ((∃ x l, xs = [x] /\ itemsD g x = some l /\ d = .int l.length) \/ (∃ a kvs, xs = [.ref a] /\ g[a]? = some (.dic kvs) /\ d = .int kvs.length) \/ ∃ x, xs = [.str x] /\ x.length <= 100000 /\ d = .int x.length)
noncomputable def listR : DR := fun xs g d g' => ∃ x l, xs = [x] /\ itemsD g x = some l /\ d = .ref g.length /\ g' = g ++ [.lst l]
noncomputable def tupleR : DR := fun xs g d g' => ∃ x l, xs = [x] /\ itemsD g x = some l /\ d = .tup l /\ g' = g
noncomputable def isinR : DR := fun xs g d g' => ∃ x c b, xs = [x, .ty c] /\ c ∈ ["int", "bool", "str", "tuple", "list"] /\ isTy g x c = some b /\ d = .bl b /\ g' = g
noncomputable def allR : DR := fun xs g d g' => ∃ a l b, xs = [.ref a] /\ itemsL g a = some l /\ allBl l = some b /\ d = .bl b /\ g' = g
noncomputable def maxR : DR := fun xs g d g' => ∃ i j, xs = [.int i, .int j] /\ d = .int (if j > i then j else i) /\ g' = g
noncomputable def minR : DR := fun xs g d g' => ∃ i j, xs = [.int i, .int j] /\ d = .int (if j < i then j else i) /\ g' = g
noncomputable def intR : DR := fun xs g d g' => g' = g /\ ((∃ i, xs = [.int i] /\ d = .int i) \/ ∃ b, xs = [.bl b] /\ d = .int (if b then 1 else 0))
noncomputable def strR : DR := fun xs g d g' => ∃ i, xs = [.int i] /\ i.natAbs.log2 < 1920 /\ d = .str (toString i) /\ g' = g
noncomputable def lrng1R : DR := fun xs g d g' => ∃ j, xs = [.int j] /\ -(2 ^ 62) <= j /\ j <= 100000 /\ d = .ref g.length /\ g' = g ++ [.lst (rngD 0 j.toNat)]
noncomputable def lrng2R : DR := fun xs g d g' => ∃ i j, xs = [.int i, .int j] /\ (-(2 ^ 62) <= i /\ i < 2 ^ 62 /\ -(2 ^ 62) <= j /\ j < 2 ^ 62 /\ j - i <= 100000) /\ d = .ref g.length /\ g' = g ++ [.lst (rngD i (j - i).toNat)]
noncomputable def ssetR : DR := fun xs g d g' => ∃ a ns, xs = [.ref a] /\ itemsL g a = some (ns.map .int) /\ ns.length < 60 /\ d = .ref g.length /\ g' = g ++ [.lst ((sortU ns).map .int)]
noncomputable def sunR : DR := fun xs g d g' => ∃ ns ms : List Int, xs = [.tup (ns.map .int), .tup (ms.map .int)] /\ (∀ k ∈ ns, ST.Spot k) /\ (∀ k ∈ ms, ST.Spot k) /\ ns.length + ms.length < 50 /\ d = .ref g.length /\ g' = g ++ [.lst ((sortU (ns ++ ms)).map .int)]
noncomputable def ginR (neg : Bool) : DR := fun xs g d g' => ∃ kvs x, xs = [.tup kvs, .str x] /\ d = .bl (xor neg (lookD kvs x).isSome) /\ g' = g
noncomputable def ggetR : DR := fun xs g d g' => ∃ kvs x, xs = [.tup kvs, .str x] /\ lookD kvs x = some d /\ g' = g
noncomputable def fvR : DR := fun xs g d g' => g' = g /\ ((∃ i, xs = [.int i] /\ i.natAbs.log2 < 1920 /\ d = .str (toString i)) \/ ∃ x, xs = [.str x] /\ x.length <= 2000 /\ d = .str x)
noncomputable def fstrR : DR := fun xs g d g' => ∃ x, joinD xs = some x /\ d = .str x /\ g' = g
noncomputable def fldR (f : Str) : DR := fun xs g d g' => ∃ a c fs, xs = [.ref a] /\ g[a]? = some (.ins c fs) /\ fs.lookup f = some d /\ g' = g
noncomputable def appendR : DR := fun xs g d g' => ∃ a y l, xs = [.ref a, y] /\ g[a]? = some (.lst l) /\ l.length < 100000 /\ d = .non /\ g' = g.set a (.lst (l ++ [y]))
noncomputable def popR : DR := fun xs g d g' => ∃ a i l k, xs = [.ref a, .int i] /\ g[a]? = some (.lst l) /\ -(2 ^ 63) <= i /\ i < 2 ^ 63 /\ seqIndex? i l.length = some k /\ l[k]? = some d /\ g' = g.set a (.lst (l.eraseIdx k))
noncomputable def getR : DR := fun xs g d g' => ∃ a y z kvs c, xs = [.ref a, y, z] /\ g[a]? = some (.dic kvs) /\ keyD y = some c /\ d = (valD kvs c).getD z /\ g' = g
noncomputable def flatD : D -> Bool
 | .non => true
 | .bl _ => true
 | .int _ => true
 | .str _ => true
 | _ => false
noncomputable def toV : D -> V
 | .bl b => .bl b
 | .int i => .int i
 | .str x => .str x
 | _ => .non
noncomputable def FirstD (l : List D) (y : D) (n : Nat) : Prop := l.all flatD = true /\ flatD y = true /\ (∃ z, l[n]? = some z /\ eqV (toV z) (toV y) = true) /\ ∀ (m : Nat) z, m < n -> l[m]? = some z -> eqV (toV z) (toV y) = false
noncomputable def indexR : DR := fun xs g d g' => ∃ x y l n, xs = [x, y] /\ itemsD g x = some l /\ FirstD l y n /\ l.length <= 100000 /\ d = .int n /\ g' = g
noncomputable def joinR : DR := fun xs g d g' => ∃ sep a ys, xs = [.str sep, .ref a] /\ itemsL g a = some (ys.map .str) /\ joinLen sep ys <= 100000 /\ d = .str (Builtin.Str.glued sep ys) /\ g' = g
noncomputable def iaddR : DR := fun xs g d g' => (∃ i j, xs = [.int i, .int j] /\ d = .int (i + j) /\ g' = g) \/ ∃ l m, xs = [.tup l, .tup m] /\ l.length + m.length <= 100000 /\ d = .tup (l ++ m) /\ g' = g
noncomputable def PR : Pr -> DR
 | .bin op => binR op
 | .un op => unR op
 | .cmp op => cmpR op
 | .ix => ixR
 | .slc a b => slcR a b
 | .rev => revR
 | .tup => tupR
 | .lst => lstR
 | .dnew => dnewR
 | .len => lenR
 | .list => listR
 | .tuple => tupleR
 | .isin => isinR
 | .all => allR
 | .max => maxR
 | .min => minR
 | .int => intR
 | .str => strR
 | .lrng1 => lrng1R
 | .lrng2 => lrng2R
 | .sset => ssetR
 | .sun => sunR
 | .gin => ginR false
 | .gnin => ginR true
 | .gget => ggetR
 | .fv => fvR
 | .fstr => fstrR
 | .fld f => fldR f
 | .append => appendR
 | .pop => popR
 | .get => getR
 | .index => indexR
 | .join => joinR
 | .iadd => iaddR
noncomputable def prP (p : Pr) (xs : List D) (g : G) (Q : KD) : Prop := ∃ d g', PR p xs g d g' /\ Q d g'
noncomputable def eqP (g : G) (x y : D) (k : Bool -> Prop) : Prop := ∃ b, eqR g x y b /\ k b
noncomputable def inP (g : G) (x y : D) (k : Bool -> Prop) : Prop := ∃ b, inR g x y b /\ k b
noncomputable def truP (g : G) (x : D) (k : Bool -> Prop) : Prop := ∃ b, truR g x b /\ k b
noncomputable def setR (x y v : D) (g g' : G) : Prop := (∃ a i l j, x = .ref a /\ y = .int i /\ g[a]? = some (.lst l) /\ ixN l.length i = some j /\ g' = g.set a (.lst (l.set j v))) \/
 ∃ a kvs c, x = .ref a /\ g[a]? = some (.dic kvs) /\ keyD y = some c /\ kvs.length < 100000 /\ g' = g.set a (.dic (putD kvs c v))
noncomputable def setP (x y v : D) (g : G) (k : G -> Prop) : Prop := ∃ g', setR x y v g g' /\ k g'
noncomputable def setfR (f : Str) (cs : List Str) (x v : D) (g g' : G) : Prop := ∃ a c fs, x = .ref a /\ g[a]? = some (.ins c fs) /\ c ∈ cs /\ fs.length < 100 /\ g' = g.set a (.ins c (putFD f v fs))
noncomputable def setfP (f : Str) (cs : List Str) (x v : D) (g : G) (k : G -> Prop) : Prop := ∃ g', setfR f cs x v g g' /\ k g'
noncomputable def mkP : Pr -> D -> G -> Prop
 | .get, x, g => ∃ a kvs, x = .ref a /\ g[a]? = some (.dic kvs)
 | .join, x, g => ∃ y, x = .str y
 | .index, x, g => (∃ l, x = .tup l) \/ ∃ a l, x = .ref a /\ itemsL g a = some l
 | _, x, g => ∃ a l, x = .ref a /\ itemsL g a = some l
inductive IK where
 | fix (l : List D) | lst (a : Nat) | enl (a : Nat)
noncomputable def IK.at : IK -> Nat -> G -> Option (Option D)
 | .fix l, i, _ => some l[i]?
 | .lst a, i, g => match itemsL g a with
  | some l => some l[i]?
  | none => none
 | .enl a, i, g => match itemsL g a with
  | some l => some (l[i]?.map fun d => .tup [.int i, d])
  | none => none
inductive MT where
 | one (i : Nat) | many (is : List Nat)
noncomputable def setAll : List Nat -> List D -> S -> Option S
 | [], [], σ => some σ
 | i :: is, d :: ds, σ => setAll is ds (σ.set i (some d))
 | _, _, _ => none
noncomputable def tgP (t : MT) (x : D) (σ : S) (k : S -> Prop) : Prop := match t with
 | .one i => k (σ.set i (some x))
 | .many is => ∃ l σ', x = .tup l /\ setAll is l σ = some σ' /\ k σ'
set_option genInjectivity false in
set_option genSizeOf false in
inductive ME where
 | var (i : Nat) | lit (d : D)
 | nil | cons (a b : ME) | prim (p : Pr) (es : ME) | meth (p : Pr) (o es : ME) | dct (es : ME)
 | chain (o1 o2 : CmpOp) (a b c : ME)
 | and_ (a b : ME) | or_ (a b : ME) | not_ (a : ME) | ite (c a b : ME)
 | call (f : Nat) (es : ME) | make (c : Str) (f : Nat) (es : ME) | methc (m : Str) (cs : List (Str × Nat)) (o es : ME)
 | comp (caps : List Nat) (n : Nat) (tg : MT) (it cond elt : ME) | scomp (caps : List Nat) (n : Nat) (tg : MT) (it cond elt : ME)
 | itE (e : ME) | itR1 (a : ME) | itR2 (a b : ME) | itN (e : ME) | tst (e : ME) | no
noncomputable abbrev Sig := Nat -> List D -> G -> KD -> KX -> Prop
noncomputable def capsD (σ : S) (caps : List Nat) (n : Nat) : S := caps.map (fun j => (σ[j]?).join) ++ List.replicate (n - caps.length) none
noncomputable def turns (k : IK) (σ : S) (g : G) (fin : S -> G -> Prop) (turn : D -> (S -> G -> Prop) -> S -> G -> Prop) : Prop :=
 ∃ W : Nat -> Nat -> S -> G -> Prop, (∃ m, W 0 m σ g) /\ ∀ i m σ g, W i m σ g -> (k.at i g = some none /\ fin σ g) \/ ∃ x, k.at i g = some (some x) /\ ∃ N2 : S -> G -> Prop, (∀ σ' g', N2 σ' g' -> ∃ m', m' < m /\ W (i + 1) m' σ' g') /\ turn x N2 σ g
noncomputable def turnsC (k : IK) (σ : S) (g : G) (fin : List D -> G -> Prop) (turn : D -> (Option D -> S -> G -> Prop) -> S -> G -> Prop) : Prop :=
 ∃ W : Nat -> Nat -> List D -> S -> G -> Prop, (∃ m, W 0 m [] σ g) /\ ∀ i m ys σ g, W i m ys σ g -> (k.at i g = some none /\ fin ys g) \/
  ∃ x, k.at i g = some (some x) /\ ys.length < 100000 /\ turn x (fun y σ' g' => ∃ m', m' < m /\ W (i + 1) m' (ys ++ y.toList) σ' g') σ g
noncomputable def turnsU (k : IK) (σ : S) (g : G) (fin : List Int -> G -> Prop) (turn : D -> (Option Int -> S -> G -> Prop) -> S -> G -> Prop) : Prop :=
 ∃ W : Nat -> Nat -> List Int -> S -> G -> Prop, (∃ m, W 0 m [] σ g) /\ ∀ i m ys σ g, W i m ys σ g -> (k.at i g = some none /\ ys.length < 60 /\ fin ys g) \/
  ∃ x, k.at i g = some (some x) /\ ys.length < 60 /\ turn x (fun y σ' g' => ∃ m', m' < m /\ W (i + 1) m' (ys ++ y.toList) σ' g') σ g
mutual
noncomputable def wpE (P : Sig) : ME -> S -> G -> KD -> KX -> Prop
 | .var i, σ, g, Q, _ => ∃ d, σ[i]? = some (some d) /\ Q d g
 | .lit d, _, g, Q, _ => Q d g
 | .prim p es, σ, g, Q, E => wpA P es σ g (fun xs g1 => prP p xs g1 Q) E
 | .meth p o es, σ, g, Q, E => wpE P o σ g (fun x g1 => mkP p x g1 /\ wpA P es σ g1 (fun xs g2 => prP p (x :: xs) g2 Q) E) E
 | .dct es, σ, g, Q, E => wpA P es σ (g ++ [.dic []]) (fun xs g1 => ∃ kvs, dctD xs [] = some kvs /\ xs.length <= 30 /\ g1[g.length]? = some (.dic []) /\ Q (.ref g.length) (g1.set g.length (.dic kvs))) E
 | .chain o1 o2 a b c, σ, g, Q, E => wpE P a σ g (fun x g1 => wpE P b σ g1 (fun y g2 => prP (.cmp o1) [x, y] g2 fun z g3 => ∃ t, z = .bl t /\ if t = true then wpE P c σ g3 (fun w g4 => prP (.cmp o2) [y, w] g4 Q) E else Q (.bl false) g3) E) E
 | .and_ a b, σ, g, Q, E => wpE P a σ g (fun x g1 => ∃ t, x = .bl t /\ if t = true then wpE P b σ g1 Q E else Q (.bl false) g1) E
 | .or_ a b, σ, g, Q, E => wpE P a σ g (fun x g1 => ∃ t, x = .bl t /\ if t = true then Q (.bl true) g1 else wpE P b σ g1 Q E) E
 | .not_ a, σ, g, Q, E => wpE P a σ g (fun x g1 => ∃ t, x = .bl t /\ Q (.bl (!t)) g1) E
 | .ite c a b, σ, g, Q, E => wpT P c σ g (fun t g1 => if t = true then wpE P a σ g1 Q E else wpE P b σ g1 Q E) E
 | .call f es, σ, g, Q, E => wpA P es σ g (fun xs g1 => P f xs g1 Q E) E
 | .make c f es, σ, g, Q, E => wpA P es σ g (fun xs g1 => P f (.ref g1.length :: xs) (g1 ++ [.ins c []]) (fun d g2 => d = .non /\ Q (.ref g1.length) g2) E) E
 | .methc m cs o es, σ, g, Q, E => wpE P o σ g (fun x g1 => ∃ a c fs f, x = .ref a /\ g1[a]? = some (.ins c fs) /\ fs.lookup m = none /\ cs.lookup c = some f /\ wpA P es σ g1 (fun xs g2 => P f (x :: xs) g2 Q E) E) E
 | .comp caps n tg it cond elt, σ, g, Q, E => wpI P it σ g (fun k g1 => turnsC k (capsD σ caps n) g1 (fun ys g => Q (.ref g.length) (g ++ [.lst ys])) fun x N σ g => tgP tg x σ fun σ2 => wpT P cond σ2 g (fun b g3 => if b = true then wpE P elt σ2 g3 (fun y g4 => N (some y) σ2 g4) NoX else N none σ2 g3) NoX) E
 | .scomp caps n tg it cond elt, σ, g, Q, E => wpI P it σ g (fun k g1 => turnsU k (capsD σ caps n) g1 (fun ys g => Q (.ref g.length) (g ++ [.lst ((sortU ys).map .int)])) fun x N σ g => tgP tg x σ fun σ2 => wpT P cond σ2 g (fun b g3 => if b = true then wpE P elt σ2 g3 (fun y g4 => ∃ j, y = .int j /\ N (some j) σ2 g4) NoX else N none σ2 g3) NoX) E
 | _, _, _, _, _ => False
noncomputable def wpA (P : Sig) : ME -> S -> G -> (List D -> G -> Prop) -> KX -> Prop
 | .nil, _, g, Q, _ => Q [] g
 | .cons a b, σ, g, Q, E => wpE P a σ g (fun x g1 => wpA P b σ g1 (fun xs g2 => Q (x :: xs) g2) E) E
 | _, _, _, _, _ => False
noncomputable def wpT (P : Sig) : ME -> S -> G -> (Bool -> G -> Prop) -> KX -> Prop
 | .and_ a b, σ, g, Q, E => wpT P a σ g (fun t g1 => if t = true then wpT P b σ g1 Q E else Q false g1) E
 | .or_ a b, σ, g, Q, E => wpT P a σ g (fun t g1 => if t = true then Q true g1 else wpT P b σ g1 Q E) E
 | .not_ a, σ, g, Q, E => wpT P a σ g (fun t g1 => Q (!t) g1) E
 | .no, _, g, Q, _ => Q true g
 | .tst e, σ, g, Q, E => wpE P e σ g (fun x g1 => truP g1 x fun b => Q b g1) E
 | _, _, _, _, _ => False
noncomputable def wpI (P : Sig) : ME -> S -> G -> (IK -> G -> Prop) -> KX -> Prop
 | .itE e, σ, g, R, E => wpE P e σ g (fun x g1 => (∃ l, x = .tup l /\ R (.fix l) g1) \/ ∃ a l, x = .ref a /\ itemsL g1 a = some l /\ R (.lst a) g1) E
 | .itR1 a, σ, g, R, E => wpE P a σ g (fun x g1 => ∃ j : Int, x = .int j /\ -(2 ^ 62) <= j /\ j < 2 ^ 62 /\ R (.fix (rngD 0 j.toNat)) g1) E
 | .itR2 a b, σ, g, R, E => wpE P a σ g (fun x g1 => wpE P b σ g1 (fun y g2 => ∃ i j : Int, x = .int i /\ y = .int j /\ (-(2 ^ 62) <= i /\ i < 2 ^ 62 /\ -(2 ^ 62) <= j /\ j < 2 ^ 62) /\ R (.fix (rngD i (j - i).toNat)) g2) E) E
 | .itN e, σ, g, R, E => wpE P e σ g (fun x g1 => ∃ a l, x = .ref a /\ itemsL g1 a = some l /\ R (.enl a) g1) E
 | _, _, _, _, _ => False
end
set_option genInjectivity false in
set_option genSizeOf false in
inductive MS where
 | pass | seq (a b : MS) | expr (e : ME) | set (i : Nat) (e : ME) | unp (t : MT) (e : ME) | setix (o i v : ME) | setf (f : Str) (cs : List Str) (o v : ME)
 | augf (f : Str) (cs : List Str) (o v : ME)
 | ifs (c : ME) (a b : MS) | for_ (t : MT) (it : ME) (b : MS) | whil (c : ME) (b : MS) | ret (e : ME) | retn | brk | cont
 | raise (x : Str) (es : ME) | try_ (b : MS) (hs : List (Str × ME))
structure Ends where
 nx : S -> G -> Prop
 rt : KD
 bk : S -> G -> Prop := fun _ _ => False
 ct : S -> G -> Prop := fun _ _ => False
noncomputable def wpH (P : Sig) (N : Ends) (σ : S) : List (Str × ME) -> KX
 | [], _, _ => False
 | (y, e) :: r, x, g => if x.cls = y then wpE P e σ g N.rt NoX else wpH P N σ r x g
noncomputable def wpS (P : Sig) : MS -> Ends -> S -> G -> KX -> Prop
 | .pass, N, σ, g, _ => N.nx σ g
 | .seq a b, N, σ, g, E => wpS P a { N with nx := fun σ1 g1 => wpS P b N σ1 g1 E } σ g E
 | .expr e, N, σ, g, E => wpE P e σ g (fun _ g1 => N.nx σ g1) E
 | .set i e, N, σ, g, E => wpE P e σ g (fun x g1 => N.nx (σ.set i (some x)) g1) E
 | .unp t e, N, σ, g, E => wpE P e σ g (fun x g1 => tgP t x σ fun σ1 => N.nx σ1 g1) E
 | .setix o i v, N, σ, g, E => wpE P v σ g (fun x g1 => wpE P o σ g1 (fun y g2 => wpE P i σ g2 (fun z g3 => setP y z x g3 fun g4 => N.nx σ g4) E) E) E
 | .setf f cs o v, N, σ, g, E => wpE P v σ g (fun x g1 => wpE P o σ g1 (fun y g2 => setfP f cs y x g2 fun g3 => N.nx σ g3) E) E
 | .augf f cs o v, N, σ, g, E => wpE P o σ g (fun y g1 => ∃ a c fs x, y = .ref a /\ g1[a]? = some (.ins c fs) /\ c ∈ cs /\ fs.lookup f = some x /\ wpE P v σ g1 (fun z g3 => prP .iadd [x, z] g3 fun w g4 => ∃ fs', g4[a]? = some (.ins c fs') /\ fs'.length < 100 /\ N.nx σ (g4.set a (.ins c (putFD f w fs')))) E) E
 | .ifs c a b, N, σ, g, E => wpT P c σ g (fun t g1 => if t = true then wpS P a N σ g1 E else wpS P b N σ g1 E) E
 | .for_ t it b, N, σ, g, E => wpI P it σ g (fun k g1 => turns k σ g1 N.nx fun x N2 σ g => tgP t x σ fun σ2 => wpS P b { N with nx := N2, ct := N2, bk := N.nx } σ2 g E) E
 | .whil c b, N, σ, g, E => ∃ W : Nat -> S -> G -> Prop, (∃ m, W m σ g) /\ ∀ m σ g, W m σ g -> wpT P c σ g (fun t g1 => if t = true then ∃ N2 : S -> G -> Prop, (∀ σ' g', N2 σ' g' -> ∃ m', m' < m /\ W m' σ' g') /\ wpS P b { N with nx := N2, ct := N2, bk := N.nx } σ g1 E else N.nx σ g1) E
 | .ret e, N, σ, g, E => wpE P e σ g N.rt E
 | .retn, N, _, g, _ => N.rt .non g
 | .brk, N, σ, g, _ => N.bk σ g
 | .cont, N, σ, g, _ => N.ct σ g
 | .raise x es, _, σ, g, E => wpA P es σ g (fun vs g1 => vs.length <= 1000 /\ E ⟨x⟩ g1) E
 | .try_ b hs, N, σ, g, _ => wpS P b N σ g (wpH P N (σ.map fun _ => none) hs)
structure MDef where
 ar : Nat
 n : Nat
 body : MS
noncomputable def startD (m : MDef) (ds : List D) : S := ds.map some ++ List.replicate (m.n - ds.length) none
noncomputable def callW (T : Nat -> Option MDef) : Nat -> Sig
 | 0, _, _, _, _, _ => False
 | k + 1, f, ds, g, Q, E => ∃ m, T f = some m /\ ds.length = m.ar /\ wpS (callW T k) m.body ⟨fun _ g' => Q .non g', Q, fun _ _ => False, fun _ _ => False⟩ (startD m ds) g E
end M

namespace M
open PySem L2
theorem prP_mono {p xs} {g : G} {Q Q' : KD} (h : ∀ d g, Q d g -> Q' d g) (q : prP p xs g Q) : prP p xs g Q' := by
 obtain ⟨d, g', a, b⟩ := q; exact ⟨d, g', a, h _ _ b⟩
theorem truP_mono {x} {g : G} {k k' : Bool -> Prop} (h : ∀ b, k b -> k' b) (q : truP g x k) : truP g x k' := by
 obtain ⟨b, a, z⟩ := q; exact ⟨b, a, h _ z⟩
theorem setP_mono {x y v} {g : G} {k k' : G -> Prop} (h : ∀ g, k g -> k' g) (q : setP x y v g k) : setP x y v g k' := by
 obtain ⟨b, a, z⟩ := q; exact ⟨b, a, h _ z⟩
theorem setfP_mono {f cs x v} {g : G} {k k' : G -> Prop} (h : ∀ g, k g -> k' g) (q : setfP f cs x v g k) : setfP f cs x v g k' := by
 obtain ⟨b, a, z⟩ := q; exact ⟨b, a, h _ z⟩
theorem tgP_mono {t x σ} {k k' : S -> Prop} (h : ∀ σ, k σ -> k' σ) (q : tgP t x σ k) : tgP t x σ k' := by
 cases t with
 | one i => exact h _ q
 | many is => obtain ⟨l, σ', a, b, c⟩ := q; exact ⟨l, σ', a, b, h _ c⟩
theorem turns_mono {k σ g} {fin fin' : S -> G -> Prop} {turn turn' : D -> (S -> G -> Prop) -> S -> G -> Prop} (h : ∀ σ g, fin σ g -> fin' σ g) (h2 : ∀ x N σ g, turn x N σ g -> turn' x N σ g) (q : turns k σ g fin turn) : turns k σ g fin' turn' := by
 obtain ⟨W, w0, q⟩ := q
 refine ⟨W, w0, fun i m σ g w => ?_⟩
 rcases q i m σ g w with ⟨a, b⟩ | ⟨x, a, N2, b, c⟩
 ·exact .inl ⟨a, h _ _ b⟩
 ·exact .inr ⟨x, a, N2, b, h2 _ _ _ _ c⟩
theorem turnsC_mono {k σ g} {fin fin' : List D -> G -> Prop} {turn turn' : D -> (Option D -> S -> G -> Prop) -> S -> G -> Prop} (h : ∀ ys g, fin ys g -> fin' ys g) (h2 : ∀ x N σ g, turn x N σ g -> turn' x N σ g) (q : turnsC k σ g fin turn) : turnsC k σ g fin' turn' := by
 obtain ⟨W, w0, q⟩ := q
 refine ⟨W, w0, fun i m ys σ g w => ?_⟩
 rcases q i m ys σ g w with ⟨a, b⟩ | ⟨x, a, b, c⟩
 ·exact .inl ⟨a, h _ _ b⟩
 ·exact .inr ⟨x, a, b, h2 _ _ _ _ c⟩
theorem turnsU_mono {k σ g} {fin fin' : List Int -> G -> Prop} {turn turn' : D -> (Option Int -> S -> G -> Prop) -> S -> G -> Prop} (h : ∀ ys g, fin ys g -> fin' ys g) (h2 : ∀ x N σ g, turn x N σ g -> turn' x N σ g) (q : turnsU k σ g fin turn) : turnsU k σ g fin' turn' := by
 obtain ⟨W, w0, q⟩ := q
 refine ⟨W, w0, fun i m ys σ g w => ?_⟩
 rcases q i m ys σ g w with ⟨a, b, c⟩ | ⟨x, a, b, c⟩
 ·exact .inl ⟨a, b, h _ _ c⟩
 ·exact .inr ⟨x, a, b, h2 _ _ _ _ c⟩
theorem ite_mono {t : Bool} {A B A' B' : Prop} (h1 : A -> A') (h2 : B -> B') (q : if t = true then A else B) : if t = true then A' else B' := by
 cases t
 ·exact h2 q
 ·exact h1 q
noncomputable def SigMono (P : Sig) : Prop := ∀ f xs g Q Q' E E', (∀ d g, Q d g -> Q' d g) -> (∀ x g, E x g -> E' x g) -> P f xs g Q E -> P f xs g Q' E'
mutual
theorem wpE_mono {P : Sig} (hP : SigMono P) : ∀ (e : ME) (σ : S) (g : G) (Q Q' : KD) (E E' : KX), (∀ d g, Q d g -> Q' d g) -> (∀ x g, E x g -> E' x g) -> wpE P e σ g Q E -> wpE P e σ g Q' E'
 | .var i, σ, g, Q, Q', E, E', h, hx, q => by
  rw [wpE] at q ⊢; obtain ⟨d, a, b⟩ := q; exact ⟨d, a, h _ _ b⟩
 | .lit d, σ, g, Q, Q', E, E', h, hx, q => by rw [wpE] at q ⊢; exact h _ _ q
 | .prim p es, σ, g, Q, Q', E, E', h, hx, q => by
  rw [wpE] at q ⊢; exact wpA_mono hP es _ _ _ _ _ _ (fun xs g1 q => prP_mono h q) hx q
 | .meth p o es, σ, g, Q, Q', E, E', h, hx, q => by
  rw [wpE] at q ⊢; exact wpE_mono hP o _ _ _ _ _ _ (fun x g1 q => ⟨q.1, wpA_mono hP es _ _ _ _ _ _ (fun xs g2 q => prP_mono h q) hx q.2⟩) hx q
 | .dct es, σ, g, Q, Q', E, E', h, hx, q => by
  rw [wpE] at q ⊢; exact wpA_mono hP es _ _ _ _ _ _ (fun xs g1 ⟨kvs, a, b, c, d⟩ => ⟨kvs, a, b, c, h _ _ d⟩) hx q
 | .chain o1 o2 a b c, σ, g, Q, Q', E, E', h, hx, q => by
  rw [wpE] at q ⊢
  refine wpE_mono hP a _ _ _ _ _ _ (fun x g1 q => wpE_mono hP b _ _ _ _ _ _ (fun y g2 q => prP_mono (fun z g3 q => ?_) q) hx q) hx q
  obtain ⟨t, e, q⟩ := q
  exact ⟨t, e, ite_mono (fun q => wpE_mono hP c _ _ _ _ _ _ (fun w g4 q => prP_mono h q) hx q) (h _ _) q⟩
 | .and_ a b, σ, g, Q, Q', E, E', h, hx, q => by
  rw [wpE] at q ⊢
  refine wpE_mono hP a _ _ _ _ _ _ (fun x g1 q => ?_) hx q
  obtain ⟨t, e, q⟩ := q
  exact ⟨t, e, ite_mono (fun q => wpE_mono hP b _ _ _ _ _ _ h hx q) (h _ _) q⟩
 | .or_ a b, σ, g, Q, Q', E, E', h, hx, q => by
  rw [wpE] at q ⊢
  refine wpE_mono hP a _ _ _ _ _ _ (fun x g1 q => ?_) hx q
  obtain ⟨t, e, q⟩ := q
  exact ⟨t, e, ite_mono (h _ _) (fun q => wpE_mono hP b _ _ _ _ _ _ h hx q) q⟩
 | .not_ a, σ, g, Q, Q', E, E', h, hx, q => by
  rw [wpE] at q ⊢
  refine wpE_mono hP a _ _ _ _ _ _ (fun x g1 q => ?_) hx q
  obtain ⟨t, e, q⟩ := q
  exact ⟨t, e, h _ _ q⟩
 | .ite c a b, σ, g, Q, Q', E, E', h, hx, q => by
  rw [wpE] at q ⊢
  exact wpT_mono hP c _ _ _ _ _ _ (fun t g1 q => ite_mono (fun q => wpE_mono hP a _ _ _ _ _ _ h hx q) (fun q => wpE_mono hP b _ _ _ _ _ _ h hx q) q) hx q
 | .call f es, σ, g, Q, Q', E, E', h, hx, q => by
  rw [wpE] at q ⊢; exact wpA_mono hP es _ _ _ _ _ _ (fun xs g1 q => hP _ _ _ _ _ _ _ h hx q) hx q
 | .make c f es, σ, g, Q, Q', E, E', h, hx, q => by
  rw [wpE] at q ⊢; exact wpA_mono hP es _ _ _ _ _ _ (fun xs g1 q => hP _ _ _ _ _ _ _ (fun d g2 q => ⟨q.1, h _ _ q.2⟩) hx q) hx q
 | .methc m cs o es, σ, g, Q, Q', E, E', h, hx, q => by
  rw [wpE] at q ⊢
  refine wpE_mono hP o _ _ _ _ _ _ (fun x g1 q => ?_) hx q
  obtain ⟨a, c, fs, f, q1, q2, q3, q4, q⟩ := q
  exact ⟨a, c, fs, f, q1, q2, q3, q4, wpA_mono hP es _ _ _ _ _ _ (fun xs g2 q => hP _ _ _ _ _ _ _ h hx q) hx q⟩
 | .comp caps n tg it cond elt, σ, g, Q, Q', E, E', h, hx, q => by
  rw [wpE] at q ⊢; exact wpI_mono hP it _ _ _ _ _ _ (fun k g1 q => turnsC_mono (fun ys g q => h _ _ q) (fun _ _ _ _ q => q) q) hx q
 | .scomp caps n tg it cond elt, σ, g, Q, Q', E, E', h, hx, q => by
  rw [wpE] at q ⊢; exact wpI_mono hP it _ _ _ _ _ _ (fun k g1 q => turnsU_mono (fun ys g q => h _ _ q) (fun _ _ _ _ q => q) q) hx q
 | .nil, σ, g, Q, Q', E, E', h, hx, q => (show False from q).elim
 | .cons _ _, σ, g, Q, Q', E, E', h, hx, q => (show False from q).elim
 | .itE _, σ, g, Q, Q', E, E', h, hx, q => (show False from q).elim
 | .itR1 _, σ, g, Q, Q', E, E', h, hx, q => (show False from q).elim
 | .itR2 _ _, σ, g, Q, Q', E, E', h, hx, q => (show False from q).elim
 | .itN _, σ, g, Q, Q', E, E', h, hx, q => (show False from q).elim
 | .tst _, σ, g, Q, Q', E, E', h, hx, q => (show False from q).elim
 | .no, σ, g, Q, Q', E, E', h, hx, q => (show False from q).elim
theorem wpA_mono {P : Sig} (hP : SigMono P) : ∀ (e : ME) (σ : S) (g : G) (Q Q' : List D -> G -> Prop) (E E' : KX), (∀ d g, Q d g -> Q' d g) -> (∀ x g, E x g -> E' x g) -> wpA P e σ g Q E -> wpA P e σ g Q' E'
 | .nil, σ, g, Q, Q', E, E', h, hx, q => by rw [wpA] at q ⊢; exact h _ _ q
 | .cons a b, σ, g, Q, Q', E, E', h, hx, q => by
  rw [wpA] at q ⊢; exact wpE_mono hP a _ _ _ _ _ _ (fun x g1 q => wpA_mono hP b _ _ _ _ _ _ (fun xs g2 q => h _ _ q) hx q) hx q
 | .var _, σ, g, Q, Q', E, E', h, hx, q | .lit _, σ, g, Q, Q', E, E', h, hx, q | .prim _ _, σ, g, Q, Q', E, E', h, hx, q | .meth _ _ _, σ, g, Q, Q', E, E', h, hx, q | .dct _, σ, g, Q, Q', E, E', h, hx, q | .chain _ _ _ _ _, σ, g, Q, Q', E, E', h, hx, q | .and_ _ _, σ, g, Q, Q', E, E', h, hx, q | .or_ _ _, σ, g, Q, Q', E, E', h, hx, q | .not_ _, σ, g, Q, Q', E, E', h, hx, q | .ite _ _ _, σ, g, Q, Q', E, E', h, hx, q | .call _ _, σ, g, Q, Q', E, E', h, hx, q
 | .make _ _ _, σ, g, Q, Q', E, E', h, hx, q | .methc _ _ _ _, σ, g, Q, Q', E, E', h, hx, q | .comp _ _ _ _ _ _, σ, g, Q, Q', E, E', h, hx, q | .scomp _ _ _ _ _ _, σ, g, Q, Q', E, E', h, hx, q | .itE _, σ, g, Q, Q', E, E', h, hx, q | .itR1 _, σ, g, Q, Q', E, E', h, hx, q | .itR2 _ _, σ, g, Q, Q', E, E', h, hx, q | .itN _, σ, g, Q, Q', E, E', h, hx, q | .tst _, σ, g, Q, Q', E, E', h, hx, q | .no, σ, g, Q, Q', E, E', h, hx, q => (show False from q).elim
theorem wpT_mono {P : Sig} (hP : SigMono P) : ∀ (e : ME) (σ : S) (g : G) (Q Q' : Bool -> G -> Prop) (E E' : KX), (∀ d g, Q d g -> Q' d g) -> (∀ x g, E x g -> E' x g) -> wpT P e σ g Q E -> wpT P e σ g Q' E'
 | .and_ a b, σ, g, Q, Q', E, E', h, hx, q => by
  rw [wpT] at q ⊢; exact wpT_mono hP a _ _ _ _ _ _ (fun t g1 q => ite_mono (fun q => wpT_mono hP b _ _ _ _ _ _ h hx q) (h _ _) q) hx q
 | .or_ a b, σ, g, Q, Q', E, E', h, hx, q => by
  rw [wpT] at q ⊢; exact wpT_mono hP a _ _ _ _ _ _ (fun t g1 q => ite_mono (h _ _) (fun q => wpT_mono hP b _ _ _ _ _ _ h hx q) q) hx q
 | .not_ a, σ, g, Q, Q', E, E', h, hx, q => by rw [wpT] at q ⊢; exact wpT_mono hP a _ _ _ _ _ _ (fun t g1 q => h _ _ q) hx q
 | .no, σ, g, Q, Q', E, E', h, hx, q => by rw [wpT] at q ⊢; exact h _ _ q
 | .tst e, σ, g, Q, Q', E, E', h, hx, q => by rw [wpT] at q ⊢; exact wpE_mono hP e _ _ _ _ _ _ (fun x g1 q => truP_mono (fun b q => h _ _ q) q) hx q
 | .var _, σ, g, Q, Q', E, E', h, hx, q | .lit _, σ, g, Q, Q', E, E', h, hx, q | .prim _ _, σ, g, Q, Q', E, E', h, hx, q | .meth _ _ _, σ, g, Q, Q', E, E', h, hx, q | .dct _, σ, g, Q, Q', E, E', h, hx, q | .chain _ _ _ _ _, σ, g, Q, Q', E, E', h, hx, q | .ite _ _ _, σ, g, Q, Q', E, E', h, hx, q | .call _ _, σ, g, Q, Q', E, E', h, hx, q | .nil, σ, g, Q, Q', E, E', h, hx, q | .cons _ _, σ, g, Q, Q', E, E', h, hx, q
 | .make _ _ _, σ, g, Q, Q', E, E', h, hx, q | .methc _ _ _ _, σ, g, Q, Q', E, E', h, hx, q | .comp _ _ _ _ _ _, σ, g, Q, Q', E, E', h, hx, q | .scomp _ _ _ _ _ _, σ, g, Q, Q', E, E', h, hx, q | .itE _, σ, g, Q, Q', E, E', h, hx, q | .itR1 _, σ, g, Q, Q', E, E', h, hx, q | .itR2 _ _, σ, g, Q, Q', E, E', h, hx, q | .itN _, σ, g, Q, Q', E, E', h, hx, q => (show False from q).elim
theorem wpI_mono {P : Sig} (hP : SigMono P) : ∀ (e : ME) (σ : S) (g : G) (Q Q' : IK -> G -> Prop) (E E' : KX), (∀ d g, Q d g -> Q' d g) -> (∀ x g, E x g -> E' x g) -> wpI P e σ g Q E -> wpI P e σ g Q' E'
 | .itE e, σ, g, Q, Q', E, E', h, hx, q => by
  rw [wpI] at q ⊢
  exact wpE_mono hP e _ _ _ _ _ _ (fun x g1 q => q.imp (fun ⟨l, a, b⟩ => ⟨l, a, h _ _ b⟩) fun ⟨i, l, a, b, c⟩ => ⟨i, l, a, b, h _ _ c⟩) hx q
 | .itR1 a, σ, g, Q, Q', E, E', h, hx, q => by
  rw [wpI] at q ⊢; exact wpE_mono hP a _ _ _ _ _ _ (fun x g1 ⟨j, a, b, c, d⟩ => ⟨j, a, b, c, h _ _ d⟩) hx q
 | .itR2 a b, σ, g, Q, Q', E, E', h, hx, q => by
  rw [wpI] at q ⊢; exact wpE_mono hP a _ _ _ _ _ _ (fun x g1 q => wpE_mono hP b _ _ _ _ _ _ (fun y g2 ⟨i, j, a, b, c, d⟩ => ⟨i, j, a, b, c, h _ _ d⟩) hx q) hx q
 | .itN e, σ, g, Q, Q', E, E', h, hx, q => by
  rw [wpI] at q ⊢; exact wpE_mono hP e _ _ _ _ _ _ (fun x g1 ⟨i, l, a, b, c⟩ => ⟨i, l, a, b, h _ _ c⟩) hx q
 | .var _, σ, g, Q, Q', E, E', h, hx, q | .lit _, σ, g, Q, Q', E, E', h, hx, q | .prim _ _, σ, g, Q, Q', E, E', h, hx, q | .meth _ _ _, σ, g, Q, Q', E, E', h, hx, q | .dct _, σ, g, Q, Q', E, E', h, hx, q | .chain _ _ _ _ _, σ, g, Q, Q', E, E', h, hx, q | .ite _ _ _, σ, g, Q, Q', E, E', h, hx, q | .call _ _, σ, g, Q, Q', E, E', h, hx, q | .nil, σ, g, Q, Q', E, E', h, hx, q | .cons _ _, σ, g, Q, Q', E, E', h, hx, q
 | .and_ _ _, σ, g, Q, Q', E, E', h, hx, q | .or_ _ _, σ, g, Q, Q', E, E', h, hx, q | .not_ _, σ, g, Q, Q', E, E', h, hx, q | .tst _, σ, g, Q, Q', E, E', h, hx, q | .no, σ, g, Q, Q', E, E', h, hx, q
 | .make _ _ _, σ, g, Q, Q', E, E', h, hx, q | .methc _ _ _ _, σ, g, Q, Q', E, E', h, hx, q | .comp _ _ _ _ _ _, σ, g, Q, Q', E, E', h, hx, q | .scomp _ _ _ _ _ _, σ, g, Q, Q', E, E', h, hx, q => (show False from q).elim
end
structure Ends.le (N N' : Ends) : Prop where
 nx : ∀ σ g, N.nx σ g -> N'.nx σ g
 rt : ∀ d g, N.rt d g -> N'.rt d g
 bk : ∀ σ g, N.bk σ g -> N'.bk σ g
 ct : ∀ σ g, N.ct σ g -> N'.ct σ g
theorem wpH_mono {P : Sig} (hP : SigMono P) {N N' : Ends} (h : N.le N') {σ : S} : ∀ (hs : List (Str × ME)) x g, wpH P N σ hs x g -> wpH P N' σ hs x g
 | [], _, _, q => q.elim
 | (y, e) :: r, x, g, q => by
  unfold wpH at q ⊢
  split
  ·rename_i hh; rw [if_pos hh] at q; exact wpE_mono hP e _ _ _ _ _ _ h.rt (fun _ _ z => z) q
  ·rename_i hh; rw [if_neg hh] at q; exact wpH_mono hP h r x g q
theorem wpS_mono {P : Sig} (hP : SigMono P) : ∀ (s : MS) (N N' : Ends) (σ : S) (g : G) (E E' : KX), N.le N' -> (∀ x g, E x g -> E' x g) -> wpS P s N σ g E -> wpS P s N' σ g E'
 | .pass, N, N', σ, g, E, E', h, hx, q => h.nx _ _ q
 | .seq a b, N, N', σ, g, E, E', h, hx, q => wpS_mono hP a { N with nx := fun σ1 g1 => wpS P b N σ1 g1 E } { N' with nx := fun σ1 g1 => wpS P b N' σ1 g1 E' } _ _ _ _ ⟨fun σ1 g1 q => wpS_mono hP b _ _ _ _ _ _ h hx q, h.rt, h.bk, h.ct⟩ hx q
 | .expr e, N, N', σ, g, E, E', h, hx, q => wpE_mono hP e _ _ _ _ _ _ (fun x g1 q => h.nx _ _ q) hx q
 | .set i e, N, N', σ, g, E, E', h, hx, q => wpE_mono hP e _ _ _ _ _ _ (fun x g1 q => h.nx _ _ q) hx q
 | .unp t e, N, N', σ, g, E, E', h, hx, q => wpE_mono hP e _ _ _ _ _ _ (fun x g1 q => tgP_mono (fun σ q => h.nx _ _ q) q) hx q
 | .setix o i v, N, N', σ, g, E, E', h, hx, q => wpE_mono hP v _ _ _ _ _ _ (fun x g1 q => wpE_mono hP o _ _ _ _ _ _ (fun y g2 q => wpE_mono hP i _ _ _ _ _ _ (fun z g3 q => setP_mono (fun g q => h.nx _ _ q) q) hx q) hx q) hx q
 | .setf f cs o v, N, N', σ, g, E, E', h, hx, q => wpE_mono hP v _ _ _ _ _ _ (fun x g1 q => wpE_mono hP o _ _ _ _ _ _ (fun y g2 q => setfP_mono (fun g q => h.nx _ _ q) q) hx q) hx q
 | .augf f cs o v, N, N', σ, g, E, E', h, hx, q => wpE_mono hP o _ _ _ _ _ _ (fun y g1 q => by
   obtain ⟨a, c, fs, x, q1, q2, q3, q4, q⟩ := q
   exact ⟨a, c, fs, x, q1, q2, q3, q4, wpE_mono hP v _ _ _ _ _ _ (fun z g3 q => prP_mono (fun w g4 q => by
    obtain ⟨fs', k1, k2, k3⟩ := q
    exact ⟨fs', k1, k2, h.nx _ _ k3⟩) q) hx q⟩) hx q
 | .ifs c a b, N, N', σ, g, E, E', h, hx, q => wpT_mono hP c _ _ _ _ _ _ (fun t g1 q => ite_mono (fun q => wpS_mono hP a _ _ _ _ _ _ h hx q) (fun q => wpS_mono hP b _ _ _ _ _ _ h hx q) q) hx q
 | .for_ t it b, N, N', σ, g, E, E', h, hx, q => wpI_mono hP it _ _ _ _ _ _ (fun k g1 q => turns_mono h.nx (fun x N2 σ g q => tgP_mono (fun σ2 q => wpS_mono hP b { N with nx := N2, ct := N2, bk := N.nx } { N' with nx := N2, ct := N2, bk := N'.nx } _ _ _ _ ⟨fun _ _ z => z, h.rt, h.nx, fun _ _ z => z⟩ hx q) q) q) hx q
 | .whil c b, N, N', σ, g, E, E', h, hx, q => by
  obtain ⟨W, w0, q⟩ := q
  refine ⟨W, w0, fun m σ g w => wpT_mono hP c _ _ _ _ _ _ (fun t g1 q => ite_mono (fun q => ?_) (h.nx _ _) q) hx (q m σ g w)⟩
  obtain ⟨N2, a, q⟩ := q
  exact ⟨N2, a, wpS_mono hP b { N with nx := N2, ct := N2, bk := N.nx } { N' with nx := N2, ct := N2, bk := N'.nx } _ _ _ _ ⟨fun _ _ z => z, h.rt, h.nx, fun _ _ z => z⟩ hx q⟩
 | .ret e, N, N', σ, g, E, E', h, hx, q => wpE_mono hP e _ _ _ _ _ _ h.rt hx q
 | .retn, N, N', σ, g, E, E', h, hx, q => h.rt _ _ q
 | .brk, N, N', σ, g, E, E', h, hx, q => h.bk _ _ q
 | .cont, N, N', σ, g, E, E', h, hx, q => h.ct _ _ q
 | .raise x es, N, N', σ, g, E, E', h, hx, q => wpA_mono hP es _ _ _ _ _ _ (fun vs g1 q => ⟨q.1, hx _ _ q.2⟩) hx q
 | .try_ b hs, N, N', σ, g, E, E', h, hx, q => wpS_mono hP b _ _ _ _ _ _ h (fun x g q => wpH_mono hP h hs x g q) q
theorem callW_mono (T : Nat -> Option MDef) : ∀ k, SigMono (callW T k)
 | 0 => fun f xs g Q Q' E E' h hx q => q.elim
 | k + 1 => fun f xs g Q Q' E E' h hx q => by
  obtain ⟨m, a, b, q⟩ := q
  exact ⟨m, a, b, wpS_mono (callW_mono T k) m.body ⟨fun _ g' => Q .non g', Q, fun _ _ => False, fun _ _ => False⟩ _ _ _ _ _ ⟨fun _ _ z => h _ _ z, h, fun _ _ z => z, fun _ _ z => z⟩ hx q⟩
end M

namespace M
open PySem L2
noncomputable def TupAt (K : PySem.W.Frag) (H : Hp) (a : Addr) (vs : List V) : Prop :=
 H a = some (.tup vs) \/ ∃ (o : Obj) (its : Array Value) (n : Nat), K.lookup a = some o /\ o.cls = .type "tuple" /\ o.dict = none /\ o.data = .seq its n /\ its.size <= sizeLine /\ Vals vs its.toList
theorem TupAt.d {K : PySem.W.Frag} {H : Hp} {a : Addr} {vs : List V} (h : TupAt K H a vs) : TupD K H a vs := h
theorem TupAt.sq {K : PySem.W.Frag} {H : Hp} {a : Addr} {vs : List V} (h : TupAt K H a vs) : SqT K H a vs := h.d.sq
mutual
inductive DRel (K : PySem.W.Frag) (ρ : List Addr) (H : Hp) : D -> V -> Prop
 | non : DRel K ρ H .non .non
 | bl (b : Bool) : DRel K ρ H (.bl b) (.bl b)
 | int (i : Int) : DRel K ρ H (.int i) (.int i)
 | str (x : Str) : DRel K ρ H (.str x) (.str x)
 | ty (n : String) : DRel K ρ H (.ty n) (.ty n)
 | ref {i : Nat} {a : Addr} (h : ρ[i]? = some a) : DRel K ρ H (.ref i) (.ref a)
 | tup {l : List D} {a : Addr} {vs : List V} (h : TupAt K H a vs) (r : DRels K ρ H l vs) : DRel K ρ H (.tup l) (.ref a)
inductive DRels (K : PySem.W.Frag) (ρ : List Addr) (H : Hp) : List D -> List V -> Prop
 | nil : DRels K ρ H [] []
 | cons {d : D} {v : V} {ds : List D} {vs : List V} (h : DRel K ρ H d v) (r : DRels K ρ H ds vs) : DRels K ρ H (d :: ds) (v :: vs)
end
structure Ext (ρ : List Addr) (H : Hp) (ρ' : List Addr) (H' : Hp) : Prop where
 pre : ∃ more, ρ' = ρ ++ more
 tup : ∀ a xs, H a = some (.tup xs) -> H' a = some (.tup xs)
theorem Ext.refl (ρ : List Addr) (H : Hp) : Ext ρ H ρ H := ⟨⟨[], by simp⟩, fun _ _ h => h⟩
theorem Ext.trans {ρ H ρ1 H1 ρ2 H2} (a : Ext ρ H ρ1 H1) (b : Ext ρ1 H1 ρ2 H2) : Ext ρ H ρ2 H2 := by
 obtain ⟨⟨m, rfl⟩, t⟩ := a
 obtain ⟨⟨m', rfl⟩, t'⟩ := b
 exact ⟨⟨m ++ m', by simp⟩, fun x xs h => t' _ _ (t _ _ h)⟩
theorem Ext.get {ρ H ρ' H'} (e : Ext ρ H ρ' H') {i : Nat} {a : Addr} (h : ρ[i]? = some a) : ρ'[i]? = some a := by
 obtain ⟨⟨m, rfl⟩, _⟩ := e
 rw [List.getElem?_append_left (List.getElem?_eq_some_iff.mp h).1]
 exact h
theorem TupAt.ext {K ρ H ρ' H'} (e : Ext ρ H ρ' H') {a : Addr} {vs : List V} (h : TupAt K H a vs) : TupAt K H' a vs := h.elim (fun z => .inl (e.tup _ _ z)) .inr
mutual
theorem DRel.ext {K ρ H ρ' H'} (e : Ext ρ H ρ' H') : ∀ {d v}, DRel K ρ H d v -> DRel K ρ' H' d v
 | _, _, .non => .non
 | _, _, .bl b => .bl b
 | _, _, .int i => .int i
 | _, _, .str x => .str x
 | _, _, .ty n => .ty n
 | _, _, .ref h => .ref (e.get h)
 | _, _, .tup h r => .tup (h.ext e) (DRels.ext e r)
theorem DRels.ext {K ρ H ρ' H'} (e : Ext ρ H ρ' H') : ∀ {ds vs}, DRels K ρ H ds vs -> DRels K ρ' H' ds vs
 | _, _, .nil => .nil
 | _, _, .cons h r => .cons (DRel.ext e h) (DRels.ext e r)
end
theorem DRels.length {K ρ H} : ∀ {ds vs}, DRels K ρ H ds vs -> ds.length = vs.length
 | _, _, .nil => rfl
 | _, _, .cons _ r => by simp [DRels.length r]
theorem DRels.get {K ρ H} : ∀ {ds vs} {i : Nat} {d : D}, DRels K ρ H ds vs -> ds[i]? = some d -> ∃ v, vs[i]? = some v /\ DRel K ρ H d v
 | _, _, _, _, .nil, h => by simp at h
 | _, _, 0, _, .cons h _, e => by simp at e; subst e; exact ⟨_, rfl, h⟩
 | _, _, i + 1, d, .cons _ r, e => by
  obtain ⟨v, h1, h2⟩ := DRels.get (i := i) (d := d) r (by simpa using e)
  exact ⟨v, by simpa using h1, h2⟩
theorem DRels.set {K ρ H} {d : D} {v : V} (h : DRel K ρ H d v) : ∀ {ds vs} (i : Nat), DRels K ρ H ds vs -> DRels K ρ H (ds.set i d) (vs.set i v)
 | _, _, _, .nil => .nil
 | _, _, 0, .cons _ r => .cons h r
 | _, _, i + 1, .cons q r => .cons q (DRels.set h i r)
theorem DRels.append {K ρ H} : ∀ {ds es : List D} {vs ws : List V}, DRels K ρ H ds vs -> DRels K ρ H es ws -> DRels K ρ H (ds ++ es) (vs ++ ws)
 | _, _, _, _, .nil, s => s
 | _, _, _, _, .cons h r, s => .cons h (DRels.append r s)
theorem DRels.rep {K ρ H} {ds : List D} {vs : List V} (r : DRels K ρ H ds vs) : ∀ n, DRels K ρ H (List.replicate n ds).flatten (List.replicate n vs).flatten
 | 0 => .nil
 | n + 1 => by
  rw [List.replicate_succ, List.replicate_succ, List.flatten_cons, List.flatten_cons]
  exact DRels.append r (DRels.rep r n)
theorem DRels.erase {K ρ H} : ∀ {ds : List D} {vs : List V} (i : Nat), DRels K ρ H ds vs -> DRels K ρ H (ds.eraseIdx i) (vs.eraseIdx i)
 | _, _, _, .nil => .nil
 | _, _, 0, .cons _ r => r
 | _, _, i + 1, .cons q r => .cons q (DRels.erase i r)
theorem DRels.take {K ρ H} : ∀ {ds : List D} {vs : List V} (n : Nat), DRels K ρ H ds vs -> DRels K ρ H (ds.take n) (vs.take n)
 | _, _, 0, _ => .nil
 | _, _, _ + 1, .nil => .nil
 | _, _, n + 1, .cons h r => .cons h (DRels.take n r)
theorem DRels.drop {K ρ H} : ∀ {ds : List D} {vs : List V} (n : Nat), DRels K ρ H ds vs -> DRels K ρ H (ds.drop n) (vs.drop n)
 | _, _, 0, r => r
 | _, _, _ + 1, .nil => .nil
 | _, _, n + 1, .cons _ r => DRels.drop n r
theorem DRels.reverse {K ρ H} : ∀ {ds : List D} {vs : List V}, DRels K ρ H ds vs -> DRels K ρ H ds.reverse vs.reverse
 | _, _, .nil => .nil
 | _, _, .cons h r => by
  rw [List.reverse_cons, List.reverse_cons]
  exact DRels.append (DRels.reverse r) (.cons h .nil)
theorem DRels.cut {K ρ H} {ds : List D} {vs : List V} (r : DRels K ρ H ds vs) (lo hi : Option Int) : DRels K ρ H (M.cut ds lo hi) (cutV vs lo hi) := by
 unfold M.cut cutV
 rw [r.length]
 exact (r.drop _).take _
theorem DRels.ofInts {K ρ H} : ∀ (ns : List Int), DRels K ρ H (ns.map D.int) (ns.map V.int)
 | [] => .nil
 | n :: r => .cons (.int n) (DRels.ofInts r)
noncomputable def FroAt (K : PySem.W.Frag) (H : Hp) (a : Addr) (vs : List V) : Prop :=
 (∃ o, H a = some (.frz o (.lst vs))) \/ ∃ (o : Obj) (its : Array Value) (n : Nat), K.lookup a = some o /\ o.cls = .type "list" /\ o.dict = none /\ o.data = .seq its n /\ its.size <= sizeLine /\ Vals vs its.toList
theorem FroAt.sq {K : PySem.W.Frag} {H : Hp} {a : Addr} {vs : List V} (h : FroAt K H a vs) : SqL K H a vs := h.elim (fun ⟨o, z⟩ => .inl (.inr ⟨o, z⟩)) .inr
inductive KRels {α : Type} (K : PySem.W.Frag) (ρ : List Addr) (H : Hp) : List (α × D) -> List (α × V) -> Prop
 | nil : KRels K ρ H [] []
 | cons {k : α} {d : D} {v : V} {ds : List (α × D)} {vs : List (α × V)} (h : DRel K ρ H d v) (r : KRels K ρ H ds vs) : KRels K ρ H ((k, d) :: ds) ((k, v) :: vs)
theorem KRels.ext {α : Type} {K ρ H ρ' H'} (e : Ext ρ H ρ' H') {ds : List (α × D)} {vs : List (α × V)} (h : KRels K ρ H ds vs) : KRels K ρ' H' ds vs := by
 induction h with
 | nil => exact .nil
 | cons h r ih => exact .cons (h.ext e) ih
theorem KRels.length {α : Type} {K ρ H} {ds : List (α × D)} {vs : List (α × V)} (h : KRels K ρ H ds vs) : ds.length = vs.length := by
 induction h with
 | nil => rfl
 | cons h r ih => simp [ih]
noncomputable def ORelV (K : PySem.W.Frag) (ρ : List Addr) (H : Hp) : Option D -> Option V -> Prop
 | some d, some v => DRel K ρ H d v
 | none, none => True
 | _, _ => False
theorem KRels.val {K ρ H} : ∀ {ds vs} (k : Key), KRels K ρ H ds vs -> ORelV K ρ H (valD ds k) (valV vs k)
 | _, _, k, .nil => trivial
 | _, _, k, .cons (k := k') h r => by
  unfold valD valV
  rw [List.find?_cons, List.find?_cons]
  by_cases e : k' = k
  ·simp only [e, decide_true]; exact h
  ·simp only [e, decide_false]; exact KRels.val k r
theorem KRels.anyEq {K ρ H} : ∀ {ds vs} (k : Key), KRels K ρ H ds vs -> (ds.any fun kv => decide (kv.1 = k)) = (vs.any fun kv => decide (kv.1 = k))
 | _, _, k, .nil => rfl
 | _, _, k, .cons h r => by simp only [List.any_cons, KRels.anyEq k r]
theorem KRels.snoc {K ρ H} {k : Key} {d : D} {v : V} (h : DRel K ρ H d v) : ∀ {ds vs}, KRels K ρ H ds vs -> KRels K ρ H (ds ++ [(k, d)]) (vs ++ [(k, v)])
 | _, _, .nil => .cons h .nil
 | _, _, .cons q r => .cons q (KRels.snoc h r)
theorem KRels.mapPut {K ρ H} {k : Key} {d : D} {v : V} (h : DRel K ρ H d v) : ∀ {ds vs}, KRels K ρ H ds vs -> KRels K ρ H (ds.map fun kv => if kv.1 = k then (kv.1, d) else kv) (vs.map fun kv => if kv.1 = k then (kv.1, v) else kv)
 | _, _, .nil => .nil
 | _, _, .cons (k := k') q r => by
  simp only [List.map_cons]
  by_cases e : k' = k
  ·rw [if_pos e, if_pos e]; exact .cons h (KRels.mapPut h r)
  ·rw [if_neg e, if_neg e]; exact .cons q (KRels.mapPut h r)
theorem KRels.put {K ρ H} {k : Key} {d : D} {v : V} (h : DRel K ρ H d v) {ds vs} (r : KRels K ρ H ds vs) : KRels K ρ H (putD ds k d) (putK vs k v) := by
 unfold putD putK
 rw [r.anyEq k]
 split
 ·exact r.mapPut h
 ·exact r.snoc h
noncomputable abbrev IsCls (K : PySem.W.Frag) (x : Str) (C : Addr) : Prop := PySem.W.nsIn K mainGlobals x = some (some (.ref C))
theorem KRels.look {K ρ H} {ds : List (Str × D)} {vs : List (Str × V)} (f : Str) (h : KRels K ρ H ds vs) : ORelV K ρ H (ds.lookup f) (vs.lookup f) := by
 induction h with
 | nil => trivial
 | cons h r ih =>
  rename_i k d v ds vs
  rw [List.lookup_cons, List.lookup_cons]
  cases f == k
  ·exact ih
  ·exact h
theorem KRels.putF {K ρ H} {f : Str} {d : D} {v : V} (h : DRel K ρ H d v) {ds : List (Str × D)} {vs : List (Str × V)} (r : KRels K ρ H ds vs) : KRels K ρ H (putFD f d ds) (L2.putF f v vs) := by
 induction r with
 | nil => exact .cons h .nil
 | cons q r ih =>
  unfold putFD L2.putF
  split
  ·exact .cons h r
  ·exact .cons q ih
theorem putFD_keys {f : Str} {d : D} {p : Str -> Prop} (hf : p f) : ∀ {ds : List (Str × D)}, (∀ x ∈ ds, p x.1) -> ∀ x ∈ putFD f d ds, p x.1
 | [], _, x, hx => by
  have : x = (f, d) := by simpa [putFD] using hx
  rw [this]; exact hf
 | (k, e) :: r, h, x, hx => by
  unfold putFD at hx
  split at hx
  ·rcases List.mem_cons.mp hx with z | z
   ·rw [z]; exact h (k, e) (by simp)
   ·exact h x (by simp [z])
  ·rcases List.mem_cons.mp hx with z | z
   ·rw [z]; exact h (k, e) (by simp)
   ·exact putFD_keys hf (fun y hy => h y (by simp [hy])) x z
noncomputable def OH (K : PySem.W.Frag) (ρ : List Addr) (H : Hp) : O -> HO -> Prop
 | .lst l, .lst vs => DRels K ρ H l vs
 | .dic kvs, .dK vs => KRels K ρ H kvs vs
 | .ins c fs, .ins C _ vs => IsCls K c C /\ Cls K C /\ KRels K ρ H fs vs /\ ∀ x ∈ fs, NoAttr K C x.1
 | _, _ => False
theorem OH.ext {K ρ H ρ' H'} (e : Ext ρ H ρ' H') {o : O} {u : HO} (h : OH K ρ H o u) : OH K ρ' H' o u := by
 cases o <;> cases u <;> first | exact h.elim | exact DRels.ext e h | exact KRels.ext e h | exact ⟨h.1, h.2.1, h.2.2.1.ext e, h.2.2.2⟩
theorem OH.mut {K ρ H} {o : O} {u : HO} (h : OH K ρ H o u) : o.mut = true := by
 cases o <;> first | rfl | (cases u <;> exact h.elim)
theorem OH.noTup {K ρ H} {o : O} {xs : List V} (h : OH K ρ H o (.tup xs)) : False := by cases o <;> exact h
theorem OH.noFrz {K ρ H} {o : O} {ob : Obj} {u : HO} (h : OH K ρ H o (.frz ob u)) : False := by cases o <;> exact h
noncomputable def ORel (K : PySem.W.Frag) (ρ : List Addr) (H : Hp) (o : O) (a : Addr) : Prop := match o with
 | .fro l => ∃ vs, FroAt K H a vs /\ DRels K ρ H l vs
 | o => ∃ u, H a = some u /\ OH K ρ H o u
theorem ORel.of {K ρ H} {o : O} {a : Addr} {u : HO} (hu : H a = some u) (h : OH K ρ H o u) : ORel K ρ H o a := by
 cases o <;> first | exact ⟨u, hu, h⟩ | (cases u <;> exact h.elim)
theorem ORel.inv {K ρ H} {o : O} {a : Addr} (m : o.mut = true) (h : ORel K ρ H o a) : ∃ u, H a = some u /\ OH K ρ H o u := by
 cases o <;> first | exact h | cases m
theorem ORel.lst {K ρ H} {l : List D} {a : Addr} (h : ORel K ρ H (.lst l) a) : ∃ vs, H a = some (.lst vs) /\ DRels K ρ H l vs := by
 obtain ⟨u, h1, h2⟩ := h
 cases u <;> first | exact ⟨_, h1, h2⟩ | exact h2.elim
theorem ORel.dic {K ρ H} {l : List (Key × D)} {a : Addr} (h : ORel K ρ H (.dic l) a) : ∃ vs, H a = some (.dK vs) /\ KRels K ρ H l vs := by
 obtain ⟨u, h1, h2⟩ := h
 cases u <;> first | exact ⟨_, h1, h2⟩ | exact h2.elim
theorem ORel.ins {K ρ H} {c : Str} {fs : List (Str × D)} {a : Addr} (h : ORel K ρ H (.ins c fs) a) : ∃ C dx vs, H a = some (.ins C dx vs) /\ IsCls K c C /\ Cls K C /\ KRels K ρ H fs vs /\ ∀ x ∈ fs, NoAttr K C x.1 := by
 obtain ⟨u, h1, h2⟩ := h
 cases u <;> first | exact ⟨_, _, _, h1, h2⟩ | exact h2.elim
structure Rl (K : PySem.W.Frag) (ρ : List Addr) (g : G) (H : Hp) : Prop where
 len : ρ.length = g.length
 obj : ∀ (i : Nat) o a, g[i]? = some o -> ρ[i]? = some a -> ORel K ρ H o a
 nd : ∀ (i j : Nat) o o' a, g[i]? = some o -> g[j]? = some o' -> o.mut = true -> o'.mut = true -> ρ[i]? = some a -> ρ[j]? = some a -> i = j
section
variable {K : PySem.W.Frag} {ρ : List Addr} {g : G} {H : Hp}
theorem Rl.lst (R : Rl K ρ g H) {i : Nat} {l : List D} {a : Addr} (h : g[i]? = some (.lst l)) (ha : ρ[i]? = some a) : ∃ vs, H a = some (.lst vs) /\ DRels K ρ H l vs := (R.obj _ _ _ h ha).lst
theorem Rl.dic (R : Rl K ρ g H) {i : Nat} {l : List (Key × D)} {a : Addr} (h : g[i]? = some (.dic l)) (ha : ρ[i]? = some a) : ∃ vs, H a = some (.dK vs) /\ KRels K ρ H l vs := (R.obj _ _ _ h ha).dic
theorem Rl.ins (R : Rl K ρ g H) {i : Nat} {c : Str} {fs : List (Str × D)} {a : Addr} (h : g[i]? = some (.ins c fs)) (ha : ρ[i]? = some a) : ∃ C dx vs, H a = some (.ins C dx vs) /\ IsCls K c C /\ Cls K C /\ KRels K ρ H fs vs /\ ∀ x ∈ fs, NoAttr K C x.1 := (R.obj _ _ _ h ha).ins
theorem Rl.items (R : Rl K ρ g H) {i : Nat} {l : List D} {a : Addr} (h : itemsL g i = some l) (ha : ρ[i]? = some a) : ∃ vs, SqL K H a vs /\ DRels K ρ H l vs := by
 cases e : g[i]? with
 | none => rw [itemsL, e] at h; cases h
 | some o =>
  rw [itemsL, e] at h
  have q := R.obj _ _ _ e ha
  cases o with
  | lst m => cases h; obtain ⟨vs, z, r⟩ := q.lst; exact ⟨vs, SqL.of z, r⟩
  | fro m => cases h; obtain ⟨vs, z, r⟩ := q; exact ⟨vs, z.sq, r⟩
  | _ => cases h
theorem upd_ext {p : Addr} {o : HO} (hp : H p = none) : Ext ρ H ρ (upd H p o) := ⟨⟨[], by simp⟩, fun a xs h => by rw [upd_ne (ne_of_none h hp)]; exact h⟩
theorem FroAt.upd {p a : Addr} {o : HO} {vs : List V} (h : FroAt K H a vs) (hp : ∀ ob u, H p ≠ some (.frz ob u)) : FroAt K (upd H p o) a vs := by
 rcases h with ⟨ob, z⟩ | z
 ·refine .inl ⟨ob, ?_⟩
  rw [upd_ne ?_]
  ·exact z
  ·intro e
   subst e
   exact hp _ _ z
 ·exact .inr z
theorem ORel.upd {p a : Addr} {o : O} {u : HO} {ρ' : List Addr} (h : ORel K ρ H o a) (hne : o.mut = true -> a ≠ p) (hp : ∀ ob u, H p ≠ some (.frz ob u)) (e : Ext ρ H ρ' (L2.upd H p u)) : ORel K ρ' (L2.upd H p u) o a := by
 cases hm : o.mut with
 | true =>
  obtain ⟨u', h1, h2⟩ := h.inv hm
  exact .of (by rw [upd_ne (hne hm)]; exact h1) (h2.ext e)
 | false =>
  cases o <;> first | cases hm | skip
  obtain ⟨vs, z, r⟩ := h
  exact ⟨vs, z.upd hp, r.ext e⟩
theorem Rl.grow {p : Addr} {o : HO} (R : Rl K ρ g H) (hp : H p = none) : Rl K ρ g (upd H p o) := by
 have e : Ext ρ H ρ (upd H p o) := upd_ext hp
 refine ⟨R.len, fun i ob a h1 h2 => ?_, R.nd⟩
 have q := R.obj _ _ _ h1 h2
 refine q.upd (fun hm => ?_) (fun ob u z => by rw [hp] at z; cases z) e
 obtain ⟨u, h1, _⟩ := q.inv hm
 exact ne_of_none h1 hp
theorem Rl.snoc_get (R : Rl K ρ g H) (p : Addr) : (ρ ++ [p])[g.length]? = some p := by rw [<- R.len]; simp
theorem ext_snoc {p : Addr} {o : HO} (hp : H p = none) : Ext ρ H (ρ ++ [p]) (upd H p o) := ⟨⟨[p], rfl⟩, (upd_ext (ρ := ρ) hp).tup⟩
theorem Rl.new {p : Addr} {o : O} {u : HO} (R : Rl K ρ g H) (hp : H p = none) (r : OH K ρ H o u) : Rl K (ρ ++ [p]) (g ++ [o]) (upd H p u) := by
 have e : Ext ρ H (ρ ++ [p]) (upd H p u) := ext_snoc hp
 have old : ∀ {i : Nat} {ob : O} {a : Addr}, g[i]? = some ob -> (ρ ++ [p])[i]? = some a -> ρ[i]? = some a := fun {i ob a} h1 h2 => by
  rw [List.getElem?_append_left (by rw [R.len]; exact (List.getElem?_eq_some_iff.mp h1).1)] at h2
  exact h2
 have split : ∀ {i : Nat} {ob : O}, (g ++ [o])[i]? = some ob -> g[i]? = some ob \/ (i = g.length /\ ob = o) := fun {i ob} h => by
  rcases Nat.lt_trichotomy i g.length with q | q | q
  ·rw [List.getElem?_append_left q] at h; exact .inl h
  ·subst q; simp at h; exact .inr ⟨rfl, h.symm⟩
  ·rw [List.getElem?_eq_none (by simp; omega)] at h; cases h
 refine ⟨by simp [R.len], fun i ob a h1 h2 => ?_, fun i j o1 o2 a h1 h2 m1 m2 h3 h4 => ?_⟩
 ·rcases split h1 with q | ⟨rfl, rfl⟩
  ·have z := R.obj _ _ _ q (old q h2)
   refine z.upd (fun hm => ?_) (fun ob u z => by rw [hp] at z; cases z) e
   obtain ⟨u, h1, _⟩ := z.inv hm
   exact ne_of_none h1 hp
  ·rw [R.snoc_get] at h2
   cases h2
   exact .of upd_same (r.ext e)
 ·have nq : ∀ {i : Nat} {o : O} {a : Addr}, g[i]? = some o -> o.mut = true -> ρ[i]? = some a -> a ≠ p := fun {i o a} h1 hm h2 => by
   obtain ⟨u, z, _⟩ := (R.obj _ _ _ h1 h2).inv hm
   exact ne_of_none z hp
  rcases split h1 with q | ⟨rfl, _⟩
  ·rcases split h2 with q' | ⟨rfl, _⟩
   ·exact R.nd _ _ _ _ _ q q' m1 m2 (old q h3) (old q' h4)
   ·rw [R.snoc_get] at h4; cases h4
    exact absurd rfl (nq q m1 (old q h3))
  ·rcases split h2 with q' | ⟨rfl, _⟩
   ·rw [R.snoc_get] at h3; cases h3
    exact absurd rfl (nq q' m2 (old q' h4))
   ·rfl
theorem Rl.alloc {p : Addr} {l : List D} {vs : List V} (R : Rl K ρ g H) (hp : H p = none) (r : DRels K ρ H l vs) : Rl K (ρ ++ [p]) (g ++ [.lst l]) (upd H p (.lst vs)) := R.new hp r
theorem Rl.put {i : Nat} {a : Addr} {o o' : O} {u : HO} (R : Rl K ρ g H) (h : g[i]? = some o) (hm : o.mut = true) (ha : ρ[i]? = some a) (r : OH K ρ H o' u) :
  Rl K ρ (g.set i o') (upd H a u) /\ Ext ρ H ρ (upd H a u) := by
 obtain ⟨u0, z0, oh0⟩ := (R.obj _ _ _ h ha).inv hm
 have e : Ext ρ H ρ (upd H a u) := ⟨⟨[], by simp⟩, fun b xs q => by rw [upd_ne]; exact q; intro z; subst z; rw [z0] at q; cases q; exact oh0.noTup⟩
 refine ⟨⟨by simp [R.len], fun j ob b h1 h2 => ?_, fun j k o1 o2 b h1 h2 m1 m2 h3 h4 => ?_⟩, e⟩
 ·by_cases hij : i = j
  ·subst hij
   rw [ha] at h2; cases h2
   have hi : i < g.length := (List.getElem?_eq_some_iff.mp h).1
   rw [List.getElem?_set_self hi] at h1
   cases h1
   exact .of upd_same (r.ext e)
  ·rw [List.getElem?_set_ne hij] at h1
   refine (R.obj _ _ _ h1 h2).upd (fun hm' ez => ?_) (fun ob u z => by rw [z0] at z; cases z; exact oh0.noFrz) e
   subst ez
   exact hij (R.nd _ _ _ _ _ h h1 hm hm' ha h2)
 ·have back : ∀ {j : Nat} {m : O}, (g.set i o')[j]? = some m -> m.mut = true -> ∃ m', g[j]? = some m' /\ m'.mut = true := fun {j m} q hm' => by
   by_cases hij : i = j
   ·subst hij; exact ⟨o, h, hm⟩
   ·rw [List.getElem?_set_ne hij] at q; exact ⟨m, q, hm'⟩
  obtain ⟨_, q1, n1⟩ := back h1 m1
  obtain ⟨_, q2, n2⟩ := back h2 m2
  exact R.nd _ _ _ _ _ q1 q2 n1 n2 h3 h4
theorem Rl.write {i : Nat} {a : Addr} {l l' : List D} {vs : List V} (R : Rl K ρ g H) (h : g[i]? = some (.lst l)) (ha : ρ[i]? = some a) (r : DRels K ρ H l' vs) :
  Rl K ρ (g.set i (.lst l')) (upd H a (.lst vs)) /\ Ext ρ H ρ (upd H a (.lst vs)) := R.put h rfl ha r
end
structure SRel (K : PySem.W.Frag) (ρ : List Addr) (H : Hp) (σ : S) (σv : St) : Prop where
 len : σ.length = σv.length
 val : ∀ (i : Nat) d, σ[i]? = some (some d) -> ∃ v, σv[i]? = some (some v) /\ DRel K ρ H d v
section
variable {K : PySem.W.Frag} {ρ ρ' : List Addr} {H H' : Hp}
theorem SRel.ext {σ σv} (e : Ext ρ H ρ' H') (r : SRel K ρ H σ σv) : SRel K ρ' H' σ σv := ⟨r.len, fun i d h => let ⟨v, a, b⟩ := r.val i d h; ⟨v, a, b.ext e⟩⟩
theorem SRel.set {σ σv d v} (r : SRel K ρ H σ σv) (i : Nat) (h : DRel K ρ H d v) : SRel K ρ H (σ.set i (some d)) (σv.set i (some v)) := by
 refine ⟨by simp [r.len], fun j e q => ?_⟩
 by_cases hij : i = j
 ·subst hij
  have hi : i < σ.length := by
   have := (List.getElem?_eq_some_iff.mp q).1
   simpa using this
  rw [List.getElem?_set_self hi] at q
  cases q
  exact ⟨v, by rw [List.getElem?_set_self (by rw [<- r.len]; exact hi)], h⟩
 ·rw [List.getElem?_set_ne hij] at q ⊢
  exact r.val j e q
theorem SRel.start {ds vs} {n : Nat} (r : DRels K ρ H ds vs) : SRel K ρ H (ds.map some ++ List.replicate (n - ds.length) none) (vs.map some ++ List.replicate (n - vs.length) none) := by
 refine ⟨by simp [r.length], fun i d h => ?_⟩
 by_cases hi : i < ds.length
 ·rw [List.getElem?_append_left (by simpa using hi), List.getElem?_map] at h
  cases e : ds[i]? with
  | none => rw [e] at h; cases h
  | some x =>
   rw [e] at h
   cases h
   obtain ⟨v, h1, h2⟩ := r.get e
   refine ⟨v, ?_, h2⟩
   rw [List.getElem?_append_left (by rw [List.length_map, <- r.length]; exact hi), List.getElem?_map, h1]
   rfl
 ·rw [List.getElem?_append_right (by simpa using hi), List.getElem?_replicate] at h
  split at h <;> cases h
theorem SRel.caps {σ σv} (r : SRel K ρ H σ σv) (caps : List Nat) (n : Nat) : SRel K ρ H (capsD σ caps n) (capsSt σv caps n) := by
 refine ⟨by simp [capsD, capsSt], fun i d h => ?_⟩
 unfold capsD at h
 unfold capsSt
 by_cases hi : i < caps.length
 ·rw [List.getElem?_append_left (by simpa using hi), List.getElem?_map, List.getElem?_eq_getElem hi] at h
  rw [List.getElem?_append_left (by simpa using hi), List.getElem?_map, List.getElem?_eq_getElem hi]
  simp only [Option.map_some] at h ⊢
  cases e : σ[caps[i]]? with
  | none => rw [e] at h; cases h
  | some x =>
   rw [e] at h
   have hx : x = some d := Option.some.inj h
   subst hx
   obtain ⟨v, h1, h2⟩ := r.val _ _ e
   exact ⟨v, by rw [h1]; rfl, h2⟩
 ·rw [List.getElem?_append_right (by simpa using hi), List.getElem?_replicate] at h
  split at h <;> cases h
end
end M

namespace M
open PySem L2 PySem.Spec PyProof.Rows
noncomputable def LQ (K : PySem.W.Frag) (ρ : List Addr) (H : Hp) (Q : VK) : KD := fun d g' => ∀ ρ' H' v, Ext ρ H ρ' H' -> Rl K ρ' g' H' -> DRel K ρ' H' d v -> Q v H'
theorem LQ.ext {K ρ H ρ1 H1 Q d g} (e : Ext ρ H ρ1 H1) (h : LQ K ρ H Q d g) : LQ K ρ1 H1 Q d g := fun ρ' H' v e' R r => h ρ' H' v (e.trans e') R r
theorem LQ.now {K ρ H Q d g v} (h : LQ K ρ H Q d g) (R : Rl K ρ g H) (r : DRel K ρ H d v) : Q v H := h ρ H v (.refl _ _) R r
theorem LQ.new {K ρ H Q} {g : G} {l : List D} {vs : List V} {p : Addr} (h : LQ K ρ H Q (.ref g.length) (g ++ [.lst l])) (R : Rl K ρ g H) (hp : H p = none) (r : DRels K ρ H l vs) : Q (.ref p) (upd H p (.lst vs)) :=
 h (ρ ++ [p]) _ _ (ext_snoc hp) (R.alloc hp r) (.ref (R.snoc_get p))
theorem LQ.tup {K ρ H Q} {g : G} {l : List D} {vs : List V} {p : Addr} (h : LQ K ρ H Q (.tup l) g) (R : Rl K ρ g H) (hp : H p = none) (r : DRels K ρ H l vs) : Q (.ref p) (upd H p (.tup vs)) :=
 h ρ _ _ (upd_ext hp) (R.grow hp) (.tup (.inl upd_same) (r.ext (upd_ext hp)))
noncomputable def r2 (K : PySem.W.Frag) (p : Pr) : R2 := fun x y H Q => ∃ d e g ρ, Rl K ρ g H /\ DRel K ρ H d x /\ DRel K ρ H e y /\ prP p [d, e] g (LQ K ρ H Q)
noncomputable def r1 (K : PySem.W.Frag) (p : Pr) : V -> Hp -> VK -> Prop := fun x H Q => ∃ d g ρ, Rl K ρ g H /\ DRel K ρ H d x /\ prP p [d] g (LQ K ρ H Q)
noncomputable def rN (K : PySem.W.Frag) (p : Pr) : List V -> Hp -> VK -> Prop := fun xs H Q => ∃ ds g ρ, Rl K ρ g H /\ DRels K ρ H ds xs /\ prP p ds g (LQ K ρ H Q)
theorem line_small {n : Nat} (h : n <= 100000) : n <= sizeLine := Nat.le_trans h (by decide)
theorem line_lt {n : Nat} (h : n < 100000) : n < sizeLine := Nat.lt_of_lt_of_le h (by decide)
theorem DRel.int_of {K ρ H i v} (h : DRel K ρ H (.int i) v) : v = .int i := by cases h; rfl
theorem DRel.str_of {K ρ H i v} (h : DRel K ρ H (.str i) v) : v = .str i := by cases h; rfl
theorem DRel.bl_of {K ρ H i v} (h : DRel K ρ H (.bl i) v) : v = .bl i := by cases h; rfl
theorem DRel.non_of {K ρ H v} (h : DRel K ρ H .non v) : v = .non := by cases h; rfl
theorem DRel.ty_of {K ρ H n v} (h : DRel K ρ H (.ty n) v) : v = .ty n := by cases h; rfl
theorem DRel.ref_of {K ρ H i v} (h : DRel K ρ H (.ref i) v) : ∃ a, v = .ref a /\ ρ[i]? = some a := by cases h; exact ⟨_, rfl, by assumption⟩
theorem DRel.tup_of {K ρ H l v} (h : DRel K ρ H (.tup l) v) : ∃ a vs, v = .ref a /\ TupAt K H a vs /\ DRels K ρ H l vs := by cases h; exact ⟨_, _, rfl, by assumption, by assumption⟩
theorem DRels.one {K ρ H d vs} (h : DRels K ρ H [d] vs) : ∃ v, vs = [v] /\ DRel K ρ H d v := by
 cases h with
 | cons r rr => cases rr; exact ⟨_, rfl, r⟩
theorem DRels.two {K ρ H d e vs} (h : DRels K ρ H [d, e] vs) : ∃ v w, vs = [v, w] /\ DRel K ρ H d v /\ DRel K ρ H e w := by
 cases h with
 | cons r rr => obtain ⟨w, rfl, q⟩ := rr.one; exact ⟨_, _, rfl, r, q⟩
theorem two_inj {a b c d : D} (h : [a, b] = [c, d]) : a = c /\ b = d := by cases h; exact ⟨rfl, rfl⟩
section
variable {X : Cx}
theorem op_bin (op : Operator) : OpR X (binaryOp op) (r2 X.K (.bin op)) := by
 intro pins s σ H x y v u Q I rx ry h
 obtain ⟨d, e, g, ρ, R, rd, re, d', g', h, q⟩ := h
 rcases h with ⟨i, j, r, ex, ha, rfl, rfl⟩ | ⟨rfl, h⟩ | ⟨rfl, h⟩
 ·obtain ⟨rfl, rfl⟩ := two_inj ex
  obtain rfl := rd.int_of
  obtain rfl := re.int_of
  have fin := q.now R (.int r)
  cases op <;> first | exact (show False from ha).elim | skip
  ·cases ha; exact op_add pins s σ H _ _ v u Q I rx ry ⟨i, j, rfl, rfl, fin⟩
  ·cases ha; exact op_sub pins s σ H _ _ v u Q I rx ry ⟨i, j, rfl, rfl, fin⟩
  ·obtain ⟨hc, rfl⟩ := ha; exact op_mul pins s σ H _ _ v u Q I rx ry ⟨i, j, rfl, rfl, hc, fin⟩
  ·obtain ⟨hc, rfl⟩ := ha; exact op_mod pins s σ H _ _ v u Q I rx ry ⟨i, j, rfl, rfl, hc, fin⟩
  ·obtain ⟨hc, rfl⟩ := ha; exact op_pow pins s σ H _ _ v u Q I rx ry ⟨i, j, rfl, rfl, hc, fin⟩
  ·obtain ⟨hc, rfl⟩ := ha; exact op_fdiv pins s σ H _ _ v u Q I rx ry ⟨i, j, rfl, rfl, hc, fin⟩
 ·rcases h with ⟨l, m, ex, hz, rfl, rfl⟩ | ⟨a, b, l, m, ex, ha, hb, hz, rfl, rfl⟩ | ⟨x', y', ex, hz, rfl, rfl⟩
  ·obtain ⟨rfl, rfl⟩ := two_inj ex
   obtain ⟨a, vs, rfl, ta, rs⟩ := rd.tup_of
   obtain ⟨b, ws, rfl, tb, rt⟩ := re.tup_of
   refine op_catT2 pins s σ H _ _ v u Q I rx ry ⟨a, b, vs, ws, rfl, rfl, ta.sq, tb.sq, ?_, fun z => ?_, fun z => ?_, fun p hp => q.tup R hp (rs.append rt)⟩
   ·rw [<- rs.length, <- rt.length]; exact line_small hz
   ·subst z
    cases rs
    exact q.now R (.tup tb rt)
   ·subst z
    cases rt
    rw [List.append_nil] at q
    exact q.now R (.tup ta rs)
  ·obtain ⟨rfl, rfl⟩ := two_inj ex
   obtain ⟨a', rfl, ra⟩ := rd.ref_of
   obtain ⟨b', rfl, rb⟩ := re.ref_of
   obtain ⟨vs, z1, rs⟩ := R.lst ha ra
   obtain ⟨ws, z2, rt⟩ := R.lst hb rb
   exact op_cat pins s σ H _ _ v u Q I rx ry ⟨_, _, vs, ws, rfl, rfl, z1, z2, by rw [<- rs.length, <- rt.length]; exact line_small hz, fun p hp => q.new R hp (rs.append rt)⟩
  ·obtain ⟨rfl, rfl⟩ := two_inj ex
   obtain rfl := rd.str_of
   obtain rfl := re.str_of
   exact op_add_str pins s σ H _ _ v u Q I rx ry ⟨_, _, rfl, rfl, line_small hz, q.now R (.str _)⟩
 ·rcases h with ⟨a, l, n, ex, ha, h1, h2, hz, rfl, rfl⟩ | ⟨l, n, ex, hne, h1, h2, hz, rfl, rfl⟩
  rotate_left
  ·obtain ⟨rfl, rfl⟩ := two_inj ex
   obtain ⟨a', vs, rfl, ta, rs⟩ := rd.tup_of
   obtain rfl := re.int_of
   refine op_repT pins s σ H _ _ v u Q I rx ry ⟨_, _, vs, rfl, rfl, ta.sq, fun z => ?_, h1, h2, by rw [<- rs.length]; exact line_small hz, fun z => ?_, fun p hp => q.tup R hp (rs.rep _)⟩
   ·subst z
    cases rs
    exact hne rfl
   ·subst z
    have : (List.replicate (Int.toNat 1) l).flatten = l := by simp
    rw [this] at q
    exact q.now R (.tup ta rs)
  obtain ⟨rfl, rfl⟩ := two_inj ex
  obtain ⟨a', rfl, ra⟩ := rd.ref_of
  obtain rfl := re.int_of
  obtain ⟨vs, z1, rs⟩ := R.lst ha ra
  exact op_rep pins s σ H _ _ v u Q I rx ry ⟨_, _, vs, rfl, rfl, z1, by omega, by omega, by rw [<- rs.length]; exact line_small hz, fun p hp => q.new R hp (rs.rep _)⟩
theorem op_un (op : UnaryOp) : UnR X (unaryOp op) (r1 X.K (.un op)) := by
 intro pins s σ H x v Q I rx h
 obtain ⟨d, g, ρ, R, rd, d', g', ⟨rfl, i, ex, rfl, rfl⟩, q⟩ := h
 cases ex
 obtain rfl := rd.int_of
 exact un_neg pins s σ H _ v Q I rx ⟨_, rfl, q.now R (.int _)⟩
mutual
theorem reads_of {ρ : List Addr} {g : G} {H : Hp} {pins : List (Addr × Obj)} {σ : L2.St} {s : Shared} (I : Inv X pins σ H s) (R : Rl X.K ρ g H) : ∀ (n : Nat) {d : D} {v : V} {u : Value} {p : PyData}, rd g n d = some p -> DRel X.K ρ H d v -> RelV v u -> ∃ as, Reads s.heap u p as /\ p.depth <= n
 | n, .non, _, _, _, h, .non, ru => by
  cases n <;> (simp only [rd] at h; cases h; cases ru; exact ⟨_, .none, Nat.zero_le _⟩)
 | n, .bl b, _, _, _, h, .bl _, ru => by
  cases n <;> (simp only [rd] at h; cases h; cases ru; exact ⟨_, .bool b, Nat.zero_le _⟩)
 | n, .int i, _, _, _, h, .int _, ru => by
  cases n <;> (simp only [rd] at h; cases h; obtain ⟨t, rfl⟩ := ru; exact ⟨_, .int i t, Nat.zero_le _⟩)
 | n, .str x, _, _, _, h, .str _, ru => by
  cases n <;> (simp only [rd] at h; cases h; obtain ⟨t, rfl⟩ := ru; exact ⟨_, .str x t, Nat.zero_le _⟩)
 | n, .ty x, _, _, _, h, .ty _, ru => by
  cases n <;> (simp only [rd] at h; cases h)
 | 0, .ref _, _, _, _, h, _, _ => by simp only [rd] at h; cases h
 | 0, .tup _, _, _, _, h, _, _ => by simp only [rd] at h; cases h
 | n + 1, .ref a, _, _, p, h, .ref ha, ru => by
  simp only [rd] at h
  cases e : itemsL g a with
  | none => rw [e] at h; cases h
  | some l =>
   rw [e] at h
   dsimp only at h
   cases e2 : l.mapM (rd g n) with
   | none => rw [e2] at h; cases h
   | some ps =>
    rw [e2] at h
    cases h
    cases ru
    obtain ⟨vs, hq, rs⟩ := R.items e ha
    obtain ⟨its, rv, p, hz⟩ := I.list hq
    obtain ⟨as, q, hd⟩ := readsAll_of I R n e2 rs rv
    obtain ⟨o, ho, hc, k, hdat⟩ := p.isList
    refine ⟨_, .list ho hc hdat (by simpa using q), ?_⟩
    simp only [PyData.depth]
    omega
 | n + 1, .tup l, _, _, p, h, .tup ht rs, ru => by
  simp only [rd] at h
  cases e2 : l.mapM (rd g n) with
  | none => rw [e2] at h; cases h
  | some ps =>
   rw [e2] at h
   cases h
   cases ru
   obtain ⟨its, rv, pt, hz⟩ := I.tuple ht.sq
   obtain ⟨as, q, hd⟩ := readsAll_of I R n e2 rs rv
   obtain ⟨o, ho, hc, k, hdat⟩ := id pt
   refine ⟨_, .tuple ho hc hdat (by simpa using q), ?_⟩
   simp only [PyData.depth]
   omega
theorem readsAll_of {ρ : List Addr} {g : G} {H : Hp} {pins : List (Addr × Obj)} {σ : L2.St} {s : Shared} (I : Inv X pins σ H s) (R : Rl X.K ρ g H) : ∀ (n : Nat) {l : List D} {vs : List V} {us : List Value} {ps : List PyData}, l.mapM (rd g n) = some ps -> DRels X.K ρ H l vs -> Vals vs us ->
  ∃ as, ReadsAll s.heap us ps as /\ PyData.depthAll ps <= n
 | n, [], _, _, _, h, .nil, .nil => by
  simp at h; subst h
  exact ⟨_, .nil, Nat.zero_le _⟩
 | n, d :: l, _, _, ps, h, .cons rd' rs, .cons ru rv => by
  rw [List.mapM_cons] at h
  cases e : rd g n d with
  | none => rw [e] at h; cases h
  | some p =>
   rw [e] at h
   cases e2 : l.mapM (rd g n) with
   | none => rw [e2] at h; cases h
   | some qs =>
    rw [e2] at h
    cases h
    obtain ⟨as, q1, d1⟩ := reads_of I R n e rd' ru
    obtain ⟨bs, q2, d2⟩ := readsAll_of I R n e2 rs rv
    refine ⟨_, .cons q1 q2, ?_⟩
    simp only [PyData.depthAll]
    omega
end
end
section
variable {X : Cx}
theorem dec_beq {α : Type} [BEq α] [LawfulBEq α] [DecidableEq α] (a b : α) : decide (a = b) = (a == b) := by
 by_cases e : a = b
 ·subst e; simp
 ·rw [decide_eq_false e]; exact (beq_eq_false_iff_ne.mpr e).symm
theorem key_rel {K ρ H} {d : D} {v : V} {c : Key} (h : keyD d = some c) (r : DRel K ρ H d v) : v = kV c := by
 cases r <;> first | (cases h; rfl) | cases h
theorem ORelV.some {K ρ H} {o : Option V} {d : D} (h : ORelV K ρ H (some d) o) : ∃ v, o = some v /\ DRel K ρ H d v := by
 cases o with
 | none => exact h.elim
 | some v => exact ⟨v, rfl, h⟩
theorem ORelV.isSome {K ρ H} {o : Option V} {d : Option D} (h : ORelV K ρ H d o) : d.isSome = o.isSome := by
 cases o <;> cases d <;> first | rfl | exact h.elim
theorem eq_of {pins : List (Addr × Obj)} {s : Shared} {σ : L2.St} {H : Hp} {ρ : List Addr} {g : G} {d e : D} {x y : V} {v u : Value} {b : Bool} {Q : VK} (hu : X.A.units + 100 < cLine) (I : Inv X pins σ H s) (rx : RelV x v) (ry : RelV y u) (R : Rl X.K ρ g H) (rd' : DRel X.K ρ H d x) (re : DRel X.K ρ H e y) (h : eqR g d e b) (neg : Bool)
  (q : Q (.bl (xor neg b)) H) : wpAny (model X.prog X.w) X.A (compareOp (if neg then .NotEq else .Eq) v u) (EP X pins σ Q) X.xe s := by
 rcases h with ⟨i, j, rfl, rfl, rfl⟩ | ⟨i, j, rfl, rfl, rfl⟩ | ⟨i, j, rfl, rfl, rfl⟩ | ⟨p, p', h1, h2, c1, c2, rfl⟩
 ·obtain rfl := rd'.int_of
  obtain rfl := re.int_of
  cases neg
  ·exact op_eq pins s σ H _ _ v u Q I rx ry ⟨rfl, by rw [dec_int]; simpa [dec_beq] using q⟩
  ·exact op_ne pins s σ H _ _ v u Q I rx ry ⟨rfl, by rw [dec_int]; simpa [dec_beq] using q⟩
 ·obtain rfl := rd'.bl_of
  obtain rfl := re.bl_of
  cases neg
  ·exact op_eq pins s σ H _ _ v u Q I rx ry ⟨rfl, by rw [dec_bl]; simpa using q⟩
  ·exact op_ne pins s σ H _ _ v u Q I rx ry ⟨rfl, by rw [dec_bl]; simpa using q⟩
 ·obtain rfl := rd'.str_of
  obtain rfl := re.str_of
  cases neg
  ·exact op_eq pins s σ H _ _ v u Q I rx ry ⟨rfl, by rw [dec_str]; simpa [dec_beq] using q⟩
  ·exact op_ne pins s σ H _ _ v u Q I rx ry ⟨rfl, by rw [dec_str]; simpa [dec_beq] using q⟩
 ·obtain ⟨as, q1, d1⟩ := reads_of I R 6 h1 rd' rx
  obtain ⟨bs, q2, d2⟩ := reads_of I R 6 h2 re ry
  have hr : X.A.units + min p.depth p'.depth < cLine := by omega
  cases neg
  ·exact SeqAt.compareEq_reads q1 q2 c1 c2 hr ⟨.bl _, H, I, rfl, by simpa using q⟩
  ·exact SeqAt.compareNe_reads q1 q2 c1 c2 hr ⟨.bl _, H, I, rfl, by simpa using q⟩
theorem in_of {pins : List (Addr × Obj)} {s : Shared} {σ : L2.St} {H : Hp} {ρ : List Addr} {g : G} {d e : D} {x y : V} {v u : Value} {b : Bool} {Q : VK} (hu : X.A.units + 100 < cLine) (I : Inv X pins σ H s) (rx : RelV x v) (ry : RelV y u) (R : Rl X.K ρ g H) (rd' : DRel X.K ρ H d x) (re : DRel X.K ρ H e y) (h : inR g d e b) (neg : Bool)
  (q : Q (.bl (xor neg b)) H) : wpAny (model X.prog X.w) X.A (compareOp (if neg then .NotIn else .In) v u) (EP X pins σ Q) X.xe s := by
 rcases h with ⟨a, kvs, c, rfl, ha, hc, rfl⟩ | ⟨l, ps, p, h0, h1, h2, c1, c2, rfl⟩
 ·obtain ⟨a', rfl, ra⟩ := re.ref_of
  obtain ⟨vs, z, rs⟩ := R.dic ha ra
  have := key_rel hc rd'
  subst this
  cases ry
  rw [(rs.val c).isSome] at q
  cases neg
  ·exact d_in (by omega) I (DGet.k z) rx fun s' I' => ⟨.bl _, H, I', rfl, by simpa using q⟩
  ·exact d_notIn (by omega) I (DGet.k z) rx fun s' I' => ⟨.bl _, H, I', rfl, by simpa using q⟩
 ·obtain ⟨as, q1, d1⟩ := reads_of I R 6 h2 rd' rx
  cases e with
  | tup m =>
   cases h0
   have h3 : rd g 7 (.tup l) = some (.tuple ps) := by simp only [rd]; rw [show l.mapM (rd g 6) = some ps from h1]; rfl
   obtain ⟨bs, q2, d2⟩ := reads_of I R 7 h3 re ry
   have hr : X.A.units + 1 + min (PyData.depthAll ps) p.depth < cLine := by omega
   cases neg
   ·exact SeqAt.in_tuple_reads q2 q1 c1 c2 hr ⟨.bl _, H, I, rfl, by simpa using q⟩
   ·exact SeqAt.notIn_tuple_reads q2 q1 c1 c2 hr ⟨.bl _, H, I, rfl, by simpa using q⟩
  | ref a =>
   have h3 : rd g 7 (.ref a) = some (.list ps) := by
    simp only [rd]
    rw [show itemsL g a = some l from h0]
    dsimp only
    rw [show l.mapM (rd g 6) = some ps from h1]
    rfl
   obtain ⟨bs, q2, d2⟩ := reads_of I R 7 h3 re ry
   have hr : X.A.units + 1 + min (PyData.depthAll ps) p.depth < cLine := by omega
   cases neg
   ·exact SeqAt.in_list_reads q2 q1 c1 c2 hr ⟨.bl _, H, I, rfl, by simpa using q⟩
   ·exact SeqAt.notIn_list_reads q2 q1 c1 c2 hr ⟨.bl _, H, I, rfl, by simpa using q⟩
  | _ => cases h0
theorem op_cmp (hu : X.A.units + 100 < cLine) (op : CmpOp) : OpR X (compareOp op) (r2 X.K (.cmp op)) := by
 intro pins s σ H x y v u Q I rx ry h
 obtain ⟨d, e, g, ρ, R, rd', re, d', g', ⟨x', y', b, ex, h, rfl, rfl⟩, q⟩ := h
 obtain ⟨rfl, rfl⟩ := two_inj ex
 have fin := q.now R (.bl b)
 have intz : ∀ {P : Int -> Int -> Bool}, (∃ i j, d = .int i /\ e = .int j /\ b = P i j) -> ∃ i j, x = .int i /\ y = .int j /\ b = P i j := fun hh => by
  obtain ⟨i, j, z1, z2, z3⟩ := hh
  exact ⟨i, j, (z1 ▸ rd').int_of, (z2 ▸ re).int_of, z3⟩
 cases op
 ·exact eq_of hu I rx ry R rd' re h false (by simpa using fin)
 ·exact eq_of hu I rx ry R rd' re h true (by simpa using fin)
 ·obtain ⟨i, j, e1, e2, e3⟩ := intz (P := fun i j => decide (i < j)) h
  exact op_lt pins s σ H _ _ v u Q I rx ry ⟨i, j, e1, e2, by subst e3; exact fin⟩
 ·obtain ⟨i, j, e1, e2, e3⟩ := intz (P := fun i j => decide (i <= j)) h
  exact op_le pins s σ H _ _ v u Q I rx ry ⟨i, j, e1, e2, by subst e3; exact fin⟩
 ·obtain ⟨i, j, e1, e2, e3⟩ := intz (P := fun i j => decide (j < i)) h
  exact op_gt pins s σ H _ _ v u Q I rx ry ⟨i, j, e1, e2, by subst e3; exact fin⟩
 ·obtain ⟨i, j, e1, e2, e3⟩ := intz (P := fun i j => decide (j <= i)) h
  exact op_ge pins s σ H _ _ v u Q I rx ry ⟨i, j, e1, e2, by subst e3; exact fin⟩
 ·obtain ⟨rfl, rfl⟩ := (show _ /\ _ from h)
  obtain rfl := re.non_of
  refine op_isN pins s σ H _ _ v u Q I rx ry ⟨rfl, ?_⟩
  have e : isNon d = decide (x = V.non) := by cases rd' <;> simp [isNon]
  rw [<- e]; exact fin
 ·obtain ⟨rfl, rfl⟩ := (show _ /\ _ from h)
  obtain rfl := re.non_of
  refine op_notN pins s σ H _ _ v u Q I rx ry ⟨rfl, ?_⟩
  have e : isNon d = decide (x = V.non) := by cases rd' <;> simp [isNon]
  rw [<- e]; exact fin
 ·exact in_of hu I rx ry R rd' re h false (by simpa using fin)
 ·exact in_of hu I rx ry R rd' re h true (by simpa using fin)
theorem empty_eq {K ρ H} {l : List D} {vs : List V} (r : DRels K ρ H l vs) : l.isEmpty = vs.isEmpty := by cases r <;> rfl
theorem tru_of {K : PySem.W.Frag} {ρ : List Addr} {g : G} {H : Hp} {d : D} {x : V} {b : Bool} (R : Rl K ρ g H) (r : DRel K ρ H d x) (h : truR g d b) : TruV K x H b := by
 rcases h with ⟨rfl, rfl⟩ | rfl | ⟨i, rfl, rfl⟩ | ⟨l, rfl, rfl⟩ | ⟨a, l, rfl, hl, rfl⟩
 ·obtain rfl := r.non_of; rfl
 ·obtain rfl := r.bl_of; rfl
 ·obtain rfl := r.int_of; rfl
 ·obtain ⟨a, vs, rfl, ht, rs⟩ := r.tup_of
  exact .inr (.inl ⟨_, ht.sq, by rw [empty_eq rs]⟩)
 ·obtain ⟨a', rfl, ha⟩ := r.ref_of
  obtain ⟨vs, hq, rs⟩ := R.items hl ha
  exact .inl ⟨_, hq, by rw [empty_eq rs]⟩
theorem atI_rel {K ρ H} {l : List D} {vs : List V} {i : Int} {d : D} (r : DRels K ρ H l vs) (h : atI l i = some d) : ∃ v, atI vs i = some v /\ DRel K ρ H d v := by
 unfold atI at h ⊢
 rw [<- r.length]
 cases e : ixN l.length i with
 | none => rw [e] at h; cases h
 | some j =>
  rw [e] at h
  exact r.get h
theorem seq_of {K ρ H} {g : G} {x : D} {v : V} {l : List D} (R : Rl K ρ g H) (r : DRel K ρ H x v) (h : itemsD g x = some l) : ∃ a vs, v = .ref a /\ DRels K ρ H l vs /\ ((∃ i, x = .ref i /\ ρ[i]? = some a) /\ SqL K H a vs \/ x = .tup l /\ TupAt K H a vs) := by
 cases r with
 | tup ht rs => cases h; exact ⟨_, _, rfl, rs, .inr ⟨rfl, ht⟩⟩
 | ref ha => obtain ⟨vs, hq, rs⟩ := R.items h ha; exact ⟨_, _, rfl, rs, .inl ⟨⟨_, rfl, ha⟩, hq⟩⟩
 | _ => cases h
theorem ix_ok (hu : X.A.units + 100 < cLine) : IxR X (r2 X.K .ix) := by
 intro value slice pins s σ H x y v u Q I rx ry h hs
 obtain ⟨d, e, g, ρ, R, rd', re, d', g', ⟨rfl, h⟩, q⟩ := h
 rcases h with ⟨x', l, i, ex, hl, ha⟩ | ⟨a, kvs, y', c, ex, ha, hc, hv⟩ | ⟨x', i, c, ex, h0, h1, rfl⟩
 ·obtain ⟨rfl, rfl⟩ := two_inj ex
  obtain rfl := re.int_of
  obtain ⟨a, vs, rfl, rs, h⟩ := seq_of R rd' hl
  obtain ⟨w, hw, rw'⟩ := atI_rel rs ha
  rcases h with ⟨_, hq⟩ | ⟨_, ht⟩
  ·exact ix_list value slice pins s σ H _ _ v u Q I rx ry ⟨_, _, i, w, rfl, rfl, hq, hw, q.now R rw'⟩ hs
  ·exact ix_tup value slice pins s σ H _ _ v u Q I rx ry ⟨_, _, i, w, rfl, rfl, ht.sq, hw, q.now R rw'⟩ hs
 ·obtain ⟨rfl, rfl⟩ := two_inj ex
  obtain ⟨a', rfl, ra⟩ := rd'.ref_of
  obtain ⟨vs, z, rs⟩ := R.dic ha ra
  have := key_rel hc re
  subst this
  have q2 := rs.val c
  rw [hv] at q2
  obtain ⟨w, hw, rw'⟩ := q2.some
  exact ix_dict (by omega) value slice pins s σ H _ _ v u Q I rx ry ⟨_, w, rfl, by have := DGet.k (k := c) z; rw [hw] at this; exact this, q.now R rw'⟩ hs
 ·obtain ⟨rfl, rfl⟩ := two_inj ex
  obtain rfl := rd'.str_of
  obtain rfl := re.int_of
  exact ix_str value slice pins s σ H _ _ v u Q I rx ry ⟨x', i, c, rfl, rfl, line_small h0, h1, q.now R (.str _)⟩ hs
end
end M

namespace M
open PySem L2 PySem.Spec PyProof.Rows
section
variable {X : Cx}
noncomputable def rSl (K : PySem.W.Frag) : V -> Option Int -> Option Int -> Hp -> VK -> Prop := fun x lo hi H Q => ∃ d g ρ d' g', Rl K ρ g H /\ DRel K ρ H d x /\ slR d lo hi g d' g' /\ LQ K ρ H Q d' g'
theorem sl_ok : SlR X (rSl X.K) := by
 intro pins s σ H x v vl vu lo hi sl Q I rx hs pl pu h
 obtain ⟨d, g, ρ, d', g', R, rd', h, q⟩ := h
 rcases h with ⟨l, rfl, rfl, rfl⟩ | ⟨a, l, rfl, hl, rfl, rfl⟩
 ·obtain ⟨a, vs, rfl, ht, rs⟩ := rd'.tup_of
  refine sl_tup2 pins s σ H _ v vl vu lo hi sl Q I rx hs pl pu ⟨_, _, rfl, ht.sq, fun z => ?_, fun p hp => q.tup R hp (rs.cut lo hi)⟩
  refine q.now R (.tup ht ?_)
  have := rs.cut lo hi
  rw [z] at this
  exact this
 ·obtain ⟨a', rfl, ha⟩ := rd'.ref_of
  obtain ⟨vs, hq, rs⟩ := R.items hl ha
  exact sl_list pins s σ H _ v vl vu lo hi sl Q I rx hs pl pu ⟨_, _, rfl, hq, fun p hp => q.new R hp (rs.cut lo hi)⟩
noncomputable def rSet (K : PySem.W.Frag) : V -> V -> V -> Hp -> (Hp -> Prop) -> Prop := fun o i v H Q => ∃ do' di dv g ρ, Rl K ρ g H /\ DRel K ρ H do' o /\ DRel K ρ H di i /\ DRel K ρ H dv v /\ setP do' di dv g (fun g' => ∀ ρ' H', Ext ρ H ρ' H' -> Rl K ρ' g' H' -> Q H')
theorem set_ok (hu : X.A.units + 100 < cLine) : PSet X (rSet X.K) := by
 intro pins s σ H o i v ov iv u Q I ro ri rv h
 obtain ⟨do', di, dv, g, ρ, R, r1, r2, r3, g', h, q⟩ := h
 rcases h with ⟨a, i', l, j, rfl, rfl, hl, hj, rfl⟩ | ⟨a, kvs, c, rfl, ha, hc, hz, rfl⟩
 ·obtain ⟨a', rfl, ha⟩ := r1.ref_of
  obtain rfl := r2.int_of
  obtain ⟨vs, z, rs⟩ := R.lst hl ha
  obtain ⟨R', e'⟩ := R.write hl ha (rs.set r3 j)
  exact set_list pins s σ H _ _ _ ov iv u Q I ro ri rv ⟨_, vs, _, j, rfl, rfl, z, by rw [<- rs.length]; exact hj, q ρ _ e' R'⟩
 ·obtain ⟨a', rfl, ra⟩ := r1.ref_of
  obtain ⟨vs, z, rs⟩ := R.dic ha ra
  have := key_rel hc r2
  subst this
  obtain ⟨R', e'⟩ := R.put (o' := .dic (putD kvs c dv)) (u := .dK (putK vs c v)) ha rfl ra (rs.put r3)
  cases ro
  exact d_setItem (by omega) I (DPut.k z (by rw [<- rs.length]; exact line_lt hz)) ri rv fun s' I' => ⟨_, I', q ρ _ e' R'⟩
theorem len_ok : CallR X (.builtin "len") (rN X.K .len) := by
 intro pins s σ H xs us Q I r h
 obtain ⟨ds, g, ρ, R, rs, d', g', ⟨rfl, h⟩, q⟩ := h
 rcases h with ⟨x, l, rfl, hl, rfl⟩ | ⟨a, kvs, rfl, ha, rfl⟩ | ⟨x, rfl, hz, rfl⟩
 ·obtain ⟨v, rfl, rv⟩ := rs.one
  obtain ⟨a, vs, rfl, rl, h⟩ := seq_of R rv hl
  refine call_len_seq pins s σ H _ us Q I r ⟨_, _, rfl, ?_, by rw [<- rl.length]; exact q.now R (.int _)⟩
  exact h.imp (fun z => z.2) (fun z => z.2.sq)
 ·obtain ⟨v, rfl, rv⟩ := rs.one
  obtain ⟨a', rfl, ra⟩ := rv.ref_of
  obtain ⟨vs, z, rk⟩ := R.dic ha ra
  exact call_lenD pins s σ H _ us Q I r ⟨_, _, rfl, z, by rw [<- rk.length]; exact q.now R (.int _)⟩
 ·obtain ⟨v, rfl, rv⟩ := rs.one
  obtain rfl := rv.str_of
  exact call_len_str pins s σ H _ us Q I r ⟨_, rfl, line_small hz, q.now R (.int _)⟩
theorem list_ok : CallR X (.type "list") (rN X.K .list) := by
 intro pins s σ H xs us Q I r h
 obtain ⟨ds, g, ρ, R, rs, d', g', ⟨x, l, rfl, hl, rfl, rfl⟩, q⟩ := h
 obtain ⟨v, rfl, rv⟩ := rs.one
 obtain ⟨a, vs, rfl, rl, h⟩ := seq_of R rv hl
 exact call_list_of pins s σ H _ us Q I r ⟨_, _, rfl, h.imp (fun z => z.2) (fun z => z.2.sq), fun p hp => q.new R hp rl⟩
theorem tuple_ok : CallR X (.type "tuple") (rN X.K .tuple) := by
 intro pins s σ H xs us Q I r h
 obtain ⟨ds, g, ρ, R, rs, d', g', ⟨x, l, rfl, hl, rfl, rfl⟩, q⟩ := h
 obtain ⟨v, rfl, rv⟩ := rs.one
 obtain ⟨a, vs, rfl, rl, h⟩ := seq_of R rv hl
 refine call_tuple_of pins s σ H _ us Q I r ⟨a, vs, rfl, ?_⟩
 exact h.imp (fun z => ⟨z.2, fun p hp => q.tup R hp rl⟩) (fun z => ⟨z.2.sq, q.now R (.tup z.2 rl)⟩)
theorem isin_ok : CallR X (.builtin "isinstance") (rN X.K .isin) := by
 intro pins s σ H xs us Q I r h
 obtain ⟨ds, g, ρ, R, rs, d', g', ⟨x, c, b, rfl, hc, hb, rfl, rfl⟩, q⟩ := h
 obtain ⟨v, w, rfl, r1, r2⟩ := rs.two
 obtain rfl := r2.ty_of
 have fin := q.now R (.bl b)
 have go : ∀ (t : Value) (v : V), TyOf X.K H v t -> PySem.W.kitOne X.K t (.type c) = some b -> Vals [v, V.ty c] us -> wpAny (model X.prog X.w) X.A (call (.builtin "isinstance") us) (EP X pins σ Q) X.xe s :=
  fun t v ht hk r => call_isinst pins s σ H _ us Q I r ⟨v, t, c, b, rfl, ht, hk, fin⟩
 simp only [List.mem_cons, List.mem_nil_iff, or_false] at hc
 cases r1 with
 | non => refine go _ _ .non ?_ r; cases hb; rcases hc with rfl | rfl | rfl | rfl | rfl <;> rfl
 | bl y => refine go _ _ (.bl y) ?_ r; cases hb; rcases hc with rfl | rfl | rfl | rfl | rfl <;> rfl
 | int y => refine go _ _ (.int y) ?_ r; cases hb; rcases hc with rfl | rfl | rfl | rfl | rfl <;> rfl
 | str y => refine go _ _ (.str y) ?_ r; cases hb; rcases hc with rfl | rfl | rfl | rfl | rfl <;> rfl
 | ty _ => cases hb
 | tup ht rs =>
  cases hb
  rcases ht with ht | ht
  ·refine go _ _ (.tup ht) ?_ r; rcases hc with rfl | rfl | rfl | rfl | rfl <;> rfl
  ·obtain ⟨o, its, n, lk, hcl, _⟩ := ht
   obtain ⟨u, w', rfl, ru, rw'⟩ := vals2 r
   cases (show w' = Value.type c from rw')
   cases ru
   have hk : PySem.W.kitOne X.K (.type "tuple") (.type c) = some (c == "tuple") := by rcases hc with rfl | rfl | rfl | rfl | rfl <;> rfl
   exact PySem.W.kia_one PySem.W.kitx_tuple I.kIn ⟨o, I.kIn _ _ lk, hcl⟩ hk (fun z => nomatch z) fun tk => ⟨.bl _, H, I.tok tk, rfl, fin⟩
 | @ref i a ha =>
  have hb2 : ∃ m, g'[i]? = some (.lst m) /\ b = (c == "list") := by
   simp only [isTy] at hb
   split at hb
   ·exact ⟨_, by assumption, (Option.some.inj hb).symm⟩
   ·cases hb
  obtain ⟨m, e, rfl⟩ := hb2
  obtain ⟨vs, z, _⟩ := R.lst e ha
  refine go _ _ (.lst z) ?_ r; rcases hc with rfl | rfl | rfl | rfl | rfl <;> rfl
theorem allBl_spec : ∀ {l : List D} {b : Bool}, allBl l = some b -> ∃ bs : List Bool, l = bs.map D.bl /\ b = bs.all id := by
 intro l
 induction l with
 | nil => intro b h; cases h; exact ⟨[], rfl, rfl⟩
 | cons d r ih =>
  intro b h
  cases d <;> first | (cases h; done) | skip
  rename_i c
  simp only [allBl] at h
  cases e : allBl r with
  | none => rw [e] at h; cases h
  | some b' =>
   rw [e] at h
   cases h
   obtain ⟨bs, rfl, rfl⟩ := ih e
   exact ⟨c :: bs, rfl, by simp⟩
theorem DRels.bls {K ρ H} : ∀ {bs : List Bool} {vs : List V}, DRels K ρ H (bs.map D.bl) vs -> vs = bs.map V.bl := by
 intro bs
 induction bs with
 | nil => intro vs h; cases h; rfl
 | cons b r ih =>
  intro vs h
  cases h with
  | cons h rr => rw [ih rr, h.bl_of]; rfl
theorem all_ok (hc : X.calm = true) : CallR X (.builtin "all") (rN X.K .all) := by
 intro pins s σ H xs us Q I r h
 obtain ⟨ds, g, ρ, R, rs, d', g', ⟨a, l, b, rfl, hl, hb, rfl, rfl⟩, q⟩ := h
 obtain ⟨bs, rfl, rfl⟩ := allBl_spec hb
 obtain ⟨v, rfl, rv⟩ := rs.one
 obtain ⟨a', rfl, ra⟩ := rv.ref_of
 obtain ⟨vs, hq, rs⟩ := R.items hl ra
 have := rs.bls
 subst this
 exact call_allB hc pins s σ H _ us Q I r ⟨_, bs, rfl, hq, q.now R (.bl _)⟩
theorem max_ok (hc : X.calm = true) : CallR X (.builtin "max") (rN X.K .max) := by
 intro pins s σ H xs us Q I r h
 obtain ⟨ds, g, ρ, R, rs, d', g', ⟨i, j, rfl, rfl, rfl⟩, q⟩ := h
 obtain ⟨v, w, rfl, r1, r2⟩ := rs.two
 obtain rfl := r1.int_of
 obtain rfl := r2.int_of
 exact call_max2 hc pins s σ H _ us Q I r ⟨i, j, rfl, q.now R (.int _)⟩
theorem min_ok (hc : X.calm = true) : CallR X (.builtin "min") (rN X.K .min) := by
 intro pins s σ H xs us Q I r h
 obtain ⟨ds, g, ρ, R, rs, d', g', ⟨i, j, rfl, rfl, rfl⟩, q⟩ := h
 obtain ⟨v, w, rfl, r1, r2⟩ := rs.two
 obtain rfl := r1.int_of
 obtain rfl := r2.int_of
 exact call_min2 hc pins s σ H _ us Q I r ⟨i, j, rfl, q.now R (.int _)⟩
theorem int_ok : CallR X (.type "int") (rN X.K .int) := by
 intro pins s σ H xs us Q I r h
 obtain ⟨ds, g, ρ, R, rs, d', g', ⟨rfl, h⟩, q⟩ := h
 rcases h with ⟨i, rfl, rfl⟩ | ⟨b, rfl, rfl⟩
 ·obtain ⟨v, rfl, rv⟩ := rs.one
  obtain rfl := rv.int_of
  exact call_int1 pins s σ H _ us Q I r (.inl ⟨i, rfl, q.now R (.int _)⟩)
 ·obtain ⟨v, rfl, rv⟩ := rs.one
  obtain rfl := rv.bl_of
  exact call_int1 pins s σ H _ us Q I r (.inr ⟨b, rfl, q.now R (.int _)⟩)
theorem str_ok : CallR X (.type "str") (rN X.K .str) := by
 intro pins s σ H xs us Q I r h
 obtain ⟨ds, g, ρ, R, rs, d', g', ⟨i, rfl, hi, rfl, rfl⟩, q⟩ := h
 obtain ⟨v, rfl, rv⟩ := rs.one
 obtain rfl := rv.int_of
 exact call_str_int pins s σ H _ us Q I r ⟨i, rfl, hi, q.now R (.str _)⟩
noncomputable def rM (K : PySem.W.Frag) (p : Pr) : V -> List V -> Hp -> VK -> Prop := fun x xs H Q => ∃ d ds g ρ, Rl K ρ g H /\ DRel K ρ H d x /\ DRels K ρ H ds xs /\ prP p (d :: ds) g (LQ K ρ H Q)
theorem cons_inj {a b : D} {l m : List D} (h : a :: l = b :: m) : a = b /\ l = m := by cases h; exact ⟨rfl, rfl⟩
theorem append_ok : MtR X "list.append" (rM X.K .append) := by
 intro pins s σ H x xs v us Q I rx r h
 obtain ⟨d, ds, g, ρ, R, rd, rs, d', g', ⟨a, y, l, ex, ha, hz, rfl, rfl⟩, q⟩ := h
 obtain ⟨rfl, rfl⟩ := cons_inj ex
 obtain ⟨a', rfl, ra⟩ := rd.ref_of
 obtain ⟨w, rfl, rw'⟩ := rs.one
 obtain ⟨vs, z1, rv⟩ := R.lst ha ra
 obtain ⟨R2, e2⟩ := R.write ha ra (rv.append (.cons rw' .nil))
 exact mt_append pins s σ H _ _ v us Q I rx r ⟨_, vs, _, rfl, rfl, z1, by rw [<- rv.length]; exact line_lt hz, q ρ _ _ e2 R2 .non⟩
theorem get_ok (hu : X.A.units + 100 < cLine) : MtR X "dict.get" (rM X.K .get) := by
 intro pins s σ H x xs v us Q I rx r h
 obtain ⟨d, ds, g, ρ, R, rd, rs, d', g', ⟨a, y, z, kvs, c, ex, ha, hc, rfl, rfl⟩, q⟩ := h
 obtain ⟨rfl, rfl⟩ := cons_inj ex
 obtain ⟨a', rfl, ra⟩ := rd.ref_of
 obtain ⟨w1, w2, rfl, r1, r2⟩ := rs.two
 obtain ⟨vs, z1, rv⟩ := R.dic ha ra
 have := key_rel hc r1
 subst this
 obtain ⟨u1, u2, rfl, p1, p2⟩ := vals2 r
 cases rx
 refine d_get2 (by omega) I (DGet.k z1) p1 p2 fun w' s4 I4 rw' => ⟨_, H, I4, rw', q.now R ?_⟩
 have q := rv.val c
 cases e1 : valD kvs c with
 | none =>
  rw [e1] at q
  cases e2 : valV vs c with
  | none => exact r2
  | some w => rw [e2] at q; exact q.elim
 | some d' =>
  rw [e1] at q
  obtain ⟨w, hw, q⟩ := q.some
  rw [hw]
  exact q
theorem popAt_ok : MtR X "list.pop" (rM X.K .pop) := by
 intro pins s σ H x xs v us Q I rx r h
 obtain ⟨d, ds, g, ρ, R, rd, rs, y, g', ⟨a, i, l, k, ex, ha, h1, h2, hk, hy, rfl⟩, q⟩ := h
 obtain ⟨rfl, rfl⟩ := cons_inj ex
 obtain ⟨a', rfl, ra⟩ := rd.ref_of
 obtain ⟨w, rfl, rw'⟩ := rs.one
 obtain rfl := rw'.int_of
 obtain ⟨vs, z1, rv⟩ := R.lst ha ra
 obtain ⟨w, hw, rw'⟩ := rv.get hy
 obtain ⟨R2, e2⟩ := R.write ha ra (rv.erase k)
 exact mt_popAt pins s σ H _ _ v us Q I rx r ⟨_, vs, i, k, w, rfl, rfl, z1, h1, h2, by rw [<- rv.length]; exact hk, hw, q ρ _ _ e2 R2 (rw'.ext e2)⟩
theorem DRels.strs {K ρ H} : ∀ {ys : List Str} {vs : List V}, DRels K ρ H (ys.map D.str) vs -> vs = ys.map V.str
 | [], _, .nil => rfl
 | _ :: _, _, .cons h r => by cases h; rw [DRels.strs r]; rfl
theorem ty_list {d : D} {v : V} {g : G} {ρ : List Addr} {H : Hp} (R : Rl X.K ρ g H) (r : DRel X.K ρ H d v) (h : ∃ a l, d = .ref a /\ itemsL g a = some l) : tyV X.K "list" v H := by
 obtain ⟨a, l, rfl, hl⟩ := h
 obtain ⟨a', rfl, ra⟩ := r.ref_of
 obtain ⟨vs, hq, _⟩ := R.items hl ra
 exact .inl ⟨rfl, vs, hq⟩
theorem ty_dict {d : D} {v : V} {g : G} {ρ : List Addr} {H : Hp} (R : Rl X.K ρ g H) (r : DRel X.K ρ H d v) (h : mkP .get d g) : tyV X.K "dict" v H := by
 obtain ⟨a, l, rfl, hl⟩ := h
 obtain ⟨a', rfl, ra⟩ := r.ref_of
 obtain ⟨vs, hq, _⟩ := R.dic hl ra
 exact .inr (.inr (.inl ⟨rfl, .inl ⟨vs, hq⟩⟩))
end
end M

namespace M
open PySem L2 PySem.Spec PyProof.Rows
noncomputable abbrev XKE := List Str × XK
noncomputable def LX (K : PySem.W.Frag) (ρ : List Addr) (H : Hp) (Ξ : XKE) : KX := fun x g' => ∀ ρ' H' C, Ext ρ H ρ' H' -> Rl K ρ' g' H' -> x.cls ∈ Ξ.1 -> IsCls K x.cls C -> Ξ.2 (.ref C) none H'
theorem LX.ext {K : PySem.W.Frag} {ρ ρ1 : List Addr} {H H1 : Hp} {Ξ : XKE} (e : Ext ρ H ρ1 H1) {x : Xn} {g : G} (h : LX K ρ H Ξ x g) : LX K ρ1 H1 Ξ x g := fun ρ' H' C e' R hm c => h ρ' H' C (e.trans e') R hm c
noncomputable abbrev XK0 (ex : List Str) : XKE := (ex, fun _ _ _ => False)
noncomputable def LE (K : PySem.W.Frag) (Ξ : XKE) (t : S -> G -> KD -> KX -> Prop) : TE := fun σv H Q => ∃ σ g ρ, SRel K ρ H σ σv /\ Rl K ρ g H /\ t σ g (LQ K ρ H Q) (LX K ρ H Ξ)
noncomputable def LT (K : PySem.W.Frag) (Ξ : XKE) (t : S -> G -> (Bool -> G -> Prop) -> KX -> Prop) : TT := fun σv H Q => ∃ σ g ρ, SRel K ρ H σ σv /\ Rl K ρ g H /\ t σ g (fun b g' => ∀ ρ' H', Ext ρ H ρ' H' -> Rl K ρ' g' H' -> Q b H') (LX K ρ H Ξ)
noncomputable def LA (K : PySem.W.Frag) (Ξ : XKE) (t : S -> G -> (List D -> G -> Prop) -> KX -> Prop) : TA := fun σv H Q => ∃ σ g ρ, SRel K ρ H σ σv /\ Rl K ρ g H /\ t σ g (fun ds g' => ∀ ρ' H' vs, Ext ρ H ρ' H' -> Rl K ρ' g' H' -> DRels K ρ' H' ds vs -> Q vs H') (LX K ρ H Ξ)
noncomputable def JRel (K : PySem.W.Frag) (ρ0 : List Addr) (H0 : Hp) (k : IK) (J : It) : Prop := ∀ ρ g H, Ext ρ0 H0 ρ H -> Rl K ρ g H -> ∀ i, (k.at i g = some none -> J.stop i H) /\
 ∀ d, k.at i g = some (some d) -> J.go i H /\ ∀ v H', J.yld i H v H' -> Ext ρ H ρ H' /\ Rl K ρ g H' /\ DRel K ρ H' d v
noncomputable def LI (K : PySem.W.Frag) (Ξ : XKE) (t : S -> G -> (IK -> G -> Prop) -> KX -> Prop) : TI := fun σv H R => ∃ σ g ρ, SRel K ρ H σ σv /\ Rl K ρ g H /\ t σ g (fun k g' => ∀ ρ' H' J, Ext ρ H ρ' H' -> Rl K ρ' g' H' -> JRel K ρ' H' k J -> R J H') (LX K ρ H Ξ)
noncomputable def LG (K : PySem.W.Frag) (t : MT) : TG := fun v σv H Q => ∃ d σ g ρ, SRel K ρ H σ σv /\ Rl K ρ g H /\ DRel K ρ H d v /\ tgP t d σ (fun σ' => ∀ σv', SRel K ρ H σ' σv' -> Q σv' H)
noncomputable def LN (K : PySem.W.Frag) (ρ : List Addr) (H : Hp) (N : L2.Ends) : Ends where
 nx := fun σ' g' => ∀ ρ' H' σv', Ext ρ H ρ' H' -> Rl K ρ' g' H' -> SRel K ρ' H' σ' σv' -> N.nx σv' H'
 rt := LQ K ρ H N.rt
 bk := fun σ' g' => ∀ ρ' H' σv', Ext ρ H ρ' H' -> Rl K ρ' g' H' -> SRel K ρ' H' σ' σv' -> N.bk σv' H'
 ct := fun σ' g' => ∀ ρ' H' σv', Ext ρ H ρ' H' -> Rl K ρ' g' H' -> SRel K ρ' H' σ' σv' -> N.ct σv' H'
noncomputable def LS (K : PySem.W.Frag) (Ξ : XKE) (t : Ends -> S -> G -> KX -> Prop) : TS := fun N σv H => ∃ σ g ρ, SRel K ρ H σ σv /\ Rl K ρ g H /\ t (LN K ρ H N) σ g (LX K ρ H Ξ)
end M
namespace L2
open PySem PySem.Spec PyProof.Rows
section
variable {X : Cx} {e : Expr}
theorem PE.imp {t t' : TE} (h : PE X e t) (i : ∀ σ H Q, t' σ H Q -> t σ H Q) : PE X e t' := fun pins s σ H Q I q => h pins s σ H Q I (i σ H Q q)
theorem PT.imp {t t' : TT} (h : PT X e t) (i : ∀ σ H Q, t' σ H Q -> t σ H Q) : PT X e t' := fun pins s σ H Q I q => h pins s σ H Q I (i σ H Q q)
theorem PW.imp {t t' : TT} (h : PW X e t) (i : ∀ σ H Q, t' σ H Q -> t σ H Q) : PW X e t' := fun w pins s σ H Q I q => h w pins s σ H Q I (i σ H Q q)
theorem PA.imp {es : List Expr} {t t' : TA} (h : PA X es t) (i : ∀ σ H Q, t' σ H Q -> t σ H Q) : PA X es t' := fun p pins s σ H Q I q => h p pins s σ H Q I (i σ H Q q)
theorem PO.imp {e : Option Expr} {t t' : TO} (h : PO X e t) (i : ∀ σ H Q, t' σ H Q -> t σ H Q) : PO X e t' := fun pins s σ H Q I q => h pins s σ H Q I (i σ H Q q)
theorem PTs.imp {es : List Expr} {t t' : TT} (h : PTs X es t) (i : ∀ σ H Q, t' σ H Q -> t σ H Q) : PTs X es t' := fun pins s σ H Q I q => h pins s σ H Q I (i σ H Q q)
theorem PI.imp {tg : Expr} {t t' : TI} (h : PI X tg e t) (i : ∀ σ H Q, t' σ H Q -> t σ H Q) : PI X tg e t' := fun pins s σ H Q I q => h pins s σ H Q I (i σ H Q q)
theorem PG.imp {t t' : TG} (h : PG X e t) (i : ∀ v σ H Q, t' v σ H Q -> t v σ H Q) : PG X e t' := fun pins s σ H v u Q I r q => h pins s σ H v u Q I r (i v σ H Q q)
theorem PS.imp {st : Stmt} {t t' : TS} (h : PS X st t) (i : ∀ N σ H, t' N σ H -> t N σ H) : PS X st t' := fun pins s σ H N I q => h pins s σ H N I (i N σ H q)
theorem PSs.imp {st : List Stmt} {t t' : TS} (h : PSs X st t) (i : ∀ N σ H, t' N σ H -> t N σ H) : PSs X st t' := fun pins s σ H N I q => h pins s σ H N I (i N σ H q)
end
end L2
namespace M
open PySem L2 PySem.Spec PyProof.Rows
section
variable {K : PySem.W.Frag} {Ξ : XKE} {P : Sig} (hP : SigMono P) {ρ ρ0 : List Addr} {H H0 : Hp} {σ : S} {σv : L2.St} {g : G} {m : ME}
include hP
theorem thE {Q0 : KD} {Q : VK} (s : SRel K ρ H σ σv) (R : Rl K ρ g H) (e0 : Ext ρ0 H0 ρ H) (h : wpE P m σ g Q0 (LX K ρ0 H0 Ξ)) (k : ∀ x g1 ρ1 H1 v1, Ext ρ H ρ1 H1 -> Rl K ρ1 g1 H1 -> DRel K ρ1 H1 x v1 -> Q0 x g1 -> Q v1 H1) : LE K Ξ (wpE P m) σv H Q :=
 ⟨σ, g, ρ, s, R, wpE_mono hP m _ _ _ _ _ _ (fun x g1 h ρ1 H1 v1 e1 R1 r1 => k x g1 ρ1 H1 v1 e1 R1 r1 h) (fun _ _ z => LX.ext e0 z) h⟩
theorem thA {Q0 : List D -> G -> Prop} {Q : List V -> Hp -> Prop} (s : SRel K ρ H σ σv) (R : Rl K ρ g H) (e0 : Ext ρ0 H0 ρ H) (h : wpA P m σ g Q0 (LX K ρ0 H0 Ξ)) (k : ∀ x g1 ρ1 H1 v1, Ext ρ H ρ1 H1 -> Rl K ρ1 g1 H1 -> DRels K ρ1 H1 x v1 -> Q0 x g1 -> Q v1 H1) : LA K Ξ (wpA P m) σv H Q :=
 ⟨σ, g, ρ, s, R, wpA_mono hP m _ _ _ _ _ _ (fun x g1 h ρ1 H1 v1 e1 R1 r1 => k x g1 ρ1 H1 v1 e1 R1 r1 h) (fun _ _ z => LX.ext e0 z) h⟩
theorem thT {Q0 : Bool -> G -> Prop} {Q : Bool -> Hp -> Prop} (s : SRel K ρ H σ σv) (R : Rl K ρ g H) (e0 : Ext ρ0 H0 ρ H) (h : wpT P m σ g Q0 (LX K ρ0 H0 Ξ)) (k : ∀ t g1 ρ1 H1, Ext ρ H ρ1 H1 -> Rl K ρ1 g1 H1 -> Q0 t g1 -> Q t H1) : LT K Ξ (wpT P m) σv H Q :=
 ⟨σ, g, ρ, s, R, wpT_mono hP m _ _ _ _ _ _ (fun t g1 h ρ1 H1 e1 R1 => k t g1 ρ1 H1 e1 R1 h) (fun _ _ z => LX.ext e0 z) h⟩
theorem thS {ms : MS} {N : L2.Ends} {N0 : Ends} (s : SRel K ρ H σ σv) (R : Rl K ρ g H) (e0 : Ext ρ0 H0 ρ H) (h : wpS P ms N0 σ g (LX K ρ0 H0 Ξ)) (k : N0.le (LN K ρ H N)) : LS K Ξ (wpS P ms) N σv H :=
 ⟨σ, g, ρ, s, R, wpS_mono hP ms _ _ _ _ _ _ k (fun _ _ z => LX.ext e0 z) h⟩
end
theorem DRels.rng {K ρ H} (lo : Int) (n : Nat) : DRels K ρ H (rngD lo n) ((List.range n).map fun (k : Nat) => V.int (lo + k)) := by
 unfold rngD
 have : ∀ l : List Nat, DRels K ρ H (l.map fun (k : Nat) => D.int (lo + k)) (l.map fun (k : Nat) => V.int (lo + k)) := by
  intro l
  induction l with
  | nil => exact .nil
  | cons x r ih => exact .cons (.int _) ih
 exact this _
section
variable {X : Cx} {Ξ : XKE} {P : Sig} (hP : SigMono P) {a b c e : Expr} {ma mb mc : ME} {pos : Pos} {p : Pr}
include hP
theorem se_op2 (h : PE X e (tOp (r2 X.K p) (LE X.K Ξ (wpE P ma)) (LE X.K Ξ (wpE P mb)))) : PE X e (LE X.K Ξ (wpE P (.prim p (.cons ma (.cons mb .nil))))) :=
 h.imp fun σv H Q ⟨σ, g, ρ, s, R, h⟩ => by
  simp only [wpE, wpA] at h
  exact thE hP s R (.refl _ _) h fun x g1 ρ1 H1 v1 e1 R1 r1 h => thE hP (s.ext e1) R1 e1 h fun y g2 ρ2 H2 v2 e2 R2 r2 h =>
   ⟨x, y, g2, ρ2, R2, r1.ext e2, r2, prP_mono (fun d g' h => h.ext (e1.trans e2)) h⟩
theorem st_op2 {op : CmpOp} (h : PT X e (tTest (tOp (r2 X.K (.cmp op)) (LE X.K Ξ (wpE P ma)) (LE X.K Ξ (wpE P mb))))) : PT X e (LT X.K Ξ (wpT P (.tst (.prim (.cmp op) (.cons ma (.cons mb .nil)))))) :=
 h.imp fun σv H Q ⟨σ, g, ρ, s, R, h⟩ => by
  simp only [wpT, wpE, wpA] at h
  refine thE hP s R (.refl _ _) h fun x g1 ρ1 H1 v1 e1 R1 r1 h => thE hP (s.ext e1) R1 e1 h fun y g2 ρ2 H2 v2 e2 R2 r2 h => ?_
  obtain ⟨d', g', h, q⟩ := h
  obtain ⟨x', y', t, ex, hc, rfl, rfl⟩ := id h
  refine ⟨x, y, g', ρ2, R2, r1.ext e2, r2, _, _, h, fun ρ' H' v e' R' r' => ?_⟩
  obtain ⟨t', ht, q⟩ := q
  rcases ht with ⟨z, _⟩ | z | ⟨i, z, _⟩ | ⟨l, z, _⟩ | ⟨a, l, z, _⟩ <;> cases z
  exact ⟨_, r'.bl_of, q ρ' H' (e1.trans (e2.trans e')) R'⟩
theorem se_un {op : UnaryOp} (ha : PE X a (LE X.K Ξ (wpE P ma))) : PE X (.UnaryOp op a pos) (LE X.K Ξ (wpE P (.prim (.un op) (.cons ma .nil)))) :=
 (pe_un (op_un op) ha).imp fun σv H Q ⟨σ, g, ρ, s, R, h⟩ => by
  simp only [wpE, wpA] at h
  exact thE hP s R (.refl _ _) h fun x g1 ρ1 H1 v1 e1 R1 r1 h => ⟨x, g1, ρ1, R1, r1, prP_mono (fun d g' h => h.ext e1) h⟩
theorem chain_of {op op' : CmpOp} : ∀ σv H Q, LE X.K Ξ (wpE P (.chain op op' ma mb mc)) σv H Q -> tChain (r2 X.K (.cmp op)) (r2 X.K (.cmp op')) (LE X.K Ξ (wpE P ma)) (LE X.K Ξ (wpE P mb)) (LE X.K Ξ (wpE P mc)) σv H Q := fun σv H Q ⟨σ, g, ρ, s, R, h⟩ => by
 simp only [wpE] at h
 refine thE hP s R (.refl _ _) h fun x g1 ρ1 H1 v1 e1 R1 r1 h => thE hP (s.ext e1) R1 e1 h fun y g2 ρ2 H2 v2 e2 R2 r2 h => ?_
 refine ⟨x, y, g2, ρ2, R2, r1.ext e2, r2, prP_mono (fun d g3 h ρ3 H3 v3 e3 R3 r3 => ?_) h⟩
 obtain ⟨t, rfl, h⟩ := h
 obtain rfl := r3.bl_of
 refine ⟨t, rfl, ?_⟩
 cases t
 ·exact h ρ3 H3 _ (e1.trans (e2.trans e3)) R3 (.bl _)
 ·exact thE hP (s.ext (e1.trans (e2.trans e3))) R3 (e1.trans (e2.trans e3)) h fun z g4 ρ4 H4 v4 e4 R4 r4 h =>
   ⟨y, z, g4, ρ4, R4, r2.ext (e3.trans e4), r4, prP_mono (fun d g' h => h.ext (e1.trans (e2.trans (e3.trans e4)))) h⟩
theorem se_chain {op op' : CmpOp} (hu : X.A.units + 100 < cLine) (ha : PE X a (LE X.K Ξ (wpE P ma))) (hb : PE X b (LE X.K Ξ (wpE P mb))) (hc : PE X c (LE X.K Ξ (wpE P mc))) (hm : lastMarks [op, op'] [b, c] = false) :
  PE X (.Compare a [op, op'] [b, c] pos) (LE X.K Ξ (wpE P (.chain op op' ma mb mc))) := (pe_chain (op_cmp hu op) (op_cmp hu op') ha hb hc hm).imp (chain_of hP)
theorem chain_bl {op op' : CmpOp} {σ : S} {g : G} {Q : Bool -> G -> Prop} {E : KX} (h : wpT P (.tst (.chain op op' ma mb mc)) σ g Q E) : wpE P (.chain op op' ma mb mc) σ g (fun d g' => ∃ t, d = .bl t /\ Q t g') E := by
 have one : ∀ {o : CmpOp} {xs : List D} {g : G}, prP (.cmp o) xs g (fun d g1 => truP g1 d fun b => Q b g1) -> prP (.cmp o) xs g fun d g' => ∃ t, d = .bl t /\ Q t g' := by
  intro o xs g h
  obtain ⟨d', g', h, t', ht, q⟩ := h
  obtain ⟨x', y', t, ex, hc, rfl, rfl⟩ := id h
  refine ⟨_, _, h, t', ?_, q⟩
  rcases ht with ⟨z, _⟩ | z | ⟨i, z, _⟩ | ⟨l, z, _⟩ | ⟨a, l, z, _⟩ <;> first | exact z | cases z
 simp only [wpT, wpE] at h ⊢
 refine wpE_mono hP ma _ _ _ _ _ _ (fun x g1 h => wpE_mono hP mb _ _ _ _ _ _ (fun y g2 h => prP_mono (fun z g3 h => ?_) h) (fun _ _ z => z) h) (fun _ _ z => z) h
 obtain ⟨t, rfl, h⟩ := h
 refine ⟨t, rfl, ?_⟩
 cases t
 ·obtain ⟨b, hb, q⟩ := (show truP g3 (.bl false) fun b => Q b g3 from h)
  rcases hb with ⟨z, _⟩ | z | ⟨i, z, _⟩ | ⟨l, z, _⟩ | ⟨a, l, z, _⟩ <;> first | (cases z; exact ⟨_, rfl, q⟩) | cases z
 ·exact wpE_mono hP mc _ _ _ _ _ _ (fun w g4 h => one h) (fun _ _ z => z) h
theorem st_chain {op op' : CmpOp} (hu : X.A.units + 100 < cLine) (ha : PE X a (LE X.K Ξ (wpE P ma))) (hb : PE X b (LE X.K Ξ (wpE P mb))) (hc : PE X c (LE X.K Ξ (wpE P mc))) (hm : lastMarks [op, op'] [b, c] = false) :
  PT X (.Compare a [op, op'] [b, c] pos) (LT X.K Ξ (wpT P (.tst (.chain op op' ma mb mc)))) :=
 (pt_chain (op_cmp hu op) (op_cmp hu op') ha hb hc hm).imp fun σv H Q ⟨σ, g, ρ, s, R, h⟩ =>
  chain_of hP σv H _ (thE hP s R (.refl _ _) (chain_bl hP h) fun x g1 ρ1 H1 v1 e1 R1 r1 h => by
   obtain ⟨t, rfl, h⟩ := h
   exact ⟨t, r1.bl_of, h ρ1 H1 e1 R1⟩)
theorem se_and {rest : List Expr} (ha : PE X a (LE X.K Ξ (wpE P ma))) (hb : PE X (.BoolOp .And (b :: rest) pos) (LE X.K Ξ (wpE P mb))) : PE X (.BoolOp .And (a :: b :: rest) pos) (LE X.K Ξ (wpE P (.and_ ma mb))) :=
 (pe_and ha hb).imp fun σv H Q ⟨σ, g, ρ, s, R, h⟩ => by
  simp only [wpE] at h
  refine thE hP s R (.refl _ _) h fun x g1 ρ1 H1 v1 e1 R1 r1 h => ?_
  obtain ⟨t, rfl, h⟩ := h
  refine ⟨t, r1.bl_of, ?_⟩
  cases t
  ·exact h ρ1 H1 _ e1 R1 (.bl _)
  ·exact thE hP (s.ext e1) R1 e1 h fun y g2 ρ2 H2 v2 e2 R2 r2 h => h ρ2 H2 v2 (e1.trans e2) R2 r2
theorem se_or {rest : List Expr} (ha : PE X a (LE X.K Ξ (wpE P ma))) (hb : PE X (.BoolOp .Or (b :: rest) pos) (LE X.K Ξ (wpE P mb))) : PE X (.BoolOp .Or (a :: b :: rest) pos) (LE X.K Ξ (wpE P (.or_ ma mb))) :=
 (pe_or ha hb).imp fun σv H Q ⟨σ, g, ρ, s, R, h⟩ => by
  simp only [wpE] at h
  refine thE hP s R (.refl _ _) h fun x g1 ρ1 H1 v1 e1 R1 r1 h => ?_
  obtain ⟨t, rfl, h⟩ := h
  refine ⟨t, r1.bl_of, ?_⟩
  cases t
  ·exact thE hP (s.ext e1) R1 e1 h fun y g2 ρ2 H2 v2 e2 R2 r2 h => h ρ2 H2 v2 (e1.trans e2) R2 r2
  ·exact h ρ1 H1 _ e1 R1 (.bl _)
theorem se_not (ha : PE X a (LE X.K Ξ (wpE P ma))) : PE X (.UnaryOp .Not a pos) (LE X.K Ξ (wpE P (.not_ ma))) :=
 (pe_not ha).imp fun σv H Q ⟨σ, g, ρ, s, R, h⟩ => by
  simp only [wpE] at h
  refine thE hP s R (.refl _ _) h fun x g1 ρ1 H1 v1 e1 R1 r1 h => ?_
  obtain ⟨t, rfl, h⟩ := h
  exact ⟨t, r1.bl_of, h ρ1 H1 _ e1 R1 (.bl _)⟩
theorem se_ite (hc : PT X c (LT X.K Ξ (wpT P mc))) (ha : PE X a (LE X.K Ξ (wpE P ma))) (hb : PE X b (LE X.K Ξ (wpE P mb))) : PE X (.IfExp c a b pos) (LE X.K Ξ (wpE P (.ite mc ma mb))) :=
 (pe_ifExp hc ha hb).imp fun σv H Q ⟨σ, g, ρ, s, R, h⟩ => by
  simp only [wpE] at h
  refine thT hP s R (.refl _ _) h fun t g1 ρ1 H1 e1 R1 h => ?_
  cases t
  ·exact thE hP (s.ext e1) R1 e1 h fun y g2 ρ2 H2 v2 e2 R2 r2 h => h ρ2 H2 v2 (e1.trans e2) R2 r2
  ·exact thE hP (s.ext e1) R1 e1 h fun y g2 ρ2 H2 v2 e2 R2 r2 h => h ρ2 H2 v2 (e1.trans e2) R2 r2
theorem se_tup {es : List Expr} {mes : ME} {k : Nat} (h : PA X es (LA X.K Ξ (wpA P mes))) : PE X (.Tuple es k pos) (LE X.K Ξ (wpE P (.prim .tup mes))) :=
 (pe_tup h).imp fun σv H Q ⟨σ, g, ρ, s, R, h⟩ => by
  simp only [wpE] at h
  refine thA hP s R (.refl _ _) h fun ds g1 ρ1 H1 vs e1 R1 r1 h => ?_
  obtain ⟨d', g', ⟨hz, rfl, rfl⟩, q⟩ := h
  exact ⟨by rw [<- r1.length]; exact line_small (Nat.le_trans hz (by decide)), fun p hp => (q.ext e1).tup R1 hp r1⟩
theorem se_lst {es : List Expr} {mes : ME} (h : PA X es (LA X.K Ξ (wpA P mes))) : PE X (.List es pos) (LE X.K Ξ (wpE P (.prim .lst mes))) :=
 (pe_lst h).imp fun σv H Q ⟨σ, g, ρ, s, R, h⟩ => by
  simp only [wpE] at h
  refine thA hP s R (.refl _ _) h fun ds g1 ρ1 H1 vs e1 R1 r1 h => ?_
  obtain ⟨d', g', ⟨hz, rfl, rfl⟩, q⟩ := h
  exact ⟨by rw [<- r1.length]; exact line_small (Nat.le_trans hz (by decide)), fun p hp => (q.ext e1).new R1 hp r1⟩
theorem sa_nil : PA X [] (LA X.K Ξ (wpA P .nil)) :=
 (pa_nil (X := X)).imp fun σv H Q ⟨σ, g, ρ, s, R, h⟩ => by
  simp only [wpA] at h
  exact h ρ H [] (.refl _ _) R .nil
theorem sa_cons {es : List Expr} {mes : ME} (ha : PE X a (LE X.K Ξ (wpE P ma))) (h : PA X es (LA X.K Ξ (wpA P mes))) (hs : starEach (a :: es) X.env = (false, eval a X.env) :: starEach es X.env) : PA X (a :: es) (LA X.K Ξ (wpA P (.cons ma mes))) :=
 (pa_cons ha h hs).imp fun σv H Q ⟨σ, g, ρ, s, R, h⟩ => by
  simp only [wpA] at h
  exact thE hP s R (.refl _ _) h fun x g1 ρ1 H1 v1 e1 R1 r1 h => thA hP (s.ext e1) R1 e1 h fun xs g2 ρ2 H2 vs e2 R2 r2 h => h ρ2 H2 _ (e1.trans e2) R2 (.cons (r1.ext e2) r2)
theorem se_slc00 {p2 : Pos} (ha : PE X a (LE X.K Ξ (wpE P ma))) : PE X (.Subscript a (.Slice none none none p2) pos) (LE X.K Ξ (wpE P (.prim (.slc false false) (.cons ma .nil)))) :=
 (pe_slice sl_ok ha po_none po_none).imp fun σv H Q ⟨σ, g, ρ, s, R, h⟩ => by
  simp only [wpE, wpA] at h
  refine thE hP s R (.refl _ _) h fun x g1 ρ1 H1 v1 e1 R1 r1 h => ?_
  obtain ⟨d', g', ⟨x', ex, h⟩, q⟩ := h
  cases ex
  exact ⟨x, g1, ρ1, d', g', R1, r1, h, q.ext e1⟩
theorem se_slc10 {p2 : Pos} (ha : PE X a (LE X.K Ξ (wpE P ma))) (hb : PE X b (LE X.K Ξ (wpE P mb))) : PE X (.Subscript a (.Slice (some b) none none p2) pos) (LE X.K Ξ (wpE P (.prim (.slc true false) (.cons ma (.cons mb .nil))))) :=
 (pe_slice sl_ok ha (po_some hb) po_none).imp fun σv H Q ⟨σ, g, ρ, s, R, h⟩ => by
  simp only [wpE, wpA] at h
  refine thE hP s R (.refl _ _) h fun x g1 ρ1 H1 v1 e1 R1 r1 h => thE hP (s.ext e1) R1 e1 h fun y g2 ρ2 H2 v2 e2 R2 r2 h => ?_
  obtain ⟨d', g', ⟨x', i, ex, h⟩, q⟩ := h
  cases ex
  exact ⟨i, r2.int_of, x, g2, ρ2, d', g', R2, r1.ext e2, h, q.ext (e1.trans e2)⟩
theorem se_slc01 {p2 : Pos} (ha : PE X a (LE X.K Ξ (wpE P ma))) (hb : PE X b (LE X.K Ξ (wpE P mb))) : PE X (.Subscript a (.Slice none (some b) none p2) pos) (LE X.K Ξ (wpE P (.prim (.slc false true) (.cons ma (.cons mb .nil))))) :=
 (pe_slice sl_ok ha po_none (po_some hb)).imp fun σv H Q ⟨σ, g, ρ, s, R, h⟩ => by
  simp only [wpE, wpA] at h
  refine thE hP s R (.refl _ _) h fun x g1 ρ1 H1 v1 e1 R1 r1 h => thE hP (s.ext e1) R1 e1 h fun y g2 ρ2 H2 v2 e2 R2 r2 h => ?_
  obtain ⟨d', g', ⟨x', i, ex, h⟩, q⟩ := h
  cases ex
  exact ⟨i, r2.int_of, x, g2, ρ2, d', g', R2, r1.ext e2, h, q.ext (e1.trans e2)⟩
theorem st_tru (ha : PE X a (LE X.K Ξ (wpE P ma))) (he : ∀ whole, isTrue a X.env whole = (do let v <- whole; standAt a.pos; holding [v] (truthy v))) : PT X a (LT X.K Ξ (wpT P (.tst ma))) :=
 (pt_truth ha he).imp fun σv H Q ⟨σ, g, ρ, s, R, h⟩ => by
  simp only [wpT] at h
  refine thE hP s R (.refl _ _) h fun x g1 ρ1 H1 v1 e1 R1 r1 h => ?_
  obtain ⟨b, h1, h2⟩ := h
  exact ⟨b, tru_of R1 r1 h1, h2 ρ1 H1 e1 R1⟩
theorem st_not (ha : PT X a (LT X.K Ξ (wpT P ma))) : PT X (.UnaryOp .Not a pos) (LT X.K Ξ (wpT P (.not_ ma))) :=
 (pt_not ha).imp fun σv H Q ⟨σ, g, ρ, s, R, h⟩ => by
  simp only [wpT] at h
  exact thT hP s R (.refl _ _) h fun t g1 ρ1 H1 e1 R1 h => h ρ1 H1 e1 R1
theorem sw_and {rest : List Expr} (ha : PT X a (LT X.K Ξ (wpT P ma))) (hb : PW X (.BoolOp .And (b :: rest) pos) (LT X.K Ξ (wpT P mb))) : PW X (.BoolOp .And (a :: b :: rest) pos) (LT X.K Ξ (wpT P (.and_ ma mb))) :=
 (pw_and ha hb).imp fun σv H Q ⟨σ, g, ρ, s, R, h⟩ => by
  simp only [wpT] at h
  refine thT hP s R (.refl _ _) h fun t g1 ρ1 H1 e1 R1 h => ?_
  cases t
  ·exact h ρ1 H1 e1 R1
  ·exact thT hP (s.ext e1) R1 e1 h fun t g2 ρ2 H2 e2 R2 h => h ρ2 H2 (e1.trans e2) R2
theorem sw_or {rest : List Expr} (ha : PT X a (LT X.K Ξ (wpT P ma))) (hb : PW X (.BoolOp .Or (b :: rest) pos) (LT X.K Ξ (wpT P mb))) : PW X (.BoolOp .Or (a :: b :: rest) pos) (LT X.K Ξ (wpT P (.or_ ma mb))) :=
 (pw_or ha hb).imp fun σv H Q ⟨σ, g, ρ, s, R, h⟩ => by
  simp only [wpT] at h
  refine thT hP s R (.refl _ _) h fun t g1 ρ1 H1 e1 R1 h => ?_
  cases t
  ·exact thT hP (s.ext e1) R1 e1 h fun t g2 ρ2 H2 e2 R2 h => h ρ2 H2 (e1.trans e2) R2
  ·exact h ρ1 H1 e1 R1
theorem sts_nil : PTs X [] (LT X.K Ξ (wpT P .no)) :=
 (pts_nil (X := X)).imp fun σv H Q ⟨σ, g, ρ, s, R, h⟩ => by
  simp only [wpT] at h
  exact h ρ H (.refl _ _) R
theorem se_blt {x : Str} {v : Value} {es : List Expr} {mes : ME} {q : Pos} (hv : (∃ id, v = .builtin id) \/ ∃ T, v = .type T) (hc : CallR X v (rN X.K p)) (hg : Gl X x) (hm : X.mg x = none) (hb : bootBuiltins x = some v) (ha : PA X (e :: es) (LA X.K Ξ (wpA P mes)))
  (hn : x ≠ "__name__") (hd : (x == ("__debug__" : Str)) = false) (hst : starEach (e :: es) X.env = (false, eval e X.env) :: starEach es X.env) (hpl : (backTo pos (starEach es X.env)).any (·.1) = false) : PE X (.Call (.Name x q) (e :: es) [] pos) (LE X.K Ξ (wpE P (.prim p mes))) := by
 have base : PE X (.Call (.Name x q) (e :: es) [] pos) (tCB (rN X.K p) (LA X.K Ξ (wpA P mes))) := by
  rcases hv with ⟨id, rfl⟩ | ⟨T, rfl⟩
  ·exact pe_callB hc hg hm hb ha hn hd hst hpl
  ·exact pe_callTy hc hg hm hb ha hn hd hst hpl
 refine base.imp fun σv H Q ⟨σ, g, ρ, s, R, h⟩ => ?_
 simp only [wpE] at h
 exact thA hP s R (.refl _ _) h fun xs g1 ρ1 H1 vs e1 R1 r1 h => ⟨xs, g1, ρ1, R1, r1, prP_mono (fun d g' h => h.ext e1) h⟩
theorem se_meth {o : Expr} {es : List Expr} {mo mes : ME} {T : String} {name : Str} {id : String} {apos : Pos} (pa : PlainAttrs T) (slot : Slot T name id) (hty : typeOf (.builtin id) = pure (.type "method_descriptor")) (hm : MtR X id (rM X.K p))
  (hk : ∀ {d : D} {v : V} {g : G} {ρ : List Addr} {H : Hp}, Rl X.K ρ g H -> DRel X.K ρ H d v -> mkP p d g -> tyV X.K T v H)
  (ho : PE X o (LE X.K Ξ (wpE P mo))) (ha : PA X (e :: es) (LA X.K Ξ (wpA P mes)))
  (hbase : attributeBase o name X.env (eval o X.env) = eval o X.env)
  (hfew : ((backTo pos (starEach (e :: es) X.env)).all (fun x => !x.1) && (backToKw pos (keywordEach [] X.env)).all (fun x => x.1.isSome) && decide ((e :: es).length + ([] : List Keyword).length + (if ([] : List Keyword).isEmpty then 0 else 1) < 30)) = true)
  (hline : (apos.endLine == pos.line) = true) (hs : starEach (e :: es) X.env = (false, eval e X.env) :: starEach es X.env) (hplain : (backTo pos (starEach es X.env)).any (·.1) = false) :
  PE X (.Call (.Attribute o name apos) (e :: es) [] pos) (LE X.K Ξ (wpE P (.meth p mo mes))) :=
 (pe_bm pa slot hty hm ho ha hbase hfew hline hs hplain).imp fun σv H Q ⟨σ, g, ρ, s, R, h⟩ => by
  simp only [wpE] at h
  exact thE hP s R (.refl _ _) h fun x g1 ρ1 H1 v1 e1 R1 r1 h => ⟨hk R1 r1 h.1, thA hP (s.ext e1) R1 e1 h.2 fun xs g2 ρ2 H2 ws e2 R2 r2 h =>
   ⟨x, xs, g2, ρ2, R2, r1.ext e2, r2, prP_mono (fun d g' h => h.ext (e1.trans e2)) h⟩⟩
omit hP in
theorem flat_rel {K ρ H} {d : D} {v : V} (r : DRel K ρ H d v) (h : flatD d = true) : v = toV d /\ flatV v = true := by
 cases r with
 | non => exact ⟨rfl, rfl⟩
 | bl _ => exact ⟨rfl, rfl⟩
 | int _ => exact ⟨rfl, rfl⟩
 | str _ => exact ⟨rfl, rfl⟩
 | ty _ => exact absurd h Bool.false_ne_true
 | ref _ => exact absurd h Bool.false_ne_true
 | tup _ _ => exact absurd h Bool.false_ne_true
omit hP in
theorem flats_rel {K ρ H} {l : List D} {vs : List V} (r : DRels K ρ H l vs) (h : l.all flatD = true) : vs = l.map toV /\ vs.all flatV = true := by
 induction l generalizing vs with
 | nil => cases r; exact ⟨rfl, rfl⟩
 | cons d l ih =>
  cases r with
  | cons rd rs =>
   rw [List.all_cons, Bool.and_eq_true] at h
   obtain ⟨e1, f1⟩ := flat_rel rd h.1
   obtain ⟨e2, f2⟩ := ih rs h.2
   subst e1 e2
   exact ⟨rfl, by rw [List.all_cons, f1, f2]; rfl⟩
omit hP in
theorem first_rel {K ρ H} {l : List D} {vs : List V} {y : D} {w : V} {n : Nat} (r : DRels K ρ H l vs) (ry : DRel K ρ H y w) (h : FirstD l y n) : FirstAt vs w n := by
 obtain ⟨h1, h2, ⟨z, h3, h4⟩, h5⟩ := h
 obtain ⟨e1, f1⟩ := flats_rel r h1
 obtain ⟨e2, f2⟩ := flat_rel ry h2
 subst e1 e2
 refine ⟨f1, f2, ⟨toV z, by rw [List.getElem?_map, h3]; rfl, h4⟩, fun m z' hm hz => ?_⟩
 rw [List.getElem?_map, Option.map_eq_some_iff] at hz
 obtain ⟨z'', hz, rfl⟩ := hz
 exact h5 m z'' hm hz
theorem se_index {o : Expr} {es : List Expr} {mo mes : ME} {apos : Pos} (ho : PE X o (LE X.K Ξ (wpE P mo))) (ha : PA X (e :: es) (LA X.K Ξ (wpA P mes)))
  (hbase : attributeBase o "index" X.env (eval o X.env) = eval o X.env)
  (hfew : ((backTo pos (starEach (e :: es) X.env)).all (fun x => !x.1) && (backToKw pos (keywordEach [] X.env)).all (fun x => x.1.isSome) && decide ((e :: es).length + ([] : List Keyword).length + (if ([] : List Keyword).isEmpty then 0 else 1) < 30)) = true)
  (hline : (apos.endLine == pos.line) = true) (hs : starEach (e :: es) X.env = (false, eval e X.env) :: starEach es X.env) (hplain : (backTo pos (starEach es X.env)).any (·.1) = false) :
  PE X (.Call (.Attribute o "index" apos) (e :: es) [] pos) (LE X.K Ξ (wpE P (.meth .index mo mes))) :=
 (pe_index ho ha hbase hfew hline hs hplain).imp fun σv H Q ⟨σ, g, ρ, s, R, h⟩ => by
  simp only [wpE] at h
  refine thE hP s R (.refl _ _) h fun x g1 ρ1 H1 v1 e1 R1 r1 h => ?_
  obtain ⟨hk, h⟩ := h
  rcases hk with ⟨l, rfl⟩ | ⟨a, l, rfl, hl⟩
  ·obtain ⟨a', vs, rfl, ta, rs⟩ := r1.tup_of
   refine .inr ⟨a', vs, rfl, ta.d, thA hP (s.ext e1) R1 e1 h fun xs g2 ρ2 H2 ws e2 R2 r2 h => ?_⟩
   obtain ⟨d', g', ⟨x, y, l', n, ex, hi, W, hz, rfl, rfl⟩, q⟩ := h
   cases ex
   cases hi
   obtain ⟨w, rfl, rw'⟩ := r2.one
   exact ⟨a', vs, w, n, rfl, rfl, (ta.ext e2).sq, first_rel (rs.ext e2) rw' W, (q.ext (e1.trans e2)).now R2 (.int n)⟩
  ·obtain ⟨a', rfl, ra⟩ := r1.ref_of
   obtain ⟨vs, hq, _⟩ := R1.items hl ra
   refine .inl ⟨a', vs, rfl, hq, thA hP (s.ext e1) R1 e1 h fun xs g2 ρ2 H2 ws e2 R2 r2 h => ?_⟩
   obtain ⟨d', g', ⟨x, y, l', n, ex, hi, W, hz, rfl, rfl⟩, q⟩ := h
   cases ex
   obtain ⟨w, rfl, rw'⟩ := r2.one
   obtain ⟨vs2, hq2, rs2⟩ := R2.items (show itemsL _ a = some l' from hi) (e2.get ra)
   have hn : n < 2 ^ 62 := by
    obtain ⟨_, _, ⟨z, hz', _⟩, _⟩ := W
    have := (List.getElem?_eq_some_iff.mp hz').1
    omega
   exact ⟨a', vs2, w, n, rfl, rfl, hq2, first_rel rs2 rw' W, hn, (q.ext (e1.trans e2)).now R2 (.int n)⟩
theorem se_lrng1 {q p2 pos2 : Pos} (hc : X.calm = true) (ha : PE X a (LE X.K Ξ (wpE P ma))) (hgl : Gl X "list") (hml : X.mg "list" = none) (hg : Gl X "range") (hm : X.mg "range" = none) (hs : starEach [a] X.env = [(false, eval a X.env)]) :
  PE X (.Call (.Name "list" p2) [.Call (.Name "range" q) [a] [] pos] [] pos2) (LE X.K Ξ (wpE P (.prim .lrng1 (.cons ma .nil)))) :=
 (pe_callTy (call_list_rng hc) hgl hml (by first | exact PyProof.Rows.boot_list | decide +kernel) (pa_cons (pe_range1 hg hm (sa_cons hP ha (sa_nil hP) (by rw [hs]; rfl)) hs) pa_nil)).imp fun σv H Q ⟨σ, g, ρ, s, R, h⟩ => by
  simp only [wpE] at h
  refine thA hP s R (.refl _ _) h fun xs g1 ρ1 H1 vs e1 R1 r1 h => ?_
  obtain ⟨d', g', ⟨j, rfl, h1, h2, rfl, rfl⟩, q⟩ := h
  obtain ⟨v, rfl, rv⟩ := r1.one
  obtain rfl := rv.int_of
  refine ⟨j, rfl, fun q' hq => ⟨q', 0, j, rfl, upd_same, ⟨by omega, by omega, h1, by omega, by omega⟩, fun p hp => ?_⟩⟩
  rw [show (j - 0).toNat = j.toNat by omega]
  exact (q.ext (e1.trans (upd_ext hq))).new (R1.grow hq) hp (DRels.rng 0 _)
theorem se_lrng2 {q p2 pos2 : Pos} (hc : X.calm = true) (ha : PE X a (LE X.K Ξ (wpE P ma))) (hb : PE X b (LE X.K Ξ (wpE P mb))) (hgl : Gl X "list") (hml : X.mg "list" = none) (hg : Gl X "range") (hm : X.mg "range" = none) (hs : starEach [a, b] X.env = [(false, eval a X.env), (false, eval b X.env)]) (hs2 : starEach [b] X.env = [(false, eval b X.env)]) :
  PE X (.Call (.Name "list" p2) [.Call (.Name "range" q) [a, b] [] pos] [] pos2) (LE X.K Ξ (wpE P (.prim .lrng2 (.cons ma (.cons mb .nil))))) :=
 (pe_callTy (call_list_rng hc) hgl hml (by first | exact PyProof.Rows.boot_list | decide +kernel) (pa_cons (pe_range2 hg hm (sa_cons hP ha (sa_cons hP hb (sa_nil hP) (by rw [hs2]; rfl)) (by rw [hs, hs2])) hs hs2) pa_nil)).imp fun σv H Q ⟨σ, g, ρ, s, R, h⟩ => by
  simp only [wpE] at h
  refine thA hP s R (.refl _ _) h fun xs g1 ρ1 H1 vs e1 R1 r1 h => ?_
  obtain ⟨d', g', ⟨i, j, rfl, hb, rfl, rfl⟩, q⟩ := h
  obtain ⟨v, w, rfl, rv, rw'⟩ := r1.two
  obtain rfl := rv.int_of
  obtain rfl := rw'.int_of
  exact ⟨i, j, rfl, fun q' hq => ⟨q', i, j, rfl, upd_same, hb, fun p hp => (q.ext (e1.trans (upd_ext hq))).new (R1.grow hq) hp (DRels.rng i _)⟩⟩
theorem se_fld {f : Str} (ha : PE X a (LE X.K Ξ (wpE P ma))) (hb : attributeBase a f X.env (eval a X.env) = eval a X.env) : PE X (.Attribute a f pos) (LE X.K Ξ (wpE P (.prim (.fld f) (.cons ma .nil)))) :=
 (pe_fld ha hb).imp fun σv H Q ⟨σ, g, ρ, s, R, h⟩ => by
  simp only [wpE, wpA] at h
  refine thE hP s R (.refl _ _) h fun x g1 ρ1 H1 v1 e1 R1 r1 h => ?_
  obtain ⟨d', g', ⟨i, c, fs, ex, hi, hf, rfl⟩, q⟩ := h
  cases ex
  obtain ⟨a', rfl, ra⟩ := r1.ref_of
  obtain ⟨C, dx, vs, hH, _, hC, rk, na⟩ := R1.ins hi ra
  have lk := rk.look f
  rw [hf] at lk
  obtain ⟨v, hv, rv⟩ := lk.some
  exact ⟨a', C, dx, vs, v, rfl, hH, hC, na _ (PySem.mem_of_lookup hf), hv, q ρ1 H1 v e1 R1 rv⟩
end
section
variable {X : Cx} {Ξ : XKE} {P : Sig} {a b c : Expr} {ma mb mc : ME} {pos : Pos}
theorem se_var {i : Nat} {x : Str} (hN : X.N[i]? = some x) (hv : Vis X.env.scope x) (hd : (x == ("__debug__" : Str)) = false) (hcd : (x == ("__classdict__" : Str)) = false) : PE X (.Name x pos) (LE X.K Ξ (wpE P (.var i))) :=
 (pe_var hN hv hd hcd).imp fun σv H Q ⟨σ, g, ρ, s, R, h⟩ => by
  simp only [wpE] at h
  obtain ⟨d, e, h⟩ := h
  obtain ⟨v, h1, h2⟩ := s.val _ _ e
  exact ⟨v, h1, h.now R h2⟩
theorem se_lit {e : Expr} {d : D} {v : V} (h : PE X e (tC v)) (r : ∀ ρ H, DRel X.K ρ H d v) : PE X e (LE X.K Ξ (wpE P (.lit d))) :=
 h.imp fun σv H Q ⟨σ, g, ρ, s, R, h⟩ => by
  simp only [wpE] at h
  exact LQ.now h R (r ρ H)
theorem se_dnew : PE X (.Dict [] [] pos) (LE X.K Ξ (wpE P (.prim .dnew .nil))) :=
 (pe_dnewK (X := X)).imp fun σv H Q ⟨σ, g, ρ, s, R, h⟩ p hp => by
  simp only [wpE, wpA] at h
  obtain ⟨d', g', ⟨_, rfl, rfl⟩, q⟩ := h
  exact q (ρ ++ [p]) _ _ (ext_snoc hp) (R.new hp (o := .dic []) (u := .dK []) KRels.nil) (.ref (R.snoc_get p))
end
end M

namespace L2
open PySem PySem.Spec PyProof.Rows
section
variable {X : Cx} {m : Str} {pos apos : Pos} {e o : Expr} {es : List Expr} {ta : TE} {t : TA}
noncomputable def tMethD (X : Cx) (m : Str) (E : XK) (ta : TE) (t : TA) : TE := fun σ H Q => ta σ H fun x H1 => ∃ a C dx fs f fd ps k sp, x = .ref a /\ H1 a = some (.ins C dx fs) /\ fs.lookup m = none /\ Cls X.K C /\ Meth X.K C m f /\
 FnOk X.prog X.w X.K X.mg X.base (CXE X.prog X.w) k f fd ps sp /\ Room k X.A /\ Binds X.K fd ps [] /\ t σ H1 fun vs H2 => sp (x :: (vs ++ [])) H2 Q E
theorem pe_methD {pl : Sem Bool} {E : XK} (he : PE X o ta) (hx : Passes (CXE X.prog X.w) X E) (ha : PA X (e :: es) t)
  (hst : starEach (e :: es) X.env = (false, eval e X.env) :: starEach es X.env) (hpl : (backTo pos (starEach es X.env)).any (·.1) = false)
  (ht : eval (.Call (.Attribute o m apos) (e :: es) [] pos) X.env = (do
   let ov <- eval o X.env
   standAt apos.atName
   let (f, first) <- holding [ov] (getMethod ov m pl)
   callWith pos f first (backTo pos (starEach (e :: es) X.env)) (backToKw pos (keywordEach [] X.env)))) :
  PE X (.Call (.Attribute o m apos) (e :: es) [] pos) (tMethD X m E ta t) := by
 intro pins s σ H Q I h
 refine PySem.W.methodCall_KW (pl := pl) (thn (he pins s σ H _ I h) fun u s1 ⟨x, H1, I1, rx, a, C, dx, fs, f, fd, ps, k, sp, ex, ea, l, c, hm, F, hr, hb, q⟩ => ?_) ht
 subst ex
 obtain rfl : u = Value.ref a := rx
 refine getmeth_ok I1 ea c hm l ?_
 refine PySem.W.callWith_K (first := [.ref a]) (h₀ := X.base) I.ok.mod.kin hm.kp (thn (ha pos pins s1 σ H1 _ I1 q) fun us s2 ⟨vs, H2, I2, r, q2⟩ => ⟨I2.kIn, ?_⟩) hst hpl
 exact run_fn (us := .ref a :: us) (vs := .ref a :: vs) F hr hb .nil hx I2 (.cons rfl r) q2
noncomputable def tMethD0 (X : Cx) (m : Str) (E : XK) (ta : TE) : TE := fun σ H Q => ta σ H fun x H1 => ∃ a C dx fs f fd ps k sp, x = .ref a /\ H1 a = some (.ins C dx fs) /\ fs.lookup m = none /\ Cls X.K C /\ Meth X.K C m f /\
 FnOk X.prog X.w X.K X.mg X.base (CXE X.prog X.w) k f fd ps sp /\ Room k X.A /\ Binds X.K fd ps [] /\ sp [x] H1 Q E
theorem pe_methD0 {pl : Sem Bool} {E : XK} (he : PE X o ta) (hx : Passes (CXE X.prog X.w) X E)
  (ht : eval (.Call (.Attribute o m apos) [] [] pos) X.env = (do
   let ov <- eval o X.env
   standAt apos.atName
   let (f, first) <- holding [ov] (getMethod ov m pl)
   callWith pos f first (backTo pos (starEach [] X.env)) (backToKw pos (keywordEach [] X.env)))) :
  PE X (.Call (.Attribute o m apos) [] [] pos) (tMethD0 X m E ta) := by
 intro pins s σ H Q I h
 refine PySem.W.methodCall_KW (pl := pl) (thn (he pins s σ H _ I h) fun u s1 ⟨x, H1, I1, rx, a, C, dx, fs, f, fd, ps, k, sp, ex, ea, l, c, hm, F, hr, hb, q⟩ => ?_) ht
 subst ex
 obtain rfl : u = Value.ref a := rx
 refine getmeth_ok I1 ea c hm l ?_
 exact PySem.W.callWith_K0 (first := [.ref a]) I1.kIn hm.kp (run_fn (us := [.ref a]) (vs := [.ref a]) (dvs := []) F hr hb .nil hx I1 (.cons rfl .nil) q)
end
end L2
namespace M
open PySem L2 PySem.Spec PyProof.Rows
inductive GRel (K : PySem.W.Frag) : List D -> List (Str × V) -> Prop
 | nil : GRel K [] []
 | cons {x : Str} {d : D} {v : V} {ds : List D} {vs : List (Str × V)} (h : ∀ ρ H, DRel K ρ H d v) (r : GRel K ds vs) : GRel K (.tup [.str x, d] :: ds) ((x, v) :: vs)
theorem GRel.look {K : PySem.W.Frag} {ρ : List Addr} {H : Hp} {ds vs} (x : Str) (h : GRel K ds vs) : ORelV K ρ H (lookD ds x) (vs.lookup x) := by
 induction h with
 | nil => trivial
 | cons h r ih =>
  rename_i y d v ds vs
  unfold lookD
  rw [List.lookup_cons]
  by_cases e : x = y
  ·rw [if_pos e, show (x == y) = true from by simp [e]]; exact h ρ H
  ·rw [if_neg e, show (x == y) = false from by simpa using e]; exact ih
noncomputable def GDict (X : Cx) (x : Str) (kvs : List D) : Prop := ∃ A vs, X.mg x = some (.ref A) /\ KDict X.K X.w.params A vs /\ GRel X.K kvs vs
noncomputable def ginPr (neg : Bool) : Pr := if neg then .gnin else .gin
theorem ginPr_R {neg : Bool} : PR (ginPr neg) = ginR neg := by cases neg <;> rfl
theorem str_assoc (a b c : Str) : a ++ b ++ c = a ++ (b ++ c) := by
 cases a; cases b; cases c
 show Str.mk _ = Str.mk _
 exact congrArg Str.mk (Array.append_assoc ..)
theorem str_nil (x : Str) : x ++ Str.empty = x := by cases x; show Str.mk _ = _; simp [Str.empty]
theorem nil_str (x : Str) : Str.empty ++ x = x := by cases x; show Str.mk _ = _; simp [Str.empty]
section
variable {X : Cx} {Ξ : XKE} {P : Sig} (hP : SigMono P) {a b c : Expr} {ma mb mc : ME} {pos : Pos}
include hP
theorem se_gin {x : Str} {p : Pos} {kvs : List D} {neg : Bool} (hg : Gl X x) (hd : (x == ("__debug__" : Str)) = false) (hG : GDict X x kvs) (ha : PE X a (LE X.K Ξ (wpE P ma))) (hm : behindInMarks (if neg then .NotIn else .In) (.Name x p) = false) :
  PE X (.Compare a [if neg then .NotIn else .In] [.Name x p] pos) (LE X.K Ξ (wpE P (.prim (ginPr neg) (.cons (.lit (.tup kvs)) (.cons ma .nil))))) := by
 obtain ⟨A, vs, hmg, hk, gr⟩ := hG
 refine (pe_cmpR (op_kin (kvs := vs) neg) ha (pe_glob (v := .ref A) hg hmg rfl hd) hm).imp fun σv H Q ⟨σ, g, ρ, s, R, h⟩ => ?_
 simp only [wpE, wpA] at h
 refine thE hP s R (.refl _ _) h fun d g1 ρ1 H1 v1 e1 R1 r1 h => ?_
 obtain ⟨d', g', h, q⟩ := h
 rw [ginPr_R] at h
 obtain ⟨kvs', z, ex, rfl, rfl⟩ := h
 cases ex
 obtain rfl := r1.str_of
 refine ⟨A, z, rfl, hk, rfl, ?_⟩
 rw [<- (gr.look (ρ := ρ1) (H := H1) z).isSome]
 exact q ρ1 H1 _ e1 R1 (.bl _)
theorem st_gin {x : Str} {p : Pos} {kvs : List D} {neg : Bool} (hg : Gl X x) (hd : (x == ("__debug__" : Str)) = false) (hG : GDict X x kvs) (ha : PE X a (LE X.K Ξ (wpE P ma))) (hm : behindInMarks (if neg then .NotIn else .In) (.Name x p) = false) :
  PT X (.Compare a [if neg then .NotIn else .In] [.Name x p] pos) (LT X.K Ξ (wpT P (.tst (.prim (ginPr neg) (.cons (.lit (.tup kvs)) (.cons ma .nil)))))) := by
 obtain ⟨A, vs, hmg, hk, gr⟩ := hG
 refine (pt_cmpR (op_kin (kvs := vs) neg) ha (pe_glob (v := .ref A) hg hmg rfl hd) hm).imp fun σv H Q ⟨σ, g, ρ, s, R, h⟩ => ?_
 simp only [wpT, wpE, wpA] at h
 refine thE hP s R (.refl _ _) h fun d g1 ρ1 H1 v1 e1 R1 r1 h => ?_
 obtain ⟨d', g', h, t, ht, q⟩ := h
 rw [ginPr_R] at h
 obtain ⟨kvs', z, ex, rfl, rfl⟩ := h
 cases ex
 obtain rfl := r1.str_of
 refine ⟨A, z, rfl, hk, rfl, t, ?_, q ρ1 H1 e1 R1⟩
 rw [<- (gr.look (ρ := ρ1) (H := H1) z).isSome]
 rcases ht with ⟨z, _⟩ | z | ⟨i, z, _⟩ | ⟨l, z, _⟩ | ⟨a, l, z, _⟩ <;> cases z
 rfl
theorem se_gget {x : Str} {p : Pos} {kvs : List D} (hg : Gl X x) (hd : (x == ("__debug__" : Str)) = false) (hG : GDict X x kvs) (ha : PE X a (LE X.K Ξ (wpE P ma))) (hs : PlainIx a) : PE X (.Subscript (.Name x p) a pos) (LE X.K Ξ (wpE P (.prim .gget (.cons (.lit (.tup kvs)) (.cons ma .nil))))) := by
 obtain ⟨A, vs, hmg, hk, gr⟩ := hG
 refine (pe_ix (ix_kd (kvs := vs)) (pe_glob (v := .ref A) hg hmg rfl hd) ha hs).imp fun σv H Q ⟨σ, g, ρ, s, R, h⟩ => ?_
 simp only [wpE, wpA] at h
 refine thE hP s R (.refl _ _) h fun d g1 ρ1 H1 v1 e1 R1 r1 h => ?_
 obtain ⟨d', g', ⟨kvs', z, ex, hz, rfl⟩, q⟩ := h
 cases ex
 obtain rfl := r1.str_of
 have lk := gr.look (ρ := ρ1) (H := H1) z
 rw [hz] at lk
 obtain ⟨w, hw, lk⟩ := lk.some
 exact ⟨A, z, w, rfl, hk, rfl, hw, q ρ1 H1 _ e1 R1 lk⟩
theorem se_fv (ha : PE X a (LE X.K Ξ (wpE P ma))) : PE X (.FormattedValue a (-1) none pos) (LE X.K Ξ (wpE P (.prim .fv (.cons ma .nil)))) :=
 (pe_fv ha).imp fun σv H Q ⟨σ, g, ρ, s, R, h⟩ => by
  simp only [wpE, wpA] at h
  refine thE hP s R (.refl _ _) h fun d g1 ρ1 H1 v1 e1 R1 r1 h => ?_
  obtain ⟨d', g', ⟨rfl, h⟩, q⟩ := h
  rcases h with ⟨i, ex, h1, rfl⟩ | ⟨z, ex, h1, rfl⟩
  ·cases ex; exact .inl ⟨i, r1.int_of, h1, q ρ1 H1 _ e1 R1 (.str _)⟩
  ·cases ex; exact .inr ⟨z, r1.str_of, line_small (by omega), q ρ1 H1 _ e1 R1 (.str _)⟩
omit hP in
inductive FOk (X : Cx) (Ξ : XKE) (P : Sig) : List Expr -> ME -> List TE -> Prop
 | nil : FOk X Ξ P [] .nil []
 | lit {x : Str} {j : Nat} {p : Pos} {es : List Expr} {ms : ME} {ts : List TE} (hx : x.length <= 2000) (r : FOk X Ξ P es ms ts) : FOk X Ξ P (.Constant (.str x) j p :: es) (.cons (.lit (.str x)) ms) (LE X.K Ξ (wpE P (.lit (.str x))) :: ts)
 | val {e : Expr} {m : ME} {p : Pos} {es : List Expr} {ms : ME} {ts : List TE} (he : PE X e (LE X.K Ξ (wpE P m))) (r : FOk X Ξ P es ms ts) : FOk X Ξ P (.FormattedValue e (-1) none p :: es) (.cons (.prim .fv (.cons m .nil)) ms) (LE X.K Ξ (wpE P (.prim .fv (.cons m .nil))) :: ts)
theorem FOk.pjs {es ms ts} (h : FOk X Ξ P es ms ts) : PJs X es ts := by
 induction h with
 | nil => exact .nil
 | lit hx r ih => exact .cons (se_lit pe_str fun _ _ => .str _) ih
 | val he r ih => exact .cons (se_fv hP he) ih
theorem FOk.join {σv : L2.St} {Q : Str -> Hp -> Prop} {es ms ts} (hf : FOk X Ξ P es ms ts) : ∀ {σ : S} {g : G} {ρ : List Addr} {H : Hp} {acc : Str}, acc.length + 2000 * es.length <= 100000 -> SRel X.K ρ H σ σv -> Rl X.K ρ g H ->
  wpA P ms σ g (fun ds g1 => ∃ x, joinD ds = some x /\ ∀ ρ' H', Ext ρ H ρ' H' -> Rl X.K ρ' g1 H' -> Q (acc ++ x) H') (LX X.K ρ H Ξ) -> tJoin ts σv H acc (fun out H1 => out.length <= sizeLine /\ Q out H1) := by
 have tl : ∀ {acc y : Str} {ρ : List Addr} {H : Hp} {ρ1 : List Addr} {H1 : Hp} {ds : List D} {g1 : G}, Ext ρ H ρ1 H1 -> (∃ x, joinD (.str y :: ds) = some x /\ ∀ ρ' H', Ext ρ H ρ' H' -> Rl X.K ρ' g1 H' -> Q (acc ++ x) H') -> ∃ x, joinD ds = some x /\ ∀ ρ' H', Ext ρ1 H1 ρ' H' -> Rl X.K ρ' g1 H' -> Q (acc ++ y ++ x) H' := by
  intro acc y ρ H ρ1 H1 ds g1 e1 h
  obtain ⟨x, hx, h⟩ := h
  simp only [joinD] at hx
  cases hj : joinD ds with
  | none => rw [hj] at hx; cases hx
  | some x' =>
   rw [hj] at hx; cases hx
   refine ⟨x', rfl, fun ρ' H' e' R' => ?_⟩
   rw [str_assoc]
   exact h ρ' H' (e1.trans e') R'
 induction hf with
 | nil =>
  intro σ g ρ H acc ha s R h
  simp only [wpA] at h
  obtain ⟨x, hx, h⟩ := h
  cases hx
  rw [str_nil] at h
  exact ⟨line_small (by simpa using ha), h ρ H (.refl _ _) R⟩
 | lit hx r ih =>
  rename_i y j p es ms ts
  intro σ g ρ H acc ha s R h
  simp only [wpA, wpE] at h
  refine ⟨σ, g, ρ, s, R, ?_⟩
  simp only [wpE]
  intro ρ1 H1 v1 e1 R1 r1
  obtain rfl := r1.str_of
  have hl : (acc ++ y).length <= acc.length + 2000 := by rw [strLen_append]; omega
  simp only [List.length_cons] at ha
  exact ⟨y, rfl, line_small (by omega), ih (by omega) (s.ext e1) R1 (wpA_mono hP _ _ _ _ _ _ _ (fun ds g1 h => tl e1 h) (fun _ _ z => LX.ext e1 z) h)⟩
 | val he r ih =>
  rename_i e m p es ms ts
  intro σ g ρ H acc ha s R h
  simp only [wpA, wpE] at h
  refine ⟨σ, g, ρ, s, R, ?_⟩
  simp only [wpE, wpA]
  simp only [List.length_cons] at ha
  refine wpE_mono hP m _ _ _ _ _ _ (fun d g1 h => ?_) (fun _ _ z => z) h
  obtain ⟨d', g', ⟨rfl, h⟩, q⟩ := h
  have hy : ∃ y, d' = .str y /\ y.length <= 2000 := by
   rcases h with ⟨i, ex, h1, rfl⟩ | ⟨z, ex, h1, rfl⟩
   ·exact ⟨_, rfl, by rw [PySem.ofString_length]; have := int_text_length_le (k := 1920) (by decide) h1; omega⟩
   ·exact ⟨z, rfl, h1⟩
  obtain ⟨y, rfl, hy⟩ := hy
  refine ⟨_, _, ⟨rfl, h⟩, fun ρ1 H1 v1 e1 R1 r1 => ?_⟩
  obtain rfl := r1.str_of
  have hl : (acc ++ y).length <= acc.length + 2000 := by rw [strLen_append]; omega
  exact ⟨y, rfl, line_small (by omega), ih (by omega) (s.ext e1) R1 (wpA_mono hP _ _ _ _ _ _ _ (fun ds g1 h => tl e1 h) (fun _ _ z => LX.ext e1 z) q)⟩
theorem se_fstr {v₁ v₂ : Expr} {rest : List Expr} {ms : ME} {ts : List TE} (h : FOk X Ξ P (v₁ :: v₂ :: rest) ms ts) (hl : (v₁ :: v₂ :: rest).length <= 40) : PE X (.JoinedStr (v₁ :: v₂ :: rest) pos) (LE X.K Ξ (wpE P (.prim .fstr ms))) :=
 (pe_join (h.pjs hP)).imp fun σv H Q ⟨σ, g, ρ, s, R, hw⟩ => by
  simp only [wpE] at hw
  refine FOk.join hP h (Q := fun out H1 => Q (.str out) H1) (acc := Str.empty) ?_ s R (wpA_mono hP ms _ _ _ _ _ _ (fun ds g1 hw => ?_) (fun _ _ z => z) hw)
  ·have : Str.empty.length = 0 := rfl
   omega
  ·obtain ⟨d', g', ⟨x, hx, rfl, rfl⟩, q⟩ := hw
   refine ⟨x, hx, fun ρ' H' e' R' => ?_⟩
   rw [nil_str]
   exact q ρ' H' _ e' R' (.str _)
omit hP in
noncomputable def spD (ex : List Str) (K : PySem.W.Frag) (n : Nat) (t : List D -> G -> KD -> KX -> Prop) : Sp := fun vs H Q E => vs.length = n /\ ∃ ds g ρ, DRels K ρ H ds vs /\ Rl K ρ g H /\ t ds g (LQ K ρ H Q) (LX K ρ H (ex, E))
omit hP in
noncomputable def FnR (X : Cx) (P : Sig) (ex : List Str) (k f : Nat) (fa : Addr) (fd : FuncData) (ps : List Str) : Prop :=
 FnOk X.prog X.w X.K X.mg X.base (CXE X.prog X.w) k fa fd ps (spD ex X.K ps.length (P f)) /\ Binds X.K fd ps [] /\ ∀ ds g Q E, P f ds g Q E -> ds.length = ps.length
theorem sp_of {k f : Nat} {fa : Addr} {fd : FuncData} {ps : List Str} (F : FnR X P Ξ.1 k f fa fd ps) {ρ ρ0 : List Addr} {H H0 : Hp} {g : G} {xs : List D} {vs : List V} {Q0 : KD} {Q : VK} (e0 : Ext ρ0 H0 ρ H) (R : Rl X.K ρ g H) (r : DRels X.K ρ H xs vs) (h : P f xs g Q0 (LX X.K ρ0 H0 Ξ))
  (k : ∀ d g', Q0 d g' -> LQ X.K ρ H Q d g') : spD Ξ.1 X.K ps.length (P f) (vs ++ []) H Q Ξ.2 := by
 rw [List.append_nil]
 exact ⟨by rw [<- r.length]; exact F.2.2 _ _ _ _ h, xs, g, ρ, r, R, hP _ _ _ _ _ _ _ k (fun _ _ z => LX.ext e0 z) h⟩
theorem se_call {k f : Nat} {x : Str} {fa : Addr} {fd : FuncData} {ps : List Str} {es : List Expr} {e : Expr} {mes : ME} {p : Pos}
  (hx : Passes (CXE X.prog X.w) X Ξ.2) (F : FnR X P Ξ.1 k f fa fd ps) (hr : Room k X.A) (hg : Gl X x) (hm : X.mg x = some (.ref fa)) (hk : PySem.W.keepIn X.K (.ref fa) = true)
  (ha : PA X (e :: es) (LA X.K Ξ (wpA P mes))) (hd : (x == ("__debug__" : Str)) = false) (hst : starEach (e :: es) X.env = (false, eval e X.env) :: starEach es X.env) (hpl : (backTo pos (starEach es X.env)).any (·.1) = false) : PE X (.Call (.Name x p) (e :: es) [] pos) (LE X.K Ξ (wpE P (.call f mes))) :=
 (pe_call F.1 hr hg hm hk F.2.1 .nil hx ha hd hst hpl).imp fun σv H Q ⟨σ, g, ρ, s, R, h⟩ => by
  simp only [wpE] at h
  exact thA hP s R (.refl _ _) h fun xs g1 ρ1 H1 vs e1 R1 r1 h => sp_of hP F e1 R1 r1 h fun d g' h => h.ext e1
theorem make_of {c : Str} {f k : Nat} {C fa : Addr} {fd : FuncData} {ps : List Str} (F : FnR X P Ξ.1 k f fa fd ps) (hC : IsCls X.K c C) (hc : Cls X.K C) {ρ ρ0 : List Addr} {H H0 : Hp} {g1 : G} {xs : List D} {vs : List V} {Q : VK} (e0 : Ext ρ0 H0 ρ H) (R : Rl X.K ρ g1 H) (r : DRels X.K ρ H xs vs)
  (h : P f (.ref g1.length :: xs) (g1 ++ [.ins c []]) (fun d g2 => d = .non /\ LQ X.K ρ0 H0 Q (.ref g1.length) g2) (LX X.K ρ0 H0 Ξ)) : ∀ x dx, H x = none -> H dx = none -> dx ≠ x -> spD Ξ.1 X.K ps.length (P f) (.ref x :: (vs ++ [])) (upd (upd H dx (.own x)) x (.ins C dx [])) (fun v H2 => v = .non /\ Q (.ref x) H2) Ξ.2 := by
 intro x dx hx hdx hne
 have hx2 : upd H dx (.own x) x = none := by rw [upd_ne (Ne.symm hne)]; exact hx
 have R2 := R.grow (o := .own x) hdx
 have e2 : Ext ρ H ρ (upd H dx (.own x)) := upd_ext hdx
 have R3 := R2.new (o := .ins c []) (u := .ins C dx []) hx2 ⟨hC, hc, .nil, fun x hx => absurd hx (by simp)⟩
 have e3 : Ext ρ (upd H dx (.own x)) (ρ ++ [x]) (upd (upd H dx (.own x)) x (.ins C dx [])) := ext_snoc hx2
 have := sp_of hP F (e0.trans (e2.trans e3)) R3 (.cons (.ref (R.snoc_get x)) (r.ext (e2.trans e3))) h (Q := fun v H2 => v = .non /\ Q (.ref x) H2) fun d g' q ρ' H' v e' R' r' => by
  obtain ⟨rfl, q⟩ := q
  exact ⟨r'.non_of, q ρ' H' _ (e0.trans (e2.trans (e3.trans e'))) R' (.ref (e'.get (R.snoc_get x)))⟩
 exact this
theorem se_make {k f : Nat} {x : Str} {C fa : Addr} {fd : FuncData} {ps : List Str} {es : List Expr} {e : Expr} {mes : ME} {p : Pos}
  (hx : Passes (CXE X.prog X.w) X Ξ.2) (F : FnR X P Ξ.1 k f fa fd ps) (M : Mk X.K C fa) (hC : IsCls X.K x C) (hc : Cls X.K C) (hr : Room (k + 1) X.A) (hg : Gl X x) (hm : X.mg x = some (.ref C))
  (ha : PA X (e :: es) (LA X.K Ξ (wpA P mes))) (hd : (x == ("__debug__" : Str)) = false) (hst : starEach (e :: es) X.env = (false, eval e X.env) :: starEach es X.env) (hpl : (backTo pos (starEach es X.env)).any (·.1) = false) : PE X (.Call (.Name x p) (e :: es) [] pos) (LE X.K Ξ (wpE P (.make x f mes))) :=
 (pe_make M F.1 hr hg hm F.2.1 .nil hx ha hd hst hpl).imp fun σv H Q ⟨σ, g, ρ, s, R, h⟩ => by
  simp only [wpE] at h
  exact thA hP s R (.refl _ _) h fun xs g1 ρ1 H1 vs e1 R1 r1 h => make_of hP F hC hc e1 R1 r1 h
theorem se_make0 {k f : Nat} {x : Str} {C fa : Addr} {fd : FuncData} {ps : List Str} {p : Pos}
  (hx : Passes (CXE X.prog X.w) X Ξ.2) (F : FnR X P Ξ.1 k f fa fd ps) (M : Mk X.K C fa) (hC : IsCls X.K x C) (hc : Cls X.K C) (hr : Room (k + 1) X.A) (hg : Gl X x) (hm : X.mg x = some (.ref C)) (hd : (x == ("__debug__" : Str)) = false) : PE X (.Call (.Name x p) [] [] pos) (LE X.K Ξ (wpE P (.make x f .nil))) :=
 (pe_make0 M F.1 hr hg hm F.2.1 .nil hx hd).imp fun σv H Q ⟨σ, g, ρ, s, R, h⟩ => by
  simp only [wpE, wpA] at h
  exact make_of hP F hC hc (.refl _ _) R .nil h
omit hP in
noncomputable def MethsOk (X : Cx) (P : Sig) (ex : List Str) (m : Str) (cs : List (Str × Nat)) : Prop := ∀ c f C, cs.lookup c = some f -> IsCls X.K c C -> ∃ k fa fd ps, Meth X.K C m fa /\ FnR X P ex k f fa fd ps /\ Room k X.A
theorem se_methc {m : Str} {cs : List (Str × Nat)} {o e : Expr} {es : List Expr} {mo mes : ME} {apos : Pos} {pl : Sem Bool} (hx : Passes (CXE X.prog X.w) X Ξ.2) (hM : MethsOk X P Ξ.1 m cs) (ho : PE X o (LE X.K Ξ (wpE P mo))) (ha : PA X (e :: es) (LA X.K Ξ (wpA P mes)))
  (hst : starEach (e :: es) X.env = (false, eval e X.env) :: starEach es X.env) (hpl : (backTo pos (starEach es X.env)).any (·.1) = false)
  (ht : eval (.Call (.Attribute o m apos) (e :: es) [] pos) X.env = (do
   let ov <- eval o X.env
   standAt apos.atName
   let (f, first) <- holding [ov] (getMethod ov m pl)
   callWith pos f first (backTo pos (starEach (e :: es) X.env)) (backToKw pos (keywordEach [] X.env)))) : PE X (.Call (.Attribute o m apos) (e :: es) [] pos) (LE X.K Ξ (wpE P (.methc m cs mo mes))) :=
 (pe_methD ho hx ha hst hpl ht).imp fun σv H Q ⟨σ, g, ρ, s, R, h⟩ => by
  simp only [wpE] at h
  refine thE hP s R (.refl _ _) h fun x g1 ρ1 H1 v1 e1 R1 r1 h => ?_
  obtain ⟨i, c, fs, f, rfl, hi, hf, hcs, h⟩ := h
  obtain ⟨a', rfl, ra⟩ := r1.ref_of
  obtain ⟨C, dx, vs, hH, hC, hcl, rk, na⟩ := R1.ins hi ra
  obtain ⟨k, fa, fd, ps, M, F, hr⟩ := hM c f C hcs hC
  have lk := rk.look m
  rw [hf] at lk
  have hl : vs.lookup m = none := by cases e : vs.lookup m with | none => rfl | some w => rw [e] at lk; exact lk.elim
  refine ⟨a', C, dx, vs, fa, fd, ps, k, _, rfl, hH, hl, hcl, M, F.1, hr, F.2.1, ?_⟩
  exact thA hP (s.ext e1) R1 e1 h fun xs g2 ρ2 H2 ws e2 R2 r2 h => sp_of hP F (e1.trans e2) R2 (.cons (.ref (e2.get ra)) r2) h fun d g' h => h.ext (e1.trans e2)
theorem se_methc0 {m : Str} {cs : List (Str × Nat)} {o : Expr} {mo : ME} {apos : Pos} {pl : Sem Bool} (hx : Passes (CXE X.prog X.w) X Ξ.2) (hM : MethsOk X P Ξ.1 m cs) (ho : PE X o (LE X.K Ξ (wpE P mo)))
  (ht : eval (.Call (.Attribute o m apos) [] [] pos) X.env = (do
   let ov <- eval o X.env
   standAt apos.atName
   let (f, first) <- holding [ov] (getMethod ov m pl)
   callWith pos f first (backTo pos (starEach [] X.env)) (backToKw pos (keywordEach [] X.env)))) : PE X (.Call (.Attribute o m apos) [] [] pos) (LE X.K Ξ (wpE P (.methc m cs mo .nil))) :=
 (pe_methD0 ho hx ht).imp fun σv H Q ⟨σ, g, ρ, s, R, h⟩ => by
  simp only [wpE, wpA] at h
  refine thE hP s R (.refl _ _) h fun x g1 ρ1 H1 v1 e1 R1 r1 h => ?_
  obtain ⟨i, c, fs, f, rfl, hi, hf, hcs, h⟩ := h
  obtain ⟨a', rfl, ra⟩ := r1.ref_of
  obtain ⟨C, dx, vs, hH, hC, hcl, rk, na⟩ := R1.ins hi ra
  obtain ⟨k, fa, fd, ps, M, F, hr⟩ := hM c f C hcs hC
  have lk := rk.look m
  rw [hf] at lk
  have hl : vs.lookup m = none := by cases e : vs.lookup m with | none => rfl | some w => rw [e] at lk; exact lk.elim
  exact ⟨a', C, dx, vs, fa, fd, ps, k, _, rfl, hH, hl, hcl, M, F.1, hr, F.2.1, sp_of hP F e1 R1 (.cons (.ref ra) .nil) h fun d g' h => h.ext e1⟩
end
end M

namespace M
open PySem L2 PySem.Spec PyProof.Rows
inductive PRels (K : PySem.W.Frag) (ρ : List Addr) (H : Hp) : List D -> List (V × V) -> Prop
 | nil : PRels K ρ H [] []
 | cons {k d : D} {x y : V} {ds : List D} {ps : List (V × V)} (h1 : DRel K ρ H k x) (h2 : DRel K ρ H d y) (r : PRels K ρ H ds ps) : PRels K ρ H (k :: d :: ds) ((x, y) :: ps)
theorem dct_of {K ρ H} {xs : List D} {ps : List (V × V)} (r : PRels K ρ H xs ps) : ∀ {acc kvs : List (Key × D)} {accV : List (Key × V)}, dctD xs acc = some kvs -> KRels K ρ H acc accV -> ∃ more : List (Key × V), ps = more.map (fun kv => (kV kv.1, kv.2)) /\ 2 * more.length = xs.length /\ KRels K ρ H kvs (mergeK accV more) := by
 induction r with
 | nil =>
  intro acc kvs accV h ra
  cases h
  exact ⟨[], rfl, rfl, ra⟩
 | cons h1 h2 r ih =>
  rename_i k d x y ds ps
  intro acc kvs accV h ra
  simp only [dctD] at h
  cases hk : keyD k with
  | none => rw [hk] at h; cases h
  | some c =>
   rw [hk] at h
   obtain ⟨more, e1, e2, r2⟩ := ih (show dctD ds (putD acc c d) = some kvs from h) (ra.put h2)
   have ex := key_rel hk h1
   subst ex
   refine ⟨(c, y) :: more, by rw [List.map_cons, <- e1], by simp only [List.length_cons]; omega, r2⟩
section
variable {X : Cx} {Ξ : XKE} {P : Sig} (hP : SigMono P) {pos : Pos}
inductive DOk (X : Cx) (Ξ : XKE) (P : Sig) : List (Option Expr) -> List Expr -> ME -> List (TE × TE) -> Prop
 | nil : DOk X Ξ P [] [] .nil []
 | cons {k v : Expr} {ks : List (Option Expr)} {vs : List Expr} {mk mv ms : ME} {trs : List (TE × TE)} (hk : PE X k (LE X.K Ξ (wpE P mk))) (hv : PE X v (LE X.K Ξ (wpE P mv))) (r : DOk X Ξ P ks vs ms trs) :
   DOk X Ξ P (some k :: ks) (v :: vs) (.cons mk (.cons mv ms)) ((LE X.K Ξ (wpE P mk), LE X.K Ξ (wpE P mv)) :: trs)
theorem DOk.pps {ks vs ms trs} (h : DOk X Ξ P ks vs ms trs) : PPs X pos ks vs trs := by
 induction h with
 | nil => exact pps_nil
 | cons hk hv r ih => exact pps_cons hk hv ih
theorem DOk.len {ks vs ms trs} (h : DOk X Ξ P ks vs ms trs) : ks.all (·.isSome) = true /\ ks.length = vs.length := by
 induction h with
 | nil => exact ⟨rfl, rfl⟩
 | cons hk hv r ih => exact ⟨by simpa using ih.1, by simp [ih.2]⟩
include hP
theorem DOk.pairs {ks vs ms trs} (hd : DOk X Ξ P ks vs ms trs) : ∀ {σv : L2.St} {σ : S} {g : G} {ρ ρ0 : List Addr} {H H0 : Hp} {Qd : List D -> G -> Prop} {Q : List (V × V) -> Hp -> Prop}, SRel X.K ρ H σ σv -> Rl X.K ρ g H -> Ext ρ0 H0 ρ H -> wpA P ms σ g Qd (LX X.K ρ0 H0 Ξ) ->
  (∀ ds g' ρ' H' ps, Ext ρ H ρ' H' -> Rl X.K ρ' g' H' -> PRels X.K ρ' H' ds ps -> Qd ds g' -> Q ps H') -> tPairs trs σv H Q := by
 induction hd with
 | nil =>
  intro σv σ g ρ ρ0 H H0 Qd Q s R e0 h k
  simp only [wpA] at h
  exact k [] g ρ H [] (.refl _ _) R .nil h
 | cons hk hv r ih =>
  intro σv σ g ρ ρ0 H H0 Qd Q s R e0 h k
  simp only [wpA] at h
  refine thE hP s R e0 h fun x g1 ρ1 H1 v1 e1 R1 r1 h => thE hP (s.ext e1) R1 (e0.trans e1) h fun y g2 ρ2 H2 v2 e2 R2 r2 h => ?_
  refine ih (s.ext (e1.trans e2)) R2 (e0.trans (e1.trans e2)) h fun ds g' ρ' H' ps e' R' rp hq => ?_
  exact k _ g' ρ' H' _ (e1.trans (e2.trans e')) R' (.cons (r1.ext (e2.trans e')) (r2.ext e') rp) hq
theorem se_dct {ks : List (Option Expr)} {vs : List Expr} {ms : ME} {trs : List (TE × TE)} (hd : DOk X Ξ P ks vs ms trs) (h0 : ks ≠ []) (h15 : ks.length <= 15) : PE X (.Dict ks vs pos) (LE X.K Ξ (wpE P (.dct ms))) :=
 (pe_disp hd.pps hd.len.1 hd.len.2 h0 h15).imp fun σv H Q ⟨σ, g, ρ, s, R, h⟩ p hp => by
  simp only [wpE] at h
  have e1 : Ext ρ H (ρ ++ [p]) (upd H p (.dK [])) := ext_snoc hp
  refine DOk.pairs hP hd (s.ext e1) (R.new hp (o := .dic []) (u := .dK []) KRels.nil) e1 h fun ds g2 ρ2 H2 ps e2 R2 rp hq => ?_
  obtain ⟨kvs, hk, hz, hg, q⟩ := hq
  have hp2 : ρ2[g.length]? = some p := e2.get (R.snoc_get p)
  obtain ⟨vs', hv, rv⟩ := R2.dic hg hp2
  cases rv
  obtain ⟨more, em, hl, rk⟩ := dct_of rp hk (accV := []) .nil
  refine ⟨hv, more, em, by omega, ?_⟩
  obtain ⟨R3, e3⟩ := R2.put (o' := .dic kvs) (u := .dK (mergeK [] more)) hg rfl hp2 rk
  exact q ρ2 _ _ (e1.trans (e2.trans e3)) R3 (.ref hp2)
end
end M

namespace M
open PySem L2 PySem.Spec PyProof.Rows
theorem j_tup {K : PySem.W.Frag} {ρ0 : List Addr} {H0 : Hp} {a : Addr} {l : List D} {vs : List V} (ht : TupAt K H0 a vs) (rs : DRels K ρ0 H0 l vs) : JRel K ρ0 H0 (.fix l) (Itt K a) := by
 intro ρ g H e R i
 have ht' := ht.ext e
 have rs' := rs.ext e
 refine ⟨fun h => ⟨vs, ht'.sq, ?_⟩, fun d h => ?_⟩
 ·simp only [IK.at] at h
  have := List.getElem?_eq_none_iff.mp (Option.some.inj h)
  rw [<- rs'.length]; exact this
 ·simp only [IK.at] at h
  obtain ⟨v, hv, rv⟩ := rs'.get (Option.some.inj h)
  refine ⟨⟨vs, v, ht'.sq, hv⟩, fun w H' y => ?_⟩
  obtain ⟨rfl, y⟩ := y
  have := y vs ht'.sq
  rw [hv] at this; cases this
  exact ⟨.refl _ _, R, rv⟩
theorem j_lst {K : PySem.W.Frag} {ρ0 : List Addr} {H0 : Hp} {a : Addr} {j : Nat} (ha : ρ0[j]? = some a) : JRel K ρ0 H0 (.lst j) (Itl K a) := by
 intro ρ g H e R i
 have ha' := e.get ha
 refine ⟨fun h => ?_, fun d h => ?_⟩
 ·simp only [IK.at] at h
  cases el : itemsL g j with
  | none => rw [el] at h; cases h
  | some l =>
   rw [el] at h
   obtain ⟨vs, hq, rs⟩ := R.items el ha'
   refine ⟨vs, hq, ?_⟩
   have := List.getElem?_eq_none_iff.mp (Option.some.inj h)
   rw [<- rs.length]; exact this
 ·simp only [IK.at] at h
  cases el : itemsL g j with
  | none => rw [el] at h; cases h
  | some l =>
   rw [el] at h
   obtain ⟨vs, hq, rs⟩ := R.items el ha'
   obtain ⟨v, hv, rv⟩ := rs.get (Option.some.inj h)
   refine ⟨⟨vs, v, hq, hv⟩, fun w H' y => ?_⟩
   obtain ⟨rfl, y⟩ := y
   have := y vs hq
   rw [hv] at this; cases this
   exact ⟨.refl _ _, R, rv⟩
theorem j_rng {K : PySem.W.Frag} {ρ0 : List Addr} {H0 : Hp} {lo : Int} {n : Nat} : JRel K ρ0 H0 (.fix (rngD lo n)) (Itr lo n) := by
 unfold rngD
 intro ρ g H e R i
 refine ⟨fun h => ?_, fun d h => ?_⟩
 ·simp only [IK.at] at h
  have := List.getElem?_eq_none_iff.mp (Option.some.inj h)
  show n <= i
  simpa using this
 ·simp only [IK.at] at h
  have h := Option.some.inj h
  have hi : i < n := by
   have := (List.getElem?_eq_some_iff.mp h).1
   simpa using this
  rw [List.getElem?_map, List.getElem?_range hi] at h
  cases h
  refine ⟨hi, fun w H' y => ?_⟩
  obtain ⟨rfl, rfl⟩ := y
  exact ⟨.refl _ _, R, .int _⟩
theorem j_enl {K : PySem.W.Frag} {ρ0 : List Addr} {H0 : Hp} {a : Addr} {j : Nat} (ha : ρ0[j]? = some a) : JRel K ρ0 H0 (.enl j) (Ite K a) := by
 intro ρ g H e R i
 have ha' := e.get ha
 refine ⟨fun h => ?_, fun d h => ?_⟩
 ·simp only [IK.at] at h
  cases el : itemsL g j with
  | none => rw [el] at h; cases h
  | some l =>
   rw [el] at h
   obtain ⟨vs, hq, rs⟩ := R.items el ha'
   refine ⟨vs, hq, ?_⟩
   have h := Option.some.inj h
   rw [Option.map_eq_none_iff] at h
   have := List.getElem?_eq_none_iff.mp h
   rw [<- rs.length]; exact this
 ·simp only [IK.at] at h
  cases el : itemsL g j with
  | none => rw [el] at h; cases h
  | some l =>
   rw [el] at h
   obtain ⟨vs, hq, rs⟩ := R.items el ha'
   have h := Option.some.inj h
   rw [Option.map_eq_some_iff] at h
   obtain ⟨d', hd, rfl⟩ := h
   obtain ⟨v, hv, rv⟩ := rs.get hd
   refine ⟨⟨vs, v, hq, hv⟩, fun w H' y => ?_⟩
   obtain ⟨p, x, hp, rfl, y, rfl⟩ := y
   have := y vs hq
   rw [hv] at this; cases this
   exact ⟨upd_ext hp, R.grow hp, .tup (.inl upd_same) (.cons (.int _) (.cons (rv.ext (upd_ext hp)) .nil))⟩
end M
namespace L2
open PySem PySem.Spec PyProof.Rows
theorem pi_seq {X : Cx} {tg l : Expr} {tl : TE} (hl : PE X l tl) : PI X tg l (fun σ H R => tl σ H fun x H1 => (∃ a, x = .ref a /\ (∃ xs, SqL X.K H1 a xs) /\ R (Itl X.K a) H1) \/ (∃ a, x = .ref a /\ (∃ xs, SqT X.K H1 a xs) /\ R (Itt X.K a) H1)) := by
 intro pins s σ H R I h
 refine thn (hl pins s σ H _ I h) fun v s1 ⟨x, H1, I1, r1, q1⟩ => ?_
 rcases q1 with ⟨a, e, ⟨xs, hq⟩, q⟩ | ⟨a, e, ⟨xs, hq⟩, q⟩
 ·subst e
  cases r1
  obtain ⟨its, rv, p, hz⟩ := I1.list hq
  refine wpAny_pyIter_list p.isList ?_
  refine ⟨s1.heap.objs.size, [s1.heap.objs.size], _, _, H1, rfl, I1.kept (t' := s1.toks) fun b o e => Heap.get?_push_of_some _ e, turn_list a _, ⟨_, Heap.get?_push_size _ rfl, rfl, rfl⟩, fun b hb => ?_, q⟩
  have e : b = s1.heap.objs.size := by simpa using hb
  subst e
  exact I1.fpOk (Nat.le_refl _) (I1.hok.fresh (Nat.le_refl _))
 ·subst e
  cases r1
  obtain ⟨its, rv, p, hz⟩ := I1.tuple hq
  refine wpAny_pyIter_tuple (show s1.heap.IsTuple a its.toArray from p) ?_
  refine ⟨s1.heap.objs.size, [s1.heap.objs.size], _, _, H1, rfl, I1.kept (t' := s1.toks) fun b o e => Heap.get?_push_of_some _ e, turn_tuple a _, ⟨_, Heap.get?_push_size _ rfl, rfl, rfl⟩, fun b hb => ?_, q⟩
  have e : b = s1.heap.objs.size := by simpa using hb
  subst e
  exact I1.fpOk (Nat.le_refl _) (I1.hok.fresh (Nat.le_refl _))
end L2
namespace M
open PySem L2 PySem.Spec PyProof.Rows
section
variable {X : Cx} {Ξ : XKE} {P : Sig} (hP : SigMono P) {a b c tg : Expr} {ma mb mc : ME} {pos p : Pos}
include hP
theorem si_seq (ha : PE X a (LE X.K Ξ (wpE P ma))) : PI X tg a (LI X.K Ξ (wpI P (.itE ma))) :=
 (pi_seq ha).imp fun σv H R ⟨σ, g, ρ, s, Rr, h⟩ => by
  simp only [wpI] at h
  refine thE hP s Rr (.refl _ _) h fun x g1 ρ1 H1 v1 e1 R1 r1 h => ?_
  rcases h with ⟨l, rfl, h⟩ | ⟨i, l, rfl, hl, h⟩
  ·obtain ⟨a', vs, rfl, ht, rs⟩ := r1.tup_of
   exact .inr ⟨_, rfl, ⟨_, ht.sq⟩, h ρ1 H1 _ e1 R1 (j_tup ht rs)⟩
  ·obtain ⟨a', rfl, ha'⟩ := r1.ref_of
   obtain ⟨vs, hq, rs⟩ := R1.items hl ha'
   exact .inl ⟨_, rfl, ⟨_, hq⟩, h ρ1 H1 _ e1 R1 (j_lst ha')⟩
theorem si_enum {elts : List Expr} {x1 : Nat} {tp : Pos} (ha : PE X a (LE X.K Ξ (wpE P ma))) (hg : Gl X "enumerate") (hm : X.mg "enumerate" = none) (hs : starEach [a] X.env = [(false, eval a X.env)]) : PI X (.Tuple elts x1 tp) (.Call (.Name "enumerate" p) [a] [] pos) (LI X.K Ξ (wpI P (.itN ma))) :=
 (pi_enum hg hm (sa_cons hP ha (sa_nil hP) (by rw [hs]; rfl)) hs).imp fun σv H R ⟨σ, g, ρ, s, Rr, h⟩ => by
  simp only [wpI] at h
  refine thA hP (m := .cons ma .nil) s Rr (.refl _ _) (Q0 := fun xs g1 => ∃ a l, xs = [.ref a] /\ itemsL g1 a = some l /\ ∀ ρ' H' J, Ext ρ H ρ' H' -> Rl X.K ρ' g1 H' -> JRel X.K ρ' H' (.enl a) J -> R J H') ?_ fun xs g1 ρ1 H1 vs e1 R1 r1 h => ?_
  ·simp only [wpA]
   exact wpE_mono hP ma _ _ _ _ _ _ (fun x g1 ⟨i, l, e, hl, h⟩ => ⟨i, l, by rw [e], hl, h⟩) (fun _ _ z => z) h
  ·obtain ⟨j, l, rfl, hl, h⟩ := h
   obtain ⟨v, rfl, rv⟩ := r1.one
   obtain ⟨a', rfl, ra⟩ := rv.ref_of
   obtain ⟨vs, hq, rs⟩ := R1.items hl ra
   exact ⟨_, rfl, ⟨_, hq⟩, h ρ1 H1 _ e1 R1 (j_enl ra)⟩
theorem si_rng1 (ha : PE X a (LE X.K Ξ (wpE P ma))) (hg : Gl X "range") (hm : X.mg "range" = none) (hs : starEach [a] X.env = [(false, eval a X.env)]) : PI X tg (.Call (.Name "range" p) [a] [] pos) (LI X.K Ξ (wpI P (.itR1 ma))) :=
 (pi_range1 hg hm (sa_cons hP ha (sa_nil hP) (by rw [hs]; rfl)) hs).imp fun σv H R ⟨σ, g, ρ, s, Rr, h⟩ => by
  simp only [wpI] at h
  refine thA hP (m := .cons ma .nil) s Rr (.refl _ _) (Q0 := fun xs g1 => ∃ j : Int, xs = [.int j] /\ -(2 ^ 62) <= j /\ j < 2 ^ 62 /\ ∀ ρ' H' J, Ext ρ H ρ' H' -> Rl X.K ρ' g1 H' -> JRel X.K ρ' H' (.fix (rngD 0 j.toNat)) J -> R J H') ?_ fun xs g1 ρ1 H1 vs e1 R1 r1 h => ?_
  ·simp only [wpA]
   exact wpE_mono hP ma _ _ _ _ _ _ (fun x g1 ⟨j, e, h1, h2, h⟩ => ⟨j, by rw [e], h1, h2, h⟩) (fun _ _ z => z) h
  ·obtain ⟨j, rfl, h1, h2, h⟩ := h
   obtain ⟨v, rfl, rv⟩ := r1.one
   obtain rfl := rv.int_of
   exact ⟨_, rfl, h1, h2, h ρ1 H1 _ e1 R1 j_rng⟩
theorem si_rng2 (ha : PE X a (LE X.K Ξ (wpE P ma))) (hb : PE X b (LE X.K Ξ (wpE P mb))) (hg : Gl X "range") (hm : X.mg "range" = none) (hs : starEach [a, b] X.env = [(false, eval a X.env), (false, eval b X.env)]) (hs2 : starEach [b] X.env = [(false, eval b X.env)]) :
  PI X tg (.Call (.Name "range" p) [a, b] [] pos) (LI X.K Ξ (wpI P (.itR2 ma mb))) :=
 (pi_range2 hg hm (sa_cons hP ha (sa_cons hP hb (sa_nil hP) (by rw [hs2]; rfl)) (by rw [hs, hs2])) hs hs2).imp fun σv H R ⟨σ, g, ρ, s, Rr, h⟩ => by
  simp only [wpI] at h
  refine thA hP (m := .cons ma (.cons mb .nil)) s Rr (.refl _ _) (Q0 := fun xs g1 => ∃ i j : Int, xs = [.int i, .int j] /\ (-(2 ^ 62) <= i /\ i < 2 ^ 62 /\ -(2 ^ 62) <= j /\ j < 2 ^ 62) /\ ∀ ρ' H' J, Ext ρ H ρ' H' -> Rl X.K ρ' g1 H' -> JRel X.K ρ' H' (.fix (rngD i (j - i).toNat)) J -> R J H') ?_ fun xs g1 ρ1 H1 vs e1 R1 r1 h => ?_
  ·simp only [wpA]
   exact wpE_mono hP ma _ _ _ _ _ _ (fun x g1 h => wpE_mono hP mb _ _ _ _ _ _ (fun y g2 ⟨i, j, e, e', h1, h⟩ => ⟨i, j, by rw [e, e'], h1, h⟩) (fun _ _ z => z) h) (fun _ _ z => z) h
  ·obtain ⟨i, j, rfl, h1, h⟩ := h
   obtain ⟨v, w, rfl, rv, rw'⟩ := r1.two
   obtain rfl := rv.int_of
   obtain rfl := rw'.int_of
   exact ⟨_, _, rfl, h1, h ρ1 H1 _ e1 R1 j_rng⟩
end
section
variable {X : Cx} {pos : Pos}
theorem sg_one {i : Nat} {x : Str} (hN : X.N.Nodup) (hi : X.N[i]? = some x) (hx : Loc X.env.scope x) (hf : X.fn x = true \/ X.env.scope.names.lookup x = some .local) : PG X (.Name x pos) (LG X.K (.one i)) :=
 (pg_name hN hi hx hf).imp fun v σv H Q ⟨d, σ, g, ρ, s, R, r, h⟩ => h _ (s.set i r)
inductive SlotsOk (X : Cx) : List Expr -> List Nat -> Prop
 | nil : SlotsOk X [] []
 | cons {x : Str} {p : Pos} {i : Nat} {es : List Expr} {is : List Nat} (hi : X.N[i]? = some x) (hx : Loc X.env.scope x) (hf : X.fn x = true \/ X.env.scope.names.lookup x = some .local) (r : SlotsOk X es is) : SlotsOk X (.Name x p :: es) (i :: is)
noncomputable def gSlots : List Nat -> TGs
 | [] => gNil
 | i :: is => gCons (gName i) (gSlots is)
theorem pgs_slots (hN : X.N.Nodup) : ∀ {es : List Expr} {is : List Nat}, SlotsOk X es is -> PGs X es (gSlots is)
 | _, _, .nil => pgs_nil
 | _, _, .cons hi hx hf r => pgs_cons (pg_name hN hi hx hf) (pgs_slots hN r) rfl
theorem slots_len : ∀ {es : List Expr} {is : List Nat}, SlotsOk X es is -> (assignEach es X.env).length = is.length /\ (assignEach es X.env).findIdx? (·.1) = none
 | _, _, .nil => ⟨rfl, rfl⟩
 | _, _, .cons (x := x) (p := p) (es := es) hi hx hf r => by
  obtain ⟨h1, h2⟩ := slots_len r
  have e : assignEach (.Name x p :: es) X.env = (false, assign (.Name x p) X.env) :: assignEach es X.env := rfl
  rw [e]
  refine ⟨by simp [h1], ?_⟩
  rw [List.findIdx?_cons, h2]
  rfl
theorem gSlots_of {K : PySem.W.Frag} {ρ : List Addr} {H : Hp} {k : S -> Prop} {Q : L2.St -> Hp -> Prop} : ∀ {is : List Nat} {l : List D} {vs : List V} {σ σ' : S} {σv : L2.St}, setAll is l σ = some σ' -> DRels K ρ H l vs -> SRel K ρ H σ σv -> (∀ σv', SRel K ρ H σ' σv' -> Q σv' H) -> gSlots is vs σv H Q
 | [], _, _, _, _, _, h, .nil, s, q => by
  simp only [setAll] at h
  cases h
  exact ⟨rfl, q _ s⟩
 | [], _, _, _, _, _, h, .cons _ _, s, q => by simp only [setAll] at h; cases h
 | i :: is, _, _, _, _, _, h, .nil, s, q => by simp only [setAll] at h; cases h
 | i :: is, _, _, _, _, _, h, .cons r rr, s, q => by
  simp only [setAll] at h
  exact ⟨_, _, rfl, gSlots_of (k := k) h rr (s.set i r) q⟩
theorem setAll_len : ∀ {is : List Nat} {l : List D} {σ σ' : S}, setAll is l σ = some σ' -> l.length = is.length
 | [], [], _, _, _ => rfl
 | [], _ :: _, _, _, h => by simp only [setAll] at h; cases h
 | _ :: _, [], _, _, h => by simp only [setAll] at h; cases h
 | _ :: is, _ :: l, _, _, h => by simp only [setAll] at h; simp [setAll_len h]
theorem sg_many {es : List Expr} {is : List Nat} {k : Nat} (hc : X.calm = true) (hN : X.N.Nodup) (hs : SlotsOk X es is) : PG X (.Tuple es k pos) (LG X.K (.many is)) :=
 (pg_tup hc (pgs_slots hN hs) (slots_len hs).1 (slots_len hs).2).imp fun v σv H Q ⟨d, σ, g, ρ, s, R, r, h⟩ => by
  obtain ⟨l, σ', rfl, e, h⟩ := h
  obtain ⟨a', vs, rfl, ht, rs⟩ := r.tup_of
  exact ⟨_, _, rfl, ht.sq, by rw [<- rs.length]; exact setAll_len e, gSlots_of (k := fun _ => True) e rs s h⟩
end
theorem LN.ext {K ρ H N ρ1 H1} (e : Ext ρ H ρ1 H1) : (LN K ρ H N).le (LN K ρ1 H1 N) :=
 ⟨fun σ g h ρ' H' σv' e' R s => h ρ' H' σv' (e.trans e') R s, fun d g h => h.ext e, fun σ g h ρ' H' σv' e' R s => h ρ' H' σv' (e.trans e') R s, fun σ g h ρ' H' σv' e' R s => h ρ' H' σv' (e.trans e') R s⟩
section
variable {X : Cx} {Ξ : XKE} {P : Sig} (hP : SigMono P) {a b c tg : Expr} {ma mb mc : ME} {st : Stmt} {rest : List Stmt} {mst mrest : MS} {pos p : Pos}
include hP
theorem ss_nil : PSs X [] (LS X.K Ξ (wpS P .pass)) :=
 (pss_nil (X := X)).imp fun N σv H ⟨σ, g, ρ, s, R, h⟩ => h ρ H σv (.refl _ _) R s
theorem ss_cons (h1 : PS X st (LS X.K Ξ (wpS P mst))) (h2 : PSs X rest (LS X.K Ξ (wpS P mrest))) : PSs X (st :: rest) (LS X.K Ξ (wpS P (.seq mst mrest))) :=
 (pss_cons h1 h2).imp fun N σv H ⟨σ, g, ρ, s, R, h⟩ =>
  thS hP s R (.refl _ _) (show wpS P mst { LN X.K ρ H N with nx := fun σ1 g1 => wpS P mrest (LN X.K ρ H N) σ1 g1 (LX X.K ρ H Ξ) } σ g (LX X.K ρ H Ξ) from h) ⟨fun σ1 g1 h ρ1 H1 σv1 e1 R1 s1 => thS hP s1 R1 e1 h (LN.ext e1), fun _ _ z => z, fun _ _ z => z, fun _ _ z => z⟩
theorem sx_expr (ha : PE X a (LE X.K Ξ (wpE P ma))) (hs : swapsWith a none pos.line X.env = pure false) : PS X (.Expr a pos) (LS X.K Ξ (wpS P (.expr ma))) :=
 (ps_expr ha hs).imp fun N σv H ⟨σ, g, ρ, s, R, h⟩ => thE hP s R (.refl _ _) h fun x g1 ρ1 H1 v1 e1 R1 r1 h => h ρ1 H1 σv e1 R1 (s.ext e1)
theorem sx_set {i : Nat} {x : Str} {p : Pos} (h0 : PS X (.Assign [.Name x p] a pos) (tAsg (LE X.K Ξ (wpE P ma)) (gName i))) : PS X (.Assign [.Name x p] a pos) (LS X.K Ξ (wpS P (.set i ma))) :=
 h0.imp fun N σv H ⟨σ, g, ρ, s, R, h⟩ => thE hP s R (.refl _ _) h fun x g1 ρ1 H1 v1 e1 R1 r1 h => h ρ1 H1 _ e1 R1 ((s.ext e1).set i r1)
theorem sx_unp {t : MT} (h0 : PS X (.Assign [tg] a pos) (tAsg (LE X.K Ξ (wpE P ma)) (LG X.K t))) : PS X (.Assign [tg] a pos) (LS X.K Ξ (wpS P (.unp t ma))) :=
 h0.imp fun N σv H ⟨σ, g, ρ, s, R, h⟩ => thE hP s R (.refl _ _) h fun x g1 ρ1 H1 v1 e1 R1 r1 h => ⟨x, σ, g1, ρ1, s.ext e1, R1, r1, tgP_mono (fun σ' h σv' s' => h ρ1 H1 σv' e1 R1 s') h⟩
theorem sx_setix (hu : X.A.units + 100 < cLine) {o i : Expr} {mo mi : ME} {tp : Pos} (ha : PE X a (LE X.K Ξ (wpE P ma))) (ho : PE X o (LE X.K Ξ (wpE P mo))) (hi : PE X i (LE X.K Ξ (wpE P mi)))
  (hs : swapsWithSole [.Subscript o i tp] a pos.line X.env = pure false)
  (ha' : ∀ v, assign (.Subscript o i tp) X.env v = (do
   let ov <- holding [v] (eval o X.env)
   let iv <- holding [v, ov] (eval i X.env)
   standAt tp
   holding [v, ov, iv] (setItem ov iv v)
   release [v, ov, iv] [])) : PS X (.Assign [.Subscript o i tp] a pos) (LS X.K Ξ (wpS P (.setix mo mi ma))) :=
 (ps_asg ha (pg_sub ho hi (set_ok hu) ha') hs).imp fun N σv H ⟨σ, g, ρ, s, R, h⟩ =>
  thE hP s R (.refl _ _) h fun x g1 ρ1 H1 v1 e1 R1 r1 h => thE hP (s.ext e1) R1 e1 h fun y g2 ρ2 H2 v2 e2 R2 r2 h => thE hP (s.ext (e1.trans e2)) R2 (e1.trans e2) h fun z g3 ρ3 H3 v3 e3 R3 r3 h =>
   ⟨y, z, x, g3, ρ3, R3, r2.ext e3, r3, r1.ext (e2.trans e3), setP_mono (fun g4 h ρ4 H4 e4 R4 => h ρ4 H4 σv (e1.trans (e2.trans (e3.trans e4))) R4 (s.ext (e1.trans (e2.trans (e3.trans e4))))) h⟩
omit hP in
noncomputable def FldsOk (K : PySem.W.Frag) (f : Str) (cs : List Str) : Prop := ∀ c C, c ∈ cs -> IsCls K c C -> NoAttr K C f
omit hP in
theorem setf_of {f : Str} {cs : List Str} (hF : FldsOk X.K f cs) {ρ : List Addr} {H : Hp} {g g' : G} {x v : D} {xv vv : V} (R : Rl X.K ρ g H) (rx : DRel X.K ρ H x xv) (rv : DRel X.K ρ H v vv) (h : setfR f cs x v g g') :
  ∃ a C dx fs, xv = .ref a /\ H a = some (.ins C dx fs) /\ Cls X.K C /\ NoAttr X.K C f /\ fs.length < 1000 /\ Rl X.K ρ g' (upd H a (.ins C dx (putF f vv fs))) /\ Ext ρ H ρ (upd H a (.ins C dx (putF f vv fs))) := by
 obtain ⟨i, c, fs, rfl, hi, hc, hz, rfl⟩ := h
 obtain ⟨a', rfl, ra⟩ := rx.ref_of
 obtain ⟨C, dx, vs, hH, hC, hcl, rk, na⟩ := R.ins hi ra
 obtain ⟨R', e'⟩ := R.put (o' := .ins c (putFD f v fs)) (u := .ins C dx (putF f vv vs)) hi rfl ra ⟨hC, hcl, rk.putF rv, putFD_keys (p := fun y => NoAttr X.K C y) (hF c C hc hC) na⟩
 exact ⟨a', C, dx, vs, rfl, hH, hcl, hF c C hc hC, by rw [<- rk.length]; omega, R', e'⟩
theorem sx_setf {f : Str} {cs : List Str} {o : Expr} {mo : ME} {tp : Pos} (hF : FldsOk X.K f cs) (ho : PE X o (LE X.K Ξ (wpE P mo))) (ha : PE X a (LE X.K Ξ (wpE P ma))) (hs : swapsWith a (some (.Attribute o f tp)) pos.line X.env = pure false) : PS X (.Assign [.Attribute o f tp] a pos) (LS X.K Ξ (wpS P (.setf f cs mo ma))) :=
 (ps_fld ho ha hs).imp fun N σv H ⟨σ, g, ρ, s, R, h⟩ => thE hP s R (.refl _ _) h fun x g1 ρ1 H1 v1 e1 R1 r1 h => thE hP (s.ext e1) R1 e1 h fun y g2 ρ2 H2 v2 e2 R2 r2 h => by
  obtain ⟨g3, h, q⟩ := h
  obtain ⟨a', C, dx, fs, hx, hH, hcl, na, hz, R3, e3⟩ := setf_of hF R2 r2 (r1.ext e2) h
  exact ⟨a', C, dx, fs, hx, hH, hcl, na, hz, q ρ2 _ σv (e1.trans (e2.trans e3)) R3 (s.ext (e1.trans (e2.trans e3)))⟩
theorem sx_augf {f : Str} {cs : List Str} {o : Expr} {mo : ME} {tp : Pos} (hF : FldsOk X.K f cs) (ho : PE X o (LE X.K Ξ (wpE P mo))) (ha : PE X a (LE X.K Ξ (wpE P ma))) : PS X (.AugAssign (.Attribute o f tp) .Add a pos) (LS X.K Ξ (wpS P (.augf f cs mo ma))) :=
 (ps_fldaug ho ha in_iadd).imp fun N σv H ⟨σ, g, ρ, s, R, h⟩ => thE hP s R (.refl _ _) h fun y g1 ρ1 H1 v1 e1 R1 r1 h => by
  obtain ⟨i, c, fs, x, rfl, hi, hc, hf, h⟩ := h
  obtain ⟨a', rfl, ra⟩ := r1.ref_of
  obtain ⟨C, dx, vs, hH, hC, hcl, rk, na⟩ := R1.ins hi ra
  have lk := rk.look f
  rw [hf] at lk
  obtain ⟨v, hv, rv⟩ := lk.some
  refine ⟨a', C, dx, vs, v, rfl, hH, hcl, hF c C hc hC, hv, thE hP (s.ext e1) R1 e1 h fun z g3 ρ3 H3 v3 e3 R3 r3 h => ?_⟩
  obtain ⟨d', g', hR, fs', hi', hz, q⟩ := h
  have fin : ∀ {ρ4 : List Addr} {H4 : Hp} {vv : V}, Ext ρ3 H3 ρ4 H4 -> Rl X.K ρ4 g' H4 -> DRel X.K ρ4 H4 d' vv -> ∃ dx' fs', H4 a' = some (.ins C dx' fs') /\ fs'.length < 1000 /\ N.nx σv (upd H4 a' (.ins C dx' (putF f vv fs'))) := by
   intro ρ4 H4 vv e4 R4 r4
   obtain ⟨C2, dx2, vs2, hH2, hC2, hcl2, rk2, na2⟩ := R4.ins hi' ((e3.trans e4).get ra)
   have : C2 = C := by have h1 := hC2.symm.trans hC; cases h1; rfl
   subst this
   obtain ⟨R5, e5⟩ := R4.put (o' := .ins c (putFD f d' fs')) (u := .ins C2 dx2 (putF f vv vs2)) hi' rfl ((e3.trans e4).get ra) ⟨hC2, hcl2, rk2.putF r4, putFD_keys (p := fun y => NoAttr X.K C2 y) (hF c C2 hc hC2) na2⟩
   exact ⟨dx2, vs2, hH2, by rw [<- rk2.length]; omega, q ρ4 _ σv (e1.trans (e3.trans (e4.trans e5))) R5 (s.ext (e1.trans (e3.trans (e4.trans e5))))⟩
  rcases hR with ⟨j, l, ex, rfl, rfl⟩ | ⟨l, m, ex, hz2, rfl, rfl⟩
  ·obtain ⟨rfl, rfl⟩ := two_inj ex
   obtain rfl := rv.int_of
   obtain rfl := r3.int_of
   exact .inl ⟨_, _, rfl, rfl, fin (.refl _ _) R3 (.int _)⟩
  ·obtain ⟨rfl, rfl⟩ := two_inj ex
   obtain ⟨p1, vs1, rfl, t1, rs1⟩ := (rv.ext e3).tup_of
   obtain ⟨p2, vs2, rfl, t2, rs2⟩ := r3.tup_of
   refine .inr ⟨p1, p2, vs1, vs2, rfl, rfl, t1.sq, t2.sq, by rw [<- rs1.length, <- rs2.length]; exact line_small hz2, fun z => ?_, fun z => ?_, fun p hp => ?_⟩
   ·subst z
    cases rs1
    exact fin (.refl _ _) R3 (.tup t2 rs2)
   ·subst z
    cases rs2
    rw [List.append_nil] at fin
    exact fin (.refl _ _) R3 (.tup t1 rs1)
   ·exact fin (upd_ext hp) (R3.grow hp) (.tup (.inl upd_same) ((rs1.append rs2).ext (upd_ext hp)))
theorem sx_if {sa sb : List Stmt} {msa msb : MS} (hc : PT X c (LT X.K Ξ (wpT P mc))) (ha : PSs X sa (LS X.K Ξ (wpS P msa))) (hb : PSs X sb (LS X.K Ξ (wpS P msb))) : PS X (.If c sa sb pos) (LS X.K Ξ (wpS P (.ifs mc msa msb))) :=
 (ps_if hc ha hb).imp fun N σv H ⟨σ, g, ρ, s, R, h⟩ => thT hP s R (.refl _ _) h fun t g1 ρ1 H1 e1 R1 h => by
  cases t
  ·exact thS hP (s.ext e1) R1 e1 h (LN.ext e1)
  ·exact thS hP (s.ext e1) R1 e1 h (LN.ext e1)
theorem sx_ret (ha : PE X a (LE X.K Ξ (wpE P ma))) : PS X (.Return (some a) pos) (LS X.K Ξ (wpS P (.ret ma))) :=
 (ps_ret ha).imp fun N σv H ⟨σ, g, ρ, s, R, h⟩ => ⟨σ, g, ρ, s, R, h⟩
theorem sx_while {body : List Stmt} {mb : MS} (hp : PassesOwn (model X.prog X.w) X.A X.env X.xe) (hc : PT X c (LT X.K Ξ (wpT P mc))) (hb : PSs X body (LS X.K Ξ (wpS P mb))) : PS X (.While c body [] pos) (LS X.K Ξ (wpS P (.whil mc mb))) :=
 (ps_while hp hc hb).imp fun N σv H ⟨σ, g, ρ, s, R, h⟩ => by
  obtain ⟨W, ⟨m0, w0⟩, h⟩ := h
  refine ⟨fun m σv' H' => ∃ σ' g' ρ', Ext ρ H ρ' H' /\ SRel X.K ρ' H' σ' σv' /\ Rl X.K ρ' g' H' /\ W m σ' g', ⟨m0, σ, g, ρ, .refl _ _, s, R, w0⟩, ?_⟩
  rintro m σv' H' ⟨σ', g', ρ', e1, s', R', w'⟩
  refine thT hP s' R' e1 (h m σ' g' w') fun t g1 ρ1 H1 e2 R1 q => ?_
  cases t
  ·exact q ρ1 H1 σv' (e1.trans e2) R1 (s'.ext e2)
  ·obtain ⟨N2, hN2, q⟩ := q
   refine ⟨fun σv2 H2 => ∃ σ2 g2 ρ2, Ext ρ H ρ2 H2 /\ SRel X.K ρ2 H2 σ2 σv2 /\ Rl X.K ρ2 g2 H2 /\ N2 σ2 g2, ?_, ?_⟩
   ·rintro σv2 H2 ⟨σ2, g2, ρ2, e3, s2, R2, n2⟩
    obtain ⟨m', hm, w2⟩ := hN2 σ2 g2 n2
    exact ⟨m', hm, σ2, g2, ρ2, e3, s2, R2, w2⟩
   ·refine thS hP (s'.ext e2) R1 (e1.trans e2) q ⟨?_, ?_, ?_, ?_⟩
    ·exact fun σ3 g3 n3 ρ3 H3 σv3 e3 R3 s3 => ⟨σ3, g3, ρ3, (e1.trans e2).trans e3, s3, R3, n3⟩
    ·exact fun d g3 h => h.ext (e1.trans e2)
    ·exact fun σ3 g3 h ρ3 H3 σv3 e3 R3 s3 => h ρ3 H3 σv3 ((e1.trans e2).trans e3) R3 s3
    ·exact fun σ3 g3 n3 ρ3 H3 σv3 e3 R3 s3 => ⟨σ3, g3, ρ3, (e1.trans e2).trans e3, s3, R3, n3⟩
theorem sx_for {iter : Expr} {mi : ME} {body : List Stmt} {mb : MS} {t : MT} (hp : PassesOwn (model X.prog X.w) X.A X.env X.xe) (hc : X.calm = true) (hi : PI X tg iter (LI X.K Ξ (wpI P mi))) (hg : PG X tg (LG X.K t)) (hb : PSs X body (LS X.K Ξ (wpS P mb)))
  (hs : ∀ x, foldedSetIterable iter X.env x = pure x) : PS X (.For tg iter body [] pos) (LS X.K Ξ (wpS P (.for_ t mi mb))) :=
 (ps_for hp hc hi hg hb hs).imp fun N σv H ⟨σ, g, ρ, s, R, h⟩ => by
  refine ⟨σ, g, ρ, s, R, wpI_mono hP mi _ _ _ _ _ _ (fun k g1 h ρ1 H1 J e1 R1 j1 => ?_) (fun _ _ z => z) h⟩
  obtain ⟨W, ⟨m0, w0⟩, h⟩ := h
  refine ⟨fun i m σv' H' => ∃ σ' g' ρ', Ext ρ1 H1 ρ' H' /\ SRel X.K ρ' H' σ' σv' /\ Rl X.K ρ' g' H' /\ W i m σ' g', ⟨m0, σ, g1, ρ1, .refl _ _, s.ext e1, R1, w0⟩, ?_⟩
  rintro i m σv' H' ⟨σ', g', ρ', e', s', R', w'⟩
  obtain ⟨j1a, j1b⟩ := j1 ρ' g' H' e' R' i
  rcases h i m σ' g' w' with ⟨ek, q⟩ | ⟨x, ek, N2, hN2, q⟩
  ·exact .inl ⟨j1a ek, q ρ' H' σv' (e1.trans e') R' s'⟩
  ·obtain ⟨go, yl⟩ := j1b x ek
   refine .inr ⟨go, fun σv2 H2 => ∃ σ2 g2 ρ2, Ext ρ1 H1 ρ2 H2 /\ SRel X.K ρ2 H2 σ2 σv2 /\ Rl X.K ρ2 g2 H2 /\ N2 σ2 g2, ?_, ?_⟩
   ·rintro σv2 H2 ⟨σ2, g2, ρ2, e2, s2, R2, n2⟩
    obtain ⟨m', hm, w2⟩ := hN2 σ2 g2 n2
    exact ⟨m', hm, σ2, g2, ρ2, e2, s2, R2, w2⟩
   ·intro v H2 y
    obtain ⟨e2, R2, r2⟩ := yl v H2 y
    refine ⟨x, σ', g', ρ', s'.ext e2, R2, r2, tgP_mono (fun σ2 q σv2 s2 => ?_) q⟩
    refine thS hP s2 R2 (e1.trans (e'.trans e2)) q ⟨?_, ?_, ?_, ?_⟩
    ·exact fun σ3 g3 n3 ρ3 H3 σv3 e3 R3 s3 => ⟨σ3, g3, ρ3, (e'.trans e2).trans e3, s3, R3, n3⟩
    ·exact fun d g3 h => h.ext (e1.trans (e'.trans e2))
    ·exact fun σ3 g3 h ρ3 H3 σv3 e3 R3 s3 => h ρ3 H3 σv3 (e1.trans ((e'.trans e2).trans e3)) R3 s3
    ·exact fun σ3 g3 n3 ρ3 H3 σv3 e3 R3 s3 => ⟨σ3, g3, ρ3, (e'.trans e2).trans e3, s3, R3, n3⟩
theorem comp_imp {caps : List Nat} {n : Nat} {t : MT} {mi mcond me : ME} : ∀ σv H Q, LE X.K Ξ (wpE P (.comp caps n t mi mcond me)) σv H Q -> tComp (LI X.K Ξ (wpI P mi)) caps n (LG X.K t) (LT X.K (XK0 Ξ.1) (wpT P mcond)) (LE X.K (XK0 Ξ.1) (wpE P me)) σv H Q := fun σv H Q ⟨σ, g, ρ, s, R, h⟩ => by
 simp only [wpE] at h
 refine ⟨σ, g, ρ, s, R, wpI_mono hP mi _ _ _ _ _ _ (fun k g1 h ρ1 H1 J e1 R1 j1 => ?_) (fun _ _ z => z) h⟩
 obtain ⟨W, ⟨m0, w0⟩, h⟩ := h
 refine ⟨fun i m ysv σv' H' => ∃ ys σ' g' ρ', Ext ρ1 H1 ρ' H' /\ SRel X.K ρ' H' σ' σv' /\ Rl X.K ρ' g' H' /\ DRels X.K ρ' H' ys ysv /\ W i m ys σ' g', ⟨m0, [], _, g1, ρ1, .refl _ _, (s.ext e1).caps caps n, R1, .nil, w0⟩, ?_⟩
 rintro i m ysv σv' H' ⟨ys, σ', g', ρ', e', s', R', ry, w'⟩
 obtain ⟨j1a, j1b⟩ := j1 ρ' g' H' e' R' i
 rcases h i m ys σ' g' w' with ⟨ek, q⟩ | ⟨x, ek, hz, q⟩
 ·exact .inl ⟨j1a ek, fun p hp => (q.ext (e1.trans e')).new R' hp ry⟩
 ·obtain ⟨go, yl⟩ := j1b x ek
  refine .inr ⟨go, by rw [<- ry.length]; exact line_lt hz, fun v H2 y => ?_⟩
  obtain ⟨e2, R2, r2⟩ := yl v H2 y
  refine ⟨x, σ', g', ρ', s'.ext e2, R2, r2, tgP_mono (fun σ2 q σv2 s2 => ?_) q⟩
  refine ⟨σ2, g', ρ', s2, R2, wpT_mono hP mcond _ _ _ _ _ _ (fun b g3 q ρ3 H3 e3 R3 => ?_) (fun _ _ z => z.elim) q⟩
  cases b
  ·obtain ⟨m', hm, w3⟩ := q
   exact ⟨m', hm, ys, σ2, g3, ρ3, (e'.trans e2).trans e3, s2.ext e3, R3, (ry.ext e2).ext e3, by simpa using w3⟩
  ·refine ⟨σ2, g3, ρ3, s2.ext e3, R3, wpE_mono hP me _ _ _ _ _ _ (fun z g4 q ρ4 H4 v4 e4 R4 r4 => ?_) (fun _ _ z => z.elim) q⟩
   obtain ⟨m', hm, w4⟩ := q
   exact ⟨m', hm, ys ++ [z], σ2, g4, ρ4, (e'.trans e2).trans (e3.trans e4), (s2.ext e3).ext e4, R4, (((ry.ext e2).ext e3).ext e4).append (.cons r4 .nil), by simpa using w4⟩
end
end M

namespace M
open PySem L2 PySem.Spec PyProof.Rows
section
variable {X : Cx} {Ξ : XKE} {P : Sig} (hP : SigMono P)
include hP
theorem sx_raise {x : Str} {C : Addr} {B newId initId : String} {bm : List Value} {np cpos pos : Pos} {e₀ : Expr} {rest : List Expr} {mes : ME} (hc : X.calm = true) (O : OwnCls x C bm newId X.mg X.base) (FB : ExcBaseFacts B newId initId bm) (hg : Gl X x)
  (ha : PA X (e₀ :: rest) (LA X.K Ξ (wpA P mes))) (hr : RaiseOk X Ξ.2) (hx : x ∈ Ξ.1) (hC : IsCls X.K x C) (he : starEach (e₀ :: rest) X.env = (false, eval e₀ X.env) :: starEach rest X.env) (hplain : (backTo cpos (starEach rest X.env)).any (·.1) = false)
  (hd : (x == ("__debug__" : Str)) = false) : PS X (.Raise (some (.Call (.Name x np) (e₀ :: rest) [] cpos)) none pos) (LS X.K Ξ (wpS P (.raise x mes))) :=
 (ps_raise hc O FB hg ha hr he hplain hd).imp fun N σv H ⟨σ, g, ρ, s, R, h⟩ => by
  refine thA hP s R (.refl _ _) h fun ds g1 ρ1 H1 vs e1 R1 r1 h => ?_
  exact ⟨by rw [<- r1.length]; exact line_small (Nat.le_trans h.1 (by decide)), h.2 ρ1 H1 C e1 R1 hx hC⟩
noncomputable def xTry (X : Cx) (ex : List Str) (D : L2.Ends) (hs : List ExceptHandler) : XKE := (ex, fun v _ H => ∃ C, v = .ref C /\ Takes X D C H hs)
inductive HsOk (X : Cx) (Ξ : XKE) (P : Sig) : List ExceptHandler -> List (Str × ME) -> Prop
 | nil : HsOk X Ξ P [] []
 | cons {y : Str} {C' : Addr} {p p1 p2 : Pos} {e : Expr} {me : ME} {hs : List ExceptHandler} {ms : List (Str × ME)} (hg : Gl X y) (hd : (y == ("__debug__" : Str)) = false) (hm : X.mg y = some (.ref C'))
   (hx : ∀ x C, x ∈ Ξ.1 -> IsCls X.K x C -> PySem.W.exmOne X.K (.ref C) (.ref C') = some (decide (x = y))) (he : ∀ ea, PE (markCx X ea) e (LE X.K (XK0 Ξ.1) (wpE P me))) (r : HsOk X Ξ P hs ms) :
   HsOk X Ξ P (.ExceptHandler (some (.Name y p)) none [.Return (some e) p1] p2 :: hs) ((y, me) :: ms)
theorem takes_of {N : L2.Ends} {ρ ρ' : List Addr} {H H' : Hp} {σ : S} {g : G} {x : Xn} {C : Addr} (hl : σ.length = X.N.length) (e : Ext ρ H ρ' H') (R : Rl X.K ρ' g H') (hx : x.cls ∈ Ξ.1) (hC : IsCls X.K x.cls C) :
  ∀ {hs : List ExceptHandler} {ms : List (Str × ME)}, HsOk X Ξ P hs ms -> wpH P (LN X.K ρ H N) (σ.map fun _ => none) ms x g -> Takes X N C H' hs
 | _, _, .nil, q => q.elim
 | _, _, .cons (me := me) hg hd hm hxm he r, q => by
  refine ⟨hg, hd, _, _, hm, hxm _ _ hx hC, ?_⟩
  unfold wpH at q
  split at q
  ·rename_i ex
   rw [if_pos (by simpa using ex)]
   refine ⟨LS X.K (XK0 Ξ.1) (wpS P (.seq (.ret me) .pass)), fun ea => ss_cons (X := markCx X ea) (Ξ := XK0 Ξ.1) hP (sx_ret (X := markCx X ea) hP (he ea)) (ss_nil (X := markCx X ea) hP), ?_⟩
   refine ⟨σ.map fun _ => none, g, ρ', ⟨by simp [hl], fun i d z => ?_⟩, R, ?_⟩
   ·rw [List.getElem?_map] at z
    cases e : σ[i]? with
    | none => rw [e] at z; cases z
    | some y => rw [e] at z; cases z
   ·simp only [wpS]
    refine wpE_mono hP me _ _ _ _ _ _ (fun d g1 h => ?_) (fun _ _ z => z.elim) q
    exact h.ext e
  ·rename_i ex
   rw [if_neg (by simpa using ex)]
   exact takes_of hl e R hx hC r q
theorem sx_try {h₀ : ExceptHandler} {hs : List ExceptHandler} {ms : List (Str × ME)} {body : List Stmt} {mb : MS} {pos : Pos} (hst : X.stack = X.env :: X.outer) (hf : X.env.frame = some X.env.locals)
  (hb : ∀ pins D, PSs (tryCx X pins (tryXe X pins D (h₀ :: hs))) body (LS X.K (xTry X Ξ.1 D (h₀ :: hs)) (wpS P mb))) (hh : HsOk X Ξ P (h₀ :: hs) ms) : PS X (.Try body (h₀ :: hs) [] [] pos) (LS X.K Ξ (wpS P (.try_ mb ms))) := by
 intro pins s σv H N I ⟨σ, g, ρ, sr, R, h⟩
 refine ps_try (t := fun D => LS X.K (xTry X Ξ.1 D (h₀ :: hs)) (wpS P mb)) (Ξ := fun D => (xTry X Ξ.1 D (h₀ :: hs)).2) hst hf (fun pins D _ => hb pins D) pins s σv H N I ⟨fun C H' ⟨C', e, z⟩ => by cases e; exact z, ?_⟩
 simp only [wpS] at h
 refine ⟨σ, g, ρ, sr, R, wpS_mono hP mb _ _ _ _ _ _ ⟨fun _ _ z => z, fun _ _ z => z, fun _ _ z => z, fun _ _ z => z⟩ (fun x g1 q ρ' H' C e' R' hm hc => ⟨C, rfl, ?_⟩) h⟩
 exact takes_of (Ξ := Ξ) hP (sr.len.trans I.len) e' R' hm hc hh q
end
end M

namespace M
open PySem L2 PySem.Spec PyProof.Rows
structure CEnv where
 N : List Str
 nm : List (Str × NameKind)
 fnb : Bool
 fns : List (Str × Nat)
 con : List (Str × D)
 blt : List Str
 exc : List Str
 gd : List (Str × List D)
 cls : List (Str × Nat)
 mts : List (Str × Str × Nat)
 fls : List (Str × Str)
 rais : Bool
 tryb : Bool
noncomputable def okE : Expr -> Bool
 | .Set .. => false
 | .Starred .. => false
 | .Slice .. => false
 | _ => true
noncomputable def noComp : Expr -> Bool
 | .ListComp .. => false
 | .SetComp .. => false
 | .DictComp .. => false
 | _ => true
noncomputable def noTup : Expr -> Bool
 | .Tuple .. => false
 | _ => true
noncomputable def plainTest : Expr -> Bool
 | .Name .. => true
 | .Call .. => true
 | .Subscript .. => true
 | .Constant .. => true
 | .Attribute .. => true
 | _ => false
noncomputable def okBase : Expr -> Bool
 | .Call (.Name ..) .. => false
 | _ => true
noncomputable def CEnv.idx (c : CEnv) (x : Str) : Option Nat := c.N.findIdx? fun y => decide (y = x)
noncomputable def CEnv.vis (c : CEnv) (x : Str) : Bool := match c.nm.lookup x with
 | some .local => true
 | some .cell => true
 | some .free => true
 | _ => false
noncomputable def CEnv.gl (c : CEnv) (x : Str) : Bool := decide (c.nm.lookup x = some .globalImplicit)
noncomputable def CEnv.locOk (c : CEnv) (x : Str) : Bool := decide (c.nm.lookup x = some .local) || (c.fnb && decide (c.nm.lookup x = some .cell))
noncomputable def noDb (x : Str) : Bool := (x == ("__debug__" : Str)) == false && (x == ("__classdict__" : Str)) == false && decide (x ≠ "__name__")
noncomputable def tyTab : List (Str × String) := [("int", "int"), ("bool", "bool"), ("str", "str"), ("tuple", "tuple"), ("list", "list")]
noncomputable def bltTab : List (Str × Pr) := [("len", .len), ("list", .list), ("tuple", .tuple), ("isinstance", .isin), ("all", .all), ("max", .max), ("min", .min), ("int", .int), ("str", .str)]
noncomputable def metTab : List (Str × Pr) := [("append", .append), ("pop", .pop), ("get", .get)]
noncomputable def asCallN : Expr -> Option (Str × List Expr)
 | .Call (.Name x _) args [] _ => some (x, args)
 | _ => none
noncomputable def asTup : Expr -> Bool
 | .Tuple .. => true
 | _ => false
noncomputable def asName : Expr -> Option Str
 | .Name x _ => some x
 | _ => none
noncomputable def frees (sc : Scope) : List Str := (sc.names.filter fun y => decide (y.2 = .free)).map (·.1)
noncomputable def locals (sc : Scope) : List Str := (sc.names.filter fun y => decide (y.2 = .local)).map (·.1)
noncomputable def CEnv.inner (c : CEnv) (sc : Scope) : CEnv := { c with N := frees sc ++ locals sc, nm := sc.names, fnb := false, rais := false, tryb := false }
noncomputable def CEnv.caps (c : CEnv) (sc : Scope) : List Nat := (frees sc).map fun x => (c.idx x).getD 0
noncomputable def CEnv.scopeOk (c : CEnv) (sc : Scope) : Bool :=
 decide (sc.kind = .function) && sc.names.all (fun y => decide (y.2 ≠ .cell)) && sc.names.all (fun y => !decide (y.2 = .local) || decide (sc.names.lookup y.1 = some .local)) &&
 decide (frees sc ++ locals sc).Nodup && (frees sc).all (fun x => (c.idx x).isSome && decide (sc.names.lookup x = some .free) && (decide (c.nm.lookup x = some .cell) || decide (c.nm.lookup x = some .free)))
noncomputable def CEnv.slot (c : CEnv) (e : Expr) : Option Nat := (asName e).bind fun x => if c.locOk x then c.idx x else none
noncomputable def CEnv.slots (c : CEnv) : List Expr -> Option (List Nat)
 | [] => some []
 | e :: r => (c.slot e).bind fun i => (c.slots r).map fun is => i :: is
noncomputable def CEnv.tg (c : CEnv) (e : Expr) : Option MT := ((c.slot e).map .one).orElse fun _ => match e with
 | .Tuple es _ _ => (c.slots es).map .many
 | _ => none
noncomputable def compK : Const -> Option D
 | .int i => some (.int i)
 | .bool b => some (.bl b)
 | .none => some .non
 | .str x => some (.str x)
 | _ => none
structure CF where
 e : CEnv -> Expr -> Option ME
 t : CEnv -> Expr -> Option ME
 s : CEnv -> Stmt -> Option MS
section
variable (r : CF) (c : CEnv)
noncomputable def c1 (p : Pr) (a : Expr) : Option ME := (r.e c a).map fun m => .prim p (.cons m .nil)
noncomputable def c2 (p : Pr) (a b : Expr) : Option ME := (r.e c a).bind fun ma => (r.e c b).map fun mb => .prim p (.cons ma (.cons mb .nil))
noncomputable def compA : List Expr -> Option ME
 | [] => some .nil
 | e :: es => if okE e then (r.e c e).bind fun m => (compA es).map fun ms => .cons m ms else none
noncomputable def asLitS : Expr -> Option Str
 | .Constant (.str x) _ _ => some x
 | _ => none
noncomputable def asFv : Expr -> Option Expr
 | .FormattedValue e k none _ => if k = -1 then some e else none
 | _ => none
noncomputable def compF : List Expr -> Option ME
 | [] => some .nil
 | e :: es => ((asLitS e).bind fun x => if x.length <= 2000 then (compF es).map fun ms => .cons (.lit (.str x)) ms else none).orElse fun _ =>
   (asFv e).bind fun a => (r.e c a).bind fun m => (compF es).map fun ms => .cons (.prim .fv (.cons m .nil)) ms
noncomputable def compD : List (Option Expr) -> List Expr -> Option ME
 | [], [] => some .nil
 | some k :: ks, v :: vs => (r.e c k).bind fun mk => (r.e c v).bind fun mv => (compD ks vs).map fun ms => .cons mk (.cons mv ms)
 | _, _ => none
noncomputable def compB (op : BoolOp) : List Expr -> Option ME
 | [] => none
 | [a] => r.e c a
 | a :: b :: rs => (r.e c a).bind fun ma => (compB op (b :: rs)).map fun mb => match op with
  | .And => .and_ ma mb
  | .Or => .or_ ma mb
noncomputable def compW (op : BoolOp) : List Expr -> Option ME
 | [] => none
 | [a] => r.t c a
 | a :: b :: rs => (r.t c a).bind fun ma => (compW op (b :: rs)).map fun mb => match op with
  | .And => .and_ ma mb
  | .Or => .or_ ma mb
noncomputable def compTs : List Expr -> Option ME
 | [] => some .no
 | [e] => r.t c e
 | _ => none
noncomputable def compSs : List Stmt -> Option MS
 | [] => some .pass
 | s :: rs => (r.s c s).bind fun m => (compSs rs).map fun ms => .seq m ms
noncomputable def xName (x : Str) : Option ME :=
 if noDb x then (if c.vis x then (c.idx x).map .var else if c.gl x then ((c.con.lookup x).map .lit).orElse fun _ => if c.blt.contains x then (tyTab.lookup x).map fun t => .lit (.ty t) else none else none) else none
noncomputable def xUn (op : UnaryOp) (a : Expr) : Option ME := if op = .Not then (r.e c a).map .not_ else c1 r c (.un op) a
noncomputable def CEnv.gdOf (b : Expr) : Option (List D) := (asName b).bind fun x => if c.gl x && noDb x then c.gd.lookup x else none
noncomputable def inOp : CmpOp -> Option Bool
 | .In => some false
 | .NotIn => some true
 | _ => none
noncomputable def xCmp (a : Expr) (ops : List CmpOp) (bs : List Expr) : Option ME := match ops, bs with
 | [op], [b] => if behindInMarks op b then none else ((inOp op).bind fun neg => (c.gdOf b).bind fun kvs => (r.e c a).map fun ma => .prim (ginPr neg) (.cons (.lit (.tup kvs)) (.cons ma .nil))).orElse fun _ => c2 r c (.cmp op) a b
 | [op, op'], [b, d] => if lastMarks [op, op'] [b, d] then none else (r.e c a).bind fun ma => (r.e c b).bind fun mb => (r.e c d).map fun md => .chain op op' ma mb md
 | _, _ => none
noncomputable def asNeg1 : Expr -> Bool
 | .UnaryOp .USub (.Constant (.int i) _ _) _ => decide (i = 1)
 | _ => false
noncomputable def asSl : Expr -> Option (Option Expr × Option Expr × Option Expr)
 | .Slice lo hi st _ => some (lo, hi, st)
 | _ => none
noncomputable def xSl (a : Expr) : Option Expr -> Option Expr -> Option Expr -> Option ME
 | none, none, none => c1 r c (.slc false false) a
 | some b, none, none => c2 r c (.slc true false) a b
 | none, some b, none => c2 r c (.slc false true) a b
 | none, none, some d => if asNeg1 d then c1 r c .rev a else none
 | _, _, _ => none
noncomputable def xSub (a b : Expr) : Option ME := ((asSl b).bind fun q => xSl r c a q.1 q.2.1 q.2.2).orElse fun _ => if okE b then ((c.gdOf a).bind fun kvs => (r.e c b).map fun mb => .prim .gget (.cons (.lit (.tup kvs)) (.cons mb .nil))).orElse fun _ => c2 r c .ix a b else none
noncomputable def xSp (x : Str) (e : Expr) : Option ME := (asCallN e).bind fun q =>
 if x = "list" && q.1 = "range" && c.blt.contains "list" && c.blt.contains "range" && c.gl "range" then (match q.2 with
  | [a] => if okE a then c1 r c .lrng1 a else none
  | [a, b] => if okE a && okE b then c2 r c .lrng2 a b else none
  | _ => none)
 else none
noncomputable def xSp1 (x : Str) (e : Expr) : List Expr -> Option ME
 | [] => xSp r c x e
 | _ => none
noncomputable def xCall0 (x : Str) : Option ME := if noDb x && c.gl x then (c.cls.lookup x).map fun f => .make x f .nil else none
noncomputable def xCall1 (x : Str) (e : Expr) (es : List Expr) : Option ME := if noDb x && c.gl x then (xSp1 r c x e es).orElse fun _ => (compA r c (e :: es)).bind fun ms => ((c.fns.lookup x).map fun f => .call f ms).orElse fun _ => ((c.cls.lookup x).map fun f => .make x f ms).orElse fun _ => if c.blt.contains x then (bltTab.lookup x).map fun p => .prim p ms else none else none
noncomputable def xCallN (x : Str) : List Expr -> Option ME
 | [] => xCall0 c x
 | e :: es => xCall1 r c x e es
noncomputable def CEnv.meths (m : Str) : List (Str × Nat) := (c.mts.filter fun y => decide (y.1 = m)).map (·.2)
noncomputable def xCallA (o : Expr) (m : Str) (apos pos : Pos) (args : List Expr) : Option ME :=
 if okBase o && (apos.endLine == pos.line) && decide (args.length < 20) then (r.e c o).bind fun mo => (compA r c args).bind fun ms => if m = "index" then (if args.isEmpty then none else some (.meth .index mo ms)) else (match metTab.lookup m with
  | some p => if args.isEmpty then none else some (.meth p mo ms)
  | none => some (.methc m (c.meths m) mo ms)) else none
noncomputable def xCall (f : Expr) (args : List Expr) (kws : List Keyword) (pos : Pos) : Option ME := if kws.isEmpty then (match f with
 | .Name x _ => xCallN r c x args
 | .Attribute o m apos => xCallA r c o m apos pos args
 | _ => none) else none
noncomputable def compI (tg e : Expr) : Option ME := (((asCallN e).bind fun q =>
  if q.1 = "enumerate" then (match q.2 with
   | [a] => if c.gl "enumerate" && c.blt.contains "enumerate" && okE a && asTup tg then (r.e c a).map .itN else none
   | _ => none)
  else if q.1 = "range" then (match q.2 with
   | [a] => if c.gl "range" && c.blt.contains "range" && okE a then (r.e c a).map .itR1 else none
   | [a, b] => if c.gl "range" && c.blt.contains "range" && okE a && okE b then (r.e c a).bind fun ma => (r.e c b).map fun mb => .itR2 ma mb else none
   | _ => none)
  else none) : Option ME).orElse fun _ => if okE e then (r.e c e).map .itE else none
noncomputable def xComp (elt : Expr) (gens : List Comprehension) (sc : Scope) : Option ME := match gens with
 | [⟨tg, it, ifs, isa⟩] => if c.scopeOk sc && decide (isa = 0) && okE it then ((c.inner sc).tg tg).bind fun t => (compI r c tg it).bind fun mi => (compTs r (c.inner sc) ifs).bind fun mc => (r.e (c.inner sc) elt).map fun me => .comp (c.caps sc) (frees sc ++ locals sc).length t mi mc me else none
 | _ => none
noncomputable def xSC (f : Expr) (args : List Expr) (kws : List Keyword) : Option ME := (fun (_ : CF) (_ : CEnv) => none) r c
noncomputable def xSU (f : Expr) (args : List Expr) (kws : List Keyword) : Option ME := (fun (_ : CEnv) => none) c
noncomputable def stepE : Expr -> Option ME
 | .Name x _ => xName c x
 | .Constant k _ _ => (compK k).map .lit
 | .BinOp a op b _ => c2 r c (.bin op) a b
 | .UnaryOp op a _ => xUn r c op a
 | .Compare a ops bs _ => xCmp r c a ops bs
 | .BoolOp op vs _ => compB r c op vs
 | .IfExp t a b _ => (r.t c t).bind fun mt => (r.e c a).bind fun ma => (r.e c b).map fun mb => .ite mt ma mb
 | .Tuple es _ _ => (compA r c es).map (.prim .tup)
 | .List es _ => (compA r c es).map (.prim .lst)
 | .Subscript a b _ => xSub r c a b
 | .Dict ks vs _ => if ks.isEmpty && vs.isEmpty then some (.prim .dnew .nil) else if decide (ks.length <= 15) then (compD r c ks vs).map .dct else none
 | .JoinedStr vs _ => if decide (2 <= vs.length) && decide (vs.length <= 40) then (compF r c vs).map (.prim .fstr) else none
 | .Attribute o f _ => if okBase o then c1 r c (.fld f) o else none
 | .Call f args kws pos => (xSC r c f args kws).orElse fun _ => (xSU c f args kws).orElse fun _ => xCall r c f args kws pos
 | .ListComp elt gens sc _ => xComp r c elt gens sc
 | _ => none
noncomputable def stepT : Expr -> Option ME
 | .UnaryOp op a _ => if op = .Not then (r.t c a).map .not_ else none
 | .BoolOp op vs _ => compW r c op vs
 | .Compare a ops bs _ => (xCmp r c a ops bs).map .tst
 | e => if plainTest e then (r.e c e).map .tst else none
noncomputable def CEnv.parOk : List Expr -> Expr -> Bool
 | [.Name x px, .Name y py], .Tuple [a, b] _ _ => decide (c.nm.lookup x = some .local) && decide (c.nm.lookup y = some .local) && decide (x ≠ y) && decide (py.line = px.line) && okE a && okE b && !([a, b].all (foldedForSure 8)) && !([a, b].all (constantsAlone 8))
 | _, _ => false
noncomputable def compV : Expr -> Option ME
 | .Constant k _ _ => (compK k).map .lit
 | _ => none
noncomputable def compVs : List Expr -> Option ME
 | [] => some .nil
 | e :: es => (compV e).bind fun m => (compVs es).map fun ms => .cons m ms
noncomputable def compR : Expr -> Option ME
 | .List es _ => (compVs es).map (.prim .lst)
 | .Constant k _ _ => (compK k).map .lit
 | _ => none
noncomputable def asHand : ExceptHandler -> Option (Str × Expr)
 | .ExceptHandler (some (.Name y _)) none [.Return (some e) _] _ => some (y, e)
 | _ => none
noncomputable def compH : List ExceptHandler -> Option (List (Str × ME))
 | [] => some []
 | h :: hs => (asHand h).bind fun q => if c.exc.contains q.1 && c.gl q.1 && noDb q.1 then (compR q.2).bind fun m => (compH hs).map fun ms => (q.1, m) :: ms else none
noncomputable def asRaise : Option Expr -> Option Expr -> Option (Str × Expr × List Expr)
 | some (.Call (.Name x _) (e :: es) [] _), none => some (x, e, es)
 | _, _ => none
noncomputable def CEnv.flds (f : Str) : List Str := (c.fls.filter fun y => decide (y.1 = f)).map (·.2)
noncomputable def sAsg (tg e : Expr) : Option MS := match tg with
 | .Name x _ => if c.locOk x then (c.idx x).bind fun i => (r.e c e).map fun m => .set i m else none
 | .Tuple es _ _ => if (noTup e && noComp e) || c.parOk es e then (c.slots es).bind fun is => (r.e c e).map fun m => .unp (.many is) m else none
 | .Subscript o i _ => if okE i && noComp e then (r.e c o).bind fun mo => (r.e c i).bind fun mi => (r.e c e).map fun m => .setix mo mi m else none
 | .Attribute o f _ => if noComp e then (r.e c o).bind fun mo => (r.e c e).map fun m => .setf f (c.flds f) mo m else none
 | _ => none
noncomputable def stepS : Stmt -> Option MS
 | .Expr e _ => if noComp e then (r.e c e).map .expr else none
 | .Assign tgs e _ => (match tgs with
  | [tg] => sAsg r c tg e
  | _ => none)
 | .AugAssign tg op e _ => (match tg with
  | .Attribute o f _ => if decide (op = .Add) then (r.e c o).bind fun mo => (r.e c e).map fun m => .augf f (c.flds f) mo m else none
  | _ => none)
 | .If t a b _ => (r.t c t).bind fun mt => (compSs r c a).bind fun ma => (compSs r c b).map fun mb => .ifs mt ma mb
 | .For tg it body els _ => if els.isEmpty && okE it then (c.tg tg).bind fun t => (compI r c tg it).bind fun mi => (compSs r c body).map fun mb => .for_ t mi mb else none
 | .While t body els _ => if els.isEmpty then (r.t c t).bind fun mt => (compSs r c body).map fun mb => .whil mt mb else none
 | .Return e _ => (match e with
  | some e => (r.e c e).map .ret
  | none => some .retn)
 | .Pass _ => some .pass
 | .Raise e f _ => (asRaise e f).bind fun q => if c.rais && c.exc.contains q.1 && c.gl q.1 && noDb q.1 then (compA r c (q.2.1 :: q.2.2)).map (.raise q.1) else none
 | .Try body hs el fi _ => if c.tryb && !hs.isEmpty && el.isEmpty && fi.isEmpty then (compSs r { c with rais := false, tryb := false } body).bind fun mb => (compH c hs).map fun ms => .try_ mb ms else none
 | _ => none
end
noncomputable def comp : Nat -> CF
 | 0 => ⟨fun _ _ => none, fun _ _ => none, fun _ _ => none⟩
 | n + 1 => ⟨stepE (comp n), stepT (comp n), stepS (comp n)⟩
end M

namespace M
open PySem L2 PySem.Spec PyProof.Rows
structure COk (X : Cx) (c : CEnv) (P : Sig) (Ξ : XKE) : Prop where
 N : X.N = c.N
 nd : c.N.Nodup
 loc : ∀ x, c.nm.lookup x = some .local -> X.env.scope.names.lookup x = some .local
 cel : ∀ x, c.nm.lookup x = some .cell -> X.env.scope.names.lookup x = some .cell
 fre : ∀ x, c.nm.lookup x = some .free -> X.env.scope.names.lookup x = some .cell \/ X.env.scope.names.lookup x = some .free
 glo : ∀ x, c.nm.lookup x = some .globalImplicit -> X.env.scope.names.lookup x = some .globalImplicit
 cells : ∀ x, (c.nm.lookup x = some .cell \/ c.nm.lookup x = some .free) -> ∃ a, X.env.cells.lookup x = some a
 fnb : c.fnb = true -> ∀ x, X.fn x = true
 calm : X.calm = true
 units : X.A.units + 100 < cLine
 own : PassesOwn (model X.prog X.w) X.A X.env X.xe
 mono : SigMono P
 con : ∀ x d, c.con.lookup x = some d -> ∃ v u, X.mg x = some u /\ RelV v u /\ ∀ ρ H, DRel X.K ρ H d v
 blt : ∀ x, c.blt.contains x = true -> X.mg x = none
 fns : ∀ x f, c.fns.lookup x = some f -> ∃ k fa fd ps, FnR X P Ξ.1 k f fa fd ps /\ Room k X.A /\ X.mg x = some (.ref fa) /\ PySem.W.keepIn X.K (.ref fa) = true
 cls : ∀ x f, c.cls.lookup x = some f -> ∃ k C fa fd ps, FnR X P Ξ.1 k f fa fd ps /\ Room (k + 1) X.A /\ X.mg x = some (.ref C) /\ IsCls X.K x C /\ Cls X.K C /\ Mk X.K C fa
 mts : ∀ m y f C, (m, y, f) ∈ c.mts -> IsCls X.K y C -> ∃ k fa fd ps, Meth X.K C m fa /\ FnR X P Ξ.1 k f fa fd ps /\ Room k X.A
 fls : ∀ f y C, (f, y) ∈ c.fls -> IsCls X.K y C -> NoAttr X.K C f
 exq : Ξ.1 = c.exc
 pass : Passes (CXE X.prog X.w) X Ξ.2
 rais : c.rais = true -> RaiseOk X Ξ.2
 tryb : c.tryb = true -> X.stack = X.env :: X.outer /\ X.env.frame = some X.env.locals
 exc : ∀ x, c.exc.contains x = true -> ∃ C, X.mg x = some (.ref C) /\ IsCls X.K x C /\ ∃ B newId initId bm, OwnCls x C bm newId X.mg X.base /\ ExcBaseFacts B newId initId bm
 exm : ∀ x y C C', c.exc.contains x = true -> c.exc.contains y = true -> IsCls X.K x C -> IsCls X.K y C' -> PySem.W.exmOne X.K (.ref C) (.ref C') = some (decide (x = y))
 gdc : ∀ x kvs, c.gd.lookup x = some kvs -> GDict X x kvs
section
variable {X : Cx} {c : CEnv} {P : Sig} {Ξ : XKE}
theorem idx_get {c : CEnv} {x : Str} {i : Nat} (h : c.idx x = some i) : c.N[i]? = some x := by
 unfold CEnv.idx at h
 rw [List.findIdx?_eq_some_iff_getElem] at h
 obtain ⟨h1, h2, _⟩ := h
 rw [List.getElem?_eq_getElem h1, of_decide_eq_true h2]
theorem COk.visOk (C : COk X c P Ξ) {x : Str} (h : c.vis x = true) : Vis X.env.scope x := by
 unfold CEnv.vis at h
 split at h
 ·rename_i e; exact .inl (C.loc x e)
 ·rename_i e; exact .inr (.inl (C.cel x e))
 ·rename_i e
  rcases C.fre x e with z | z
  ·exact .inr (.inl z)
  ·exact .inr (.inr z)
 ·cases h
theorem COk.glOk (C : COk X c P Ξ) {x : Str} (h : c.gl x = true) : Gl X x := C.glo x (of_decide_eq_true h)
theorem COk.locOk (C : COk X c P Ξ) {x : Str} (h : c.locOk x = true) : Loc X.env.scope x /\ (X.fn x = true \/ X.env.scope.names.lookup x = some .local) := by
 unfold CEnv.locOk at h
 rw [Bool.or_eq_true] at h
 rcases h with h | h
 ·have := C.loc x (of_decide_eq_true h)
  exact ⟨.inl this, .inr this⟩
 ·rw [Bool.and_eq_true] at h
  exact ⟨.inr (C.cel x (of_decide_eq_true h.2)), .inl (C.fnb h.1 x)⟩
theorem COk.idxN (C : COk X c P Ξ) {x : Str} {i : Nat} (h : c.idx x = some i) : X.N[i]? = some x := by rw [C.N]; exact idx_get h
theorem COk.ndN (C : COk X c P Ξ) : X.N.Nodup := by rw [C.N]; exact C.nd
theorem asName_inv {e : Expr} {x : Str} (h : asName e = some x) : ∃ p, e = .Name x p := by
 cases e <;> first | (cases h; exact ⟨_, rfl⟩) | cases h
theorem slot_inv {e : Expr} {i : Nat} (h : c.slot e = some i) : ∃ x p, e = .Name x p /\ c.locOk x = true /\ c.idx x = some i := by
 unfold CEnv.slot at h
 obtain ⟨x, hx, h2⟩ := Option.bind_eq_some_iff.mp h
 obtain ⟨p, rfl⟩ := asName_inv hx
 split at h2
 ·exact ⟨x, p, rfl, by assumption, h2⟩
 ·cases h2
theorem COk.slots (C : COk X c P Ξ) : ∀ {es : List Expr} {is : List Nat}, c.slots es = some is -> SlotsOk X es is := by
 intro es
 induction es with
 | nil => intro is h; cases h; exact .nil
 | cons e r ih =>
  intro is h
  unfold CEnv.slots at h
  obtain ⟨i, hi, h⟩ := Option.bind_eq_some_iff.mp h
  obtain ⟨is', hs, rfl⟩ := Option.map_eq_some_iff.mp h
  obtain ⟨x, p, rfl, hl, hx⟩ := slot_inv hi
  exact .cons (C.idxN hx) (C.locOk hl).1 (C.locOk hl).2 (ih hs)
theorem orElse_some {α : Type} {a : Option α} {b : Unit -> Option α} {m : α} (h : a.orElse b = some m) : a = some m \/ b () = some m := by
 cases a with
 | none => exact .inr h
 | some x => exact .inl h
theorem COk.tgOk (C : COk X c P Ξ) {tg : Expr} {t : MT} (h : c.tg tg = some t) : PG X tg (LG X.K t) := by
 unfold CEnv.tg at h
 rcases orElse_some h with h | h
 ·obtain ⟨i, hi, rfl⟩ := Option.map_eq_some_iff.mp h
  obtain ⟨x, p, rfl, hl, hx⟩ := slot_inv hi
  exact sg_one C.ndN (C.idxN hx) (C.locOk hl).1 (C.locOk hl).2
 ·cases tg <;> first | (cases h; done) | skip
  obtain ⟨is, hs, rfl⟩ := Option.map_eq_some_iff.mp (show (c.slots _).map MT.many = some t from h)
  exact sg_many C.calm C.ndN (C.slots hs)
theorem okE_star {e : Expr} {es : List Expr} {env : Env} (h : okE e = true) : starEach (e :: es) env = (false, eval e env) :: starEach es env := by
 cases e <;> first | rfl | cases h
theorem okE_fold {e : Expr} {env : Env} (h : okE e = true) : ∀ x, foldedSetIterable e env x = pure x := by
 intro x
 cases e <;> first | rfl | cases h
theorem okE_ix {e : Expr} (h : okE e = true) : PlainIx e := by
 intro o i
 cases e <;> first | rfl | cases h
theorem okE_set {o i : Expr} {tp : Pos} {env : Env} (h : okE i = true) : ∀ v, assign (.Subscript o i tp) env v = (do
      let ov <- holding [v] (eval o env)
      let iv <- holding [v, ov] (eval i env)
      standAt tp
      holding [v, ov, iv] (setItem ov iv v)
      release [v, ov, iv] []) := by
  intro v
  cases i <;> first | rfl | cases h
theorem noComp_sw {e : Expr} {t : Option Expr} {n : Nat} {env : Env} (h : noComp e = true) : swapsWith e t n env = pure false := by
 cases e <;> first | rfl | cases h
theorem noTup_sw {e : Expr} {es : List Expr} {k : Nat} {p : Pos} {env : Env} (h : noTup e = true) : swappedStores [.Tuple es k p] e env = pure none := by
 cases e <;> first | rfl | cases h
theorem plain_tru {e : Expr} {env : Env} (h : plainTest e = true) : ∀ whole, isTrue e env whole = (do let v <- whole; standAt e.pos; holding [v] (truthy v)) := by
 intro w
 cases e <;> first | rfl | cases h
theorem asCallN_inv {e : Expr} {q : Str × List Expr} (h : asCallN e = some q) : ∃ p pos, e = .Call (.Name q.1 p) q.2 [] pos := by
 cases e <;> first | (cases h; done) | skip
 rename_i f as kws pos
 cases f <;> first | (cases h; done) | skip
 cases kws <;> first | (cases h; done) | skip
 cases h
 exact ⟨_, _, rfl⟩
theorem asTup_inv {e : Expr} (h : asTup e = true) : ∃ es k p, e = .Tuple es k p := by
 cases e <;> first | exact ⟨_, _, _, rfl⟩ | cases h
theorem gdOf_inv {b : Expr} {kvs : List D} (h : c.gdOf b = some kvs) : ∃ x p, b = .Name x p /\ c.gl x = true /\ noDb x = true /\ c.gd.lookup x = some kvs := by
 unfold CEnv.gdOf at h
 obtain ⟨x, hx, h2⟩ := Option.bind_eq_some_iff.mp h
 obtain ⟨p, rfl⟩ := asName_inv hx
 split at h2
 ·rename_i hc
  rw [Bool.and_eq_true] at hc
  exact ⟨x, p, rfl, hc.1, hc.2, h2⟩
 ·cases h2
theorem base_of {o : Expr} {f : Str} {env : Env} (h : okBase o = true) : attributeBase o f env (eval o env) = eval o env := by
 cases o <;> first | rfl | skip
 rename_i f as kws pos
 cases f <;> first | rfl | cases h
theorem clos_go {env : Env} : ∀ (names : List (Str × NameKind)) (acc : List (Str × Addr)), (∀ y ∈ names, y.2 = .free -> ∃ a, env.cells.lookup y.1 = some a) -> (∀ x a, acc.lookup x = some a -> env.cells.lookup x = some a) ->
  ∃ cl, (forIn names acc fun (y : Str × NameKind) (cs : List (Str × Addr)) => (match y with
   | (name, kind) => if (kind == NameKind.free) = true then do
     let __do_lift <- cellOf env name
     pure (ForInStep.yield ((name, __do_lift) :: cs))
    else pure (ForInStep.yield cs) : Sem (ForInStep (List (Str × Addr))))) = pure cl /\ (∀ x a, cl.lookup x = some a -> env.cells.lookup x = some a) /\ (∀ y ∈ names, y.2 = .free -> ∃ a, cl.lookup y.1 = some a) /\ ∀ x a, acc.lookup x = some a -> ∃ a', cl.lookup x = some a'
 | [], acc, _, h2 => ⟨acc, rfl, h2, fun y hy => absurd hy (by simp), fun x a h => ⟨a, h⟩⟩
 | (n, k) :: r, acc, h1, h2 => by
  rw [List.forIn_cons]
  by_cases hk : k = .free
  ·subst hk
   obtain ⟨a, ha⟩ := h1 (n, .free) (by simp) rfl
   have hc : cellOf env n = pure a := by unfold cellOf; rw [ha]
   obtain ⟨cl, e, q1, q2, q3⟩ := clos_go r ((n, a) :: acc) (fun y hy => h1 y (by simp [hy])) (fun x b hb => by
    rw [List.lookup_cons] at hb
    cases hx : x == n with
    | true => rw [hx] at hb; cases hb; rw [eq_of_beq hx]; exact ha
    | false => rw [hx] at hb; exact h2 x b hb)
   refine ⟨cl, ?_, q1, fun y hy hf => ?_, fun x b hb => ?_⟩
   ·simp only [beq_self_eq_true, if_true, hc]
    exact e
   ·rcases List.mem_cons.mp hy with z | z
    ·subst z
     exact q3 n a (by simp [List.lookup_cons])
    ·exact q2 y z hf
   ·cases hx : x == n with
    | true => exact q3 x a (by rw [List.lookup_cons, hx])
    | false => exact q3 x b (by rw [List.lookup_cons, hx]; exact hb)
  ·have hb : (k == NameKind.free) = false := by simpa using hk
   obtain ⟨cl, e, q1, q2, q3⟩ := clos_go r acc (fun y hy => h1 y (by simp [hy])) h2
   refine ⟨cl, ?_, q1, fun y hy hf => ?_, q3⟩
   ·simp only [hb, Bool.false_eq_true, if_false]
    exact e
   ·rcases List.mem_cons.mp hy with z | z
    ·subst z; exact absurd hf hk
    ·exact q2 y z hf
end
end M

namespace M
open PySem L2 PySem.Spec PyProof.Rows
theorem pass_none {P : Program} {w : World} {X : Cx} : Passes (CXE P w) X (fun _ _ _ => False) := fun _ _ _ _ _ _ _ h => by
 obtain ⟨_, _, _, _, _, _, _, z⟩ := h
 exact z.elim
theorem lookup_relabel_gl {env : Env} : ∀ {names : List (Str × NameKind)} {x : Str}, names.lookup x = some .globalImplicit ->
  (names.map fun (n, k) => if (k == NameKind.free && env.scope.kind == .function && env.kindOf n == some .cell) then (n, NameKind.cell) else (n, k)).lookup x = some .globalImplicit
 | [], _, h => by simp at h
 | (n, k) :: r, x, h => by
  have ih := @lookup_relabel_gl env r x
  show List.lookup x ((if (k == NameKind.free && env.scope.kind == .function && env.kindOf n == some .cell) = true then (n, NameKind.cell) else (n, k)) :: _) = _
  cases hx : x == n with
  | true =>
   simp only [List.lookup_cons, hx] at h
   cases h
   simp [List.lookup_cons, hx]
  | false =>
   simp only [List.lookup_cons, hx] at h
   by_cases hc : (k == NameKind.free && env.scope.kind == .function && env.kindOf n == some .cell) = true
   ·rw [if_pos hc]; simp only [List.lookup_cons, hx]; exact ih h
   ·rw [if_neg hc]; simp only [List.lookup_cons, hx]; exact ih h
section
variable {X : Cx} {c : CEnv} {P : Sig} {Ξ : XKE}
theorem COk.comp (C : COk X c P Ξ) {sc : Scope} (h : c.scopeOk sc = true) : ∃ cl, CompScope X sc (frees sc ++ locals sc) (c.caps sc) cl /\ ∀ pins A s H fp, COk (compCx X pins sc (frees sc ++ locals sc) cl A s H fp) (c.inner sc) P (XK0 Ξ.1) := by
 unfold CEnv.scopeOk at h
 simp only [Bool.and_eq_true, decide_eq_true_eq, List.all_eq_true] at h
 obtain ⟨⟨⟨⟨h1, h2⟩, h3⟩, h4⟩, h5⟩ := h
 have hfree : ∀ x, sc.names.lookup x = some .free -> x ∈ frees sc := fun x hx => by
  unfold frees
  exact List.mem_map.mpr ⟨(x, .free), List.mem_filter.mpr ⟨PySem.mem_of_lookup hx, by simp⟩, rfl⟩
 have fr : ∀ x ∈ frees sc, (∃ i, c.idx x = some i) /\ sc.names.lookup x = some .free /\ (c.nm.lookup x = some .cell \/ c.nm.lookup x = some .free) := fun x hx => by
  have := h5 x hx
  rw [Option.isSome_iff_exists, Bool.or_eq_true] at this
  simp only [decide_eq_true_eq] at this
  exact ⟨this.1.1, this.1.2, this.2⟩
 have cellOk : ∀ y ∈ sc.names, y.2 = .free -> ∃ a, X.env.cells.lookup y.1 = some a := fun y hy hf => by
  have hm : y.1 ∈ frees sc := List.mem_map.mpr ⟨y, List.mem_filter.mpr ⟨hy, by simp [hf]⟩, rfl⟩
  exact C.cells y.1 (fr y.1 hm).2.2
 obtain ⟨cl, e, q1, q2, _⟩ := clos_go sc.names [] cellOk (fun x a h => by simp at h)
 refine ⟨cl, ⟨h1, h2, fun y hy hl => ?_, ?_, q1, fun x hx => q2 (x, .free) (PySem.mem_of_lookup hx) rfl, h4, fun i j hij => ?_, ?_⟩, fun pins A s H fp => ?_⟩
 ·have := h3 y hy
  rw [Bool.or_eq_true] at this
  simp only [Bool.not_eq_true', decide_eq_false_iff_not, decide_eq_true_eq] at this
  exact this.resolve_left fun z => z hl
 ·simp only [closureFor]
  rw [e]
  rfl
 ·unfold CEnv.caps at hij
  rw [List.getElem?_map] at hij
  cases ex : (frees sc)[i]? with
  | none => rw [ex] at hij; cases hij
  | some x =>
   rw [ex] at hij
   have hx : x ∈ frees sc := List.mem_of_getElem? ex
   obtain ⟨⟨k, hk⟩, hl, hc⟩ := fr x hx
   have hj : k = j := by
    have := Option.some.inj hij
    dsimp only at this
    rw [hk] at this
    exact this
   subst hj
   refine ⟨x, ?_, C.idxN hk, hl, ?_⟩
   ·rw [List.getElem?_append_left (List.getElem?_eq_some_iff.mp ex).1]
    exact ex
   ·rcases hc with z | z
    ·exact .inl (C.cel x z)
    ·exact C.fre x z
 ·unfold CEnv.caps
  rw [List.length_map, List.length_append]
  omega
 ·refine ⟨rfl, h4, fun x hx => lookup_relabel_local hx, fun x hx => ?_, fun x hx => lookup_relabel_free hx, fun x hx => lookup_relabel_gl hx, fun x hx => ?_, fun z => ?_, rfl, C.units, PassesOwn.never, C.mono, C.con, C.blt, C.fns, C.cls, C.mts, C.fls, C.exq, pass_none, (fun z => by cases z), (fun z => by cases z), C.exc, C.exm, C.gdc⟩
  ·exact absurd rfl (h2 _ (PySem.mem_of_lookup hx))
  ·rcases hx with hx | hx
   ·exact absurd rfl (h2 _ (PySem.mem_of_lookup hx))
   ·exact q2 (x, .free) (PySem.mem_of_lookup hx) rfl
  ·cases z
theorem noDb_of {x : Str} (h : noDb x = true) : (x == ("__debug__" : Str)) = false /\ (x == ("__classdict__" : Str)) = false /\ x ≠ "__name__" := by
 unfold noDb at h
 simp only [Bool.and_eq_true, decide_eq_true_eq, beq_iff_eq] at h
 exact ⟨h.1.1, h.1.2, h.2⟩
theorem tyTab_of {x : Str} {t : String} (h : tyTab.lookup x = some t) : bootBuiltins x = some (.type t) := by
 have hm := PySem.mem_of_lookup h
 simp only [tyTab, List.mem_cons, List.mem_nil_iff, or_false] at hm
 rcases hm with z | z | z | z | z <;> (cases z; first | exact PyProof.Rows.boot_int | exact PyProof.Rows.boot_bool | exact PyProof.Rows.boot_str | exact PyProof.Rows.boot_tuple | exact PyProof.Rows.boot_list | decide +kernel | rfl)
theorem bltTab_of {x : Str} {p : Pr} (hc : X.calm = true) (h : bltTab.lookup x = some p) : ∃ v, ((∃ id, v = .builtin id) \/ ∃ T, v = .type T) /\ bootBuiltins x = some v /\ CallR X v (rN X.K p) := by
 have hm := PySem.mem_of_lookup h
 simp only [bltTab, List.mem_cons, List.mem_nil_iff, or_false] at hm
 rcases hm with z | z | z | z | z | z | z | z | z
 ·cases z; exact ⟨.builtin "len", .inl ⟨_, rfl⟩, PySem.boot_len, len_ok⟩
 ·cases z; exact ⟨.type "list", .inr ⟨_, rfl⟩, by first | exact PyProof.Rows.boot_list | decide +kernel, list_ok⟩
 ·cases z; exact ⟨.type "tuple", .inr ⟨_, rfl⟩, by first | exact PyProof.Rows.boot_tuple | decide +kernel, tuple_ok⟩
 ·cases z; exact ⟨.builtin "isinstance", .inl ⟨_, rfl⟩, by first | exact PyProof.Rows.boot_isinstance | decide +kernel, isin_ok⟩
 ·cases z; exact ⟨.builtin "all", .inl ⟨_, rfl⟩, by first | exact PyProof.Rows.boot_all | decide +kernel, all_ok hc⟩
 ·cases z; exact ⟨.builtin "max", .inl ⟨_, rfl⟩, by first | exact PyProof.Rows.boot_max | decide +kernel, max_ok hc⟩
 ·cases z; exact ⟨.builtin "min", .inl ⟨_, rfl⟩, by first | exact PyProof.Rows.boot_min | decide +kernel, min_ok hc⟩
 ·cases z; exact ⟨.type "int", .inr ⟨_, rfl⟩, by first | exact PyProof.Rows.boot_int | decide +kernel, int_ok⟩
 ·cases z; exact ⟨.type "str", .inr ⟨_, rfl⟩, by first | exact PyProof.Rows.boot_str | decide +kernel, str_ok⟩
theorem metTab_of {x : Str} {p : Pr} (hu : X.A.units + 100 < cLine) (h : metTab.lookup x = some p) : ∃ T id, PlainAttrs T /\ Slot T x id /\ typeOf (.builtin id) = pure (.type "method_descriptor") /\ MtR X id (rM X.K p) /\
  ∀ {d : D} {v : V} {g : G} {ρ : List Addr} {H : Hp}, Rl X.K ρ g H -> DRel X.K ρ H d v -> mkP p d g -> tyV X.K T v H := by
 have hm := PySem.mem_of_lookup h
 simp only [metTab, List.mem_cons, List.mem_nil_iff, or_false] at hm
 rcases hm with z | z | z
 ·cases z; exact ⟨_, _, PySem.F.plainAttrs_list, PySem.F.slot_list_append, PySem.F.type_list_append, append_ok, fun R r h => ty_list R r h⟩
 ·cases z; exact ⟨_, _, PySem.F.plainAttrs_list, PySem.F.slot_list_pop, PySem.F.type_list_pop, popAt_ok, fun R r h => ty_list R r h⟩
 ·cases z; exact ⟨_, _, PySem.F.plainAttrs_dict, PySem.F.slot_dict_get, PySem.F.type_dict_get, get_ok hu, fun R r h => ty_dict R r h⟩
theorem star_all {pos : Pos} {env : Env} : ∀ {es : List Expr}, (∀ e ∈ es, okE e = true) -> (backTo pos (starEach es env)).all (fun x => !x.1) = true
 | [], _ => rfl
 | e :: es, h => by
  rw [okE_star (h e (by simp))]
  have ih := star_all (pos := pos) (env := env) (es := es) fun x hx => h x (by simp [hx])
  unfold backTo at ih ⊢
  rw [List.map_cons, List.all_cons, ih]
  rfl
theorem star_any {pos : Pos} {env : Env} : ∀ {es : List Expr}, (∀ e ∈ es, okE e = true) -> (backTo pos (starEach es env)).any (·.1) = false
 | [], _ => rfl
 | e :: es, h => by
  rw [okE_star (h e (by simp))]
  have ih := star_any (pos := pos) (env := env) (es := es) fun x hx => h x (by simp [hx])
  unfold backTo at ih ⊢
  rw [List.map_cons, List.any_cons, ih]
  rfl
theorem compA_ok {r : CF} : ∀ {es : List Expr} {m : ME}, compA r c es = some m -> ∀ e ∈ es, okE e = true := by
 intro es
 induction es with
 | nil => intro m _ e he; exact absurd he (by simp)
 | cons a es ih =>
  intro m h e he
  unfold compA at h
  split at h
  ·obtain ⟨m1, h1, h⟩ := Option.bind_eq_some_iff.mp h
   obtain ⟨m2, h2, _⟩ := Option.map_eq_some_iff.mp h
   rcases List.mem_cons.mp he with z | z
   ·rw [z]; assumption
   ·exact ih h2 e z
  ·cases h
end
theorem asLitS_inv {a : Expr} {x : Str} (h : asLitS a = some x) : ∃ j p, a = .Constant (.str x) j p := by
 cases a with
 | Constant k j p => cases k with
  | str y => cases h; exact ⟨_, _, rfl⟩
  | _ => cases h
 | _ => cases h
theorem asFv_inv {a e : Expr} (h : asFv a = some e) : ∃ p, a = .FormattedValue e (-1) none p := by
 cases a with
 | FormattedValue v k f p => cases f with
  | none =>
   have h2 : (if k = -1 then some v else none) = some e := h
   split at h2
   ·rename_i hk; cases h2; rw [hk]; exact ⟨_, rfl⟩
   ·cases h2
  | some _ => cases h
 | _ => cases h
structure Snd (P : Sig) (r : CF) : Prop where
 e : ∀ X c Ξ, COk X c P Ξ -> ∀ e m, r.e c e = some m -> PE X e (LE X.K Ξ (wpE P m))
 t : ∀ X c Ξ, COk X c P Ξ -> ∀ e m, r.t c e = some m -> PT X e (LT X.K Ξ (wpT P m))
 s : ∀ X c Ξ, COk X c P Ξ -> ∀ st m, r.s c st = some m -> PS X st (LS X.K Ξ (wpS P m))
section
variable {X : Cx} {c : CEnv} {P : Sig} {Ξ : XKE} {r : CF} (S : Snd P r) (C : COk X c P Ξ) {a b d e : Expr} {m : ME} {pos : Pos}
include S C
theorem c1_inv {p : Pr} (h : c1 r c p a = some m) : ∃ ma, PE X a (LE X.K Ξ (wpE P ma)) /\ m = .prim p (.cons ma .nil) := by
 obtain ⟨ma, ha, rfl⟩ := Option.map_eq_some_iff.mp h
 exact ⟨ma, S.e X c Ξ C _ _ ha, rfl⟩
theorem c2_inv {p : Pr} (h : c2 r c p a b = some m) : ∃ ma mb, PE X a (LE X.K Ξ (wpE P ma)) /\ PE X b (LE X.K Ξ (wpE P mb)) /\ m = .prim p (.cons ma (.cons mb .nil)) := by
 obtain ⟨ma, ha, h⟩ := Option.bind_eq_some_iff.mp h
 obtain ⟨mb, hb, rfl⟩ := Option.map_eq_some_iff.mp h
 exact ⟨ma, mb, S.e X c Ξ C _ _ ha, S.e X c Ξ C _ _ hb, rfl⟩
theorem n_A : ∀ {es : List Expr} {m : ME}, compA r c es = some m -> PA X es (LA X.K Ξ (wpA P m)) := by
 intro es
 induction es with
 | nil => intro m h; cases h; exact sa_nil C.mono
 | cons a es ih =>
  intro m h
  unfold compA at h
  split at h
  ·rename_i hok
   obtain ⟨m1, h1, h⟩ := Option.bind_eq_some_iff.mp h
   obtain ⟨m2, h2, rfl⟩ := Option.map_eq_some_iff.mp h
   exact sa_cons C.mono (S.e X c Ξ C _ _ h1) (ih h2) (okE_star hok)
  ·cases h
theorem n_F : ∀ {es : List Expr} {m : ME}, compF r c es = some m -> ∃ ts, FOk X Ξ P es m ts := by
 intro es
 induction es with
 | nil => intro m h; cases h; exact ⟨_, .nil⟩
 | cons a es ih =>
  intro m h
  unfold compF at h
  rcases orElse_some h with h1 | h1
  ·obtain ⟨x, hx, h2⟩ := Option.bind_eq_some_iff.mp h1
   obtain ⟨j, p, rfl⟩ := asLitS_inv hx
   split at h2
   ·obtain ⟨m2, h3, rfl⟩ := Option.map_eq_some_iff.mp h2
    obtain ⟨ts, F⟩ := ih h3
    exact ⟨_, .lit (by assumption) F⟩
   ·cases h2
  ·obtain ⟨x, hx, h2⟩ := Option.bind_eq_some_iff.mp h1
   obtain ⟨m1, h3, h4⟩ := Option.bind_eq_some_iff.mp h2
   obtain ⟨m2, h5, rfl⟩ := Option.map_eq_some_iff.mp h4
   obtain ⟨p, rfl⟩ := asFv_inv hx
   obtain ⟨ts, F⟩ := ih h5
   exact ⟨_, .val (S.e X c Ξ C _ _ h3) F⟩
theorem n_D : ∀ {ks : List (Option Expr)} {vs : List Expr} {m : ME}, compD r c ks vs = some m -> ∃ trs, DOk X Ξ P ks vs m trs := by
 intro ks
 induction ks with
 | nil => intro vs m h; cases vs <;> first | (cases h; exact ⟨_, .nil⟩) | cases h
 | cons k ks ih =>
  intro vs m h
  cases k <;> first | (cases h; done) | skip
  cases vs <;> first | (cases h; done) | skip
  unfold compD at h
  obtain ⟨m1, h1, h⟩ := Option.bind_eq_some_iff.mp h
  obtain ⟨m2, h2, h⟩ := Option.bind_eq_some_iff.mp h
  obtain ⟨m3, h3, rfl⟩ := Option.map_eq_some_iff.mp h
  obtain ⟨trs, D⟩ := ih h3
  exact ⟨_, .cons (S.e X c Ξ C _ _ h1) (S.e X c Ξ C _ _ h2) D⟩
theorem n_B {op : BoolOp} : ∀ {vs : List Expr} {m : ME}, compB r c op vs = some m -> PE X (.BoolOp op vs pos) (LE X.K Ξ (wpE P m)) := by
 intro vs
 induction vs with
 | nil => intro m h; cases h
 | cons a vs ih =>
  intro m h
  cases vs with
  | nil => exact pe_one (S.e X c Ξ C _ _ h)
  | cons b vs =>
   unfold compB at h
   obtain ⟨m1, h1, h⟩ := Option.bind_eq_some_iff.mp h
   obtain ⟨m2, h2, rfl⟩ := Option.map_eq_some_iff.mp h
   cases op
   ·exact se_and C.mono (S.e X c Ξ C _ _ h1) (ih h2)
   ·exact se_or C.mono (S.e X c Ξ C _ _ h1) (ih h2)
theorem n_W {op : BoolOp} : ∀ {vs : List Expr} {m : ME}, compW r c op vs = some m -> PW X (.BoolOp op vs pos) (LT X.K Ξ (wpT P m)) := by
 intro vs
 induction vs with
 | nil => intro m h; cases h
 | cons a vs ih =>
  intro m h
  cases vs with
  | nil =>
   cases op
   ·exact pw_and1 (S.t X c Ξ C _ _ h)
   ·exact pw_or1 (S.t X c Ξ C _ _ h)
  | cons b vs =>
   unfold compW at h
   obtain ⟨m1, h1, h⟩ := Option.bind_eq_some_iff.mp h
   obtain ⟨m2, h2, rfl⟩ := Option.map_eq_some_iff.mp h
   cases op
   ·exact sw_and C.mono (S.t X c Ξ C _ _ h1) (ih h2)
   ·exact sw_or C.mono (S.t X c Ξ C _ _ h1) (ih h2)
theorem n_Ts {es : List Expr} (h : compTs r c es = some m) : PTs X es (LT X.K Ξ (wpT P m)) := by
 rcases es with _ | ⟨e, _ | ⟨_, _⟩⟩
 ·cases h; exact sts_nil C.mono
 ·exact pts_one (S.t X c Ξ C _ _ h)
 ·cases h
theorem n_Ss : ∀ {sts : List Stmt} {m : MS}, compSs r c sts = some m -> PSs X sts (LS X.K Ξ (wpS P m)) := by
 intro es
 induction es with
 | nil => intro m h; cases h; exact ss_nil C.mono
 | cons a es ih =>
  intro m h
  unfold compSs at h
  obtain ⟨m1, h1, h⟩ := Option.bind_eq_some_iff.mp h
  obtain ⟨m2, h2, rfl⟩ := Option.map_eq_some_iff.mp h
  exact ss_cons C.mono (S.s X c Ξ C _ _ h1) (ih h2)
end
theorem noComp_sole {e t : Expr} {n : Nat} {env : Env} (h : noComp e = true) : swapsWithSole [t] e n env = pure false := by
 show swapsWith e (some t) n env = pure false
 exact noComp_sw h
theorem par_stores {x y : Str} {px py pt pt2 : Pos} {kt k2 : Nat} {a b : Expr} {env : Env} (hk : env.scope.kind = .function) (hx : env.kindOf x = some .local) (hy : env.kindOf y = some .local) (hne : x ≠ y) (hl : py.line = px.line) (ha : okE a = true) (hb : okE b = true)
  (h1 : [a, b].all (foldedForSure 8) = false) (h2 : [a, b].all (constantsAlone 8) = false) : swappedStores [.Tuple [.Name x px, .Name y py] kt pt] (.Tuple [a, b] k2 pt2) env = pure (some [x, y]) := by
 have hbk : env.blockKind = .function := by simp [Env.blockKind, hk, ScopeKind.isAnnotationScope]
 have hd : [x, y].eraseDups.length = 2 := by
  have : (y == x) = false := by simpa using Ne.symm hne
  simp [List.eraseDups_cons, this]
 have hx' : (env.kindOf x == some NameKind.local && px.line == px.line) = true := by simp [hx]
 have hy' : (env.kindOf y == some NameKind.local && py.line == px.line) = true := by simp [hy, hl]
 have hp : Expr.pos (.Name x px) = px := rfl
 unfold swappedStores
 simp only [List.length_cons, List.length_nil, hbk, List.head?_cons, Option.map_some, Option.getD_some, hp, List.filterMap_cons, List.filterMap_nil, hx', hy', if_true, hd, h1, h2]
 rw [if_neg (by decide), if_neg ?_]
 ·rfl
 ·simp only [List.any_cons, List.any_nil, Bool.or_false, Bool.or_eq_true, not_or]
  constructor
  ·cases a <;> first | (intro h; cases h; done) | cases ha
  ·cases b <;> first | (intro h; cases h; done) | cases hb
theorem sx_par {X : Cx} {Ξ : XKE} {P : Sig} (hP : SigMono P) {i j : Nat} {x y : Str} {a b : Expr} {px py pt pt2 pos : Pos} {kt k2 : Nat} {mes : ME} (hc : X.calm = true) (hN : X.N.Nodup) (hi : X.N[i]? = some x) (hj : X.N[j]? = some y) (hne : x ≠ y) (hl : py.line = px.line)
  (hx : X.env.scope.names.lookup x = some .local) (hy : X.env.scope.names.lookup y = some .local) (oa : okE a = true) (ob : okE b = true) (h1 : [a, b].all (foldedForSure 8) = false) (h2 : [a, b].all (constantsAlone 8) = false)
  (ha : PA X [a, b] (LA X.K Ξ (wpA P mes))) : PS X (.Assign [.Tuple [.Name x px, .Name y py] kt pt] (.Tuple [a, b] k2 pt2) pos) (LS X.K Ξ (wpS P (.unp (.many [i, j]) (.prim .tup mes)))) := by
 intro pins s σv H D I h
 have hij : i ≠ j := by
  rintro rfl
  rw [hi] at hj; cases hj; exact hne rfl
 refine ps_par hc hN hi hj hij hx hy ha (par_stores I.ok.kind hx hy hne hl oa ob h1 h2) rfl pins s σv H D I ?_
 obtain ⟨σ, g, ρ, sr, R, h⟩ := h
 refine thA hP sr R (.refl _ _) (show wpA P mes σ g (fun xs g1 => prP .tup xs g1 _) _ from h) fun ds g1 ρ1 H1 vs e1 R1 r1 h => ?_
 obtain ⟨d', g', ⟨_, rfl, rfl⟩, l, σ', ex, hs, h⟩ := h
 cases ex
 have hl := setAll_len hs
 have e2 : ∃ d1 d2, ds = [d1, d2] := by
  rcases ds with _ | ⟨d1, _ | ⟨d2, _ | ⟨d3, r⟩⟩⟩ <;> first | exact ⟨_, _, rfl⟩ | (simp at hl; done) | (simp at hl; omega)
 obtain ⟨d1, d2, rfl⟩ := e2
 obtain ⟨v, w, rfl, q1, q2⟩ := r1.two
 cases hs
 exact ⟨_, _, rfl, h ρ1 H1 _ e1 R1 (((sr.ext e1).set i q1).set j q2)⟩
theorem COk.try_ {X : Cx} {c : CEnv} {Ξ : XKE} {P : Sig} (C : COk X c P Ξ) (hst : X.stack = X.env :: X.outer) (hf : X.env.frame = some X.env.locals) (pins : List (Addr × Obj)) (D : L2.Ends) (hs : List ExceptHandler) :
  COk (tryCx X pins (tryXe X pins D hs)) { c with rais := false, tryb := false } P (xTry X Ξ.1 D hs) :=
 ⟨C.N, C.nd, C.loc, C.cel, C.fre, C.glo, C.cells, C.fnb, C.calm, C.units, PassesOwn.looking, C.mono, C.con, C.blt, C.fns, C.cls, C.mts, C.fls, C.exq, pass_try hst hf fun C H' ⟨C', e, z⟩ => (by cases e; exact z), (fun z => by cases z), (fun z => by cases z), C.exc, C.exm, C.gdc⟩
end M

namespace M
open PySem L2 PySem.Spec PyProof.Rows
theorem se_rev {X : Cx} {Ξ : XKE} {P : Sig} (hP : SigMono P) {a d : Expr} {ma : ME} {pos p2 : Pos} (ha : PE X a (LE X.K Ξ (wpE P ma))) (hd : PE X d (LE X.K Ξ (wpE P (.prim (.un .USub) (.cons (.lit (.int 1)) .nil))))) : PE X (.Subscript a (.Slice none none (some d) p2) pos) (LE X.K Ξ (wpE P (.prim .rev (.cons ma .nil)))) :=
 (pe_rev ha hd).imp fun σv H Q ⟨σ, g, ρ, s, R, h⟩ => by
  simp only [wpE, wpA] at h
  refine thE hP s R (.refl _ _) h fun x g1 ρ1 H1 v1 e1 R1 r1 h => ?_
  obtain ⟨d', g', ⟨l, ex, rfl, rfl⟩, q⟩ := h
  cases ex
  obtain ⟨a', vs, rfl, ht, rs⟩ := r1.tup_of
  refine ⟨σ, g', ρ1, s.ext e1, R1, ?_⟩
  simp only [wpE, wpA]
  refine ⟨_, _, ⟨rfl, 1, rfl, rfl, rfl⟩, fun ρ2 H2 v2 e2 R2 r2 => ?_⟩
  refine ⟨r2.int_of, _, _, rfl, (ht.ext e2).sq, fun p hp => ?_⟩
  exact (q.ext (e1.trans e2)).tup R2 hp (rs.ext e2).reverse
theorem meth_eval {o : Expr} {m : Str} {apos pos : Pos} {args : List Expr} {env : Env} (hb : okBase o = true) (hl : (apos.endLine == pos.line) = true) (hf : methodCallForm args.length (backTo pos (starEach args env)) (backToKw pos (keywordEach [] env)) = true) :
  eval (.Call (.Attribute o m apos) args [] pos) env = (do
   let ov <- eval o env
   standAt apos.atName
   let (f, first) <- holding [ov] (getMethod ov m (do return (<- importBound o env).getD true))
   callWith pos f first (backTo pos (starEach args env)) (backToKw pos (keywordEach [] env))) := by
 have h1 : eval (.Call (.Attribute o m apos) args [] pos) env = (do
   let ov <- attributeBase o m env (eval o env)
   standAt apos.atName
   methodCall o m apos pos env ov (args.length + 0) (backTo pos (starEach args env)) (backToKw pos (keywordEach [] env))) := rfl
 rw [h1, base_of hb]
 have h2 : ∀ ov, methodCall o m apos pos env ov (args.length + 0) (backTo pos (starEach args env)) (backToKw pos (keywordEach [] env)) = (do
   let (f, first) <- holding [ov] (getMethod ov m (do return (<- importBound o env).getD true))
   callWith pos f first (backTo pos (starEach args env)) (backToKw pos (keywordEach [] env))) := fun ov => by
  unfold methodCall calleeOf methodCallPos
  rw [Nat.add_zero, hf, hl]
  simp only [if_true, Bool.not_true, Bool.false_or, pure_bind]
 simp only [h2]
section
variable {X : Cx} {c : CEnv} {P : Sig} {Ξ : XKE} {r : CF} (S : Snd P r) (C : COk X c P Ξ) {a b d e : Expr} {m : ME} {pos : Pos}
include C
theorem n_Name {x : Str} (h : xName c x = some m) : PE X (.Name x pos) (LE X.K Ξ (wpE P m)) := by
 unfold xName at h
 split at h
 ·rename_i hdb
  obtain ⟨d1, d2, d3⟩ := noDb_of hdb
  split at h
  ·rename_i hv
   obtain ⟨i, hi, rfl⟩ := Option.map_eq_some_iff.mp h
   exact se_var (C.idxN hi) (C.visOk hv) d1 d2
  ·split at h
   ·rename_i hg
    rcases orElse_some h with h | h
    ·obtain ⟨d, hd, rfl⟩ := Option.map_eq_some_iff.mp h
     obtain ⟨v, u, hm, r, rr⟩ := C.con x d hd
     exact se_lit (pe_glob (C.glOk hg) hm r d1) rr
    ·split at h
     ·rename_i hb
      obtain ⟨t, ht, rfl⟩ := Option.map_eq_some_iff.mp h
      exact se_lit (v := .ty t) (pe_bltn (C.glOk hg) (C.blt x hb) (tyTab_of ht) rfl d3 d1) fun _ _ => .ty t
     ·cases h
   ·cases h
 ·cases h
omit C in
theorem n_K {k : Const} {j : Nat} {d : D} (h : compK k = some d) : PE X (.Constant k j pos) (LE X.K Ξ (wpE P (.lit d))) := by
 cases k <;> first | (cases h; done) | skip
 ·cases h; exact se_lit pe_non fun _ _ => .non
 ·cases h; exact se_lit pe_bl fun _ _ => .bl _
 ·cases h; exact se_lit pe_int fun _ _ => .int _
 ·cases h; exact se_lit pe_str fun _ _ => .str _
include S
theorem n_Un {op : UnaryOp} (h : xUn r c op a = some m) : PE X (.UnaryOp op a pos) (LE X.K Ξ (wpE P m)) := by
 unfold xUn at h
 split at h
 ·rename_i ho
  subst ho
  obtain ⟨ma, ha, rfl⟩ := Option.map_eq_some_iff.mp h
  exact se_not C.mono (S.e X c Ξ C _ _ ha)
 ·obtain ⟨ma, ha, rfl⟩ := c1_inv S C h
  exact se_un C.mono ha
theorem n_Cmp {ops : List CmpOp} {bs : List Expr} (h : xCmp r c a ops bs = some m) : PE X (.Compare a ops bs pos) (LE X.K Ξ (wpE P m)) /\ PT X (.Compare a ops bs pos) (LT X.K Ξ (wpT P (.tst m))) := by
 unfold xCmp at h
 split at h
 ·rename_i op b
  split at h
  ·cases h
  ·rename_i hm
   have hm : behindInMarks op b = false := by simpa using hm
   rcases orElse_some h with h | h
   ·obtain ⟨neg, hn, h⟩ := Option.bind_eq_some_iff.mp h
    obtain ⟨kvs, hk, h⟩ := Option.bind_eq_some_iff.mp h
    obtain ⟨ma, ha, rfl⟩ := Option.map_eq_some_iff.mp h
    obtain ⟨x, p, rfl, hg, hd, hk⟩ := gdOf_inv hk
    have ho : op = if neg then .NotIn else .In := by cases op <;> cases hn <;> rfl
    subst ho
    exact ⟨se_gin C.mono (C.glOk hg) (noDb_of hd).1 (C.gdc x kvs hk) (S.e X c Ξ C _ _ ha) hm, st_gin C.mono (C.glOk hg) (noDb_of hd).1 (C.gdc x kvs hk) (S.e X c Ξ C _ _ ha) hm⟩
   ·obtain ⟨ma, mb, ha, hb, rfl⟩ := c2_inv S C h
    exact ⟨se_op2 C.mono (pe_cmpR (op_cmp C.units op) ha hb hm), st_op2 C.mono (pt_cmpR (op_cmp C.units op) ha hb hm)⟩
 ·split at h
  ·cases h
  ·rename_i hm
   obtain ⟨ma, ha, h⟩ := Option.bind_eq_some_iff.mp h
   obtain ⟨mb, hb, h⟩ := Option.bind_eq_some_iff.mp h
   obtain ⟨md, hd, rfl⟩ := Option.map_eq_some_iff.mp h
   exact ⟨se_chain C.mono C.units (S.e X c Ξ C _ _ ha) (S.e X c Ξ C _ _ hb) (S.e X c Ξ C _ _ hd) (by simpa using hm), st_chain C.mono C.units (S.e X c Ξ C _ _ ha) (S.e X c Ξ C _ _ hb) (S.e X c Ξ C _ _ hd) (by simpa using hm)⟩
 ·cases h
omit S C in
theorem asNeg1_inv {d : Expr} (h : asNeg1 d = true) : ∃ j p q, d = .UnaryOp .USub (.Constant (.int 1) j p) q := by
 cases d with
 | UnaryOp op a q => cases op with
  | USub => cases a with
   | Constant k j p => cases k with
    | int i => rw [show i = 1 from of_decide_eq_true h]; exact ⟨_, _, _, rfl⟩
    | _ => cases h
   | _ => cases h
  | _ => cases h
 | _ => cases h
theorem n_Sl {lo hi st : Option Expr} {p2 : Pos} (h : xSl r c a lo hi st = some m) : PE X (.Subscript a (.Slice lo hi st p2) pos) (LE X.K Ξ (wpE P m)) := by
 cases lo <;> cases hi <;> cases st <;> first | (cases h; done) | skip
 ·obtain ⟨ma, ha, rfl⟩ := c1_inv S C h
  exact se_slc00 C.mono ha
 ·rename_i d
  have h2 : (if asNeg1 d = true then c1 r c .rev a else none) = some m := h
  split at h2
  ·rename_i hn
   obtain ⟨j, p, q, rfl⟩ := asNeg1_inv hn
   obtain ⟨ma, ha, rfl⟩ := c1_inv S C h2
   exact se_rev C.mono ha (se_un C.mono (n_K (k := .int 1) rfl))
  ·cases h2
 ·obtain ⟨ma, mb, ha, hb, rfl⟩ := c2_inv S C h
  exact se_slc01 C.mono ha hb
 ·obtain ⟨ma, mb, ha, hb, rfl⟩ := c2_inv S C h
  exact se_slc10 C.mono ha hb
theorem n_Sub (h : xSub r c a b = some m) : PE X (.Subscript a b pos) (LE X.K Ξ (wpE P m)) := by
 unfold xSub at h
 rcases orElse_some h with h | h
 ·obtain ⟨q, hq, h⟩ := Option.bind_eq_some_iff.mp h
  have eb : ∃ p, b = .Slice q.1 q.2.1 q.2.2 p := by cases b <;> first | (cases hq; exact ⟨_, rfl⟩) | cases hq
  obtain ⟨p, rfl⟩ := eb
  exact n_Sl S C h
 ·split at h
  ·rename_i hb
   rcases orElse_some h with h | h
   ·obtain ⟨kvs, hk, h⟩ := Option.bind_eq_some_iff.mp h
    obtain ⟨mb, hb', rfl⟩ := Option.map_eq_some_iff.mp h
    obtain ⟨x, p, rfl, hg, hd, hk⟩ := gdOf_inv hk
    exact se_gget C.mono (C.glOk hg) (noDb_of hd).1 (C.gdc x kvs hk) (S.e X c Ξ C _ _ hb') (okE_ix hb)
   ·obtain ⟨ma, mb, ha, hb', rfl⟩ := c2_inv S C h
    exact se_op2 C.mono (pe_ix (ix_ok C.units) ha hb' (okE_ix hb))
  ·cases h
theorem n_Sp {x : Str} {px : Pos} (hg : c.gl x = true) (h : xSp r c x e = some m) : PE X (.Call (.Name x px) [e] [] pos) (LE X.K Ξ (wpE P m)) := by
 unfold xSp at h
 obtain ⟨q, hq, h'⟩ := Option.bind_eq_some_iff.mp h
 clear h
 have h := h'
 clear h'
 obtain ⟨p, pos', rfl⟩ := asCallN_inv hq
 obtain ⟨y, as⟩ := q
 dsimp only at h ⊢
 split at h
 ·rename_i hc
  simp only [Bool.and_eq_true, decide_eq_true_eq] at hc
  obtain ⟨⟨⟨⟨rfl, rfl⟩, hl⟩, hr⟩, hgr⟩ := hc
  rcases as with _ | ⟨a, _ | ⟨b, _ | ⟨_, _⟩⟩⟩
  ·cases h
  ·dsimp only at h
   split at h
   ·rename_i ho
    obtain ⟨ma, ha, rfl⟩ := c1_inv S C h
    exact se_lrng1 C.mono C.calm ha (C.glOk hg) (C.blt _ hl) (C.glOk hgr) (C.blt _ hr) (okE_star ho)
   ·cases h
  ·dsimp only at h
   split at h
   ·rename_i ho
    rw [Bool.and_eq_true] at ho
    obtain ⟨ma, mb, ha, hb, rfl⟩ := c2_inv S C h
    exact se_lrng2 C.mono C.calm ha hb (C.glOk hg) (C.blt _ hl) (C.glOk hgr) (C.blt _ hr) (by rw [okE_star ho.1, okE_star ho.2]; rfl) (okE_star ho.2)
   ·cases h
  ·cases h
 ·cases h
theorem n_CallN {x : Str} {px : Pos} {args : List Expr} (h : xCallN r c x args = some m) : PE X (.Call (.Name x px) args [] pos) (LE X.K Ξ (wpE P m)) := by
 cases args with
 | nil =>
  have h2 : xCall0 c x = some m := h
  unfold xCall0 at h2
  split at h2
  ·rename_i hdb
   rw [Bool.and_eq_true] at hdb
   obtain ⟨f, hf, rfl⟩ := Option.map_eq_some_iff.mp h2
   obtain ⟨k, C', fa, fd, ps, F, hr, hm, hC, hcl, M⟩ := C.cls x f hf
   exact se_make0 C.mono C.pass F M hC hcl hr (C.glOk hdb.2) hm (noDb_of hdb.1).1
  ·cases h2
 | cons e es =>
  have h0 : xCall1 r c x e es = some m := h
  clear h
  have h := h0
  clear h0
  unfold xCall1 at h
  split at h
  ·rename_i hdb
   rw [Bool.and_eq_true] at hdb
   obtain ⟨d1, d2, d3⟩ := noDb_of hdb.1
   rcases orElse_some h with h | h
   ·cases es with
    | nil => exact n_Sp S C hdb.2 h
    | cons _ _ => cases h
   ·obtain ⟨ms, hms, h⟩ := Option.bind_eq_some_iff.mp h
    have ok := compA_ok hms
    have pa := n_A S C hms
    have hst := okE_star (env := X.env) (es := es) (ok e (by simp))
    have hpl := star_any (pos := pos) (env := X.env) (es := es) fun z hz => ok z (by simp [hz])
    rcases orElse_some h with h | h
    ·obtain ⟨f, hf, rfl⟩ := Option.map_eq_some_iff.mp h
     obtain ⟨k, fa, fd, ps, F, hr, hm, hk⟩ := C.fns x f hf
     exact se_call C.mono C.pass F hr (C.glOk hdb.2) hm hk pa d1 hst hpl
    ·rcases orElse_some h with h | h
     ·obtain ⟨f, hf, rfl⟩ := Option.map_eq_some_iff.mp h
      obtain ⟨k, C', fa, fd, ps, F, hr, hm, hC, hcl, M⟩ := C.cls x f hf
      exact se_make C.mono C.pass F M hC hcl hr (C.glOk hdb.2) hm pa d1 hst hpl
     ·split at h
      ·rename_i hb
       obtain ⟨p, hp, rfl⟩ := Option.map_eq_some_iff.mp h
       obtain ⟨v, hv, hbb, hc⟩ := bltTab_of (X := X) C.calm hp
       exact se_blt C.mono hv hc (C.glOk hdb.2) (C.blt x hb) hbb pa d3 d1 hst hpl
      ·cases h
  ·cases h
omit S in
theorem meths_ok {m : Str} : MethsOk X P Ξ.1 m (c.meths m) := fun y f C' h hC => by
 have hm := PySem.mem_of_lookup h
 unfold CEnv.meths at hm
 obtain ⟨⟨m', y', f'⟩, h1, h2⟩ := List.mem_map.mp hm
 obtain ⟨h3, h4⟩ := List.mem_filter.mp h1
 cases h2
 have : m' = m := by simpa using h4
 subst this
 exact C.mts m' y f C' h3 hC
theorem n_CallA {o : Expr} {mt : Str} {apos : Pos} {args : List Expr} (h : xCallA r c o mt apos pos args = some m) : PE X (.Call (.Attribute o mt apos) args [] pos) (LE X.K Ξ (wpE P m)) := by
 unfold xCallA at h
 split at h
 ·rename_i hc
  simp only [Bool.and_eq_true, decide_eq_true_eq] at hc
  obtain ⟨⟨hb, hl⟩, hn⟩ := hc
  obtain ⟨mo, ho, h⟩ := Option.bind_eq_some_iff.mp h
  obtain ⟨ms, hms, h⟩ := Option.bind_eq_some_iff.mp h
  have ok := compA_ok hms
  have pa := n_A S C hms
  have po := S.e X c Ξ C _ _ ho
  have hf : methodCallForm args.length (backTo pos (starEach args X.env)) (backToKw pos (keywordEach [] X.env)) = true := by
   unfold methodCallForm
   rw [star_all ok]
   have : args.length + 0 < 30 := by omega
   show (true && true && decide (args.length + 0 < 30)) = true
   rw [decide_eq_true this]
   rfl
  by_cases hix : mt = "index"
  ·subst hix
   rw [if_pos rfl] at h
   cases args with
   | nil => cases h
   | cons e es =>
    cases h
    exact se_index C.mono po pa (base_of hb) hf hl (okE_star (env := X.env) (es := es) (ok e (by simp))) (star_any (pos := pos) (env := X.env) (es := es) fun z hz => ok z (by simp [hz]))
  rw [if_neg hix] at h
  cases args with
  | nil =>
   cases hms
   split at h
   ·cases h
   ·cases h
    exact se_methc0 C.mono C.pass (meths_ok C) po (meth_eval hb hl hf)
  | cons e es =>
   have hst := okE_star (env := X.env) (es := es) (ok e (by simp))
   have hpl := star_any (pos := pos) (env := X.env) (es := es) fun z hz => ok z (by simp [hz])
   split at h
   ·rename_i p hp
    cases h
    obtain ⟨T, id, pa', sl, ty, mt', hk⟩ := metTab_of (X := X) C.units hp
    exact se_meth C.mono pa' sl ty mt' hk po pa (base_of hb) hf hl hst hpl
   ·cases h
    exact se_methc C.mono C.pass (meths_ok C) po pa hst hpl (meth_eval hb hl hf)
 ·cases h
theorem n_I {tg : Expr} (h : compI r c tg e = some m) : PI X tg e (LI X.K Ξ (wpI P m)) := by
 unfold compI at h
 rcases orElse_some h with h | h
 ·obtain ⟨q, hq, h'⟩ := Option.bind_eq_some_iff.mp h
  rename_i h0
  clear h h0
  have h := h'
  clear h'
  obtain ⟨p, pos', rfl⟩ := asCallN_inv hq
  obtain ⟨y, as⟩ := q
  dsimp only at h ⊢
  split at h
  ·rename_i hy
   subst hy
   rcases as with _ | ⟨a, _ | ⟨_, _⟩⟩
   ·cases h
   ·dsimp only at h
    split at h
    ·rename_i hc
     simp only [Bool.and_eq_true] at hc
     obtain ⟨⟨⟨hg, hb⟩, ho⟩, ht⟩ := hc
     obtain ⟨ma, ha, rfl⟩ := Option.map_eq_some_iff.mp h
     obtain ⟨es, k, tp, rfl⟩ := asTup_inv ht
     exact si_enum C.mono (S.e X c Ξ C _ _ ha) (C.glOk hg) (C.blt _ hb) (okE_star ho)
    ·cases h
   ·cases h
  ·split at h
   ·rename_i hy
    subst hy
    rcases as with _ | ⟨a, _ | ⟨b, _ | ⟨_, _⟩⟩⟩
    ·cases h
    ·dsimp only at h
     split at h
     ·rename_i hc
      simp only [Bool.and_eq_true] at hc
      obtain ⟨⟨hg, hb⟩, ho⟩ := hc
      obtain ⟨ma, ha, rfl⟩ := Option.map_eq_some_iff.mp h
      exact si_rng1 C.mono (S.e X c Ξ C _ _ ha) (C.glOk hg) (C.blt _ hb) (okE_star ho)
     ·cases h
    ·dsimp only at h
     split at h
     ·rename_i hc
      simp only [Bool.and_eq_true] at hc
      obtain ⟨⟨⟨hg, hb⟩, ho⟩, ho2⟩ := hc
      obtain ⟨ma, ha, h⟩ := Option.bind_eq_some_iff.mp h
      obtain ⟨mb, hb', rfl⟩ := Option.map_eq_some_iff.mp h
      exact si_rng2 C.mono (S.e X c Ξ C _ _ ha) (S.e X c Ξ C _ _ hb') (C.glOk hg) (C.blt _ hb) (by rw [okE_star ho, okE_star ho2]; rfl) (okE_star ho2)
     ·cases h
    ·cases h
   ·cases h
 ·split at h
  ·obtain ⟨ma, ha, rfl⟩ := Option.map_eq_some_iff.mp h
   exact si_seq C.mono (S.e X c Ξ C _ _ ha)
  ·cases h
theorem n_parts {elt : Expr} {gens : List Comprehension} {sc : Scope} (h : xComp r c elt gens sc = some m) : ∃ tg it ifs t mi mc me cl, gens = [⟨tg, it, ifs, 0⟩] /\ m = .comp (c.caps sc) (frees sc ++ locals sc).length t mi mc me /\ okE it = true /\
  CompScope X sc (frees sc ++ locals sc) (c.caps sc) cl /\ PI X tg it (LI X.K Ξ (wpI P mi)) /\ (∀ pins A s H fp, PG (compCx X pins sc (frees sc ++ locals sc) cl A s H fp) tg (LG X.K t)) /\
   (∀ pins A s H fp, PTs (compCx X pins sc (frees sc ++ locals sc) cl A s H fp) ifs (LT X.K (XK0 Ξ.1) (wpT P mc))) /\ ∀ pins A s H fp, PE (compCx X pins sc (frees sc ++ locals sc) cl A s H fp) elt (LE X.K (XK0 Ξ.1) (wpE P me)) := by
 unfold xComp at h
 rcases gens with _ | ⟨⟨tg, it, ifs, isa⟩, _ | ⟨_, _⟩⟩
 ·cases h
 ·dsimp only at h
  split at h
  ·rename_i hs
   simp only [Bool.and_eq_true, decide_eq_true_eq] at hs
   obtain ⟨⟨hs, rfl⟩, hit⟩ := hs
   obtain ⟨t, h1, h⟩ := Option.bind_eq_some_iff.mp h
   obtain ⟨mi, h2, h⟩ := Option.bind_eq_some_iff.mp h
   obtain ⟨mc, h3, h⟩ := Option.bind_eq_some_iff.mp h
   obtain ⟨me, h4, rfl⟩ := Option.map_eq_some_iff.mp h
   obtain ⟨cl, Sc, I⟩ := C.comp hs
   exact ⟨tg, it, ifs, t, mi, mc, me, cl, rfl, rfl, hit, Sc, n_I S C h2, fun pins A s H fp => (I pins A s H fp).tgOk h1, fun pins A s H fp => n_Ts S (I pins A s H fp) h3, fun pins A s H fp => S.e _ _ _ (I pins A s H fp) elt me h4⟩
  ·cases h
 ·cases h
omit S in
theorem n_SU {f : Expr} {args : List Expr} {kws : List Keyword} (h : xSU c f args kws = some m) : PE X (.Call f args kws pos) (LE X.K Ξ (wpE P m)) := by
 unfold xSU at h
 cases h
theorem n_E : ∀ e m, stepE r c e = some m -> PE X e (LE X.K Ξ (wpE P m)) := by
 intro e m h
 cases e with
 | Name x p => exact n_Name C h
 | Constant k j p =>
  obtain ⟨d, hd, rfl⟩ := Option.map_eq_some_iff.mp (show (compK k).map ME.lit = some m from h)
  exact n_K hd
 | BinOp a op b p =>
  obtain ⟨ma, mb, ha, hb, rfl⟩ := c2_inv S C h
  exact se_op2 C.mono (pe_op (op_bin op) ha hb)
 | UnaryOp op a p => exact n_Un S C h
 | Compare a ops bs p => exact (n_Cmp S C h).1
 | BoolOp op vs p => exact n_B S C h
 | IfExp t a b p =>
  obtain ⟨mt, ht, h⟩ := Option.bind_eq_some_iff.mp h
  obtain ⟨ma, ha, h⟩ := Option.bind_eq_some_iff.mp h
  obtain ⟨mb, hb, rfl⟩ := Option.map_eq_some_iff.mp h
  exact se_ite C.mono (S.t X c Ξ C _ _ ht) (S.e X c Ξ C _ _ ha) (S.e X c Ξ C _ _ hb)
 | Tuple es k p =>
  obtain ⟨ma, ha, rfl⟩ := Option.map_eq_some_iff.mp h
  exact se_tup C.mono (n_A S C ha)
 | List es p =>
  obtain ⟨ma, ha, rfl⟩ := Option.map_eq_some_iff.mp h
  exact se_lst C.mono (n_A S C ha)
 | Subscript a b p => exact n_Sub S C h
 | Dict ks vs p =>
  have h2 : (if ks.isEmpty && vs.isEmpty then some (ME.prim .dnew .nil) else if decide (ks.length <= 15) then (compD r c ks vs).map .dct else none) = some m := h
  split at h2
  ·rename_i hc
   cases ks <;> cases vs <;> first | (cases hc; done) | skip
   cases h2
   exact se_dnew
  ·rename_i hc
   split at h2
   ·rename_i hl
    obtain ⟨ms, hm, rfl⟩ := Option.map_eq_some_iff.mp h2
    obtain ⟨trs, D⟩ := n_D S C hm
    refine se_dct C.mono D (fun z => hc ?_) (of_decide_eq_true hl)
    have := D.len.2
    subst z
    cases vs <;> first | rfl | cases this
   ·cases h2
 | JoinedStr vs p =>
  have h2 : (if decide (2 <= vs.length) && decide (vs.length <= 40) then (compF r c vs).map (ME.prim .fstr) else none) = some m := h
  split at h2
  ·rename_i hc
   simp only [Bool.and_eq_true, decide_eq_true_eq] at hc
   obtain ⟨ms, hm, rfl⟩ := Option.map_eq_some_iff.mp h2
   obtain ⟨ts, F⟩ := n_F S C hm
   rcases vs with _ | ⟨v1, _ | ⟨v2, vs⟩⟩
   ·simp at hc
   ·simp at hc
   ·exact se_fstr C.mono F hc.2
  ·cases h2
 | Attribute o f p =>
  have h2 : (if okBase o then c1 r c (.fld f) o else none) = some m := h
  split at h2
  ·rename_i hb
   obtain ⟨ma, ha, rfl⟩ := c1_inv S C h2
   exact se_fld C.mono ha (base_of hb)
  ·cases h2
 | Call f args kws pos =>
  have h1 : ((xSC r c f args kws).orElse fun _ => (xSU c f args kws).orElse fun _ => xCall r c f args kws pos) = some m := h
  rcases orElse_some h1 with h2 | h2
  ·unfold xSC at h2
   cases h2
  clear h h1
  rcases orElse_some h2 with h3 | h3
  ·exact n_SU C h3
  clear h2
  unfold xCall at h3
  split at h3
  ·rename_i hk
   cases kws <;> first | (cases hk; done) | skip
   cases f with
   | Name x p => exact n_CallN S C h3
   | Attribute o a p => exact n_CallA S C h3
   | _ => cases h3
  ·cases h3
 | ListComp elt gens sc p =>
  obtain ⟨tg, it, ifs, t, mi, mc, me, cl, rfl, rfl, hit, Sc, q1, q2, q3, q4⟩ := n_parts S C h
  exact (pe_comp Sc C.calm q1 q2 q3 q4 (okE_fold hit)).imp fun σ H Q h => comp_imp C.mono σ H Q h
 | _ => cases h
theorem n_T : ∀ e m, stepT r c e = some m -> PT X e (LT X.K Ξ (wpT P m)) := by
 intro e m h
 have plain : ∀ {e : Expr} {m : ME}, (if plainTest e then (r.e c e).map ME.tst else none) = some m -> PT X e (LT X.K Ξ (wpT P m)) := fun {e m} h => by
  split at h
  ·rename_i hp
   obtain ⟨ma, ha, rfl⟩ := Option.map_eq_some_iff.mp h
   exact st_tru C.mono (S.e X c Ξ C _ _ ha) (plain_tru hp)
  ·cases h
 cases e with
 | UnaryOp op a p =>
  have h2 : (if op = .Not then (r.t c a).map ME.not_ else none) = some m := h
  split at h2
  ·rename_i ho
   subst ho
   obtain ⟨ma, ha, rfl⟩ := Option.map_eq_some_iff.mp h2
   exact st_not C.mono (S.t X c Ξ C _ _ ha)
  ·cases h2
 | BoolOp op vs p => exact (n_W S C h).pt
 | Compare a ops bs p =>
  obtain ⟨ma, ha, rfl⟩ := Option.map_eq_some_iff.mp (show (xCmp r c a ops bs).map ME.tst = some m from h)
  exact (n_Cmp S C ha).2
 | _ => exact plain h
end
end M

namespace M
open PySem L2 PySem.Spec PyProof.Rows
section
variable {X : Cx} {c : CEnv} {P : Sig} {Ξ : XKE}
theorem compV_ok {e : Expr} {m : ME} (h : compV e = some m) : PE X e (LE X.K Ξ (wpE P m)) /\ okE e = true := by
 cases e <;> first | (cases h; done) | skip
 obtain ⟨d, hd, rfl⟩ := Option.map_eq_some_iff.mp (show (compK _).map ME.lit = some m from h)
 exact ⟨n_K hd, rfl⟩
theorem compVs_ok (hP : SigMono P) : ∀ {es : List Expr} {m : ME}, compVs es = some m -> PA X es (LA X.K Ξ (wpA P m)) := by
 intro es
 induction es with
 | nil => intro m h; cases h; exact sa_nil hP
 | cons e es ih =>
  intro m h
  unfold compVs at h
  obtain ⟨m1, h1, h⟩ := Option.bind_eq_some_iff.mp h
  obtain ⟨m2, h2, rfl⟩ := Option.map_eq_some_iff.mp h
  exact sa_cons hP (compV_ok h1).1 (ih h2) (okE_star (compV_ok (X := X) (Ξ := Ξ) (P := P) h1).2)
theorem compR_ok (hP : SigMono P) {e : Expr} {m : ME} (h : compR e = some m) : PE X e (LE X.K Ξ (wpE P m)) := by
 cases e <;> first | (cases h; done) | skip
 ·obtain ⟨d, hd, rfl⟩ := Option.map_eq_some_iff.mp (show (compK _).map ME.lit = some m from h)
  exact n_K hd
 ·obtain ⟨ms, hm, rfl⟩ := Option.map_eq_some_iff.mp h
  exact se_lst hP (compVs_ok hP hm)
theorem asHand_inv {h : ExceptHandler} {q : Str × Expr} (hq : asHand h = some q) : ∃ p p1 p2, h = .ExceptHandler (some (.Name q.1 p)) none [.Return (some q.2) p1] p2 := by
 unfold asHand at hq
 split at hq
 ·cases hq; exact ⟨_, _, _, rfl⟩
 ·cases hq
theorem compH_ok (C : COk X c P Ξ) : ∀ {hs : List ExceptHandler} {ms : List (Str × ME)}, compH c hs = some ms -> HsOk X Ξ P hs ms := by
 intro hs
 induction hs with
 | nil => intro ms h; cases h; exact .nil
 | cons hd hs ih =>
  intro ms h
  unfold compH at h
  obtain ⟨q, hq, h'⟩ := Option.bind_eq_some_iff.mp h
  clear h
  have h := h'
  clear h'
  obtain ⟨p, p1, p2, rfl⟩ := asHand_inv hq
  obtain ⟨y, e⟩ := q
  dsimp only at h ⊢
  split at h
  ·rename_i hc
   simp only [Bool.and_eq_true] at hc
   obtain ⟨m, h1, h⟩ := Option.bind_eq_some_iff.mp h
   obtain ⟨ms', h2, rfl⟩ := Option.map_eq_some_iff.mp h
   obtain ⟨C', hm, hi, _⟩ := C.exc y hc.1.1
   refine .cons (C.glOk hc.1.2) (noDb_of hc.2).1 hm (fun x C1 hx h1 => C.exm x y C1 C' ?_ hc.1.1 h1 hi) (fun ea => compR_ok (X := markCx X ea) C.mono h1) (ih h2)
   rw [C.exq] at hx
   simpa using hx
  ·cases h
theorem asRaise_inv {e f : Option Expr} {q : Str × Expr × List Expr} (h : asRaise e f = some q) : f = none /\ ∃ p p', e = some (.Call (.Name q.1 p) (q.2.1 :: q.2.2) [] p') := by
 unfold asRaise at h
 split at h
 ·cases h; exact ⟨rfl, _, _, rfl⟩
 ·cases h
theorem flds_ok (C : COk X c P Ξ) {f : Str} : FldsOk X.K f (c.flds f) := fun y C' h hC => by
 unfold CEnv.flds at h
 obtain ⟨⟨f', y'⟩, h1, h2⟩ := List.mem_map.mp h
 obtain ⟨h3, h4⟩ := List.mem_filter.mp h1
 cases h2
 have : f' = f := by simpa using h4
 subst this
 exact C.fls f' y' C' h3 hC
variable {r : CF} (S : Snd P r) (C : COk X c P Ξ) {pos : Pos}
include S C
theorem n_Asg {tg e : Expr} {m : MS} (hS : ∀ e m, r.e c e = some m -> noComp e = false -> ∃ elt gens sc p, e = .ListComp elt gens sc p /\ ∃ r', Snd P r' /\ xComp r' c elt gens sc = some m) (hT : ∀ a b k p m, r.e c (.Tuple [a, b] k p) = some m -> ∃ r' ms, Snd P r' /\ compA r' c [a, b] = some ms /\ m = .prim .tup ms) (h : sAsg r c tg e = some m) : PS X (.Assign [tg] e pos) (LS X.K Ξ (wpS P m)) := by
 cases tg with
 | Name x px =>
  have h2 : (if c.locOk x then (c.idx x).bind fun i => (r.e c e).map fun m => MS.set i m else none) = some m := h
  split at h2
  ·rename_i hl
   obtain ⟨i, hi, h2⟩ := Option.bind_eq_some_iff.mp h2
   obtain ⟨me, he, rfl⟩ := Option.map_eq_some_iff.mp h2
   cases hn : noComp e with
   | true => exact sx_set C.mono (ps_set C.ndN (C.idxN hi) (C.locOk hl).1 (S.e X c Ξ C _ _ he) (noComp_sw hn) (C.locOk hl).2)
   | false =>
    obtain ⟨elt, gens, sc, p, rfl, r', S', hx⟩ := hS e me he hn
    obtain ⟨tg, it, ifs, t, mi, mc, me, cl, rfl, rfl, hit, Sc, q1, q2, q3, q4⟩ := n_parts S' C hx
    refine sx_set C.mono ?_
    exact (ps_set_comp Sc C.calm q1 q2 q3 q4 (okE_fold hit) C.ndN (C.idxN hi) (C.locOk hl).1 (C.locOk hl).2).imp fun N σ H h => comp_imp C.mono σ H _ h
  ·cases h2
 | Tuple es k pt =>
  have h2 : (if (noTup e && noComp e) || c.parOk es e then (c.slots es).bind fun is => (r.e c e).map fun m => MS.unp (.many is) m else none) = some m := h
  split at h2
  ·rename_i hn
   rw [Bool.or_eq_true, Bool.and_eq_true] at hn
   obtain ⟨is, hs, h2⟩ := Option.bind_eq_some_iff.mp h2
   obtain ⟨me, he, rfl⟩ := Option.map_eq_some_iff.mp h2
   rcases hn with hn | hn
   ·exact sx_unp C.mono (ps_asg (S.e X c Ξ C _ _ he) (sg_many C.calm C.ndN (C.slots hs)) (noComp_sole hn.2) (noTup_sw hn.1))
   ·unfold CEnv.parOk at hn
    split at hn
    ·rename_i x px y py a b k2 pt2 _
     simp only [Bool.and_eq_true, decide_eq_true_eq, Bool.not_eq_true'] at hn
     obtain ⟨⟨⟨⟨⟨⟨⟨l1, l2⟩, hne⟩, hl⟩, oa⟩, ob⟩, f1⟩, f2⟩ := hn
     obtain ⟨r', ms, S', hms, rfl⟩ := hT _ _ _ _ _ he
     have so := C.slots hs
     cases so with
     | cons hi _ _ so =>
     cases so with
     | cons hj _ _ so =>
     cases so
     exact sx_par C.mono C.calm C.ndN hi hj hne hl (C.loc x l1) (C.loc y l2) oa ob f1 f2 (n_A S' C hms)
    ·cases hn
  ·cases h2
 | Subscript o i pt =>
  have h2 : (if okE i && noComp e then (r.e c o).bind fun mo => (r.e c i).bind fun mi => (r.e c e).map fun m => MS.setix mo mi m else none) = some m := h
  split at h2
  ·rename_i hn
   rw [Bool.and_eq_true] at hn
   obtain ⟨mo, ho, h2⟩ := Option.bind_eq_some_iff.mp h2
   obtain ⟨mi, hi, h2⟩ := Option.bind_eq_some_iff.mp h2
   obtain ⟨me, he, rfl⟩ := Option.map_eq_some_iff.mp h2
   exact sx_setix C.mono C.units (S.e X c Ξ C _ _ he) (S.e X c Ξ C _ _ ho) (S.e X c Ξ C _ _ hi) (noComp_sole hn.2) (okE_set hn.1)
  ·cases h2
 | Attribute o f pt =>
  have h2 : (if noComp e then (r.e c o).bind fun mo => (r.e c e).map fun m => MS.setf f (c.flds f) mo m else none) = some m := h
  split at h2
  ·rename_i hn
   obtain ⟨mo, ho, h2⟩ := Option.bind_eq_some_iff.mp h2
   obtain ⟨me, he, rfl⟩ := Option.map_eq_some_iff.mp h2
   exact sx_setf C.mono (flds_ok C) (S.e X c Ξ C _ _ ho) (S.e X c Ξ C _ _ he) (noComp_sw hn)
  ·cases h2
 | _ => cases h
theorem n_S (hS : ∀ e m, r.e c e = some m -> noComp e = false -> ∃ elt gens sc p, e = .ListComp elt gens sc p /\ ∃ r', Snd P r' /\ xComp r' c elt gens sc = some m) (hT : ∀ a b k p m, r.e c (.Tuple [a, b] k p) = some m -> ∃ r' ms, Snd P r' /\ compA r' c [a, b] = some ms /\ m = .prim .tup ms) :
  ∀ st m, stepS r c st = some m -> PS X st (LS X.K Ξ (wpS P m)) := by
 intro st m h
 have hP := C.mono
 cases st with
 | AugAssign tg op e p =>
  cases tg with
  | Attribute o f tp =>
   have h2 : (if decide (op = Operator.Add) then (r.e c o).bind fun mo => (r.e c e).map fun m => MS.augf f (c.flds f) mo m else none) = some m := h
   split at h2
   ·rename_i ho
    obtain rfl := of_decide_eq_true ho
    obtain ⟨mo, ho, h2⟩ := Option.bind_eq_some_iff.mp h2
    obtain ⟨me, he, rfl⟩ := Option.map_eq_some_iff.mp h2
    exact sx_augf C.mono (flds_ok C) (S.e X c Ξ C _ _ ho) (S.e X c Ξ C _ _ he)
   ·cases h2
  | _ => cases h
 | Expr e p =>
  have h2 : (if noComp e then (r.e c e).map MS.expr else none) = some m := h
  split at h2
  ·rename_i hn
   obtain ⟨me, he, rfl⟩ := Option.map_eq_some_iff.mp h2
   exact sx_expr hP (S.e X c Ξ C _ _ he) (noComp_sw hn)
  ·cases h2
 | Assign tgs e p =>
  rcases tgs with _ | ⟨tg, _ | ⟨_, _⟩⟩
  ·cases h
  ·exact n_Asg S C hS hT h
  ·cases h
 | If t a b p =>
  obtain ⟨mt, ht, h⟩ := Option.bind_eq_some_iff.mp h
  obtain ⟨ma, ha, h⟩ := Option.bind_eq_some_iff.mp h
  obtain ⟨mb, hb, rfl⟩ := Option.map_eq_some_iff.mp h
  exact sx_if hP (S.t X c Ξ C _ _ ht) (n_Ss S C ha) (n_Ss S C hb)
 | For tg it body els p =>
  have h2 : (if els.isEmpty && okE it then (c.tg tg).bind fun t => (compI r c tg it).bind fun mi => (compSs r c body).map fun mb => MS.for_ t mi mb else none) = some m := h
  split at h2
  ·rename_i hc
   rw [Bool.and_eq_true] at hc
   cases els <;> first | (cases hc.1; done) | skip
   obtain ⟨t, h1, h2⟩ := Option.bind_eq_some_iff.mp h2
   obtain ⟨mi, h3, h2⟩ := Option.bind_eq_some_iff.mp h2
   obtain ⟨mb, h4, rfl⟩ := Option.map_eq_some_iff.mp h2
   exact sx_for hP C.own C.calm (n_I S C h3) (C.tgOk h1) (n_Ss S C h4) (okE_fold hc.2)
  ·cases h2
 | While t body els p =>
  have h2 : (if els.isEmpty then (r.t c t).bind fun mt => (compSs r c body).map fun mb => MS.whil mt mb else none) = some m := h
  split at h2
  ·rename_i hc
   cases els <;> first | (cases hc; done) | skip
   obtain ⟨mt, h1, h2⟩ := Option.bind_eq_some_iff.mp h2
   obtain ⟨mb, h4, rfl⟩ := Option.map_eq_some_iff.mp h2
   exact sx_while hP C.own (S.t X c Ξ C _ _ h1) (n_Ss S C h4)
  ·cases h2
 | Return e p =>
  cases e with
  | none => cases h; exact (ps_retN (X := X)).imp fun N σv H ⟨σ, g, ρ, s, R, h⟩ => LQ.now h R .non
  | some e =>
   obtain ⟨me, he, rfl⟩ := Option.map_eq_some_iff.mp (show (r.e c e).map MS.ret = some m from h)
   exact sx_ret hP (S.e X c Ξ C _ _ he)
 | Raise e f p =>
  obtain ⟨q, hq, h2⟩ := Option.bind_eq_some_iff.mp h
  clear h
  obtain ⟨rfl, px, p2, rfl⟩ := asRaise_inv hq
  obtain ⟨x, e, es⟩ := q
  dsimp only at h2 ⊢
  split at h2
  ·rename_i hc
   simp only [Bool.and_eq_true] at hc
   obtain ⟨ma, ha, rfl⟩ := Option.map_eq_some_iff.mp h2
   have ok := compA_ok ha
   obtain ⟨C', hm, hi, B, nI, iI, bm, O, FB⟩ := C.exc x hc.1.1.2
   exact sx_raise hP C.calm O FB (C.glOk hc.1.2) (n_A S C ha) (C.rais hc.1.1.1) (by rw [C.exq]; simpa using hc.1.1.2) hi (okE_star (ok e (by simp))) (star_any fun z hz => ok z (by simp [hz])) (noDb_of hc.2).1
  ·cases h2
 | Try body hs el fi p =>
  have h2 : (if c.tryb && !hs.isEmpty && el.isEmpty && fi.isEmpty then (compSs r { c with rais := false, tryb := false } body).bind fun mb => (compH c hs).map fun ms => MS.try_ mb ms else none) = some m := h
  split at h2
  ·rename_i hc
   simp only [Bool.and_eq_true] at hc
   obtain ⟨⟨⟨ht, hh⟩, he⟩, hf⟩ := hc
   cases el <;> first | (cases he; done) | skip
   cases fi <;> first | (cases hf; done) | skip
   cases hs <;> first | (cases hh; done) | skip
   obtain ⟨mb, h1, h2⟩ := Option.bind_eq_some_iff.mp h2
   obtain ⟨ms, h3, rfl⟩ := Option.map_eq_some_iff.mp h2
   obtain ⟨hst, hf⟩ := C.tryb ht
   exact sx_try hP hst hf (fun pins D => n_Ss S (C.try_ hst hf pins D _) h1) (compH_ok C h3)
  ·cases h2
 | Pass p => cases h; exact (ps_pass (X := X)).imp fun N σv H ⟨σ, g, ρ, s, R, h⟩ => h ρ H σv (.refl _ _) R s
 | _ => cases h
end
theorem comp_noComp {n : Nat} {c : CEnv} {e : Expr} {m : ME} (h : (comp (n + 1)).e c e = some m) (hn : noComp e = false) : ∃ elt gens sc p, e = .ListComp elt gens sc p /\ xComp (comp n) c elt gens sc = some m := by
 cases e <;> first | (cases hn; done) | (cases h; done) | exact ⟨_, _, _, _, rfl, h⟩
theorem snd {P : Sig} : ∀ n, (∀ k, k <= n -> Snd P (comp k)) := by
 intro n
 induction n with
 | zero =>
  intro k hk
  obtain rfl := Nat.le_zero.mp hk
  exact ⟨fun _ _ _ _ _ _ h => (by cases h), fun _ _ _ _ _ _ h => (by cases h), fun _ _ _ _ _ _ h => (by cases h)⟩
 | succ n ih =>
  intro k hk
  rcases Nat.lt_or_ge k (n + 1) with hlt | hge
  ·exact ih k (by omega)
  obtain rfl : k = n + 1 := by omega
  have I := ih n (Nat.le_refl n)
  refine ⟨fun X c Ξ C e m h => n_E I C e m h, fun X c Ξ C e m h => n_T I C e m h, fun X c Ξ C st m h => n_S I C (fun e m he hn => ?_) (fun a b k p m he => ?_) st m h⟩
  ·cases n with
   | zero => cases he
   | succ n =>
    obtain ⟨elt, gens, sc, p, rfl, hx⟩ := comp_noComp he hn
    exact ⟨_, _, _, _, rfl, comp n, ih n (by omega), hx⟩
  ·cases n with
   | zero => cases he
   | succ n =>
    obtain ⟨ms, hm, rfl⟩ := Option.map_eq_some_iff.mp (show (compA (comp n) c [a, b]).map (ME.prim .tup) = some m from he)
    exact ⟨comp n, ms, ih n (by omega), hm, rfl⟩
end M

namespace M
open PySem L2 PySem.Spec PyProof.Rows
structure DefI where
 nm : Str
 qn : Str
 N : List Str
 ps : List Str
 st : Stmt
noncomputable def CEnv.at (c : CEnv) (d : DefI) : CEnv := { c with N := d.N, nm := (defScope d.st).names, fnb := true, rais := true, tryb := true }
structure DefOk (K : PySem.W.Frag) (c : CEnv) (d : DefI) (m : MDef) (f : Addr) (fd : FuncData) : Prop where
 fn : Fun K d.nm d.qn d.st f fd
 bi : Binds K fd d.ps []
 sc : FnScope d.N d.ps (defScope d.st)
 co : compSs (comp 60) (c.at d) (defBody d.st) = some m.body
 ar : m.ar = d.ps.length
 nn : m.n = d.N.length
structure TabOk (w : World) (K : PySem.W.Frag) (mg : Str -> Option Value) (c : CEnv) (T : Nat -> Option MDef) : Prop where
 fns : ∀ x i, c.fns.lookup x = some i -> ∃ d m f fd, T i = some m /\ DefOk K c d m f fd /\ mg x = some (.ref f)
 cls : ∀ x i, c.cls.lookup x = some i -> ∃ C d m f fd, T i = some m /\ DefOk K c d m f fd /\ mg x = some (.ref C) /\ IsCls K x C /\ Cls K C /\ Mk K C f
 mts : ∀ x y i C, (x, y, i) ∈ c.mts -> IsCls K y C -> ∃ d m f fd, T i = some m /\ DefOk K c d m f fd /\ Meth K C x f
 fls : ∀ f y C, (f, y) ∈ c.fls -> IsCls K y C -> NoAttr K C f
 con : ∀ x d, c.con.lookup x = some d -> ∃ v u, mg x = some u /\ RelV v u /\ ∀ ρ H, DRel K ρ H d v
 blt : ∀ x, c.blt.contains x = true -> mg x = none
 excs : ∀ x, c.exc.contains x = true -> ∃ C, mg x = some (.ref C) /\ IsCls K x C /\ ∀ base : Heap, K.In base -> base.Ns mainGlobals mg -> ∃ B newId initId bm, OwnCls x C bm newId mg base /\ ExcBaseFacts B newId initId bm
 exms : ∀ x y C C', c.exc.contains x = true -> c.exc.contains y = true -> IsCls K x C -> IsCls K y C' -> PySem.W.exmOne K (.ref C) (.ref C') = some (decide (x = y))
 gdcs : ∀ x kvs, c.gd.lookup x = some kvs -> ∃ A vs, mg x = some (.ref A) /\ KDict K w.params A vs /\ GRel K kvs vs
section
variable {Pg : Program} {w : World} {K : PySem.W.Frag} {mg : Str -> Option Value} {base : Heap} {c : CEnv} {T : Nat -> Option MDef}
theorem pass_fn {N : List Str} {qual : Str} {scope : Scope} {f : Addr} {cd : Value} {A : Around} {outer : List Env} {s : Shared} {H : Hp} {E : XK} : Passes (CXE Pg w) (cxOf (CXE Pg w) Pg w K mg base N qual scope f cd A outer s H E) E := fun pins σ H1 s1 e s' I h => by
 obtain ⟨C, H', J, fl, hE⟩ := I.flew h
 exact leave_flying J fl (fun b o q => I.base.there b o q (by intro z; cases z)) rfl rfl rfl hE
theorem raise_fn {N : List Str} {qual : Str} {scope : Scope} {f : Addr} {cd : Value} {A : Around} {outer : List Env} {s : Shared} {H : Hp} {E : XK} : RaiseOk (cxOf (CXE Pg w) Pg w K mg base N qual scope f cd A outer s H E) E := fun pins σ H1 s1 h' ea C vs I hm hE =>
 leave_made I hm rfl rfl rfl hE
theorem call_ar {k i : Nat} {m : MDef} (hT : T i = some m) {ds : List D} {g : G} {Q : KD} {E : KX} (h : callW T k i ds g Q E) : ds.length = m.ar := by
 cases k with
 | zero => exact h.elim
 | succ k =>
  obtain ⟨m', e, h, _⟩ := h
  rw [hT] at e
  cases e
  exact h
theorem all_fn (kin : K.In base) (gns : base.Ns mainGlobals mg) (A : TabOk w K mg c T) : ∀ (k i : Nat) d m f fd, T i = some m -> DefOk K c d m f fd -> FnOk Pg w K mg base (CXE Pg w) (2 * k) f fd d.ps (spD c.exc K d.ps.length (callW T k i)) := by
 intro k
 induction k with
 | zero =>
  intro i d m f fd hm O
  refine ⟨fun vs H Q E h => h.1, fun A outer s H args us vs Q E _ _ _ _ h => ?_⟩
  obtain ⟨_, _, _, _, _, _, q⟩ := h
  exact q.elim
 | succ k ih =>
  intro i d m f fd hm O
  obtain ⟨oc, od, kV, doc, pm, an, cdv, ct, osl, rfl, lk, hcd⟩ := O.fn.ex
  refine fn_of (k := 2 * k + 1) lk hcd O.sc (fun vs H Q E h => h.1) (fun A0 outer s H vs Q E hr h => ?_)
  obtain ⟨hl, xs, g, ρ, rs, R, q⟩ := h
  have C : COk (cxOf (CXE Pg w) Pg w K mg base d.N d.qn (defScope d.st) f cdv A0 outer s H E) (c.at d) (callW T k) (c.exc, E) := by
   refine ⟨rfl, O.sc.nd, fun x h => h, fun x h => h, fun x h => .inr h, fun x h => h, fun x h => ?_, fun _ _ => rfl, rfl, ?_, PassesOwn.leaving, callW_mono T k, A.con, A.blt, fun x j hj => ?_, fun x j hj => ?_, fun x y j C' hj hC => ?_, A.fls, rfl, pass_fn, fun _ => raise_fn, fun _ => ⟨rfl, rfl⟩, fun x hx => ?_, A.exms, A.gdcs⟩
   ·rcases h with h | h
    ·exact cell_has h
    ·exact absurd rfl (O.sc.nofree _ (PySem.mem_of_lookup h))
   ·have := hr.un
    show (A0.deeper _).units + 100 < cLine
    omega
   ·obtain ⟨d', m', f', fd', hT, O', hmg⟩ := A.fns x j hj
    exact ⟨2 * k, f', fd', d'.ps, ⟨ih j d' m' f' fd' hT O', O'.bi, fun ds' g' Q' E' h' => (call_ar hT h').trans O'.ar⟩, hr.mono (by omega), hmg, O'.fn.kp⟩
   ·obtain ⟨C', d', m', f', fd', hT, O', hmg, hC, hcl, M⟩ := A.cls x j hj
    exact ⟨2 * k, C', f', fd', d'.ps, ⟨ih j d' m' f' fd' hT O', O'.bi, fun ds' g' Q' E' h' => (call_ar hT h').trans O'.ar⟩, hr, hmg, hC, hcl, M⟩
   ·obtain ⟨d', m', f', fd', hT, O', M⟩ := A.mts x y j C' hj hC
    exact ⟨2 * k, f', fd', d'.ps, M, ⟨ih j d' m' f' fd' hT O', O'.bi, fun ds' g' Q' E' h' => (call_ar hT h').trans O'.ar⟩, hr.mono (by omega)⟩
   ·obtain ⟨C, h1, h2, h3⟩ := A.excs x hx
    exact ⟨C, h1, h2, h3 base kin gns⟩
  refine ⟨_, n_Ss (snd (P := callW T k) 60 60 (Nat.le_refl _)) C O.co, ?_⟩
  obtain ⟨m', e, q1, q⟩ := q
  rw [hm] at e
  cases e
  refine ⟨startD m xs, g, ρ, ?_, R, wpS_mono (callW_mono T k) m.body ⟨fun _ g' => LQ K ρ H Q .non g', LQ K ρ H Q, fun _ _ => False, fun _ _ => False⟩ _ _ _ _ _ ⟨fun σ g' h ρ' H' σv' e R' s' => h ρ' H' _ e R' .non, fun d g' h => h, fun _ _ h => h.elim, fun _ _ h => h.elim⟩ (fun _ _ z => z) q⟩
  have := SRel.start (n := d.N.length) rs
  unfold startD L2.start
  rw [O.nn]
  exact this
theorem law_sp {L k0 : Nat} {H : Hp} {a : Addr} {ns : List Int} (hO : Only H) (hS : SqL K H a (ns.map V.int)) (h : callW T k0 L [.ref 0] [.fro (ns.map .int)] (fun d _ => d = .bl true) NoX) :
  spD exc K 1 (callW T k0 L) [.ref a] H (fun v _ => v = .bl true) fun _ _ _ => False := by
 refine ⟨rfl, [.ref 0], [.fro (ns.map .int)], [a], .cons (.ref rfl) .nil, ⟨rfl, fun i o b h1 h2 => ?_, fun i j l m b h1 h2 m1 => ?_⟩, callW_mono T k0 _ _ _ _ _ _ _ (fun d g' e ρ' H' v _ _ r => ?_) (fun _ _ z => z.elim) h⟩
 ·cases i with
  | zero =>
   cases h1; cases h2
   refine ⟨_, ?_, DRels.ofInts ns⟩
   rcases hS with (z | ⟨o, z⟩) | z
   ·rcases hO a with q | ⟨o, xs, q⟩
    ·rw [z] at q; cases q
    ·rw [z] at q; cases q
   ·exact .inl ⟨o, z⟩
   ·exact .inr z
  | succ i => simp at h1
 ·cases i with
  | zero => cases h1; cases m1
  | succ i => simp at h1
 ·subst e
  cases r
  rfl
end
end M

namespace M
open PySem L2
section
variable {P : Sig} {σ : S} {g : G} {Q : KD} {E : KX} {N : Ends} {a b c o : ME} {x y : MS} {p : Pr}
theorem w_pass (h : N.nx σ g) : wpS P .pass N σ g E := h
theorem w_seq (h : wpS P x ⟨fun σ1 g1 => wpS P y N σ1 g1 E, N.rt, N.bk, N.ct⟩ σ g E) : wpS P (.seq x y) N σ g E := h
theorem w_seqp (h : wpS P x N σ g E) : wpS P (.seq x .pass) N σ g E := h
theorem w_expr (h : wpE P a σ g (fun _ g1 => N.nx σ g1) E) : wpS P (.expr a) N σ g E := h
theorem w_set {i : Nat} (h : wpE P a σ g (fun x g1 => N.nx (σ.set i (some x)) g1) E) : wpS P (.set i a) N σ g E := h
theorem w_unp {t : MT} (h : wpE P a σ g (fun x g1 => tgP t x σ fun σ1 => N.nx σ1 g1) E) : wpS P (.unp t a) N σ g E := h
theorem w_setix {o i : ME} (h : wpE P a σ g (fun x g1 => wpE P o σ g1 (fun y g2 => wpE P i σ g2 (fun z g3 => setP y z x g3 fun g4 => N.nx σ g4) E) E) E) : wpS P (.setix o i a) N σ g E := h
theorem w_setf {f : Str} {cs : List Str} (h : wpE P a σ g (fun x g1 => wpE P o σ g1 (fun y g2 => setfP f cs y x g2 fun g3 => N.nx σ g3) E) E) : wpS P (.setf f cs o a) N σ g E := h
theorem w_augf {f : Str} {cs : List Str} (h : wpE P o σ g (fun y g1 => ∃ a' c fs x, y = .ref a' /\ g1[a']? = some (.ins c fs) /\ c ∈ cs /\ fs.lookup f = some x /\ wpE P a σ g1 (fun z g3 => prP .iadd [x, z] g3 fun w g4 => ∃ fs', g4[a']? = some (.ins c fs') /\ fs'.length < 100 /\ N.nx σ (g4.set a' (.ins c (putFD f w fs')))) E) E) : wpS P (.augf f cs o a) N σ g E := h
theorem w_ifs (h : wpT P c σ g (fun t g1 => if t = true then wpS P x N σ g1 E else wpS P y N σ g1 E) E) : wpS P (.ifs c x y) N σ g E := h
theorem w_ret (h : wpE P a σ g N.rt E) : wpS P (.ret a) N σ g E := h
theorem w_retn (h : N.rt .non g) : wpS P .retn N σ g E := h
theorem w_raise {x : Str} (h : wpA P a σ g (fun vs g1 => vs.length <= 1000 /\ E ⟨x⟩ g1) E) : wpS P (.raise x a) N σ g E := h
theorem w_try {hs : List (Str × ME)} (h : wpS P x N σ g (wpH P N (σ.map fun _ => none) hs)) : wpS P (.try_ x hs) N σ g E := h
theorem h_hit {x : Xn} {y : Str} {e : ME} {r : List (Str × ME)} (hx : x.cls = y) (h : wpE P e σ g N.rt NoX) : wpH P N σ ((y, e) :: r) x g := by unfold wpH; rw [if_pos hx]; exact h
theorem h_miss {x : Xn} {y : Str} {e : ME} {r : List (Str × ME)} (hx : x.cls ≠ y) (h : wpH P N σ r x g) : wpH P N σ ((y, e) :: r) x g := by unfold wpH; rw [if_neg hx]; exact h
theorem w_var {i : Nat} {d : D} (e : σ[i]? = some (some d)) (h : Q d g) : wpE P (.var i) σ g Q E := by rw [wpE]; exact ⟨d, e, h⟩
theorem w_lit {d : D} (h : Q d g) : wpE P (.lit d) σ g Q E := by rw [wpE]; exact h
theorem w_prim (h : wpA P a σ g (fun xs g1 => prP p xs g1 Q) E) : wpE P (.prim p a) σ g Q E := by rw [wpE]; exact h
theorem w_p0 (h : prP p [] g Q) : wpE P (.prim p .nil) σ g Q E := by rw [wpE, wpA]; exact h
theorem w_p1 (h : wpE P a σ g (fun x g1 => prP p [x] g1 Q) E) : wpE P (.prim p (.cons a .nil)) σ g Q E := by simp only [wpE, wpA]; exact h
theorem w_p2 (h : wpE P a σ g (fun x g1 => wpE P b σ g1 (fun y g2 => prP p [x, y] g2 Q) E) E) : wpE P (.prim p (.cons a (.cons b .nil))) σ g Q E := by simp only [wpE, wpA]; exact h
theorem w_chain {o1 o2 : CmpOp} (h : wpE P a σ g (fun x g1 => wpE P b σ g1 (fun y g2 => prP (.cmp o1) [x, y] g2 fun z g3 => ∃ t, z = .bl t /\ if t = true then wpE P c σ g3 (fun w g4 => prP (.cmp o2) [y, w] g4 Q) E else Q (.bl false) g3) E) E) : wpE P (.chain o1 o2 a b c) σ g Q E := by rw [wpE]; exact h
theorem w_and (h : wpE P a σ g (fun x g1 => ∃ t, x = .bl t /\ if t = true then wpE P b σ g1 Q E else Q (.bl false) g1) E) : wpE P (.and_ a b) σ g Q E := by rw [wpE]; exact h
theorem w_or (h : wpE P a σ g (fun x g1 => ∃ t, x = .bl t /\ if t = true then Q (.bl true) g1 else wpE P b σ g1 Q E) E) : wpE P (.or_ a b) σ g Q E := by rw [wpE]; exact h
theorem w_not (h : wpE P a σ g (fun x g1 => ∃ t, x = .bl t /\ Q (.bl (!t)) g1) E) : wpE P (.not_ a) σ g Q E := by rw [wpE]; exact h
theorem w_ite (h : wpT P c σ g (fun t g1 => if t = true then wpE P a σ g1 Q E else wpE P b σ g1 Q E) E) : wpE P (.ite c a b) σ g Q E := by rw [wpE]; exact h
theorem w_call {f : Nat} (h : wpA P a σ g (fun xs g1 => P f xs g1 Q E) E) : wpE P (.call f a) σ g Q E := by rw [wpE]; exact h
theorem w_make {f : Nat} {c : Str} (h : wpA P a σ g (fun xs g1 => P f (.ref g1.length :: xs) (g1 ++ [.ins c []]) (fun d g2 => d = .non /\ Q (.ref g1.length) g2) E) E) : wpE P (.make c f a) σ g Q E := by rw [wpE]; exact h
theorem w_methc {m : Str} {cs : List (Str × Nat)} (h : wpE P o σ g (fun x g1 => ∃ a' c fs f, x = .ref a' /\ g1[a']? = some (.ins c fs) /\ fs.lookup m = none /\ cs.lookup c = some f /\ wpA P a σ g1 (fun xs g2 => P f (x :: xs) g2 Q E) E) E) : wpE P (.methc m cs o a) σ g Q E := by rw [wpE]; exact h
theorem w_meth (h : wpE P o σ g (fun x g1 => mkP p x g1 /\ wpA P a σ g1 (fun xs g2 => prP p (x :: xs) g2 Q) E) E) : wpE P (.meth p o a) σ g Q E := by rw [wpE]; exact h
theorem w_dct (h : wpA P a σ (g ++ [.dic []]) (fun xs g1 => ∃ kvs, dctD xs [] = some kvs /\ xs.length <= 30 /\ g1[g.length]? = some (.dic []) /\ Q (.ref g.length) (g1.set g.length (.dic kvs))) E) : wpE P (.dct a) σ g Q E := by rw [wpE]; exact h
theorem w_nil {Q : List D -> G -> Prop} (h : Q [] g) : wpA P .nil σ g Q E := by rw [wpA]; exact h
theorem w_cons {Q : List D -> G -> Prop} (h : wpE P a σ g (fun x g1 => wpA P b σ g1 (fun xs g2 => Q (x :: xs) g2) E) E) : wpA P (.cons a b) σ g Q E := by rw [wpA]; exact h
theorem w_tand {Q : Bool -> G -> Prop} (h : wpT P a σ g (fun t g1 => if t = true then wpT P b σ g1 Q E else Q false g1) E) : wpT P (.and_ a b) σ g Q E := by rw [wpT]; exact h
theorem w_tor {Q : Bool -> G -> Prop} (h : wpT P a σ g (fun t g1 => if t = true then Q true g1 else wpT P b σ g1 Q E) E) : wpT P (.or_ a b) σ g Q E := by rw [wpT]; exact h
theorem w_tnot {Q : Bool -> G -> Prop} (h : wpT P a σ g (fun t g1 => Q (!t) g1) E) : wpT P (.not_ a) σ g Q E := by rw [wpT]; exact h
theorem w_tno {Q : Bool -> G -> Prop} (h : Q true g) : wpT P .no σ g Q E := by rw [wpT]; exact h
theorem w_tst {Q : Bool -> G -> Prop} (h : wpE P a σ g (fun x g1 => truP g1 x fun b => Q b g1) E) : wpT P (.tst a) σ g Q E := by rw [wpT]; exact h
end
section
variable {g : G} {Q : KD} {i j : Int} {kb : Bool -> Prop} {t s : Bool} {l m : List D}
theorem a_add (h : Q (.int (i + j)) g) : prP (.bin .Add) [.int i, .int j] g Q := ⟨_, _, .inl ⟨i, j, _, rfl, rfl, rfl, rfl⟩, h⟩
theorem a_sub (h : Q (.int (i - j)) g) : prP (.bin .Sub) [.int i, .int j] g Q := ⟨_, _, .inl ⟨i, j, _, rfl, rfl, rfl, rfl⟩, h⟩
theorem a_mul (c : CMul i j) (h : Q (.int (i * j)) g) : prP (.bin .Mult) [.int i, .int j] g Q := ⟨_, _, .inl ⟨i, j, _, rfl, ⟨c, rfl⟩, rfl, rfl⟩, h⟩
theorem a_mod (c : 0 < j) (h : Q (.int (i % j)) g) : prP (.bin .Mod) [.int i, .int j] g Q := ⟨_, _, .inl ⟨i, j, _, rfl, ⟨c, rfl⟩, rfl, rfl⟩, h⟩
theorem a_div (c : CDiv i j) (h : Q (.int (i / j)) g) : prP (.bin .FloorDiv) [.int i, .int j] g Q := ⟨_, _, .inl ⟨i, j, _, rfl, ⟨c, rfl⟩, rfl, rfl⟩, h⟩
theorem a_divL (h1 : 0 < j) (h2 : j < 1073741824) (h : Q (.int (i / j)) g) : prP (.bin .FloorDiv) [.int i, .int j] g Q := a_div ⟨h1, h2⟩ h
theorem a_pow (c : CPow i j) (h : Q (.int (i ^ j.toNat)) g) : prP (.bin .Pow) [.int i, .int j] g Q := ⟨_, _, .inl ⟨i, j, _, rfl, ⟨c, rfl⟩, rfl, rfl⟩, h⟩
theorem b_tup (hl : l.length + m.length <= 100000) (h : Q (.tup (l ++ m)) g) : prP (.bin .Add) [.tup l, .tup m] g Q := ⟨_, _, .inr (.inl ⟨rfl, .inl ⟨l, m, rfl, hl, rfl, rfl⟩⟩), h⟩
theorem b_cat {i j : Nat} (hi : g[i]? = some (.lst l)) (hj : g[j]? = some (.lst m)) (hl : l.length + m.length <= 100000) (h : Q (.ref g.length) (g ++ [.lst (l ++ m)])) : prP (.bin .Add) [.ref i, .ref j] g Q := ⟨_, _, .inr (.inl ⟨rfl, .inr (.inl ⟨i, j, l, m, rfl, hi, hj, hl, rfl, rfl⟩)⟩), h⟩
theorem b_rep {i : Nat} {n : Int} (hi : g[i]? = some (.lst l)) (h1 : -(2 ^ 62) <= n) (h2 : n < 2 ^ 62) (hl : l.length * n.toNat <= 100000) (h : Q (.ref g.length) (g ++ [.lst (List.replicate n.toNat l).flatten])) : prP (.bin .Mult) [.ref i, .int n] g Q := ⟨_, _, .inr (.inr ⟨rfl, .inl ⟨i, l, n, rfl, hi, h1, h2, hl, rfl, rfl⟩⟩), h⟩
theorem b_repT {n : Int} (hne : l ≠ []) (h1 : 1 <= n) (h2 : n < 2 ^ 62) (hl : l.length * n.toNat <= 100000) (h : Q (.tup (List.replicate n.toNat l).flatten) g) : prP (.bin .Mult) [.tup l, .int n] g Q := ⟨_, _, .inr (.inr ⟨rfl, .inr ⟨l, n, rfl, hne, h1, h2, hl, rfl, rfl⟩⟩), h⟩
theorem u_neg (h : Q (.int (-i)) g) : prP (.un .USub) [.int i] g Q := ⟨_, _, ⟨rfl, i, rfl, rfl, rfl⟩, h⟩
theorem c_mk {op : CmpOp} {x y : D} {b : Bool} (hb : cmpB g x y b op) (h : Q (.bl b) g) : prP (.cmp op) [x, y] g Q := ⟨_, _, ⟨x, y, b, rfl, hb, rfl, rfl⟩, h⟩
theorem c_lt (h : Q (.bl (decide (i < j))) g) : prP (.cmp .Lt) [.int i, .int j] g Q := c_mk ⟨i, j, rfl, rfl, rfl⟩ h
theorem c_le (h : Q (.bl (decide (i <= j))) g) : prP (.cmp .LtE) [.int i, .int j] g Q := c_mk ⟨i, j, rfl, rfl, rfl⟩ h
theorem c_gt (h : Q (.bl (decide (j < i))) g) : prP (.cmp .Gt) [.int i, .int j] g Q := c_mk ⟨i, j, rfl, rfl, rfl⟩ h
theorem c_ge (h : Q (.bl (decide (j <= i))) g) : prP (.cmp .GtE) [.int i, .int j] g Q := c_mk ⟨i, j, rfl, rfl, rfl⟩ h
theorem c_eq {x y : D} (h : eqP g x y fun b => Q (.bl b) g) : prP (.cmp .Eq) [x, y] g Q := let ⟨_, hb, h⟩ := h; c_mk hb h
theorem c_ne {x y : D} (h : eqP g x y fun b => Q (.bl (!b)) g) : prP (.cmp .NotEq) [x, y] g Q := let ⟨b, hb, h⟩ := h; c_mk (b := !b) (show eqR g x y (!(!b)) from by rw [Bool.not_not]; exact hb) h
theorem c_in {x y : D} (h : inP g x y fun b => Q (.bl b) g) : prP (.cmp .In) [x, y] g Q := let ⟨_, hb, h⟩ := h; c_mk hb h
theorem c_nin {x y : D} (h : inP g x y fun b => Q (.bl (!b)) g) : prP (.cmp .NotIn) [x, y] g Q := let ⟨b, hb, h⟩ := h; c_mk (b := !b) (show inR g x y (!(!b)) from by rw [Bool.not_not]; exact hb) h
theorem q_int (h : kb (decide (i = j))) : eqP g (.int i) (.int j) kb := ⟨_, .inl ⟨i, j, rfl, rfl, rfl⟩, h⟩
theorem q_bl (h : kb (t == s)) : eqP g (.bl t) (.bl s) kb := ⟨_, .inr (.inl ⟨t, s, rfl, rfl, rfl⟩), h⟩
theorem q_str {x y : Str} (h : kb (decide (x = y))) : eqP g (.str x) (.str y) kb := ⟨_, .inr (.inr (.inl ⟨x, y, rfl, rfl, rfl⟩)), h⟩
theorem c_eqi (h : Q (.bl (decide (i = j))) g) : prP (.cmp .Eq) [.int i, .int j] g Q := c_eq (q_int h)
theorem c_nei (h : Q (.bl (!decide (i = j))) g) : prP (.cmp .NotEq) [.int i, .int j] g Q := c_ne (q_int h)
theorem c_eqb (h : Q (.bl (t == s)) g) : prP (.cmp .Eq) [.bl t, .bl s] g Q := c_eq (q_bl h)
theorem c_neb (h : Q (.bl (!(t == s))) g) : prP (.cmp .NotEq) [.bl t, .bl s] g Q := c_ne (q_bl h)
theorem c_eqs {p q : Str} (h : Q (.bl (decide (p = q))) g) : prP (.cmp .Eq) [.str p, .str q] g Q := c_eq (q_str h)
theorem c_nes {p q : Str} (h : Q (.bl (!decide (p = q))) g) : prP (.cmp .NotEq) [.str p, .str q] g Q := c_ne (q_str h)
theorem c_is {d : D} (h : Q (.bl (isNon d)) g) : prP (.cmp .Is) [d, .non] g Q := c_mk ⟨rfl, rfl⟩ h
theorem c_isn {d : D} (h : Q (.bl (!isNon d)) g) : prP (.cmp .IsNot) [d, .non] g Q := c_mk ⟨rfl, rfl⟩ h
theorem c_is0 (h : Q (.bl true) g) : prP (.cmp .Is) [.non, .non] g Q := c_is h
theorem c_isI (h : Q (.bl false) g) : prP (.cmp .Is) [.int i, .non] g Q := c_is h
theorem c_isB (h : Q (.bl false) g) : prP (.cmp .Is) [.bl t, .non] g Q := c_is h
theorem c_isS {x : Str} (h : Q (.bl false) g) : prP (.cmp .Is) [.str x, .non] g Q := c_is h
theorem c_isT (h : Q (.bl false) g) : prP (.cmp .Is) [.tup l, .non] g Q := c_is h
theorem c_isR {n : Nat} (h : Q (.bl false) g) : prP (.cmp .Is) [.ref n, .non] g Q := c_is h
theorem c_in0 (h : Q (.bl false) g) : prP (.cmp .IsNot) [.non, .non] g Q := c_isn h
theorem c_inI (h : Q (.bl true) g) : prP (.cmp .IsNot) [.int i, .non] g Q := c_isn h
theorem c_inT (h : Q (.bl true) g) : prP (.cmp .IsNot) [.tup l, .non] g Q := c_isn h
theorem c_inR {n : Nat} (h : Q (.bl true) g) : prP (.cmp .IsNot) [.ref n, .non] g Q := c_isn h
theorem t_bl (h : kb t) : truP g (.bl t) kb := ⟨t, .inr (.inl rfl), h⟩
theorem t_non (h : kb false) : truP g .non kb := ⟨false, .inl ⟨rfl, rfl⟩, h⟩
theorem t_int (h : kb (i != 0)) : truP g (.int i) kb := ⟨_, .inr (.inr (.inl ⟨i, rfl, rfl⟩)), h⟩
theorem bool_ex {t : Bool} {p : Bool -> Prop} (h : p t) : ∃ s, D.bl t = D.bl s /\ p s := ⟨t, rfl, h⟩
theorem int_ex {p : Int -> Prop} (h : p i) : ∃ s, D.int i = D.int s /\ p s := ⟨i, rfl, h⟩
theorem if2 {c : Prop} [Decidable c] {A B : Prop} (h1 : c -> A) (h2 : ¬ c -> B) : if decide c = true then A else B := by
 by_cases h : c
 ·rw [if_pos (decide_eq_true h)]; exact h1 h
 ·rw [if_neg (by rw [decide_eq_false h]; decide)]; exact h2 h
theorem ift {A B : Prop} (h : A) : if true = true then A else B := by rw [if_pos rfl]; exact h
theorem iff' {A B : Prop} (h : B) : if false = true then A else B := by rw [if_neg (by decide)]; exact h
theorem ifnf {A B : Prop} (h : A) : if (!false) = true then A else B := by rw [if_pos (show (!false) = true from rfl)]; exact h
theorem ifnt {A B : Prop} (h : B) : if (!true) = true then A else B := by rw [if_neg (by decide)]; exact h
theorem ifF {b : Bool} {A B : Prop} (hb : b = false) (h : B) : if b = true then A else B := by rw [hb]; exact iff' h
theorem ifT {b : Bool} {A B : Prop} (hb : b = true) (h : A) : if b = true then A else B := by rw [hb]; exact ift h
theorem ix_l {a : Nat} {d : D} (hl : itemsL g a = some l) (h2 : atI l i = some d) (h : Q d g) : prP .ix [.ref a, .int i] g Q := ⟨_, _, ⟨rfl, .inl ⟨_, l, i, rfl, hl, h2⟩⟩, h⟩
theorem ix_t {d : D} (h2 : atI l i = some d) (h : Q d g) : prP .ix [.tup l, .int i] g Q := ⟨_, _, ⟨rfl, .inl ⟨_, l, i, rfl, rfl, h2⟩⟩, h⟩
theorem ix_d {i : Nat} {kvs : List (Key × D)} {y v : D} {k : Key} (hg : g[i]? = some (.dic kvs)) (hk : keyD y = some k) (hv : valD kvs k = some v) (h : Q v g) : prP .ix [.ref i, y] g Q := ⟨_, _, ⟨rfl, .inr (.inl ⟨i, kvs, y, k, rfl, hg, hk, hv⟩)⟩, h⟩
theorem set_l {a n : Nat} {v : D} {kg : G -> Prop} (hl : g[a]? = some (.lst l)) (hn : ixN l.length i = some n) (h : kg (g.set a (.lst (l.set n v)))) : setP (.ref a) (.int i) v g kg := ⟨_, .inl ⟨a, i, l, n, rfl, rfl, hl, hn, rfl⟩, h⟩
theorem set_f {f c : Str} {cs : List Str} {a : Nat} {fs : List (Str × D)} {v : D} {kg : G -> Prop} (hg : g[a]? = some (.ins c fs)) (hc : c ∈ cs) (hl : fs.length < 100) (h : kg (g.set a (.ins c (putFD f v fs)))) : setfP f cs (.ref a) v g kg := ⟨_, ⟨a, c, fs, rfl, hg, hc, hl, rfl⟩, h⟩
theorem fld_ {f c : Str} {a : Nat} {fs : List (Str × D)} {d : D} (hg : g[a]? = some (.ins c fs)) (hf : fs.lookup f = some d) (h : Q d g) : prP (.fld f) [.ref a] g Q := ⟨_, _, ⟨a, c, fs, rfl, hg, hf, rfl⟩, h⟩
theorem items_of {a : Nat} (h : g[a]? = some (.lst l)) : itemsL g a = some l := by simp only [itemsL, h, itemsO]
theorem items_ofF {a : Nat} (h : g[a]? = some (.fro l)) : itemsL g a = some l := by simp only [itemsL, h, itemsO]
theorem len_l {a : Nat} (hl : itemsL g a = some l) (h : Q (.int l.length) g) : prP .len [.ref a] g Q := ⟨_, _, ⟨rfl, .inl ⟨_, l, rfl, hl, rfl⟩⟩, h⟩
theorem len_t (h : Q (.int l.length) g) : prP .len [.tup l] g Q := ⟨_, _, ⟨rfl, .inl ⟨_, l, rfl, rfl, rfl⟩⟩, h⟩
theorem sl00_t (h : Q (.tup (cut l none none)) g) : prP (.slc false false) [.tup l] g Q := ⟨_, _, ⟨_, rfl, .inl ⟨l, rfl, rfl, rfl⟩⟩, h⟩
theorem sl10_t (h : Q (.tup (cut l (some i) none)) g) : prP (.slc true false) [.tup l, .int i] g Q := ⟨_, _, ⟨_, i, rfl, .inl ⟨l, rfl, rfl, rfl⟩⟩, h⟩
theorem sl01_t (h : Q (.tup (cut l none (some i))) g) : prP (.slc false true) [.tup l, .int i] g Q := ⟨_, _, ⟨_, i, rfl, .inl ⟨l, rfl, rfl, rfl⟩⟩, h⟩
theorem sl01_l {a : Nat} (hl : itemsL g a = some l) (h : Q (.ref g.length) (g ++ [.lst (cut l none (some i))])) : prP (.slc false true) [.ref a, .int i] g Q := ⟨_, _, ⟨_, i, rfl, .inr ⟨a, l, rfl, hl, rfl, rfl⟩⟩, h⟩
theorem rev_t (h : Q (.tup l.reverse) g) : prP .rev [.tup l] g Q := ⟨_, _, ⟨l, rfl, rfl, rfl⟩, h⟩
theorem p_tup (hl : l.length <= 1000) (h : Q (.tup l) g) : prP .tup l g Q := ⟨_, _, ⟨hl, rfl, rfl⟩, h⟩
theorem p_lst (hl : l.length <= 1000) (h : Q (.ref g.length) (g ++ [.lst l])) : prP .lst l g Q := ⟨_, _, ⟨hl, rfl, rfl⟩, h⟩
theorem lst_l {a : Nat} (hl : itemsL g a = some l) (h : Q (.ref g.length) (g ++ [.lst l])) : prP .list [.ref a] g Q := ⟨_, _, ⟨_, l, rfl, hl, rfl, rfl⟩, h⟩
theorem lst_t (h : Q (.ref g.length) (g ++ [.lst l])) : prP .list [.tup l] g Q := ⟨_, _, ⟨_, l, rfl, rfl, rfl, rfl⟩, h⟩
theorem tup_t (h : Q (.tup l) g) : prP .tuple [.tup l] g Q := ⟨_, _, ⟨_, l, rfl, rfl, rfl, rfl⟩, h⟩
theorem isi {d : D} {c : String} {b : Bool} (hc : c ∈ ["int", "bool", "str", "tuple", "list"]) (hb : isTy g d c = some b) (h : Q (.bl b) g) : prP .isin [d, .ty c] g Q := ⟨_, _, ⟨d, c, b, rfl, hc, hb, rfl, rfl⟩, h⟩
theorem m_app {i : Nat} {y : D} (hg : g[i]? = some (.lst l)) (hl : l.length < 100000) (h : Q .non (g.set i (.lst (l ++ [y])))) : prP .append [.ref i, y] g Q := ⟨_, _, ⟨i, y, l, rfl, hg, hl, rfl, rfl⟩, h⟩
theorem mk_ixT {l : List D} : mkP .index (.tup l) g := .inl ⟨l, rfl⟩
theorem mk_ixL {a : Nat} {l : List D} (hl : itemsL g a = some l) : mkP .index (.ref a) g := .inr ⟨a, l, rfl, hl⟩
theorem m_ixT {l : List D} {y : D} {n : Nat} (W : FirstD l y n) (hz : l.length <= 100000) (h : Q (.int n) g) : prP .index [.tup l, y] g Q := ⟨_, _, ⟨_, y, l, n, rfl, rfl, W, hz, rfl, rfl⟩, h⟩
theorem m_ixL {a : Nat} {l : List D} {y : D} {n : Nat} (hl : itemsL g a = some l) (W : FirstD l y n) (hz : l.length <= 100000) (h : Q (.int n) g) : prP .index [.ref a, y] g Q := ⟨_, _, ⟨_, y, l, n, rfl, hl, W, hz, rfl, rfl⟩, h⟩
theorem ia_tup {l m : List D} (hl : l.length + m.length <= 100000) (h : Q (.tup (l ++ m)) g) : prP .iadd [.tup l, .tup m] g Q := ⟨_, _, .inr ⟨l, m, rfl, hl, rfl, rfl⟩, h⟩
theorem mk_app {i : Nat} (hg : g[i]? = some (.lst l)) : mkP .append (.ref i) g := ⟨i, l, rfl, items_of hg⟩
theorem mk_pop {i : Nat} (hg : g[i]? = some (.lst l)) : mkP .pop (.ref i) g := ⟨i, l, rfl, items_of hg⟩
theorem mk_d {i : Nat} {l : List (Key × D)} (hg : g[i]? = some (.dic l)) : mkP .get (.ref i) g := ⟨i, l, rfl, hg⟩
theorem lr1 {j : Int} (h1 : -(2 ^ 62) <= j) (h2 : j <= 100000) (h : Q (.ref g.length) (g ++ [.lst (rngD 0 j.toNat)])) : prP .lrng1 [.int j] g Q := ⟨_, _, ⟨j, rfl, h1, h2, rfl, rfl⟩, h⟩
theorem dnew (h : Q (.ref g.length) (g ++ [.dic []])) : prP .dnew [] g Q := ⟨_, _, ⟨rfl, rfl, rfl⟩, h⟩
theorem max2 {i j : Int} (h : Q (.int (if j > i then j else i)) g) : prP .max [.int i, .int j] g Q := ⟨_, _, ⟨i, j, rfl, rfl, rfl⟩, h⟩
theorem min2 {i j : Int} (h : Q (.int (if j < i then j else i)) g) : prP .min [.int i, .int j] g Q := ⟨_, _, ⟨i, j, rfl, rfl, rfl⟩, h⟩
theorem int_b {v : Bool} (h : Q (.int (if v then 1 else 0)) g) : prP .int [.bl v] g Q := ⟨_, _, ⟨rfl, .inr ⟨v, rfl, rfl⟩⟩, h⟩
theorem g_in {kvs : List D} {x : Str} (h : Q (.bl (lookD kvs x).isSome) g) : prP .gin [.tup kvs, .str x] g Q := ⟨_, _, ⟨kvs, x, rfl, rfl, rfl⟩, by rw [Bool.false_xor]; exact h⟩
theorem g_nin {kvs : List D} {x : Str} (h : Q (.bl (!(lookD kvs x).isSome)) g) : prP .gnin [.tup kvs, .str x] g Q := ⟨_, _, ⟨kvs, x, rfl, rfl, rfl⟩, by rw [Bool.true_xor]; exact h⟩
theorem all_b {i : Nat} {v : Bool} (hl : itemsL g i = some l) (hv : allBl l = some v) (h : Q (.bl v) g) : prP .all [.ref i] g Q := ⟨_, _, ⟨i, l, v, rfl, hl, hv, rfl, rfl⟩, h⟩
theorem tg_one {i : Nat} {x : D} {σ : S} {k : S -> Prop} (h : k (σ.set i (some x))) : tgP (.one i) x σ k := h
theorem tg_many {is : List Nat} {σ σ' : S} {k : S -> Prop} (e : setAll is l σ = some σ') (h : k σ') : tgP (.many is) (.tup l) σ k := ⟨l, σ', rfl, e, h⟩
end
theorem allBl_map : ∀ (bs : List Bool), allBl (bs.map D.bl) = some (bs.all id) := by
 intro bs
 induction bs with
 | nil => rfl
 | cons b r ih => simp [allBl, ih]
theorem call_of {T : Nat -> Option MDef} {k f : Nat} {m : MDef} {ds : List D} {g : G} {Q : KD} {E : KX} (hT : T f = some m) (hl : ds.length = m.ar)
  (h : wpS (callW T k) m.body ⟨fun _ g' => Q .non g', Q, fun _ _ => False, fun _ _ => False⟩ (startD m ds) g E) : callW T (k + 1) f ds g Q E := ⟨m, hT, hl, h⟩
theorem meth_ex {P : Sig} {σ : S} {g : G} {Q : KD} {E : KX} {a : ME} {i f : Nat} {c m : Str} {fs : List (Str × D)} {cs : List (Str × Nat)} (hg : g[i]? = some (.ins c fs)) (hf : fs.lookup m = none) (hc : cs.lookup c = some f) (h : wpA P a σ g (fun xs g2 => P f (.ref i :: xs) g2 Q E) E) :
  ∃ a' c fs f, D.ref i = .ref a' /\ g[a']? = some (.ins c fs) /\ fs.lookup m = none /\ cs.lookup c = some f /\ wpA P a σ g (fun xs g2 => P f (.ref i :: xs) g2 Q E) E := ⟨i, c, fs, f, rfl, hg, hf, hc, h⟩
noncomputable def IK.Is (k : IK) (l : List D) (g : G) : Prop := ∀ i, k.at i g = some l[i]?
theorem is_fix {l : List D} {g : G} : (IK.fix l).Is l g := fun _ => rfl
theorem is_lst {a : Nat} {l : List D} {g : G} (h : itemsL g a = some l) : (IK.lst a).Is l g := fun i => by simp only [IK.at, h]
theorem rng_get {lo : Int} {n i : Nat} {x : D} (h : (rngD lo n)[i]? = some x) : i < n /\ x = .int (lo + i) := by
 unfold rngD at h
 have hi : i < n := by
  have := (List.getElem?_eq_some_iff.mp h).1
  simpa using this
 rw [List.getElem?_map, List.getElem?_range hi] at h
 cases h
 exact ⟨hi, rfl⟩
theorem rng_len (lo : Int) (n : Nat) : (rngD lo n).length = n := by simp [rngD]
section
variable {P : Sig} {σ : S} {g : G} {E : KX} {N : Ends} {it a b c o : ME} {s : MS} {t : MT} {Q : KD}
theorem turns_of {k : IK} {l : List D} {fin : S -> G -> Prop} {turn : D -> (S -> G -> Prop) -> S -> G -> Prop} (I : Nat -> S -> G -> Prop) (hk : ∀ i σ g, I i σ g -> k.Is l g) (h0 : I 0 σ g) (hs : ∀ i x σ g, l[i]? = some x -> I i σ g -> turn x (I (i + 1)) σ g) (hd : ∀ σ g, I l.length σ g -> fin σ g) : turns k σ g fin turn := by
 refine ⟨fun i m σ g => m = l.length - i /\ i <= l.length /\ I i σ g, ⟨l.length, by simp, Nat.zero_le _, h0⟩, ?_⟩
 rintro i m σ g ⟨rfl, hi, p⟩
 rw [hk i σ g p i]
 by_cases hlt : i < l.length
 ·rw [List.getElem?_eq_getElem hlt]
  exact .inr ⟨_, rfl, I (i + 1), fun σ' g' p' => ⟨l.length - (i + 1), by omega, rfl, hlt, p'⟩, hs i l[i] σ g (List.getElem?_eq_getElem hlt) p⟩
 ·have e : i = l.length := by omega
  subst e
  rw [List.getElem?_eq_none (Nat.le_refl _)]
  exact .inl ⟨rfl, hd σ g p⟩
theorem w_for (hP : SigMono P) (h : wpI P it σ g (fun k g1 => ∃ (l : List D) (I : Nat -> S -> G -> Prop), (∀ i σ g, I i σ g -> k.Is l g) /\ I 0 σ g1 /\
      (∀ i x σ g, l[i]? = some x -> I i σ g -> tgP t x σ fun σ2 => wpS P s ⟨I (i + 1), N.rt, N.nx, I (i + 1)⟩ σ2 g E) /\ ∀ σ g, I l.length σ g -> N.nx σ g) E) : wpS P (.for_ t it s) N σ g E :=
  wpI_mono hP it _ _ _ _ _ _ (fun k g1 ⟨l, I, hk, h0, hs, hd⟩ => turns_of I hk h0 hs hd) (fun _ _ z => z) h
theorem w_comp {caps : List Nat} {n : Nat} {cond elt : ME} (hP : SigMono P) (h : wpI P it σ g (fun k g1 => ∃ (l : List D) (I : Nat -> List D -> S -> G -> Prop), l.length <= 1000 /\ (∀ i ys σ g, I i ys σ g -> k.Is l g /\ ys.length <= i) /\ I 0 [] (capsD σ caps n) g1 /\
      (∀ i x ys σ g, l[i]? = some x -> I i ys σ g -> tgP t x σ fun σ2 => wpT P cond σ2 g (fun c g3 => if c = true then wpE P elt σ2 g3 (fun y g4 => I (i + 1) (ys ++ [y]) σ2 g4) NoX else I (i + 1) ys σ2 g3) NoX) /\
      ∀ ys σ g, I l.length ys σ g -> Q (.ref g.length) (g ++ [.lst ys])) E) : wpE P (.comp caps n t it cond elt) σ g Q E := by
  rw [wpE]
  refine wpI_mono hP it _ _ _ _ _ _ (fun k g1 h => ?_) (fun _ _ z => z) h
  obtain ⟨l, I, hl, hk, h0, hs, hd⟩ := h
  refine ⟨fun i m ys σ g => m = l.length - i /\ i <= l.length /\ I i ys σ g, ⟨l.length, by simp, Nat.zero_le _, h0⟩, ?_⟩
  rintro i m ys σ g ⟨rfl, hi, p⟩
  obtain ⟨hk', hy⟩ := hk i ys σ g p
  rw [hk' i]
  by_cases hlt : i < l.length
  · rw [List.getElem?_eq_getElem hlt]
    refine .inr ⟨_, rfl, by omega, tgP_mono (fun σ2 q => wpT_mono hP cond _ _ _ _ _ _ (fun c g3 q => ?_) (fun _ _ z => z) q) (hs i l[i] ys σ g (List.getElem?_eq_getElem hlt) p)⟩
    cases c
    · exact ⟨l.length - (i + 1), by omega, rfl, hlt, by simpa using (show I (i + 1) ys σ2 g3 from q)⟩
    · exact wpE_mono hP elt _ _ _ _ _ _ (fun y g4 q => ⟨l.length - (i + 1), by omega, rfl, hlt, by simpa using q⟩) (fun _ _ z => z) q
  · have e : i = l.length := by omega
    subst e
    rw [List.getElem?_eq_none (Nat.le_refl _)]
    exact .inl ⟨rfl, hd ys σ g p⟩
theorem w_comp_rng {caps : List Nat} {n : Nat} {cond elt : ME} (hP : SigMono P) (h : wpE P a σ g (fun x g1 => ∃ j : Nat, x = .int j /\ j <= 1000 /\ ∃ I : Nat -> List D -> S -> G -> Prop, I 0 [] (capsD σ caps n) g1 /\ (∀ i ys σ g, I i ys σ g -> ys.length <= i) /\
      (∀ (i : Nat) ys σ g, i < j -> I i ys σ g -> tgP t (.int i) σ fun σ2 => wpT P cond σ2 g (fun c g3 => if c = true then wpE P elt σ2 g3 (fun y g4 => I (i + 1) (ys ++ [y]) σ2 g4) NoX else I (i + 1) ys σ2 g3) NoX) /\
      ∀ ys σ g, I j ys σ g -> Q (.ref g.length) (g ++ [.lst ys])) E) : wpE P (.comp caps n t (.itR1 a) cond elt) σ g Q E := by
  refine w_comp hP ?_
  rw [wpI]
  refine wpE_mono hP a _ _ _ _ _ _ (fun x g1 h => ?_) (fun _ _ z => z) h
  obtain ⟨j, rfl, hj, I, h0, hz, hs, hd⟩ := h
  refine ⟨j, rfl, by omega, by omega, _, I, by rw [rng_len]; simpa using hj, fun i ys σ g p => ⟨is_fix, hz i ys σ g p⟩, h0, fun i x ys σ g hx p => ?_, fun ys σ g p => hd ys σ g (by rw [rng_len] at p; simpa using p)⟩
  obtain ⟨hi, rfl⟩ := rng_get hx
  rw [show (0 : Int) + (i : Int) = i by omega]
  exact hs i ys σ g (by simpa using hi) p
theorem i_r1 (hP : SigMono P) {R : IK -> G -> Prop} (h : wpE P a σ g (fun x g1 => ∃ j : Int, x = .int j /\ -(2 ^ 62) <= j /\ j < 2 ^ 62 /\ R (.fix (rngD 0 j.toNat)) g1) E) : wpI P (.itR1 a) σ g R E := by rw [wpI]; exact h
theorem i_r2 (hP : SigMono P) {R : IK -> G -> Prop} (h : wpE P a σ g (fun x g1 => wpE P b σ g1 (fun y g2 => ∃ i j : Int, x = .int i /\ y = .int j /\ (-(2 ^ 62) <= i /\ i < 2 ^ 62 /\ -(2 ^ 62) <= j /\ j < 2 ^ 62) /\ R (.fix (rngD i (j - i).toNat)) g2) E) E) : wpI P (.itR2 a b) σ g R E := by rw [wpI]; exact h
theorem i_l (hP : SigMono P) {R : IK -> G -> Prop} (h : wpE P a σ g (fun x g1 => ∃ i l, x = .ref i /\ itemsL g1 i = some l /\ R (.lst i) g1) E) : wpI P (.itE a) σ g R E := by
 rw [wpI]; exact wpE_mono hP a _ _ _ _ _ _ (fun x g1 h => .inr h) (fun _ _ z => z) h
theorem i_n {R : IK -> G -> Prop} (h : wpE P a σ g (fun x g1 => ∃ i l, x = .ref i /\ itemsL g1 i = some l /\ R (.enl i) g1) E) : wpI P (.itN a) σ g R E := by rw [wpI]; exact h
end
end M

namespace M
open PySem L2
local macro_rules | `(tactic| walk_at "w1") => `(tactic| first
 | with_reducible refine w_seqp ?_ | with_reducible refine w_seq ?_ | with_reducible refine w_set ?_ | with_reducible refine w_ret ?_ | with_reducible refine w_expr ?_ | with_reducible refine w_unp ?_ | with_reducible refine w_setix ?_ | with_reducible refine w_setf ?_ | with_reducible refine w_ifs ?_ | with_reducible refine w_pass ?_ | with_reducible refine w_retn ?_
 | (with_reducible refine w_var (d := ?_) ?_ ?_; rotate_left; · with_unfolding_all rfl) | with_reducible refine w_lit ?_ | with_reducible refine w_p2 ?_ | with_reducible refine w_p1 ?_ | with_reducible refine w_p0 ?_ | with_reducible refine w_prim ?_ | with_reducible refine w_chain ?_ | with_reducible refine w_and ?_ | with_reducible refine w_or ?_ | with_reducible refine w_not ?_ | with_reducible refine w_ite ?_
 | with_reducible refine w_call ?_ | with_reducible refine w_make ?_ | with_reducible refine w_methc ?_ | with_reducible refine w_nil ?_ | with_reducible refine w_cons ?_
 | with_reducible refine w_tand ?_ | with_reducible refine w_tor ?_ | with_reducible refine w_tnot ?_ | with_reducible refine w_tno ?_ | with_reducible refine w_tst ?_
 | with_reducible refine a_add ?_ | with_reducible refine a_sub ?_ | with_reducible refine u_neg ?_ | with_reducible refine c_lt ?_ | with_reducible refine c_le ?_ | with_reducible refine c_gt ?_ | with_reducible refine c_ge ?_ | with_reducible refine c_eqi ?_ | with_reducible refine c_nei ?_ | with_reducible refine c_eqb ?_ | with_reducible refine c_neb ?_ | with_reducible refine c_eqs ?_ | with_reducible refine c_is0 ?_ | with_reducible refine c_isI ?_ | with_reducible refine c_isB ?_ | with_reducible refine c_isS ?_ | with_reducible refine c_isT ?_ | with_reducible refine c_isR ?_ | with_reducible refine c_is ?_ | with_reducible refine c_in0 ?_ | with_reducible refine c_inI ?_ | with_reducible refine c_inT ?_ | with_reducible refine c_inR ?_ | with_reducible refine c_isn ?_
 | with_reducible refine t_bl ?_ | with_reducible refine bool_ex ?_ | with_reducible refine int_ex ?_ | with_reducible refine ift ?_ | with_reducible refine iff' ?_ | with_reducible refine ifnf ?_ | with_reducible refine ifnt ?_
 | with_reducible refine len_t ?_ | with_reducible refine sl00_t ?_ | with_reducible refine sl10_t ?_ | with_reducible refine sl01_t ?_ | with_reducible refine rev_t ?_ | with_reducible refine lst_t ?_ | with_reducible refine tup_t ?_)
local macro_rules | `(tactic| walk_at "w2") => `(tactic| repeat (first | walk_at "w1" | with_reducible refine p_tup (by simp) ?_ | with_reducible refine p_lst (by simp) ?_ | with_reducible refine ix_l (items_of (by assumption)) (by with_unfolding_all rfl) ?_ | with_reducible refine len_l (items_of (by assumption)) ?_ | with_reducible refine a_pow (by unfold CPow; decide) ?_))
local macro_rules | `(tactic| walk_at "w3") => `(tactic| repeat (first | walk_at "w1" | with_reducible refine p_tup (by simp) ?_ | with_reducible refine p_lst (by simp) ?_ | with_reducible refine ix_l (items_of (by assumption)) (by with_unfolding_all rfl) ?_ | with_reducible refine len_l (items_of (by assumption)) ?_ | with_reducible refine a_pow (by unfold CPow; decide) ?_ | with_reducible refine And.intro (show List.length _ <= 1000 from by simp) ?_ | with_reducible refine tg_many (by with_unfolding_all rfl) ?_ | with_reducible refine tg_one ?_ | with_reducible refine ix_t (by with_unfolding_all rfl) ?_))
local macro_rules | `(tactic| walk_at "w5") => `(tactic| repeat (first | walk_at "w1" | with_reducible refine w_raise ?_ | with_reducible refine w_try ?_ | with_reducible refine w_meth ?_ | with_reducible refine c_nes ?_ | with_reducible refine t_int ?_ | with_reducible refine t_non ?_ | with_reducible refine max2 ?_ | with_reducible refine min2 ?_ | with_reducible refine int_b ?_ | with_reducible refine dnew ?_ | with_reducible refine g_in ?_ | with_reducible refine g_nin ?_ | with_reducible refine p_tup (by simp) ?_ | with_reducible refine p_lst (by simp) ?_ | with_reducible refine ix_l (items_of (by assumption)) (by with_unfolding_all rfl) ?_ | with_reducible refine len_l (items_of (by assumption)) ?_ | with_reducible refine a_pow (by unfold CPow; decide) ?_ | with_reducible refine And.intro (show List.length _ <= 1000 from by simp) ?_ | with_reducible refine tg_many (by with_unfolding_all rfl) ?_ | with_reducible refine tg_one ?_ | with_reducible refine ix_t (by with_unfolding_all rfl) ?_ | with_reducible refine And.intro (mk_app (by assumption)) ?_ | with_reducible refine And.intro (mk_pop (by assumption)) ?_ | with_reducible refine And.intro (mk_d (by assumption)) ?_ | with_reducible refine a_mod (by decide) ?_ | with_reducible refine a_divL (by decide) (by decide) ?_ | with_reducible refine i_n ?_))
noncomputable def mPull : MDef := ⟨2, 5, (.seq (.ifs (.and_ (.tst (.prim (.cmp .Lt) (.cons (.prim .ix (.cons (.var 0) (.cons (.lit (.int 2)) .nil))) (.cons (.var 1) .nil)))) (.tst (.prim (.cmp .Lt) (.cons (.prim .ix (.cons (.var 0) (.cons (.lit (.int 1)) .nil))) (.cons (.prim .len (.cons (.prim .ix (.cons (.var 0) (.cons (.lit (.int 0)) .nil))) .nil)) .nil))))) (.seq (.set 2 (.prim .ix (.cons (.prim .ix (.cons (.var 0) (.cons (.lit (.int 0)) .nil))) (.cons (.prim .ix (.cons (.var 0) (.cons (.lit (.int 1)) .nil))) .nil)))) (.seq (.setix (.var 0) (.lit (.int 1)) (.prim (.bin .Add) (.cons (.prim .ix (.cons (.var 0) (.cons (.lit (.int 1)) .nil))) (.cons (.lit (.int 1)) .nil)))) (.seq (.setix (.var 0) (.lit (.int 2)) (.lit (.int 0))) (.seq (.ifs (.tst (.prim (.cmp .GtE) (.cons (.var 2) (.cons (.prim (.bin .Pow) (.cons (.lit (.int 10)) (.cons (.lit (.int 18)) .nil))) .nil)))) (.seq (.setix (.var 0) (.lit (.int 2)) (.var 2)) .pass) (.seq (.setix (.var 0) (.lit (.int 3)) (.prim (.bin .Mod) (.cons (.prim (.bin .Add) (.cons (.prim (.bin .Add) (.cons (.prim (.bin .Mult) (.cons (.prim .ix (.cons (.var 0) (.cons (.lit (.int 3)) .nil))) (.cons (.lit (.int 48271)) .nil))) (.cons (.prim (.bin .Mult) (.cons (.prim (.bin .Mod) (.cons (.var 2) (.cons (.lit (.int 2147483629)) .nil))) (.cons (.lit (.int 69621)) .nil))) .nil))) (.cons (.lit (.int 12345)) .nil))) (.cons (.lit (.int 2147483647)) .nil)))) .pass)) .pass)))) .pass) (.seq (.ifs (.tst (.prim (.cmp .GtE) (.cons (.prim .ix (.cons (.var 0) (.cons (.lit (.int 2)) .nil))) (.cons (.var 1) .nil)))) (.seq (.set 3 (.prim (.bin .Mod) (.cons (.prim .ix (.cons (.var 0) (.cons (.lit (.int 2)) .nil))) (.cons (.var 1) .nil)))) (.seq (.setix (.var 0) (.lit (.int 2)) (.prim (.bin .FloorDiv) (.cons (.prim .ix (.cons (.var 0) (.cons (.lit (.int 2)) .nil))) (.cons (.var 1) .nil)))) (.seq (.ret (.var 3)) .pass))) .pass) (.seq (.set 4 (.prim .ix (.cons (.var 0) (.cons (.lit (.int 3)) .nil)))) (.seq (.setix (.var 0) (.lit (.int 3)) (.prim (.bin .Mod) (.cons (.prim (.bin .Add) (.cons (.prim (.bin .Add) (.cons (.prim (.bin .Mult) (.cons (.prim (.bin .Mod) (.cons (.prim (.bin .Mult) (.cons (.var 4) (.cons (.var 4) .nil))) (.cons (.lit (.int 2147483629)) .nil))) (.cons (.lit (.int 5)) .nil))) (.cons (.prim (.bin .Mult) (.cons (.var 4) (.cons (.lit (.int 16811)) .nil))) .nil))) (.cons (.lit (.int 2531011)) .nil))) (.cons (.lit (.int 2147483647)) .nil)))) (.seq (.ret (.prim (.bin .Mod) (.cons (.prim (.bin .Add) (.cons (.prim (.bin .FloorDiv) (.cons (.prim .ix (.cons (.var 0) (.cons (.lit (.int 3)) .nil))) (.cons (.lit (.int 59)) .nil))) (.cons (.prim (.bin .Mult) (.cons (.prim (.bin .Mod) (.cons (.prim .ix (.cons (.var 0) (.cons (.lit (.int 3)) .nil))) (.cons (.lit (.int 8191)) .nil))) (.cons (.lit (.int 31)) .nil))) .nil))) (.cons (.var 1) .nil)))) .pass)))))⟩
noncomputable def mFar : MDef := ⟨1, 2, (.seq (.set 1 (.call 4 (.cons (.var 0) (.cons (.prim (.bin .Pow) (.cons (.lit (.int 10)) (.cons (.lit (.int 9)) .nil))) .nil)))) (.seq (.ifs (.tst (.prim (.cmp .Eq) (.cons (.call 4 (.cons (.var 0) (.cons (.lit (.int 2)) .nil))) (.cons (.lit (.int 0)) .nil)))) (.seq (.set 1 (.prim (.bin .Add) (.cons (.var 1) (.cons (.prim (.bin .Pow) (.cons (.lit (.int 10)) (.cons (.lit (.int 25)) .nil))) .nil)))) .pass) .pass) (.seq (.ifs (.tst (.prim (.cmp .Eq) (.cons (.call 4 (.cons (.var 0) (.cons (.lit (.int 2)) .nil))) (.cons (.lit (.int 0)) .nil)))) (.seq (.ret (.prim (.bin .Sub) (.cons (.prim (.un .USub) (.cons (.lit (.int 1)) .nil)) (.cons (.var 1) .nil)))) .pass) .pass) (.seq (.ret (.var 1)) .pass))))⟩
structure Draw (g : G) (d : Nat) : Prop where
 ex : ∃ (s : Nat) (p b r : Int) (xs : List Int), g[d]? = some (.lst [.ref s, .int p, .int b, .int r]) /\ g[s]? = some (.lst (xs.map .int)) /\ s < d /\ 0 <= p /\ 0 <= b /\ 0 <= r /\ r < 2147483647
structure Gr (d : Nat) (g g' : G) : Prop where
 len : g.length <= g'.length
 old : ∀ i, i ≠ d -> i < g.length -> g'[i]? = g[i]?
theorem Gr.refl (d : Nat) (g : G) : Gr d g g := ⟨Nat.le_refl _, fun _ _ _ => rfl⟩
theorem Gr.trans {d : Nat} {g g1 g2 : G} (a : Gr d g g1) (b : Gr d g1 g2) : Gr d g g2 := ⟨Nat.le_trans a.len b.len, fun i h1 h2 => (b.old i h1 (Nat.lt_of_lt_of_le h2 a.len)).trans (a.old i h1 h2)⟩
theorem Gr.set (d : Nat) (g : G) (o : O) : Gr d g (g.set d o) := ⟨by simp, fun i h1 h2 => List.getElem?_set_ne (Ne.symm h1)⟩
theorem Gr.snoc (d : Nat) (g : G) (o : O) : Gr d g (g ++ [o]) := ⟨by simp, fun i h1 h2 => List.getElem?_append_left h2⟩
theorem Gr.at {d : Nat} {g g' : G} (h : Gr d g g') {i : Nat} {o : O} (hi : i ≠ d) (e : g[i]? = some o) : g'[i]? = some o := (h.old i hi (List.getElem?_eq_some_iff.mp e).1).trans e
theorem get_lt {g : G} {i : Nat} {o : O} (h : g[i]? = some o) : i < g.length := (List.getElem?_eq_some_iff.mp h).1
theorem Draw.lt {g : G} {d : Nat} (h : Draw g d) : d < g.length := let ⟨_, _, _, _, _, e, _⟩ := h.ex; get_lt e
theorem Draw.snoc {g : G} {d : Nat} (h : Draw g d) (o : O) : Draw (g ++ [o]) d := by
 obtain ⟨s, p, b, r, xs, e1, e2, q⟩ := h.ex
 exact ⟨s, p, b, r, xs, by rw [List.getElem?_append_left (get_lt e1)]; exact e1, by rw [List.getElem?_append_left (get_lt e2)]; exact e2, q⟩
noncomputable def restS : MS -> MS
 | .seq _ b => b
 | x => x
theorem cmul_l {i j : Int} (h1 : -(2 ^ 64) < i) (h2 : i < 2 ^ 64) : CMul i j := .inl ⟨h1, h2⟩
theorem cmul_r {i j : Int} (h1 : -(2 ^ 64) < j) (h2 : j < 2 ^ 64) : CMul i j := .inr ⟨h1, h2⟩
theorem pull_tail {P : Sig} {d : Nat} {n : Int} {g : G} {Q : KD} {E : KX} {N : Ends} {c2 : Option D} (hN : N.rt = Q) (D0 : Draw g d) (hn : 0 < n) (hn2 : n < 1073741824)
  (h : ∀ r g', 0 <= r -> r < n -> Draw g' d -> Gr d g g' -> Q (.int r) g') : wpS P (restS mPull.body) N [some (.ref d), some (.int n), c2, none, none] g E := by
 obtain ⟨s, p, b, r, xs, e1, e2, hsd, hp, hb, hr, hr2⟩ := D0.ex
 have hlt := get_lt e1
 subst hN
 dsimp [mPull, restS]
 walk_at "w2"
 refine if2 (fun c => ?_) (fun c => ?_)
 ·walk_at "w2"
  refine a_mod hn ?_
  walk_at "w2"
  refine a_div ⟨hn, hn2⟩ ?_
  walk_at "w2"
  refine set_l e1 (by with_unfolding_all rfl) ?_
  walk_at "w2"
  refine h _ _ (Int.emod_nonneg _ (by omega)) (Int.emod_lt_of_pos _ hn) ⟨s, p, b / n, r, xs, ?_, ?_, hsd, hp, Int.ediv_nonneg hb (by omega), hr, hr2⟩ (Gr.set d g _)
  ·rw [List.getElem?_set_self hlt]; rfl
  ·rw [List.getElem?_set_ne (Nat.ne_of_gt hsd)]; exact e2
 ·walk_at "w2"
  have r64 : -(2 ^ 64) < r /\ r < 2 ^ 64 := ⟨by omega, by omega⟩
  refine a_mul (cmul_l r64.1 r64.2) ?_
  walk_at "w2"
  refine a_mod (by decide) ?_
  walk_at "w2"
  refine a_mul (cmul_r (by decide) (by decide)) ?_
  walk_at "w2"
  refine a_mul (cmul_r (by decide) (by decide)) ?_
  walk_at "w2"
  refine a_mod (by decide) ?_
  walk_at "w2"
  refine set_l e1 (by with_unfolding_all rfl) ?_
  generalize hr' : (r * r % 2147483629 * 5 + r * 16811 + 2531011) % 2147483647 = r'
  have q0 : 0 <= r' := by rw [<- hr']; exact Int.emod_nonneg _ (by decide)
  have q1 : r' < 2147483647 := by rw [<- hr']; exact Int.emod_lt_of_pos _ (by decide)
  have e1' : (g.set d (.lst [.ref s, .int p, .int b, .int r']))[d]? = some (.lst [.ref s, .int p, .int b, .int r']) := List.getElem?_set_self hlt
  show wpS P _ _ _ (g.set d (.lst [.ref s, .int p, .int b, .int r'])) E
  walk_at "w2"
  refine a_div ⟨by decide, by decide⟩ ?_
  walk_at "w2"
  refine a_mod (by decide) ?_
  walk_at "w2"
  refine a_mul (cmul_r (by decide) (by decide)) ?_
  walk_at "w2"
  refine a_mod hn ?_
  walk_at "w2"
  refine h _ _ (Int.emod_nonneg _ (by omega)) (Int.emod_lt_of_pos _ hn) ⟨s, p, b, r', xs, e1', ?_, hsd, hp, hb, q0, q1⟩ (Gr.set d g _)
  rw [List.getElem?_set_ne (Nat.ne_of_gt hsd)]; exact e2
theorem pull_ok {T : Nat -> Option MDef} (hT : T 4 = some mPull) {k d : Nat} {n : Int} {g : G} {Q : KD} {E : KX} (D0 : Draw g d) (hn : 0 < n) (hn2 : n < 1073741824)
  (h : ∀ r g', 0 <= r -> r < n -> Draw g' d -> Gr d g g' -> Q (.int r) g') : callW T (k + 1) 4 [.ref d, .int n] g Q E := by
 obtain ⟨s, p, b, r, xs, e1, e2, hsd, hp, hb, hr, hr2⟩ := D0.ex
 have hlt := get_lt e1
 refine call_of hT rfl ?_
 have tail : ∀ (g' : G) (c2 : Option D), Draw g' d -> Gr d g g' -> wpS (callW T k) (restS mPull.body) ⟨fun _ g' => Q .non g', Q, fun _ _ => False, fun _ _ => False⟩ [some (.ref d), some (.int n), c2, none, none] g' E :=
  fun g' c2 D1 gr => pull_tail rfl D1 hn hn2 fun r g2 a b c e => h r g2 a b c (gr.trans e)
 dsimp [mPull, startD, List.replicate]
 walk_at "w2"
 refine if2 (fun c => ?_) (fun c => ?_)
 ·walk_at "w2"
  refine if2 (fun c' => ?_) (fun c' => ?_)
  ·walk_at "w2"
   have hp' : p.toNat < xs.length := by
    rw [List.length_map] at c'
    omega
   have ea : atI (xs.map D.int) p = some (.int xs[p.toNat]) := by
    have := atI_nat (xs := xs.map D.int) (j := p.toNat) (v := .int xs[p.toNat]) (by rw [List.getElem?_map, List.getElem?_eq_getElem hp']; rfl)
    rwa [show ((p.toNat : Nat) : Int) = p by omega] at this
   refine ix_l (items_of e2) ea ?_
   generalize xs[p.toNat] = cell
   walk_at "w2"
   refine set_l e1 (by with_unfolding_all rfl) ?_
   have f1 : (g.set d (.lst [.ref s, .int (p + 1), .int b, .int r]))[d]? = some (.lst [.ref s, .int (p + 1), .int b, .int r]) := List.getElem?_set_self hlt
   show wpS (callW T k) _ _ _ (g.set d (.lst [.ref s, .int (p + 1), .int b, .int r])) E
   walk_at "w2"
   refine set_l f1 (by with_unfolding_all rfl) ?_
   rw [List.set_set]
   have f2 : (g.set d (.lst [.ref s, .int (p + 1), .int 0, .int r]))[d]? = some (.lst [.ref s, .int (p + 1), .int 0, .int r]) := List.getElem?_set_self hlt
   show wpS (callW T k) _ _ _ (g.set d (.lst [.ref s, .int (p + 1), .int 0, .int r])) E
   walk_at "w2"
   refine if2 (fun c2 => ?_) (fun c2 => ?_)
   ·walk_at "w2"
    refine set_l f2 (by with_unfolding_all rfl) ?_
    rw [List.set_set]
    refine tail _ _ ⟨s, p + 1, cell, r, xs, List.getElem?_set_self hlt, by rw [List.getElem?_set_ne (Nat.ne_of_gt hsd)]; exact e2, hsd, by omega, ?_, hr, hr2⟩ (Gr.set d g _)
    have : (10 : Int) ^ (18 : Int).toNat <= cell := c2
    have h10 : (0 : Int) <= 10 ^ (18 : Int).toNat := by decide
    omega
   ·walk_at "w2"
    refine a_mul (cmul_r (by decide) (by decide)) ?_
    walk_at "w2"
    refine a_mod (by decide) ?_
    walk_at "w2"
    refine a_mul (cmul_r (by decide) (by decide)) ?_
    walk_at "w2"
    refine a_mod (by decide) ?_
    walk_at "w2"
    refine set_l f2 (by with_unfolding_all rfl) ?_
    rw [List.set_set]
    exact tail _ _ ⟨s, p + 1, 0, _, xs, List.getElem?_set_self hlt, by rw [List.getElem?_set_ne (Nat.ne_of_gt hsd)]; exact e2, hsd, by omega, by decide, Int.emod_nonneg _ (by decide), Int.emod_lt_of_pos _ (by decide)⟩ (Gr.set d g _)
  ·walk_at "w1"
   exact tail _ _ D0 (Gr.refl _ _)
 ·walk_at "w1"
  walk_at "w1"
  exact tail _ _ D0 (Gr.refl _ _)
theorem far_ok {T : Nat -> Option MDef} (hT : T 4 = some mPull) (hT5 : T 5 = some mFar) {k d : Nat} {g : G} {Q : KD} {E : KX} (D0 : Draw g d)
  (h : ∀ r g', Draw g' d -> Gr d g g' -> Q (.int r) g') : callW T (k + 2) 5 [.ref d] g Q E := by
 refine call_of hT5 rfl ?_
 dsimp [mFar, startD, List.replicate]
 walk_at "w2"
 refine pull_ok hT D0 (by decide) (by decide) fun r1 g1 _ _ D1 G1 => ?_
 walk_at "w2"
 refine pull_ok hT D1 (by decide) (by decide) fun r2 g2 _ _ D2 G2 => ?_
 walk_at "w2"
 have G12 := G1.trans G2
 have last : ∀ (x : Int), wpS (callW T (k + 1)) (restS (restS mFar.body)) ⟨fun _ g' => Q .non g', Q, fun _ _ => False, fun _ _ => False⟩ [some (.ref d), some (.int x)] g2 E := fun x => by
  dsimp [mFar, restS]
  walk_at "w2"
  refine pull_ok hT D2 (by decide) (by decide) fun r3 g3 _ _ D3 G3 => ?_
  walk_at "w2"
  refine if2 (fun c => ?_) (fun c => ?_)
  ·walk_at "w2"
   exact h _ _ D3 (G12.trans G3)
  ·walk_at "w2"
   exact h _ _ D3 (G12.trans G3)
 refine if2 (fun c => ?_) (fun c => ?_)
 ·refine w_seqp ?_
  refine w_set ?_
  refine w_p2 ?_
  walk_at "w1"
  refine w_p2 ?_
  walk_at "w1"
  walk_at "w1"
  refine a_pow (by unfold CPow; decide) ?_
  walk_at "w1"
  exact last _
 ·exact last _
noncomputable def mIsNumber : MDef := ⟨1, 1, (.seq (.ret (.and_ (.prim .isin (.cons (.var 0) (.cons (.lit (.ty "int")) .nil))) (.not_ (.prim .isin (.cons (.var 0) (.cons (.lit (.ty "bool")) .nil)))))) .pass)⟩
noncomputable def mNumberFrom : MDef := ⟨3, 3, (.seq (.ret (.and_ (.call 38 (.cons (.var 0) .nil)) (.chain .LtE .LtE (.var 1) (.var 0) (.var 2)))) .pass)⟩
structure NF (T : Nat -> Option MDef) : Prop where
 nf : T 1 = some mNumberFrom
 is : T 38 = some mIsNumber
noncomputable def mOpen : MDef := ⟨1, 1, (.seq (.ret (.prim .lst (.cons (.prim .list (.cons (.prim (.slc false true) (.cons (.var 0) (.cons (.lit (.int 63)) .nil))) .nil)) (.cons (.lit (.int 0)) (.cons (.lit (.int 0)) (.cons (.lit (.int 29)) .nil)))))) .pass)⟩
noncomputable def mNum : MDef := ⟨1, 1, (.seq (.ret (.and_ (.prim .isin (.cons (.var 0) (.cons (.lit (.ty "int")) .nil))) (.not_ (.prim .isin (.cons (.var 0) (.cons (.lit (.ty "bool")) .nil)))))) .pass)⟩
noncomputable def mLike : MDef := ⟨2, 2, (.seq (.ifs (.tst (.prim (.cmp .Is) (.cons (.var 1) (.cons (.lit .non) .nil)))) (.seq (.ret (.prim (.cmp .Is) (.cons (.var 0) (.cons (.lit .non) .nil)))) .pass) .pass) (.seq (.ifs (.tst (.prim .isin (.cons (.var 1) (.cons (.lit (.ty "bool")) .nil)))) (.seq (.ret (.and_ (.prim .isin (.cons (.var 0) (.cons (.lit (.ty "bool")) .nil))) (.prim (.cmp .Eq) (.cons (.var 0) (.cons (.var 1) .nil))))) .pass) .pass) (.seq (.ifs (.tst (.prim .isin (.cons (.var 1) (.cons (.lit (.ty "int")) .nil)))) (.seq (.ret (.and_ (.call 6 (.cons (.var 0) .nil)) (.prim (.cmp .Eq) (.cons (.var 0) (.cons (.var 1) .nil))))) .pass) .pass) (.seq (.ifs (.tst (.prim .isin (.cons (.var 1) (.cons (.lit (.ty "str")) .nil)))) (.seq (.ret (.and_ (.prim .isin (.cons (.var 0) (.cons (.lit (.ty "str")) .nil))) (.prim (.cmp .Eq) (.cons (.var 0) (.cons (.var 1) .nil))))) .pass) .pass) (.seq (.ifs (.or_ (.tst (.prim (.cmp .NotEq) (.cons (.prim .isin (.cons (.var 1) (.cons (.lit (.ty "tuple")) .nil))) (.cons (.prim .isin (.cons (.var 0) (.cons (.lit (.ty "tuple")) .nil))) .nil)))) (.tst (.prim (.cmp .NotEq) (.cons (.prim .isin (.cons (.var 1) (.cons (.lit (.ty "list")) .nil))) (.cons (.prim .isin (.cons (.var 0) (.cons (.lit (.ty "list")) .nil))) .nil))))) (.seq (.ret (.lit (.bl false))) .pass) .pass) (.seq (.ifs (.tst (.prim (.cmp .NotEq) (.cons (.prim .len (.cons (.var 0) .nil)) (.cons (.prim .len (.cons (.var 1) .nil)) .nil)))) (.seq (.ret (.lit (.bl false))) .pass) .pass) (.seq (.ret (.prim .all (.cons (.comp [1, 0] 4 (.one 3) (.itR1 (.prim .len (.cons (.var 1) .nil))) .no (.call 7 (.cons (.prim .ix (.cons (.var 1) (.cons (.var 3) .nil))) (.cons (.prim .ix (.cons (.var 0) (.cons (.var 3) .nil))) .nil)))) .nil))) .pass)))))))⟩
section
variable {T : Nat -> Option MDef} {k d : Nat} {g : G} {Q : KD} {E : KX}
theorem is_number_ok (h1 : NF T) {i : Int} (h : Q (.bl true) g) : callW T (k + 1) 38 [.int i] g Q E := by
 refine call_of h1.is rfl ?_
 dsimp [mIsNumber, startD, List.replicate]
 walk_at "w2"
 refine isi (c := "int") (b := true) (by decide) rfl ?_
 walk_at "w2"
 refine isi (c := "bool") (b := false) (by decide) rfl ?_
 walk_at "w2"
 exact h
theorem number_from_ok (h1 : NF T) {i l m : Int} (h : Q (.bl (decide (l <= i) && decide (i <= m))) g) : callW T (k + 2) 1 [.int i, .int l, .int m] g Q E := by
 refine call_of h1.nf rfl ?_
 dsimp [mNumberFrom, startD, List.replicate]
 walk_at "w2"
 refine is_number_ok h1 ?_
 walk_at "w2"
 refine if2 (fun c => ?_) (fun c => ?_)
 ·rw [decide_eq_true c] at h
  walk_at "w2"
  exact h
 ·rw [decide_eq_false c] at h
  exact h
noncomputable def gm : Int -> List Int -> Bool
 | _, [] => true
 | l, x :: r => (decide (l <= x) && decide (x <= 7)) && gm (x + 1) r
theorem open_ok (h3 : T 3 = some mOpen) {a : Nat} {ns : List Int} (hg : g[a]? = some (.fro (ns.map .int))) (h : ∀ d g', Draw g' d -> g.length <= d -> (∀ i, i < g.length -> g'[i]? = g[i]?) -> Q (.ref d) g') : callW T (k + 1) 3 [.ref a] g Q E := by
 refine call_of h3 rfl ?_
 dsimp [mOpen, startD, List.replicate]
 walk_at "w2"
 refine sl01_l (items_ofF hg) ?_
 walk_at "w2"
 refine lst_l (l := cut (ns.map D.int) none (some 63)) (items_of (by simp)) ?_
 walk_at "w2"
 have ec : cut (ns.map D.int) none (some 63) = (cut ns none (some 63)).map D.int := by
  unfold cut
  simp [List.map_take, List.map_drop]
 refine h _ _ ⟨g.length + 1, 0, 0, 29, cut ns none (some 63), ?_, ?_, ?_, by decide, by decide, by decide, by decide⟩ (by simp) (fun i hi => ?_)
 ·simp
 ·rw [<- ec]; simp
 ·simp
 ·simp [List.getElem?_append, hi, Nat.lt_of_lt_of_le hi (by omega : g.length <= g.length + 1), Nat.lt_of_lt_of_le hi (by omega : g.length <= g.length + 1 + 1)]
end
theorem at_small {α : Type} {l : List α} {r : Int} (h0 : 0 <= r) (h1 : r < l.length) : ∃ v, atI l r = some v /\ v ∈ l := by
 have hi : r.toNat < l.length := by omega
 refine ⟨l[r.toNat], ?_, List.getElem_mem hi⟩
 have := atI_nat (xs := l) (j := r.toNat) (v := l[r.toNat]) (List.getElem?_eq_getElem hi)
 rwa [show ((r.toNat : Nat) : Int) = r by omega] at this
section
variable {T : Nat -> Option MDef} {k d : Nat} {g : G} {Q : KD} {E : KX}
theorem like_bl (h7 : T 7 = some mLike) {a b : Bool} (h : Q (.bl (a == b)) g) : callW T (k + 1) 7 [.bl a, .bl b] g Q E := by
 refine call_of h7 rfl ?_
 dsimp [mLike, startD, List.replicate]
 walk_at "w2"
 walk_at "w2"
 refine isi (c := "bool") (b := true) (by decide) rfl ?_
 walk_at "w2"
 refine isi (c := "bool") (b := true) (by decide) rfl ?_
 walk_at "w2"
 exact h
end
structure Coin where
 lo : Int
 lm : List Int
 up : Int
 um : List Int
 yr : Int
noncomputable def Coin.d (c : Coin) : D := .tup [.int c.lo, .tup (c.lm.map .int), .int c.up, .tup (c.um.map .int), .int c.yr]
noncomputable def goodC (c : Coin) : Bool := ((decide (1 <= c.lo) && decide (c.lo <= 99)) && gm 0 c.lm) && (((decide (1 <= c.up) && decide (c.up <= 99)) && gm 0 c.um) && (decide (0 <= c.yr) && decide (c.yr <= 9999)))
section
variable {T : Nat -> Option MDef} {k d : Nat} {g : G} {Q : KD} {E : KX}
end
noncomputable def mOrderOf : MDef := ⟨2, 5, (.seq (.set 2 (.prim .list (.cons (.var 1) .nil))) (.seq (.set 3 (.prim .lst .nil)) (.seq (.for_ (.one 4) (.itR1 (.prim .len (.cons (.var 1) .nil))) (.seq (.expr (.meth .append (.var 3) (.cons (.meth .pop (.var 2) (.cons (.call 4 (.cons (.var 0) (.cons (.prim .len (.cons (.var 2) .nil)) .nil))) .nil)) .nil))) .pass)) (.seq (.ret (.var 3)) .pass))))⟩
theorem Gr.setN {d x : Nat} {g g' : G} {o : O} (h : Gr d g g') (hx : g.length <= x) : Gr d g (g'.set x o) := ⟨by simp [h.len], fun i h1 h2 => by rw [List.getElem?_set_ne (by omega)]; exact h.old i h1 h2⟩
theorem Draw.setN {g : G} {d x : Nat} {o : O} (h : Draw g d) (hx : d < x) : Draw (g.set x o) d := by
 obtain ⟨s, p, b, r, xs, e1, e2, hs, q⟩ := h.ex
 exact ⟨s, p, b, r, xs, by rw [List.getElem?_set_ne (by omega)]; exact e1, by rw [List.getElem?_set_ne (by omega)]; exact e2, hs, q⟩
theorem get_snoc {g : G} {o : O} : (g ++ [o])[g.length]? = some o := by simp
theorem get_set {g : G} {i : Nat} {o o' : O} (h : g[i]? = some o) : (g.set i o')[i]? = some o' := List.getElem?_set_self (get_lt h)
theorem get_setne {g : G} {i j : Nat} {o o' : O} (h : g[i]? = some o) (hn : j ≠ i) : (g.set j o')[i]? = some o := by rw [List.getElem?_set_ne hn]; exact h
section
variable {T : Nat -> Option MDef} {k d : Nat} {g : G} {Q : KD} {E : KX}
end
noncomputable def mAnyCoin : MDef := ⟨1, 5, (.seq (.set 1 (.prim .lst (.cons (.prim .tup .nil) (.cons (.prim .tup (.cons (.lit (.int 0)) .nil)) (.cons (.prim .tup (.cons (.lit (.int 0)) (.cons (.lit (.int 1)) .nil))) (.cons (.prim .tup (.cons (.lit (.int 1)) .nil)) (.cons (.prim .tup (.cons (.lit (.int 0)) (.cons (.lit (.int 1)) (.cons (.lit (.int 2)) .nil)))) (.cons (.prim .tup (.cons (.lit (.int 0)) (.cons (.lit (.int 1)) (.cons (.lit (.int 2)) (.cons (.lit (.int 7)) .nil))))) (.cons (.prim .tup (.cons (.lit (.int 2)) .nil)) .nil))))))))) (.seq (.set 2 (.prim .ix (.cons (.var 1) (.cons (.call 4 (.cons (.var 0) (.cons (.prim .ix (.cons (.prim .tup (.cons (.lit (.int 4)) (.cons (.lit (.int 7)) .nil))) (.cons (.prim .int (.cons (.prim (.cmp .Eq) (.cons (.call 4 (.cons (.var 0) (.cons (.lit (.int 4)) .nil))) (.cons (.lit (.int 0)) .nil))) .nil)) .nil))) .nil))) .nil)))) (.seq (.set 3 (.prim .ix (.cons (.var 1) (.cons (.call 4 (.cons (.var 0) (.cons (.lit (.int 5)) .nil))) .nil)))) (.seq (.set 4 (.prim .ix (.cons (.prim .lst (.cons (.lit (.int 0)) (.cons (.lit (.int 0)) (.cons (.lit (.int 1400)) (.cons (.lit (.int 1400)) (.cons (.lit (.int 1401)) (.cons (.lit (.int 1)) .nil))))))) (.cons (.call 4 (.cons (.var 0) (.cons (.lit (.int 6)) .nil))) .nil)))) (.seq (.ret (.prim .tup (.cons (.prim (.bin .Add) (.cons (.lit (.int 1)) (.cons (.call 4 (.cons (.var 0) (.cons (.lit (.int 3)) .nil))) .nil))) (.cons (.var 2) (.cons (.prim (.bin .Add) (.cons (.lit (.int 1)) (.cons (.call 4 (.cons (.var 0) (.cons (.lit (.int 4)) .nil))) .nil))) (.cons (.var 3) (.cons (.var 4) .nil))))))) .pass)))))⟩
noncomputable def mSeated : MDef := ⟨4, 4, (.seq (.ifs (.or_ (.tst (.prim (.cmp .Eq) (.cons (.prim .len (.cons (.var 1) .nil)) (.cons (.lit (.int 0)) .nil)))) (.and_ (.tst (.prim (.cmp .Lt) (.cons (.prim .len (.cons (.var 1) .nil)) (.cons (.var 3) .nil)))) (.tst (.prim (.cmp .Eq) (.cons (.call 4 (.cons (.var 0) (.cons (.lit (.int 3)) .nil))) (.cons (.lit (.int 0)) .nil)))))) (.seq (.expr (.meth .append (.var 1) (.cons (.var 2) .nil))) (.seq (.ret (.prim (.bin .Add) (.cons (.var 2) (.cons (.lit (.int 1)) .nil)))) .pass)) .pass) (.seq (.ifs (.tst (.prim (.cmp .Eq) (.cons (.call 4 (.cons (.var 0) (.cons (.lit (.int 5)) .nil))) (.cons (.lit (.int 0)) .nil)))) (.seq (.setix (.var 1) (.call 4 (.cons (.var 0) (.cons (.prim .len (.cons (.var 1) .nil)) .nil))) (.var 2)) (.seq (.ret (.prim (.bin .Add) (.cons (.var 2) (.cons (.lit (.int 1)) .nil)))) .pass)) .pass) (.seq (.ret (.var 2)) .pass)))⟩
structure GCn (c : Coin) : Prop where
 good : goodC c = true
 l8 : c.lm.length <= 8
 u8 : c.um.length <= 8
theorem GCn.inv {c : Coin} (h : GCn c) : (1 <= c.lo /\ c.lo <= 99) /\ gm 0 c.lm = true /\ (1 <= c.up /\ c.up <= 99) /\ gm 0 c.um = true /\ 0 <= c.yr /\ c.yr <= 9999 := by
 have := h.good
 unfold goodC at this
 simp only [Bool.and_eq_true, decide_eq_true_eq] at this
 obtain ⟨⟨⟨a, b⟩, e⟩, ⟨⟨c', d⟩, f⟩, p, q⟩ := this
 exact ⟨⟨a, b⟩, e, ⟨c', d⟩, f, p, q⟩
section
variable {T : Nat -> Option MDef} {k d : Nat} {g : G} {Q : KD} {E : KX}
noncomputable def Seats (l : List D) (f : Int) : Prop := ∃ ns : List Int, l = ns.map .int /\ ∀ n ∈ ns, 1 <= n /\ n < f
theorem Seats.mono {l : List D} {f f' : Int} (h : Seats l f) (hf : f <= f') : Seats l f' := let ⟨ns, e, h⟩ := h; ⟨ns, e, fun n hn => by have := h n hn; omega⟩
end
noncomputable def mStruck : MDef := ⟨3, 17, (.seq (.set 3 (.prim .lst .nil)) (.seq (.set 4 (.lit (.int 1))) (.seq (.set 5 (.prim .dnew .nil)) (.seq (.set 6 (.prim .ix (.cons (.prim .lst (.cons (.lit (.int 0)) (.cons (.lit (.int 1)) (.cons (.lit (.int 1350)) .nil)))) (.cons (.call 4 (.cons (.var 0) (.cons (.lit (.int 3)) .nil))) .nil)))) (.seq (.set 7 (.prim (.bin .Add) (.cons (.lit (.int 1)) (.cons (.call 4 (.cons (.var 0) (.cons (.lit (.int 96)) .nil))) .nil)))) (.seq (.set 8 (.prim (.bin .Add) (.cons (.lit (.int 2)) (.cons (.call 4 (.cons (.var 0) (.cons (.lit (.int 4)) .nil))) .nil)))) (.seq (.set 9 (.prim .max (.cons (.lit (.int 0)) (.cons (.prim (.bin .Sub) (.cons (.call 4 (.cons (.var 0) (.cons (.lit (.int 9)) .nil))) (.cons (.lit (.int 6)) .nil))) .nil)))) (.seq (.set 10 (.prim .lst .nil)) (.seq (.for_ (.one 11) (.itR1 (.var 1)) (.seq (.set 4 (.call 23 (.cons (.var 0) (.cons (.var 3) (.cons (.var 4) (.cons (.var 2) .nil)))))) (.seq (.set 12 (.prim .tup (.cons (.prim .ix (.cons (.var 3) (.cons (.call 4 (.cons (.var 0) (.cons (.prim .len (.cons (.var 3) .nil)) .nil))) .nil))) (.cons (.prim (.bin .Add) (.cons (.lit (.int 50)) (.cons (.call 4 (.cons (.var 0) (.cons (.prim (.bin .Add) (.cons (.lit (.int 2)) (.cons (.var 2) .nil))) .nil))) .nil))) .nil)))) (.seq (.for_ (.one 13) (.itE (.var 12)) (.seq (.ifs (.tst (.prim (.cmp .Eq) (.cons (.call 4 (.cons (.var 0) (.cons (.var 8) .nil))) (.cons (.lit (.int 0)) .nil)))) (.seq (.set 14 (.call 4 (.cons (.var 0) (.cons (.lit (.int 8)) .nil)))) (.seq (.setix (.var 5) (.var 13) (.prim .tuple (.cons (.comp [13, 14, 5] 5 (.one 4) (.itR1 (.lit (.int 8))) (.or_ (.tst (.prim (.cmp .Eq) (.cons (.var 4) (.cons (.var 1) .nil)))) (.tst (.prim (.cmp .In) (.cons (.var 4) (.cons (.meth .get (.var 2) (.cons (.var 0) (.cons (.prim .tup .nil) .nil))) .nil))))) (.var 4)) .nil))) .pass)) .pass) .pass)) (.seq (.ifs (.tst (.prim (.cmp .Eq) (.cons (.call 4 (.cons (.var 0) (.cons (.lit (.int 5)) .nil))) (.cons (.lit (.int 0)) .nil)))) (.seq (.set 6 (.prim .min (.cons (.lit (.int 9999)) (.cons (.prim (.bin .Add) (.cons (.prim (.bin .Add) (.cons (.var 6) (.cons (.lit (.int 1)) .nil))) (.cons (.call 4 (.cons (.var 0) (.cons (.lit (.int 9)) .nil))) .nil))) .nil)))) .pass) .pass) (.seq (.set 15 (.comp [9, 7] 4 (.one 3) (.itE (.var 12)) .no (.prim (.bin .Add) (.cons (.prim (.bin .Add) (.cons (.lit (.int 1)) (.cons (.var 0) .nil))) (.cons (.prim (.bin .Mod) (.cons (.prim (.bin .Mult) (.cons (.var 3) (.cons (.var 1) .nil))) (.cons (.lit (.int 97)) .nil))) .nil))))) (.seq (.set 16 (.prim (.bin .Mult) (.cons (.var 6) (.cons (.prim .int (.cons (.prim (.cmp .Gt) (.cons (.call 4 (.cons (.var 0) (.cons (.lit (.int 4)) .nil))) (.cons (.lit (.int 0)) .nil))) .nil)) .nil)))) (.seq (.expr (.meth .append (.var 10) (.cons (.prim .tup (.cons (.prim .ix (.cons (.var 15) (.cons (.lit (.int 0)) .nil))) (.cons (.meth .get (.var 5) (.cons (.prim .ix (.cons (.var 12) (.cons (.lit (.int 0)) .nil))) (.cons (.prim .tup .nil) .nil))) (.cons (.prim .ix (.cons (.var 15) (.cons (.lit (.int 1)) .nil))) (.cons (.meth .get (.var 5) (.cons (.prim .ix (.cons (.var 12) (.cons (.lit (.int 1)) .nil))) (.cons (.prim .tup .nil) .nil))) (.cons (.var 16) .nil)))))) .nil))) .pass)))))))) (.seq (.ret (.var 10)) .pass))))))))))⟩
noncomputable def Worn (kvs : List (Key × D)) : Prop := ∀ k v, valD kvs k = some v -> ∃ ms : List Int, v = .tup (ms.map .int) /\ gm 0 ms = true /\ ms.length <= 8
theorem valD_put (kvs : List (Key × D)) (k k' : Key) (v : D) : valD (putD kvs k v) k' = if k' = k then some v else valD kvs k' := by
 unfold putD
 split
 ·rename_i hany
  have go : ∀ l : List (Key × D), valD (l.map fun kv => if kv.1 = k then (kv.1, v) else kv) k' = if k' = k then (if (l.any fun kv => decide (kv.1 = k)) = true then some v else none) else valD l k' := by
   intro l
   induction l with
   | nil => simp [valD]
   | cons p r ih =>
    obtain ⟨pk, pv⟩ := p
    by_cases e : pk = k
    ·subst e
     by_cases e2 : k' = pk
     ·subst e2; simp [valD]
     ·have : ¬ pk = k' := fun z => e2 z.symm
      unfold valD at ih ⊢
      simp [this, e2] at ih ⊢
      exact ih
    ·by_cases e2 : k' = k
     ·subst e2
      unfold valD at ih ⊢
      rw [List.any_cons, show decide (pk = k') = false from decide_eq_false e, Bool.false_or]
      simp [e] at ih ⊢
      exact ih
     ·unfold valD at ih ⊢
      simp only [List.map_cons, e, if_false, List.find?_cons]
      by_cases e3 : pk = k'
      ·simp [e3, e2]
      ·simp [e3]
       simp [e2] at ih
       simp [e2]
       exact ih
  rw [go, hany]
  rfl
 ·rename_i hany
  unfold valD
  rw [List.find?_append]
  by_cases e : k' = k
  ·subst e
   have : kvs.find? (fun kv => decide (kv.1 = k')) = none := by
    rw [List.find?_eq_none]
    intro x hx hd
    exact hany (List.any_eq_true.mpr ⟨x, hx, hd⟩)
   rw [this]
   simp
  ·have : ¬ k = k' := fun z => e z.symm
   simp [this, e]
theorem Worn.put {kvs : List (Key × D)} {k : Key} {ms : List Int} (h : Worn kvs) (h1 : gm 0 ms = true) (h2 : ms.length <= 8) : Worn (putD kvs k (.tup (ms.map .int))) := fun k' v hv => by
 rw [valD_put] at hv
 split at hv
 ·cases hv; exact ⟨ms, rfl, h1, h2⟩
 ·exact h k' v hv
theorem Worn.get {kvs : List (Key × D)} (h : Worn kvs) (k : Key) : ∃ ms : List Int, (valD kvs k).getD (.tup []) = .tup (ms.map .int) /\ gm 0 ms = true /\ ms.length <= 8 := by
 cases e : valD kvs k with
 | none => exact ⟨[], rfl, rfl, by simp⟩
 | some v => obtain ⟨ms, rfl, h1, h2⟩ := h k v e; exact ⟨ms, rfl, h1, h2⟩
section
variable {T : Nat -> Option MDef} {k d : Nat} {g : G} {Q : KD} {E : KX}
end
section
variable {T : Nat -> Option MDef} {k d : Nat} {g : G} {Q : KD} {E : KX}
structure StruckSt (d s0 w0 f0 i : Nat) (g : G) (f y : Int) : Prop where
 seats : ∃ l, g[s0]? = some (.lst l) /\ Seats l f /\ l.length <= i
 fr : 1 <= f /\ f <= 1 + i
 worn : ∃ kvs, g[w0]? = some (.dic kvs) /\ Worn kvs /\ kvs.length <= 2 * i
 found : ∃ cs : List Coin, g[f0]? = some (.lst (cs.map Coin.d)) /\ cs.length = i /\ ∀ c ∈ cs, GCn c
 year : 0 <= y /\ y <= 9999
 dr : Draw g d
end
noncomputable def mOpened : MDef := ⟨2, 8, (.seq (.set 2 (.prim .lrng2 (.cons (.lit (.int 1)) (.cons (.prim (.bin .Add) (.cons (.prim (.bin .Add) (.cons (.prim (.bin .FloorDiv) (.cons (.var 1) (.cons (.lit (.int 2)) .nil))) (.cons (.prim (.bin .Mod) (.cons (.var 1) (.cons (.lit (.int 2)) .nil))) .nil))) (.cons (.lit (.int 1)) .nil))) .nil)))) (.seq (.set 3 (.prim (.bin .Add) (.cons (.var 2) (.cons (.prim (.slc false true) (.cons (.call 21 (.cons (.var 0) (.cons (.var 2) .nil))) (.cons (.prim (.bin .FloorDiv) (.cons (.var 1) (.cons (.lit (.int 2)) .nil))) .nil))) .nil)))) (.seq (.set 4 (.call 4 (.cons (.var 0) (.cons (.lit (.int 3)) .nil)))) (.seq (.set 5 (.prim .lst .nil)) (.seq (.for_ (.one 6) (.itR1 (.var 1)) (.seq (.set 7 (.prim .ix (.cons (.prim .lst (.cons (.prim (.bin .Add) (.cons (.lit (.int 1000)) (.cons (.var 6) .nil))) (.cons (.lit (.int 0)) (.cons (.prim (.bin .Add) (.cons (.lit (.int 1)) (.cons (.prim (.bin .FloorDiv) (.cons (.prim (.bin .Mult) (.cons (.lit (.int 2)) (.cons (.var 6) .nil))) (.cons (.prim .max (.cons (.lit (.int 1)) (.cons (.var 1) .nil))) .nil))) .nil))) .nil)))) (.cons (.var 4) .nil)))) (.seq (.expr (.meth .append (.var 5) (.cons (.prim .tup (.cons (.prim .ix (.cons (.var 3) (.cons (.var 6) .nil))) (.cons (.prim .tup .nil) (.cons (.prim (.bin .Add) (.cons (.lit (.int 1)) (.cons (.call 4 (.cons (.var 0) (.cons (.lit (.int 9)) .nil))) .nil))) (.cons (.prim .tup .nil) (.cons (.var 7) .nil)))))) .nil))) .pass))) (.seq (.ret (.var 5)) .pass))))))⟩
noncomputable def mList : MDef := ⟨2, 9, (.seq (.set 2 (.call 4 (.cons (.var 0) (.cons (.prim (.bin .Add) (.cons (.var 1) (.cons (.lit (.int 1)) .nil))) .nil)))) (.seq (.set 3 (.prim (.bin .Add) (.cons (.lit (.int 1)) (.cons (.call 4 (.cons (.var 0) (.cons (.lit (.int 3)) .nil))) .nil)))) (.seq (.set 4 (.call 4 (.cons (.var 0) (.cons (.lit (.int 5)) .nil)))) (.seq (.ifs (.tst (.prim (.cmp .Eq) (.cons (.var 4) (.cons (.lit (.int 0)) .nil)))) (.seq (.ret (.prim .tup (.cons (.comp [0] 3 (.one 2) (.itR1 (.var 2)) .no (.call 22 (.cons (.var 0) .nil))) (.cons (.var 3) .nil)))) .pass) .pass) (.seq (.ifs (.tst (.prim (.cmp .Eq) (.cons (.var 4) (.cons (.lit (.int 4)) .nil)))) (.seq (.set 3 (.prim (.bin .Add) (.cons (.lit (.int 1)) (.cons (.call 4 (.cons (.var 0) (.cons (.lit (.int 6)) .nil))) .nil)))) .pass) .pass) (.seq (.set 5 (.ite (.tst (.prim (.cmp .Eq) (.cons (.var 4) (.cons (.lit (.int 4)) .nil)))) (.call 25 (.cons (.var 0) (.cons (.var 2) .nil))) (.call 24 (.cons (.var 0) (.cons (.var 2) (.cons (.var 3) .nil)))))) (.seq (.set 5 (.comp [5] 3 (.one 2) (.itE (.call 21 (.cons (.var 0) (.cons (.prim .lrng1 (.cons (.var 2) .nil)) .nil)))) .no (.prim .ix (.cons (.var 0) (.cons (.var 2) .nil))))) (.seq (.ifs (.and_ (.tst (.prim (.cmp .Eq) (.cons (.var 4) (.cons (.lit (.int 1)) .nil)))) (.tst (.prim (.cmp .Gt) (.cons (.var 2) (.cons (.lit (.int 0)) .nil))))) (.seq (.set 6 (.call 4 (.cons (.var 0) (.cons (.var 2) .nil)))) (.seq (.set 7 (.prim .ix (.cons (.var 5) (.cons (.var 6) .nil)))) (.seq (.set 8 (.prim .ix (.cons (.var 5) (.cons (.call 4 (.cons (.var 0) (.cons (.var 2) .nil))) .nil)))) (.seq (.setix (.var 5) (.var 6) (.prim .tup (.cons (.prim .ix (.cons (.var 7) (.cons (.lit (.int 0)) .nil))) (.cons (.prim .ix (.cons (.var 8) (.cons (.lit (.int 1)) .nil))) (.cons (.prim .ix (.cons (.var 8) (.cons (.lit (.int 2)) .nil))) (.cons (.prim .ix (.cons (.var 7) (.cons (.lit (.int 3)) .nil))) (.cons (.prim .ix (.cons (.prim .lst (.cons (.prim .ix (.cons (.var 7) (.cons (.lit (.int 4)) .nil))) (.cons (.prim .ix (.cons (.var 8) (.cons (.lit (.int 4)) .nil))) (.cons (.lit (.int 9999)) .nil)))) (.cons (.call 4 (.cons (.var 0) (.cons (.lit (.int 3)) .nil))) .nil))) .nil))))))) .pass)))) .pass) (.seq (.ifs (.tst (.prim (.cmp .Eq) (.cons (.var 4) (.cons (.lit (.int 2)) .nil)))) (.seq (.set 3 (.lit (.int 1))) .pass) .pass) (.seq (.ret (.prim .tup (.cons (.var 5) (.cons (.var 3) .nil)))) .pass))))))))))⟩
section
variable {T : Nat -> Option MDef} {k d : Nat} {g : G} {Q : KD} {E : KX}
end
section
variable {T : Nat -> Option MDef} {k d : Nat} {g : G} {Q : KD} {E : KX}
structure LF (T : Nat -> Option MDef) : Prop where
 pull : T 4 = some mPull
 order : T 21 = some mOrderOf
 any : T 22 = some mAnyCoin
 seated : T 23 = some mSeated
 struck : T 24 = some mStruck
 opened : T 25 = some mOpened
 list : T 26 = some mList
end
noncomputable def mCheckSide : MDef := ⟨1, 1, (.seq (.ifs (.tst (.prim (.cmp .NotIn) (.cons (.var 0) (.cons (.lit (.tup [(.str "lower"), (.str "upper")])) .nil)))) (.seq (.raise "BadSide" (.cons (.lit (.str "a side is lower or upper")) .nil)) .pass) .pass) .pass)⟩
structure Ex (g g' : G) : Prop where
 len : g.length <= g'.length
 old : ∀ i, i < g.length -> g'[i]? = g[i]?
theorem Ex.refl (g : G) : Ex g g := ⟨Nat.le_refl _, fun _ _ => rfl⟩
theorem Ex.trans {g g1 g2 : G} (a : Ex g g1) (b : Ex g1 g2) : Ex g g2 := ⟨Nat.le_trans a.len b.len, fun i h => (b.old i (Nat.lt_of_lt_of_le h a.len)).trans (a.old i h)⟩
theorem Ex.snoc (g : G) (o : O) : Ex g (g ++ [o]) := ⟨by simp, fun i h => List.getElem?_append_left h⟩
theorem Ex.at {g g' : G} (h : Ex g g') {i : Nat} {o : O} (e : g[i]? = some o) : g'[i]? = some o := (h.old i (get_lt e)).trans e
theorem Ex.gr {g g' : G} (h : Ex g g') (d : Nat) : Gr d g g' := ⟨h.len, fun i _ h2 => h.old i h2⟩
theorem Ex.draw {g g' : G} {d : Nat} (h : Ex g g') (D0 : Draw g d) : Draw g' d := by
 obtain ⟨s, p, b, r, xs, e1, e2, q⟩ := D0.ex
 exact ⟨s, p, b, r, xs, h.at e1, h.at e2, q⟩
inductive LikeD (g : G) : Nat -> D -> D -> Prop
 | non {n : Nat} : LikeD g n .non .non
 | bl {n : Nat} (b : Bool) : LikeD g n (.bl b) (.bl b)
 | int {n : Nat} (i : Int) : LikeD g n (.int i) (.int i)
 | str {n : Nat} (x : Str) : LikeD g n (.str x) (.str x)
 | tup {n : Nat} {l m : List D} (hl : l.length = m.length) (h : ∀ (i : Nat) x y, l[i]? = some x -> m[i]? = some y -> LikeD g n x y) (hz : m.length <= 1000) : LikeD g (n + 1) (.tup l) (.tup m)
 | lst {n a b : Nat} {l m : List D} (ha : g[a]? = some (.lst l)) (hb : g[b]? = some (.lst m)) (hl : l.length = m.length) (h : ∀ (i : Nat) x y, l[i]? = some x -> m[i]? = some y -> LikeD g n x y) (hz : m.length <= 1000) : LikeD g (n + 1) (.ref a) (.ref b)
theorem LikeD.ex {g g' : G} (e : Ex g g') {n : Nat} {x y : D} (h : LikeD g n x y) : LikeD g' n x y := by
 induction h with
 | non => exact .non
 | bl b => exact .bl b
 | int i => exact .int i
 | str x => exact .str x
 | tup hl h hz ih => exact .tup hl ih hz
 | lst ha hb hl h hz ih => exact .lst (e.at ha) (e.at hb) hl ih hz
section
variable {T : Nat -> Option MDef} {k d : Nat} {g : G} {Q : KD} {E : KX}
theorem num_ok (h6 : T 6 = some mNum) {i : Int} (h : Q (.bl true) g) : callW T (k + 1) 6 [.int i] g Q E := by
 refine call_of h6 rfl ?_
 dsimp [mNum, startD, List.replicate]
 walk_at "w5"
 refine isi (c := "int") (b := true) (by decide) rfl ?_
 walk_at "w5"
 refine isi (c := "bool") (b := false) (by decide) rfl ?_
 walk_at "w5"
 exact h
noncomputable def likeAll : MS := match mLike.body with
 | .seq _ (.seq _ (.seq _ (.seq _ (.seq _ b)))) => b
 | x => x
theorem like_true (h6 : T 6 = some mNum) (h7 : T 7 = some mLike) : ∀ (n : Nat) {k : Nat} {g : G} {x y : D} {Q : KD} {E : KX}, LikeD g n x y -> (∀ g', Ex g g' -> Q (.bl true) g') -> callW T (k + n + 2) 7 [x, y] g Q E := by
 have seqs : ∀ (n : Nat), (∀ {k : Nat} {g : G} {x y : D} {Q : KD} {E : KX}, LikeD g n x y -> (∀ g', Ex g g' -> Q (.bl true) g') -> callW T (k + n + 2) 7 [x, y] g Q E) ->
   ∀ {k : Nat} {g : G} {x y : D} {l m : List D} {Q : KD} {E : KX}, (∀ g', Ex g g' -> itemsD g' x = some l) -> (∀ g', Ex g g' -> itemsD g' y = some m) -> l.length = m.length -> m.length <= 1000 -> (∀ (i : Nat) x y, l[i]? = some x -> m[i]? = some y -> LikeD g n x y) -> (∀ g', Ex g g' -> Q (.bl true) g') ->
   wpS (callW T (k + n + 2)) likeAll ⟨fun _ g' => Q .non g', Q, fun _ _ => False, fun _ _ => False⟩ [some x, some y] g E := by
  intro n ih k g x y l m Q E hx hy hl hz hs hQ
  have len : ∀ (z : D) (l : List D) (g' : G) (Q' : KD), itemsD g' z = some l -> Q' (.int l.length) g' -> prP .len [z] g' Q' := fun z l g' Q' e q => ⟨_, _, ⟨rfl, .inl ⟨z, l, rfl, e, rfl⟩⟩, q⟩
  dsimp [likeAll, mLike]
  refine w_seq (w_ifs (w_tst (w_p2 (w_p1 (w_var rfl (len _ _ _ _ (hx g (Ex.refl g)) ?_))))))
  refine w_p1 (w_var rfl (len _ _ _ _ (hy g (Ex.refl g)) ?_))
  refine c_nei ?_
  rw [hl, decide_eq_true rfl]
  walk_at "w5"
  refine w_comp (callW_mono T _) (i_r1 (callW_mono T _) ?_)
  refine w_p1 (w_var rfl (len _ _ _ _ (hy g (Ex.refl g)) ?_))
  refine ⟨_, rfl, by omega, by omega, rngD 0 m.length, fun i ys σ g' => ∃ z w, ys = List.replicate i (.bl true) /\ σ = [some y, some x, z, w] /\ Ex g g', by rw [rng_len]; exact hz, fun i ys σ g' p => ⟨is_fix, ?_⟩, ⟨none, none, rfl, rfl, Ex.refl g⟩, fun i z ys σ g' hz p => ?_, fun ys σ g' p => ?_⟩
  ·obtain ⟨z, w, rfl, _⟩ := p
   simp
  ·obtain ⟨z, w, rfl, rfl, e⟩ := p
   obtain ⟨hi, rfl⟩ := rng_get hz
   have h1 : l[i]? = some l[i] := List.getElem?_eq_getElem (by omega)
   have h2 : m[i]? = some m[i] := List.getElem?_eq_getElem hi
   have a1 : atI l (0 + (i : Int)) = some l[i] := by rw [Int.zero_add]; exact atI_nat h1
   have a2 : atI m (0 + (i : Int)) = some m[i] := by rw [Int.zero_add]; exact atI_nat h2
   show wpT _ _ _ _ _ _
   refine w_tno (ift (w_call (w_cons (w_p2 (w_var rfl (w_var rfl ⟨_, _, ⟨rfl, .inl ⟨_, l, _, rfl, hx g' e, a1⟩⟩, ?_⟩))))))
   refine w_cons (w_p2 (w_var rfl (w_var rfl ⟨_, _, ⟨rfl, .inl ⟨_, m, _, rfl, hy g' e, a2⟩⟩, ?_⟩)))
   refine w_nil (ih ((hs i _ _ h1 h2).ex e) fun g2 e2 => ?_)
   exact ⟨_, _, by rw [List.replicate_succ'], rfl, e.trans e2⟩
  ·obtain ⟨z, w, rfl, rfl, e⟩ := p
   refine all_b (items_of get_snoc) (v := true) ?_ (hQ _ (e.trans (Ex.snoc _ _)))
   have : List.replicate (rngD 0 m.length).length (D.bl true) = (List.replicate (rngD 0 m.length).length true).map D.bl := by simp
   rw [this, allBl_map]
   simp
 intro n
 induction n with
 | zero =>
  intro k g x y Q E h hQ
  have h0 := hQ g (Ex.refl g)
  cases h with
  | non =>
   refine call_of h7 rfl ?_
   dsimp [mLike, startD, List.replicate]
   walk_at "w5"
   exact h0
  | bl b => exact like_bl h7 (by simpa using h0)
  | int i =>
   refine call_of h7 rfl ?_
   dsimp [mLike, startD, List.replicate]
   walk_at "w5"
   try show wpS _ _ _ _ _ _
   walk_at "w5"
   refine isi (c := "bool") (b := false) (by decide) rfl ?_
   walk_at "w5"
   refine isi (c := "int") (b := true) (by decide) rfl ?_
   walk_at "w5"
   refine num_ok h6 ?_
   walk_at "w5"
   simpa using h0
  | str x =>
   refine call_of h7 rfl ?_
   dsimp [mLike, startD, List.replicate]
   walk_at "w5"
   try show wpS _ _ _ _ _ _
   walk_at "w5"
   refine isi (c := "bool") (b := false) (by decide) rfl ?_
   walk_at "w5"
   refine isi (c := "int") (b := false) (by decide) rfl ?_
   walk_at "w5"
   refine isi (c := "str") (b := true) (by decide) rfl ?_
   walk_at "w5"
   refine isi (c := "str") (b := true) (by decide) rfl ?_
   walk_at "w5"
   simpa using h0
 | succ n ih =>
  intro k g x y Q E h hQ
  have h0 := hQ g (Ex.refl g)
  cases h with
  | non =>
   refine call_of h7 rfl ?_
   dsimp [mLike, startD, List.replicate]
   walk_at "w5"
   exact h0
  | bl b => exact like_bl h7 (by simpa using h0)
  | int i =>
   refine call_of h7 rfl ?_
   dsimp [mLike, startD, List.replicate]
   walk_at "w5"
   try show wpS _ _ _ _ _ _
   walk_at "w5"
   refine isi (c := "bool") (b := false) (by decide) rfl ?_
   walk_at "w5"
   refine isi (c := "int") (b := true) (by decide) rfl ?_
   walk_at "w5"
   refine num_ok h6 ?_
   walk_at "w5"
   simpa using h0
  | str x =>
   refine call_of h7 rfl ?_
   dsimp [mLike, startD, List.replicate]
   walk_at "w5"
   try show wpS _ _ _ _ _ _
   walk_at "w5"
   refine isi (c := "bool") (b := false) (by decide) rfl ?_
   walk_at "w5"
   refine isi (c := "int") (b := false) (by decide) rfl ?_
   walk_at "w5"
   refine isi (c := "str") (b := true) (by decide) rfl ?_
   walk_at "w5"
   refine isi (c := "str") (b := true) (by decide) rfl ?_
   walk_at "w5"
   simpa using h0
  | @tup _ l m hl hs hz =>
   refine call_of h7 rfl ?_
   have body := seqs n ih (k := k) (x := .tup l) (y := .tup m) (E := E) (fun _ _ => rfl) (fun _ _ => rfl) hl hz hs hQ
   dsimp [mLike, startD, List.replicate]
   walk_at "w5"
   try show wpS _ _ _ _ _ _
   walk_at "w5"
   refine isi (c := "bool") (b := false) (by decide) rfl ?_
   walk_at "w5"
   refine isi (c := "int") (b := false) (by decide) rfl ?_
   walk_at "w5"
   refine isi (c := "str") (b := false) (by decide) rfl ?_
   walk_at "w5"
   refine isi (c := "tuple") (b := true) (by decide) rfl ?_
   walk_at "w5"
   refine isi (c := "tuple") (b := true) (by decide) rfl ?_
   walk_at "w5"
   refine ifF rfl ?_
   walk_at "w5"
   refine isi (c := "list") (b := false) (by decide) rfl ?_
   walk_at "w5"
   refine isi (c := "list") (b := false) (by decide) rfl ?_
   walk_at "w5"
   refine ifF rfl (w_pass ?_)
   exact body
  | @lst _ a b l m ha hb hl hs hz =>
   refine call_of h7 rfl ?_
   have body := seqs n ih (k := k) (x := .ref a) (y := .ref b) (E := E) (fun g' e => items_of (e.at ha)) (fun g' e => items_of (e.at hb)) hl hz hs hQ
   have ta : ∀ c, isTy g (.ref a) c = some (c == "list") := fun c => by simp only [isTy, ha]
   have tb : ∀ c, isTy g (.ref b) c = some (c == "list") := fun c => by simp only [isTy, hb]
   dsimp [mLike, startD, List.replicate]
   walk_at "w5"
   try show wpS _ _ _ _ _ _
   walk_at "w5"
   refine isi (c := "bool") (b := false) (by decide) (tb _) ?_
   walk_at "w5"
   refine isi (c := "int") (b := false) (by decide) (tb _) ?_
   walk_at "w5"
   refine isi (c := "str") (b := false) (by decide) (tb _) ?_
   walk_at "w5"
   refine isi (c := "tuple") (b := false) (by decide) (tb _) ?_
   walk_at "w5"
   refine isi (c := "tuple") (b := false) (by decide) (ta _) ?_
   walk_at "w5"
   refine ifF rfl ?_
   walk_at "w5"
   refine isi (c := "list") (b := true) (by decide) (tb _) ?_
   walk_at "w5"
   refine isi (c := "list") (b := true) (by decide) (ta _) ?_
   walk_at "w5"
   refine ifF rfl (w_pass ?_)
   exact body
end
section
variable {T : Nat -> Option MDef} {k d : Nat} {g : G} {Q : KD} {E : KX}
theorem in_sides {g : G} {x : Str} {kb : Bool -> Prop} (hx : PyData.strOk x = true) (h : kb (decide (x = "lower") || decide (x = "upper"))) : inP g (.str x) (.tup [.str "lower", .str "upper"]) kb := by
 refine ⟨_, .inr ⟨_, [.str "lower", .str "upper"], .str x, rfl, rfl, rfl, by simp only [PyData.canLayAll0, PyData.canLay0, Bool.and_true]; decide +kernel, by simp only [PyData.canLay0]; exact hx, rfl⟩, ?_⟩
 have e : ∀ y : Str, PyData.eqv (.str y) (.str x) = decide (x = y) := fun y => by
  simp only [PyData.eqv]
  rw [Bool.eq_iff_iff, beq_iff_eq, decide_eq_true_iff]
  exact eq_comm
 simp only [List.any_cons, List.any_nil, Bool.or_false, e]
 exact h
theorem check_side_ok (h40 : T 40 = some mCheckSide) {x : Str} (ho : PyData.strOk x = true) (h1 : x = "lower" \/ x = "upper" -> Q .non g) (h3 : x ≠ "lower" -> x ≠ "upper" -> E ⟨"BadSide"⟩ g) : callW T (k + 1) 40 [.str x] g Q E := by
 refine call_of h40 rfl ?_
 dsimp [mCheckSide, startD, List.replicate]
 walk_at "w5"
 refine c_nin (in_sides ho ?_)
 walk_at "w5"
 by_cases e : x = "lower" \/ x = "upper"
 ·refine ifF (by rw [Bool.not_eq_false', Bool.or_eq_true, decide_eq_true_iff, decide_eq_true_iff]; exact e) ?_
  walk_at "w5"
  exact h1 e
 ·refine ifT (by rw [Bool.not_eq_true', Bool.or_eq_false_iff, decide_eq_false_iff_not, decide_eq_false_iff_not]; exact not_or.mp e) ?_
  walk_at "w5"
  exact h3 (fun z => e (.inl z)) (fun z => e (.inr z))
end
section
variable {T : Nat -> Option MDef} {k d : Nat} {g : G} {Q : KD} {E : KX}
end
noncomputable def Coin.py (c : Coin) : PyData := .tuple [.int c.lo, .tuple (c.lm.map .int), .int c.up, .tuple (c.um.map .int), .int c.yr]
section
variable {T : Nat -> Option MDef} {k d : Nat} {g : G} {Q : KD} {E : KX}
end
theorem in_sidesL {g : G} {a : Nat} {x : Str} {kb : Bool -> Prop} (ha : g[a]? = some (.lst [.str "lower", .str "upper"])) (hx : PyData.strOk x = true) (h : kb (decide (x = "lower") || decide (x = "upper"))) : inP g (.str x) (.ref a) kb := by
 refine ⟨_, .inr ⟨_, [.str "lower", .str "upper"], .str x, items_of ha, rfl, rfl, by simp only [PyData.canLayAll0, PyData.canLay0, Bool.and_true]; decide +kernel, by simp only [PyData.canLay0]; exact hx, rfl⟩, ?_⟩
 have e : ∀ y : Str, PyData.eqv (.str y) (.str x) = decide (x = y) := fun y => by
  simp only [PyData.eqv]
  rw [Bool.eq_iff_iff, beq_iff_eq, decide_eq_true_iff]
  exact eq_comm
 simp only [List.any_cons, List.any_nil, Bool.or_false, e]
 exact h
noncomputable def mCheckAnvils : MDef := ⟨1, 1, (.seq (.ifs (.not_ (.tst (.call 1 (.cons (.var 0) (.cons (.lit (.int 1)) (.cons (.lit (.int 9)) .nil)))))) (.seq (.raise "BadAnvils" (.cons (.lit (.str "there are from one to nine anvils")) .nil)) .pass) .pass) .pass)⟩
noncomputable def mCheckCut : MDef := ⟨2, 2, (.seq (.ifs (.not_ (.tst (.call 1 (.cons (.var 1) (.cons (.lit (.int 1)) (.cons (.prim .len (.cons (.var 0) .nil)) .nil)))))) (.seq (.raise "NoDie" (.cons (.lit (.str "no such die was cut")) .nil)) .pass) .pass) .pass)⟩
noncomputable def mNear : MDef := ⟨2, 2, (.seq (.ifs (.tst (.prim (.cmp .Eq) (.cons (.call 4 (.cons (.var 0) (.cons (.lit (.int 12)) .nil))) (.cons (.lit (.int 7)) .nil)))) (.seq (.ret (.call 5 (.cons (.var 0) .nil))) .pass) .pass) (.seq (.ret (.prim (.bin .Sub) (.cons (.call 4 (.cons (.var 0) (.cons (.prim (.bin .Add) (.cons (.var 1) (.cons (.lit (.int 4)) .nil))) .nil))) (.cons (.lit (.int 2)) .nil)))) .pass))⟩
noncomputable def mRefused : MDef := ⟨1, 1, (.seq (.ret (.and_ (.prim .isin (.cons (.var 0) (.cons (.lit (.ty "list")) .nil))) (.and_ (.prim (.cmp .Eq) (.cons (.prim .len (.cons (.var 0) .nil)) (.cons (.lit (.int 1)) .nil))) (.prim (.cmp .Eq) (.cons (.prim .ix (.cons (.var 0) (.cons (.lit (.int 0)) .nil))) (.cons (.lit (.str "refused")) .nil)))))) .pass)⟩
noncomputable def mModel : MDef := ⟨1, 1, (.seq (.ret (.dct (.cons (.lit (.str "seats")) (.cons (.prim (.bin .Mult) (.cons (.prim .lst (.cons (.lit .non) .nil)) (.cons (.var 0) .nil))) (.cons (.lit (.str "lower")) (.cons (.prim .lst .nil) (.cons (.lit (.str "upper")) (.cons (.prim .lst .nil) (.cons (.lit (.str "gone")) (.cons (.prim .lst .nil) (.cons (.lit (.str "year")) (.cons (.lit (.int 0)) (.cons (.lit (.str "coins")) (.cons (.prim .lst .nil) .nil)))))))))))))) .pass)⟩
noncomputable def mMCut : MDef := ⟨2, 2, (.seq (.ifs (.tst (.prim (.cmp .NotIn) (.cons (.var 1) (.cons (.prim .lst (.cons (.lit (.str "lower")) (.cons (.lit (.str "upper")) .nil))) .nil)))) (.seq (.ret (.prim .tup (.cons (.lit (.str "BadSide")) (.cons (.lit .non) .nil)))) .pass) .pass) (.seq (.ifs (.tst (.prim (.cmp .Gt) (.cons (.prim .len (.cons (.prim .ix (.cons (.var 0) (.cons (.var 1) .nil))) .nil)) (.cons (.lit (.int 98)) .nil)))) (.seq (.ret (.prim .tup (.cons (.lit (.str "Full")) (.cons (.lit .non) .nil)))) .pass) .pass) (.seq (.expr (.meth .append (.prim .ix (.cons (.var 0) (.cons (.var 1) .nil))) (.cons (.prim .tup .nil) .nil))) (.seq (.ret (.prim .tup (.cons (.lit (.str "")) (.cons (.prim .len (.cons (.prim .ix (.cons (.var 0) (.cons (.var 1) .nil))) .nil)) .nil)))) .pass))))⟩
noncomputable def mMintStands : MDef := ⟨2, 5, (.seq (.ifs (.or_ (.not_ (.tst (.call 7 (.cons (.methc "anvils" [("Mint", 60)] (.var 0) .nil) (.cons (.prim .ix (.cons (.var 1) (.cons (.lit (.str "seats")) .nil))) .nil))))) (.not_ (.tst (.call 7 (.cons (.methc "year" [("Mint", 64)] (.var 0) .nil) (.cons (.prim .ix (.cons (.var 1) (.cons (.lit (.str "year")) .nil))) .nil)))))) (.seq (.ret (.lit (.bl false))) .pass) .pass) (.seq (.for_ (.one 2) (.itE (.prim .lst (.cons (.lit (.str "lower")) (.cons (.lit (.str "upper")) .nil)))) (.seq (.ifs (.not_ (.tst (.call 7 (.cons (.methc "dies" [("Mint", 61)] (.var 0) (.cons (.var 2) .nil)) (.cons (.prim .len (.cons (.prim .ix (.cons (.var 1) (.cons (.var 2) .nil))) .nil)) .nil))))) (.seq (.ret (.lit (.bl false))) .pass) .pass) (.seq (.ifs (.not_ (.tst (.prim .all (.cons (.comp [1, 0, 2] 5 (.one 4) (.itR1 (.prim .len (.cons (.prim .ix (.cons (.var 1) (.cons (.var 2) .nil))) .nil))) .no (.call 7 (.cons (.methc "marks" [("Mint", 62)] (.var 1) (.cons (.var 2) (.cons (.prim (.bin .Add) (.cons (.var 4) (.cons (.lit (.int 1)) .nil))) .nil))) (.cons (.prim .ix (.cons (.prim .ix (.cons (.var 0) (.cons (.var 2) .nil))) (.cons (.var 4) .nil))) .nil)))) .nil)))) (.seq (.ret (.lit (.bl false))) .pass) .pass) .pass))) (.seq (.for_ (.one 3) (.itR2 (.lit (.int 1)) (.prim (.bin .Add) (.cons (.prim .len (.cons (.prim .ix (.cons (.var 1) (.cons (.lit (.str "lower")) .nil))) .nil)) (.cons (.lit (.int 1)) .nil)))) (.seq (.set 4 (.ite (.tst (.prim (.cmp .In) (.cons (.var 3) (.cons (.prim .ix (.cons (.var 1) (.cons (.lit (.str "gone")) .nil))) .nil)))) (.lit (.str "gone")) (.ite (.tst (.prim (.cmp .In) (.cons (.var 3) (.cons (.prim .ix (.cons (.var 1) (.cons (.lit (.str "seats")) .nil))) .nil)))) (.lit (.str "fixed")) (.lit (.str "new"))))) (.seq (.ifs (.not_ (.tst (.call 7 (.cons (.methc "state" [("Mint", 63)] (.var 0) (.cons (.var 3) .nil)) (.cons (.var 4) .nil))))) (.seq (.ret (.lit (.bl false))) .pass) .pass) .pass))) (.seq (.ifs (.not_ (.tst (.call 7 (.cons (.methc "struck" [("Mint", 65)] (.var 0) .nil) (.cons (.prim .len (.cons (.prim .ix (.cons (.var 1) (.cons (.lit (.str "coins")) .nil))) .nil)) .nil))))) (.seq (.ret (.lit (.bl false))) .pass) .pass) (.seq (.ret (.call 7 (.cons (.methc "hoard" [("Mint", 67)] (.var 0) (.cons (.prim .lrng1 (.cons (.prim .len (.cons (.prim .ix (.cons (.var 1) (.cons (.lit (.str "coins")) .nil))) .nil)) .nil)) .nil)) (.cons (.prim .ix (.cons (.var 1) (.cons (.lit (.str "coins")) .nil))) .nil)))) .pass)))))⟩
noncomputable def mMintInit : MDef := ⟨2, 2, (.seq (.expr (.call 42 (.cons (.var 1) .nil))) (.seq (.setf "bench" ["Mint"] (.var 0) (.prim (.bin .Mult) (.cons (.prim .tup (.cons (.lit .non) .nil)) (.cons (.var 1) .nil)))) (.seq (.setf "laid_off" ["Mint"] (.var 0) (.prim .tup .nil)) (.seq (.setf "lower_wear" ["Mint"] (.var 0) (.prim .tup .nil)) (.seq (.setf "upper_wear" ["Mint"] (.var 0) (.prim .tup .nil)) (.seq (.setf "present" ["Mint"] (.var 0) (.lit (.int 0))) (.seq (.setf "output" ["Mint"] (.var 0) (.prim .tup .nil)) .pass)))))))⟩
noncomputable def mMintWearOf : MDef := ⟨2, 2, (.seq (.expr (.call 40 (.cons (.var 1) .nil))) (.seq (.ifs (.tst (.prim (.cmp .Eq) (.cons (.var 1) (.cons (.lit (.str "lower")) .nil)))) (.seq (.ret (.prim (.fld "lower_wear") (.cons (.var 0) .nil))) .pass) .pass) (.seq (.ret (.prim (.fld "upper_wear") (.cons (.var 0) .nil))) .pass)))⟩
noncomputable def mMintPutWear : MDef := ⟨3, 3, (.seq (.ifs (.tst (.prim (.cmp .Eq) (.cons (.var 1) (.cons (.lit (.str "lower")) .nil)))) (.seq (.setf "lower_wear" ["Mint"] (.var 0) (.var 2)) .pass) (.seq (.setf "upper_wear" ["Mint"] (.var 0) (.var 2)) .pass)) .pass)⟩
noncomputable def mMintCut : MDef := ⟨2, 3, (.seq (.set 2 (.methc "wear_of" [("Mint", 52)] (.var 0) (.cons (.var 1) .nil))) (.seq (.ifs (.tst (.prim (.cmp .Eq) (.cons (.prim .len (.cons (.var 2) .nil)) (.cons (.lit (.int 99)) .nil)))) (.seq (.raise "Full" (.cons (.lit (.str "no more dies of that side are cut")) .nil)) .pass) .pass) (.seq (.expr (.methc "put_wear" [("Mint", 53)] (.var 0) (.cons (.var 1) (.cons (.prim (.bin .Add) (.cons (.var 2) (.cons (.prim .tup (.cons (.prim .tup .nil) .nil)) .nil))) .nil)))) (.seq (.ret (.prim (.bin .Add) (.cons (.prim .len (.cons (.var 2) .nil)) (.cons (.lit (.int 1)) .nil)))) .pass))))⟩
noncomputable def mMintAnvils : MDef := ⟨1, 1, (.seq (.ret (.prim .list (.cons (.prim (.fld "bench") (.cons (.var 0) .nil)) .nil))) .pass)⟩
noncomputable def mMintDies : MDef := ⟨2, 2, (.seq (.ret (.prim .len (.cons (.methc "wear_of" [("Mint", 52)] (.var 0) (.cons (.var 1) .nil)) .nil))) .pass)⟩
noncomputable def mMintMarks : MDef := ⟨3, 4, (.seq (.set 3 (.methc "wear_of" [("Mint", 52)] (.var 0) (.cons (.var 1) .nil))) (.seq (.expr (.call 43 (.cons (.var 3) (.cons (.var 2) .nil)))) (.seq (.ret (.prim .ix (.cons (.var 3) (.cons (.prim (.bin .Sub) (.cons (.var 2) (.cons (.lit (.int 1)) .nil))) .nil)))) .pass)))⟩
noncomputable def mMintState : MDef := ⟨2, 2, (.seq (.expr (.call 43 (.cons (.prim (.fld "lower_wear") (.cons (.var 0) .nil)) (.cons (.var 1) .nil)))) (.seq (.ifs (.tst (.prim (.cmp .In) (.cons (.var 1) (.cons (.prim (.fld "bench") (.cons (.var 0) .nil)) .nil)))) (.seq (.ret (.lit (.str "fixed"))) .pass) .pass) (.seq (.ifs (.tst (.prim (.cmp .In) (.cons (.var 1) (.cons (.prim (.fld "laid_off") (.cons (.var 0) .nil)) .nil)))) (.seq (.ret (.lit (.str "gone"))) .pass) .pass) (.seq (.ret (.lit (.str "new"))) .pass))))⟩
noncomputable def mMintYear : MDef := ⟨1, 1, (.seq (.ret (.prim (.fld "present") (.cons (.var 0) .nil))) .pass)⟩
noncomputable def mMintStruck : MDef := ⟨1, 1, (.seq (.ret (.prim .len (.cons (.prim (.fld "output") (.cons (.var 0) .nil)) .nil))) .pass)⟩
noncomputable def mMintCoin : MDef := ⟨2, 2, (.seq (.ifs (.not_ (.tst (.call 1 (.cons (.var 1) (.cons (.lit (.int 0)) (.cons (.prim (.bin .Sub) (.cons (.prim .len (.cons (.prim (.fld "output") (.cons (.var 0) .nil)) .nil)) (.cons (.lit (.int 1)) .nil))) .nil)))))) (.seq (.raise "NoCoin" (.cons (.lit (.str "no coin has that number")) .nil)) .pass) .pass) (.seq (.ret (.prim .ix (.cons (.prim (.fld "output") (.cons (.var 0) .nil)) (.cons (.var 1) .nil)))) .pass))⟩
noncomputable def mMintHoard : MDef := ⟨2, 2, (.seq (.ret (.comp [0] 3 (.one 2) (.itE (.var 1)) .no (.methc "coin" [("Mint", 66)] (.var 0) (.cons (.var 2) .nil)))) .pass)⟩
noncomputable abbrev unw (a : Nat) : D := .tup (List.replicate a (.tup []))
noncomputable def mintX (be la : D) (a b : Nat) : O := .ins "Mint" [("bench", be), ("laid_off", la), ("lower_wear", unw a), ("upper_wear", unw b), ("present", .int 0), ("output", .tup [])]
noncomputable abbrev mintO (n a b : Nat) : O := mintX (.tup (List.replicate n .non)) (.tup []) a b
noncomputable def mKvs (q : Nat) : List (Key × D) := [(.inr "seats", .ref (q + 2)), (.inr "lower", .ref (q + 3)), (.inr "upper", .ref (q + 4)), (.inr "gone", .ref (q + 5)), (.inr "year", .int 0), (.inr "coins", .ref (q + 6))]
structure MM (g : G) (d m q n a b c e : Nat) : Prop where
 dm : d < m
 mq : m < q
 mint : g[m]? = some (mintO n a b)
 dic : g[q]? = some (.dic (mKvs q))
 seats : g[q + 2]? = some (.lst (List.replicate n .non))
 lower : g[q + 3]? = some (.lst (List.replicate c (.tup [])))
 upper : g[q + 4]? = some (.lst (List.replicate e (.tup [])))
 gone : g[q + 5]? = some (.lst [])
 coins : g[q + 6]? = some (.lst [])
theorem MM.gr {g g' : G} {d m q n a b c e : Nat} (h : MM g d m q n a b c e) (x : Gr d g g') : MM g' d m q n a b c e := by
 have h1 := h.dm
 have h2 := h.mq
 exact ⟨h1, h2, x.at (by omega) h.mint, x.at (by omega) h.dic, x.at (by omega) h.seats, x.at (by omega) h.lower, x.at (by omega) h.upper, x.at (by omega) h.gone, x.at (by omega) h.coins⟩
theorem MM.ex {g g' : G} {d m q n a b c e : Nat} (h : MM g d m q n a b c e) (x : Ex g g') : MM g' d m q n a b c e := h.gr (x.gr d)
theorem MM.setM {g : G} {d m q n a b c e : Nat} (h : MM g d m q n a b c e) (a' b' : Nat) : MM (g.set m (mintO n a' b')) d m q n a' b' c e := by
 have h2 := h.mq
 exact ⟨h.dm, h2, get_set h.mint, get_setne h.dic (by omega), get_setne h.seats (by omega), get_setne h.lower (by omega), get_setne h.upper (by omega), get_setne h.gone (by omega), get_setne h.coins (by omega)⟩
theorem MM.setL {g : G} {d m q n a b c e : Nat} (h : MM g d m q n a b c e) (c' : Nat) : MM (g.set (q + 3) (.lst (List.replicate c' (.tup [])))) d m q n a b c' e := by
 have h2 := h.mq
 exact ⟨h.dm, h2, get_setne h.mint (by omega), get_setne h.dic (by omega), get_setne h.seats (by omega), get_set h.lower, get_setne h.upper (by omega), get_setne h.gone (by omega), get_setne h.coins (by omega)⟩
theorem put_lt {f : Str} {v : D} {fs : List (Str × D)} {n : Nat} (h : fs.length < n) : (putFD f v fs).length < n + 1 := by
 induction fs generalizing n with
 | nil => simp [putFD]; omega
 | cons p r ih =>
  obtain ⟨y, z⟩ := p
  simp only [putFD]
  split
  ·simp at h ⊢; omega
  ·have := ih (n := n - 1) (by simp at h; omega)
   simp at h ⊢; omega
structure TM (T : Nat -> Option MDef) : Prop where
 nf : NF T
 h40 : T 40 = some mCheckSide
 h42 : T 42 = some mCheckAnvils
 h43 : T 43 = some mCheckCut
 h51 : T 51 = some mMintInit
 h52 : T 52 = some mMintWearOf
 h53 : T 53 = some mMintPutWear
 h54 : T 54 = some mMintCut
 h60 : T 60 = some mMintAnvils
 h61 : T 61 = some mMintDies
 h62 : T 62 = some mMintMarks
 h63 : T 63 = some mMintState
 h64 : T 64 = some mMintYear
 h65 : T 65 = some mMintStruck
 h66 : T 66 = some mMintCoin
 h67 : T 67 = some mMintHoard
section
variable {T : Nat -> Option MDef} {k d : Nat} {g : G} {Q : KD} {E : KX} {m n a b : Nat} {x : Str} {be la : D}
theorem check_anvils_ok (hT : TM T) {v : Int} (h1 : 1 <= v /\ v <= 9 -> Q .non g) (h2 : ¬ (1 <= v /\ v <= 9) -> E ⟨"BadAnvils"⟩ g) : callW T (k + 3) 42 [.int v] g Q E := by
 refine call_of hT.h42 rfl ?_
 dsimp [mCheckAnvils, startD, List.replicate]
 walk_at "w5"
 refine number_from_ok hT.nf ?_
 walk_at "w5"
 by_cases hv : 1 <= v /\ v <= 9
 ·rw [decide_eq_true hv.1, decide_eq_true hv.2]
  walk_at "w5"
  exact h1 hv
 ·have : (decide (1 <= v) && decide (v <= 9)) = false := by
   rw [Bool.and_eq_false_iff, decide_eq_false_iff_not, decide_eq_false_iff_not]
   exact Classical.not_and_iff_not_or_not.mp hv
  rw [this]
  walk_at "w5"
  exact h2 hv
theorem init_ok (hT : TM T) {v : Int} (hm : g[m]? = some (.ins "Mint" [])) (h1 : ∀ n : Nat, v = n -> 1 <= n -> n <= 9 -> Q .non (g.set m (mintO n 0 0))) (h2 : ¬ (1 <= v /\ v <= 9) -> E ⟨"BadAnvils"⟩ g) : callW T (k + 4) 51 [.ref m, .int v] g Q E := by
 refine call_of hT.h51 rfl ?_
 dsimp [mMintInit, startD, List.replicate]
 walk_at "w5"
 refine check_anvils_ok hT (fun hv => ?_) h2
 walk_at "w5"
 refine b_repT (by simp) hv.1 (by omega) (by simp; omega) ?_
 walk_at "w5"
 refine set_f hm (by simp) (by simp) ?_
 walk_at "w5"
 refine set_f (get_set hm) (by simp) (by repeat (first | (simp; done) | refine put_lt ?_)) ?_
 rw [List.set_set]
 walk_at "w5"
 refine set_f (get_set hm) (by simp) (by repeat (first | (simp; done) | refine put_lt ?_)) ?_
 rw [List.set_set]
 walk_at "w5"
 refine set_f (get_set hm) (by simp) (by repeat (first | (simp; done) | refine put_lt ?_)) ?_
 rw [List.set_set]
 walk_at "w5"
 refine set_f (get_set hm) (by simp) (by repeat (first | (simp; done) | refine put_lt ?_)) ?_
 rw [List.set_set]
 walk_at "w5"
 refine set_f (get_set hm) (by simp) (by repeat (first | (simp; done) | refine put_lt ?_)) ?_
 rw [List.set_set]
 walk_at "w5"
 obtain ⟨n, rfl⟩ : ∃ n : Nat, v = n := ⟨v.toNat, by omega⟩
 have := h1 n rfl (by omega) (by omega)
 have e : (List.replicate (Int.toNat (n : Int)) [D.non]).flatten = List.replicate n .non := by
  rw [Int.toNat_natCast, List.flatten_replicate_singleton]
 rw [e]
 exact this
theorem wear_of_ok (hT : TM T) (hm : g[m]? = some (mintX be la a b)) (ho : PyData.strOk x = true) (h1 : x = "lower" -> Q (unw a) g) (h2 : x = "upper" -> Q (unw b) g) (h3 : x ≠ "lower" -> x ≠ "upper" -> E ⟨"BadSide"⟩ g) : callW T (k + 2) 52 [.ref m, .str x] g Q E := by
 refine call_of hT.h52 rfl ?_
 dsimp [mMintWearOf, startD, List.replicate]
 walk_at "w5"
 refine check_side_ok hT.h40 ho (fun hx => ?_) h3
 walk_at "w5"
 refine if2 (fun c => ?_) (fun c => ?_)
 ·walk_at "w5"
  exact fld_ hm rfl (h1 c)
 ·walk_at "w5"
  exact fld_ hm rfl (h2 (hx.resolve_left c))
theorem put_wear_ok (hT : TM T) (hm : g[m]? = some (mintX be la a b)) {c : Nat} (h1 : x = "lower" -> Q .non (g.set m (mintX be la c b))) (h2 : x ≠ "lower" -> Q .non (g.set m (mintX be la a c))) : callW T (k + 1) 53 [.ref m, .str x, unw c] g Q E := by
 refine call_of hT.h53 rfl ?_
 dsimp [mMintPutWear, startD, List.replicate]
 walk_at "w5"
 refine if2 (fun c => ?_) (fun c => ?_)
 ·walk_at "w5"
  refine set_f hm (by simp) (by simp) ?_
  walk_at "w5"
  exact h1 c
 ·walk_at "w5"
  refine set_f hm (by simp) (by simp) ?_
  walk_at "w5"
  exact h2 c
theorem cut_ok (hT : TM T) (hm : g[m]? = some (mintX be la a b)) (ho : PyData.strOk x = true) (ha : a <= 99) (hb : b <= 99) (h1 : x = "lower" -> a < 99 -> Q (.int ((a : Int) + 1)) (g.set m (mintX be la (a + 1) b))) (h2 : x = "upper" -> b < 99 -> Q (.int ((b : Int) + 1)) (g.set m (mintX be la a (b + 1))))
  (h3 : x ≠ "lower" -> x ≠ "upper" -> E ⟨"BadSide"⟩ g) (h4 : (x = "lower" /\ a = 99 \/ x = "upper" /\ b = 99) -> E ⟨"Full"⟩ g) : callW T (k + 3) 54 [.ref m, .str x] g Q E := by
 refine call_of hT.h54 rfl ?_
 dsimp [mMintCut, startD, List.replicate]
 walk_at "w5"
 refine meth_ex hm rfl rfl ?_
 walk_at "w5"
 have cat : ∀ c : Nat, [D.tup []] = [D.tup []] -> List.replicate c (D.tup []) ++ [D.tup []] = List.replicate (c + 1) (D.tup []) := fun c _ => by rw [List.replicate_succ']
 refine wear_of_ok (k := k) hT hm ho (fun e => ?_) (fun e => ?_) h3
 ·walk_at "w5"
  rw [List.length_replicate]
  refine if2 (fun c => ?_) (fun c => ?_)
  ·walk_at "w5"
   exact h4 (.inl ⟨e, by omega⟩)
  ·walk_at "w5"
   refine meth_ex hm rfl rfl ?_
   walk_at "w5"
   refine b_tup (by simp; omega) ?_
   rw [cat a rfl]
   walk_at "w5"
   refine put_wear_ok hT hm (c := a + 1) (fun e => ?_) (fun z => absurd e z)
   walk_at "w5"
   rw [List.length_replicate]
   exact h1 e (by omega)
 ·walk_at "w5"
  rw [List.length_replicate]
  refine if2 (fun c => ?_) (fun c => ?_)
  ·walk_at "w5"
   exact h4 (.inr ⟨e, by omega⟩)
  ·walk_at "w5"
   refine meth_ex hm rfl rfl ?_
   walk_at "w5"
   refine b_tup (by simp; omega) ?_
   rw [cat b rfl]
   walk_at "w5"
   refine put_wear_ok hT hm (c := b + 1) (fun z => absurd (e.symm.trans z) (by decide)) (fun _ => ?_)
   walk_at "w5"
   rw [List.length_replicate]
   exact h2 e (by omega)
theorem check_cut_ok (hT : TM T) {l : List D} {v : Int} (h1 : 1 <= v /\ v <= l.length -> Q .non g) (h2 : ¬ (1 <= v /\ v <= l.length) -> E ⟨"NoDie"⟩ g) : callW T (k + 3) 43 [.tup l, .int v] g Q E := by
 refine call_of hT.h43 rfl ?_
 dsimp [mCheckCut, startD, List.replicate]
 walk_at "w5"
 refine number_from_ok hT.nf ?_
 walk_at "w5"
 by_cases hv : 1 <= v /\ v <= l.length
 ·rw [decide_eq_true hv.1, decide_eq_true hv.2]
  walk_at "w5"
  exact h1 hv
 ·have : (decide (1 <= v) && decide (v <= (l.length : Int))) = false := by
   rw [Bool.and_eq_false_iff, decide_eq_false_iff_not, decide_eq_false_iff_not]
   exact Classical.not_and_iff_not_or_not.mp hv
  rw [this]
  walk_at "w5"
  exact h2 hv
theorem dies_ok (hT : TM T) (hm : g[m]? = some (mintX be la a b)) (ho : PyData.strOk x = true) (h1 : x = "lower" -> Q (.int a) g) (h2 : x = "upper" -> Q (.int b) g) (h3 : x ≠ "lower" -> x ≠ "upper" -> E ⟨"BadSide"⟩ g) : callW T (k + 3) 61 [.ref m, .str x] g Q E := by
 refine call_of hT.h61 rfl ?_
 dsimp [mMintDies, startD, List.replicate]
 walk_at "w5"
 refine meth_ex hm rfl rfl ?_
 walk_at "w5"
 refine wear_of_ok (k := k) hT hm ho (fun e => ?_) (fun e => ?_) h3
 ·walk_at "w5"
  rw [List.length_replicate]
  exact h1 e
 ·walk_at "w5"
  rw [List.length_replicate]
  exact h2 e
noncomputable def cntOf (x : Str) (a b : Nat) : Nat := if x = "lower" then a else b
theorem at_unw {c : Nat} {v : Int} (h : 1 <= v /\ v <= c) : atI (List.replicate c (D.tup [])) (v - 1) = some (.tup []) := by
 obtain ⟨y, h1, h2⟩ := at_small (l := List.replicate c (D.tup [])) (r := v - 1) (by omega) (by simp; omega)
 rw [h1, List.eq_of_mem_replicate h2]
theorem marks_ok (hT : TM T) (hm : g[m]? = some (mintX be la a b)) (ho : PyData.strOk x = true) (hx : x = "lower" \/ x = "upper") {v : Int} (hv : 1 <= v /\ v <= cntOf x a b) (h : Q (.tup []) g) : callW T (k + 4) 62 [.ref m, .str x, .int v] g Q E := by
 refine call_of hT.h62 rfl ?_
 dsimp [mMintMarks, startD, List.replicate]
 walk_at "w5"
 refine meth_ex hm rfl rfl ?_
 walk_at "w5"
 have fin : ∀ c : Nat, c = cntOf x a b -> wpS (callW T (k + 3)) (match mMintMarks.body with | .seq _ b => b | x => x) ⟨fun _ g' => Q .non g', Q, fun _ _ => False, fun _ _ => False⟩ [some (.ref m), some (.str x), some (.int v), some (unw c)] g E := by
  intro c hc
  dsimp [mMintMarks]
  walk_at "w5"
  refine check_cut_ok hT (fun _ => ?_) (fun z => absurd ⟨hv.1, by rw [List.length_replicate, hc]; exact hv.2⟩ z)
  walk_at "w5"
  exact ix_t (at_unw (by rw [hc]; exact hv)) h
 refine wear_of_ok (k := k + 1) hT hm ho (fun e => ?_) (fun e => ?_) (fun z1 z2 => (hx.elim z1 z2).elim)
 ·exact fin a (by unfold cntOf; rw [if_pos e])
 ·exact fin b (by unfold cntOf; rw [if_neg (by rw [e]; decide)])
theorem anvils_ok (hT : TM T) {bl : List D} (hm : g[m]? = some (mintX (.tup bl) la a b)) (h : Q (.ref g.length) (g ++ [.lst bl])) : callW T (k + 1) 60 [.ref m] g Q E := by
 refine call_of hT.h60 rfl ?_
 dsimp [mMintAnvils, startD, List.replicate]
 walk_at "w5"
 refine fld_ hm rfl ?_
 walk_at "w5"
 exact h
theorem year_ok (hT : TM T) (hm : g[m]? = some (mintX be la a b)) (h : Q (.int 0) g) : callW T (k + 1) 64 [.ref m] g Q E := by
 refine call_of hT.h64 rfl ?_
 dsimp [mMintYear, startD, List.replicate]
 walk_at "w5"
 exact fld_ hm rfl h
theorem mstruck_ok (hT : TM T) (hm : g[m]? = some (mintX be la a b)) (h : Q (.int 0) g) : callW T (k + 1) 65 [.ref m] g Q E := by
 refine call_of hT.h65 rfl ?_
 dsimp [mMintStruck, startD, List.replicate]
 walk_at "w5"
 refine fld_ hm rfl ?_
 walk_at "w5"
 exact h
theorem hoard_ok (hT : TM T) (hm : g[m]? = some (mintX be la a b)) {c : Nat} (hc : g[c]? = some (.lst [])) (h : Q (.ref g.length) (g ++ [.lst []])) : callW T (k + 1) 67 [.ref m, .ref c] g Q E := by
 refine call_of hT.h67 rfl ?_
 dsimp [mMintHoard, startD, List.replicate]
 walk_at "w5"
 refine w_comp (callW_mono T _) (i_l (callW_mono T _) ?_)
 walk_at "w5"
 refine ⟨c, _, rfl, items_of hc, [], fun i ys σ g' => ys = [] /\ g' = g, by simp, fun i ys σ g' p => ?_, ⟨rfl, rfl⟩, fun i x ys σ g' hx p => ?_, fun ys σ g' p => ?_⟩
 ·obtain ⟨rfl, rfl⟩ := p
  exact ⟨is_lst (items_of hc), by simp⟩
 ·simp at hx
 ·obtain ⟨rfl, rfl⟩ := p
  exact h
end
noncomputable def mWithThing : MDef := ⟨3, 3, (.seq (.ret (.prim (.bin .Add) (.cons (.prim (.bin .Add) (.cons (.prim (.slc false true) (.cons (.var 0) (.cons (.var 1) .nil))) (.cons (.prim .tup (.cons (.var 2) .nil)) .nil))) (.cons (.prim (.slc true false) (.cons (.var 0) (.cons (.prim (.bin .Add) (.cons (.var 1) (.cons (.lit (.int 1)) .nil))) .nil))) .nil)))) .pass)⟩
noncomputable def mMintFix : MDef := ⟨2, 4, (.seq (.set 2 (.methc "state" [("Mint", 63)] (.var 0) (.cons (.var 1) .nil))) (.seq (.ifs (.tst (.prim (.cmp .Eq) (.cons (.var 2) (.cons (.lit (.str "fixed")) .nil)))) (.seq (.raise "Fixed" (.cons (.lit (.str "the die is on an anvil")) .nil)) .pass) .pass) (.seq (.ifs (.tst (.prim (.cmp .Eq) (.cons (.var 2) (.cons (.lit (.str "gone")) .nil)))) (.seq (.raise "Gone" (.cons (.lit (.str "the die was laid off")) .nil)) .pass) .pass) (.seq (.ifs (.tst (.prim (.cmp .NotIn) (.cons (.lit .non) (.cons (.prim (.fld "bench") (.cons (.var 0) .nil)) .nil)))) (.seq (.raise "NoAnvil" (.cons (.lit (.str "no anvil is free")) .nil)) .pass) .pass) (.seq (.set 3 (.meth .index (.prim (.fld "bench") (.cons (.var 0) .nil)) (.cons (.lit .non) .nil))) (.seq (.setf "bench" ["Mint"] (.var 0) (.call 177 (.cons (.prim (.fld "bench") (.cons (.var 0) .nil)) (.cons (.var 3) (.cons (.var 1) .nil))))) (.seq (.ret (.var 3)) .pass)))))))⟩
noncomputable def mMintLayOff : MDef := ⟨2, 3, (.seq (.ifs (.tst (.prim (.cmp .NotEq) (.cons (.methc "state" [("Mint", 63)] (.var 0) (.cons (.var 1) .nil)) (.cons (.lit (.str "fixed")) .nil)))) (.seq (.raise "NotFixed" (.cons (.lit (.str "the die is on no anvil")) .nil)) .pass) .pass) (.seq (.set 2 (.meth .index (.prim (.fld "bench") (.cons (.var 0) .nil)) (.cons (.var 1) .nil))) (.seq (.setf "bench" ["Mint"] (.var 0) (.call 177 (.cons (.prim (.fld "bench") (.cons (.var 0) .nil)) (.cons (.var 2) (.cons (.lit .non) .nil))))) (.seq (.augf "laid_off" ["Mint"] (.var 0) (.prim .tup (.cons (.var 1) .nil))) (.seq (.ret (.var 2)) .pass)))))⟩
noncomputable def SeatD (x : D) : Prop := x = .non \/ ∃ i, x = .int i
noncomputable def eqS (y z : D) : Bool := eqV (toV z) (toV y)
noncomputable def pyS : D -> PyData
 | .int i => .int i
 | _ => .none
theorem seat_rd {g : G} {x : D} (h : SeatD x) {n : Nat} : rd g n x = some (pyS x) := by
 rcases h with rfl | ⟨i, rfl⟩ <;> cases n <;> rfl
theorem seat_lay {x : D} (h : SeatD x) : (pyS x).canLay0 = true := by
 rcases h with rfl | ⟨i, rfl⟩ <;> simp [pyS, PyData.canLay0]
theorem seat_eqv {x y : D} (hx : SeatD x) (hy : SeatD y) : PyData.eqv (pyS x) (pyS y) = eqS y x := by
 rcases hx with rfl | ⟨i, rfl⟩ <;> rcases hy with rfl | ⟨j, rfl⟩ <;> simp [pyS, PyData.eqv, eqS, eqV, toV]
theorem seats_rd {g : G} {l : List D} (h : ∀ x ∈ l, SeatD x) : rds g l = some (l.map pyS) := by
 unfold rds
 induction l with
 | nil => rfl
 | cons x r ih =>
  rw [List.mapM_cons, seat_rd (h x (by simp)), ih fun z hz => h z (by simp [hz])]
  rfl
theorem seats_lay {l : List D} (h : ∀ x ∈ l, SeatD x) : PyData.canLayAll0 (l.map pyS) = true := by
 induction l with
 | nil => rfl
 | cons x r ih =>
  rw [List.map_cons]
  simp only [PyData.canLayAll0, seat_lay (h x (by simp)), ih fun z hz => h z (by simp [hz])]
  rfl
theorem in_seats {g : G} {x y : D} {l : List D} {kb : Bool -> Prop} (hi : itemsD g x = some l) (hl : ∀ z ∈ l, SeatD z) (hy : SeatD y) (h : kb (l.any (eqS y))) : inP g y x kb := by
 refine ⟨_, .inr ⟨l, l.map pyS, pyS y, hi, seats_rd hl, seat_rd hy, seats_lay hl, seat_lay hy, rfl⟩, ?_⟩
 have e : ((l.map pyS).any fun q => PyData.eqv q (pyS y)) = l.any (eqS y) := by
  rw [List.any_map]
  clear h hi
  induction l with
  | nil => rfl
  | cons z r ih =>
   rw [List.any_cons, List.any_cons, ih fun w hw => hl w (by simp [hw])]
   show (PyData.eqv (pyS z) (pyS y) || _) = _
   rw [seat_eqv (hl z (by simp)) hy]
 rw [e]
 exact h
theorem eqS_iff {y z : D} (hy : SeatD y) (hz : SeatD z) : eqS y z = true ↔ z = y := by
 rcases hy with rfl | ⟨i, rfl⟩ <;> rcases hz with rfl | ⟨j, rfl⟩ <;> simp [eqS, eqV, toV]
theorem seat_flat {x : D} (h : SeatD x) : flatD x = true := by rcases h with rfl | ⟨i, rfl⟩ <;> rfl
theorem first_of {l : List D} {y : D} (hl : ∀ z ∈ l, SeatD z) (hy : SeatD y) (h : l.any (eqS y) = true) : ∃ n, FirstD l y n /\ n < l.length /\ l[n]? = some y := by
 have hall : l.all flatD = true := List.all_eq_true.mpr fun x hx => seat_flat (hl x hx)
 suffices ∃ n, n < l.length /\ l[n]? = some y /\ ∀ (m : Nat) z, m < n -> l[m]? = some z -> eqV (toV z) (toV y) = false by
  obtain ⟨n, h1, h2, h3⟩ := this
  exact ⟨n, ⟨hall, seat_flat hy, ⟨y, h2, (eqS_iff hy hy).mpr rfl⟩, h3⟩, h1, h2⟩
 clear hall
 induction l with
 | nil => simp at h
 | cons x r ih =>
  cases e : eqS y x with
  | true =>
   have := (eqS_iff hy (hl x (by simp))).mp e
   subst this
   exact ⟨0, by simp, rfl, fun m z hm => absurd hm (by omega)⟩
  | false =>
   rw [List.any_cons, e, Bool.false_or] at h
   obtain ⟨n, h1, h2, h3⟩ := ih (fun z hz => hl z (by simp [hz])) h
   refine ⟨n + 1, by simpa using h1, by simpa using h2, fun m z hm hz => ?_⟩
   cases m with
   | zero => cases hz; exact e
   | succ m => exact h3 m z (by omega) (by simpa using hz)
theorem cutLo {α : Type} {l : List α} {n : Nat} : cut l (some (n : Int)) none = l.drop n := by
 have : ¬ ((n : Int) < 0) := by omega
 unfold cut HT.sIx
 simp [this]
 by_cases h : n <= l.length
 ·rw [Nat.min_eq_left h, List.take_of_length_le (by simp)]
 ·rw [Nat.min_eq_right (by omega), List.drop_eq_nil_of_le (Nat.le_refl _), List.drop_eq_nil_of_le (by omega)]
  simp
theorem cutHi {α : Type} {l : List α} {n : Nat} : cut l none (some (n : Int)) = l.take n := by
 have : ¬ ((n : Int) < 0) := by omega
 unfold cut HT.sIx
 simp [this]
noncomputable abbrev mintG (bl : List D) (go : List Int) (a : Nat) : O := mintX (.tup bl) (.tup (go.map .int)) a 0
section
variable {T : Nat -> Option MDef} {k d : Nat} {g : G} {Q : KD} {E : KX} {m a : Nat} {bl : List D} {go : List Int}
theorem with_thing_ok (h177 : T 177 = some mWithThing) {l : List D} {n : Nat} {x : D} (hn : n < l.length) (hz : l.length <= 1000) (h : Q (.tup (l.set n x)) g) : callW T (k + 1) 177 [.tup l, .int n, x] g Q E := by
 refine call_of h177 rfl ?_
 dsimp [mWithThing, startD, List.replicate]
 walk_at "w5"
 rw [cutHi]
 refine b_tup (by simp; omega) ?_
 walk_at "w5"
 rw [show ((n : Int) + 1) = ((n + 1 : Nat) : Int) by omega, cutLo]
 refine b_tup (by simp; omega) ?_
 have e : l.take n ++ [x] ++ l.drop (n + 1) = l.set n x := by
  rw [List.set_eq_take_append_cons_drop, if_pos hn]
  simp
 rw [e]
 exact h
theorem ints_seat {go : List Int} : ∀ z ∈ go.map D.int, SeatD z := fun z hz => by
 obtain ⟨i, _, rfl⟩ := List.mem_map.mp hz
 exact .inr ⟨i, rfl⟩
theorem stateG_ok (hT : TM T) (hm : g[m]? = some (mintG bl go a)) (hb : ∀ z ∈ bl, SeatD z) {v : Int} (h0 : ¬ (1 <= v /\ v <= a) -> E ⟨"NoDie"⟩ g) (h1 : 1 <= v /\ v <= a -> bl.any (eqS (.int v)) = true -> Q (.str "fixed") g)
  (h2 : 1 <= v /\ v <= a -> bl.any (eqS (.int v)) = false -> (go.map D.int).any (eqS (.int v)) = true -> Q (.str "gone") g) (h3 : 1 <= v /\ v <= a -> bl.any (eqS (.int v)) = false -> (go.map D.int).any (eqS (.int v)) = false -> Q (.str "new") g) :
  callW T (k + 4) 63 [.ref m, .int v] g Q E := by
 refine call_of hT.h63 rfl ?_
 dsimp [mMintState, startD, List.replicate]
 walk_at "w5"
 refine fld_ hm rfl ?_
 walk_at "w5"
 refine check_cut_ok hT (fun hv => ?_) (fun z => h0 (fun y => z ⟨y.1, by rw [List.length_replicate]; exact y.2⟩))
 rw [List.length_replicate] at hv
 walk_at "w5"
 refine fld_ hm rfl ?_
 walk_at "w5"
 refine c_in (in_seats (l := bl) rfl hb (.inr ⟨v, rfl⟩) ?_)
 walk_at "w5"
 cases e1 : bl.any (eqS (.int v)) with
 | true =>
  refine ift ?_
  walk_at "w5"
  exact h1 hv e1
 | false =>
  refine iff' ?_
  walk_at "w5"
  refine fld_ hm rfl ?_
  walk_at "w5"
  refine c_in (in_seats (l := go.map D.int) rfl ints_seat (.inr ⟨v, rfl⟩) ?_)
  walk_at "w5"
  cases e2 : (go.map D.int).any (eqS (.int v)) with
  | true =>
   refine ift ?_
   walk_at "w5"
   exact h2 hv e1 e2
  | false =>
   refine iff' ?_
   walk_at "w5"
   exact h3 hv e1 e2
theorem fix_ok (hT : TM T) (h55 : T 55 = some mMintFix) (h177 : T 177 = some mWithThing) (hm : g[m]? = some (mintG bl go a)) (hb : ∀ z ∈ bl, SeatD z) (hz : bl.length <= 9) {v : Int} (h0 : ¬ (1 <= v /\ v <= a) -> E ⟨"NoDie"⟩ g) (h1 : 1 <= v /\ v <= a -> bl.any (eqS (.int v)) = true -> E ⟨"Fixed"⟩ g)
  (h2 : 1 <= v /\ v <= a -> bl.any (eqS (.int v)) = false -> (go.map D.int).any (eqS (.int v)) = true -> E ⟨"Gone"⟩ g)
  (h3 : 1 <= v /\ v <= a -> bl.any (eqS (.int v)) = false -> (go.map D.int).any (eqS (.int v)) = false -> bl.any (eqS .non) = false -> E ⟨"NoAnvil"⟩ g)
  (h4 : ∀ n, 1 <= v /\ v <= a -> bl.any (eqS (.int v)) = false -> (go.map D.int).any (eqS (.int v)) = false -> FirstD bl .non n -> n < bl.length -> Q (.int n) (g.set m (mintG (bl.set n (.int v)) go a))) :
  callW T (k + 5) 55 [.ref m, .int v] g Q E := by
 refine call_of h55 rfl ?_
 dsimp [mMintFix, startD, List.replicate]
 walk_at "w5"
 refine meth_ex hm rfl rfl ?_
 walk_at "w5"
 refine stateG_ok (k := k) hT hm hb h0 (fun hv e1 => ?_) (fun hv e1 e2 => ?_) (fun hv e1 e2 => ?_)
 ·walk_at "w5"
  refine ifT (by decide +kernel) ?_
  walk_at "w5"
  exact h1 hv e1
 ·walk_at "w5"
  refine ifF (by decide +kernel) ?_
  walk_at "w5"
  refine ifT (by decide +kernel) ?_
  walk_at "w5"
  exact h2 hv e1 e2
 ·walk_at "w5"
  refine ifF (by decide +kernel) ?_
  walk_at "w5"
  refine ifF (by decide +kernel) ?_
  walk_at "w5"
  refine fld_ hm rfl ?_
  walk_at "w5"
  refine c_nin (in_seats (l := bl) rfl hb (.inl rfl) ?_)
  walk_at "w5"
  cases e3 : bl.any (eqS .non) with
  | false =>
   refine ifT rfl ?_
   walk_at "w5"
   exact h3 hv e1 e2 e3
  | true =>
   refine ifF rfl ?_
   obtain ⟨n, W, hn, _⟩ := first_of hb (.inl rfl) e3
   walk_at "w5"
   refine fld_ hm rfl ?_
   refine ⟨mk_ixT, ?_⟩
   walk_at "w5"
   refine m_ixT W (by omega) ?_
   walk_at "w5"
   refine fld_ hm rfl ?_
   walk_at "w5"
   refine with_thing_ok (k := k + 3) h177 hn (by omega) ?_
   walk_at "w5"
   refine set_f hm (by simp) (by simp) ?_
   walk_at "w5"
   exact h4 n hv e1 e2 W hn
theorem lay_off_ok (hT : TM T) (h56 : T 56 = some mMintLayOff) (h177 : T 177 = some mWithThing) (hm : g[m]? = some (mintG bl go a)) (hb : ∀ z ∈ bl, SeatD z) (hz : bl.length <= 9) (hgo : go.length <= 1000) {v : Int} (h0 : ¬ (1 <= v /\ v <= a) -> E ⟨"NoDie"⟩ g) (h1 : 1 <= v /\ v <= a -> bl.any (eqS (.int v)) = false -> E ⟨"NotFixed"⟩ g)
  (h2 : ∀ n, 1 <= v /\ v <= a -> bl.any (eqS (.int v)) = true -> FirstD bl (.int v) n -> n < bl.length -> Q (.int n) (g.set m (mintG (bl.set n .non) (go ++ [v]) a))) : callW T (k + 5) 56 [.ref m, .int v] g Q E := by
 refine call_of h56 rfl ?_
 dsimp [mMintLayOff, startD, List.replicate]
 walk_at "w5"
 refine meth_ex hm rfl rfl ?_
 walk_at "w5"
 refine stateG_ok (k := k) hT hm hb h0 (fun hv e1 => ?_) (fun hv e1 e2 => ?_) (fun hv e1 e2 => ?_)
 ·walk_at "w5"
  refine ifF (by decide +kernel) ?_
  obtain ⟨n, W, hn, _⟩ := first_of hb (.inr ⟨v, rfl⟩) e1
  walk_at "w5"
  refine fld_ hm rfl ?_
  refine ⟨mk_ixT, ?_⟩
  walk_at "w5"
  refine m_ixT W (by omega) ?_
  walk_at "w5"
  refine fld_ hm rfl ?_
  walk_at "w5"
  refine with_thing_ok (k := k + 3) h177 hn (by omega) ?_
  walk_at "w5"
  refine set_f hm (by simp) (by simp) ?_
  have e2 : (O.ins "Mint" (putFD "bench" (.tup (bl.set n .non)) [("bench", .tup bl), ("laid_off", .tup (go.map .int)), ("lower_wear", unw a), ("upper_wear", unw 0), ("present", .int 0), ("output", .tup [])])) = mintG (bl.set n .non) go a := rfl
  rw [e2]
  have hm2 : (g.set m (mintG (bl.set n .non) go a))[m]? = some (mintG (bl.set n .non) go a) := get_set hm
  have h4 := h2 n hv e1 W hn
  walk_at "w5"
  refine w_augf ?_
  walk_at "w5"
  refine ⟨m, _, _, _, rfl, hm2, by simp, rfl, ?_⟩
  walk_at "w5"
  refine ia_tup (by simp; omega) ?_
  refine ⟨_, hm2, by simp, ?_⟩
  rw [List.set_set]
  have e3 : (O.ins "Mint" (putFD "laid_off" (.tup (go.map .int ++ [.int v])) [("bench", .tup (bl.set n .non)), ("laid_off", .tup (go.map .int)), ("lower_wear", unw a), ("upper_wear", unw 0), ("present", .int 0), ("output", .tup [])])) = mintG (bl.set n .non) (go ++ [v]) a := by
   unfold mintG
   rw [List.map_append]
   rfl
  rw [e3]
  walk_at "w5"
  exact h4
 ·walk_at "w5"
  refine ifT (by decide +kernel) ?_
  walk_at "w5"
  exact h1 hv e1
 ·walk_at "w5"
  refine ifT (by decide +kernel) ?_
  walk_at "w5"
  exact h1 hv e1
end
noncomputable def mMFix : MDef := ⟨2, 3, (.seq (.ifs (.not_ (.tst (.chain .LtE .LtE (.lit (.int 1)) (.var 1) (.prim .len (.cons (.prim .ix (.cons (.var 0) (.cons (.lit (.str "lower")) .nil))) .nil))))) (.seq (.ret (.prim .tup (.cons (.lit (.str "NoDie")) (.cons (.lit .non) .nil)))) .pass) .pass) (.seq (.ifs (.tst (.prim (.cmp .In) (.cons (.var 1) (.cons (.prim .ix (.cons (.var 0) (.cons (.lit (.str "seats")) .nil))) .nil)))) (.seq (.ret (.prim .tup (.cons (.lit (.str "Fixed")) (.cons (.lit .non) .nil)))) .pass) .pass) (.seq (.ifs (.tst (.prim (.cmp .In) (.cons (.var 1) (.cons (.prim .ix (.cons (.var 0) (.cons (.lit (.str "gone")) .nil))) .nil)))) (.seq (.ret (.prim .tup (.cons (.lit (.str "Gone")) (.cons (.lit .non) .nil)))) .pass) .pass) (.seq (.ifs (.tst (.prim (.cmp .NotIn) (.cons (.lit .non) (.cons (.prim .ix (.cons (.var 0) (.cons (.lit (.str "seats")) .nil))) .nil)))) (.seq (.ret (.prim .tup (.cons (.lit (.str "NoAnvil")) (.cons (.lit .non) .nil)))) .pass) .pass) (.seq (.set 2 (.meth .index (.prim .ix (.cons (.var 0) (.cons (.lit (.str "seats")) .nil))) (.cons (.lit .non) .nil))) (.seq (.setix (.prim .ix (.cons (.var 0) (.cons (.lit (.str "seats")) .nil))) (.var 2) (.var 1)) (.seq (.ret (.prim .tup (.cons (.lit (.str "")) (.cons (.var 2) .nil)))) .pass)))))))⟩
noncomputable def mMOff : MDef := ⟨2, 3, (.seq (.ifs (.not_ (.tst (.chain .LtE .LtE (.lit (.int 1)) (.var 1) (.prim .len (.cons (.prim .ix (.cons (.var 0) (.cons (.lit (.str "lower")) .nil))) .nil))))) (.seq (.ret (.prim .tup (.cons (.lit (.str "NoDie")) (.cons (.lit .non) .nil)))) .pass) .pass) (.seq (.ifs (.tst (.prim (.cmp .NotIn) (.cons (.var 1) (.cons (.prim .ix (.cons (.var 0) (.cons (.lit (.str "seats")) .nil))) .nil)))) (.seq (.ret (.prim .tup (.cons (.lit (.str "NotFixed")) (.cons (.lit .non) .nil)))) .pass) .pass) (.seq (.set 2 (.meth .index (.prim .ix (.cons (.var 0) (.cons (.lit (.str "seats")) .nil))) (.cons (.var 1) .nil))) (.seq (.setix (.prim .ix (.cons (.var 0) (.cons (.lit (.str "seats")) .nil))) (.var 2) (.lit .non)) (.seq (.expr (.meth .append (.prim .ix (.cons (.var 0) (.cons (.lit (.str "gone")) .nil))) (.cons (.var 1) .nil))) (.seq (.ret (.prim .tup (.cons (.lit (.str "")) (.cons (.var 2) .nil)))) .pass))))))⟩
structure MG (g : G) (d m q : Nat) (bl cl : List D) (go co : List Int) (a : Nat) : Prop where
 dm : d < m
 mq : m < q
 mint : g[m]? = some (mintG bl go a)
 dic : g[q]? = some (.dic (mKvs q))
 seats : g[q + 2]? = some (.lst cl)
 lower : g[q + 3]? = some (.lst (List.replicate a (.tup [])))
 upper : g[q + 4]? = some (.lst [])
 gone : g[q + 5]? = some (.lst (co.map .int))
 coins : g[q + 6]? = some (.lst [])
theorem MG.gr {g g' : G} {d m q : Nat} {bl cl : List D} {go co : List Int} {a : Nat} (h : MG g d m q bl cl go co a) (x : Gr d g g') : MG g' d m q bl cl go co a := by
 have h1 := h.dm
 have h2 := h.mq
 exact ⟨h1, h2, x.at (by omega) h.mint, x.at (by omega) h.dic, x.at (by omega) h.seats, x.at (by omega) h.lower, x.at (by omega) h.upper, x.at (by omega) h.gone, x.at (by omega) h.coins⟩
theorem MG.ex {g g' : G} {d m q : Nat} {bl cl : List D} {go co : List Int} {a : Nat} (h : MG g d m q bl cl go co a) (x : Ex g g') : MG g' d m q bl cl go co a := h.gr (x.gr d)
theorem MG.setM {g : G} {d m q : Nat} {bl cl : List D} {go co : List Int} {a : Nat} (h : MG g d m q bl cl go co a) (bl' : List D) (go' : List Int) : MG (g.set m (mintG bl' go' a)) d m q bl' cl go' co a := by
 have h2 := h.mq
 exact ⟨h.dm, h2, get_set h.mint, get_setne h.dic (by omega), get_setne h.seats (by omega), get_setne h.lower (by omega), get_setne h.upper (by omega), get_setne h.gone (by omega), get_setne h.coins (by omega)⟩
theorem MG.setS {g : G} {d m q : Nat} {bl cl : List D} {go co : List Int} {a : Nat} (h : MG g d m q bl cl go co a) (cl' : List D) : MG (g.set (q + 2) (.lst cl')) d m q bl cl' go co a := by
 have h2 := h.mq
 exact ⟨h.dm, h2, get_setne h.mint (by omega), get_setne h.dic (by omega), get_set h.seats, get_setne h.lower (by omega), get_setne h.upper (by omega), get_setne h.gone (by omega), get_setne h.coins (by omega)⟩
theorem MG.setG {g : G} {d m q : Nat} {bl cl : List D} {go co : List Int} {a : Nat} (h : MG g d m q bl cl go co a) (co' : List Int) : MG (g.set (q + 5) (.lst (co'.map .int))) d m q bl cl go co' a := by
 have h2 := h.mq
 exact ⟨h.dm, h2, get_setne h.mint (by omega), get_setne h.dic (by omega), get_setne h.seats (by omega), get_setne h.lower (by omega), get_setne h.upper (by omega), get_set h.gone, get_setne h.coins (by omega)⟩
theorem first_unique {l : List D} {y : D} {n n' : Nat} (h : FirstD l y n) (h' : FirstD l y n') : n = n' := by
 obtain ⟨_, _, ⟨z, hz, ez⟩, hn⟩ := h
 obtain ⟨_, _, ⟨z', hz', ez'⟩, hn'⟩ := h'
 rcases Nat.lt_trichotomy n n' with c | c | c
 ·rw [hn' n z c hz] at ez
  cases ez
 ·exact c
 ·rw [hn n' z' c hz'] at ez'
  cases ez'
theorem seat_set {l : List D} {n : Nat} {x : D} (h : ∀ z ∈ l, SeatD z) (hx : SeatD x) : ∀ z ∈ l.set n x, SeatD z := fun z hz => by
 rcases List.mem_or_eq_of_mem_set hz with hz | rfl
 ·exact h z hz
 ·exact hx
noncomputable def DistI (l : List D) : Prop := ∀ (i j : Nat) (v : Int), l[i]? = some (.int v) -> l[j]? = some (.int v) -> i = j
theorem any_iff {l : List D} {v : Int} (h : ∀ z ∈ l, SeatD z) : l.any (eqS (.int v)) = true ↔ ∃ i : Nat, l[i]? = some (.int v) := by
 rw [List.any_eq_true]
 constructor
 ·rintro ⟨z, hz, e⟩
  rw [(eqS_iff (.inr ⟨v, rfl⟩) (h z hz))] at e
  subst e
  exact List.getElem?_of_mem hz
 ·rintro ⟨i, hi⟩
  exact ⟨_, List.mem_of_getElem? hi, (eqS_iff (.inr ⟨v, rfl⟩) (.inr ⟨v, rfl⟩)).mpr rfl⟩
theorem dist_set {l : List D} {n : Nat} {v : Int} (h : ∀ z ∈ l, SeatD z) (hd : DistI l) (hn : l.any (eqS (.int v)) = false) : DistI (l.set n (.int v)) := by
 have no : ∀ i : Nat, l[i]? ≠ some (.int v) := fun i hi => by
  rw [(any_iff h).mpr ⟨i, hi⟩] at hn
  cases hn
 intro i j w hi hj
 by_cases ei : n = i <;> by_cases ej : n = j
 ·omega
 ·subst ei
  rw [List.getElem?_set_ne ej] at hj
  rw [List.getElem?_set] at hi
  split at hi
  ·split at hi
   ·cases hi; exact absurd hj (no j)
   ·cases hi
  ·contradiction
 ·subst ej
  rw [List.getElem?_set_ne ei] at hi
  rw [List.getElem?_set] at hj
  split at hj
  ·split at hj
   ·cases hj; exact absurd hi (no i)
   ·cases hj
  ·contradiction
 ·rw [List.getElem?_set_ne ei] at hi
  rw [List.getElem?_set_ne ej] at hj
  exact hd i j w hi hj
theorem get_of_set {l : List D} {n i : Nat} {x y : D} (h : (l.set n x)[i]? = some y) : (i = n /\ y = x) \/ l[i]? = some y := by
 by_cases e : n = i
 ·subst e
  rw [List.getElem?_set] at h
  split at h
  ·split at h
   ·cases h; exact .inl ⟨rfl, rfl⟩
   ·cases h
  ·contradiction
 ·rw [List.getElem?_set_ne e] at h
  exact .inr h
theorem dist_non {l : List D} {n : Nat} (hd : DistI l) : DistI (l.set n .non) := fun i j v hi hj => by
 rcases get_of_set hi with ⟨_, z⟩ | hi
 ·cases z
 ·rcases get_of_set hj with ⟨_, z⟩ | hj
  ·cases z
  ·exact hd i j v hi hj
theorem any_set_non {l : List D} {n : Nat} {w : Int} (h : ∀ z ∈ l, SeatD z) (e : (l.set n .non).any (eqS (.int w)) = true) : l.any (eqS (.int w)) = true := by
 obtain ⟨i, hi⟩ := (any_iff (seat_set h (.inl rfl))).mp e
 rcases get_of_set hi with ⟨_, z⟩ | hi
 ·cases z
 ·exact (any_iff h).mpr ⟨i, hi⟩
theorem any_set_int {l : List D} {n : Nat} {v w : Int} (h : ∀ z ∈ l, SeatD z) (e : (l.set n (.int v)).any (eqS (.int w)) = true) : w = v \/ l.any (eqS (.int w)) = true := by
 obtain ⟨i, hi⟩ := (any_iff (seat_set h (.inr ⟨v, rfl⟩))).mp e
 rcases get_of_set hi with ⟨_, z⟩ | hi
 ·cases z; exact .inl rfl
 ·exact .inr ((any_iff h).mpr ⟨i, hi⟩)
theorem off_gone {l : List D} {n : Nat} {v : Int} (h : ∀ z ∈ l, SeatD z) (hd : DistI l) (hn : l[n]? = some (.int v)) : (l.set n .non).any (eqS (.int v)) = false := by
 cases e : (l.set n .non).any (eqS (.int v)) with
 | false => rfl
 | true =>
  obtain ⟨i, hi⟩ := (any_iff (seat_set h (.inl rfl))).mp e
  rcases get_of_set hi with ⟨_, z⟩ | hi'
  ·cases z
  ·have : i = n := hd i n v hi' hn
   subst this
   rw [List.getElem?_set_self (List.getElem?_eq_some_iff.mp hn).1] at hi
   cases hi
theorem kvG_lo {q : Nat} : valD (mKvs q) (.inr "lower") = some (.ref (q + 3)) := rfl
theorem kvG_se {q : Nat} : valD (mKvs q) (.inr "seats") = some (.ref (q + 2)) := rfl
theorem kvG_go {q : Nat} : valD (mKvs q) (.inr "gone") = some (.ref (q + 5)) := rfl
theorem ixN_nat {n k : Nat} (h : k < n) : ixN n (k : Int) = some k := by
 unfold ixN
 rw [if_pos (by omega), if_pos (by omega), Int.toNat_natCast]
section
variable {T : Nat -> Option MDef} {k d : Nat} {g : G} {Q : KD} {E : KX} {m q a : Nat} {bl cl : List D} {go co : List Int}
theorem mfix_ok {i : Nat} (hi : T i = some mMFix) (M0 : MG g d m q bl cl go co a) (hb : ∀ z ∈ cl, SeatD z) (hz : cl.length <= 9) {v : Int} (h0 : ¬ (1 <= v /\ v <= a) -> Q (.tup [.str "NoDie", .non]) g) (h1 : 1 <= v /\ v <= a -> cl.any (eqS (.int v)) = true -> Q (.tup [.str "Fixed", .non]) g)
  (h2 : 1 <= v /\ v <= a -> cl.any (eqS (.int v)) = false -> (co.map D.int).any (eqS (.int v)) = true -> Q (.tup [.str "Gone", .non]) g)
  (h3 : 1 <= v /\ v <= a -> cl.any (eqS (.int v)) = false -> (co.map D.int).any (eqS (.int v)) = false -> cl.any (eqS .non) = false -> Q (.tup [.str "NoAnvil", .non]) g)
  (h4 : ∀ n, 1 <= v /\ v <= a -> cl.any (eqS (.int v)) = false -> (co.map D.int).any (eqS (.int v)) = false -> FirstD cl .non n -> n < cl.length -> Q (.tup [.str "", .int n]) (g.set (q + 2) (.lst (cl.set n (.int v))))) : callW T (k + 1) i [.ref q, .int v] g Q E := by
 refine call_of hi rfl ?_
 dsimp [mMFix, startD, List.replicate]
 walk_at "w5"
 by_cases hv1 : 1 <= v
 ·rw [decide_eq_true hv1]
  walk_at "w5"
  refine ix_d M0.dic rfl kvG_lo ?_
  refine len_l (items_of M0.lower) ?_
  walk_at "w5"
  rw [List.length_replicate]
  by_cases hv2 : v <= (a : Int)
  ·rw [decide_eq_true hv2]
   walk_at "w5"
   refine ix_d M0.dic rfl kvG_se ?_
   refine c_in (in_seats (l := cl) (items_of M0.seats) hb (.inr ⟨v, rfl⟩) ?_)
   walk_at "w5"
   cases e1 : cl.any (eqS (.int v)) with
   | true =>
    refine ift ?_
    walk_at "w5"
    exact h1 ⟨hv1, hv2⟩ e1
   | false =>
    refine iff' ?_
    walk_at "w5"
    refine ix_d M0.dic rfl kvG_go ?_
    refine c_in (in_seats (l := co.map D.int) (items_of M0.gone) ints_seat (.inr ⟨v, rfl⟩) ?_)
    walk_at "w5"
    cases e2 : (co.map D.int).any (eqS (.int v)) with
    | true =>
     refine ift ?_
     walk_at "w5"
     exact h2 ⟨hv1, hv2⟩ e1 e2
    | false =>
     refine iff' ?_
     walk_at "w5"
     refine ix_d M0.dic rfl kvG_se ?_
     refine c_nin (in_seats (l := cl) (items_of M0.seats) hb (.inl rfl) ?_)
     walk_at "w5"
     cases e3 : cl.any (eqS .non) with
     | false =>
      refine ifT rfl ?_
      walk_at "w5"
      exact h3 ⟨hv1, hv2⟩ e1 e2 e3
     | true =>
      refine ifF rfl ?_
      obtain ⟨n, W, hn, _⟩ := first_of hb (.inl rfl) e3
      walk_at "w5"
      refine ix_d M0.dic rfl kvG_se ?_
      refine ⟨mk_ixL (items_of M0.seats), ?_⟩
      walk_at "w5"
      refine m_ixL (items_of M0.seats) W (by omega) ?_
      walk_at "w5"
      refine ix_d M0.dic rfl kvG_se ?_
      walk_at "w5"
      refine set_l M0.seats (ixN_nat hn) ?_
      walk_at "w5"
      exact h4 n ⟨hv1, hv2⟩ e1 e2 W hn
  ·rw [decide_eq_false hv2]
   walk_at "w5"
   exact h0 fun z => hv2 z.2
 ·rw [decide_eq_false hv1]
  walk_at "w5"
  exact h0 fun z => hv1 z.1
theorem moff_ok {i : Nat} (hi : T i = some mMOff) (M0 : MG g d m q bl cl go co a) (hb : ∀ z ∈ cl, SeatD z) (hz : cl.length <= 9) (hco : co.length <= 1000) {v : Int} (h0 : ¬ (1 <= v /\ v <= a) -> Q (.tup [.str "NoDie", .non]) g) (h1 : 1 <= v /\ v <= a -> cl.any (eqS (.int v)) = false -> Q (.tup [.str "NotFixed", .non]) g)
  (h2 : ∀ n, 1 <= v /\ v <= a -> cl.any (eqS (.int v)) = true -> FirstD cl (.int v) n -> n < cl.length -> Q (.tup [.str "", .int n]) ((g.set (q + 2) (.lst (cl.set n .non))).set (q + 5) (.lst ((co ++ [v]).map .int)))) : callW T (k + 1) i [.ref q, .int v] g Q E := by
 refine call_of hi rfl ?_
 dsimp [mMOff, startD, List.replicate]
 walk_at "w5"
 by_cases hv1 : 1 <= v
 ·rw [decide_eq_true hv1]
  walk_at "w5"
  refine ix_d M0.dic rfl kvG_lo ?_
  refine len_l (items_of M0.lower) ?_
  walk_at "w5"
  rw [List.length_replicate]
  by_cases hv2 : v <= (a : Int)
  ·rw [decide_eq_true hv2]
   walk_at "w5"
   refine ix_d M0.dic rfl kvG_se ?_
   refine c_nin (in_seats (l := cl) (items_of M0.seats) hb (.inr ⟨v, rfl⟩) ?_)
   walk_at "w5"
   cases e1 : cl.any (eqS (.int v)) with
   | false =>
    refine ifT rfl ?_
    walk_at "w5"
    exact h1 ⟨hv1, hv2⟩ e1
   | true =>
    refine ifF rfl ?_
    obtain ⟨n, W, hn, _⟩ := first_of hb (.inr ⟨v, rfl⟩) e1
    walk_at "w5"
    refine ix_d M0.dic rfl kvG_se ?_
    refine ⟨mk_ixL (items_of M0.seats), ?_⟩
    walk_at "w5"
    refine m_ixL (items_of M0.seats) W (by omega) ?_
    walk_at "w5"
    refine ix_d M0.dic rfl kvG_se ?_
    walk_at "w5"
    refine set_l M0.seats (ixN_nat hn) ?_
    have M1 := M0.setS (cl.set n .non)
    walk_at "w5"
    refine ix_d M1.dic rfl kvG_go ?_
    refine ⟨mk_app M1.gone, ?_⟩
    walk_at "w5"
    refine m_app M1.gone (by simp; omega) ?_
    have h3 := h2 n ⟨hv1, hv2⟩ e1 W hn
    rw [List.map_append] at h3
    walk_at "w5"
    exact h3
  ·rw [decide_eq_false hv2]
   walk_at "w5"
   exact h0 fun z => hv2 z.2
 ·rw [decide_eq_false hv1]
  walk_at "w5"
  exact h0 fun z => hv1 z.1
end
noncomputable def mNumberOf : MDef := ⟨2, 2, (.seq (.ifs (.or_ (.tst (.prim (.cmp .Eq) (.cons (.prim .len (.cons (.var 1) .nil)) (.cons (.lit (.int 0)) .nil)))) (.tst (.prim (.cmp .Eq) (.cons (.call 4 (.cons (.var 0) (.cons (.lit (.int 10)) .nil))) (.cons (.lit (.int 4)) .nil))))) (.seq (.ret (.call 36 (.cons (.var 0) (.cons (.prim (.bin .Add) (.cons (.lit (.int 3)) (.cons (.prim .len (.cons (.var 1) .nil)) .nil))) .nil)))) .pass) .pass) (.seq (.ret (.prim .ix (.cons (.var 1) (.cons (.call 4 (.cons (.var 0) (.cons (.prim .len (.cons (.var 1) .nil)) .nil))) .nil)))) .pass))⟩
noncomputable def mTried : MDef := ⟨3, 3, (.seq (.try_ (.seq (.ret (.prim .lst (.cons (.lit (.str "")) (.cons (.ite (.tst (.prim (.cmp .Eq) (.cons (.var 1) (.cons (.lit (.str "fix")) .nil)))) (.methc "fix" [("Mint", 55)] (.var 0) (.cons (.var 2) .nil)) (.methc "lay_off" [("Mint", 56)] (.var 0) (.cons (.var 2) .nil))) .nil)))) .pass) [("NoDie", (.prim .lst (.cons (.lit (.str "NoDie")) (.cons (.lit .non) .nil)))), ("Fixed", (.prim .lst (.cons (.lit (.str "Fixed")) (.cons (.lit .non) .nil)))), ("Gone", (.prim .lst (.cons (.lit (.str "Gone")) (.cons (.lit .non) .nil)))), ("NoAnvil", (.prim .lst (.cons (.lit (.str "NoAnvil")) (.cons (.lit .non) .nil)))), ("NotFixed", (.prim .lst (.cons (.lit (.str "NotFixed")) (.cons (.lit .non) .nil))))]) .pass)⟩
noncomputable def mStateTold : MDef := ⟨2, 2, (.seq (.try_ (.seq (.ret (.methc "state" [("Mint", 63)] (.var 0) (.cons (.var 1) .nil))) .pass) [("NoDie", (.prim .lst (.cons (.lit (.str "refused")) .nil)))]) .pass)⟩
noncomputable def mLaw : MDef := ⟨1, 9, (.seq (.set 1 (.call 3 (.cons (.var 0) .nil))) (.seq (.set 2 (.prim (.bin .Add) (.cons (.lit (.int 1)) (.cons (.call 4 (.cons (.var 1) (.cons (.lit (.int 9)) .nil))) .nil)))) (.seq (.set 3 (.make "Mint" 51 (.cons (.var 2) .nil))) (.seq (.set 4 (.call 45 (.cons (.var 2) .nil))) (.seq (.for_ (.one 5) (.itR1 (.prim (.bin .Add) (.cons (.lit (.int 3)) (.cons (.call 4 (.cons (.var 1) (.cons (.lit (.int 10)) .nil))) .nil)))) (.seq (.expr (.methc "cut" [("Mint", 54)] (.var 3) (.cons (.lit (.str "lower")) .nil))) (.seq (.expr (.call 46 (.cons (.var 4) (.cons (.lit (.str "lower")) .nil)))) .pass))) (.seq (.for_ (.one 5) (.itR1 (.prim (.bin .Add) (.cons (.lit (.int 6)) (.cons (.call 4 (.cons (.var 1) (.cons (.lit (.int 19)) .nil))) .nil)))) (.seq (.set 6 (.prim .ix (.cons (.prim .lst (.cons (.lit (.str "fix")) (.cons (.lit (.str "fix")) (.cons (.lit (.str "off")) .nil)))) (.cons (.call 4 (.cons (.var 1) (.cons (.lit (.int 3)) .nil))) .nil)))) (.seq (.set 7 (.call 37 (.cons (.var 1) (.cons (.prim (.bin .Add) (.cons (.prim .lst (.cons (.lit (.int 1)) (.cons (.lit (.int 2)) .nil))) (.cons (.comp [] 2 (.one 1) (.itE (.prim .ix (.cons (.var 4) (.cons (.lit (.str "seats")) .nil)))) (.tst (.prim (.cmp .IsNot) (.cons (.var 1) (.cons (.lit .non) .nil)))) (.var 1)) .nil))) .nil)))) (.seq (.ifs (.tst (.prim (.cmp .Eq) (.cons (.call 4 (.cons (.var 1) (.cons (.lit (.int 2)) .nil))) (.cons (.lit (.int 0)) .nil)))) (.seq (.set 7 (.call 36 (.cons (.var 1) (.cons (.prim .len (.cons (.prim .ix (.cons (.var 4) (.cons (.lit (.str "lower")) .nil))) .nil)) .nil)))) .pass) .pass) (.seq (.set 8 (.ite (.tst (.prim (.cmp .Eq) (.cons (.var 6) (.cons (.lit (.str "fix")) .nil)))) (.call 178 (.cons (.var 4) (.cons (.var 7) .nil))) (.call 179 (.cons (.var 4) (.cons (.var 7) .nil))))) (.seq (.ifs (.or_ (.not_ (.tst (.call 7 (.cons (.call 49 (.cons (.var 3) (.cons (.var 6) (.cons (.var 7) .nil)))) (.cons (.prim .list (.cons (.var 8) .nil)) .nil))))) (.not_ (.tst (.call 47 (.cons (.var 3) (.cons (.var 4) .nil)))))) (.seq (.ret (.lit (.bl false))) .pass) .pass) (.seq (.expr (.meth .append (.methc "anvils" [("Mint", 60)] (.var 3) .nil) (.cons (.var 7) .nil))) (.seq (.ifs (.and_ (.not_ (.tst (.chain .LtE .LtE (.lit (.int 1)) (.var 7) (.prim .len (.cons (.prim .ix (.cons (.var 4) (.cons (.lit (.str "lower")) .nil))) .nil))))) (.not_ (.tst (.call 44 (.cons (.call 180 (.cons (.var 3) (.cons (.var 7) .nil))) .nil))))) (.seq (.ret (.lit (.bl false))) .pass) .pass) .pass)))))))) (.seq (.ret (.call 47 (.cons (.var 3) (.cons (.var 4) .nil)))) .pass)))))))⟩
theorem like_l0 {g : G} {a b : Nat} {l : List D} (ha : g[a]? = some (.lst l)) (hb : g[b]? = some (.lst l)) (h : ∀ x ∈ l, LikeD g 0 x x) (hz : l.length <= 1000) : LikeD g 1 (.ref a) (.ref b) := by
 refine .lst ha hb rfl (fun i x y hx hy => ?_) hz
 rw [hx] at hy
 cases hy
 exact h x (List.mem_of_getElem? hx)
theorem seat_like {g : G} {y : D} (h : SeatD y) : LikeD g 0 y y := by
 rcases h with rfl | ⟨i, rfl⟩
 ·exact .non
 ·exact .int _
structure T33 (T : Nat -> Option MDef) : Prop where
 tm : TM T
 h3 : T 3 = some mOpen
 h4 : T 4 = some mPull
 h5 : T 5 = some mFar
 h6 : T 6 = some mNum
 h7 : T 7 = some mLike
 h11 : T 11 = some mLaw
 h36 : T 36 = some mNear
 h44 : T 44 = some mRefused
 h45 : T 45 = some mModel
 h46 : T 46 = some mMCut
 h47 : T 47 = some mMintStands
 h49 : T 49 = some mTried
 h55 : T 55 = some mMintFix
 h56 : T 56 = some mMintLayOff
 hwt : T 177 = some mWithThing
 hfx : T 178 = some mMFix
 hof : T 179 = some mMOff
 hno : T 37 = some mNumberOf
 hst : T 180 = some mStateTold
section
variable {T : Nat -> Option MDef} {k d : Nat} {g : G} {Q : KD} {E : KX} {m q a : Nat} {bl : List D} {go : List Int} {x : Str}
theorem kv_lo {q : Nat} : valD (mKvs q) (.inr "lower") = some (.ref (q + 3)) := rfl
theorem kv_up {q : Nat} : valD (mKvs q) (.inr "upper") = some (.ref (q + 4)) := rfl
theorem kv_se {q : Nat} : valD (mKvs q) (.inr "seats") = some (.ref (q + 2)) := rfl
theorem kv_go {q : Nat} : valD (mKvs q) (.inr "gone") = some (.ref (q + 5)) := rfl
theorem kv_ye {q : Nat} : valD (mKvs q) (.inr "year") = some (.int 0) := rfl
theorem kv_co {q : Nat} : valD (mKvs q) (.inr "coins") = some (.ref (q + 6)) := rfl
theorem all_rep {c : Nat} : allBl (List.replicate c (D.bl true)) = some true := by
 induction c with
 | zero => rfl
 | succ c ih => rw [List.replicate_succ, allBl, ih]; rfl
theorem standsG_ok (hT : T33 T) (M0 : MG g d m q bl bl go go a) (hbl : ∀ z ∈ bl, SeatD z) (hdis : ∀ v, bl.any (eqS (.int v)) = true -> (go.map D.int).any (eqS (.int v)) = false) (hn : bl.length <= 9) (ha : a <= 99) (h : ∀ g', Ex g g' -> Q (.bl true) g') : callW T (k + 5) 47 [.ref m, .ref q] g Q E := by
 refine call_of hT.h47 rfl ?_
 dsimp [mMintStands, startD, List.replicate]
 walk_at "w5"
 refine meth_ex M0.mint rfl rfl ?_
 walk_at "w5"
 refine anvils_ok (k := k + 3) hT.tm M0.mint ?_
 have e1 : Ex g (g ++ [O.lst (bl)]) := Ex.snoc _ _
 have hl : (g ++ [O.lst (bl)])[g.length]? = some (.lst (bl)) := get_snoc
 have M1 := M0.ex e1
 generalize g ++ [O.lst (bl)] = g1 at *
 walk_at "w5"
 refine ix_d M1.dic rfl kv_se ?_
 walk_at "w5"
 refine like_true hT.h6 hT.h7 1 (k := k + 1) (like_l0 hl M1.seats (fun y hy => seat_like (hbl y hy)) (by omega)) fun g2 e2 => ?_
 have M2 := M1.ex e2
 walk_at "w5"
 refine meth_ex M2.mint rfl rfl ?_
 walk_at "w5"
 refine year_ok (k := k + 3) hT.tm M2.mint ?_
 walk_at "w5"
 refine ix_d M2.dic rfl kv_ye ?_
 walk_at "w5"
 refine like_true hT.h6 hT.h7 0 (k := k + 2) (.int 0) fun g3 e3 => ?_
 have M3 := M2.ex e3
 have x3 := e1.trans (e2.trans e3)
 walk_at "w5"
 have e4 : Ex g3 (g3 ++ [O.lst [.str "lower", .str "upper"]]) := Ex.snoc _ _
 have hs4 : (g3 ++ [O.lst [.str "lower", .str "upper"]])[g3.length]? = some (.lst [.str "lower", .str "upper"]) := get_snoc
 refine w_for (callW_mono T _) (i_l (callW_mono T _) ?_)
 walk_at "w5"
 generalize g3 ++ [O.lst [.str "lower", .str "upper"]] = g4 at *
 have x4 := x3.trans e4
 refine ⟨g3.length, _, rfl, items_of hs4, [.str "lower", .str "upper"], fun i σ g' => Ex g4 g' /\ ∃ z2 z3 z4, σ = [some (.ref m), some (.ref q), z2, z3, z4], fun i σ g' p => is_lst (items_of (p.1.at hs4)), ⟨Ex.refl _, none, none, none, rfl⟩, fun i y σ g' hy p => ?_, fun σ g' p => ?_⟩
 ·obtain ⟨e5, z2, z3, z4, rfl⟩ := p
  have M5 := (M3.ex e4).ex e5
  obtain ⟨x, r, c, rfl, ho, hx, hcc, hc99, hkv, hr⟩ : ∃ (x : Str) (r c : Nat), y = .str x /\ PyData.strOk x = true /\ (x = "lower" \/ x = "upper") /\ c = cntOf x a 0 /\ c <= 99 /\ valD (mKvs q) (.inr x) = some (.ref r) /\ g'[r]? = some (.lst (List.replicate c (.tup []))) := by
   match i, hy with
   | 0, hy => cases hy; exact ⟨"lower", _, a, rfl, by decide +kernel, .inl rfl, rfl, ha, kv_lo, M5.lower⟩
   | 1, hy => cases hy; exact ⟨"upper", _, 0, rfl, by decide +kernel, .inr rfl, rfl, by decide, kv_up, M5.upper⟩
   | i + 2, hy => simp at hy
  refine tg_one ?_
  try show wpS _ _ _ _ _ _
  walk_at "w5"
  refine meth_ex M5.mint rfl rfl ?_
  walk_at "w5"
  have dies : ∀ (Q' : KD) (E' : KX), Q' (.int c) g' -> callW T (k + 4) 61 [.ref m, .str x] g' Q' E' := fun Q' E' q' => by
   refine dies_ok (k := k + 1) hT.tm M5.mint ho (fun e => ?_) (fun e => ?_) (fun z1 z2 => (hx.elim z1 z2).elim)
   ·rw [hcc] at q'; unfold cntOf at q'; rw [if_pos e] at q'; exact q'
   ·rw [hcc] at q'; unfold cntOf at q'; rw [if_neg (by rw [e]; decide)] at q'; exact q'
  refine dies _ _ ?_
  walk_at "w5"
  refine ix_d M5.dic rfl hkv ?_
  refine len_l (items_of hr) ?_
  walk_at "w5"
  rw [List.length_replicate]
  refine like_true hT.h6 hT.h7 0 (k := k + 2) (.int _) fun g6 e6 => ?_
  have M6 := M5.ex e6
  have r6 := e6.at hr
  walk_at "w5"
  refine w_comp_rng (callW_mono T _) ?_
  walk_at "w5"
  refine ix_d M6.dic rfl hkv ?_
  refine len_l (items_of r6) ?_
  refine ⟨c, by rw [List.length_replicate], by omega, fun i ys σ g7 => ∃ z3 z4, ys = List.replicate i (.bl true) /\ σ = [some (.ref q), some (.ref m), some (.str x), z3, z4] /\ Ex g6 g7, ⟨none, none, rfl, rfl, Ex.refl _⟩, fun i ys σ g7 p => ?_, fun i ys σ g7 hi p => ?_, fun ys σ g7 p => ?_⟩
  ·obtain ⟨_, _, rfl, _⟩ := p
   simp
  ·obtain ⟨z3, z4, rfl, rfl, e7⟩ := p
   have M7 := M6.ex e7
   refine tg_one ?_
   try show wpT _ _ _ _ _ _
   walk_at "w5"
   refine meth_ex M7.mint rfl rfl ?_
   walk_at "w5"
   refine marks_ok (k := k) hT.tm M7.mint ho hx ⟨by omega, by omega⟩ ?_
   walk_at "w5"
   refine ix_d M7.dic rfl hkv ?_
   walk_at "w5"
   refine ix_l (items_of (e7.at r6)) (d := .tup []) (by have := at_unw (c := c) (v := (i : Int) + 1) ⟨by omega, by omega⟩; rwa [show (i : Int) + 1 - 1 = i by omega] at this) ?_
   walk_at "w5"
   refine like_true hT.h6 hT.h7 1 (k := k + 1) (.tup rfl (fun _ _ _ z => by simp at z) (by simp)) fun g8 e8 => ?_
   exact ⟨_, _, by rw [List.replicate_succ'], rfl, e7.trans e8⟩
  ·obtain ⟨z3, z4, rfl, rfl, e7⟩ := p
   refine all_b (items_of get_snoc) all_rep ?_
   walk_at "w5"
   exact ⟨e5.trans (e6.trans (e7.trans (Ex.snoc _ _))), _, _, _, rfl⟩
 ·obtain ⟨e5, z2, z3, z4, rfl⟩ := p
  have M5 := (M3.ex e4).ex e5
  have x5 := x4.trans e5
  try show wpS _ _ _ _ _ _
  walk_at "w5"
  refine w_for (callW_mono T _) (i_r2 (callW_mono T _) ?_)
  walk_at "w5"
  refine ix_d M5.dic rfl kv_lo ?_
  refine len_l (items_of M5.lower) ?_
  walk_at "w5"
  rw [List.length_replicate]
  refine ⟨1, (a : Int) + 1, rfl, rfl, by omega, rngD 1 a, fun i σ g6 => Ex g' g6 /\ ∃ z2 z3 z4, σ = [some (.ref m), some (.ref q), z2, z3, z4], fun i σ g6 p => ?_, ⟨Ex.refl _, _, _, _, rfl⟩, fun i y σ g6 hy p => ?_, fun σ g6 p => ?_⟩
  ·rw [show ((a : Int) + 1 - 1).toNat = a by omega]
   exact is_fix
  ·obtain ⟨e6, z2, z3, z4, rfl⟩ := p
   have M6 := M5.ex e6
   obtain ⟨hi, rfl⟩ := rng_get hy
   refine tg_one ?_
   try show wpS _ _ _ _ _ _
   walk_at "w5"
   refine ix_d M6.dic rfl kv_go ?_
   refine c_in (in_seats (items_of M6.gone) ints_seat (.inr ⟨_, rfl⟩) ?_)
   walk_at "w5"
   cases e2 : (go.map D.int).any (eqS (.int (1 + (i : Int)))) with
   | true =>
    refine ift ?_
    walk_at "w5"
    refine meth_ex M6.mint rfl rfl ?_
    walk_at "w5"
    refine stateG_ok (k := k) hT.tm M6.mint hbl (fun z => absurd ⟨by omega, by omega⟩ z) (fun _ e1 => by rw [hdis _ e1] at e2; cases e2) (fun _ _ _ => ?_) (fun _ _ e => by rw [e2] at e; cases e)
    walk_at "w5"
    refine like_true hT.h6 hT.h7 0 (k := k + 2) (.str _) fun g7 e7 => ?_
    walk_at "w5"
    exact ⟨e6.trans e7, _, _, _, rfl⟩
   | false =>
    refine iff' ?_
    walk_at "w5"
    refine ix_d M6.dic rfl kv_se ?_
    refine c_in (in_seats (items_of M6.seats) hbl (.inr ⟨_, rfl⟩) ?_)
    walk_at "w5"
    cases e1 : bl.any (eqS (.int (1 + (i : Int)))) with
    | true =>
     refine ift ?_
     walk_at "w5"
     refine meth_ex M6.mint rfl rfl ?_
     walk_at "w5"
     refine stateG_ok (k := k) hT.tm M6.mint hbl (fun z => absurd ⟨by omega, by omega⟩ z) (fun _ _ => ?_) (fun _ e _ => by rw [e1] at e; cases e) (fun _ e _ => by rw [e1] at e; cases e)
     walk_at "w5"
     refine like_true hT.h6 hT.h7 0 (k := k + 2) (.str _) fun g7 e7 => ?_
     walk_at "w5"
     exact ⟨e6.trans e7, _, _, _, rfl⟩
    | false =>
     refine iff' ?_
     walk_at "w5"
     refine meth_ex M6.mint rfl rfl ?_
     walk_at "w5"
     refine stateG_ok (k := k) hT.tm M6.mint hbl (fun z => absurd ⟨by omega, by omega⟩ z) (fun _ e => by rw [e1] at e; cases e) (fun _ _ e => by rw [e2] at e; cases e) (fun _ _ _ => ?_)
     walk_at "w5"
     refine like_true hT.h6 hT.h7 0 (k := k + 2) (.str _) fun g7 e7 => ?_
     walk_at "w5"
     exact ⟨e6.trans e7, _, _, _, rfl⟩
  ·obtain ⟨e6, z2, z3, z4, rfl⟩ := p
   have M6 := M5.ex e6
   try show wpS _ _ _ _ _ _
   walk_at "w5"
   refine meth_ex M6.mint rfl rfl ?_
   walk_at "w5"
   refine mstruck_ok (k := k + 3) hT.tm M6.mint ?_
   walk_at "w5"
   refine ix_d M6.dic rfl kv_co ?_
   refine len_l (items_of M6.coins) ?_
   walk_at "w5"
   refine like_true hT.h6 hT.h7 0 (k := k + 2) (.int _) fun g7 e7 => ?_
   have M7 := M6.ex e7
   walk_at "w5"
   refine meth_ex M7.mint rfl rfl ?_
   walk_at "w5"
   refine ix_d M7.dic rfl kv_co ?_
   refine len_l (items_of M7.coins) ?_
   refine lr1 (by simp) (by simp) ?_
   walk_at "w5"
   have e8 : Ex g7 (g7 ++ [O.lst (rngD 0 (Int.toNat (([] : List D).length : Int)))]) := Ex.snoc _ _
   have hz : (g7 ++ [O.lst (rngD 0 (Int.toNat (([] : List D).length : Int)))])[g7.length]? = some (.lst []) := get_snoc
   have M8 := M7.ex e8
   refine hoard_ok (k := k + 3) hT.tm M8.mint hz ?_
   generalize g7 ++ [O.lst (rngD 0 (Int.toNat (([] : List D).length : Int)))] = g8 at *
   have e9 : Ex g8 (g8 ++ [O.lst []]) := Ex.snoc _ _
   walk_at "w5"
   refine ix_d (M8.ex e9).dic rfl kv_co ?_
   walk_at "w5"
   refine like_true hT.h6 hT.h7 1 (k := k + 1) (like_l0 get_snoc (M8.ex e9).coins (fun y hy => by simp at hy) (by simp)) fun g10 e10 => ?_
   exact h _ (x5.trans (e6.trans (e7.trans (e8.trans (e9.trans e10)))))
theorem near_ok (hT : T33 T) {j : Int} (hj : 0 <= j /\ j <= 1000) (D0 : Draw g d) (h : ∀ (v : Int) g', Draw g' d -> Gr d g g' -> Q (.int v) g') : callW T (k + 3) 36 [.ref d, .int j] g Q E := by
 refine call_of hT.h36 rfl ?_
 dsimp [mNear, startD, List.replicate]
 walk_at "w5"
 refine pull_ok hT.h4 D0 (by decide) (by decide) fun r g1 _ _ D1 G1 => ?_
 walk_at "w5"
 refine if2 (fun _ => ?_) (fun _ => ?_)
 ·walk_at "w5"
  exact far_ok hT.h4 hT.h5 D1 fun f g2 D2 G2 => h _ _ D2 (G1.trans G2)
 ·walk_at "w5"
  refine pull_ok hT.h4 D1 (by omega) (by omega) fun r g2 _ _ D2 G2 => ?_
  walk_at "w5"
  exact h _ _ D2 (G1.trans G2)
theorem number_of_ok (hT : T33 T) {i : Nat} {ns : List Int} (hi : g[i]? = some (.lst (ns.map .int))) (hd : d < i) (h1 : 0 < ns.length) (hz : ns.length <= 100) (D0 : Draw g d) (h : ∀ (v : Int) g', Draw g' d -> Gr d g g' -> Q (.int v) g') : callW T (k + 4) 37 [.ref d, .ref i] g Q E := by
 refine call_of hT.hno rfl ?_
 dsimp [mNumberOf, startD, List.replicate]
 walk_at "w5"
 rw [List.length_map]
 refine ifF (decide_eq_false (by omega)) ?_
 walk_at "w5"
 refine pull_ok hT.h4 D0 (by decide) (by decide) fun r g1 _ _ D1 G1 => ?_
 have hi1 := G1.at (by omega) hi
 walk_at "w5"
 refine if2 (fun _ => ?_) (fun _ => ?_)
 ·walk_at "w5"
  refine near_ok (k := k) hT (by rw [List.length_map]; omega) D1 fun v g2 D2 G2 => ?_
  exact h v g2 D2 (G1.trans G2)
 ·walk_at "w5"
  rw [List.length_map]
  refine pull_ok hT.h4 D1 (by omega) (by omega) fun r2 g2 r0 r1 D2 G2 => ?_
  obtain ⟨y, hy, hm⟩ := at_small (l := ns.map D.int) r0 (by rw [List.length_map]; exact r1)
  obtain ⟨v, _, rfl⟩ := List.mem_map.mp hm
  refine ix_l (items_of (G2.at (by omega) hi1)) hy ?_
  walk_at "w5"
  exact h v g2 D2 (G1.trans G2)
theorem told_ok (hT : T33 T) (hm : g[m]? = some (mintG bl go a)) (hb : ∀ z ∈ bl, SeatD z) {v : Int} (hv : ¬ (1 <= v /\ v <= a)) (h : Q (.ref g.length) (g ++ [.lst [.str "refused"]])) : callW T (k + 5) 180 [.ref m, .int v] g Q E := by
 refine call_of hT.hst rfl ?_
 dsimp [mStateTold, startD, List.replicate]
 walk_at "w5"
 refine meth_ex hm rfl rfl ?_
 walk_at "w5"
 refine stateG_ok (k := k) hT.tm hm hb (fun _ => ?_) (fun z => absurd z hv) (fun z => absurd z hv) (fun z => absurd z hv)
 refine h_hit rfl ?_
 walk_at "w5"
 exact h
theorem tried_fix_ok (hT : T33 T) (hm : g[m]? = some (mintG bl go a)) (hb : ∀ z ∈ bl, SeatD z) (hz : bl.length <= 9) {v : Int} (h0 : ¬ (1 <= v /\ v <= a) -> Q (.ref g.length) (g ++ [.lst [.str "NoDie", .non]])) (h1 : 1 <= v /\ v <= a -> bl.any (eqS (.int v)) = true -> Q (.ref g.length) (g ++ [.lst [.str "Fixed", .non]]))
  (h2 : 1 <= v /\ v <= a -> bl.any (eqS (.int v)) = false -> (go.map D.int).any (eqS (.int v)) = true -> Q (.ref g.length) (g ++ [.lst [.str "Gone", .non]]))
  (h3 : 1 <= v /\ v <= a -> bl.any (eqS (.int v)) = false -> (go.map D.int).any (eqS (.int v)) = false -> bl.any (eqS .non) = false -> Q (.ref g.length) (g ++ [.lst [.str "NoAnvil", .non]]))
  (h4 : ∀ n, 1 <= v /\ v <= a -> bl.any (eqS (.int v)) = false -> (go.map D.int).any (eqS (.int v)) = false -> FirstD bl .non n -> n < bl.length -> Q (.ref g.length) (g.set m (mintG (bl.set n (.int v)) go a) ++ [.lst [.str "", .int n]])) :
  callW T (k + 6) 49 [.ref m, .str "fix", .int v] g Q E := by
 refine call_of hT.h49 rfl ?_
 dsimp [mTried, startD, List.replicate]
 walk_at "w5"
 refine ifT (by decide +kernel) ?_
 walk_at "w5"
 refine meth_ex hm rfl rfl ?_
 walk_at "w5"
 refine fix_ok (k := k) hT.tm hT.h55 hT.hwt hm hb hz (fun hv => ?_) (fun hv e1 => ?_) (fun hv e1 e2 => ?_) (fun hv e1 e2 e3 => ?_) (fun n hv e1 e2 W hn => ?_)
 ·refine h_hit rfl ?_
  walk_at "w5"
  exact h0 hv
 ·refine h_miss (by decide) (h_hit rfl ?_)
  walk_at "w5"
  exact h1 hv e1
 ·refine h_miss (by decide) (h_miss (by decide) (h_hit rfl ?_))
  walk_at "w5"
  exact h2 hv e1 e2
 ·refine h_miss (by decide) (h_miss (by decide) (h_miss (by decide) (h_hit rfl ?_)))
  walk_at "w5"
  exact h3 hv e1 e2 e3
 ·walk_at "w5"
  rw [List.length_set]
  exact h4 n hv e1 e2 W hn
theorem tried_off_ok (hT : T33 T) (hm : g[m]? = some (mintG bl go a)) (hb : ∀ z ∈ bl, SeatD z) (hz : bl.length <= 9) (hgo : go.length <= 1000) {v : Int} (h0 : ¬ (1 <= v /\ v <= a) -> Q (.ref g.length) (g ++ [.lst [.str "NoDie", .non]])) (h1 : 1 <= v /\ v <= a -> bl.any (eqS (.int v)) = false -> Q (.ref g.length) (g ++ [.lst [.str "NotFixed", .non]]))
  (h2 : ∀ n, 1 <= v /\ v <= a -> bl.any (eqS (.int v)) = true -> FirstD bl (.int v) n -> n < bl.length -> Q (.ref g.length) (g.set m (mintG (bl.set n .non) (go ++ [v]) a) ++ [.lst [.str "", .int n]])) :
  callW T (k + 6) 49 [.ref m, .str "off", .int v] g Q E := by
 refine call_of hT.h49 rfl ?_
 dsimp [mTried, startD, List.replicate]
 walk_at "w5"
 refine ifF (by decide +kernel) ?_
 walk_at "w5"
 refine meth_ex hm rfl rfl ?_
 walk_at "w5"
 refine lay_off_ok (k := k) hT.tm hT.h56 hT.hwt hm hb hz hgo (fun hv => ?_) (fun hv e1 => ?_) (fun n hv e1 W hn => ?_)
 ·refine h_hit rfl ?_
  walk_at "w5"
  exact h0 hv
 ·refine h_miss (by decide) (h_miss (by decide) (h_miss (by decide) (h_miss (by decide) (h_hit rfl ?_))))
  walk_at "w5"
  exact h1 hv e1
 ·walk_at "w5"
  rw [List.length_set]
  exact h2 n hv e1 W hn
end
noncomputable def mWall : MDef := ⟨1, 1, (.seq (.whil (.tst (.lit (.bl true))) (.seq .pass .pass)) .pass)⟩
noncomputable def mMintMark : MDef := ⟨4, 4, (.seq (.expr (.call 41 (.cons (.lit (.int 0)) .nil))) .pass)⟩
noncomputable def mMintStrike : MDef := ⟨3, 3, (.seq (.expr (.call 41 (.cons (.lit (.int 1)) .nil))) .pass)⟩
noncomputable def mMintBeginYear : MDef := ⟨2, 2, (.seq (.expr (.call 41 (.cons (.lit (.int 2)) .nil))) .pass)⟩
noncomputable def mMintTwin : MDef := ⟨1, 1, (.seq (.expr (.call 41 (.cons (.lit (.int 3)) .nil))) .pass)⟩
section
variable {T : Nat -> Option MDef} {k d : Nat} {g : G} {Q : KD} {E : KX} {m n q a b c e : Nat} {bl : List D} {go : List Int} {x : Str}
theorem get_app {g l : List O} {i : Nat} : (g ++ l)[g.length + i]? = l[i]? := by rw [List.getElem?_append_right (by omega)]; congr 1; omega
theorem model_ok (hT : T33 T) (hn : n <= 9) (h : ∀ g', Ex g g' -> g'[g.length]? = some (.dic (mKvs g.length)) -> g'[g.length + 2]? = some (.lst (List.replicate n .non)) -> g'[g.length + 3]? = some (.lst []) -> g'[g.length + 4]? = some (.lst []) -> g'[g.length + 5]? = some (.lst []) -> g'[g.length + 6]? = some (.lst []) -> Q (.ref g.length) g') : callW T (k + 1) 45 [.int n] g Q E := by
 refine call_of hT.h45 rfl ?_
 dsimp [mModel, startD, List.replicate]
 walk_at "w5"
 refine w_dct ?_
 walk_at "w5"
 refine b_rep get_snoc (by omega) (by omega) (by simp; omega) ?_
 walk_at "w5"
 rw [show (List.replicate (Int.toNat (n : Int)) [D.non]).flatten = List.replicate n .non by rw [Int.toNat_natCast, List.flatten_replicate_singleton]]
 simp only [List.append_assoc, List.cons_append, List.nil_append, List.length_append, List.length_cons, List.length_nil, Nat.zero_add, Nat.add_assoc, Nat.reduceAdd]
 have eg : ∀ (o : O) (r : List O), List.set (g ++ (O.dic [] :: r)) g.length o = g ++ (o :: r) := fun o r => by
  rw [List.set_append_right _ _ (Nat.le_refl _), Nat.sub_self]
  rfl
 refine ⟨mKvs g.length, rfl, by simp, by simp, ?_⟩
 rw [eg]
 exact h _ ⟨by simp, fun i hi => List.getElem?_append_left hi⟩ (by simp) get_app get_app get_app get_app get_app
theorem mcutL_ok (hT : T33 T) (M0 : MM g d m q n a b c e) (hc : c < 99) (h : ∀ g1, Ex g g1 -> Q (.tup [.str "", .int ((c : Int) + 1)]) (g1.set (q + 3) (.lst (List.replicate (c + 1) (.tup []))))) : callW T (k + 1) 46 [.ref q, .str "lower"] g Q E := by
 refine call_of hT.h46 rfl ?_
 dsimp [mMCut, startD, List.replicate]
 walk_at "w5"
 have e1 : Ex g (g ++ [O.lst [.str "lower", .str "upper"]]) := Ex.snoc _ _
 refine c_nin (in_sidesL get_snoc (by decide +kernel) ?_)
 have M1 := M0.ex e1
 have h' := h _ e1
 generalize g ++ [O.lst [.str "lower", .str "upper"]] = g1 at *
 walk_at "w5"
 refine ifF (by decide +kernel) ?_
 walk_at "w5"
 refine ix_d M1.dic rfl kv_lo ?_
 refine len_l (items_of M1.lower) ?_
 walk_at "w5"
 rw [List.length_replicate]
 refine ifF (decide_eq_false (by omega)) ?_
 walk_at "w5"
 refine ix_d M1.dic rfl kv_lo ?_
 refine ⟨mk_app M1.lower, ?_⟩
 walk_at "w5"
 refine m_app M1.lower (by simp; omega) ?_
 rw [<- List.replicate_succ']
 have M2 := M1.setL (c + 1)
 walk_at "w5"
 refine ix_d M2.dic rfl kv_lo ?_
 refine len_l (items_of M2.lower) ?_
 walk_at "w5"
 rw [List.length_replicate]
 exact h'
theorem refused_ok (hT : T33 T) {i : Nat} (hi : g[i]? = some (.lst [.str "refused"])) (h : Q (.bl true) g) : callW T (k + 1) 44 [.ref i] g Q E := by
 refine call_of hT.h44 rfl ?_
 dsimp [mRefused, startD, List.replicate]
 walk_at "w5"
 refine isi (c := "list") (b := true) (by decide) (by simp [isTy, hi]) ?_
 walk_at "w5"
 refine ifT (by decide) ?_
 walk_at "w5"
 exact h
structure In33 (g : G) (d m q : Nat) (bl : List D) (go : List Int) (a i : Nat) : Prop where
 mg : MG g d m q bl bl go go a
 dr : Draw g d
 se : ∀ z ∈ bl, SeatD z
 di : DistI bl
 dj : ∀ v, bl.any (eqS (.int v)) = true -> (go.map D.int).any (eqS (.int v)) = false
 bn : bl.length <= 9
 an : a <= 12
 gn : go.length <= i
noncomputable abbrev mBody33 : MS := match mLaw.body with | .seq _ (.seq _ (.seq _ (.seq _ (.seq _ (.seq (.for_ _ _ (.seq _ (.seq _ (.seq _ b)))) _))))) => b | x => x
noncomputable abbrev mRest33 : MS := match mBody33 with | .seq _ b => b | x => x
theorem rest_ok (hT : T33 T) {i : Nat} {v : Int} {s : Str} {y z5 : D} {N : Ends} (hy : SeatD y)
  (tried : ∀ (Q : KD) (E : KX), (∀ g8 j, In33 g8 d m q bl go a i -> g8[j]? = some (.lst [.str s, y]) -> Q (.ref j) g8) -> callW T (k + 6) 49 [.ref m, .str x, .int v] g Q E)
  (hN : ∀ g9, In33 g9 d m q bl go a i -> N.nx [some (.ref 0), some (.ref d), some (.int n), some (.ref m), some (.ref q), some z5, some (.str x), some (.int v), some (.tup [.str s, y])] g9) :
  wpS (callW T (k + 6)) mRest33 N [some (.ref 0), some (.ref d), some (.int n), some (.ref m), some (.ref q), some z5, some (.str x), some (.int v), some (.tup [.str s, y])] g E := by
 dsimp [mRest33, mBody33, mLaw]
 walk_at "w5"
 refine tried _ _ fun g8 j I8 hj => ?_
 walk_at "w5"
 have e9 : Ex g8 (g8 ++ [O.lst [.str s, y]]) := Ex.snoc _ _
 refine like_true hT.h6 hT.h7 1 (k := k + 3) (like_l0 (e9.at hj) get_snoc (fun z hz => ?_) (by simp)) fun g10 e10 => ?_
 ·simp only [List.mem_cons, List.mem_nil_iff, or_false] at hz
  rcases hz with rfl | rfl
  ·exact .str _
  ·exact seat_like hy
 have x10 := e9.trans e10
 walk_at "w5"
 refine standsG_ok (k := k + 1) hT (I8.mg.ex x10) I8.se I8.dj I8.bn (by have := I8.an; omega) fun g11 e11 => ?_
 have M11 := I8.mg.ex (x10.trans e11)
 have D11 := (x10.trans e11).draw I8.dr
 walk_at "w5"
 refine meth_ex M11.mint rfl rfl ?_
 walk_at "w5"
 refine anvils_ok (k := k + 5) hT.tm M11.mint ?_
 refine ⟨mk_app get_snoc, ?_⟩
 walk_at "w5"
 refine m_app get_snoc (by have := I8.bn; omega) ?_
 have es : (g11 ++ [O.lst bl]).set g11.length (.lst (bl ++ [.int v])) = g11 ++ [.lst (bl ++ [.int v])] := by simp
 rw [es]
 have M12 := M11.ex (Ex.snoc _ (.lst (bl ++ [.int v])))
 have D12 := D11.snoc (.lst (bl ++ [.int v]))
 generalize g11 ++ [O.lst (bl ++ [.int v])] = g12 at *
 have I12 : In33 g12 d m q bl go a i := ⟨M12, D12, I8.se, I8.di, I8.dj, I8.bn, I8.an, I8.gn⟩
 walk_at "w5"
 by_cases hv1 : 1 <= v
 ·rw [decide_eq_true hv1]
  walk_at "w5"
  refine ix_d M12.dic rfl kv_lo ?_
  refine len_l (items_of M12.lower) ?_
  walk_at "w5"
  rw [List.length_replicate]
  by_cases hv2 : v <= (a : Int)
  ·rw [decide_eq_true hv2]
   walk_at "w5"
   exact hN _ I12
  ·rw [decide_eq_false hv2]
   walk_at "w5"
   refine told_ok (k := k + 1) hT M12.mint I8.se (fun z => hv2 z.2) ?_
   walk_at "w5"
   refine refused_ok (k := k + 5) hT get_snoc ?_
   walk_at "w5"
   exact hN _ ⟨M12.ex (Ex.snoc _ _), D12.snoc _, I8.se, I8.di, I8.dj, I8.bn, I8.an, I8.gn⟩
 ·rw [decide_eq_false hv1]
  walk_at "w5"
  refine told_ok (k := k + 1) hT M12.mint I8.se (fun z => hv1 z.1) ?_
  walk_at "w5"
  refine refused_ok (k := k + 5) hT get_snoc ?_
  walk_at "w5"
  exact hN _ ⟨M12.ex (Ex.snoc _ _), D12.snoc _, I8.se, I8.di, I8.dj, I8.bn, I8.an, I8.gn⟩
end
section
variable {T : Nat -> Option MDef} {k d : Nat} {g : G} {Q : KD} {E : KX} {m n q a b c e : Nat} {bl : List D} {go : List Int} {x : Str}
theorem In33.ex {g g' : G} {i : Nat} (h : In33 g d m q bl go a i) (e : Ex g g') : In33 g' d m q bl go a i := ⟨h.mg.ex e, e.draw h.dr, h.se, h.di, h.dj, h.bn, h.an, h.gn⟩
theorem In33.gr {g g' : G} {i : Nat} (h : In33 g d m q bl go a i) (e : Gr d g g') (D : Draw g' d) : In33 g' d m q bl go a i := ⟨h.mg.gr e, D, h.se, h.di, h.dj, h.bn, h.an, h.gn⟩
theorem In33.up {g : G} {i : Nat} (h : In33 g d m q bl go a i) : In33 g d m q bl go a (i + 1) := ⟨h.mg, h.dr, h.se, h.di, h.dj, h.bn, h.an, by have := h.gn; omega⟩
theorem any_first {l : List D} {y : D} {j : Nat} (h : FirstD l y j) : l.any (eqS y) = true := by
 obtain ⟨_, _, ⟨z, hz, ez⟩, _⟩ := h
 exact List.any_eq_true.mpr ⟨z, List.mem_of_getElem? hz, ez⟩
theorem get_first {l : List D} {v : Int} {j : Nat} (hl : ∀ z ∈ l, SeatD z) (h : FirstD l (.int v) j) : l[j]? = some (.int v) := by
 obtain ⟨_, _, ⟨z, hz, ez⟩, _⟩ := h
 have := (eqS_iff (.inr ⟨v, rfl⟩) (hl z (List.mem_of_getElem? hz))).mp ez
 rw [this] at hz
 exact hz
theorem ft {b : Bool} {P : Prop} (h1 : b = true) (h2 : b = false) : P := by rw [h1] at h2; cases h2
theorem snoc_set {g : G} {i : Nat} {o p : O} : (g.set i o ++ [p])[g.length]? = some p := by
 have := get_snoc (g := g.set i o) (o := p)
 rwa [List.length_set] at this
theorem turn_ok (hT : T33 T) {i : Nat} (hi : i <= 24) (I0 : In33 g d m q bl go a i) (hx : x = "fix" \/ x = "off") {v : Int} {z5 : D} {z8 : Option D} {N : Ends}
  (hN : ∀ bl' go' g9 z8, In33 g9 d m q bl' go' a (i + 1) -> N.nx [some (.ref 0), some (.ref d), some (.int n), some (.ref m), some (.ref q), some z5, some (.str x), some (.int v), z8] g9) :
  wpS (callW T (k + 6)) mBody33 N [some (.ref 0), some (.ref d), some (.int n), some (.ref m), some (.ref q), some z5, some (.str x), some (.int v), z8] g E := by
 have M0 := I0.mg
 have h1 := M0.dm
 have h2 := M0.mq
 have h3 := I0.gn
 dsimp [mBody33, mLaw]
 walk_at "w5"
 rcases hx with rfl | rfl
 ·refine ifT (by decide +kernel) ?_
  walk_at "w5"
  refine mfix_ok (k := k + 5) hT.hfx M0 I0.se I0.bn (fun hv => ?_) (fun hv e1 => ?_) (fun hv e1 e2 => ?_) (fun hv e1 e2 e3 => ?_) (fun j hv e1 e2 W hn => ?_)
  ·refine rest_ok (k := k) hT (bl := bl) (go := go) (a := a) (i := i + 1) (.inl rfl) (fun Q E h => ?_) (fun g9 I9 => hN _ _ _ _ I9)
   refine tried_fix_ok (k := k) hT M0.mint I0.se I0.bn (fun _ => ?_) (fun z => absurd z hv) (fun z => absurd z hv) (fun z => absurd z hv) (fun _ z => absurd z hv)
   exact h _ _ (I0.up.ex (Ex.snoc _ _)) get_snoc
  ·refine rest_ok (k := k) hT (bl := bl) (go := go) (a := a) (i := i + 1) (.inl rfl) (fun Q E h => ?_) (fun g9 I9 => hN _ _ _ _ I9)
   refine tried_fix_ok (k := k) hT M0.mint I0.se I0.bn (fun z => absurd hv z) (fun _ _ => ?_) (fun _ z => ft e1 z) (fun _ z => ft e1 z) (fun _ _ z => ft e1 z)
   exact h _ _ (I0.up.ex (Ex.snoc _ _)) get_snoc
  ·refine rest_ok (k := k) hT (bl := bl) (go := go) (a := a) (i := i + 1) (.inl rfl) (fun Q E h => ?_) (fun g9 I9 => hN _ _ _ _ I9)
   refine tried_fix_ok (k := k) hT M0.mint I0.se I0.bn (fun z => absurd hv z) (fun _ z => ft z e1) (fun _ _ _ => ?_) (fun _ _ z => ft e2 z) (fun _ _ _ z => ft e2 z)
   exact h _ _ (I0.up.ex (Ex.snoc _ _)) get_snoc
  ·refine rest_ok (k := k) hT (bl := bl) (go := go) (a := a) (i := i + 1) (.inl rfl) (fun Q E h => ?_) (fun g9 I9 => hN _ _ _ _ I9)
   refine tried_fix_ok (k := k) hT M0.mint I0.se I0.bn (fun z => absurd hv z) (fun _ z => ft z e1) (fun _ _ z => ft z e2) (fun _ _ _ _ => ?_) (fun _ _ _ _ w => ft (any_first w) e3)
   exact h _ _ (I0.up.ex (Ex.snoc _ _)) get_snoc
  ·have M1 := M0.setS (bl.set j (.int v))
   have D1 := I0.dr.setN (x := q + 2) (o := .lst (bl.set j (.int v))) (by omega)
   generalize g.set (q + 2) (O.lst (bl.set j (.int v))) = g1 at *
   refine rest_ok (k := k) hT (bl := bl.set j (.int v)) (go := go) (a := a) (i := i + 1) (.inr ⟨_, rfl⟩) (fun Q E h => ?_) (fun g9 I9 => hN _ _ _ _ I9)
   refine tried_fix_ok (k := k) hT M1.mint I0.se I0.bn (fun z => absurd hv z) (fun _ z => ft z e1) (fun _ _ z => ft z e2) (fun _ _ _ z => ft (any_first W) z) (fun j' _ _ _ W' _ => ?_)
   have := first_unique W W'
   subst this
   have M2 := M1.setM (bl.set j (.int v)) go
   have D2 := D1.setN (x := m) (o := mintG (bl.set j (.int v)) go a) (by omega)
   refine h _ _ (In33.ex ⟨M2, D2, seat_set I0.se (.inr ⟨v, rfl⟩), dist_set I0.se I0.di e1, fun w hw => ?_, by rw [List.length_set]; exact I0.bn, I0.an, by omega⟩ (Ex.snoc _ _)) snoc_set
   rcases any_set_int I0.se hw with rfl | hw
   ·exact e2
   ·exact I0.dj w hw
 ·refine ifF (by decide +kernel) ?_
  walk_at "w5"
  refine moff_ok (k := k + 5) hT.hof M0 I0.se I0.bn (by omega) (fun hv => ?_) (fun hv e1 => ?_) (fun j hv e1 W hn => ?_)
  ·refine rest_ok (k := k) hT (bl := bl) (go := go) (a := a) (i := i + 1) (.inl rfl) (fun Q E h => ?_) (fun g9 I9 => hN _ _ _ _ I9)
   refine tried_off_ok (k := k) hT M0.mint I0.se I0.bn (by omega) (fun _ => ?_) (fun z => absurd z hv) (fun _ z => absurd z hv)
   exact h _ _ (I0.up.ex (Ex.snoc _ _)) get_snoc
  ·refine rest_ok (k := k) hT (bl := bl) (go := go) (a := a) (i := i + 1) (.inl rfl) (fun Q E h => ?_) (fun g9 I9 => hN _ _ _ _ I9)
   refine tried_off_ok (k := k) hT M0.mint I0.se I0.bn (by omega) (fun z => absurd hv z) (fun _ _ => ?_) (fun _ _ z => ft z e1)
   exact h _ _ (I0.up.ex (Ex.snoc _ _)) get_snoc
  ·have M1 := (M0.setS (bl.set j .non)).setG (go ++ [v])
   have D1 := (I0.dr.setN (x := q + 2) (o := .lst (bl.set j .non)) (by omega)).setN (x := q + 5) (o := .lst ((go ++ [v]).map .int)) (by omega)
   generalize (g.set (q + 2) (O.lst (bl.set j .non))).set (q + 5) (.lst ((go ++ [v]).map .int)) = g1 at *
   refine rest_ok (k := k) hT (bl := bl.set j .non) (go := go ++ [v]) (a := a) (i := i + 1) (.inr ⟨_, rfl⟩) (fun Q E h => ?_) (fun g9 I9 => hN _ _ _ _ I9)
   refine tried_off_ok (k := k) hT M1.mint I0.se I0.bn (by omega) (fun z => absurd hv z) (fun _ z => ft e1 z) (fun j' _ _ W' _ => ?_)
   have := first_unique W W'
   subst this
   have M2 := M1.setM (bl.set j .non) (go ++ [v])
   have D2 := D1.setN (x := m) (o := mintG (bl.set j .non) (go ++ [v]) a) (by omega)
   refine h _ _ (In33.ex ⟨M2, D2, seat_set I0.se (.inl rfl), dist_non I0.di, fun w hw => ?_, by rw [List.length_set]; exact I0.bn, I0.an, by rw [List.length_append]; simp; omega⟩ (Ex.snoc _ _)) snoc_set
   have hb := I0.dj w (any_set_non I0.se hw)
   rw [List.map_append, List.any_append, hb, Bool.false_or]
   cases e5 : (List.map D.int [v]).any (eqS (.int w)) with
   | false => rfl
   | true =>
    rw [List.map_cons, List.map_nil, List.any_cons, List.any_nil, Bool.or_false] at e5
    have := (eqS_iff (.inr ⟨w, rfl⟩) (.inr ⟨v, rfl⟩)).mp e5
    cases this
    exact ft hw (off_gone I0.se I0.di (get_first I0.se W))
theorem law33_ok (hT : T33 T) {ns : List Int} : callW T (k + 7) 11 [.ref 0] [.fro (ns.map .int)] (fun d _ => d = .bl true) NoX := by
 refine call_of hT.h11 rfl ?_
 dsimp [mLaw, startD, List.replicate]
 walk_at "w5"
 refine open_ok hT.h3 (a := 0) (ns := ns) rfl fun d g D0 _ _ => ?_
 walk_at "w5"
 refine pull_ok hT.h4 D0 (by decide) (by decide) fun r g1 r0 r1 D1 G1 => ?_
 walk_at "w5"
 obtain ⟨n, hn⟩ : ∃ n : Nat, 1 + r = n := ⟨(1 + r).toNat, by omega⟩
 rw [hn]
 refine init_ok (k := k + 2) hT.tm get_snoc (fun n' e1 n1 n9 => ?_) (fun hv => absurd ⟨by omega, by omega⟩ hv)
 obtain rfl : n = n' := by omega
 refine ⟨rfl, ?_⟩
 have es : (g1 ++ [O.ins "Mint" []]).set g1.length (mintO n 0 0) = g1 ++ [mintO n 0 0] := by simp
 rw [es]
 walk_at "w5"
 have em : (g1 ++ [mintO n 0 0])[g1.length]? = some (mintO n 0 0) := get_snoc
 have D2 := D1.snoc (mintO n 0 0)
 have dl := D1.lt
 have ml : g1.length < (g1 ++ [mintO n 0 0]).length := by simp
 clear es
 generalize hm : g1.length = m at *
 generalize g1 ++ [mintO n 0 0] = g2 at *
 refine model_ok (k := k + 5) hT n9 fun g3 e3 k1 k2 k3 k4 k5 k6 => ?_
 have M3 : MM g3 d m g2.length n 0 0 0 0 := ⟨dl, ml, e3.at em, k1, k2, k3, k4, k5, k6⟩
 have D3 := e3.draw D2
 generalize g2.length = q at *
 walk_at "w5"
 refine w_for (callW_mono T _) (i_r1 (callW_mono T _) ?_)
 walk_at "w5"
 refine pull_ok hT.h4 D3 (by decide) (by decide) fun r4 g4 r40 r41 D4 G4 => ?_
 have M4 := M3.gr G4
 walk_at "w5"
 obtain ⟨a, ha⟩ : ∃ a : Nat, 3 + r4 = a := ⟨(3 + r4).toNat, by omega⟩
 rw [ha]
 have ha12 : a <= 12 := by omega
 refine ⟨by omega, by omega, rngD 0 a, fun i σ g => i <= a /\ Draw g d /\ MM g d m q n i 0 i 0 /\ ∃ z5, σ = [some (.ref 0), some (.ref d), some (.int n), some (.ref m), some (.ref q), z5, none, none, none], fun i σ g p => is_fix, ⟨by omega, D4, M4, none, rfl⟩, fun i y σ g hy p => ?_, fun σ g p => ?_⟩
 ·obtain ⟨hia, Dg, Mg, z5, rfl⟩ := p
  obtain ⟨hi, rfl⟩ := rng_get hy
  have hi' : i < a := by omega
  refine tg_one ?_
  try show wpS _ _ _ _ _ _
  walk_at "w5"
  refine meth_ex Mg.mint rfl rfl ?_
  walk_at "w5"
  refine cut_ok (k := k + 3) hT.tm Mg.mint (by decide +kernel) (by omega) (by omega) (fun _ _ => ?_) (fun z => absurd z (by decide)) (fun z => absurd rfl z) (fun z => ?_)
  rotate_left
  ·rcases z with ⟨_, z⟩ | ⟨z, _⟩
   ·omega
   ·exact absurd z (by decide)
  have M5 := Mg.setM (i + 1) 0
  have D5 := Dg.setN (x := m) (o := mintO n (i + 1) 0) (by have := Mg.dm; omega)
  walk_at "w5"
  refine mcutL_ok (k := k + 5) hT M5 (by omega) fun g6 e6 => ?_
  have M6 := (M5.ex e6).setL (i + 1)
  have D6 := (e6.draw D5).setN (x := q + 3) (o := .lst (List.replicate (i + 1) (.tup []))) (by have := Mg.dm; have := Mg.mq; omega)
  walk_at "w5"
  exact ⟨by omega, D6, M6, _, rfl⟩
 ·obtain ⟨hia, Dg, Mg, z5, rfl⟩ := p
  rw [rng_len] at Mg
  have MG0 : MG g d m q (List.replicate n .non) (List.replicate n .non) [] [] a := ⟨Mg.dm, Mg.mq, Mg.mint, Mg.dic, Mg.seats, Mg.lower, Mg.upper, Mg.gone, Mg.coins⟩
  have di : DistI (List.replicate n .non) := fun i j v hi => by
   have := List.eq_of_mem_replicate (List.mem_of_getElem? hi)
   cases this
  have I0 : In33 g d m q (List.replicate n .non) [] a 0 := ⟨MG0, Dg, fun z hz => .inl (List.eq_of_mem_replicate hz), di, fun v _ => rfl, by rw [List.length_replicate]; omega, ha12, by simp⟩
  try show wpS _ _ _ _ _ _
  walk_at "w5"
  refine w_for (callW_mono T _) (i_r1 (callW_mono T _) ?_)
  walk_at "w5"
  refine pull_ok hT.h4 Dg (by decide) (by decide) fun r5 g5 r50 r51 D5 G5 => ?_
  have I5 := I0.gr G5 D5
  walk_at "w5"
  refine ⟨by omega, by omega, rngD 0 (6 + r5).toNat, fun i σ g => ∃ bl go, In33 g d m q bl go a i /\ ∃ z5 z6 z7 z8, σ = [some (.ref 0), some (.ref d), some (.int n), some (.ref m), some (.ref q), z5, z6, z7, z8], fun i σ g p => is_fix, ⟨_, _, I5, _, _, _, _, rfl⟩, fun i y σ g hy p => ?_, fun σ g p => ?_⟩
  ·obtain ⟨bl, go, I6, z5, z6, z7, z8, rfl⟩ := p
   obtain ⟨hi, rfl⟩ := rng_get hy
   refine tg_one ?_
   try show wpS _ _ _ _ _ _
   walk_at "w5"
   have e7 : Ex g (g ++ [O.lst [.str "fix", .str "fix", .str "off"]]) := Ex.snoc _ _
   have hl : (g ++ [O.lst [.str "fix", .str "fix", .str "off"]])[g.length]? = some (.lst (([("fix" : Str), ("fix" : Str), ("off" : Str)] : List Str).map D.str)) := get_snoc
   have I7 := I6.ex e7
   have dlt := I6.dr.lt
   generalize g ++ [O.lst [.str "fix", .str "fix", .str "off"]] = g7 at *
   refine pull_ok hT.h4 I7.dr (by decide) (by decide) fun r8 g8 r80 r81 D8 G8 => ?_
   have I8 := I7.gr G8 D8
   obtain ⟨w, hw, hmem⟩ := at_small (l := ([("fix" : Str), ("fix" : Str), ("off" : Str)] : List Str).map D.str) r80 (by simpa using r81)
   obtain ⟨x, hx, rfl⟩ := List.mem_map.mp hmem
   have hx2 : x = "fix" \/ x = "off" := by
    simp only [List.mem_cons, List.mem_nil_iff, or_false] at hx
    rcases hx with rfl | rfl | rfl
    ·exact .inl rfl
    ·exact .inl rfl
    ·exact .inr rfl
   refine ix_l (items_of (G8.at (by omega) hl)) hw ?_
   walk_at "w5"
   have e9 : Ex g8 (g8 ++ [O.lst [.int 1, .int 2]]) := Ex.snoc _ _
   have h9 : (g8 ++ [O.lst [.int 1, .int 2]])[g8.length]? = some (.lst [.int 1, .int 2]) := get_snoc
   have I9 := I8.ex e9
   have dlt8 := I8.dr.lt
   generalize g8 ++ [O.lst [.int 1, .int 2]] = g9 at *
   refine w_comp (callW_mono T _) (i_l (callW_mono T _) ?_)
   walk_at "w5"
   refine ix_d I9.mg.dic rfl kv_se ?_
   refine ⟨q + 2, _, rfl, items_of I9.mg.seats, bl, fun i ys σ g' => ∃ ns : List Int, ys = ns.map .int /\ ns.length <= i /\ g' = g9 /\ ∃ z0 z1, σ = [z0, z1], by have := I9.bn; omega, fun i ys σ g' p => ?_, ⟨[], rfl, by simp, rfl, none, none, rfl⟩, fun i y ys σ g' hy p => ?_, fun ys σ g' p => ?_⟩
   ·obtain ⟨ns, rfl, h1, rfl, _⟩ := p
    exact ⟨is_lst (items_of I9.mg.seats), by rw [List.length_map]; exact h1⟩
   ·obtain ⟨ns, rfl, h1, rfl, z0, z1, rfl⟩ := p
    refine tg_one ?_
    try show wpT _ _ _ _ _ _
    rcases I9.se y (List.mem_of_getElem? hy) with rfl | ⟨v, rfl⟩
    ·walk_at "w5"
     exact ⟨ns, rfl, by omega, rfl, _, _, rfl⟩
    ·walk_at "w5"
     exact ⟨ns ++ [v], by rw [List.map_append]; rfl, by rw [List.length_append]; simp; omega, rfl, _, _, rfl⟩
   ·obtain ⟨ns, rfl, h1, rfl, _⟩ := p
    have I10 := I9.ex (Ex.snoc _ (O.lst (ns.map .int)))
    have h10 := (Ex.snoc g' (O.lst (ns.map .int))).at h9
    refine b_cat h10 get_snoc (by simp; have := I9.bn; omega) ?_
    generalize g' ++ [O.lst (ns.map .int)] = g10 at *
    have I11 := I10.ex (Ex.snoc _ (O.lst ([D.int 1, .int 2] ++ ns.map .int)))
    have h11 : (g10 ++ [O.lst ([D.int 1, .int 2] ++ ns.map .int)])[g10.length]? = some (.lst (((1 : Int) :: 2 :: ns).map .int)) := get_snoc
    have d10 := I10.dr.lt
    generalize g10 ++ [O.lst ([D.int 1, .int 2] ++ ns.map .int)] = g11 at *
    walk_at "w5"
    refine number_of_ok (k := k + 2) hT h11 d10 (by simp) (by simp; have := I9.bn; omega) I11.dr fun v g12 D12 G12 => ?_
    have I12 := I11.gr G12 D12
    walk_at "w5"
    refine pull_ok hT.h4 D12 (by decide) (by decide) fun r13 g13 _ _ D13 G13 => ?_
    have I13 := I12.gr G13 D13
    walk_at "w5"
    refine if2 (fun _ => ?_) (fun _ => ?_)
    ·walk_at "w5"
     refine ix_d I13.mg.dic rfl kv_lo ?_
     refine len_l (items_of I13.mg.lower) ?_
     walk_at "w5"
     rw [List.length_replicate]
     refine near_ok (k := k + 3) hT (by have := I13.an; omega) D13 fun v2 g14 D14 G14 => ?_
     have I14 := I13.gr G14 D14
     exact turn_ok (k := k) hT (by omega) I14 hx2 fun bl' go' g15 z8 I15 => ⟨bl', go', I15, _, _, _, _, rfl⟩
    ·refine w_pass ?_
     exact turn_ok (k := k) hT (by omega) I13 hx2 fun bl' go' g15 z8 I15 => ⟨bl', go', I15, _, _, _, _, rfl⟩
  ·obtain ⟨bl, go, I6, z5, z6, z7, z8, rfl⟩ := p
   try show wpS _ _ _ _ _ _
   walk_at "w5"
   exact standsG_ok (k := k + 1) hT I6.mg I6.se I6.dj I6.bn (by have := I6.an; omega) fun _ _ => rfl
end
end M

namespace Lk
open PySem L2 M
noncomputable def top (i : Nat) : Stmt := PySem.Challenge.pw_trussel_k33_dies_fixed_and_laid_off.main.body.getD i (.Pass ⟨0, 0, 0, 0⟩)
noncomputable def clsBody : Stmt -> List Stmt
 | .ClassDef (body := b) .. => b
 | _ => []
noncomputable def mtop (i j : Nat) : Stmt := (clsBody (top i)).getD j (.Pass ⟨0, 0, 0, 0⟩)
noncomputable def con : List (Str × D) := [("LAST_DIE", .int 99), ("SIDES", .tup [(.str "lower"), (.str "upper")]), ("MOST_ANVILS", .int 9)]
noncomputable def gd : List (Str × List D) := []
noncomputable def blt : List Str := ["len", "list", "tuple", "isinstance", "all", "range", "int", "bool", "str"]
noncomputable def exc : List Str := ["BadAnvils", "BadSide", "Fixed", "Full", "Gone", "NoAnvil", "NoCoin", "NoDie", "NotFixed"]
noncomputable def fns : List (Str × Nat) := [(("_wall" : Str), 41), (("is_number" : Str), 38), (("number_from" : Str), 1), (("check_side" : Str), 40), (("with_thing" : Str), 177), (("check_anvils" : Str), 42), (("check_cut" : Str), 43), (("_law_open" : Str), 3), (("_law_pull" : Str), 4), (("_law_far" : Str), 5), (("_law_near" : Str), 36), (("_law_num" : Str), 6), (("_law_like" : Str), 7), (("_law_refused" : Str), 44), (("_law_model" : Str), 45), (("_law_m_cut" : Str), 46), (("_law_m_fix" : Str), 178), (("_law_m_off" : Str), 179), (("_law_number_of" : Str), 37), (("_law_mint_stands" : Str), 47), (("_law_tried" : Str), 49), (("_law_state_told" : Str), 180), (("law" : Str), 11)]
noncomputable def clss : List (Str × Nat) := [("Mint", 51)]
noncomputable def mts : List (Str × Str × Nat) := [(("wear_of" : Str), ("Mint" : Str), 52), (("put_wear" : Str), ("Mint" : Str), 53), (("cut" : Str), ("Mint" : Str), 54), (("fix" : Str), ("Mint" : Str), 55), (("lay_off" : Str), ("Mint" : Str), 56), (("mark" : Str), ("Mint" : Str), 57), (("strike" : Str), ("Mint" : Str), 58), (("begin_year" : Str), ("Mint" : Str), 59), (("anvils" : Str), ("Mint" : Str), 60), (("dies" : Str), ("Mint" : Str), 61), (("marks" : Str), ("Mint" : Str), 62), (("state" : Str), ("Mint" : Str), 63), (("year" : Str), ("Mint" : Str), 64), (("struck" : Str), ("Mint" : Str), 65), (("coin" : Str), ("Mint" : Str), 66), (("hoard" : Str), ("Mint" : Str), 67), (("twin" : Str), ("Mint" : Str), 68)]
noncomputable def fls : List (Str × Str) := [(("bench" : Str), ("Mint" : Str)), (("laid_off" : Str), ("Mint" : Str)), (("lower_wear" : Str), ("Mint" : Str)), (("upper_wear" : Str), ("Mint" : Str)), (("present" : Str), ("Mint" : Str)), (("output" : Str), ("Mint" : Str))]
noncomputable def c0 : CEnv := ⟨[], [], true, fns, con, blt, exc, gd, clss, mts, fls, true, true⟩
noncomputable def T : Nat -> Option MDef
 | 41 => some mWall
 | 38 => some mIsNumber
 | 1 => some mNumberFrom
 | 40 => some mCheckSide
 | 177 => some mWithThing
 | 42 => some mCheckAnvils
 | 43 => some mCheckCut
 | 3 => some mOpen
 | 4 => some mPull
 | 5 => some mFar
 | 36 => some mNear
 | 6 => some mNum
 | 7 => some mLike
 | 44 => some mRefused
 | 45 => some mModel
 | 46 => some mMCut
 | 178 => some mMFix
 | 179 => some mMOff
 | 37 => some mNumberOf
 | 47 => some mMintStands
 | 49 => some mTried
 | 180 => some mStateTold
 | 11 => some mLaw
 | 51 => some mMintInit
 | 52 => some mMintWearOf
 | 53 => some mMintPutWear
 | 54 => some mMintCut
 | 55 => some mMintFix
 | 56 => some mMintLayOff
 | 57 => some mMintMark
 | 58 => some mMintStrike
 | 59 => some mMintBeginYear
 | 60 => some mMintAnvils
 | 61 => some mMintDies
 | 62 => some mMintMarks
 | 63 => some mMintState
 | 64 => some mMintYear
 | 65 => some mMintStruck
 | 66 => some mMintCoin
 | 67 => some mMintHoard
 | 68 => some mMintTwin
 | _ => none
noncomputable abbrev d41 : DefI := ⟨"_wall", "_wall", ["k"], ["k"], top 0⟩
noncomputable abbrev d38 : DefI := ⟨"is_number", "is_number", ["thing"], ["thing"], top 13⟩
noncomputable abbrev d1 : DefI := ⟨"number_from", "number_from", ["number", "least", "most"], ["number", "least", "most"], top 14⟩
noncomputable abbrev d40 : DefI := ⟨"check_side", "check_side", ["side"], ["side"], top 18⟩
noncomputable abbrev d177 : DefI := ⟨"with_thing", "with_thing", ["things", "at", "thing"], ["things", "at", "thing"], top 19⟩
noncomputable abbrev d42 : DefI := ⟨"check_anvils", "check_anvils", ["anvils"], ["anvils"], top 22⟩
noncomputable abbrev d43 : DefI := ⟨"check_cut", "check_cut", ["wear", "die"], ["wear", "die"], top 24⟩
noncomputable abbrev d3 : DefI := ⟨"_law_open", "_law_open", ["_law_script"], ["_law_script"], top 27⟩
noncomputable abbrev d4 : DefI := ⟨"_law_pull", "_law_pull", ["_law_draw", "_law_total_of", "_law_cell", "_law_got", "_law_seed"], ["_law_draw", "_law_total_of"], top 28⟩
noncomputable abbrev d5 : DefI := ⟨"_law_far", "_law_far", ["_law_draw", "_law_number"], ["_law_draw"], top 29⟩
noncomputable abbrev d36 : DefI := ⟨"_law_near", "_law_near", ["_law_draw", "_law_total_of"], ["_law_draw", "_law_total_of"], top 30⟩
noncomputable abbrev d6 : DefI := ⟨"_law_num", "_law_num", ["_law_found"], ["_law_found"], top 31⟩
noncomputable abbrev d7 : DefI := ⟨"_law_like", "_law_like", ["_law_found", "_law_due"], ["_law_found", "_law_due"], top 32⟩
noncomputable abbrev d44 : DefI := ⟨"_law_refused", "_law_refused", ["_law_found"], ["_law_found"], top 33⟩
noncomputable abbrev d45 : DefI := ⟨"_law_model", "_law_model", ["_law_anvils"], ["_law_anvils"], top 34⟩
noncomputable abbrev d46 : DefI := ⟨"_law_m_cut", "_law_m_cut", ["_law_m", "_law_side"], ["_law_m", "_law_side"], top 35⟩
noncomputable abbrev d178 : DefI := ⟨"_law_m_fix", "_law_m_fix", ["_law_m", "_law_die", "_law_seat"], ["_law_m", "_law_die"], top 36⟩
noncomputable abbrev d179 : DefI := ⟨"_law_m_off", "_law_m_off", ["_law_m", "_law_die", "_law_seat"], ["_law_m", "_law_die"], top 37⟩
noncomputable abbrev d37 : DefI := ⟨"_law_number_of", "_law_number_of", ["_law_draw", "_law_numbers"], ["_law_draw", "_law_numbers"], top 38⟩
noncomputable abbrev d47 : DefI := ⟨"_law_mint_stands", "_law_mint_stands", ["_law_mint", "_law_m", "_law_side", "_law_die", "_law_word"], ["_law_mint", "_law_m"], top 39⟩
noncomputable abbrev d49 : DefI := ⟨"_law_tried", "_law_tried", ["_law_mint", "_law_word", "_law_die"], ["_law_mint", "_law_word", "_law_die"], top 40⟩
noncomputable abbrev d180 : DefI := ⟨"_law_state_told", "_law_state_told", ["_law_mint", "_law_die"], ["_law_mint", "_law_die"], top 41⟩
noncomputable abbrev d11 : DefI := ⟨"law", "law", ["_law_script", "_law_draw", "_law_anvils", "_law_mint", "_law_m", "_law_turn", "_law_word", "_law_die", "_law_due"], ["_law_script"], top 42⟩
noncomputable abbrev d51 : DefI := ⟨"__init__", "Mint.__init__", ["self", "anvils"], ["self", "anvils"], mtop 25 0⟩
noncomputable abbrev d52 : DefI := ⟨"wear_of", "Mint.wear_of", ["self", "side"], ["self", "side"], mtop 25 1⟩
noncomputable abbrev d53 : DefI := ⟨"put_wear", "Mint.put_wear", ["self", "side", "wear"], ["self", "side", "wear"], mtop 25 2⟩
noncomputable abbrev d54 : DefI := ⟨"cut", "Mint.cut", ["self", "side", "wear"], ["self", "side"], mtop 25 3⟩
noncomputable abbrev d55 : DefI := ⟨"fix", "Mint.fix", ["self", "die", "state", "anvil"], ["self", "die"], mtop 25 4⟩
noncomputable abbrev d56 : DefI := ⟨"lay_off", "Mint.lay_off", ["self", "die", "anvil"], ["self", "die"], mtop 25 5⟩
noncomputable abbrev d57 : DefI := ⟨"mark", "Mint.mark", ["self", "side", "die", "spot"], ["self", "side", "die", "spot"], mtop 25 6⟩
noncomputable abbrev d58 : DefI := ⟨"strike", "Mint.strike", ["self", "lower", "upper"], ["self", "lower", "upper"], mtop 25 7⟩
noncomputable abbrev d59 : DefI := ⟨"begin_year", "Mint.begin_year", ["self", "number"], ["self", "number"], mtop 25 8⟩
noncomputable abbrev d60 : DefI := ⟨"anvils", "Mint.anvils", ["self"], ["self"], mtop 25 9⟩
noncomputable abbrev d61 : DefI := ⟨"dies", "Mint.dies", ["self", "side"], ["self", "side"], mtop 25 10⟩
noncomputable abbrev d62 : DefI := ⟨"marks", "Mint.marks", ["self", "side", "die", "wear"], ["self", "side", "die"], mtop 25 11⟩
noncomputable abbrev d63 : DefI := ⟨"state", "Mint.state", ["self", "die"], ["self", "die"], mtop 25 12⟩
noncomputable abbrev d64 : DefI := ⟨"year", "Mint.year", ["self"], ["self"], mtop 25 13⟩
noncomputable abbrev d65 : DefI := ⟨"struck", "Mint.struck", ["self"], ["self"], mtop 25 14⟩
noncomputable abbrev d66 : DefI := ⟨"coin", "Mint.coin", ["self", "number"], ["self", "number"], mtop 25 15⟩
noncomputable abbrev d67 : DefI := ⟨"hoard", "Mint.hoard", ["self", "numbers"], ["self", "numbers"], mtop 25 16⟩
noncomputable abbrev d68 : DefI := ⟨"twin", "Mint.twin", ["self"], ["self"], mtop 25 17⟩
theorem sc41 : FnScope d41.N d41.ps (defScope d41.st) := ⟨rfl, rfl, rfl, by decide +kernel, rfl, by decide +kernel, by decide +kernel⟩
theorem co41 : compSs (comp 60) (c0.at d41) (defBody d41.st) = some mWall.body := by kernel_rfl
theorem sc38 : FnScope d38.N d38.ps (defScope d38.st) := ⟨rfl, rfl, rfl, by decide +kernel, rfl, by decide +kernel, by decide +kernel⟩
theorem co38 : compSs (comp 60) (c0.at d38) (defBody d38.st) = some mIsNumber.body := by kernel_rfl
theorem sc1 : FnScope d1.N d1.ps (defScope d1.st) := ⟨rfl, rfl, rfl, by decide +kernel, rfl, by decide +kernel, by decide +kernel⟩
theorem co1 : compSs (comp 60) (c0.at d1) (defBody d1.st) = some mNumberFrom.body := by kernel_rfl
theorem sc40 : FnScope d40.N d40.ps (defScope d40.st) := ⟨rfl, rfl, rfl, by decide +kernel, rfl, by decide +kernel, by decide +kernel⟩
theorem co40 : compSs (comp 60) (c0.at d40) (defBody d40.st) = some mCheckSide.body := by kernel_rfl
theorem sc177 : FnScope d177.N d177.ps (defScope d177.st) := ⟨rfl, rfl, rfl, by decide +kernel, rfl, by decide +kernel, by decide +kernel⟩
theorem co177 : compSs (comp 60) (c0.at d177) (defBody d177.st) = some mWithThing.body := by kernel_rfl
theorem sc42 : FnScope d42.N d42.ps (defScope d42.st) := ⟨rfl, rfl, rfl, by decide +kernel, rfl, by decide +kernel, by decide +kernel⟩
theorem co42 : compSs (comp 60) (c0.at d42) (defBody d42.st) = some mCheckAnvils.body := by kernel_rfl
theorem sc43 : FnScope d43.N d43.ps (defScope d43.st) := ⟨rfl, rfl, rfl, by decide +kernel, rfl, by decide +kernel, by decide +kernel⟩
theorem co43 : compSs (comp 60) (c0.at d43) (defBody d43.st) = some mCheckCut.body := by kernel_rfl
theorem sc3 : FnScope d3.N d3.ps (defScope d3.st) := ⟨rfl, rfl, rfl, by decide +kernel, rfl, by decide +kernel, by decide +kernel⟩
theorem co3 : compSs (comp 60) (c0.at d3) (defBody d3.st) = some mOpen.body := by kernel_rfl
theorem sc4 : FnScope d4.N d4.ps (defScope d4.st) := ⟨rfl, rfl, rfl, by decide +kernel, rfl, by decide +kernel, by decide +kernel⟩
theorem co4 : compSs (comp 60) (c0.at d4) (defBody d4.st) = some mPull.body := by kernel_rfl
theorem sc5 : FnScope d5.N d5.ps (defScope d5.st) := ⟨rfl, rfl, rfl, by decide +kernel, rfl, by decide +kernel, by decide +kernel⟩
theorem co5 : compSs (comp 60) (c0.at d5) (defBody d5.st) = some mFar.body := by kernel_rfl
theorem sc36 : FnScope d36.N d36.ps (defScope d36.st) := ⟨rfl, rfl, rfl, by decide +kernel, rfl, by decide +kernel, by decide +kernel⟩
theorem co36 : compSs (comp 60) (c0.at d36) (defBody d36.st) = some mNear.body := by kernel_rfl
theorem sc6 : FnScope d6.N d6.ps (defScope d6.st) := ⟨rfl, rfl, rfl, by decide +kernel, rfl, by decide +kernel, by decide +kernel⟩
theorem co6 : compSs (comp 60) (c0.at d6) (defBody d6.st) = some mNum.body := by kernel_rfl
theorem sc7 : FnScope d7.N d7.ps (defScope d7.st) := ⟨rfl, rfl, rfl, by decide +kernel, rfl, by decide +kernel, by decide +kernel⟩
theorem co7 : compSs (comp 60) (c0.at d7) (defBody d7.st) = some mLike.body := by kernel_rfl
theorem sc44 : FnScope d44.N d44.ps (defScope d44.st) := ⟨rfl, rfl, rfl, by decide +kernel, rfl, by decide +kernel, by decide +kernel⟩
theorem co44 : compSs (comp 60) (c0.at d44) (defBody d44.st) = some mRefused.body := by kernel_rfl
theorem sc45 : FnScope d45.N d45.ps (defScope d45.st) := ⟨rfl, rfl, rfl, by decide +kernel, rfl, by decide +kernel, by decide +kernel⟩
theorem co45 : compSs (comp 60) (c0.at d45) (defBody d45.st) = some mModel.body := by kernel_rfl
theorem sc46 : FnScope d46.N d46.ps (defScope d46.st) := ⟨rfl, rfl, rfl, by decide +kernel, rfl, by decide +kernel, by decide +kernel⟩
theorem co46 : compSs (comp 60) (c0.at d46) (defBody d46.st) = some mMCut.body := by kernel_rfl
theorem sc178 : FnScope d178.N d178.ps (defScope d178.st) := ⟨rfl, rfl, rfl, by decide +kernel, rfl, by decide +kernel, by decide +kernel⟩
theorem co178 : compSs (comp 60) (c0.at d178) (defBody d178.st) = some mMFix.body := by kernel_rfl
theorem sc179 : FnScope d179.N d179.ps (defScope d179.st) := ⟨rfl, rfl, rfl, by decide +kernel, rfl, by decide +kernel, by decide +kernel⟩
theorem co179 : compSs (comp 60) (c0.at d179) (defBody d179.st) = some mMOff.body := by kernel_rfl
theorem sc37 : FnScope d37.N d37.ps (defScope d37.st) := ⟨rfl, rfl, rfl, by decide +kernel, rfl, by decide +kernel, by decide +kernel⟩
theorem co37 : compSs (comp 60) (c0.at d37) (defBody d37.st) = some mNumberOf.body := by kernel_rfl
theorem sc47 : FnScope d47.N d47.ps (defScope d47.st) := ⟨rfl, rfl, rfl, by decide +kernel, rfl, by decide +kernel, by decide +kernel⟩
theorem co47 : compSs (comp 60) (c0.at d47) (defBody d47.st) = some mMintStands.body := by kernel_rfl
theorem sc49 : FnScope d49.N d49.ps (defScope d49.st) := ⟨rfl, rfl, rfl, by decide +kernel, rfl, by decide +kernel, by decide +kernel⟩
theorem co49 : compSs (comp 60) (c0.at d49) (defBody d49.st) = some mTried.body := by kernel_rfl
theorem sc180 : FnScope d180.N d180.ps (defScope d180.st) := ⟨rfl, rfl, rfl, by decide +kernel, rfl, by decide +kernel, by decide +kernel⟩
theorem co180 : compSs (comp 60) (c0.at d180) (defBody d180.st) = some mStateTold.body := by kernel_rfl
theorem sc11 : FnScope d11.N d11.ps (defScope d11.st) := ⟨rfl, rfl, rfl, by decide +kernel, rfl, by decide +kernel, by decide +kernel⟩
theorem co11 : compSs (comp 60) (c0.at d11) (defBody d11.st) = some mLaw.body := by kernel_rfl
theorem sc51 : FnScope d51.N d51.ps (defScope d51.st) := ⟨rfl, rfl, rfl, by decide +kernel, rfl, by decide +kernel, by decide +kernel⟩
theorem co51 : compSs (comp 60) (c0.at d51) (defBody d51.st) = some mMintInit.body := by kernel_rfl
theorem sc52 : FnScope d52.N d52.ps (defScope d52.st) := ⟨rfl, rfl, rfl, by decide +kernel, rfl, by decide +kernel, by decide +kernel⟩
theorem co52 : compSs (comp 60) (c0.at d52) (defBody d52.st) = some mMintWearOf.body := by kernel_rfl
theorem sc53 : FnScope d53.N d53.ps (defScope d53.st) := ⟨rfl, rfl, rfl, by decide +kernel, rfl, by decide +kernel, by decide +kernel⟩
theorem co53 : compSs (comp 60) (c0.at d53) (defBody d53.st) = some mMintPutWear.body := by kernel_rfl
theorem sc54 : FnScope d54.N d54.ps (defScope d54.st) := ⟨rfl, rfl, rfl, by decide +kernel, rfl, by decide +kernel, by decide +kernel⟩
theorem co54 : compSs (comp 60) (c0.at d54) (defBody d54.st) = some mMintCut.body := by kernel_rfl
theorem sc55 : FnScope d55.N d55.ps (defScope d55.st) := ⟨rfl, rfl, rfl, by decide +kernel, rfl, by decide +kernel, by decide +kernel⟩
theorem co55 : compSs (comp 60) (c0.at d55) (defBody d55.st) = some mMintFix.body := by kernel_rfl
theorem sc56 : FnScope d56.N d56.ps (defScope d56.st) := ⟨rfl, rfl, rfl, by decide +kernel, rfl, by decide +kernel, by decide +kernel⟩
theorem co56 : compSs (comp 60) (c0.at d56) (defBody d56.st) = some mMintLayOff.body := by kernel_rfl
theorem sc57 : FnScope d57.N d57.ps (defScope d57.st) := ⟨rfl, rfl, rfl, by decide +kernel, rfl, by decide +kernel, by decide +kernel⟩
theorem co57 : compSs (comp 60) (c0.at d57) (defBody d57.st) = some mMintMark.body := by kernel_rfl
theorem sc58 : FnScope d58.N d58.ps (defScope d58.st) := ⟨rfl, rfl, rfl, by decide +kernel, rfl, by decide +kernel, by decide +kernel⟩
theorem co58 : compSs (comp 60) (c0.at d58) (defBody d58.st) = some mMintStrike.body := by kernel_rfl
theorem sc59 : FnScope d59.N d59.ps (defScope d59.st) := ⟨rfl, rfl, rfl, by decide +kernel, rfl, by decide +kernel, by decide +kernel⟩
theorem co59 : compSs (comp 60) (c0.at d59) (defBody d59.st) = some mMintBeginYear.body := by kernel_rfl
theorem sc60 : FnScope d60.N d60.ps (defScope d60.st) := ⟨rfl, rfl, rfl, by decide +kernel, rfl, by decide +kernel, by decide +kernel⟩
theorem co60 : compSs (comp 60) (c0.at d60) (defBody d60.st) = some mMintAnvils.body := by kernel_rfl
theorem sc61 : FnScope d61.N d61.ps (defScope d61.st) := ⟨rfl, rfl, rfl, by decide +kernel, rfl, by decide +kernel, by decide +kernel⟩
theorem co61 : compSs (comp 60) (c0.at d61) (defBody d61.st) = some mMintDies.body := by kernel_rfl
theorem sc62 : FnScope d62.N d62.ps (defScope d62.st) := ⟨rfl, rfl, rfl, by decide +kernel, rfl, by decide +kernel, by decide +kernel⟩
theorem co62 : compSs (comp 60) (c0.at d62) (defBody d62.st) = some mMintMarks.body := by kernel_rfl
theorem sc63 : FnScope d63.N d63.ps (defScope d63.st) := ⟨rfl, rfl, rfl, by decide +kernel, rfl, by decide +kernel, by decide +kernel⟩
theorem co63 : compSs (comp 60) (c0.at d63) (defBody d63.st) = some mMintState.body := by kernel_rfl
theorem sc64 : FnScope d64.N d64.ps (defScope d64.st) := ⟨rfl, rfl, rfl, by decide +kernel, rfl, by decide +kernel, by decide +kernel⟩
theorem co64 : compSs (comp 60) (c0.at d64) (defBody d64.st) = some mMintYear.body := by kernel_rfl
theorem sc65 : FnScope d65.N d65.ps (defScope d65.st) := ⟨rfl, rfl, rfl, by decide +kernel, rfl, by decide +kernel, by decide +kernel⟩
theorem co65 : compSs (comp 60) (c0.at d65) (defBody d65.st) = some mMintStruck.body := by kernel_rfl
theorem sc66 : FnScope d66.N d66.ps (defScope d66.st) := ⟨rfl, rfl, rfl, by decide +kernel, rfl, by decide +kernel, by decide +kernel⟩
theorem co66 : compSs (comp 60) (c0.at d66) (defBody d66.st) = some mMintCoin.body := by kernel_rfl
theorem sc67 : FnScope d67.N d67.ps (defScope d67.st) := ⟨rfl, rfl, rfl, by decide +kernel, rfl, by decide +kernel, by decide +kernel⟩
theorem co67 : compSs (comp 60) (c0.at d67) (defBody d67.st) = some mMintHoard.body := by kernel_rfl
theorem sc68 : FnScope d68.N d68.ps (defScope d68.st) := ⟨rfl, rfl, rfl, by decide +kernel, rfl, by decide +kernel, by decide +kernel⟩
theorem co68 : compSs (comp 60) (c0.at d68) (defBody d68.st) = some mMintTwin.body := by kernel_rfl
theorem own_of_ns {K : PySem.W.Frag} {h₀ : Heap} {mg : Str -> Option Value} {x : Str} {C : Addr} {bmB : List Value} {newId : String} (X : K.In h₀) (G : h₀.Ns mainGlobals mg) (e : PySem.W.nsIn K mainGlobals x = some (some (.ref C))) (q : PySem.W.excIn K C bmB newId = true) : PyProof.Rows.OwnCls x C bmB newId mg h₀ := by
 refine ⟨PySem.W.mg_of X G e, ?_⟩
 unfold PySem.W.excIn at q
 split at q
 ·rename_i dd cd sl ho
  split at q
  ·rename_i C' bm k0 k1 k2 k3 n k5 hm hs
   simp only [Bool.and_eq_true, beq_iff_eq, Bool.not_eq_true'] at q
   obtain ⟨⟨⟨⟨⟨z1, z2⟩, hdel⟩, ht⟩, hok⟩, hni⟩ := q
   subst z1; subst z2
   obtain ⟨nm, bs, mro, ns, qn, hd, sn, sub, ab, col, del⟩ := cd
   dsimp only at hm hdel hok hni
   subst hm hdel
   have hsl : sl = #[k0, k1, k2, k3, some (.builtin n), k5] := by
    obtain ⟨l⟩ := sl
    simp only at hs
    rw [hs]
   subst hsl
   exact ⟨bm, ns, nm, qn, bs, hd, sn, sub, ab, col, dd, k0, k1, k2, k3, k5, _, X _ _ ho, .of_isNs (PySem.W.isNs_of_in X hok), PySem.W.nsMap_none_of_in X hok hni, PySem.W.tail_of_in X ht⟩
  ·cases q
 ·cases q
noncomputable def clsAddr (K : PySem.W.Frag) (x : Str) : Addr := match PySem.W.nsIn K mainGlobals x with
 | some (some (.ref C)) => C
 | _ => 0
noncomputable def exmLook (K : PySem.W.Frag) (exc : List Str) : Bool := exc.all fun x => exc.all fun y => decide (PySem.W.exmOne K (.ref (clsAddr K x)) (.ref (clsAddr K y)) = some (decide (x = y)))
theorem exm_of {K : PySem.W.Frag} {exc : List Str} (h : exmLook K exc = true) {x y : Str} {C C' : Addr} (hx : exc.contains x = true) (hy : exc.contains y = true) (hC : IsCls K x C) (hC' : IsCls K y C') : PySem.W.exmOne K (.ref C) (.ref C') = some (decide (x = y)) := by
 have h1 := List.all_eq_true.mp h x (by simpa using hx)
 have h2 := of_decide_eq_true (List.all_eq_true.mp h1 y (by simpa using hy))
 have e1 : clsAddr K x = C := by unfold clsAddr; rw [show PySem.W.nsIn K mainGlobals x = _ from hC]
 have e2 : clsAddr K y = C' := by unfold clsAddr; rw [show PySem.W.nsIn K mainGlobals y = _ from hC']
 rw [e1, e2] at h2
 exact h2
theorem len1 {α : Type} {us : List α} (h : us.length = 1) : ∃ x0, us = [x0] := by
 rcases us with _ | ⟨x0, _ | ⟨y, ys⟩⟩ <;> first | exact ⟨_, rfl⟩ | (simp at h; done) | (simp at h; omega)
theorem len2 {α : Type} {us : List α} (h : us.length = 2) : ∃ x0 x1, us = [x0, x1] := by
 rcases us with _ | ⟨x0, _ | ⟨x1, _ | ⟨y, ys⟩⟩⟩ <;> first | exact ⟨_, _, rfl⟩ | (simp at h; done) | (simp at h; omega)
theorem len3 {α : Type} {us : List α} (h : us.length = 3) : ∃ x0 x1 x2, us = [x0, x1, x2] := by
 rcases us with _ | ⟨x0, _ | ⟨x1, _ | ⟨x2, _ | ⟨y, ys⟩⟩⟩⟩ <;> first | exact ⟨_, _, _, rfl⟩ | (simp at h; done) | (simp at h; omega)
theorem len4 {α : Type} {us : List α} (h : us.length = 4) : ∃ x0 x1 x2 x3, us = [x0, x1, x2, x3] := by
 rcases us with _ | ⟨x0, _ | ⟨x1, _ | ⟨x2, _ | ⟨x3, _ | ⟨y, ys⟩⟩⟩⟩⟩ <;> first | exact ⟨_, _, _, _, rfl⟩ | (simp at h; done) | (simp at h; omega)
theorem all_mk {l : PySem.W.OpenLaw} {w : World} {K : PySem.W.Frag} {h : Heap} {mg : Str -> Option Value} {fa f41 f38 f1 f40 f177 f42 f43 f3 f4 f5 f36 f6 f7 f44 f45 f46 f178 f179 f37 f47 f49 f180 f11 f51 f52 f53 f54 f55 f56 f57 f58 f59 f60 f61 f62 f63 f64 f65 f66 f67 f68 ca_0 ca1 xa0 xa1 xa2 xa3 xa4 xa5 xa6 xa7 xa8 : Addr} {t0 ct1_0 ct1_1 t2 : Tok} (X : K.In h) (G : h.Ns mainGlobals mg) (hfa : mg "law" = some (.ref fa))
  {od41 an41 : Option Addr} {sl41 : Array (Option Value)} {oc41 kV41 dc41 pm41 cd41 ct41 : Value} {od38 an38 : Option Addr} {sl38 : Array (Option Value)} {oc38 kV38 dc38 pm38 cd38 ct38 : Value} {od1 an1 : Option Addr} {sl1 : Array (Option Value)} {oc1 kV1 dc1 pm1 cd1 ct1 : Value} {od40 an40 : Option Addr} {sl40 : Array (Option Value)} {oc40 kV40 dc40 pm40 cd40 ct40 : Value} {od177 an177 : Option Addr} {sl177 : Array (Option Value)} {oc177 kV177 dc177 pm177 cd177 ct177 : Value} {od42 an42 : Option Addr} {sl42 : Array (Option Value)} {oc42 kV42 dc42 pm42 cd42 ct42 : Value} {od43 an43 : Option Addr} {sl43 : Array (Option Value)} {oc43 kV43 dc43 pm43 cd43 ct43 : Value} {od3 an3 : Option Addr} {sl3 : Array (Option Value)} {oc3 kV3 dc3 pm3 cd3 ct3 : Value} {od4 an4 : Option Addr} {sl4 : Array (Option Value)} {oc4 kV4 dc4 pm4 cd4 ct4 : Value} {od5 an5 : Option Addr} {sl5 : Array (Option Value)} {oc5 kV5 dc5 pm5 cd5 ct5 : Value} {od36 an36 : Option Addr} {sl36 : Array (Option Value)} {oc36 kV36 dc36 pm36 cd36 ct36 : Value} {od6 an6 : Option Addr} {sl6 : Array (Option Value)} {oc6 kV6 dc6 pm6 cd6 ct6 : Value} {od7 an7 : Option Addr} {sl7 : Array (Option Value)} {oc7 kV7 dc7 pm7 cd7 ct7 : Value} {od44 an44 : Option Addr} {sl44 : Array (Option Value)} {oc44 kV44 dc44 pm44 cd44 ct44 : Value} {od45 an45 : Option Addr} {sl45 : Array (Option Value)} {oc45 kV45 dc45 pm45 cd45 ct45 : Value} {od46 an46 : Option Addr} {sl46 : Array (Option Value)} {oc46 kV46 dc46 pm46 cd46 ct46 : Value} {od178 an178 : Option Addr} {sl178 : Array (Option Value)} {oc178 kV178 dc178 pm178 cd178 ct178 : Value} {od179 an179 : Option Addr} {sl179 : Array (Option Value)} {oc179 kV179 dc179 pm179 cd179 ct179 : Value} {od37 an37 : Option Addr} {sl37 : Array (Option Value)} {oc37 kV37 dc37 pm37 cd37 ct37 : Value} {od47 an47 : Option Addr} {sl47 : Array (Option Value)} {oc47 kV47 dc47 pm47 cd47 ct47 : Value} {od49 an49 : Option Addr} {sl49 : Array (Option Value)} {oc49 kV49 dc49 pm49 cd49 ct49 : Value} {od180 an180 : Option Addr} {sl180 : Array (Option Value)} {oc180 kV180 dc180 pm180 cd180 ct180 : Value} {od11 an11 : Option Addr} {sl11 : Array (Option Value)} {oc11 kV11 dc11 pm11 cd11 ct11 : Value} {od51 an51 : Option Addr} {sl51 : Array (Option Value)} {oc51 kV51 dc51 pm51 cd51 ct51 : Value} {od52 an52 : Option Addr} {sl52 : Array (Option Value)} {oc52 kV52 dc52 pm52 cd52 ct52 : Value} {od53 an53 : Option Addr} {sl53 : Array (Option Value)} {oc53 kV53 dc53 pm53 cd53 ct53 : Value} {od54 an54 : Option Addr} {sl54 : Array (Option Value)} {oc54 kV54 dc54 pm54 cd54 ct54 : Value} {od55 an55 : Option Addr} {sl55 : Array (Option Value)} {oc55 kV55 dc55 pm55 cd55 ct55 : Value} {od56 an56 : Option Addr} {sl56 : Array (Option Value)} {oc56 kV56 dc56 pm56 cd56 ct56 : Value} {od57 an57 : Option Addr} {sl57 : Array (Option Value)} {oc57 kV57 dc57 pm57 cd57 ct57 : Value} {od58 an58 : Option Addr} {sl58 : Array (Option Value)} {oc58 kV58 dc58 pm58 cd58 ct58 : Value} {od59 an59 : Option Addr} {sl59 : Array (Option Value)} {oc59 kV59 dc59 pm59 cd59 ct59 : Value} {od60 an60 : Option Addr} {sl60 : Array (Option Value)} {oc60 kV60 dc60 pm60 cd60 ct60 : Value} {od61 an61 : Option Addr} {sl61 : Array (Option Value)} {oc61 kV61 dc61 pm61 cd61 ct61 : Value} {od62 an62 : Option Addr} {sl62 : Array (Option Value)} {oc62 kV62 dc62 pm62 cd62 ct62 : Value} {od63 an63 : Option Addr} {sl63 : Array (Option Value)} {oc63 kV63 dc63 pm63 cd63 ct63 : Value} {od64 an64 : Option Addr} {sl64 : Array (Option Value)} {oc64 kV64 dc64 pm64 cd64 ct64 : Value} {od65 an65 : Option Addr} {sl65 : Array (Option Value)} {oc65 kV65 dc65 pm65 cd65 ct65 : Value} {od66 an66 : Option Addr} {sl66 : Array (Option Value)} {oc66 kV66 dc66 pm66 cd66 ct66 : Value} {od67 an67 : Option Addr} {sl67 : Array (Option Value)} {oc67 kV67 dc67 pm67 cd67 ct67 : Value} {od68 an68 : Option Addr} {sl68 : Array (Option Value)} {oc68 kV68 dc68 pm68 cd68 ct68 : Value} {csl1 : Array (Option Value)} {cnn1 : Nat}
  (cn0 : PySem.W.nsIn K mainGlobals "Mint" = some (some (.ref ca_0)))
  (cp0 : PySem.W.plainGet K ca_0 Str.empty = true)
  (chd0 : PySem.W.hasDictIn K ca_0 = true)
  (cpo0 : PySem.W.plainOver K ca_0 = true)
  (csa0 : PySem.W.findIn K (.ref ca_0) "__setattr__" = some (some (.builtin "object.__setattr__")))
  (cmk0 : PySem.W.makesIn K ca_0 = true)
  (ckp0 : PySem.W.keepIn K (.ref ca_0) = true)
  (a41 : PySem.W.nsIn K mainGlobals "_wall" = some (some (.ref f41)))
  (l41 : K.lookup f41 = some ⟨oc41, od41, .func (PySem.W.fnOf "_wall" "_wall" (defArgs (top 0)) (defBody (top 0)) (defScope (top 0)) .none kV41 dc41 pm41 an41 cd41 ct41), sl41⟩)
  (c41 : PySem.W.codeIn K cd41 "_wall" = true)
  (k41 : PySem.W.keepIn K (.ref f41) = true)
  (a38 : PySem.W.nsIn K mainGlobals "is_number" = some (some (.ref f38)))
  (l38 : K.lookup f38 = some ⟨oc38, od38, .func (PySem.W.fnOf "is_number" "is_number" (defArgs (top 13)) (defBody (top 13)) (defScope (top 13)) .none kV38 dc38 pm38 an38 cd38 ct38), sl38⟩)
  (c38 : PySem.W.codeIn K cd38 "is_number" = true)
  (k38 : PySem.W.keepIn K (.ref f38) = true)
  (a1 : PySem.W.nsIn K mainGlobals "number_from" = some (some (.ref f1)))
  (l1 : K.lookup f1 = some ⟨oc1, od1, .func (PySem.W.fnOf "number_from" "number_from" (defArgs (top 14)) (defBody (top 14)) (defScope (top 14)) .none kV1 dc1 pm1 an1 cd1 ct1), sl1⟩)
  (c1 : PySem.W.codeIn K cd1 "number_from" = true)
  (k1 : PySem.W.keepIn K (.ref f1) = true)
  (a40 : PySem.W.nsIn K mainGlobals "check_side" = some (some (.ref f40)))
  (l40 : K.lookup f40 = some ⟨oc40, od40, .func (PySem.W.fnOf "check_side" "check_side" (defArgs (top 18)) (defBody (top 18)) (defScope (top 18)) .none kV40 dc40 pm40 an40 cd40 ct40), sl40⟩)
  (c40 : PySem.W.codeIn K cd40 "check_side" = true)
  (k40 : PySem.W.keepIn K (.ref f40) = true)
  (a177 : PySem.W.nsIn K mainGlobals "with_thing" = some (some (.ref f177)))
  (l177 : K.lookup f177 = some ⟨oc177, od177, .func (PySem.W.fnOf "with_thing" "with_thing" (defArgs (top 19)) (defBody (top 19)) (defScope (top 19)) .none kV177 dc177 pm177 an177 cd177 ct177), sl177⟩)
  (c177 : PySem.W.codeIn K cd177 "with_thing" = true)
  (k177 : PySem.W.keepIn K (.ref f177) = true)
  (a42 : PySem.W.nsIn K mainGlobals "check_anvils" = some (some (.ref f42)))
  (l42 : K.lookup f42 = some ⟨oc42, od42, .func (PySem.W.fnOf "check_anvils" "check_anvils" (defArgs (top 22)) (defBody (top 22)) (defScope (top 22)) .none kV42 dc42 pm42 an42 cd42 ct42), sl42⟩)
  (c42 : PySem.W.codeIn K cd42 "check_anvils" = true)
  (k42 : PySem.W.keepIn K (.ref f42) = true)
  (a43 : PySem.W.nsIn K mainGlobals "check_cut" = some (some (.ref f43)))
  (l43 : K.lookup f43 = some ⟨oc43, od43, .func (PySem.W.fnOf "check_cut" "check_cut" (defArgs (top 24)) (defBody (top 24)) (defScope (top 24)) .none kV43 dc43 pm43 an43 cd43 ct43), sl43⟩)
  (c43 : PySem.W.codeIn K cd43 "check_cut" = true)
  (k43 : PySem.W.keepIn K (.ref f43) = true)
  (a3 : PySem.W.nsIn K mainGlobals "_law_open" = some (some (.ref f3)))
  (l3 : K.lookup f3 = some ⟨oc3, od3, .func (PySem.W.fnOf "_law_open" "_law_open" (defArgs (top 27)) (defBody (top 27)) (defScope (top 27)) .none kV3 dc3 pm3 an3 cd3 ct3), sl3⟩)
  (c3 : PySem.W.codeIn K cd3 "_law_open" = true)
  (k3 : PySem.W.keepIn K (.ref f3) = true)
  (a4 : PySem.W.nsIn K mainGlobals "_law_pull" = some (some (.ref f4)))
  (l4 : K.lookup f4 = some ⟨oc4, od4, .func (PySem.W.fnOf "_law_pull" "_law_pull" (defArgs (top 28)) (defBody (top 28)) (defScope (top 28)) .none kV4 dc4 pm4 an4 cd4 ct4), sl4⟩)
  (c4 : PySem.W.codeIn K cd4 "_law_pull" = true)
  (k4 : PySem.W.keepIn K (.ref f4) = true)
  (a5 : PySem.W.nsIn K mainGlobals "_law_far" = some (some (.ref f5)))
  (l5 : K.lookup f5 = some ⟨oc5, od5, .func (PySem.W.fnOf "_law_far" "_law_far" (defArgs (top 29)) (defBody (top 29)) (defScope (top 29)) .none kV5 dc5 pm5 an5 cd5 ct5), sl5⟩)
  (c5 : PySem.W.codeIn K cd5 "_law_far" = true)
  (k5 : PySem.W.keepIn K (.ref f5) = true)
  (a36 : PySem.W.nsIn K mainGlobals "_law_near" = some (some (.ref f36)))
  (l36 : K.lookup f36 = some ⟨oc36, od36, .func (PySem.W.fnOf "_law_near" "_law_near" (defArgs (top 30)) (defBody (top 30)) (defScope (top 30)) .none kV36 dc36 pm36 an36 cd36 ct36), sl36⟩)
  (c36 : PySem.W.codeIn K cd36 "_law_near" = true)
  (k36 : PySem.W.keepIn K (.ref f36) = true)
  (a6 : PySem.W.nsIn K mainGlobals "_law_num" = some (some (.ref f6)))
  (l6 : K.lookup f6 = some ⟨oc6, od6, .func (PySem.W.fnOf "_law_num" "_law_num" (defArgs (top 31)) (defBody (top 31)) (defScope (top 31)) .none kV6 dc6 pm6 an6 cd6 ct6), sl6⟩)
  (c6 : PySem.W.codeIn K cd6 "_law_num" = true)
  (k6 : PySem.W.keepIn K (.ref f6) = true)
  (a7 : PySem.W.nsIn K mainGlobals "_law_like" = some (some (.ref f7)))
  (l7 : K.lookup f7 = some ⟨oc7, od7, .func (PySem.W.fnOf "_law_like" "_law_like" (defArgs (top 32)) (defBody (top 32)) (defScope (top 32)) .none kV7 dc7 pm7 an7 cd7 ct7), sl7⟩)
  (c7 : PySem.W.codeIn K cd7 "_law_like" = true)
  (k7 : PySem.W.keepIn K (.ref f7) = true)
  (a44 : PySem.W.nsIn K mainGlobals "_law_refused" = some (some (.ref f44)))
  (l44 : K.lookup f44 = some ⟨oc44, od44, .func (PySem.W.fnOf "_law_refused" "_law_refused" (defArgs (top 33)) (defBody (top 33)) (defScope (top 33)) .none kV44 dc44 pm44 an44 cd44 ct44), sl44⟩)
  (c44 : PySem.W.codeIn K cd44 "_law_refused" = true)
  (k44 : PySem.W.keepIn K (.ref f44) = true)
  (a45 : PySem.W.nsIn K mainGlobals "_law_model" = some (some (.ref f45)))
  (l45 : K.lookup f45 = some ⟨oc45, od45, .func (PySem.W.fnOf "_law_model" "_law_model" (defArgs (top 34)) (defBody (top 34)) (defScope (top 34)) .none kV45 dc45 pm45 an45 cd45 ct45), sl45⟩)
  (c45 : PySem.W.codeIn K cd45 "_law_model" = true)
  (k45 : PySem.W.keepIn K (.ref f45) = true)
  (a46 : PySem.W.nsIn K mainGlobals "_law_m_cut" = some (some (.ref f46)))
  (l46 : K.lookup f46 = some ⟨oc46, od46, .func (PySem.W.fnOf "_law_m_cut" "_law_m_cut" (defArgs (top 35)) (defBody (top 35)) (defScope (top 35)) .none kV46 dc46 pm46 an46 cd46 ct46), sl46⟩)
  (c46 : PySem.W.codeIn K cd46 "_law_m_cut" = true)
  (k46 : PySem.W.keepIn K (.ref f46) = true)
  (a178 : PySem.W.nsIn K mainGlobals "_law_m_fix" = some (some (.ref f178)))
  (l178 : K.lookup f178 = some ⟨oc178, od178, .func (PySem.W.fnOf "_law_m_fix" "_law_m_fix" (defArgs (top 36)) (defBody (top 36)) (defScope (top 36)) .none kV178 dc178 pm178 an178 cd178 ct178), sl178⟩)
  (c178 : PySem.W.codeIn K cd178 "_law_m_fix" = true)
  (k178 : PySem.W.keepIn K (.ref f178) = true)
  (a179 : PySem.W.nsIn K mainGlobals "_law_m_off" = some (some (.ref f179)))
  (l179 : K.lookup f179 = some ⟨oc179, od179, .func (PySem.W.fnOf "_law_m_off" "_law_m_off" (defArgs (top 37)) (defBody (top 37)) (defScope (top 37)) .none kV179 dc179 pm179 an179 cd179 ct179), sl179⟩)
  (c179 : PySem.W.codeIn K cd179 "_law_m_off" = true)
  (k179 : PySem.W.keepIn K (.ref f179) = true)
  (a37 : PySem.W.nsIn K mainGlobals "_law_number_of" = some (some (.ref f37)))
  (l37 : K.lookup f37 = some ⟨oc37, od37, .func (PySem.W.fnOf "_law_number_of" "_law_number_of" (defArgs (top 38)) (defBody (top 38)) (defScope (top 38)) .none kV37 dc37 pm37 an37 cd37 ct37), sl37⟩)
  (c37 : PySem.W.codeIn K cd37 "_law_number_of" = true)
  (k37 : PySem.W.keepIn K (.ref f37) = true)
  (a47 : PySem.W.nsIn K mainGlobals "_law_mint_stands" = some (some (.ref f47)))
  (l47 : K.lookup f47 = some ⟨oc47, od47, .func (PySem.W.fnOf "_law_mint_stands" "_law_mint_stands" (defArgs (top 39)) (defBody (top 39)) (defScope (top 39)) .none kV47 dc47 pm47 an47 cd47 ct47), sl47⟩)
  (c47 : PySem.W.codeIn K cd47 "_law_mint_stands" = true)
  (k47 : PySem.W.keepIn K (.ref f47) = true)
  (a49 : PySem.W.nsIn K mainGlobals "_law_tried" = some (some (.ref f49)))
  (l49 : K.lookup f49 = some ⟨oc49, od49, .func (PySem.W.fnOf "_law_tried" "_law_tried" (defArgs (top 40)) (defBody (top 40)) (defScope (top 40)) .none kV49 dc49 pm49 an49 cd49 ct49), sl49⟩)
  (c49 : PySem.W.codeIn K cd49 "_law_tried" = true)
  (k49 : PySem.W.keepIn K (.ref f49) = true)
  (a180 : PySem.W.nsIn K mainGlobals "_law_state_told" = some (some (.ref f180)))
  (l180 : K.lookup f180 = some ⟨oc180, od180, .func (PySem.W.fnOf "_law_state_told" "_law_state_told" (defArgs (top 41)) (defBody (top 41)) (defScope (top 41)) .none kV180 dc180 pm180 an180 cd180 ct180), sl180⟩)
  (c180 : PySem.W.codeIn K cd180 "_law_state_told" = true)
  (k180 : PySem.W.keepIn K (.ref f180) = true)
  (a11 : PySem.W.nsIn K mainGlobals "law" = some (some (.ref f11)))
  (l11 : K.lookup f11 = some ⟨oc11, od11, .func (PySem.W.fnOf "law" "law" (defArgs (top 42)) (defBody (top 42)) (defScope (top 42)) .none kV11 dc11 pm11 an11 cd11 ct11), sl11⟩)
  (c11 : PySem.W.codeIn K cd11 "law" = true)
  (k11 : PySem.W.keepIn K (.ref f11) = true)
  (a51 : PySem.W.findIn K (.ref ca_0) "__init__" = some (some (.ref f51)))
  (af51 : PySem.W.isFn K (.ref f51) = true)
  (l51 : K.lookup f51 = some ⟨oc51, od51, .func (PySem.W.fnOf "__init__" "Mint.__init__" (defArgs (mtop 25 0)) (defBody (mtop 25 0)) (defScope (mtop 25 0)) .none kV51 dc51 pm51 an51 cd51 ct51), sl51⟩)
  (c51 : PySem.W.codeIn K cd51 "Mint.__init__" = true)
  (k51 : PySem.W.keepIn K (.ref f51) = true)
  (a52 : PySem.W.findIn K (.ref ca_0) "wear_of" = some (some (.ref f52)))
  (af52 : PySem.W.isFn K (.ref f52) = true)
  (l52 : K.lookup f52 = some ⟨oc52, od52, .func (PySem.W.fnOf "wear_of" "Mint.wear_of" (defArgs (mtop 25 1)) (defBody (mtop 25 1)) (defScope (mtop 25 1)) .none kV52 dc52 pm52 an52 cd52 ct52), sl52⟩)
  (c52 : PySem.W.codeIn K cd52 "Mint.wear_of" = true)
  (k52 : PySem.W.keepIn K (.ref f52) = true)
  (a53 : PySem.W.findIn K (.ref ca_0) "put_wear" = some (some (.ref f53)))
  (af53 : PySem.W.isFn K (.ref f53) = true)
  (l53 : K.lookup f53 = some ⟨oc53, od53, .func (PySem.W.fnOf "put_wear" "Mint.put_wear" (defArgs (mtop 25 2)) (defBody (mtop 25 2)) (defScope (mtop 25 2)) .none kV53 dc53 pm53 an53 cd53 ct53), sl53⟩)
  (c53 : PySem.W.codeIn K cd53 "Mint.put_wear" = true)
  (k53 : PySem.W.keepIn K (.ref f53) = true)
  (a54 : PySem.W.findIn K (.ref ca_0) "cut" = some (some (.ref f54)))
  (af54 : PySem.W.isFn K (.ref f54) = true)
  (l54 : K.lookup f54 = some ⟨oc54, od54, .func (PySem.W.fnOf "cut" "Mint.cut" (defArgs (mtop 25 3)) (defBody (mtop 25 3)) (defScope (mtop 25 3)) .none kV54 dc54 pm54 an54 cd54 ct54), sl54⟩)
  (c54 : PySem.W.codeIn K cd54 "Mint.cut" = true)
  (k54 : PySem.W.keepIn K (.ref f54) = true)
  (a55 : PySem.W.findIn K (.ref ca_0) "fix" = some (some (.ref f55)))
  (af55 : PySem.W.isFn K (.ref f55) = true)
  (l55 : K.lookup f55 = some ⟨oc55, od55, .func (PySem.W.fnOf "fix" "Mint.fix" (defArgs (mtop 25 4)) (defBody (mtop 25 4)) (defScope (mtop 25 4)) .none kV55 dc55 pm55 an55 cd55 ct55), sl55⟩)
  (c55 : PySem.W.codeIn K cd55 "Mint.fix" = true)
  (k55 : PySem.W.keepIn K (.ref f55) = true)
  (a56 : PySem.W.findIn K (.ref ca_0) "lay_off" = some (some (.ref f56)))
  (af56 : PySem.W.isFn K (.ref f56) = true)
  (l56 : K.lookup f56 = some ⟨oc56, od56, .func (PySem.W.fnOf "lay_off" "Mint.lay_off" (defArgs (mtop 25 5)) (defBody (mtop 25 5)) (defScope (mtop 25 5)) .none kV56 dc56 pm56 an56 cd56 ct56), sl56⟩)
  (c56 : PySem.W.codeIn K cd56 "Mint.lay_off" = true)
  (k56 : PySem.W.keepIn K (.ref f56) = true)
  (a57 : PySem.W.findIn K (.ref ca_0) "mark" = some (some (.ref f57)))
  (af57 : PySem.W.isFn K (.ref f57) = true)
  (l57 : K.lookup f57 = some ⟨oc57, od57, .func (PySem.W.fnOf "mark" "Mint.mark" (defArgs (mtop 25 6)) (defBody (mtop 25 6)) (defScope (mtop 25 6)) .none kV57 dc57 pm57 an57 cd57 ct57), sl57⟩)
  (c57 : PySem.W.codeIn K cd57 "Mint.mark" = true)
  (k57 : PySem.W.keepIn K (.ref f57) = true)
  (a58 : PySem.W.findIn K (.ref ca_0) "strike" = some (some (.ref f58)))
  (af58 : PySem.W.isFn K (.ref f58) = true)
  (l58 : K.lookup f58 = some ⟨oc58, od58, .func (PySem.W.fnOf "strike" "Mint.strike" (defArgs (mtop 25 7)) (defBody (mtop 25 7)) (defScope (mtop 25 7)) .none kV58 dc58 pm58 an58 cd58 ct58), sl58⟩)
  (c58 : PySem.W.codeIn K cd58 "Mint.strike" = true)
  (k58 : PySem.W.keepIn K (.ref f58) = true)
  (a59 : PySem.W.findIn K (.ref ca_0) "begin_year" = some (some (.ref f59)))
  (af59 : PySem.W.isFn K (.ref f59) = true)
  (l59 : K.lookup f59 = some ⟨oc59, od59, .func (PySem.W.fnOf "begin_year" "Mint.begin_year" (defArgs (mtop 25 8)) (defBody (mtop 25 8)) (defScope (mtop 25 8)) .none kV59 dc59 pm59 an59 cd59 ct59), sl59⟩)
  (c59 : PySem.W.codeIn K cd59 "Mint.begin_year" = true)
  (k59 : PySem.W.keepIn K (.ref f59) = true)
  (a60 : PySem.W.findIn K (.ref ca_0) "anvils" = some (some (.ref f60)))
  (af60 : PySem.W.isFn K (.ref f60) = true)
  (l60 : K.lookup f60 = some ⟨oc60, od60, .func (PySem.W.fnOf "anvils" "Mint.anvils" (defArgs (mtop 25 9)) (defBody (mtop 25 9)) (defScope (mtop 25 9)) .none kV60 dc60 pm60 an60 cd60 ct60), sl60⟩)
  (c60 : PySem.W.codeIn K cd60 "Mint.anvils" = true)
  (k60 : PySem.W.keepIn K (.ref f60) = true)
  (a61 : PySem.W.findIn K (.ref ca_0) "dies" = some (some (.ref f61)))
  (af61 : PySem.W.isFn K (.ref f61) = true)
  (l61 : K.lookup f61 = some ⟨oc61, od61, .func (PySem.W.fnOf "dies" "Mint.dies" (defArgs (mtop 25 10)) (defBody (mtop 25 10)) (defScope (mtop 25 10)) .none kV61 dc61 pm61 an61 cd61 ct61), sl61⟩)
  (c61 : PySem.W.codeIn K cd61 "Mint.dies" = true)
  (k61 : PySem.W.keepIn K (.ref f61) = true)
  (a62 : PySem.W.findIn K (.ref ca_0) "marks" = some (some (.ref f62)))
  (af62 : PySem.W.isFn K (.ref f62) = true)
  (l62 : K.lookup f62 = some ⟨oc62, od62, .func (PySem.W.fnOf "marks" "Mint.marks" (defArgs (mtop 25 11)) (defBody (mtop 25 11)) (defScope (mtop 25 11)) .none kV62 dc62 pm62 an62 cd62 ct62), sl62⟩)
  (c62 : PySem.W.codeIn K cd62 "Mint.marks" = true)
  (k62 : PySem.W.keepIn K (.ref f62) = true)
  (a63 : PySem.W.findIn K (.ref ca_0) "state" = some (some (.ref f63)))
  (af63 : PySem.W.isFn K (.ref f63) = true)
  (l63 : K.lookup f63 = some ⟨oc63, od63, .func (PySem.W.fnOf "state" "Mint.state" (defArgs (mtop 25 12)) (defBody (mtop 25 12)) (defScope (mtop 25 12)) .none kV63 dc63 pm63 an63 cd63 ct63), sl63⟩)
  (c63 : PySem.W.codeIn K cd63 "Mint.state" = true)
  (k63 : PySem.W.keepIn K (.ref f63) = true)
  (a64 : PySem.W.findIn K (.ref ca_0) "year" = some (some (.ref f64)))
  (af64 : PySem.W.isFn K (.ref f64) = true)
  (l64 : K.lookup f64 = some ⟨oc64, od64, .func (PySem.W.fnOf "year" "Mint.year" (defArgs (mtop 25 13)) (defBody (mtop 25 13)) (defScope (mtop 25 13)) .none kV64 dc64 pm64 an64 cd64 ct64), sl64⟩)
  (c64 : PySem.W.codeIn K cd64 "Mint.year" = true)
  (k64 : PySem.W.keepIn K (.ref f64) = true)
  (a65 : PySem.W.findIn K (.ref ca_0) "struck" = some (some (.ref f65)))
  (af65 : PySem.W.isFn K (.ref f65) = true)
  (l65 : K.lookup f65 = some ⟨oc65, od65, .func (PySem.W.fnOf "struck" "Mint.struck" (defArgs (mtop 25 14)) (defBody (mtop 25 14)) (defScope (mtop 25 14)) .none kV65 dc65 pm65 an65 cd65 ct65), sl65⟩)
  (c65 : PySem.W.codeIn K cd65 "Mint.struck" = true)
  (k65 : PySem.W.keepIn K (.ref f65) = true)
  (a66 : PySem.W.findIn K (.ref ca_0) "coin" = some (some (.ref f66)))
  (af66 : PySem.W.isFn K (.ref f66) = true)
  (l66 : K.lookup f66 = some ⟨oc66, od66, .func (PySem.W.fnOf "coin" "Mint.coin" (defArgs (mtop 25 15)) (defBody (mtop 25 15)) (defScope (mtop 25 15)) .none kV66 dc66 pm66 an66 cd66 ct66), sl66⟩)
  (c66 : PySem.W.codeIn K cd66 "Mint.coin" = true)
  (k66 : PySem.W.keepIn K (.ref f66) = true)
  (a67 : PySem.W.findIn K (.ref ca_0) "hoard" = some (some (.ref f67)))
  (af67 : PySem.W.isFn K (.ref f67) = true)
  (l67 : K.lookup f67 = some ⟨oc67, od67, .func (PySem.W.fnOf "hoard" "Mint.hoard" (defArgs (mtop 25 16)) (defBody (mtop 25 16)) (defScope (mtop 25 16)) .none kV67 dc67 pm67 an67 cd67 ct67), sl67⟩)
  (c67 : PySem.W.codeIn K cd67 "Mint.hoard" = true)
  (k67 : PySem.W.keepIn K (.ref f67) = true)
  (a68 : PySem.W.findIn K (.ref ca_0) "twin" = some (some (.ref f68)))
  (af68 : PySem.W.isFn K (.ref f68) = true)
  (l68 : K.lookup f68 = some ⟨oc68, od68, .func (PySem.W.fnOf "twin" "Mint.twin" (defArgs (mtop 25 17)) (defBody (mtop 25 17)) (defScope (mtop 25 17)) .none kV68 dc68 pm68 an68 cd68 ct68), sl68⟩)
  (c68 : PySem.W.codeIn K cd68 "Mint.twin" = true)
  (k68 : PySem.W.keepIn K (.ref f68) = true)
  (fl0 : PySem.W.findIn K (.ref ca_0) "bench" = some none)
  (fl1 : PySem.W.findIn K (.ref ca_0) "laid_off" = some none)
  (fl2 : PySem.W.findIn K (.ref ca_0) "lower_wear" = some none)
  (fl3 : PySem.W.findIn K (.ref ca_0) "upper_wear" = some none)
  (fl4 : PySem.W.findIn K (.ref ca_0) "present" = some none)
  (fl5 : PySem.W.findIn K (.ref ca_0) "output" = some none)
  (e0 : PySem.W.nsIn K mainGlobals "LAST_DIE" = some (some (Value.int 99 t0)))
  (e1 : PySem.W.nsIn K mainGlobals "SIDES" = some (some (.ref ca1)))
  (ce1 : K.lookup ca1 = some ⟨.type "tuple", none, .seq #[Value.str "lower" ct1_0, Value.str "upper" ct1_1] cnn1, csl1⟩)
  (e2 : PySem.W.nsIn K mainGlobals "MOST_ANVILS" = some (some (Value.int 9 t2)))
  (z0 : PySem.W.nsIn K mainGlobals "len" = some none)
  (z1 : PySem.W.nsIn K mainGlobals "list" = some none)
  (z2 : PySem.W.nsIn K mainGlobals "tuple" = some none)
  (z3 : PySem.W.nsIn K mainGlobals "isinstance" = some none)
  (z4 : PySem.W.nsIn K mainGlobals "all" = some none)
  (z5 : PySem.W.nsIn K mainGlobals "range" = some none)
  (z6 : PySem.W.nsIn K mainGlobals "int" = some none)
  (z7 : PySem.W.nsIn K mainGlobals "bool" = some none)
  (z8 : PySem.W.nsIn K mainGlobals "str" = some none)
  (x0 : PySem.W.nsIn K mainGlobals "BadAnvils" = some (some (.ref xa0)))
  (xq0 : PySem.W.excIn K xa0 [.type "ValueError", .type "Exception", .type "BaseException", .type "object"] "ValueError.__new__" = true)
  (x1 : PySem.W.nsIn K mainGlobals "BadSide" = some (some (.ref xa1)))
  (xq1 : PySem.W.excIn K xa1 [.type "ValueError", .type "Exception", .type "BaseException", .type "object"] "ValueError.__new__" = true)
  (x2 : PySem.W.nsIn K mainGlobals "Fixed" = some (some (.ref xa2)))
  (xq2 : PySem.W.excIn K xa2 [.type "ValueError", .type "Exception", .type "BaseException", .type "object"] "ValueError.__new__" = true)
  (x3 : PySem.W.nsIn K mainGlobals "Full" = some (some (.ref xa3)))
  (xq3 : PySem.W.excIn K xa3 [.type "ValueError", .type "Exception", .type "BaseException", .type "object"] "ValueError.__new__" = true)
  (x4 : PySem.W.nsIn K mainGlobals "Gone" = some (some (.ref xa4)))
  (xq4 : PySem.W.excIn K xa4 [.type "ValueError", .type "Exception", .type "BaseException", .type "object"] "ValueError.__new__" = true)
  (x5 : PySem.W.nsIn K mainGlobals "NoAnvil" = some (some (.ref xa5)))
  (xq5 : PySem.W.excIn K xa5 [.type "ValueError", .type "Exception", .type "BaseException", .type "object"] "ValueError.__new__" = true)
  (x6 : PySem.W.nsIn K mainGlobals "NoCoin" = some (some (.ref xa6)))
  (xq6 : PySem.W.excIn K xa6 [.type "ValueError", .type "Exception", .type "BaseException", .type "object"] "ValueError.__new__" = true)
  (x7 : PySem.W.nsIn K mainGlobals "NoDie" = some (some (.ref xa7)))
  (xq7 : PySem.W.excIn K xa7 [.type "ValueError", .type "Exception", .type "BaseException", .type "object"] "ValueError.__new__" = true)
  (x8 : PySem.W.nsIn K mainGlobals "NotFixed" = some (some (.ref xa8)))
  (xq8 : PySem.W.excIn K xa8 [.type "ValueError", .type "Exception", .type "BaseException", .type "object"] "ValueError.__new__" = true)
  (xm : exmLook K exc = true) :
  ∃ fd : FuncData, (∀ (s : Shared) (v : Value), BindsTo s fd ⟨[v], []⟩ [("_law_script", v)]) /\ ∀ base : Heap, K.In base -> base.Ns mainGlobals mg -> FnOk l.prog w K mg base (CXE l.prog w) 80 fa fd ["_law_script"] (spD exc K 1 (callW T 40 11)) := by
 have e := hfa.symm.trans (PySem.W.mg_of X G a11)
 cases e
 have F41 := fun_mk (st := top 0) l41 c41 k41
 have b41 := F41.binds (ps := d41.ps) fun _ _ _ _ _ _ us hl => by obtain ⟨_, rfl⟩ := len1 hl; rfl
 have O41 : DefOk K c0 d41 mWall f41 _ := ⟨F41, b41, sc41, co41, rfl, rfl⟩
 have F38 := fun_mk (st := top 13) l38 c38 k38
 have b38 := F38.binds (ps := d38.ps) fun _ _ _ _ _ _ us hl => by obtain ⟨_, rfl⟩ := len1 hl; rfl
 have O38 : DefOk K c0 d38 mIsNumber f38 _ := ⟨F38, b38, sc38, co38, rfl, rfl⟩
 have F1 := fun_mk (st := top 14) l1 c1 k1
 have b1 := F1.binds (ps := d1.ps) fun _ _ _ _ _ _ us hl => by obtain ⟨_, _, _, rfl⟩ := len3 hl; rfl
 have O1 : DefOk K c0 d1 mNumberFrom f1 _ := ⟨F1, b1, sc1, co1, rfl, rfl⟩
 have F40 := fun_mk (st := top 18) l40 c40 k40
 have b40 := F40.binds (ps := d40.ps) fun _ _ _ _ _ _ us hl => by obtain ⟨_, rfl⟩ := len1 hl; rfl
 have O40 : DefOk K c0 d40 mCheckSide f40 _ := ⟨F40, b40, sc40, co40, rfl, rfl⟩
 have F177 := fun_mk (st := top 19) l177 c177 k177
 have b177 := F177.binds (ps := d177.ps) fun _ _ _ _ _ _ us hl => by obtain ⟨_, _, _, rfl⟩ := len3 hl; rfl
 have O177 : DefOk K c0 d177 mWithThing f177 _ := ⟨F177, b177, sc177, co177, rfl, rfl⟩
 have F42 := fun_mk (st := top 22) l42 c42 k42
 have b42 := F42.binds (ps := d42.ps) fun _ _ _ _ _ _ us hl => by obtain ⟨_, rfl⟩ := len1 hl; rfl
 have O42 : DefOk K c0 d42 mCheckAnvils f42 _ := ⟨F42, b42, sc42, co42, rfl, rfl⟩
 have F43 := fun_mk (st := top 24) l43 c43 k43
 have b43 := F43.binds (ps := d43.ps) fun _ _ _ _ _ _ us hl => by obtain ⟨_, _, rfl⟩ := len2 hl; rfl
 have O43 : DefOk K c0 d43 mCheckCut f43 _ := ⟨F43, b43, sc43, co43, rfl, rfl⟩
 have F3 := fun_mk (st := top 27) l3 c3 k3
 have b3 := F3.binds (ps := d3.ps) fun _ _ _ _ _ _ us hl => by obtain ⟨_, rfl⟩ := len1 hl; rfl
 have O3 : DefOk K c0 d3 mOpen f3 _ := ⟨F3, b3, sc3, co3, rfl, rfl⟩
 have F4 := fun_mk (st := top 28) l4 c4 k4
 have b4 := F4.binds (ps := d4.ps) fun _ _ _ _ _ _ us hl => by obtain ⟨_, _, rfl⟩ := len2 hl; rfl
 have O4 : DefOk K c0 d4 mPull f4 _ := ⟨F4, b4, sc4, co4, rfl, rfl⟩
 have F5 := fun_mk (st := top 29) l5 c5 k5
 have b5 := F5.binds (ps := d5.ps) fun _ _ _ _ _ _ us hl => by obtain ⟨_, rfl⟩ := len1 hl; rfl
 have O5 : DefOk K c0 d5 mFar f5 _ := ⟨F5, b5, sc5, co5, rfl, rfl⟩
 have F36 := fun_mk (st := top 30) l36 c36 k36
 have b36 := F36.binds (ps := d36.ps) fun _ _ _ _ _ _ us hl => by obtain ⟨_, _, rfl⟩ := len2 hl; rfl
 have O36 : DefOk K c0 d36 mNear f36 _ := ⟨F36, b36, sc36, co36, rfl, rfl⟩
 have F6 := fun_mk (st := top 31) l6 c6 k6
 have b6 := F6.binds (ps := d6.ps) fun _ _ _ _ _ _ us hl => by obtain ⟨_, rfl⟩ := len1 hl; rfl
 have O6 : DefOk K c0 d6 mNum f6 _ := ⟨F6, b6, sc6, co6, rfl, rfl⟩
 have F7 := fun_mk (st := top 32) l7 c7 k7
 have b7 := F7.binds (ps := d7.ps) fun _ _ _ _ _ _ us hl => by obtain ⟨_, _, rfl⟩ := len2 hl; rfl
 have O7 : DefOk K c0 d7 mLike f7 _ := ⟨F7, b7, sc7, co7, rfl, rfl⟩
 have F44 := fun_mk (st := top 33) l44 c44 k44
 have b44 := F44.binds (ps := d44.ps) fun _ _ _ _ _ _ us hl => by obtain ⟨_, rfl⟩ := len1 hl; rfl
 have O44 : DefOk K c0 d44 mRefused f44 _ := ⟨F44, b44, sc44, co44, rfl, rfl⟩
 have F45 := fun_mk (st := top 34) l45 c45 k45
 have b45 := F45.binds (ps := d45.ps) fun _ _ _ _ _ _ us hl => by obtain ⟨_, rfl⟩ := len1 hl; rfl
 have O45 : DefOk K c0 d45 mModel f45 _ := ⟨F45, b45, sc45, co45, rfl, rfl⟩
 have F46 := fun_mk (st := top 35) l46 c46 k46
 have b46 := F46.binds (ps := d46.ps) fun _ _ _ _ _ _ us hl => by obtain ⟨_, _, rfl⟩ := len2 hl; rfl
 have O46 : DefOk K c0 d46 mMCut f46 _ := ⟨F46, b46, sc46, co46, rfl, rfl⟩
 have F178 := fun_mk (st := top 36) l178 c178 k178
 have b178 := F178.binds (ps := d178.ps) fun _ _ _ _ _ _ us hl => by obtain ⟨_, _, rfl⟩ := len2 hl; rfl
 have O178 : DefOk K c0 d178 mMFix f178 _ := ⟨F178, b178, sc178, co178, rfl, rfl⟩
 have F179 := fun_mk (st := top 37) l179 c179 k179
 have b179 := F179.binds (ps := d179.ps) fun _ _ _ _ _ _ us hl => by obtain ⟨_, _, rfl⟩ := len2 hl; rfl
 have O179 : DefOk K c0 d179 mMOff f179 _ := ⟨F179, b179, sc179, co179, rfl, rfl⟩
 have F37 := fun_mk (st := top 38) l37 c37 k37
 have b37 := F37.binds (ps := d37.ps) fun _ _ _ _ _ _ us hl => by obtain ⟨_, _, rfl⟩ := len2 hl; rfl
 have O37 : DefOk K c0 d37 mNumberOf f37 _ := ⟨F37, b37, sc37, co37, rfl, rfl⟩
 have F47 := fun_mk (st := top 39) l47 c47 k47
 have b47 := F47.binds (ps := d47.ps) fun _ _ _ _ _ _ us hl => by obtain ⟨_, _, rfl⟩ := len2 hl; rfl
 have O47 : DefOk K c0 d47 mMintStands f47 _ := ⟨F47, b47, sc47, co47, rfl, rfl⟩
 have F49 := fun_mk (st := top 40) l49 c49 k49
 have b49 := F49.binds (ps := d49.ps) fun _ _ _ _ _ _ us hl => by obtain ⟨_, _, _, rfl⟩ := len3 hl; rfl
 have O49 : DefOk K c0 d49 mTried f49 _ := ⟨F49, b49, sc49, co49, rfl, rfl⟩
 have F180 := fun_mk (st := top 41) l180 c180 k180
 have b180 := F180.binds (ps := d180.ps) fun _ _ _ _ _ _ us hl => by obtain ⟨_, _, rfl⟩ := len2 hl; rfl
 have O180 : DefOk K c0 d180 mStateTold f180 _ := ⟨F180, b180, sc180, co180, rfl, rfl⟩
 have F11 := fun_mk (st := top 42) l11 c11 k11
 have b11 := F11.binds (ps := d11.ps) fun _ _ _ _ _ _ us hl => by obtain ⟨_, rfl⟩ := len1 hl; rfl
 have O11 : DefOk K c0 d11 mLaw fa _ := ⟨F11, b11, sc11, co11, rfl, rfl⟩
 have F51 := fun_mk (st := mtop 25 0) l51 c51 k51
 have b51 := F51.binds (ps := d51.ps) fun _ _ _ _ _ _ us hl => by obtain ⟨_, _, rfl⟩ := len2 hl; rfl
 have O51 : DefOk K c0 d51 mMintInit f51 _ := ⟨F51, b51, sc51, co51, rfl, rfl⟩
 have F52 := fun_mk (st := mtop 25 1) l52 c52 k52
 have b52 := F52.binds (ps := d52.ps) fun _ _ _ _ _ _ us hl => by obtain ⟨_, _, rfl⟩ := len2 hl; rfl
 have O52 : DefOk K c0 d52 mMintWearOf f52 _ := ⟨F52, b52, sc52, co52, rfl, rfl⟩
 have F53 := fun_mk (st := mtop 25 2) l53 c53 k53
 have b53 := F53.binds (ps := d53.ps) fun _ _ _ _ _ _ us hl => by obtain ⟨_, _, _, rfl⟩ := len3 hl; rfl
 have O53 : DefOk K c0 d53 mMintPutWear f53 _ := ⟨F53, b53, sc53, co53, rfl, rfl⟩
 have F54 := fun_mk (st := mtop 25 3) l54 c54 k54
 have b54 := F54.binds (ps := d54.ps) fun _ _ _ _ _ _ us hl => by obtain ⟨_, _, rfl⟩ := len2 hl; rfl
 have O54 : DefOk K c0 d54 mMintCut f54 _ := ⟨F54, b54, sc54, co54, rfl, rfl⟩
 have F55 := fun_mk (st := mtop 25 4) l55 c55 k55
 have b55 := F55.binds (ps := d55.ps) fun _ _ _ _ _ _ us hl => by obtain ⟨_, _, rfl⟩ := len2 hl; rfl
 have O55 : DefOk K c0 d55 mMintFix f55 _ := ⟨F55, b55, sc55, co55, rfl, rfl⟩
 have F56 := fun_mk (st := mtop 25 5) l56 c56 k56
 have b56 := F56.binds (ps := d56.ps) fun _ _ _ _ _ _ us hl => by obtain ⟨_, _, rfl⟩ := len2 hl; rfl
 have O56 : DefOk K c0 d56 mMintLayOff f56 _ := ⟨F56, b56, sc56, co56, rfl, rfl⟩
 have F57 := fun_mk (st := mtop 25 6) l57 c57 k57
 have b57 := F57.binds (ps := d57.ps) fun _ _ _ _ _ _ us hl => by obtain ⟨_, _, _, _, rfl⟩ := len4 hl; rfl
 have O57 : DefOk K c0 d57 mMintMark f57 _ := ⟨F57, b57, sc57, co57, rfl, rfl⟩
 have F58 := fun_mk (st := mtop 25 7) l58 c58 k58
 have b58 := F58.binds (ps := d58.ps) fun _ _ _ _ _ _ us hl => by obtain ⟨_, _, _, rfl⟩ := len3 hl; rfl
 have O58 : DefOk K c0 d58 mMintStrike f58 _ := ⟨F58, b58, sc58, co58, rfl, rfl⟩
 have F59 := fun_mk (st := mtop 25 8) l59 c59 k59
 have b59 := F59.binds (ps := d59.ps) fun _ _ _ _ _ _ us hl => by obtain ⟨_, _, rfl⟩ := len2 hl; rfl
 have O59 : DefOk K c0 d59 mMintBeginYear f59 _ := ⟨F59, b59, sc59, co59, rfl, rfl⟩
 have F60 := fun_mk (st := mtop 25 9) l60 c60 k60
 have b60 := F60.binds (ps := d60.ps) fun _ _ _ _ _ _ us hl => by obtain ⟨_, rfl⟩ := len1 hl; rfl
 have O60 : DefOk K c0 d60 mMintAnvils f60 _ := ⟨F60, b60, sc60, co60, rfl, rfl⟩
 have F61 := fun_mk (st := mtop 25 10) l61 c61 k61
 have b61 := F61.binds (ps := d61.ps) fun _ _ _ _ _ _ us hl => by obtain ⟨_, _, rfl⟩ := len2 hl; rfl
 have O61 : DefOk K c0 d61 mMintDies f61 _ := ⟨F61, b61, sc61, co61, rfl, rfl⟩
 have F62 := fun_mk (st := mtop 25 11) l62 c62 k62
 have b62 := F62.binds (ps := d62.ps) fun _ _ _ _ _ _ us hl => by obtain ⟨_, _, _, rfl⟩ := len3 hl; rfl
 have O62 : DefOk K c0 d62 mMintMarks f62 _ := ⟨F62, b62, sc62, co62, rfl, rfl⟩
 have F63 := fun_mk (st := mtop 25 12) l63 c63 k63
 have b63 := F63.binds (ps := d63.ps) fun _ _ _ _ _ _ us hl => by obtain ⟨_, _, rfl⟩ := len2 hl; rfl
 have O63 : DefOk K c0 d63 mMintState f63 _ := ⟨F63, b63, sc63, co63, rfl, rfl⟩
 have F64 := fun_mk (st := mtop 25 13) l64 c64 k64
 have b64 := F64.binds (ps := d64.ps) fun _ _ _ _ _ _ us hl => by obtain ⟨_, rfl⟩ := len1 hl; rfl
 have O64 : DefOk K c0 d64 mMintYear f64 _ := ⟨F64, b64, sc64, co64, rfl, rfl⟩
 have F65 := fun_mk (st := mtop 25 14) l65 c65 k65
 have b65 := F65.binds (ps := d65.ps) fun _ _ _ _ _ _ us hl => by obtain ⟨_, rfl⟩ := len1 hl; rfl
 have O65 : DefOk K c0 d65 mMintStruck f65 _ := ⟨F65, b65, sc65, co65, rfl, rfl⟩
 have F66 := fun_mk (st := mtop 25 15) l66 c66 k66
 have b66 := F66.binds (ps := d66.ps) fun _ _ _ _ _ _ us hl => by obtain ⟨_, _, rfl⟩ := len2 hl; rfl
 have O66 : DefOk K c0 d66 mMintCoin f66 _ := ⟨F66, b66, sc66, co66, rfl, rfl⟩
 have F67 := fun_mk (st := mtop 25 16) l67 c67 k67
 have b67 := F67.binds (ps := d67.ps) fun _ _ _ _ _ _ us hl => by obtain ⟨_, _, rfl⟩ := len2 hl; rfl
 have O67 : DefOk K c0 d67 mMintHoard f67 _ := ⟨F67, b67, sc67, co67, rfl, rfl⟩
 have F68 := fun_mk (st := mtop 25 17) l68 c68 k68
 have b68 := F68.binds (ps := d68.ps) fun _ _ _ _ _ _ us hl => by obtain ⟨_, rfl⟩ := len1 hl; rfl
 have O68 : DefOk K c0 d68 mMintTwin f68 _ := ⟨F68, b68, sc68, co68, rfl, rfl⟩
 have A : TabOk w K mg c0 T := by
  refine ⟨fun x i hx => ?_, fun x i hx => ?_, fun x y i C hx hC => ?_, fun f y C hx hC => ?_, fun x d hx => ?_, fun x hx => ?_, fun x hx => ?_, fun x y C C' hx hy hC hC' => ?_, fun x kvs hx => ?_⟩
  ·have hm := PySem.mem_of_lookup hx
   simp only [c0, fns, List.mem_cons, List.mem_nil_iff, or_false] at hm
   rcases hm with z | z | z | z | z | z | z | z | z | z | z | z | z | z | z | z | z | z | z | z | z | z | z
   ·cases z; exact ⟨_, _, _, _, rfl, O41, PySem.W.mg_of X G a41⟩
   ·cases z; exact ⟨_, _, _, _, rfl, O38, PySem.W.mg_of X G a38⟩
   ·cases z; exact ⟨_, _, _, _, rfl, O1, PySem.W.mg_of X G a1⟩
   ·cases z; exact ⟨_, _, _, _, rfl, O40, PySem.W.mg_of X G a40⟩
   ·cases z; exact ⟨_, _, _, _, rfl, O177, PySem.W.mg_of X G a177⟩
   ·cases z; exact ⟨_, _, _, _, rfl, O42, PySem.W.mg_of X G a42⟩
   ·cases z; exact ⟨_, _, _, _, rfl, O43, PySem.W.mg_of X G a43⟩
   ·cases z; exact ⟨_, _, _, _, rfl, O3, PySem.W.mg_of X G a3⟩
   ·cases z; exact ⟨_, _, _, _, rfl, O4, PySem.W.mg_of X G a4⟩
   ·cases z; exact ⟨_, _, _, _, rfl, O5, PySem.W.mg_of X G a5⟩
   ·cases z; exact ⟨_, _, _, _, rfl, O36, PySem.W.mg_of X G a36⟩
   ·cases z; exact ⟨_, _, _, _, rfl, O6, PySem.W.mg_of X G a6⟩
   ·cases z; exact ⟨_, _, _, _, rfl, O7, PySem.W.mg_of X G a7⟩
   ·cases z; exact ⟨_, _, _, _, rfl, O44, PySem.W.mg_of X G a44⟩
   ·cases z; exact ⟨_, _, _, _, rfl, O45, PySem.W.mg_of X G a45⟩
   ·cases z; exact ⟨_, _, _, _, rfl, O46, PySem.W.mg_of X G a46⟩
   ·cases z; exact ⟨_, _, _, _, rfl, O178, PySem.W.mg_of X G a178⟩
   ·cases z; exact ⟨_, _, _, _, rfl, O179, PySem.W.mg_of X G a179⟩
   ·cases z; exact ⟨_, _, _, _, rfl, O37, PySem.W.mg_of X G a37⟩
   ·cases z; exact ⟨_, _, _, _, rfl, O47, PySem.W.mg_of X G a47⟩
   ·cases z; exact ⟨_, _, _, _, rfl, O49, PySem.W.mg_of X G a49⟩
   ·cases z; exact ⟨_, _, _, _, rfl, O180, PySem.W.mg_of X G a180⟩
   ·cases z; exact ⟨_, _, _, _, rfl, O11, hfa⟩
  ·have hm := PySem.mem_of_lookup hx
   simp only [c0, clss, List.mem_cons, List.mem_nil_iff, or_false] at hm
   have z := hm
   ·cases z; exact ⟨ca_0, _, _, _, _, rfl, O51, PySem.W.mg_of X G cn0, cn0, ⟨cp0, chd0, cpo0, csa0⟩, ⟨cmk0, a51, af51, ckp0⟩⟩
  ·have hm := hx
   simp only [c0, mts, List.mem_cons, List.mem_nil_iff, or_false] at hm
   rcases hm with z | z | z | z | z | z | z | z | z | z | z | z | z | z | z | z | z
   ·cases z; cases hC.symm.trans cn0; exact ⟨_, _, _, _, rfl, O52, ⟨a52, af52, k52⟩⟩
   ·cases z; cases hC.symm.trans cn0; exact ⟨_, _, _, _, rfl, O53, ⟨a53, af53, k53⟩⟩
   ·cases z; cases hC.symm.trans cn0; exact ⟨_, _, _, _, rfl, O54, ⟨a54, af54, k54⟩⟩
   ·cases z; cases hC.symm.trans cn0; exact ⟨_, _, _, _, rfl, O55, ⟨a55, af55, k55⟩⟩
   ·cases z; cases hC.symm.trans cn0; exact ⟨_, _, _, _, rfl, O56, ⟨a56, af56, k56⟩⟩
   ·cases z; cases hC.symm.trans cn0; exact ⟨_, _, _, _, rfl, O57, ⟨a57, af57, k57⟩⟩
   ·cases z; cases hC.symm.trans cn0; exact ⟨_, _, _, _, rfl, O58, ⟨a58, af58, k58⟩⟩
   ·cases z; cases hC.symm.trans cn0; exact ⟨_, _, _, _, rfl, O59, ⟨a59, af59, k59⟩⟩
   ·cases z; cases hC.symm.trans cn0; exact ⟨_, _, _, _, rfl, O60, ⟨a60, af60, k60⟩⟩
   ·cases z; cases hC.symm.trans cn0; exact ⟨_, _, _, _, rfl, O61, ⟨a61, af61, k61⟩⟩
   ·cases z; cases hC.symm.trans cn0; exact ⟨_, _, _, _, rfl, O62, ⟨a62, af62, k62⟩⟩
   ·cases z; cases hC.symm.trans cn0; exact ⟨_, _, _, _, rfl, O63, ⟨a63, af63, k63⟩⟩
   ·cases z; cases hC.symm.trans cn0; exact ⟨_, _, _, _, rfl, O64, ⟨a64, af64, k64⟩⟩
   ·cases z; cases hC.symm.trans cn0; exact ⟨_, _, _, _, rfl, O65, ⟨a65, af65, k65⟩⟩
   ·cases z; cases hC.symm.trans cn0; exact ⟨_, _, _, _, rfl, O66, ⟨a66, af66, k66⟩⟩
   ·cases z; cases hC.symm.trans cn0; exact ⟨_, _, _, _, rfl, O67, ⟨a67, af67, k67⟩⟩
   ·cases z; cases hC.symm.trans cn0; exact ⟨_, _, _, _, rfl, O68, ⟨a68, af68, k68⟩⟩
  ·have hm := hx
   simp only [c0, fls, List.mem_cons, List.mem_nil_iff, or_false] at hm
   rcases hm with z | z | z | z | z | z
   ·cases z; cases hC.symm.trans cn0; exact fl0
   ·cases z; cases hC.symm.trans cn0; exact fl1
   ·cases z; cases hC.symm.trans cn0; exact fl2
   ·cases z; cases hC.symm.trans cn0; exact fl3
   ·cases z; cases hC.symm.trans cn0; exact fl4
   ·cases z; cases hC.symm.trans cn0; exact fl5
  ·have hm := PySem.mem_of_lookup hx
   simp only [c0, con, List.mem_cons, List.mem_nil_iff, or_false] at hm
   rcases hm with z | z | z
   ·cases z; exact ⟨(.int 99), _, PySem.W.mg_of X G e0, ⟨_, rfl⟩, fun _ _ => .int _⟩
   ·cases z; exact ⟨.ref ca1, _, PySem.W.mg_of X G e1, rfl, fun _ _ => .tup (vs := [.str "lower", .str "upper"]) (.inr ⟨_, _, _, ce1, rfl, rfl, rfl, (by show 2 <= sizeLine; decide), .cons ⟨_, rfl⟩ (.cons ⟨_, rfl⟩ (.nil))⟩) (.cons (.str _) (.cons (.str _) (.nil)))⟩
   ·cases z; exact ⟨(.int 9), _, PySem.W.mg_of X G e2, ⟨_, rfl⟩, fun _ _ => .int _⟩
  ·have hm : x ∈ blt := by simpa [c0] using hx
   simp only [blt, List.mem_cons, List.mem_nil_iff, or_false] at hm
   rcases hm with z | z | z | z | z | z | z | z | z
   ·cases z; exact PySem.W.mg_none_of X G z0
   ·cases z; exact PySem.W.mg_none_of X G z1
   ·cases z; exact PySem.W.mg_none_of X G z2
   ·cases z; exact PySem.W.mg_none_of X G z3
   ·cases z; exact PySem.W.mg_none_of X G z4
   ·cases z; exact PySem.W.mg_none_of X G z5
   ·cases z; exact PySem.W.mg_none_of X G z6
   ·cases z; exact PySem.W.mg_none_of X G z7
   ·cases z; exact PySem.W.mg_none_of X G z8
  ·have hm : x ∈ exc := by simpa [c0] using hx
   simp only [exc, List.mem_cons, List.mem_nil_iff, or_false] at hm
   rcases hm with z | z | z | z | z | z | z | z | z
   ·cases z; exact ⟨_, PySem.W.mg_of X G x0, x0, fun base kin gns => ⟨_, _, _, _, own_of_ns kin gns x0 xq0, PySem.F.excBase_ValueError⟩⟩
   ·cases z; exact ⟨_, PySem.W.mg_of X G x1, x1, fun base kin gns => ⟨_, _, _, _, own_of_ns kin gns x1 xq1, PySem.F.excBase_ValueError⟩⟩
   ·cases z; exact ⟨_, PySem.W.mg_of X G x2, x2, fun base kin gns => ⟨_, _, _, _, own_of_ns kin gns x2 xq2, PySem.F.excBase_ValueError⟩⟩
   ·cases z; exact ⟨_, PySem.W.mg_of X G x3, x3, fun base kin gns => ⟨_, _, _, _, own_of_ns kin gns x3 xq3, PySem.F.excBase_ValueError⟩⟩
   ·cases z; exact ⟨_, PySem.W.mg_of X G x4, x4, fun base kin gns => ⟨_, _, _, _, own_of_ns kin gns x4 xq4, PySem.F.excBase_ValueError⟩⟩
   ·cases z; exact ⟨_, PySem.W.mg_of X G x5, x5, fun base kin gns => ⟨_, _, _, _, own_of_ns kin gns x5 xq5, PySem.F.excBase_ValueError⟩⟩
   ·cases z; exact ⟨_, PySem.W.mg_of X G x6, x6, fun base kin gns => ⟨_, _, _, _, own_of_ns kin gns x6 xq6, PySem.F.excBase_ValueError⟩⟩
   ·cases z; exact ⟨_, PySem.W.mg_of X G x7, x7, fun base kin gns => ⟨_, _, _, _, own_of_ns kin gns x7 xq7, PySem.F.excBase_ValueError⟩⟩
   ·cases z; exact ⟨_, PySem.W.mg_of X G x8, x8, fun base kin gns => ⟨_, _, _, _, own_of_ns kin gns x8 xq8, PySem.F.excBase_ValueError⟩⟩
  ·exact exm_of xm hx hy hC hC'
  ·have hm := PySem.mem_of_lookup hx
   simp [c0, gd] at hm
 exact ⟨_, fun s v => .of_eq rfl, fun base kin gns => all_fn kin gns A 40 11 d11 mLaw fa _ rfl O11⟩
theorem walk {l : PySem.W.OpenLaw} {q : Program} {loose : List Str} {XP : (Str -> Option Value) -> Heap -> Prop} {YP : World -> Heap -> Prop} {d : DefRec} {K : Params -> PySem.W.Frag} (hn : l.most = some 63) (hdf : d.params.defaults = [])
  (hY : ∀ (w : World) (h : Heap), YP w h -> (K w.params).In h)
  (F : ∀ (w : World) (mg : Str -> Option Value) (fa : Addr) (h : Heap), (K w.params).In h -> h.Ns mainGlobals mg -> mg d.name = some (.ref fa) ->
   ∃ fd : FuncData, (∀ (s : Shared) (u : Value), BindsTo s fd ⟨[u], []⟩ [("_law_script", u)]) /\ ∀ base : Heap, (K w.params).In base -> base.Ns mainGlobals mg -> FnOk l.prog w (K w.params) mg base (CXE l.prog w) 80 fa fd ["_law_script"] (spD exc (K w.params) 1 (callW T 40 11))) :
  PySem.W.WalkO q loose XP YP l.row.toRowW d [] (fun f vs => PySem.call f vs) :=
 L2.walk_of (n := 63) (k := 80) (x := "_law_script") (CX := fun w => CXE l.prog w) (sp := fun w => spD exc (K w.params) 1 (callW T 40 11)) hn (by decide) hdf ⟨rfl, by decide, by decide⟩ hY F (fun w H a ns hl hO hS => law_sp hO hS (law33_ok (k := 33) ⟨⟨⟨rfl, rfl⟩, rfl, rfl, rfl, rfl, rfl, rfl, rfl, rfl, rfl, rfl, rfl, rfl, rfl, rfl, rfl⟩, rfl, rfl, rfl, rfl, rfl, rfl, rfl, rfl, rfl, rfl, rfl, rfl, rfl, rfl, rfl, rfl, rfl, rfl, rfl⟩)) fun _ _ _ _ _ ⟨_, _, _, _, _, _, _, z⟩ => z
end Lk
open PySem PySem.W PyProof.Rows
set_option maxRecDepth 100000 in
set_option maxHeartbeats 0 in
theorem PySem.Challenge.cw_trussel_k33_dies_fixed_and_laid_off_holds : PySem.Challenge.rw_trussel_k33_dies_fixed_and_laid_off.Holds := by
 w_on; o_law; k_head; (case hw => w_witness2)
 k_fill
 refine Lk.walk (l := PySem.Challenge.rw_trussel_k33_dies_fixed_and_laid_off) rfl rfl (fun w h Y => PySem.W.kIn_of Y) ?F
 case F =>
  intro w mg fa h KX G hmg
  refine' Lk.all_mk KX G hmg ?pm_cn0 ?pm_cp0 ?pm_chd0 ?pm_cpo0 ?pm_csa0 ?pm_cmk0 ?pm_ckp0 ?pm_a41 ?pm_l41 ?pm_c41 ?pm_k41 ?pm_a38 ?pm_l38 ?pm_c38 ?pm_k38 ?pm_a1 ?pm_l1 ?pm_c1 ?pm_k1 ?pm_a40 ?pm_l40 ?pm_c40 ?pm_k40 ?pm_a177 ?pm_l177 ?pm_c177 ?pm_k177 ?pm_a42 ?pm_l42 ?pm_c42 ?pm_k42 ?pm_a43 ?pm_l43 ?pm_c43 ?pm_k43 ?pm_a3 ?pm_l3 ?pm_c3 ?pm_k3 ?pm_a4 ?pm_l4 ?pm_c4 ?pm_k4 ?pm_a5 ?pm_l5 ?pm_c5 ?pm_k5 ?pm_a36 ?pm_l36 ?pm_c36 ?pm_k36 ?pm_a6 ?pm_l6 ?pm_c6 ?pm_k6 ?pm_a7 ?pm_l7 ?pm_c7 ?pm_k7 ?pm_a44 ?pm_l44 ?pm_c44 ?pm_k44 ?pm_a45 ?pm_l45 ?pm_c45 ?pm_k45 ?pm_a46 ?pm_l46 ?pm_c46 ?pm_k46 ?pm_a178 ?pm_l178 ?pm_c178 ?pm_k178 ?pm_a179 ?pm_l179 ?pm_c179 ?pm_k179 ?pm_a37 ?pm_l37 ?pm_c37 ?pm_k37 ?pm_a47 ?pm_l47 ?pm_c47 ?pm_k47 ?pm_a49 ?pm_l49 ?pm_c49 ?pm_k49 ?pm_a180 ?pm_l180 ?pm_c180 ?pm_k180 ?pm_a11 ?pm_l11 ?pm_c11 ?pm_k11 ?pm_a51 ?pm_af51 ?pm_l51 ?pm_c51 ?pm_k51 ?pm_a52 ?pm_af52 ?pm_l52 ?pm_c52 ?pm_k52 ?pm_a53 ?pm_af53 ?pm_l53 ?pm_c53 ?pm_k53 ?pm_a54 ?pm_af54 ?pm_l54 ?pm_c54 ?pm_k54 ?pm_a55 ?pm_af55 ?pm_l55 ?pm_c55 ?pm_k55 ?pm_a56 ?pm_af56 ?pm_l56 ?pm_c56 ?pm_k56 ?pm_a57 ?pm_af57 ?pm_l57 ?pm_c57 ?pm_k57 ?pm_a58 ?pm_af58 ?pm_l58 ?pm_c58 ?pm_k58 ?pm_a59 ?pm_af59 ?pm_l59 ?pm_c59 ?pm_k59 ?pm_a60 ?pm_af60 ?pm_l60 ?pm_c60 ?pm_k60 ?pm_a61 ?pm_af61 ?pm_l61 ?pm_c61 ?pm_k61 ?pm_a62 ?pm_af62 ?pm_l62 ?pm_c62 ?pm_k62 ?pm_a63 ?pm_af63 ?pm_l63 ?pm_c63 ?pm_k63 ?pm_a64 ?pm_af64 ?pm_l64 ?pm_c64 ?pm_k64 ?pm_a65 ?pm_af65 ?pm_l65 ?pm_c65 ?pm_k65 ?pm_a66 ?pm_af66 ?pm_l66 ?pm_c66 ?pm_k66 ?pm_a67 ?pm_af67 ?pm_l67 ?pm_c67 ?pm_k67 ?pm_a68 ?pm_af68 ?pm_l68 ?pm_c68 ?pm_k68 ?pm_fl0 ?pm_fl1 ?pm_fl2 ?pm_fl3 ?pm_fl4 ?pm_fl5 ?pm_e0 ?pm_e1 ?pm_ce1 ?pm_e2 ?pm_z0 ?pm_z1 ?pm_z2 ?pm_z3 ?pm_z4 ?pm_z5 ?pm_z6 ?pm_z7 ?pm_z8 ?pm_x0 ?pm_xq0 ?pm_x1 ?pm_xq1 ?pm_x2 ?pm_xq2 ?pm_x3 ?pm_xq3 ?pm_x4 ?pm_xq4 ?pm_x5 ?pm_xq5 ?pm_x6 ?pm_xq6 ?pm_x7 ?pm_xq7 ?pm_x8 ?pm_xq8 ?pm_xm
  (case pm_cn0 => k_is)
  (case pm_cp0 => k_is)
  (case pm_chd0 => k_is)
  (case pm_cpo0 => k_is)
  (case pm_csa0 => k_is)
  (case pm_cmk0 => k_is)
  (case pm_ckp0 => k_is)
  (case pm_a41 => k_is)
  (case pm_l41 => k_is)
  (case pm_c41 => k_is)
  (case pm_k41 => k_is)
  (case pm_a38 => k_is)
  (case pm_l38 => k_is)
  (case pm_c38 => k_is)
  (case pm_k38 => k_is)
  (case pm_a1 => k_is)
  (case pm_l1 => k_is)
  (case pm_c1 => k_is)
  (case pm_k1 => k_is)
  (case pm_a40 => k_is)
  (case pm_l40 => k_is)
  (case pm_c40 => k_is)
  (case pm_k40 => k_is)
  (case pm_a177 => k_is)
  (case pm_l177 => k_is)
  (case pm_c177 => k_is)
  (case pm_k177 => k_is)
  (case pm_a42 => k_is)
  (case pm_l42 => k_is)
  (case pm_c42 => k_is)
  (case pm_k42 => k_is)
  (case pm_a43 => k_is)
  (case pm_l43 => k_is)
  (case pm_c43 => k_is)
  (case pm_k43 => k_is)
  (case pm_a3 => k_is)
  (case pm_l3 => k_is)
  (case pm_c3 => k_is)
  (case pm_k3 => k_is)
  (case pm_a4 => k_is)
  (case pm_l4 => k_is)
  (case pm_c4 => k_is)
  (case pm_k4 => k_is)
  (case pm_a5 => k_is)
  (case pm_l5 => k_is)
  (case pm_c5 => k_is)
  (case pm_k5 => k_is)
  (case pm_a36 => k_is)
  (case pm_l36 => k_is)
  (case pm_c36 => k_is)
  (case pm_k36 => k_is)
  (case pm_a6 => k_is)
  (case pm_l6 => k_is)
  (case pm_c6 => k_is)
  (case pm_k6 => k_is)
  (case pm_a7 => k_is)
  (case pm_l7 => k_is)
  (case pm_c7 => k_is)
  (case pm_k7 => k_is)
  (case pm_a44 => k_is)
  (case pm_l44 => k_is)
  (case pm_c44 => k_is)
  (case pm_k44 => k_is)
  (case pm_a45 => k_is)
  (case pm_l45 => k_is)
  (case pm_c45 => k_is)
  (case pm_k45 => k_is)
  (case pm_a46 => k_is)
  (case pm_l46 => k_is)
  (case pm_c46 => k_is)
  (case pm_k46 => k_is)
  (case pm_a178 => k_is)
  (case pm_l178 => k_is)
  (case pm_c178 => k_is)
  (case pm_k178 => k_is)
  (case pm_a179 => k_is)
  (case pm_l179 => k_is)
  (case pm_c179 => k_is)
  (case pm_k179 => k_is)
  (case pm_a37 => k_is)
  (case pm_l37 => k_is)
  (case pm_c37 => k_is)
  (case pm_k37 => k_is)
  (case pm_a47 => k_is)
  (case pm_l47 => k_is)
  (case pm_c47 => k_is)
  (case pm_k47 => k_is)
  (case pm_a49 => k_is)
  (case pm_l49 => k_is)
  (case pm_c49 => k_is)
  (case pm_k49 => k_is)
  (case pm_a180 => k_is)
  (case pm_l180 => k_is)
  (case pm_c180 => k_is)
  (case pm_k180 => k_is)
  (case pm_a11 => k_is)
  (case pm_l11 => k_is)
  (case pm_c11 => k_is)
  (case pm_k11 => k_is)
  (case pm_a51 => k_is)
  (case pm_af51 => k_is)
  (case pm_l51 => k_is)
  (case pm_c51 => k_is)
  (case pm_k51 => k_is)
  (case pm_a52 => k_is)
  (case pm_af52 => k_is)
  (case pm_l52 => k_is)
  (case pm_c52 => k_is)
  (case pm_k52 => k_is)
  (case pm_a53 => k_is)
  (case pm_af53 => k_is)
  (case pm_l53 => k_is)
  (case pm_c53 => k_is)
  (case pm_k53 => k_is)
  (case pm_a54 => k_is)
  (case pm_af54 => k_is)
  (case pm_l54 => k_is)
  (case pm_c54 => k_is)
  (case pm_k54 => k_is)
  (case pm_a55 => k_is)
  (case pm_af55 => k_is)
  (case pm_l55 => k_is)
  (case pm_c55 => k_is)
  (case pm_k55 => k_is)
  (case pm_a56 => k_is)
  (case pm_af56 => k_is)
  (case pm_l56 => k_is)
  (case pm_c56 => k_is)
  (case pm_k56 => k_is)
  (case pm_a57 => k_is)
  (case pm_af57 => k_is)
  (case pm_l57 => k_is)
  (case pm_c57 => k_is)
  (case pm_k57 => k_is)
  (case pm_a58 => k_is)
  (case pm_af58 => k_is)
  (case pm_l58 => k_is)
  (case pm_c58 => k_is)
  (case pm_k58 => k_is)
  (case pm_a59 => k_is)
  (case pm_af59 => k_is)
  (case pm_l59 => k_is)
  (case pm_c59 => k_is)
  (case pm_k59 => k_is)
  (case pm_a60 => k_is)
  (case pm_af60 => k_is)
  (case pm_l60 => k_is)
  (case pm_c60 => k_is)
  (case pm_k60 => k_is)
  (case pm_a61 => k_is)
  (case pm_af61 => k_is)
  (case pm_l61 => k_is)
  (case pm_c61 => k_is)
  (case pm_k61 => k_is)
  (case pm_a62 => k_is)
  (case pm_af62 => k_is)
  (case pm_l62 => k_is)
  (case pm_c62 => k_is)
  (case pm_k62 => k_is)
  (case pm_a63 => k_is)
  (case pm_af63 => k_is)
  (case pm_l63 => k_is)
  (case pm_c63 => k_is)
  (case pm_k63 => k_is)
  (case pm_a64 => k_is)
  (case pm_af64 => k_is)
  (case pm_l64 => k_is)
  (case pm_c64 => k_is)
  (case pm_k64 => k_is)
  (case pm_a65 => k_is)
  (case pm_af65 => k_is)
  (case pm_l65 => k_is)
  (case pm_c65 => k_is)
  (case pm_k65 => k_is)
  (case pm_a66 => k_is)
  (case pm_af66 => k_is)
  (case pm_l66 => k_is)
  (case pm_c66 => k_is)
  (case pm_k66 => k_is)
  (case pm_a67 => k_is)
  (case pm_af67 => k_is)
  (case pm_l67 => k_is)
  (case pm_c67 => k_is)
  (case pm_k67 => k_is)
  (case pm_a68 => k_is)
  (case pm_af68 => k_is)
  (case pm_l68 => k_is)
  (case pm_c68 => k_is)
  (case pm_k68 => k_is)
  (case pm_fl0 => k_is)
  (case pm_fl1 => k_is)
  (case pm_fl2 => k_is)
  (case pm_fl3 => k_is)
  (case pm_fl4 => k_is)
  (case pm_fl5 => k_is)
  (case pm_e0 => k_is)
  (case pm_e1 => k_is)
  (case pm_ce1 => k_is)
  (case pm_e2 => k_is)
  (case pm_z0 => k_is)
  (case pm_z1 => k_is)
  (case pm_z2 => k_is)
  (case pm_z3 => k_is)
  (case pm_z4 => k_is)
  (case pm_z5 => k_is)
  (case pm_z6 => k_is)
  (case pm_z7 => k_is)
  (case pm_z8 => k_is)
  (case pm_x0 => k_is)
  (case pm_xq0 => k_exc)
  (case pm_x1 => k_is)
  (case pm_xq1 => k_exc)
  (case pm_x2 => k_is)
  (case pm_xq2 => k_exc)
  (case pm_x3 => k_is)
  (case pm_xq3 => k_exc)
  (case pm_x4 => k_is)
  (case pm_xq4 => k_exc)
  (case pm_x5 => k_is)
  (case pm_xq5 => k_exc)
  (case pm_x6 => k_is)
  (case pm_xq6 => k_exc)
  (case pm_x7 => k_is)
  (case pm_xq7 => k_exc)
  (case pm_x8 => k_is)
  (case pm_xq8 => k_exc)
  (case pm_xm => kernel_rfl)
#print axioms PySem.Challenge.cw_trussel_k33_dies_fixed_and_laid_off_holds
