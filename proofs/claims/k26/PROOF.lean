import PyProof.Rows.All
import Wide.All
import OpenK.AllK
import Wide.FinOn
import Lean
import PyProof.EqAt
import PyProof.EqKinds
import PyProof.TupleCall
import PySem.Challenge.RW_trussel_k26_firsts_by_all_orders
set_option Elab.async false
set_option linter.all false
set_option maxRecDepth 100000
set_option maxHeartbeats 4000000
set_option genSizeOf false
local macro_rules|`(def $i:declId $s:optDeclSig $v:declVal)=>`(noncomputable def $i:declId $s:optDeclSig $v:declVal)
def aA:=@List.getElem?_set_ne
def aB:=@Nat.lt_of_lt_of_le
def aC:=@if_neg
def aD:=@PySem.Heap.lt_size
def aE:=@decide_eq_false
def aF:=@List.mem_of_getElem?
def aG:=@Nat.le_trans
def aH:=@PySem.Heap.get?_push_size
def aI:=@List.size_toArray
def aJ:=@List.getElem?_append_left
def aK:=@if_pos
def aL:=@List.mem_cons
def aM:=@List.mem_range
def aO:=@Bool.and_eq_true
def aP:=@List.getElem?_eq_none
def aQ:=@Option.some.inj
def aR:=@Nat.ne_of_lt
def aS:=@PySem.mem_of_lookup
def aT:=@List.any_eq_true
def aU:=@List.mem_map
def aV:=@Bool.eq_iff_iff
def aY:=@List.getElem?_set_self
def aZ:=@of_decide_eq_true
def aa:=@Option.map_eq_some_iff
def ae:=@PySem.wpAny_bind
def ag:=@List.getElem?_map
def ai:=@List.getElem?_eq_getElem
def aj:=@Option.bind_eq_some_iff
def ak:=@List.getElem?_eq_some_iff
def ao:=@List.length_map
def au:=@PySem.Heap.get?_push_of_some
def av:=@PySem.wpAny_pure
def aw:=@Nat.le_refl
def az:=@decide_eq_true
def bA:=@PySem.wpAny_mono
def bB:=@PySem.Obj.data_mapFields
def bC:=@List.getElem?_range
def bD:=@Array.length_toList
def bE:=@List.take_succ
def bG:=@List.mem_iff_getElem
def bH:=@Bool.false_ne_true
def bK:=@List.take_length
def bL:=@List.mem_iff_getElem?
def bN:=@decide_eq_true_eq
def bO:=@PyProof.Rows.callWith_type1
def bP:=@Ne.symm
def bS:=@PyProof.Rows.slot_tuple_getitem
def bV:=@PySem.W.mg_of
def bW:=@PySem.W.kia_one
def bZ:=@Nat.ne_of_gt
def bc:=@List.mem_append
def bg:=@List.length_append
def bh:=@List.mem_filter
def bo:=@List.mem_singleton
def br:=@List.mem_append_right
def bt:=@Nat.lt_irrefl
def bu:=@PySem.Heap.get?_update_self
def bw:=@List.mem_cons_of_mem
def bz:=@List.map_cons
def cA:=@List.getElem?_append_right
def cB:=@Int.toNat_natCast
def cE:=@PySem.wpAny_holding
def cG:=@PySem.wpAny_setState_of
def cI:=@List.lookup_cons
def cJ:=@Nat.zero_le
def cL:=@PySem.wpAny_call_entry
def cM:=@List.nodup_append
def cN:=@List.ext_getElem?
def cO:=@Bool.or_eq_true
def cP:=@Nat.lt_trans
def cQ:=@Nat.lt_or_ge
def cR:=@List.length_take
def cS:=@List.length_cons
def cV:=@PySem.Heap.get?_update_other
def cX:=@List.getElem?_eq_none_iff
def cY:=@PySem.wpAny_Call_Name_kw
def cZ:=@List.mem_append_left
def cb:=@List.map_map
def cc:=@List.getElem_mem
def cg:=@List.all_eq_true
def cq:=@List.replicate_succ
def cu:=@List.flatMap_cons
def cv:=@List.getElem?_take_of_lt
def cw:=@PySem.Heap.SameBut.update
def cx:=@PySem.wpAny_truthy_bool
def cy:=@PySem.wpAny_newObj_type
def cz:=@decide_eq_false_iff_not
def dA:=@decide_eq_true_iff
def dB:=@PySem.W.cellsFrom_some
def dC:=@Nat.lt_of_le_of_lt
def dD:=@List.filter_append
def dE:=@Int.emod_lt_of_pos
def dI:=@PySem.wpAny_setField
def dJ:=@List.nodup_cons
def dM:=@List.map_append
def dO:=@Array.getElem_eq_getD
def dQ:=@Nat.lt_trichotomy
def dS:=@PySem.call_meets
def dU:=@PySem.wpAny_passesOwn
def dZ:=@PySem.wpAny_standAt
def da:=@List.flatten_cons
def de:=@PySem.Obj.isFreed_of_fields
def dh:=@beq_eq_false_iff_ne
def dk:=@decide_eq_decide
def dn:=@List.getElem?_replicate
def dy:=@List.eq_nil_of_length_eq_zero
def eA:=@Int.zero_add
def eE:=@List.drop_eq_getElem_cons
def eF:=@PyProof.Rows.F.plain_set_update_loop
def eG:=@List.filterMap_cons
def eM:=@PySem.wpAny_of_eq
def eO:=@Option.isSome_iff_exists
def eP:=@PySem.Heap.size_push
def eQ:=@Bool.false_or
def eR:=@PySem.Around.under_plainId
def eW:=@List.find?_cons
def eX:=@List.append_nil
def eY:=@Int.emod_nonneg
def eZ:=@PySem.wpAny_typeOf
def et:=@Nat.le_of_lt
def fb:=@beq_iff_eq
def fc:=@List.length_eq_zero_iff
structure PySem.W.Fast:Prop where(tw9860934136071657191 tw16913688918109555285 tw601242251884555323 tw15679103502931852697 tw17779768160441589384 tw2863550168199051033 tw12102536082691442713 tw17626536523836090474 tw12979226782034569669 tw586141052952262532 tw17601539878198900961 tw3575174415152092314 tw9317721002955451276 tw10899305784785455153 tw14198428890208259342 tw15921431859684603755 tw135497120558572546 tw3597124669227773159 tw8450841742061525880 tw9075665809792011160 tw14990261527241393509 tw3102363802797195200 tw16223188281575868557 tw14253625008456118259 tw16961508173210512884 tw1003073991929209913 tw56956256737219335 tw968403006154249683 tw14892743610656559273 tw5642120436538344054 tw14346240047581623024 tw8203392070121205787 tw6199672258734571319 tw1372560756978807589 tw15366439430957732296 tw4512166755128663524 tw7324357141389986213 tw7397541774842419382 tw16628489703111166186 tw2487844530523583124 tw5981330548003091704 tw11749839086150074090 tw6362506537820499957 tw1016484170345042420 tw7272988851500952212 tw15629095333010984543 tw13943955398922997270 tw17327664171039014914 tw10925997306254985922 tw7641389014554279601 tw10061301508694505644 tw12291044701892255963 tw13263555799694700220 tw10222516223773297030 tw1185010086804402168 tw251013688223028646 tw10651797940620009572 tw17678281457264327812 tw3002570725958335698 tw8519050984359138415 tw2178923710283894394 tw7718372635926884111 tw14803556076594331833 tw8899723863638014722 tw8775582619019294532 tw5918975253698426235 tw16242473874566128165 tw3616902269816875818 tw9152094833921506714 tw2561898601353229412 tw16885936778722576272 tw10384193997133769964 tw1454200609458819515 tw5903491033369677288 tw10268189533497617963 tw16038971208581338748 tw1669114805663474590 tw17696704685893823050 tw8489934546368287045 tw2954413129664950894 tw16993815986007096423 tw12048349908994210239 tw17742722407502973775 tw13024817710494552596 tw11876630382745348388 tw14538021488765033219 tw4231019408794348641 tw16976757335512839419 tw8489867752017942238 tw9260934354795042682 tw14637441310250812629 tw10265341390352636140 tw4830871992922677299 tw6937279518750851442 tw14866133623991919936 tw3167325999514628850 tw9953734291715029108 tw15900091031454044929 tw6981890466135376210 tw3465973045365601035 tw15209523319768701296 tw14184196998950726162 tw17271761443817632652 tw14490058498225960213 tw16854747893516536025 tw10320751983917281641 tw2187686647708375404 tw4170049522557953834 tw8094485552815147232 tw4614577329716892961 tw6494747535148410028 tw946075938922602458 tw16961389154412414354 tw11655064190604293873 tw14528969145223451035 tw1140108368685821169 tw7326168862247189457 tw10403055109703059222 tw4955600756876374861 tw3170242380445330680 tw10980469808820146526 tw13968636780137566264 tw13394307523494212257 tw11016408997638521882 tw2007178775172223538 tw5553967636094239222 tw15870566474251946365 tw8205069831328081887 tw4709985690344182030 tw3925895234269910213 tw16365495513797953719 tw15615733407121063501 tw15562731891525518812 tw4906628640654057863 tw299206633628846220 tw9977348209290096581 tw13896993830799272957 tw17157551144226374260 tw12129564824355211517 tw9927014334173710447 tw9621631371129331471 tw2818128176394670907 tw1813920584046506601 tw11910632813128656836 tw15771207473531274108 tw8663525188226741766 tw15731517544464087146 tw12205793987630468813 tw16482163790456450125 tw14076045217439978220 tw5378485180221756573 tw16550941875934248941 tw15580558310597811552 tw3719783747702675896 tw18311396574397788355 tw9155570407914222358 tw4826302214928000763 tw1384203572281137378 tw14603510176996514084 tw1255315215951538146 tw15234213585293220603 tw1416746460218089336 tw6752401499040878762 tw5915381496383731770 tw426982525531027739 tw16366801035705012756 tw4258649952987762805 tw14510068290087664914 tw9350681017183345630 tw8879625772672720459 tw980221330201789678 tw7186752976624497132 tw11588526570635825543 tw1198417713177474403 tw13387125651041528576 tw17439292211034676053 tw2984383174194773435 tw10187064673292244882 tw11777657866793650281 tw14979303186767544239 tw9358856085282035213 tw10139399616153344355 tw10427316879432704867 tw4755494550284251188 tw14187141210923472925 tw4867293781463406527 tw3010881345859032615 tw3997205676284922894 tw6279022045183999986 tw2107966767560725867 tw13520823518390255449 tw4801713622998756399 tw1740240531383941717 tw9947069610323481077 tw14843571614454176161 tw4500865221533071599 tw4082018423154778955 tw8537721400547640400 tw12775444831142086430 tw16514306361187339240 tw12263104989316896485 tw4744820170550918147 tw5396442444111386472 tw9002966576844203815 tw14603203362669871006 tw6647827999168275731 tw11512265077040693266 tw16724677552958839814 tw7810776394364449139 tw2311928045785434431 tw13036342009457506520 tw8001857428751501890 tw16873448627106237629 tw7526159989928106882 tw16376267488280714138 tw12130598743738850746 tw12852432778497333772 tw7547565533471057117 tw12635323680347091525 tw1793285858073750017 tw17706144168136926094 tw486605265373037993 tw8709498762997550085 tw321723806477227510 tw4298181565564164169 tw7996824031936920550 tw3555623028062716670 tw12546818723276113318 tw15322201486368035315 tw11190758609324137938 tw9531801813754852950 tw7777446991200465848 tw10494635109071039906 tw14763365360559115936 tw16995002157812708990 tw2859145039542161420 tw15014844262679696030 tw12197492490120586993 tw6256235935968369231 tw1006025133123302620 tw6914234839427463864 tw13837791400419806447 tw18089087909914992171 tw14690960554086632877 tw16246691462577145075 tw17467621723824412786 tw13888231465996868140 tw17519023201443141265 tw13276679735888593476 tw18208500135671485787 tw16864256258884709281 tw9711071613743786655 tw14776608220439241645 tw3563789549398137603 tw16543078005338725805 tw1545914785529421760 tw6846196065640270148 tw6123626589435683404 tw17211284120234728888 tw13094337573096021023 tw17662364399967352215 tw4988214055516074496 tw9111840578394244465 tw13156039200108121153 tw3297377190579553124 tw9111145020582065275 tw15956032277360114175 tw7034767386371137615 tw18376207967535348649 tw15652025142320186449 tw12717531300862636646 tw17871686325082095636 tw7127701806516152809 tw5969114375834882282 tw7184517268009891445 tw18167074712652553365 tw17482721929488627442 tw16619651918643154051 tw7657755969167815941 tw263921332360834883 tw17978468142509157300 tw20871040774032382 tw14235518688106739742 tw12724838259971220519 tw4638315690110816003 tw4100322862789801099 tw15068748990815166268 tw9191413567149233532 tw17058479142381792266 tw6497952118094824924 tw2589092435269549068 tw17239240549577838062 tw17808017838399541110 tw1376966047583560353 tw1409108011661280540 tw1904379313725357457 tw14273132170641181831 tw12663095394181106822 tw1006907895176810018 tw10376782268748687129 tw2820429715823659309 tw12028779861403065874 tw11565042600014524228 tw17696197850242212434 tw5079193379860827106 tw17790567687559625929 tw9505622395666437266 tw6031412871711940919 tw99840707166970017 tw4196352538375891589 tw7854318402008966438 tw13444714483385779993 tw7712560046957762832 tw8382630369898850653 tw5822133124898605683 tw14225156699169506116 tw895215874875417207 tw6575395763116300586 tw9609707582625302494 tw7387530520371978589 tw5695389251515684005 tw6199504420870830039 tw10765324585722345047 tw11001418289536755326 tw15051407738396930898 tw6460628935106246321 tw12575000904945312237 tw15709037995286920397 tw17420507752444729714 tw18186494468449193375 tw10932095306644099943 tw14734300717416639352 tw1221144843386095953 tw8505128599546954780 tw15297230626990360353 tw14317772879826511714 tw15273032455742253785 tw14343987031787785319 tw3950779938824527988 tw5285496867567427317 tw15420237929379047623 tw15056921723460749436 tw12677937315005862280 tw15718560832535446547 tw8752032976060380440 tw7931610331044457419 tw852750495787136533 tw10887914555445625844 tw5876746362294645956 tw749484366291348609 tw7452927679106181538 tw863089481219541493 tw8049566721401739905 tw17294465668045167886 tw6636728061802688146 tw18141132323265300350 tw3332519336820881207 tw13303419814545053175 tw12501611585353649618 tw9700325796993185777 tw14662657935714839064 tw1578558323461929076 tw2983648625991424839 tw5094578161751826638 tw1354806770681027225 tw18265688263203452259 tw6854464358384438943 tw8606629774302862882 tw835767753504495831 tw14196519954249510957 tw11506834305464817637 tw6607719024403223741 tw7939315499558277050 tw4007233814356654134 tw4408396826489144427 tw10952516270398601653 tw5154624913501005813 tw13120603267550636717 tw2358725871246508033 tw4440463248819016320 tw13184165660095209228 tw1843961365011848611 tw14033093246509686650 tw5496387859251016987 tw3435623700399066967 tw17382641227791119792 tw16027341516207212763 tw13889985932789240208 tw10345576935304652159 tw4666451569893884267 tw461512699998188604 tw8412530593914501676 tw13321496969073117614 tw2043183444574433409 tw10570063439016138639 tw16055265577761177752 tw4154977114821919419 tw8733247992423552446 tw10938590312804104894 tw16571017143403505484 tw11904821071971777623 tw17773722572299166381 tw8744419634880174340 tw3332103450602651041 tw633152888113234396 tw40369182348850687 tw14811751438483755770 tw14648664200760232809 tw6435578819742860159 tw12808297606769492733 tw14410646669673711244 tw13414208086860267114 tw17305109258195515565 tw6905232909386808289 tw1390819141684014475 tw346985317426598860 tw12581131227713582967 tw10764183103911681836 tw2707268723113500112 tw1612951869286045577 tw2516274457167448511 tw9236305910452857473 tw18278474868149029145 tw4474791878753774606 tw7466766351618585809 tw2298984815328047063 tw5214656922407654849 tw13611947892303797601 tw13322347210914881920 tw9201556027764486026 tw3626122690789895060 tw4370362155843986812 tw14802011946856671673 tw17194179836519033475 tw6741682270895032596 tw15556103391745235819 tw15503644323285199932 tw16270810090033040190 tw2219303684653052408 tw1607909810635215062 tw5358237324461089405 tw13447710106653335933 tw14438790283242131692 tw11965399099956524675 tw13099666748024270586 tw266936658529434689 tw953076403099322316 tw649105938644610233 tw7335656769230037856 tw6873358855048118226 tw14294659504883802807 tw11476830294856292272 tw13968224236228938015 tw1095901250060653228 tw5674556532154649684 tw14304461414764157889 tw2396464582793322276 tw8668539603742336458 tw5060629094525298127 tw3447867066279092712 tw6998947772510108025 tw11358845562237320336 tw1839321234596427143 tw9890933202199374072 tw4185249786209456351 tw15840784189524388597 tw2518095585572630264 tw8738098908944246290 tw6727516945731389008 tw14982080587180360691 tw10923204928871136101 tw953480267341977826 tw4123519081371240990 tw2145935423996090437 tw3890561806197932479 tw499455836743313971 tw8993564060332007918 tw13864220743085030621 tw7928502266000655127 tw8513034677243698073 tw4629358832352798534 tw17757115146832443389 tw7367540816334622843 tw2455093569741474882 tw5269200497879054072 tw12895989527929931741 tw15229051553900271731 tw10499083103488899736 tw8062328141163256145 tw11222661669212510714 tw9329950342239952858 tw10360149801244457671 tw6584810884105540487 tw1208167437376315956 tw13407736972264170708 tw8631528706247412702 tw17857131272658987604 tw640684549636446440 tw1628406536824545914 tw7829122549611735030 tw64696475509179704 tw2417686372210006072 tw1954164565870008493 tw11826434447705525830 tw7589799709886392141 tw7099972410167414977 tw4037240407860390615 tw4760633908373396696 tw6463305256639730739 tw11161261992042228224 tw11818032127818536100 tw5933135542356327952 tw1466801739880633048 tw12050397978426533084 tw6042352503601405146 tw16679235076908470306 tw10097342436264221147:True)
namespace L2
open PySem PySem.Spec PyProof.Rows
noncomputable abbrev Key:=Sum Int Str
def qN:Key->Value->Bool
 |.inl k,v=>Value.isInt k v
 |.inr x,v=>Value.isStrOf x v
def RE(w:World):Key->Int
 |.inl k=>hashInt k
 |.inr x=>hashStr w x
theorem v8:∀{k:Key} {v:Value},qN k v=true->(∃i t,k=Sum.inl i/\v=Value.int i t)\/(∃x t,k=Sum.inr x/\v=Value.str x t)
 |.inl i,v,h=>by
  obtain⟨t,e⟩:=Value.isInt_shape (k:=i) (v:=v) h;exact .inl ⟨i,t,rfl,e⟩
 |.inr x,v,h=>by
  obtain⟨t,e⟩:=Value.isStrOf_shape (x:=x) (v:=v) h;exact .inr ⟨x,t,rfl,e⟩
theorem a04(i:Int)(t:Tok):qN (.inl i) (.int i t)=true:=by simp[qN,Value.isInt]
theorem a03(x:Str)(t:Tok):qN (.inr x) (.str x t)=true:=by simp[qN,Value.isStrOf]
theorem Mz(a b:Int):decide ((Sum.inl a:Key)=Sum.inl b)=(a==b):=by
 by_cases e:a=b
 ·subst e;simp
 ·have h:¬(Sum.inl a:Key)=Sum.inl b:=λq=>e (Sum.inl.inj q);rw[aE h];exact(dh.mpr e).symm
theorem MC(a b:Str):decide ((Sum.inr a:Key)=Sum.inr b)=decide (a=b):=by
 by_cases e:a=b
 ·subst e;simp
 ·have h:¬(Sum.inr a:Key)=Sum.inr b:=λq=>e (Sum.inr.inj q);rw[aE h,aE e]
theorem MA(a:Int)(b:Str):decide ((Sum.inl a:Key)=Sum.inr b)=false:=aE (λq=>nomatch q)
theorem MB(a:Str)(b:Int):decide ((Sum.inr a:Key)=Sum.inl b)=false:=aE (λq=>nomatch q)
def q8(prog:Program)(w:World):PySem.KeyKind prog w Key where
 is:=qN
 hash:=RE w
 inj:=λv a b ha hb=>by
  rcases v8 ha with⟨i,t,rfl,rfl⟩|⟨x,t,rfl,rfl⟩
  ·rcases v8 hb with⟨j,u,rfl,e⟩|⟨y,u,rfl,e⟩
   ·injection e with e1 _;rw[e1]
   ·exact nomatch e
  ·rcases v8 hb with⟨j,u,rfl,e⟩|⟨y,u,rfl,e⟩
   ·exact nomatch e
   ·injection e with e1 _;rw[e1]
 byValue:=λk v h=>by
  rcases v8 h with⟨i,t,rfl,rfl⟩|⟨x,t,rfl,rfl⟩<;>rfl
 pyHash:=λhv h=>by
  rcases v8 hv with⟨i,t,rfl,rfl⟩|⟨x,t,rfl,rfl⟩
  ·exact wpAny_pyHash_int h
  ·exact wpAny_pyHash_str h
 eqBool:=λhu hv h=>by
  rcases v8 hu with⟨i,t,rfl,rfl⟩|⟨x,t,rfl,rfl⟩
  ·rcases v8 hv with⟨j,u,rfl,rfl⟩|⟨y,u,rfl,rfl⟩
   ·rw[Mz] at h;exact wpAny_eqBool_int h
   ·rw[MA] at h;exact SeqAt.EqAt.int_str i t y u _ _ _ _ h
  ·rcases v8 hv with⟨j,u,rfl,rfl⟩|⟨y,u,rfl,rfl⟩
   ·rw[MB] at h;exact SeqAt.EqAt.str_int x t j u _ _ _ _ h
   ·rw[MC] at h;exact wpAny_eqBool_str h
 «strs»:=λk x t v h=>by
  rcases v8 h with⟨i,u,rfl,e⟩|⟨y,u,rfl,e⟩
  ·exact nomatch e
  ·injection e with e1 _;subst e1;cases v<;>rfl
theorem XX(prog:Program)(w:World)(i:Int)(t:Tok):(q8 prog w).is (.inl i) (.int i t)=true:=a04 i t
theorem XY(prog:Program)(w:World)(x:Str)(t:Tok):(q8 prog w).is (.inr x) (.str x t)=true:=a03 x t
inductive V where
 |bx|bl (b:Bool)|int (i:Int)|str (x:Str)|jL (b:Array UInt8)|pe (b:UInt64)|ref (a:Addr)|ty (n:String)
 deriving DecidableEq
def RelV:V->Value->Prop
 |.bx,u=>u=Value.none
 |.bl b,u=>u=Value.bool b
 |.int i,u=>∃t,u=Value.int i t
 |.str x,u=>∃t,u=Value.str x t
 |.jL b,u=>∃t,u=Value.bytes b t
 |.pe b,u=>∃t,u=Value.float b t
 |.ref a,u=>u=Value.ref a
 |.ty n,u=>u=Value.type n
noncomputable abbrev Vals:List V->List Value->Prop:=Paired RelV
theorem Vals.length{xs:List V}{us:List Value}(r:Vals xs us):xs.length=us.length:=Paired.length r
theorem Vals.get:∀{xs:List V} {us:List Value} {i:Nat} {x:V},Vals xs us->xs[i]?=some x->∃u,us[i]?=some u/\RelV x u
 |_,_,_,_,.nil,e=>by simp at e
 |_,_,0,_,.cons r _,e=>by simp at e;subst e;exact⟨_,rfl,r⟩
 |_,_,i+1,x,.cons _ t,e=>by
  obtain⟨u,h1,h2⟩:=Vals.get (i:=i) (x:=x) t (by simpa using e);exact⟨u,by simpa using h1,h2⟩
theorem Vals.set{x:V}{u:Value}(r:RelV x u):∀{xs:List V} {us:List Value} (i:Nat),Vals xs us->Vals (xs.set i x) (us.set i u)
 |_,_,_,.nil=>.nil
 |_,_,0,.cons _ t=>.cons r t
 |_,_,i+1,.cons q t=>.cons q (Vals.set r i t)
theorem Vals.append{xs ys:List V}{us ws:List Value}(h:Vals xs us)(s:Vals ys ws):Vals (xs++ys) (us++ws):=by
 induction h with
 |nil=>exact s
 |cons r t ih=>exact .cons r ih
theorem Vals.take:∀{xs:List V} {us:List Value} (n:Nat),Vals xs us->Vals (xs.take n) (us.take n)
 |_,_,0,_=>.nil
 |_,_,_+1,.nil=>.nil
 |_,_,n+1,.cons r t=>.cons r (Vals.take n t)
theorem Vals.drop:∀{xs:List V} {us:List Value} (n:Nat),Vals xs us->Vals (xs.drop n) (us.drop n)
 |_,_,0,r=>r
 |_,_,_+1,.nil=>.nil
 |_,_,n+1,.cons _ t=>Vals.drop n t
def F8:Option V->Option Value->Prop
 |some v,some u=>RelV v u
 |none,none=>True
 |_,_=>False
def KV{κ:Type}:List (κ×V)->List (κ×Value)->Prop:=Paired λ(p:κ×V) (q:κ×Value)=>p.1=q.1/\RelV p.2 q.2
def kV:Key->V
 |.inl i=>.int i
 |.inr x=>.str x
inductive HO where
 |lst (xs:List V)
 |tup (xs:List V)
 |dK (kvs:List (Key×V))|dT (kvs:List (List Key×V))
 |set (S:Int->Bool) (n:Nat)
 |ins (C dx:Addr) (fs:List (Str×V))
 |own (x:Addr)
 |xd (fs:List (Str×V))
 |met (f x:Addr)
 |ki (lo hi:Int)
 |iQ (o:Obj) (u:HO)
 |kh (ps:Array Value)
 |ext (φ:Heap->Prop)
noncomputable abbrev Hp:=Addr->Option HO
def upd(H:Hp)(a:Addr)(o:HO):Hp:=λb=>if b=a then some o else H b
theorem u3{H:Hp}{a:Addr}{o:HO}:upd H a o a=some o:=by unfold upd;rw[aK rfl]
theorem d8{H:Hp}{a b:Addr}{o:HO}(h:b≠a):upd H a o b=H b:=by unfold upd;rw[aC h]
theorem TZ{H:Hp}{a b:Addr}{o u:HO}(h:H a=some o)(h':H b=some u)(d:o≠u):a≠b:=by
 intro e;subst e;rw[h] at h';exact d (aQ h')
theorem l9{H:Hp}{a b:Addr}{o:HO}(h:H a=some o)(h':H b=none):a≠b:=by
 intro e;subst e;rw[h] at h';cases h'
def K1(h:Heap)(a:Addr)(items:Array Value):Prop:=∃o,h.get? a=some o/\o.cls=.type "tuple"/\(∃n,o.data=.seq items n)/\o.dict=none
theorem K1.tup{h:Heap}{a:Addr}{items:Array Value}(x:K1 h a items):IsTup h a items:=let ⟨o,e,c,d,_⟩:=x;⟨o,e,c,d⟩
theorem K1.new(h:Heap)(items:Array Value):K1 (h.push { cls:=.type "tuple",data:=.seq items }) h.objs.size items:=⟨_,aH _ rfl,rfl,⟨_,rfl⟩,rfl⟩
section
variable(P:Program)(w:World)
def m8(H:Hp)(h:Heap)(a:Addr):HO->Prop
 |.lst xs=>xs.length<=sizeLine/\∃(aW:List Value) (n:Nat),Vals xs aW/\h.get? a=some { cls:=.type "list",data:=.seq aW.toArray n }
 |.tup xs=>xs.length<=sizeLine/\∃aW:List Value,Vals xs aW/\K1 h a aW.toArray
 |.dK kvs=>kvs.length<=sizeLine/\(a==sysModules)=false/\∃vs,KV kvs vs/\h.DictOf (q8 P w) a vs
 |.dT kvs=>kvs.length<=sizeLine/\(a==sysModules)=false/\∃xs:List (List Key×Addr×Value),
   Paired (λ(p:List Key×V) (q:List Key×Addr×Value)=>p.1=q.1/\H q.2.1=some (.tup (p.1.map kV))/\RelV p.2 q.2.2) kvs xs /\
   ∃o es ep,h.get? a=some o/\o.ExactDict/\o.data=.dict es ep/\es.toList=xs.map (entryOfKey (tupleKind (q8 P w)))/\(xs.map (·.1)).Nodup
 |.set S n=>h.SetOf (intKind P w) a S n
 |.ins C dx fs=>H dx=some (.own a)/\fs.length<=1000/\dx≠a/\h.get? a=some (PySem.W.instObj C dx) /\
   ∃mA,h.Ns1 dx mA/\(∀f,F8 (fs.lookup f) (mA f))/\PySem.Within mA (fs.map (·.1))
 |.own _=>∃o,h.get? a=some o
 |.xd fs=>∃mA,h.Ns1 a mA/\∀f,F8 (fs.lookup f) (mA f)
 |.ki lo hi=>∃t u v,h.get? a=some { cls:=.type "range",data:=.fields #[.int lo t,.int hi u,.int 1 v] }
 |.iQ o u=>h.get? a=some o/\m8 H h a u
 |.kh ps=>h.get? a=some { cls:=.none,data:=.fields ps }
 |.met f x=>h.get? a=some (PySem.W.methodObj (.ref f) (.ref x))
 |.ext φ=>φ h/\(∃o,h.get? a=some o)/\∀h1 h2:Heap,φ h1->(∀o,h1.get? a=some o->h2.get? a=some o)->φ h2
def fN(H:Hp)(h:Heap):Prop:=∀a o,H a=some o->m8 P w H h a o
end
section
variable{P:Program}{w:World}{H H':Hp}{h h':Heap}{a:Addr}{o:HO}
theorem m8.lt(x:m8 P w H h a o):a<h.objs.size:=by
 cases o with
 |lst xs=>obtain⟨_,_,_,_,e⟩:=x;exact aD e
 |tup xs=>obtain⟨_,_,_,p⟩:=x;exact p.tup.lt
 |dK kvs=>obtain⟨_,_,_,_,o,_,_,e,_⟩:=x;exact aD e
 |dT kvs=>obtain⟨_,_,_,_,o,_,_,e,_⟩:=x;exact aD e
 |set S n=>obtain⟨o,_,_,_,e,_⟩:=x;exact aD e
 |ins C dx fs=>obtain⟨_,_,_,e,_⟩:=x;exact aD e
 |own y=>obtain⟨_,e⟩:=x;exact aD e
 |xd fs=>obtain⟨_,⟨_,_,_,e,_⟩,_⟩:=x;exact aD e
 |ki lo hi=>obtain⟨_,_,_,e⟩:=x;exact aD e
 |iQ ob u=>obtain⟨e,_⟩:=x;exact aD e
 |kh ps=>exact aD (show h.get? a=some _ from x)
 |met f y=>exact aD (show h.get? a=some _ from x)
 |ext φ=>obtain⟨_,⟨_,e⟩,_⟩:=x;exact aD e
theorem Paired.El{α β:Type}{F G:α->β->Prop}{rP:List α}{rO:List β}(h:Paired F rP rO)(f:∀a b,F a b->G a b):Paired G rP rO:=by
 induction h with
 |nil=>exact .nil
 |cons r t ih=>exact .cons (f _ _ r) ih
theorem m8.V5(x:m8 P w H h a o)(k:∀b u,(b=a\/H b=some (.own a))->h.get? b=some u->h'.get? b=some u)(ho:∀b,H b=some (.own a)->H' b=some (.own a))(ht:∀b xs,H b=some (.tup xs)->H' b=some (.tup xs)):m8 P w H' h' a o:=by
 induction o with
 |lst xs=>obtain⟨z,aW,n,r,e⟩:=x;exact⟨z,aW,n,r,k _ _ (.inl rfl) e⟩
 |tup xs=>obtain⟨z,aW,r,ob,e,c⟩:=x;exact⟨z,aW,r,ob,k _ _ (.inl rfl) e,c⟩
 |dK kvs=>obtain⟨z,y,vs,r,ob,es,ep,e,c⟩:=x;exact⟨z,y,vs,r,ob,es,ep,k _ _ (.inl rfl) e,c⟩
 |dT kvs =>
  obtain⟨z,y,xs,r,ob,es,ep,e,c⟩:=x;exact⟨z,y,xs,Paired.El r λp q z=>⟨z.1,ht _ _ z.2.1,z.2.2⟩,ob,es,ep,k _ _ (.inl rfl) e,c⟩
 |set S n=>obtain⟨ob,es,ep,t,e,c⟩:=x;exact⟨ob,es,ep,t,k _ _ (.inl rfl) e,c⟩
 |ins C dx fs =>
  obtain⟨d,z,ne,e,mA,⟨od,es,ep,e2,c⟩,r⟩:=x;exact⟨ho _ d,z,ne,k _ _ (.inl rfl) e,mA,⟨od,es,ep,k _ _ (.inr d) e2,c⟩,r⟩
 |own y=>obtain⟨ob,e⟩:=x;exact⟨ob,k _ _ (.inl rfl) e⟩
 |xd fs=>obtain⟨mA,⟨od,es,ep,e,c⟩,r⟩:=x;exact⟨mA,⟨od,es,ep,k _ _ (.inl rfl) e,c⟩,r⟩
 |ki lo hi=>obtain⟨t,u,v,e⟩:=x;exact⟨t,u,v,k _ _ (.inl rfl) e⟩
 |iQ ob u ih=>obtain⟨e,q⟩:=x;exact⟨k _ _ (.inl rfl) e,ih q⟩
 |kh ps =>
  have e:h.get? a=some { cls:=.none,data:=.fields ps }:=x;show h'.get? a=some { cls:=.none,data:=.fields ps };exact k a _ (.inl rfl) e
 |met f y =>
  have e:h.get? a=some (PySem.W.methodObj (.ref f) (.ref y)):=x;show h'.get? a=some (PySem.W.methodObj (.ref f) (.ref y));exact k a _ (.inl rfl) e
 |ext φ=>obtain⟨p,⟨o,e⟩,st⟩:=x;exact⟨st _ _ p λo q=>k _ _ (.inl rfl) q,⟨o,k _ _ (.inl rfl) e⟩,st⟩
theorem fN.lt(x:fN P w H h)(e:H a=some o):a<h.objs.size:=(x a o e).lt
theorem fN.fresh(x:fN P w H h)(e:h.objs.size<=a):H a=none:=by
 cases q:H a with
 |none=>rfl
 |some u=>exact absurd (aB (x.lt q) e) (bt _)
theorem fN.kept(x:fN P w H h)(k:∀b u,h.get? b=some u->h'.get? b=some u):fN P w H h':=λa o e =>
 (x a o e).V5 (λb u _ q=>k b u q) (λ_ q=>q) λ_ _ q=>q
theorem fN.laid(x:fN P w H h)(k:∀b u,h.get? b=some u->h'.get? b=some u)(hp:h.objs.size<=a)(new:m8 P w (upd H a o) h' a o):fN P w (upd H a o) h':=λb u e=>by
 have hn:=x.fresh hp;by_cases hb:b=a
 ·subst hb;rw[u3] at e;cases e;exact new
 ·rw[d8 hb] at e;exact(x b u e).V5 (λc v _ q=>k c v q) (λc q=>by rw[d8 (l9 q hn)];exact q) λc xs q=>by rw[d8 (l9 q hn)];exact q
end
def Rd(H:Hp)(a:Addr)(u:HO):Prop:=H a=some u\/∃o,H a=some (.iQ o u)
theorem Rd.ok{P:Program}{w:World}{H:Hp}{h:Heap}{a:Addr}{u:HO}(r:Rd H a u)(x:fN P w H h):m8 P w H h a u:=by
 rcases r with r|⟨o,r⟩
 ·exact x a u r
 ·obtain⟨_,q⟩:=x a _ r;exact q
def uK:Option HO->Prop
 |some (.lst _)=>True
 |some (.dK _)=>True
 |some (.dT _)=>True
 |some (.set _ _)=>True
 |some (.ins _ _ _)=>True
 |some (.ext _)=>True
 |_=>False
section
variable{P:Program}{w:World}{H:Hp}{h h':Heap}{x e:Addr}{o':HO}
theorem fN.write(ok:fN P w H h)(mu:uK (H x))(he:e=x\/H e=some (.own x))(k:∀b u,b≠e->h.get? b=some u->h'.get? b=some u)(nk:∃u,h'.get? e=some u)(new:m8 P w (upd H x o') h' x o'):fN P w (upd H x o') h':=λb u q=>by
 have rF:∀c y,H c=some (.own y)->c≠x:=λc y r z=>by subst z;rw[r] at mu;exact mu
 have xG:∀c xs,H c=some (.tup xs)->c≠x:=λc xs r z=>by subst z;rw[r] at mu;exact mu
 by_cases hb:b=x
 ·subst hb;rw[u3] at q;cases q;exact new
 ·rw[d8 hb] at q;by_cases oJ:b=e
  ·have q':H b=some (.own x):=by
    rcases he with z|z
    ·exact absurd (oJ.trans z) hb
    ·rw[oJ];exact z
   rw[q] at q';cases q';obtain⟨v,hv⟩:=nk;exact⟨v,by rw[oJ];exact hv⟩
  ·refine(ok b u q).V5 (λc v hc r=>k c v ?_ r) (λc r=>by rw[d8 (rF c b r)];exact r) λc xs r=>by rw[d8 (xG c xs r)];exact r
   rcases hc with rfl|hc
   ·exact oJ
   ·rintro rfl;rcases he with z|z
    ·exact rF c b hc z
    ·rw[hc] at z;cases z;exact hb rfl
end
structure Un(fs ex:List Addr)(H H':Hp)(h h':Heap):Prop where
 keep:∀b o,h.get? b=some o->H b=none->b∉fs->b∉ex->h'.get? b=some o
 slot:∀b o,h.get? b=some o->H b=none->b∈fs->b∉ex->∃sl,h'.get? b=some { o with slots:=sl }
 free:∀b o,h.get? b=some o->H b=none->b∉ex->H' b=none
 there:∀b o,h.get? b=some o->b∉ex->∃o',h'.get? b=some o'
 gH:∀b xs,H b=some (.tup xs)->H' b=some (.tup xs)
 gy:∀b o u,H b=some (.iQ o u)->H' b=some (.iQ o u)
 gI:∀b ps,H b=some (.kh ps)->∃more,H' b=some (.kh (ps++more))
section
variable{fs oZ ex ex':List Addr}{H H1 H2:Hp}{h h1 h2 h':Heap}{a x e:Addr}{o:HO}
theorem Un.any(u:Un fs ex H H1 h h1){b:Addr}{ob:Obj}(q:h.get? b=some ob)(n:H b=none)(hx:b∉ex):∃sl,h1.get? b=some { ob with slots:=sl }:=by
 by_cases hb:b∈fs
 ·exact u.slot b ob q n hb hx
 ·exact⟨ob.slots,u.keep b ob q n hb hx⟩
theorem Un.kept(k:∀b u,h.get? b=some u->h'.get? b=some u):Un fs ex H H h h' :=
 ⟨λb ob q _ _ _=>k b ob q,λb ob q _ _ _=>⟨ob.slots,k b ob q⟩,λ_ _ _ n _=>n,λb ob q _=>⟨ob,k b ob q⟩,λ_ _ q=>q,λ_ _ _ q=>q,λ_ ps q=>⟨#[],by rw[q];simp⟩⟩
theorem Un.refl:Un fs ex H H h h:=Un.kept λ_ _ q=>q
theorem Un.laid(k:∀b u,h.get? b=some u->h'.get? b=some u)(hp:h.objs.size<=a)(hn:H a=none):Un fs ex H (upd H a o) h h' where
 keep:=λb u q _ _ _=>k b u q
 slot:=λb u q _ _ _=>⟨u.slots,k b u q⟩
 free:=λb u q n _=>by rw[d8 (aR (aB (aD q) hp))];exact n
 there:=λb u q _=>⟨u,k b u q⟩
 gH:=λb xs q=>by rw[d8 (l9 q hn)];exact q
 gy:=λb u xs q=>by rw[d8 (l9 q hn)];exact q
 gI:=λb ps q=>⟨#[],by rw[d8 (l9 q hn),q];simp⟩
theorem Un.write(mu:uK (H x))(he:e=x\/H e=some (.own x))(k:∀b u,b≠e->h.get? b=some u->h'.get? b=some u)(nk:∃u,h'.get? e=some u):Un fs ex H (upd H x o) h h':=by
 have hx:∀b,H b=none->b≠x:=λb n z=>by subst z;rw[n] at mu;exact mu
 have hb:∀b,H b=none->b≠e:=λb n z=>by
  subst z;rcases he with r|r
  ·exact hx b n r
  ·rw[n] at r;cases r
 have hm:∀b u,H b=some u->¬uK (some u)->b≠x:=λb u q nm z=>by subst z;rw[q] at mu;exact nm mu
 refine ⟨λb u q n _ _=>k b u (hb b n) q,λb u q n _ _=>⟨u.slots,k b u (hb b n) q⟩,λb u q n _=>by rw [d8 (hx b n)];exact n,λb u q _=>?_,
  λb xs q=>by rw [d8 (hm b _ q λz=>z)];exact q,λb u xs q=>by rw [d8 (hm b _ q λz=>z)];exact q,λb ps q=>⟨#[],by rw [d8 (hm b _ q λz=>z),q];simp⟩⟩
 by_cases oJ:b=e
 ·subst oJ;exact nk
 ·exact⟨u,k b u oJ q⟩
end
def lQ(h:Heap)(H:Hp):List Addr:=(List.range h.objs.size).filter λa=>(H a).isSome
def mH(h:Heap)(H:Hp):Heap:=PySem.W.hideAll h (lQ h H)
theorem ZY(h:Heap)(H:Hp):(mH h H).objs.size=h.objs.size:=PySem.W.hideAll_size _ _
theorem QX{h:Heap}{H:Hp}{b:Addr}{o:Obj}(e:h.get? b=some o)(n:H b=none):(mH h H).get? b=some o :=
 PySem.W.hideAll_get _ e λhm=>by
  have q:(H b).isSome=true:=(bh.mp hm).2;rw[n] at q;simp at q
theorem Pm{h:Heap}{H:Hp}{b:Addr}{o:Obj}(e:(mH h H).get? b=some o):h.get? b=some o/\H b=none:=by
 have e':h.get? b=some o:=PySem.W.of_hideAll (lQ h H) e;refine⟨e',?_⟩;cases q:H b with
 |none=>rfl
 |some x =>
  have hm:b∈lQ h H:=bh.mpr ⟨aM.mpr (aD e'),by simp[q]⟩;have z:(mH h H).get? b=none:=PySem.W.hideAll_none (lQ h H) hm;rw[z] at e;cases e
structure Mod(K:PySem.W.Frag)(mg:Str->Option Value)(base:Heap):Prop where
 lF:K.In base
 glob:base.Ns mainGlobals mg
 blt:∃mb,base.Ns builtinsNs mb/\∀x:Str,x≠"__name__"->mb x=bootBuiltins x
 nolimit:base.NoLimit
structure Cx where
 prog:Program
 w:World
 K:PySem.W.Frag
 mg:Str->Option Value
 base:Heap
 A:Around
 N:List Str
 df:Shared
 ir:Hp
 env:Env
 outer:List Env
 stack:List Env
 ex:List Addr
 fn:Str->Bool
 calm:Bool
 pn:List (Addr×Obj)
 xe:Value->Shared->Prop
def fH(l:List Env):List Addr:=l.filterMap (·.frame)
noncomputable abbrev Cx.fs(X:Cx):List Addr:=fH X.outer
def uG(sc:Scope)(x:Str):Prop:=sc.names.lookup x=some .local\/sc.names.lookup x=some .cell\/sc.names.lookup x=some .free
def Loc(sc:Scope)(x:Str):Prop:=sc.names.lookup x=some .local\/sc.names.lookup x=some .cell
def Look(env:Env)(h:Heap)(m:Str->Option Value)(x:Str)(u:Value):Prop :=
 (env.kindOf x=some .local/\m x=some u)\/((env.kindOf x=some .cell\/env.kindOf x=some .free)/\∃c,env.cells.lookup x=some c/\h.IsCell c (some u))
structure Cx.Ok(X:Cx):Prop where
 mod:Mod X.K X.mg X.base
 kind:X.env.scope.kind=.function
 glob:X.env.globals=mainGlobals
 blt:X.env.builtins=builtinsNs
 above:X.df.heap.objs.size<=X.env.locals
 inj:∀x y c,X.env.cells.lookup x=some c->X.env.cells.lookup y=some c->x=y
 has:∀x,(X.env.kindOf x=some .cell\/X.env.kindOf x=some .free)->∃c,X.env.cells.lookup x=some c
 nF:∀x c,X.fn x=true->X.env.cells.lookup x=some c->X.df.heap.objs.size<=c
 hd:X.calm=true->X.A.handled=none
 frames:X.A.frames=some X.stack
 nS:X.stack=X.outer\/(X.stack=X.env::X.outer/\X.env.frame=some X.env.locals)
 tL:∀b∈X.ex,b≠X.env.locals/\∀x c,X.env.cells.lookup x=some c->c≠b
 bs:∀b o,X.base.get? b=some o->X.df.heap.get? b=some o/\X.ir b=none
 lr:X.base.objs.size<=X.df.heap.objs.size
 ja:∀b o,X.base.get? b=some o->b∉X.ex
 jF:∀b∈X.ex,b∉X.fs
 K4:X.df.heap.FunFrames X.base X.outer
 lK:∀b∈X.fs,X.ir b=none
structure Inv(X:Cx)(pins:List (Addr×Obj))(Z:List (Option V))(H:Hp)(s:Shared):Prop where
 ok:X.Ok
 os:s.os=X.df.os
 bare:AllBare s.gens
 base:Un X.fs X.ex X.ir H X.df.heap s.heap
 loc:∃m,s.heap.Ns X.env.locals m/\∀(i:Nat) (x:Str) (v:V),X.N[i]?=some x->Z[i]?=some (some v)->uG X.env.scope x->∃u,RelV v u/\Look X.env s.heap m x u
 cell:∀x c,X.env.cells.lookup x=some c->∃v,s.heap.IsCell c v
 free:H X.env.locals=none
 eJ:∀x c,X.env.cells.lookup x=some c->H c=none
 pin:∀p∈X.pn++pins,s.heap.get? p.1=some p.2/\H p.1=none/\p.1≠X.env.locals/\p.1∉X.fs/\∀v,p.2.data≠.cell v
 bR:fN X.prog X.w H s.heap
 len:Z.length=X.N.length
section
variable{X:Cx}{pins:List (Addr×Obj)}{Z:List (Option V)}{H H':Hp}{s:Shared}{h':Heap}
theorem Cx.Ok.RS(ok:X.Ok){b:Addr}{o:Obj}(e:X.base.get? b=some o):b∉X.fs:=λhb=>by
 have:=(ok.K4.mem hb).1;rw[e] at this;cases this
theorem Inv.bs(I:Inv X pins Z H s):∀b o,X.base.get? b=some o->s.heap.get? b=some o/\H b=none:=λb o e =>
 ⟨I.base.keep b o (I.ok.bs b o e).1 (I.ok.bs b o e).2 (I.ok.RS e) (I.ok.ja b o e),I.base.free b o (I.ok.bs b o e).1 (I.ok.bs b o e).2 (I.ok.ja b o e)⟩
theorem Inv.bk(I:Inv X pins Z H s):∀b o,X.base.get? b=some o->s.heap.get? b=some o:=λb o e=>(I.bs b o e).1
theorem Inv.mod(I:Inv X pins Z H s):Mod X.K X.mg X.base:=I.ok.mod
theorem Inv.fV(I:Inv X pins Z H s):X.K.In s.heap:=I.ok.mod.lF.keeps I.bk
theorem Inv.lt(I:Inv X pins Z H s):X.env.locals<s.heap.objs.size:=let ⟨_,hn,_⟩:=I.loc;hn.lt
theorem Inv.sz(I:Inv X pins Z H s):X.df.heap.objs.size<=s.heap.objs.size:=aG I.ok.above (et I.lt)
theorem Inv.uC(I:Inv X pins Z H s){a:Addr}(h:s.heap.objs.size<=a):a∉X.fs:=λhb=>by
 obtain⟨_,o,ho,_⟩:=I.ok.K4.mem hb;exact absurd (aB (aD ho) (aG I.sz h)) (bt _)
theorem Inv.pA(I:Inv X pins Z H s):∀x c,X.env.cells.lookup x=some c->c≠X.env.locals:=λx c e z=>by
 obtain⟨v,o,ho,hd⟩:=I.cell x c e;obtain⟨m,⟨o',es,ep,kL,yA,_⟩,_⟩:=I.loc;rw[z,kL] at ho;cases ho;rw[yA] at hd;cases hd
theorem Inv.K4(I:Inv X pins Z H s):s.heap.FunFrames X.base X.outer:=by
 have all:∀(l:List Env),(∀b∈fH l,b∈X.fs)->X.df.heap.FunFrames X.base l->s.heap.FunFrames X.base l:=by
  intro l
  induction l with
  |nil=>intro _ _;trivial
  |cons env r ih =>
   intro hs hl;obtain⟨hk,⟨L,o,hf,hn,ho,hd⟩,hr⟩:=hl;have hL:L∈X.fs:=hs L (by unfold fH;rw[eG,hf];exact List.mem_cons_self);obtain⟨sl,e⟩:=I.base.slot L o ho (I.ok.lK L hL) hL λz=>I.ok.jF L z hL;exact⟨hk,⟨L,_,hf,hn,e,hd⟩,ih (λb hb=>hs b (by unfold fH;rw[eG,hf];exact bw _ hb)) hr⟩
 exact all X.outer (λ_ hb=>hb) I.ok.K4
theorem Inv.stack(I:Inv X pins Z H s):s.heap.FunFrames X.base X.stack:=by
 rcases I.ok.nS with e|⟨e,hf⟩
 ·rw[e];exact I.K4
 ·rw[e];obtain⟨m,hn,_⟩:=I.loc;refine .cons (by rw[I.ok.kind];decide) hf hn ?_ I.K4;exact Heap.get?_none_of_le (aG I.ok.lr I.ok.above)
theorem Inv.L5(I:Inv X pins Z H s):∀b∈fH X.stack,b∈X.env.locals::X.fs:=λb hb=>by
 rcases I.ok.nS with e|⟨e,hf⟩
 ·rw[e] at hb;exact bw _ hb
 ·rw[e] at hb;unfold fH at hb;rw[eG,hf] at hb;exact hb
theorem Inv.wJ(I:Inv X pins Z H s):∀b∈fH X.stack,H b=none:=λb hb=>by
 rcases aL.mp (I.L5 b hb) with e|hb
 ·rw[e];exact I.free
 ·obtain⟨_,o,ho,_⟩:=I.ok.K4.mem hb;exact I.base.free b o ho (I.ok.lK b hb) λz=>I.ok.jF b z hb
theorem Inv.step{g':Array GenState}{t':Nat}{d':Drawn}{ch:List Addr}(I:Inv X pins Z H s)(jJ:∀b∈ch,(b∈X.ex\/X.df.heap.objs.size<=b)/\b≠X.env.locals/\(∀x c,X.env.cells.lookup x=some c->c≠b)/\∀p∈X.pn++pins,p.1≠b)(keep:∀b o,b≠X.env.locals->b∉X.fs->b∉ch->s.heap.get? b=some o->H b=none->h'.get? b=some o)(slot:∀b o,b≠X.env.locals->b∈X.fs->b∉ch->s.heap.get? b=some o->H b=none->∃sl,h'.get? b=some { o with slots:=sl })(free:∀b o,b∉ch->s.heap.get? b=some o->H b=none->H' b=none)(there:∀b o,b∉ch->s.heap.get? b=some o->∃o',h'.get? b=some o')(gH:∀b xs,H b=some (.tup xs)->H' b=some (.tup xs))(gy:∀b o u,H b=some (.iQ o u)->H' b=some (.iQ o u))(gI:∀b ps,H b=some (.kh ps)->∃more,H' b=some (.kh (ps++more)))(ns:∀m,s.heap.Ns X.env.locals m->h'.Ns X.env.locals m)(bR:fN X.prog X.w H' h')(hg:AllBare g') :
  Inv X pins Z H' { s with heap:=h',gens:=g',drawn:=d',toks:=t' }:=by
 have CL:∀b o,X.df.heap.get? b=some o->b≠X.env.locals:=λb o e=>aR (aB (aD e) I.ok.above);have mU:∀b o,X.df.heap.get? b=some o->b∉X.ex->b∉ch:=λb o e hx hb=>by
  rcases(jJ b hb).1 with z|z
  ·exact hx z
  ·exact absurd (aB (aD e) z) (bt _)
 have cellK:∀x c,X.env.cells.lookup x=some c->∀v,s.heap.IsCell c v->h'.IsCell c v:=λx c e v bq=>by
  obtain⟨o,ho,hd⟩:=bq;have rK:c∉ch:=λz=>(jJ c z).2.2.1 x c e rfl;by_cases hc:c∈X.fs
  ·obtain⟨sl,q⟩:=slot c o (I.pA x c e) hc rK ho (I.eJ x c e);exact⟨_,q,hd⟩
  ·exact⟨o,keep c o (I.pA x c e) hc rK ho (I.eJ x c e),hd⟩
 refine⟨I.ok,I.os,hg,⟨λb o e n hb hx=>?_,λb o e n hb hx=>?_,λb o e n hx=>?_,λb o e hx=>?_,λb xs e=>gH b xs (I.base.gH b xs e),λb o xs e=>gy b o xs (I.base.gy b o xs e),λb ps e=>?_⟩,?_,λx c e=>?_,?_,λx c e=>?_,λp hp=>?_,bR,I.len⟩
 ·exact keep b o (CL b o e) hb (mU b o e hx) (I.base.keep b o e n hb hx) (I.base.free b o e n hx)
 ·obtain⟨sl,e1⟩:=I.base.slot b o e n hb hx;obtain⟨Jl,e2⟩:=slot b _ (CL b o e) hb (mU b o e hx) e1 (I.base.free b o e n hx);exact⟨Jl,e2⟩
 ·obtain⟨o',e1⟩:=I.base.there b o e hx;exact free b o' (mU b o e hx) e1 (I.base.free b o e n hx)
 ·obtain⟨o',e1⟩:=I.base.there b o e hx;exact there b o' (mU b o e hx) e1
 ·obtain⟨m1,e1⟩:=I.base.gI b ps e;obtain⟨m2,e2⟩:=gI b _ e1;exact⟨m1++m2,by rw[e2,Array.append_assoc]⟩
 ·obtain⟨m,hn,hl⟩:=I.loc;refine⟨m,ns m hn,λi x v e1 e2 e3=>?_⟩;obtain⟨u,r,l⟩:=hl i x v e1 e2 e3;refine⟨u,r,?_⟩;rcases l with l|⟨k,c,e,z⟩
  ·exact .inl l
  ·exact .inr ⟨k,c,e,cellK x c e _ z⟩
 ·obtain⟨v,z⟩:=I.cell x c e;exact⟨v,cellK x c e v z⟩
 ·obtain⟨m,⟨o,_,_,ho,_⟩,_⟩:=I.loc;exact free _ o (λz=>(jJ _ z).2.1 rfl) ho I.free
 ·obtain⟨v,o,ho,hd⟩:=I.cell x c e;exact free c o (λz=>(jJ c z).2.2.1 x c e rfl) ho (I.eJ x c e)
 ·obtain⟨e,n,ne,nf,d⟩:=I.pin p hp;have rK:p.1∉ch:=λz=>(jJ p.1 z).2.2.2 p hp rfl;exact⟨keep p.1 p.2 ne nf rK e n,free p.1 p.2 rK e n,ne,nf,d⟩
theorem Inv.un{t':Nat}(I:Inv X pins Z H s)(u:Un X.fs [] H H' s.heap h')(bR:fN X.prog X.w H' h'):Inv X pins Z H' { s with heap:=h',toks:=t' }:=by
 obtain⟨m,⟨o,es,ep,ho,r⟩,_⟩:=id I.loc;obtain⟨sl,hL⟩:=u.any ho I.free (by simp);exact I.step (g':=s.gens) (d':=s.drawn) (ch:=[]) (λ_ z=>nomatch z) (λb o _ hb _ e n=>u.keep b o e n hb (by simp)) (λb o _ hb _ e n=>u.slot b o e n hb (by simp)) (λb o _ e n=>u.free b o e n (by simp)) (λb o _ e=>u.there b o e (by simp)) u.gH u.gy u.gI (λm' hm=>by
  obtain⟨o',zt,zu,kL,r'⟩:=hm;rw[ho] at kL;cases kL;exact ⟨_,zt,zu,hL,r'⟩) bR I.bare
theorem Inv.call{g':Array GenState}{t':Nat}{d':Drawn}{ch:List Addr}(I:Inv X pins Z H s)(u:Un (fH X.stack) ch H H' s.heap h')(bR:fN X.prog X.w H' h')(hg:AllBare g')(jJ:∀b∈ch,(b∈X.ex\/X.df.heap.objs.size<=b)/\b≠X.env.locals/\(∀x c,X.env.cells.lookup x=some c->c≠b)/\∀p∈X.pn++pins,p.1≠b) :
  Inv X pins Z H' { s with heap:=h',gens:=g',drawn:=d',toks:=t' }:=by
 obtain⟨m,⟨o,es,ep,ho,r⟩,_⟩:=id I.loc;obtain⟨sl,hL⟩:=u.any ho I.free λz=>(jJ _ z).2.1 rfl;exact I.step (ch:=ch) jJ (λb o hL hb hc e n=>u.keep b o e n (λz=>(aL.mp (I.L5 b z)).elim hL hb) hc) (λb o _ _ hc e n=>u.any e n hc) (λb o hc e n=>u.free b o e n hc) (λb o hc e=>u.there b o e hc) u.gH u.gy u.gI (λm' hm=>by
  obtain⟨o',zt,zu,kL,r'⟩:=hm;rw[ho] at kL;cases kL;exact ⟨_,zt,zu,hL,r'⟩) bR hg
theorem Inv.turned{t':Nat}{it:Addr}(I:Inv X pins Z H s)(k:∀b o,b≠it->s.heap.get? b=some o->h'.get? b=some o)(hn:H it=none)(hL:it≠X.env.locals)(h1:it∈X.ex\/X.df.heap.objs.size<=it)(h2:∀x c,X.env.cells.lookup x=some c->c≠it)(h3:∀p∈X.pn++pins,p.1≠it):Inv X pins Z H { s with heap:=h',toks:=t' }:=by
 have CK:∀b u,H b=some u->b≠it:=λb u e z=>by rw[z,hn] at e;cases e
 refine I.step (g':=s.gens) (d':=s.drawn) (ch:=[it]) (λb hb=>?_) (λb o _ _ hc e _=>k b o (λz=>hc (by simp[z])) e) (λb o _ _ hc e _=>⟨o.slots,k b o (λz=>hc (by simp[z])) e⟩) (λ_ _ _ _ n=>n)
  (λb o hc e=>⟨o,k b o (λz=>hc (by simp[z])) e⟩) (λ_ _ e=>e) (λ_ _ _ e=>e) (λb ps e=>⟨#[],by rw[e];simp⟩) (λm hm=>?_) (λb u e=>?_) I.bare
 ·have e:b=it:=by simpa using hb
  subst e;exact⟨h1,hL,h2,h3⟩
 ·obtain⟨o,es,ep,ho,r⟩:=hm;exact⟨o,es,ep,k _ o (bP hL) ho,r⟩
 ·refine(I.bR b u e).V5 (λc v hc q=>k c v ?_ q) (λ_ q=>q) λ_ _ q=>q;rcases hc with z|z
  ·rw[z];exact CK b u e
  ·exact CK c _ z
theorem Inv.tok(I:Inv X pins Z H s)(t:Nat):Inv X pins Z H { s with toks:=t }:=I.un (h':=s.heap) (t':=t) Un.refl I.bR
theorem Inv.kept{t':Nat}(I:Inv X pins Z H s)(k:∀b u,s.heap.get? b=some u->h'.get? b=some u):Inv X pins Z H { s with heap:=h',toks:=t' }:=I.un (Un.kept k) (I.bR.kept k)
theorem Inv.laid{a:Addr}{o:HO}{t':Nat}(I:Inv X pins Z H s)(k:∀b u,s.heap.get? b=some u->h'.get? b=some u)(hp:s.heap.objs.size<=a)(new:m8 X.prog X.w (upd H a o) h' a o) :
  Inv X pins Z (upd H a o) { s with heap:=h',toks:=t' }:=I.un (Un.laid k hp (I.bR.fresh hp)) (I.bR.laid k hp new)
theorem Inv.write{x e:Addr}{o:HO}{t':Nat}(I:Inv X pins Z H s)(mu:uK (H x))(he:e=x\/H e=some (.own x))(k:∀b u,b≠e->s.heap.get? b=some u->h'.get? b=some u)(nk:∃u,h'.get? e=some u)(new:m8 X.prog X.w (upd H x o) h' x o):Inv X pins Z (upd H x o) { s with heap:=h',toks:=t' }:=I.un (Un.write mu he k nk) (I.bR.write mu he k nk new)
theorem Inv.weak{bU:List (Option V)}(I:Inv X pins Z H s)(hl:bU.length=Z.length)(w:∀(i:Nat) v,bU[i]?=some (some v)->Z[i]?=some (some v)):Inv X pins bU H s :=
 ⟨I.ok,I.os,I.bare,I.base,let ⟨m,hn,qf⟩:=I.loc;⟨m,hn,λi x v e1 e2 e3=>qf i x v e1 (w i v e2) e3⟩,I.cell,I.free,I.eJ,I.pin,I.bR,hl.trans I.len⟩
theorem Inv.K9{gS:List (Addr×Obj)}(I:Inv X pins Z H s)(h:∀p∈gS,s.heap.get? p.1=some p.2/\H p.1=none/\p.1≠X.env.locals/\p.1∉X.fs/\∀v,p.2.data≠.cell v):Inv X gS Z H s :=
 ⟨I.ok,I.os,I.bare,I.base,I.loc,I.cell,I.free,I.eJ,λp hp=>(bc.mp hp).elim (λz=>I.pin p (cZ _ z)) (h p),I.bR,I.len⟩
theorem Ia{N:List Str}(hN:N.Nodup){i j:Nat}{x:Str}(a:N[i]?=some x)(b:N[j]?=some x):i=j:=by
 obtain⟨h1,e1⟩:=ak.mp a;obtain⟨h2,e2⟩:=ak.mp b;exact(List.getElem_inj hN).mp (e1.trans e2.symm)
theorem FJ{M:Model}{A:Around}{E:Value->Shared->Prop}{i:Nat}{x:Str}{v:V}{u:Value}{Q:Unit->Shared->Prop}(I:Inv X pins Z H s)(hN:X.N.Nodup)(hi:X.N[i]?=some x)(hx:Loc X.env.scope x)(r:RelV v u)(h:∀s',Inv X pins (Z.set i (some v)) H s'->(∃a,Heap.SameBut a s.heap s'.heap/\(a=X.env.locals\/X.env.cells.lookup x=some a))->Q () s')(hf:X.fn x=true\/X.env.scope.names.lookup x=some .local:=by first|exact .inl rfl|exact .inr rfl|assumption):wpAny M A (storeName X.env x u) Q E s:=by
 obtain⟨m,hn,hl⟩:=id I.loc;have mh:(X.env.scope.kind==.class||(X.env.scope.kind==.module&&X.env.locals != X.env.globals))=false:=by rw[I.ok.kind];rfl
 have sH:i<Z.length:=by rw[I.len];exact(ak.mp hi).1
 have pA:=I.pA;have tracked:∀{a:Addr} {h':Heap},(∃o,s.heap.get? a=some o/\H a=none)->Heap.SameBut a s.heap h'->fN X.prog X.w H h':=λ{a h'} ha hs b ob e=>by
  obtain⟨_,_,kS⟩:=ha;refine(I.bR b ob e).V5 (λc w' hc q=>(hs.2 c ?_).trans q) (λ_ q=>q) λ_ _ q=>q;rintro rfl;rcases hc with rfl|hc
  ·rw[kS] at e;cases e
  ·rw[kS] at hc;cases hc
 rcases hx with hk|hk
 ·refine wpAny_storeName_local hk hn (λh' Kc hs=>?_) mh;obtain⟨oL,_,_,sy,_⟩:=id hn;refine h _ ⟨I.ok,I.os,I.bare,⟨λb o e n hb hx=>?_,λb o e n hb hx=>?_,I.base.free,λb o e hx=>?_,I.base.gH,I.base.gy,I.base.gI⟩,⟨_,Kc,λj y v' e1 e2 e3=>?_⟩,λy c e=>?_,I.free,I.eJ,λp hp=>?_,tracked ⟨oL,sy,I.free⟩ hs,by simpa using I.len⟩ ⟨_,hs,.inl rfl⟩
  ·exact(hs.2 b (aR (aB (aD e) I.ok.above))).trans (I.base.keep b o e n hb hx)
  ·obtain⟨sl,e1⟩:=I.base.slot b o e n hb hx;exact⟨sl,(hs.2 b (aR (aB (aD e) I.ok.above))).trans e1⟩
  ·obtain⟨o',e1⟩:=I.base.there b o e hx;exact⟨o',(hs.2 b (aR (aB (aD e) I.ok.above))).trans e1⟩
  ·by_cases hj:j=i
   ·subst hj;rw[hi] at e1;cases e1;rw[aY sH] at e2;cases e2;exact⟨u,r,.inl ⟨hk,by simp⟩⟩
   ·rw[aA (bP hj)] at e2;obtain⟨u',r',q⟩:=hl j y v' e1 e2 e3;refine⟨u',r',?_⟩;rcases q with⟨k,e⟩|⟨k,c,e,z⟩
    ·refine .inl ⟨k,?_⟩;have:y≠x:=λe=>hj (Ia hN e1 (e▸hi));simp[this,e]
    ·exact .inr ⟨k,c,e,z.sameBut hs (pA y c e)⟩
  ·obtain⟨w',z⟩:=I.cell y c e;exact⟨w',z.sameBut hs (pA y c e)⟩
  ·obtain⟨e,n,ne,nf,d⟩:=I.pin p hp;exact⟨(hs.2 p.1 ne).trans e,n,ne,nf,d⟩
 ·have qh:X.fn x=true:=by
   rcases hf with z|z
   ·exact z
   ·rw[z] at hk;cases hk
  obtain⟨c,hc⟩:=I.ok.has x (.inl hk);obtain⟨w',z⟩:=I.cell x c hc;refine wpAny_storeName_cell I.ok.kind hk hc z (λh' hV hs=>?_);obtain⟨oc,yf,ye⟩:=id z;refine h { s with heap:=h' } ⟨I.ok,I.os,I.bare,⟨λb o e n hb hx=>?_,λb o e n hb hx=>?_,I.base.free,λb o e hx=>?_,I.base.gH,I.base.gy,I.base.gI⟩,⟨m,hn.sameBut hs (bP (pA x c hc)),λj y v' e1 e2 e3=>?_⟩,λy c' e=>?_,I.free,I.eJ,λp hp=>?_,tracked ⟨oc,yf,I.eJ x c hc⟩ hs,by simpa using I.len⟩ ⟨c,hs,.inr hc⟩
  ·exact(hs.2 b (aR (aB (aD e) (I.ok.nF x c qh hc)))).trans (I.base.keep b o e n hb hx)
  ·obtain⟨sl,e1⟩:=I.base.slot b o e n hb hx;exact⟨sl,(hs.2 b (aR (aB (aD e) (I.ok.nF x c qh hc)))).trans e1⟩
  ·obtain⟨o',e1⟩:=I.base.there b o e hx;exact⟨o',(hs.2 b (aR (aB (aD e) (I.ok.nF x c qh hc)))).trans e1⟩
  ·by_cases hj:j=i
   ·subst hj;rw[hi] at e1;cases e1;rw[aY sH] at e2;cases e2;exact⟨u,r,.inr ⟨.inl hk,c,hc,hV⟩⟩
   ·rw[aA (bP hj)] at e2;obtain⟨u',r',q⟩:=hl j y v' e1 e2 e3;refine⟨u',r',?_⟩;rcases q with q|⟨k,c',e,z'⟩
    ·exact .inl q
    ·refine .inr ⟨k,c',e,z'.sameBut hs ?_⟩;rintro rfl;exact hj (Ia hN e1 (I.ok.inj _ _ _ e hc▸hi))
  ·by_cases qi:c'=c
   ·subst qi;exact⟨_,hV⟩
   ·obtain⟨w2,z2⟩:=I.cell y c' e;exact⟨w2,z2.sameBut hs qi⟩
  ·obtain⟨e,n,ne,nf,d⟩:=I.pin p hp;refine⟨(hs.2 p.1 ?_).trans e,n,ne,nf,d⟩;intro q;rw[q,yf] at e;have q':oc=p.2:=aQ e;exact d w' (by rw[<- q'];exact ye)
theorem S4{M:Model}{A:Around}{E:Value->Shared->Prop}{i:Nat}{x:Str}{v:V}{u:Value}{Q:Unit->Shared->Prop}(I:Inv X pins Z H s)(hN:X.N.Nodup)(hi:X.N[i]?=some x)(hx:Loc X.env.scope x)(r:RelV v u)(h:∀s',Inv X pins (Z.set i (some v)) H s'->Q () s')(hf:X.fn x=true\/X.env.scope.names.lookup x=some .local:=by first|exact .inl rfl|exact .inr rfl|assumption):wpAny M A (storeName X.env x u) Q E s :=
 FJ I hN hi hx r (λs' I' _=>h s' I') hf
theorem Inv.Bc{s':Shared}{ch:List Addr}(I:Inv X pins Z H s)(ho:s'.os=s.os)(u:Un (fH X.stack) ch H H' s.heap s'.heap)(bR:fN X.prog X.w H' s'.heap)(hg:AllBare s'.gens)(jJ:∀b∈ch,(b∈X.ex\/X.df.heap.objs.size<=b)/\b≠X.env.locals/\(∀x c,X.env.cells.lookup x=some c->c≠b)/\∀p∈X.pn++pins,p.1≠b):Inv X pins Z H' s':=by
 obtain⟨h',g',d',t',o'⟩:=s';have e:o'=s.os:=ho;subst e;exact I.call (g':=g') (t':=t') (d':=d') u bR hg jJ
end
noncomputable abbrev XK:=Value->Option Addr->Hp->Prop
noncomputable abbrev St:=List (Option V)
noncomputable abbrev VK:=V->Hp->Prop
noncomputable abbrev TE:=St->Hp->VK->Prop
noncomputable abbrev TT:=St->Hp->(Bool->Hp->Prop)->Prop
noncomputable abbrev TA:=St->Hp->(List V->Hp->Prop)->Prop
structure Ends where
 nx:St->Hp->Prop
 rt:VK
 bk:St->Hp->Prop:=λ_ _=>False
 ct:St->Hp->Prop:=λ_ _=>False
noncomputable abbrev TS:=Ends->St->Hp->Prop
def EP(X:Cx)(pins:List (Addr×Obj))(Z:St)(Q:VK)(u:Value)(s':Shared):Prop:=∃v H',Inv X pins Z H' s'/\RelV v u/\Q v H'
def TP(X:Cx)(pins:List (Addr×Obj))(Z:St)(Q:Bool->Hp->Prop)(b:Bool)(s':Shared):Prop:=∃H',Inv X pins Z H' s'/\Q b H'
def AP(X:Cx)(pins:List (Addr×Obj))(Z:St)(Q:List V->Hp->Prop)(us:List Value)(s':Shared):Prop:=∃vs H',Inv X pins Z H' s'/\Vals vs us/\Q vs H'
def SP(X:Cx)(pins:List (Addr×Obj))(D:Ends)(f:Flow)(s':Shared):Prop :=
 match f with
 |.next=>∃bU H',Inv X pins bU H' s'/\D.nx bU H'
 |.brk=>∃bU H',Inv X pins bU H' s'/\D.bk bU H'
 |.cont=>∃bU H',Inv X pins bU H' s'/\D.ct bU H'
 |.ret u=>∃v bU H',Inv X pins bU H' s'/\RelV v u/\D.rt v H'
def PE(X:Cx)(e:Expr)(t:TE):Prop :=
 ∀(pins:List (Addr×Obj)) (s:Shared) (Z:St) (H:Hp) (Q:VK),Inv X pins Z H s->t Z H Q->wpAny (model X.prog X.w) X.A (eval e X.env) (EP X pins Z Q) X.xe s
def PT(X:Cx)(e:Expr)(t:TT):Prop :=
 ∀(pins:List (Addr×Obj)) (s:Shared) (Z:St) (H:Hp) (Q:Bool->Hp->Prop),Inv X pins Z H s->t Z H Q->wpAny (model X.prog X.w) X.A (isTrue e X.env (eval e X.env)) (TP X pins Z Q) X.xe s
def PW(X:Cx)(e:Expr)(t:TT):Prop :=
 ∀(whole:Sem Value) (pins:List (Addr×Obj)) (s:Shared) (Z:St) (H:Hp) (Q:Bool->Hp->Prop),Inv X pins Z H s->t Z H Q->wpAny (model X.prog X.w) X.A (isTrue e X.env whole) (TP X pins Z Q) X.xe s
theorem PW.pt{X:Cx}{e:Expr}{t:TT}(h:PW X e t):PT X e t:=h _
def PA(X:Cx)(es:List Expr)(t:TA):Prop :=
 ∀(pos:Pos) (pins:List (Addr×Obj)) (s:Shared) (Z:St) (H:Hp) (Q:List V->Hp->Prop),Inv X pins Z H s->t Z H Q->wpAny (model X.prog X.w) X.A (spliced (backTo pos (starEach es X.env))) (AP X pins Z Q) X.xe s
def PS(X:Cx)(st:Stmt)(t:TS):Prop :=
 ∀(pins:List (Addr×Obj)) (s:Shared) (Z:St) (H:Hp) (D:Ends),Inv X pins Z H s->t D Z H->wpAny (model X.prog X.w) X.A (exec st X.env) (SP X pins D) X.xe s
def ic(X:Cx)(st:List Stmt)(t:TS):Prop :=
 ∀(pins:List (Addr×Obj)) (s:Shared) (Z:St) (H:Hp) (D:Ends),Inv X pins Z H s->t D Z H->wpAny (model X.prog X.w) X.A (execs st X.env) (SP X pins D) X.xe s
theorem cF{α:Type}{t:Sem α}{Q Q':α->Shared->Prop}{M:Model}{A:Around}{E:Value->Shared->Prop}{s:Shared}(h:wpAny M A t Q E s)(hQ:∀a s,Q a s->Q' a s):wpAny M A t Q' E s:=bA h hQ λ_ _ x=>x
section
variable{X:Cx}
def SF(i:Nat):TE:=λZ H Q=>∃v,Z[i]?=some (some v)/\Q v H
def tC(v:V):TE:=λ_ H Q=>Q v H
theorem Np{i:Nat}{x:Str}{pos:Pos}(hN:X.N[i]?=some x)(hv:uG X.env.scope x)(hd:(x==("__debug__":Str))=false:=by decide)(jW:(x==("__classdict__":Str))=false:=by decide):PE X (.Name x pos) (SF i):=by
 intro pins s Z H Q I h;obtain⟨v,e,h⟩:=h;obtain⟨m,hn,hl⟩:=I.loc;obtain⟨u,r,l⟩:=hl i x v hN e hv;have fin:EP X pins Z Q u s:=⟨v,H,I,r,h⟩
 rcases l with⟨hk,hm⟩|⟨hk,c,hc,jK⟩
 ·exact wpAny_Name (wpAny_loadName_local I.ok.kind hk hn hm fin) hd
 ·rcases hk with hk|hk
  ·exact wpAny_Name (wpAny_loadName_cell I.ok.kind hk hc jK fin) hd
  ·exact wpAny_Name (wpAny_loadName_free I.ok.kind hk hc jK fin jW) hd
theorem Ni{i j pos}:PE X (.Constant (.int i) j pos) (tC (.int i)):=λ_ _ _ H _ I h=>wpAny_Constant_int ⟨.int i,H,I.tok _,⟨_,rfl⟩,h⟩
theorem Uj{b j pos}:PE X (.Constant (.bool b) j pos) (tC (.bl b)):=λ_ _ _ H _ I h=>Constant_bool ⟨.bl b,H,I,rfl,h⟩
theorem Nk{j pos}:PE X (.Constant .none j pos) (tC .bx):=λ_ _ _ H _ I h=>Constant_none ⟨.bx,H,I,rfl,h⟩
theorem GQ{x j pos}:PE X (.Constant (.str x) j pos) (tC (.str x)):=λ_ _ _ H _ I h=>Calls.Constant_str ⟨.str x,H,I.tok _,⟨_,rfl⟩,h⟩
def Gl(X:Cx)(x:Str):Prop:=X.env.kindOf x=some .globalImplicit
theorem R7{E:Value->Shared->Prop}{pins:List (Addr×Obj)}{s:Shared}{Z:St}{H:Hp}{x:Str}{u:Value}{pos:Pos}{Q:Value->Shared->Prop}(I:Inv X pins Z H s)(hg:Gl X x)(hm:X.mg x=some u)(h:Q u s)(hd:(x==("__debug__":Str))=false:=by decide):wpAny (model X.prog X.w) X.A (eval (.Name x pos) X.env) Q E s :=
 Calls.Name_function_global I.ok.kind hg (Calls.loadGlobal_global (by rw[I.ok.glob];exact I.mod.glob.keeps I.bk) hm h) hd
theorem L8{E:Value->Shared->Prop}{pins:List (Addr×Obj)}{s:Shared}{Z:St}{H:Hp}{x:Str}{u:Value}{pos:Pos}{Q:Value->Shared->Prop}(I:Inv X pins Z H s)(hg:Gl X x)(hm:X.mg x=none)(hv:bootBuiltins x=some u)(h:Q u s)(hn:x≠"__name__":=by decide)(hd:(x==("__debug__":Str))=false:=by decide):wpAny (model X.prog X.w) X.A (eval (.Name x pos) X.env) Q E s:=by
 obtain⟨mb,h1,h2⟩:=I.mod.blt;exact Calls.Name_function_global I.ok.kind hg (Calls.loadGlobal_builtin (by rw[I.ok.glob];exact I.mod.glob.keeps I.bk) hm (by rw[I.ok.blt];exact h1.keeps I.bk) ((h2 x hn).trans hv) h) hd
theorem wH{x:Str}{v:V}{u:Value}{pos:Pos}(hg:Gl X x)(hm:X.mg x=some u)(r:RelV v u)(hd:(x==("__debug__":Str))=false:=by decide):PE X (.Name x pos) (tC v) :=
 λ_ _ _ H _ I h=>R7 I hg hm ⟨v,H,I,r,h⟩ hd
theorem Py{x:Str}{v:V}{u:Value}{pos:Pos}(hg:Gl X x)(hm:X.mg x=none)(hv:bootBuiltins x=some u)(r:RelV v u)(hn:x≠"__name__":=by decide)(hd:(x==("__debug__":Str))=false:=by decide):PE X (.Name x pos) (tC v) :=
 λ_ _ _ H _ I h=>L8 I hg hm hv ⟨v,H,I,r,h⟩ hn hd
variable{a b:Expr}{ta tb:TE}{pos:Pos}
variable{tA uR:TT}{rest:List Expr}
def So(t u:TT):TT:=λZ H Q=>t Z H λc H1=>if c=true then u Z H1 Q else Q false H1
def Je(t u:TT):TT:=λZ H Q=>t Z H λc H1=>if c=true then Q true H1 else u Z H1 Q
def Sx(t:TT):TT:=λZ H Q=>t Z H λc H1=>Q (!c) H1
theorem Qb(ha:PT X a tA):PW X (.BoolOp .And [a] pos) tA:=by
 intro wh pins s Z H Q I h;refine isTrue_and (cF (ha pins s Z H Q I h) λc s1 e=>?_);cases c with
 |true=>exact isTrue_and_nil e
 |false=>exact e
theorem ND(ha:PT X a tA):PW X (.BoolOp .Or [a] pos) tA:=by
 intro wh pins s Z H Q I h;refine isTrue_or (cF (ha pins s Z H Q I h) λc s1 e=>?_);cases c with
 |false=>exact isTrue_or_nil e
 |true=>exact e
theorem NC(ha:PT X a tA)(hb:PW X (.BoolOp .And (b::rest) pos) uR):PW X (.BoolOp .And (a::b::rest) pos) (So tA uR):=by
 intro wh pins s Z H Q I h;refine isTrue_and (cF (ha pins s Z H _ I h) λc s1 ⟨H1,I1,q1⟩=>?_);cases c with
 |true=>exact hb wh pins s1 Z H1 Q I1 q1
 |false=>exact⟨H1,I1,q1⟩
theorem Us(ha:PT X a tA)(hb:PW X (.BoolOp .Or (b::rest) pos) uR):PW X (.BoolOp .Or (a::b::rest) pos) (Je tA uR):=by
 intro wh pins s Z H Q I h;refine isTrue_or (cF (ha pins s Z H _ I h) λc s1 ⟨H1,I1,q1⟩=>?_);cases c with
 |true=>exact⟨H1,I1,q1⟩
 |false=>exact hb wh pins s1 Z H1 Q I1 q1
theorem NB(ha:PT X a tA):PT X (.UnaryOp .Not a pos) (Sx tA):=by
 intro pins s Z H Q I h;exact isTrue_not (ha pins s Z H (λc H1=>Q (!c) H1) I h)
def UI(ta tb:TE):TE:=λZ H Q=>ta Z H λx H1=>∃c,x=.bl c/\if c=true then tb Z H1 Q else Q (.bl false) H1
def Sy(ta tb:TE):TE:=λZ H Q=>ta Z H λx H1=>∃c,x=.bl c/\if c=true then Q (.bl true) H1 else tb Z H1 Q
def UN(ta:TE):TE:=λZ H Q=>ta Z H λx H1=>∃c,x=.bl c/\Q (.bl (!c)) H1
theorem Nm{op}{t:TE}(h:PE X a t):PE X (.BoolOp op [a] pos) t:=λpins s Z H Q I hw=>BoolOp_one (h pins s Z H Q I hw)
theorem Nf(ha:PE X a ta)(hb:PE X (.BoolOp .And (b::rest) pos) tb):PE X (.BoolOp .And (a::b::rest) pos) (UI ta tb):=by
 intro pins s Z H Q I h;refine BoolOp_and (cF (ha pins s Z H _ I h) λv s1 bq=>?_);obtain⟨x,H1,I1,r1,q1⟩:=bq;obtain⟨c,rfl,q1⟩:=q1;cases r1;refine cx ?_;cases c with
 |true=>exact hb pins s1 Z H1 Q I1 q1
 |false=>exact⟨.bl false,H1,I1,rfl,q1⟩
theorem Uo(ha:PE X a ta)(hb:PE X (.BoolOp .Or (b::rest) pos) tb):PE X (.BoolOp .Or (a::b::rest) pos) (Sy ta tb):=by
 intro pins s Z H Q I h;refine BoolOp_or (cF (ha pins s Z H _ I h) λv s1 bq=>?_);obtain⟨x,H1,I1,r1,q1⟩:=bq;obtain⟨c,rfl,q1⟩:=q1;cases r1;refine cx ?_;cases c with
 |false=>exact hb pins s1 Z H1 Q I1 q1
 |true=>exact⟨.bl true,H1,I1,rfl,q1⟩
theorem Nl(ha:PE X a ta):PE X (.UnaryOp .Not a pos) (UN ta):=by
 intro pins s Z H Q I h;refine UnaryOp_ (cF (ha pins s Z H _ I h) λv s1 bq=>?_);obtain⟨x,H1,I1,r1,q1⟩:=bq;obtain⟨c,rfl,q1⟩:=q1;cases r1;exact not_of (cx ⟨.bl (!c),H1,I1,rfl,q1⟩)
def Jf(t:TT)(ta tb:TE):TE:=λZ H Q=>t Z H λc H1=>if c=true then ta Z H1 Q else tb Z H1 Q
theorem YJ{c:Expr}(hc:PT X c tA)(ha:PE X a ta)(hb:PE X b tb):PE X (.IfExp c a b pos) (Jf tA ta tb):=by
 intro pins s Z H Q I h;refine wpAny_IfExp (cF (hc pins s Z H _ I h) λd s1 ⟨H1,I1,q1⟩=>?_);cases d with
 |true=>exact ha pins s1 Z H1 Q I1 q1
 |false=>exact hb pins s1 Z H1 Q I1 q1
end
def fo(K:PySem.W.Frag)(H:Hp)(a:Addr)(xs:List V):Prop :=
 Rd H a (.lst xs) \/
  ∃(o:Obj) (aW:Array Value) (n:Nat),K.lookup a=some o/\o.cls=.type "list"/\o.dict=none/\o.data=.seq aW n/\aW.size<=sizeLine/\Vals xs aW.toList
def gF(K:PySem.W.Frag)(H:Hp)(a:Addr)(xs:List V):Prop :=
 Rd H a (.tup xs) \/
  ∃(o:Obj) (aW:Array Value) (n:Nat),K.lookup a=some o/\o.cls=.type "tuple"/\o.data=.seq aW n/\aW.size<=sizeLine/\Vals xs aW.toList
def Rg:Value->Option V
 |.none=>some .bx
 |.bool b=>some (.bl b)
 |.int i _=>some (.int i)
 |.str x _=>some (.str x)
 |.bytes b _=>some (.jL b)
 |.float b _=>some (.pe b)
 |.ref a=>some (.ref a)
 |.type n=>some (.ty n)
 |_=>none
theorem RelV.abs{x:V}{u:Value}(r:RelV x u):Rg u=some x:=by
 cases x with
 |bx=>cases r;rfl
 |bl _=>cases r;rfl
 |int _=>obtain⟨t,rfl⟩:=r;rfl
 |str _=>obtain⟨t,rfl⟩:=r;rfl
 |jL _=>obtain⟨t,rfl⟩:=r;rfl
 |pe _=>obtain⟨t,rfl⟩:=r;rfl
 |ref _=>cases r;rfl
 |ty _=>cases r;rfl
theorem RelV.inj{x y:V}{u:Value}(r:RelV x u)(q:RelV y u):x=y:=aQ (r.abs.symm.trans q.abs)
theorem Vals.inj{xs ys:List V}{us:List Value}(h:Vals xs us)(h':Vals ys us):xs=ys:=by
 induction h generalizing ys with
 |nil=>cases h';rfl
 |cons r t ih =>
  cases h' with
  |cons r' t'=>rw[r.inj r',ih t']
section
variable{X:Cx}{pins:List (Addr×Obj)}{Z:St}{H:Hp}{s:Shared}{a:Addr}{xs ys:List V}
theorem fo.of{K:PySem.W.Frag}(h:H a=some (.lst xs)):fo K H a xs:=.inl (.inl h)
theorem Inv.list(I:Inv X pins Z H s)(h:fo X.K H a xs):∃aW:List Value,Vals xs aW/\PlainL s.heap a aW.toArray/\xs.length<=sizeLine:=by
 rcases h with h|⟨o,aW,n,hk,hc,hd,hs,hz,r⟩
 ·obtain⟨z,aW,n,r,e⟩:=h.ok I.bR;exact⟨aW,r,⟨_,n,e,rfl,rfl,rfl⟩,z⟩
 ·refine⟨aW.toList,r,⟨o,n,I.fV a o hk,hc,hd,by simpa using hs⟩,?_⟩;have e:=r.length;simp only[Array.length_toList] at e;omega
theorem Inv.tuple(I:Inv X pins Z H s)(h:gF X.K H a xs):∃aW:List Value,Vals xs aW/\IsTup s.heap a aW.toArray/\xs.length<=sizeLine:=by
 rcases h with h|⟨o,aW,n,hk,hc,hs,hz,r⟩
 ·obtain⟨z,aW,r,p⟩:=h.ok I.bR;exact⟨aW,r,p.tup,z⟩
 ·refine⟨aW.toList,r,⟨o,I.fV a o hk,hc,n,by simpa using hs⟩,?_⟩;have e:=r.length;simp only[Array.length_toList] at e;omega
theorem Inv.Ap(I:Inv X pins Z H s)(h:fo X.K H a xs)(h':fo X.K H a ys):xs=ys:=by
 obtain⟨aW,r,⟨o,n,e,_,_,d⟩,_⟩:=I.list h;obtain⟨its',r',⟨o',n',e',_,_,d'⟩,_⟩:=I.list h';rw[e] at e';cases e';rw[d] at d';injection d' with d1 _;have:aW=its':=by simpa using congrArg Array.toList d1
 subst this;exact r.inj r'
theorem Inv.WI(I:Inv X pins Z H s)(h:gF X.K H a xs)(h':gF X.K H a ys):xs=ys:=by
 obtain⟨aW,r,⟨o,e,_,n,d⟩,_⟩:=I.tuple h;obtain⟨its',r',⟨o',e',_,n',d'⟩,_⟩:=I.tuple h';rw[e] at e';cases e';rw[d] at d';injection d' with d1 _;have:aW=its':=by simpa using congrArg Array.toList d1
 subst this;exact r.inj r'
end
noncomputable abbrev Cx.Z0(X:Cx)(E:Value->Shared->Prop):Cx:={ X with xe:=E }
theorem Cx.Ok.Z0{X:Cx}(ok:X.Ok)(E:Value->Shared->Prop):(X.Z0 E).Ok :=
 ⟨ok.mod,ok.kind,ok.glob,ok.blt,ok.above,ok.inj,ok.has,ok.nF,ok.hd,ok.frames,ok.nS,ok.tL,ok.bs,ok.lr,ok.ja,ok.jF,ok.K4,ok.lK⟩
theorem Cx.Ok.BO{X:Cx}{E:Value->Shared->Prop}(ok:(X.Z0 E).Ok):X.Ok :=
 ⟨ok.mod,ok.kind,ok.glob,ok.blt,ok.above,ok.inj,ok.has,ok.nF,ok.hd,ok.frames,ok.nS,ok.tL,ok.bs,ok.lr,ok.ja,ok.jF,ok.K4,ok.lK⟩
section
variable{X:Cx}{pins:List (Addr×Obj)}{Z:St}{H:Hp}{s:Shared}{E:Value->Shared->Prop}
theorem Inv.Z0(I:Inv X pins Z H s)(E:Value->Shared->Prop):Inv (X.Z0 E) pins Z H s:=⟨I.ok.Z0 E,I.os,I.bare,I.base,I.loc,I.cell,I.free,I.eJ,I.pin,I.bR,I.len⟩
theorem Inv.BO(I:Inv (X.Z0 E) pins Z H s):Inv X pins Z H s:=⟨I.ok.BO,I.os,I.bare,I.base,I.loc,I.cell,I.free,I.eJ,I.pin,I.bR,I.len⟩
end
section
variable{X:Cx}{st:Stmt}{rest:List Stmt}{t u:TS}{e:Expr}{te:TE}{pos:Pos}
def Fe:TS:=λD Z H=>D.nx Z H
def SD(t u:TS):TS:=λD Z H=>t { D with nx:=u D } Z H
theorem PZ:ic X [] Fe:=λ_ _ Z H _ I h=>wpAny_execs_nil ⟨Z,H,I,h⟩
theorem YV(h1:PS X st t)(h2:ic X rest u):ic X (st::rest) (SD t u):=by
 intro pins s Z H D I h;refine wpAny_execs_cons (cF (h1 pins s Z H { D with nx:=u D } I h) λf s1 q=>?_);cases f with
 |next =>
  obtain⟨bU,H',I',q⟩:=q;exact h2 pins s1 bU H' D I' q
 |ret v=>exact q
 |brk=>exact q
 |cont=>exact q
theorem PV:PS X (.Pass pos) Fe:=λ_ _ Z H _ I h=>wpAny_Pass ⟨Z,H,I,h⟩
theorem Inv.quiet{pins:List (Addr×Obj)}{Z:St}{H:Hp}{s:Shared}(I:Inv X pins Z H s):interactive X.env=false:=by simp[interactive,I.ok.kind]
def UM(te:TE):TS:=λD Z H=>te Z H λ_ H1=>D.nx Z H1
theorem PU(he:PE X e te)(hs:swapsWith e none pos.line X.env=pure false:=by rfl):PS X (.Expr e pos) (UM te):=by
 intro pins s Z H D I h;exact wpAny_Expr_any (cF (he pins s Z H _ I h) λv s1 ⟨x,H1,I1,r1,q1⟩=>⟨Z,H1,I1,q1⟩) I.quiet hs
def SA(te:TE):TS:=λD Z H=>te Z H D.rt
theorem Nz(he:PE X e te):PS X (.Return (some e) pos) (SA te):=by
 intro pins s Z H D I h;exact wpAny_Return_some (cF (he pins s Z H _ I h) λv s1 ⟨x,H1,I1,r1,q1⟩=>⟨x,Z,H1,I1,r1,q1⟩)
def UP:TS:=λD _ H=>D.rt .bx H
theorem PY:PS X (.Return none pos) UP:=λ_ _ Z H _ I h=>wpAny_Return_none ⟨.bx,Z,H,I,rfl,h⟩
def Sv(c:TT)(t u:TS):TS:=λD Z H=>c Z H λb H1=>if b=true then t D Z H1 else u D Z H1
theorem Ur{c:Expr}{a b:List Stmt}{tc:TT}(hc:PT X c tc)(ha:ic X a t)(hb:ic X b u):PS X (.If c a b pos) (Sv tc t u):=by
 intro pins s Z H D I h;refine wpAny_If (cF (hc pins s Z H _ I h) λd s1 ⟨H1,I1,q1⟩=>?_);cases d with
 |true=>exact ha pins s1 Z H1 D I1 q1
 |false=>exact hb pins s1 Z H1 D I1 q1
end
noncomputable abbrev TG:=V->St->Hp->(St->Hp->Prop)->Prop
noncomputable abbrev nL:=List V->St->Hp->(St->Hp->Prop)->Prop
def PG(X:Cx)(target:Expr)(t:TG):Prop :=
 ∀(pins:List (Addr×Obj)) (s:Shared) (Z:St) (H:Hp) (v:V) (u:Value) (Q:St->Hp->Prop),Inv X pins Z H s->RelV v u->t v Z H Q ->
  wpAny (model X.prog X.w) X.A (assign target X.env u) (λ_ s'=>∃bU H',Inv X pins bU H' s'/\Q bU H') X.xe s
def uJ(X:Cx)(ts:List Expr)(t:nL):Prop :=
 ∀(pins:List (Addr×Obj)) (s:Shared) (Z:St) (H:Hp) (vs:List V) (us:List Value) (Q:St->Hp->Prop),Inv X pins Z H s->Vals vs us->t vs Z H Q ->
  wpAny (model X.prog X.w) X.A (assignInOrder ((assignEach ts X.env).map (·.2)) us) (λ_ s'=>∃bU H',Inv X pins bU H' s'/\Q bU H') X.xe s
noncomputable abbrev zI:=V->V->V->Hp->(Hp->Prop)->Prop
def zH(X:Cx)(t:zI):Prop :=
 ∀(pins:List (Addr×Obj)) (s:Shared) (Z:St) (H:Hp) (o i v:V) (ov iv u:Value) (Q:Hp->Prop),Inv X pins Z H s->RelV o ov->RelV i iv->RelV v u->t o i v H Q ->
  wpAny (model X.prog X.w) X.A (setItem ov iv u) (λ_ s'=>∃H',Inv X pins Z H' s'/\Q H') X.xe s
noncomputable abbrev BX:=V->V->Hp->VK->Prop
def ID(X:Cx)(op:Operator)(t:BX):Prop :=
 ∀(pins:List (Addr×Obj)) (s:Shared) (Z:St) (H:Hp) (x y:V) (v u:Value) (Q:VK),Inv X pins Z H s->RelV x v->RelV y u->t x y H Q ->
  wpAny (model X.prog X.w) X.A (inplaceOp op v u) (EP X pins Z Q) X.xe s
section
variable{X:Cx}{pos:Pos}
def qL(i:Nat):TG:=λv Z H Q=>Q (Z.set i (some v)) H
theorem Hv{i:Nat}{x:Str}(hN:X.N.Nodup)(hi:X.N[i]?=some x)(hx:Loc X.env.scope x)(hf:X.fn x=true\/X.env.scope.names.lookup x=some .local:=by first|exact .inl rfl|exact .inr rfl|assumption):PG X (.Name x pos) (qL i):=by
 intro pins s Z H v u Q I r h;exact wpAny_assign_Name (S4 I hN hi hx r (λs' I'=>⟨_,H,I',h⟩) hf)
def Fj:nL:=λvs Z H Q=>vs=[]/\Q Z H
def EK(t:TG)(u:nL):nL:=λvs Z H Q=>∃v r,vs=v::r/\t v Z H λbU H'=>u r bU H' Q
theorem PL:uJ X [] Fj:=by
 intro pins s Z H vs us Q I r h;obtain⟨e,h⟩:=h;subst e;cases r;exact assignInOrder_nil ⟨Z,H,I,h⟩
theorem YO{e:Expr}{es:List Expr}{t:TG}{u:nL}(h1:PG X e t)(h2:uJ X es u)(hs:(assignEach (e::es) X.env).map (·.2)=assign e X.env::(assignEach es X.env).map (·.2):=by rfl):uJ X (e::es) (EK t u):=by
 intro pins s Z H vs us Q I r h;obtain⟨v,vr,e1,h⟩:=h;subst e1;cases r with
 |cons r rr =>
  rw[hs];refine assignInOrder_cons (cF (h1 pins s Z H _ _ _ I r h) λ_ s1 bq=>?_);obtain⟨gM,H1,I1,q1⟩:=bq;exact h2 pins s1 gM H1 _ _ Q I1 rr q1
def Rz(K:PySem.W.Frag)(n:Nat)(t:nL):TG:=λv Z H Q=>∃a xs,v=.ref a/\gF K H a xs/\xs.length=n/\t xs Z H Q
theorem Nr{es:List Expr}{k:Nat}{t:nL}{n:Nat}(hc:X.calm=true)(h:uJ X es t)(hn:(assignEach es X.env).length=n:=by rfl)(dP:(assignEach es X.env).findIdx? (·.1)=none:=by rfl):PG X (.Tuple es k pos) (Rz X.K n t):=by
 intro pins s Z H v u Q I r hw;obtain⟨a,xs,e1,hq,hl,hw⟩:=hw;subst e1;cases r;obtain⟨aW,rv,ht,hz⟩:=I.tuple hq;refine assign_Tuple_tuple (I.ok.hd hc) ht (by simp[hn,<- hl,rv.length]) dP λh' hx=>?_;have I1:Inv X pins Z H { s with heap:=h' }:=I.kept (t':=s.toks) λb o e=>hx b o (aR (aD e)) e;exact h pins _ Z H xs _ Q I1 (by simpa using rv) hw
def Ry(to ti:TE)(t:zI):TG:=λv Z H Q=>to Z H λo H1=>ti Z H1 λi H2=>t o i v H2 λH3=>Q Z H3
theorem Nq{o i:Expr}{to ti:TE}{t:zI}(ho:PE X o to)(hi:PE X i ti)(hs:zH X t)(ha:∀ v,assign (.Subscript o i pos) X.env v=(do
   let ov <- holding [v] (eval o X.env)
   let iv <- holding [v,ov] (eval i X.env)
   standAt pos
   holding [v,ov,iv] (setItem ov iv v)
   release [v,ov,iv] []):=by intro _;rfl):PG X (.Subscript o i pos) (Ry to ti t):=by
 intro pins s Z H v u Q I r h;rw[ha];refine ae (cE (cF (ho pins s Z H _ I h) λov s1 bq=>?_));obtain⟨x,H1,I1,r1,q1⟩:=bq;refine ae (cE (cF (hi pins s1 Z H1 _ I1 q1) λiv s2 bq=>?_));obtain⟨y,H2,I2,r2,q2⟩:=bq;refine ae (dZ (ae (cE (cF (hs pins s2 Z H2 x y v ov iv u _ I2 r1 r2 r q2) λ_ s3 ⟨H3,I3,q3⟩=>?_))));exact wpAny_release ⟨Z,H3,I3,q3⟩
def uD(te:TE)(g:TG):TS:=λD Z H=>te Z H λx H1=>g x Z H1 D.nx
theorem GR{tg e:Expr}{te:TE}{g:TG}(he:PE X e te)(hg:PG X tg g)(hs:swapsWithSole [tg] e pos.line X.env=pure false:=by rfl)(hw:swappedStores [tg] e X.env=pure none:=by rfl)(h1:(assignEach [tg] X.env).map (·.2)=[assign tg X.env]:=by rfl):PS X (.Assign [tg] e pos) (uD te g):=by
 intro pins s Z H D I h;refine wpAny_Assign_stores (cF (he pins s Z H _ I h) λv s1 bq=>?_) hs hw;obtain⟨x,H1,I1,r1,q1⟩:=bq;rw[h1];exact cF (hg pins s1 Z H1 x v _ I1 r1 q1) λ_ s2 q=>q
theorem GS{i:Nat}{x:Str}{e:Expr}{te:TE}{pos':Pos}(hN:X.N.Nodup)(hi:X.N[i]?=some x)(hx:Loc X.env.scope x)(he:PE X e te)(hs:swapsWith e (some (.Name x pos')) pos.line X.env=pure false:=by rfl)(hf:X.fn x=true\/X.env.scope.names.lookup x=some .local:=by first|exact .inl rfl|exact .inr rfl|assumption) :
  PS X (.Assign [.Name x pos'] e pos) (uD te (qL i)):=by
 intro pins s Z H D I h;refine wpAny_Assign_Name (cF (he pins s Z H _ I h) λv s1 bq=>?_) hs;obtain⟨y,H1,I1,r1,q1⟩:=bq;exact S4 I1 hN hi hx r1 (λs2 I2=>⟨_,H1,I2,q1⟩) hf
def Sz(i j:Nat)(ta:TA):TS:=λD Z H=>ta Z H λvs H1=>∃v w,vs=[v,w]/\D.nx ((Z.set i (some v)).set j (some w)) H1
theorem Ny{i j:Nat}{x y:Str}{a b:Expr}{ta:TA}{px py pt:Pos}{kt k2 mS}(hc:X.calm=true)(hN:X.N.Nodup)(hi:X.N[i]?=some x)(hj:X.N[j]?=some y)(gf:i≠j)(hx:X.env.scope.names.lookup x=some .local)(hy:X.env.scope.names.lookup y=some .local)(ha:PA X [a,b] ta)(hw:swappedStores [.Tuple [.Name x px,.Name y py] kt pt] (.Tuple [a,b] k2 mS) X.env=pure (some [x,y]))(hs:swapsWithSole [.Tuple [.Name x px,.Name y py] kt pt] (.Tuple [a,b] k2 mS) pos.line X.env=pure false:=by rfl) :
  PS X (.Assign [.Tuple [.Name x px,.Name y py] kt pt] (.Tuple [a,b] k2 mS) pos) (Sz i j ta):=by
 intro pins s Z H D I h;rw[exec_Assign_arm];refine ae (dZ ?_);rw[hs];refine ae (av ?_);rw[aC (by decide)];refine ae (Tuple_ (cF (ha _ pins s Z H _ I h) λus s1 bq=>?_));obtain⟨vs,H1,I1,r1,q1⟩:=bq;obtain⟨v,w,e1,q1⟩:=q1;subst e1;obtain⟨u1,u2,rfl,rv,fq⟩:∃u1 u2,us=[u1,u2]/\RelV v u1/\RelV w u2:=by
  cases r1 with
  |cons p q =>
   cases q with
   |cons p' q' =>
    cases q';exact⟨_,_,rfl,p,p'⟩
 refine cy ?_ (by show 2<=sizeLine;decide);have I2:Inv X pins Z H1 { s1 with heap:=s1.heap.push { cls:=.type "tuple",data:=.seq [u1,u2].toArray } }:=I1.kept (t':=s1.toks) λb o e=>au _ e;rw[hw];refine ae (av ?_);show wpAny (model X.prog X.w) X.A (do rule "assign.swapped-stores";let items <- unpackItems (.ref s1.heap.objs.size) 2 none;assignInOrder [λv=>bindName X.env y v,λv=>bindName X.env x v] items.reverse;pure Flow.next) _ _ _;refine ae (wpAny_rule (ae (unpackItems_tuple (items:=#[u1,u2]) (I.ok.hd hc) (IsTup.new s1.heap _) λh' mY=>?_)));have I3:=I2.kept (h':=h') (t':=s1.toks) λb o e=>mY b o (aR (aD e)) e;show wpAny _ _ (assignInOrder [λv=>bindName X.env y v,λv=>bindName X.env x v] [u2,u1] >>= λ_=>pure Flow.next) _ _ _;refine ae (assignInOrder_cons (wpAny_bindName (S4 I3 hN hj (.inl hy) fq (λs2 I4=>?_) (.inr hy))));refine assignInOrder_cons (wpAny_bindName (S4 I4 hN hi (.inl hx) rv (λs3 I5=>assignInOrder_nil (av ?_)) (.inr hx)));rw[List.set_comm _ _ (bP gf)] at I5;exact⟨_,H1,I5,q1⟩
def Sq(i:Nat)(te:TE)(ti:BX):TS:=λD Z H=>∃x,Z[i]?=some (some x)/\te Z H λy H1=>ti x y H1 λz H2=>D.nx (Z.set i (some z)) H2
theorem Nv{i:Nat}{x:Str}{e:Expr}{te:TE}{op:Operator}{ti:BX}{pos':Pos}(hN:X.N.Nodup)(hi:X.N[i]?=some x)(hx:Loc X.env.scope x)(he:PE X e te)(ho:ID X op ti)(hf:X.fn x=true\/X.env.scope.names.lookup x=some .local:=by first|exact .inl rfl|exact .inr rfl|assumption) :
  PS X (.AugAssign (.Name x pos') op e pos) (Sq i te ti):=by
 intro pins s Z H D I h;obtain⟨v,e1,h⟩:=h;obtain⟨m,hn,hl⟩:=I.loc;have qY:uG X.env.scope x:=by rcases hx with k|k;exact .inl k;exact .inr (.inl k)
 obtain⟨u,r,l⟩:=hl i x v hi e1 qY;refine wpAny_AugAssign_Name ?_;have go:wpAny (model X.prog X.w) X.A (eval e X.env) (λw fP=>wpAny (model X.prog X.w) X.A (inplaceOp op u w) (λr fe=>wpAny (model X.prog X.w) X.A (storeName X.env x r) (λ_=>SP X pins D .next) X.xe fe) X.xe fP) X.xe s:=by
  refine cF (he pins s Z H _ I h) λw s1 bq=>?_;obtain⟨y,H1,I1,r1,q1⟩:=bq;refine cF (ho pins s1 Z H1 v y u w _ I1 r r1 q1) λz s2 bq=>?_;obtain⟨zv,H2,I2,r2,q2⟩:=bq;exact S4 I2 hN hi hx r2 (λs3 I3=>⟨_,H2,I3,q2⟩) hf
 rcases l with⟨hk,hm⟩|⟨hk,c,hc,jK⟩
 ·exact wpAny_loadName_local I.ok.kind hk hn hm go
 ·rcases hk with hk|hk
  ·exact wpAny_loadName_cell I.ok.kind hk hc jK go
  ·rcases hx with k|k
   ·have:X.env.scope.names.lookup x=some .free:=hk;rw[k] at this;cases this
   ·have:X.env.scope.names.lookup x=some .free:=hk;rw[k] at this;cases this
end
section
variable{X:Cx}{pos:Pos}
def Ov(c:TT)(tb:TS):TS:=λD Z H=>∃W:Nat->St->Hp->Prop,(∃m,W m Z H)/\∀m Z H,W m Z H ->
 c Z H λb H1=>if b=true then ∃N:St->Hp->Prop,(∀bU H',N bU H'->∃m',m'<m/\W m' bU H')/\tb { D with nx:=N,ct:=N,bk:=D.nx } Z H1 else D.nx Z H1
theorem YU{c:Expr}{body:List Stmt}{tc:TT}{tb:TS}(hp:PassesOwn (model X.prog X.w) X.A X.env X.xe)(hc:PT X c tc)(hb:ic X body tb):PS X (.While c body [] pos) (Ov tc tb):=by
 intro pins s Z H D I h;obtain⟨W,⟨m0,w0⟩,turn⟩:=h;refine wpAny_While (codeAny_whileLoop (λn s'=>∃bU H',Inv X pins bU H' s'/\W n bU H') ?_ m0 ⟨Z,H,I,w0⟩);rintro n s1 ⟨gM,H1,I1,w1⟩;refine dU hp (cF (hc pins s1 gM H1 _ I1 (turn n gM H1 w1)) λb s2 ⟨H2,I2,q2⟩=>?_);cases b with
 |true =>
  obtain⟨N,hN,q2⟩:=q2;rw[aK rfl];refine dU hp (cF (hb pins s2 gM H2 _ I2 q2) λf s3 q3=>?_);cases f with
  |next =>
   obtain⟨gG,H3,I3,n3⟩:=q3;obtain⟨m',hm,w3⟩:=hN gG H3 n3;exact⟨m',hm,gG,H3,I3,w3⟩
  |cont =>
   obtain⟨gG,H3,I3,n3⟩:=q3;obtain⟨m',hm,w3⟩:=hN gG H3 n3;exact⟨m',hm,gG,H3,I3,w3⟩
  |brk=>exact q3
  |ret v=>exact q3
 |false =>
  rw[aC bH];exact wpAny_execs_nil ⟨gM,H2,I2,q2⟩
end
structure It where
 go:Nat->Hp->Prop
 nQ:Nat->Hp->V->Hp->Prop
 stop:Nat->Hp->Prop
def C6(X:Cx)(pins:List (Addr×Obj))(H:Hp)(b:Addr):Prop :=
 H b=none/\b≠X.env.locals/\b∉X.fs/\(b∈X.ex\/X.df.heap.objs.size<=b)/\(∀x c,X.env.cells.lookup x=some c->c≠b)/\∀p∈X.pn++pins,p.1≠b
theorem Inv.nH{X:Cx}{pins:List (Addr×Obj)}{Z:St}{H H':Hp}{s:Shared}{b:Addr}(I:Inv X pins Z H s)(hb:s.heap.objs.size<=b)(hn:H' b=none):C6 X pins H' b:=by
 refine⟨hn,bZ (aB I.lt hb),I.uC hb,.inr (aG I.sz hb),λx c e z=>?_,λp hp z=>?_⟩
 ·obtain⟨v,q⟩:=I.cell x c e;exact absurd (aB q.lt (by rw[z];exact hb)) (bt _)
 ·exact absurd (aB (aD (I.pin p hp).1) (by rw[z];exact hb)) (bt _)
structure Turn(P:Program)(w:World)(K:PySem.W.Frag)(tg:Expr)(J:It)(fp:List Addr)(it:Addr)(tn:Nat->Heap->Prop):Prop where
 mem:it∈fp
 obj:∀i h,tn i h->∀b∈fp,∃o,h.get? b=some o/\∀v,o.data≠.cell v
 keep:∀i h h',tn i h->(∀b∈fp,∀o,h.get? b=some o->h'.get? b=some o)->tn i h'
 item:∀(X:Cx),X.prog=P->X.w=w->X.K=K->X.calm=true->∀(i:Nat) (pins:List (Addr×Obj)) (s:Shared) (Z:St) (H:Hp) (E:Value->Shared->Prop),Inv X pins Z H s->(∀b∈fp,C6 X pins H b)->tn i s.heap->J.go i H ->
  wpAny (model P w) X.A (pyNext (.ref it)) (λr s1=>∃ u,r=some u /\
   wpAny (model P w) X.A (letOwnedTupleGo tg (.ref it) u) (λ_ s2=>∃ x H',Inv X pins Z H' s2/\RelV x u/\J.nQ i H x H'/\tn (i + 1) s2.heap/\∀ b ∈ fp,H' b=none) E s1) E s
 done:∀(X:Cx),X.prog=P->X.w=w->X.K=K->X.calm=true->∀(i:Nat) (pins:List (Addr×Obj)) (s:Shared) (Z:St) (H:Hp) (E:Value->Shared->Prop),Inv X pins Z H s->(∀b∈fp,C6 X pins H b)->tn i s.heap->J.stop i H ->
  wpAny (model P w) X.A (pyNext (.ref it)) (λr s1=>r=none/\Inv X pins Z H s1) E s
 self:∀(A:Around) (i:Nat) (s:Shared) (Q:Value->Shared->Prop) (E:Value->Shared->Prop),tn i s.heap->Q (.ref it) s->wpAny (model P w) A (pyIter (.ref it)) Q E s
noncomputable abbrev TI:=St->Hp->(It->Hp->Prop)->Prop
def IE(X:Cx)(pins:List (Addr×Obj))(Z:St)(tg:Expr)(R:It->Hp->Prop)(se:Value)(s2:Shared):Prop :=
 ∃(it:Addr) (fp:List Addr) (tn:Nat->Heap->Prop) (J:It) (H':Hp),se=.ref it/\Inv X pins Z H' s2/\Turn X.prog X.w X.K tg J fp it tn/\tn 0 s2.heap/\(∀b∈fp,C6 X pins H' b)/\R J H'
def PI(X:Cx)(tg iter:Expr)(wi:TI):Prop :=
 ∀(pins:List (Addr×Obj)) (s:Shared) (Z:St) (H:Hp) (R:It->Hp->Prop),Inv X pins Z H s->wi Z H R ->
  wpAny (model X.prog X.w) X.A (eval iter X.env) (λv s1=>wpAny (model X.prog X.w) X.A (pyIter v) (IE X pins Z tg R) X.xe s1) X.xe s
theorem vN{M:Model}{A:Around}{E:Value->Shared->Prop}{s:Shared}{tg:Expr}{it:Addr}{u:Value}{o:Obj}{n:String}{vs:Array Value}{Q:Unit->Shared->Prop}(ho:s.heap.get? it=some o)(hc:o.cls=.type n)(hd:o.data=.fields vs)(hn:["enumerate","zip","dict_itemiterator","dict_reverseitemiterator","odict_iterator","itertools.zip_longest","itertools.pairwise"].contains n=false)(hQ:Q () s):wpAny M A (letOwnedTupleGo tg (.ref it) u) Q E s:=by
  unfold letOwnedTupleGo;cases tg<;>first
    |exact av hQ
    | (cases u <;> first
        |exact av hQ
        | (refine ae (wpAny_load ho ?_)
           rw[hc,hd];show wpAny M A (if(["enumerate","zip","dict_itemiterator","dict_reverseitemiterator","odict_iterator","itertools.zip_longest","itertools.pairwise"].contains n&&vs[0]?==some (rawInt _))=true then _ else _) Q E s;rw[aC (by intro h;rw[hn,Bool.false_and] at h;cases h)];exact av hQ))
def Cb(K:PySem.W.Frag)(a:Addr):It :=
 ⟨λi H=>∃xs x,fo K H a xs/\xs[i]?=some x,λi H x H'=>H'=H/\∀xs,fo K H a xs->xs[i]?=some x,λi H=>∃xs,fo K H a xs/\xs.length<=i⟩
def Ca(K:PySem.W.Frag)(a:Addr):It :=
 ⟨λi H=>∃xs x,gF K H a xs/\xs[i]?=some x,λi H x H'=>H'=H/\∀xs,gF K H a xs->xs[i]?=some x,λi H=>∃xs,gF K H a xs/\xs.length<=i⟩
def uL(lo:Int)(n:Nat):It:=⟨λi _=>i<n,λi H x H'=>H'=H/\x=.int (lo+i),λi _=>n<=i⟩
theorem WL{P:Program}{w:World}{K:PySem.W.Frag}{tg:Expr}(a it:Addr):Turn P w K tg (Cb K a) [it] it (λi h=>h.IsListIter it a i) where
 mem:=by simp
 obj:=λi h st b hb=>by
  have e:b=it:=by simpa using hb
  subst e;obtain⟨o,e,c,d⟩:=st;exact⟨o,e,λv z=>by rw[d] at z;cases z⟩
 keep:=λi h h' st k=>st.at λo e=>k it (by simp) o e
 item:=by
  intro X hP hw hK hc i pins s Z H E I hf st hg;subst hP hw hK;obtain⟨xs,x,hq,hx⟩:=hg;obtain⟨aW,rv,p,hz⟩:=I.list hq;obtain⟨u,hu,ru⟩:=rv.get hx;obtain⟨f0,f1,f2,f3,f4,f5⟩:=hf it (by simp);refine wpAny_pyNext_list_item st p.isList (x:=u) (by simpa using hu) λh' jU sb=>?_;have I1:Inv X pins Z H { s with heap:=h' }:=I.turned (t':=s.toks) (λb o hb e=>(sb.2 b hb).trans e) f0 f1 f3 f4 f5;obtain⟨o,e,c,d⟩:=id jU;exact⟨u,rfl,vN (s:={ s with heap:=h' }) e c d (by decide) ⟨x,H,I1,ru,⟨rfl,λys hy=>by rw[I.Ap hy hq];exact hx⟩,jU,λb hb=>(hf b hb).1⟩⟩
 done:=by
  intro X hP hw hK hc i pins s Z H E I hf st hg;subst hP hw hK;obtain⟨xs,hq,hx⟩:=hg;obtain⟨aW,rv,p,hz⟩:=I.list hq;obtain⟨f0,f1,f2,f3,f4,f5⟩:=hf it (by simp);have hl:=rv.length;exact wpAny_pyNext_list_end (I.ok.hd hc) st p.isList (by simp;omega) λh' eb=>⟨rfl,I.turned (t':=s.toks) (λb o hb e=>eb b o hb e) f0 f1 f3 f4 f5⟩
 self:=λ_ _ _ _ _ st h=>wpAny_pyIter_listiter st h
theorem XE{P:Program}{w:World}{K:PySem.W.Frag}{tg:Expr}(a it:Addr):Turn P w K tg (Ca K a) [it] it (λi h=>h.IsTupleIter it a i) where
 mem:=by simp
 obj:=λi h st b hb=>by
  have e:b=it:=by simpa using hb
  subst e;obtain⟨o,e,c,d⟩:=st;exact⟨o,e,λv z=>by rw[d] at z;cases z⟩
 keep:=λi h h' st k=>st.at λo e=>k it (by simp) o e
 item:=by
  intro X hP hw hK hc i pins s Z H E I hf st hg;subst hP hw hK;obtain⟨xs,x,hq,hx⟩:=hg;obtain⟨aW,rv,p,hz⟩:=I.tuple hq;obtain⟨u,hu,ru⟩:=rv.get hx;obtain⟨f0,f1,f2,f3,f4,f5⟩:=hf it (by simp);refine wpAny_pyNext_tuple_item st (show s.heap.IsTuple a aW.toArray from p) (x:=u) (by simpa using hu) λh' jU sb=>?_;have I1:Inv X pins Z H { s with heap:=h' }:=I.turned (t':=s.toks) (λb o hb e=>(sb.2 b hb).trans e) f0 f1 f3 f4 f5;obtain⟨o,e,c,d⟩:=id jU;exact⟨u,rfl,vN (s:={ s with heap:=h' }) e c d (by decide) ⟨x,H,I1,ru,⟨rfl,λys hy=>by rw[I.WI hy hq];exact hx⟩,jU,λb hb=>(hf b hb).1⟩⟩
 done:=by
  intro X hP hw hK hc i pins s Z H E I hf st hg;subst hP hw hK;obtain⟨xs,hq,hx⟩:=hg;obtain⟨aW,rv,p,hz⟩:=I.tuple hq;obtain⟨f0,f1,f2,f3,f4,f5⟩:=hf it (by simp);have hl:=rv.length;exact wpAny_pyNext_tuple_end (I.ok.hd hc) st (show s.heap.IsTuple a aW.toArray from p) (by simp;omega) λh' eb=>⟨rfl,I.turned (t':=s.toks) (λb o hb e=>eb b o hb e) f0 f1 f3 f4 f5⟩
 self:=λ_ _ _ _ _ st h=>wpAny_pyIter_tupleiter st h
theorem XC{P:Program}{w:World}{K:PySem.W.Frag}{tg:Expr}(it:Addr)(lo:Int)(n:Nat):Turn P w K tg (uL lo n) [it] it (λi h=>IsRangeIter h it (lo+(i:Nat)*1) ((n:Int)-(i:Nat)) 1) where
 mem:=by simp
 obj:=λi h st b hb=>by
  have e:b=it:=by simpa using hb
  subst e;exact ⟨_,st,λv z=>by
   have z':Data.fields _=Data.cell v:=z;cases z'⟩
 keep:=λi h h' st k=>k it (by simp) _ st
 item:=by
  intro X hP hw hK hc i pins s Z H E I hf st hg;subst hP hw hK;obtain⟨f0,f1,f2,f3,f4,f5⟩:=hf it (by simp);have W:=Walks.range (prog:=X.prog) (w:=X.w) (I.ok.hd hc) it lo 1 n;refine W.item i s _ _ hg st λv h' tk hv jU kk=>?_;obtain⟨t,rfl⟩:=hv;have I1:Inv X pins Z H { s with heap:=h',toks:=tk }:=I.turned (λb o hb e=>kk b o (by simpa using hb) e) f0 f1 f3 f4 f5;refine⟨_,rfl,vN (s:={ s with heap:=h',toks:=tk }) (n:="range_iterator") jU rfl rfl (by decide) ⟨.int (lo+i),H,I1,⟨t,?_⟩,⟨rfl,rfl⟩,jU,λb hb=>(hf b hb).1⟩⟩;rw[Int.mul_one]
 done:=by
  intro X hP hw hK hc i pins s Z H E I hf st hg;subst hP hw hK;obtain⟨f0,f1,f2,f3,f4,f5⟩:=hf it (by simp);exact wpAny_pyNext_range_end (I.ok.hd hc) st (by have:n<=i:=hg;omega) λh' eb=>⟨rfl,I.turned (t':=s.toks) (λb o hb e=>eb b o hb e) f0 f1 f3 f4 f5⟩
 self:=λ_ _ _ _ _ st h=>wpAny_pyIter_rangeiter st h
section
variable{X:Cx}{tg:Expr}
theorem Ic{pins:List (Addr×Obj)}{Z:St}{H:Hp}{s:Shared}{R:It->Hp->Prop}{E:Value->Shared->Prop}{lo hi:Int}{t u v:Tok}{tk:Nat}(I:Inv X pins Z H s)(h1:-(2 ^ 62)<=lo)(h2:lo<2 ^ 62)(h3:-(2 ^ 62)<=hi)(h4:hi<2 ^ 62)(q:R (uL lo (hi-lo).toNat) H):wpAny (model X.prog X.w) X.A (pyIter (.ref s.heap.objs.size)) (IE X pins Z tg R) E { s with heap:=s.heap.push { cls:=.type "range",data:=.fields #[.int lo t,.int hi u,.int 1 v] },toks:=tk }:=by
 refine wpAny_pyIter_range (IsRange.new ..) (small_one h1 h2 h3 h4) ?_;have I1:Inv X pins Z H { s with heap:=s.heap.push { cls:=.type "range",data:=.fields #[.int lo t,.int hi u,.int 1 v] },toks:=tk }:=I.kept λb o e=>au _ e;refine ⟨(s.heap.push { cls:=.type "range",data:=.fields #[.int lo t,.int hi u,.int 1 v] }).objs.size,[(s.heap.push { cls:=.type "range",data:=.fields #[.int lo t,.int hi u,.int 1 v] }).objs.size],_,_,H,rfl,
  I1.kept (t':=tk) λb o e=>au _ e,XC _ lo (hi - lo).toNat,?_,λb hb=>?_,q⟩
 ·have e1:lo+((0:Nat):Int)*1=lo:=by simp
  have e2:(((hi-lo).toNat:Nat):Int)-((0:Nat):Int)=Builtin.Range.rangeSize lo hi 1:=by rw[rangeSize_one];split<;>omega
  show IsRangeIter _ _ (lo+((0:Nat):Int)*1) ((((hi-lo).toNat:Nat):Int)-((0:Nat):Int)) 1;rw[e1,e2];exact aH _ rfl
 ·have e:b=(s.heap.push { cls:=.type "range",data:=.fields #[.int lo t,.int hi u,.int 1 v] }).objs.size:=by simpa using hb
  subst e;exact I1.nH (aw _) (I1.bR.fresh (aw _))
def Tr(ta:TA):TI:=λZ H R=>ta Z H λvs H1=>∃j:Int,vs=[.int j]/\-(2 ^ 62)<=j/\j<2 ^ 62/\R (uL 0 j.toNat) H1
def Ts(ta:TA):TI:=λZ H R=>ta Z H λvs H1=>∃i j:Int,vs=[.int i,.int j]/\(-(2 ^ 62)<=i/\i<2 ^ 62/\-(2 ^ 62)<=j/\j<2 ^ 62)/\R (uL i (j-i).toNat) H1
theorem Wr{a:Expr}{ta:TA}{p pos:Pos}(hg:Gl X "range")(hm:X.mg "range"=none)(ha:PA X [a] ta)(hs:starEach [a] X.env=[(false,eval a X.env)]:=by rfl):PI X tg (.Call (.Name "range" p) [a] [] pos) (Tr ta):=by
 intro pins s Z H R I h;refine Call_ (L8 I hg hm boot_range (bO (cF (ha pos pins s Z H _ I h) λus s1 bq=>?_) hs rfl));obtain⟨vs,H1,I1,r1,q1⟩:=bq;obtain⟨j,e,q1,q2,q⟩:=q1;subst e;cases r1 with
 |cons r rr =>
  cases rr;obtain⟨t,rfl⟩:=r;exact call_range_1 (Ic I1 (by omega) (by omega) q1 q2 (by simpa using q))
theorem Ws{a b:Expr}{ta:TA}{p pos:Pos}(hg:Gl X "range")(hm:X.mg "range"=none)(ha:PA X [a,b] ta)(hs:starEach [a,b] X.env=[(false,eval a X.env),(false,eval b X.env)]:=by rfl)(ia:starEach [b] X.env=[(false,eval b X.env)]:=by rfl) :
  PI X tg (.Call (.Name "range" p) [a,b] [] pos) (Ts ta):=by
 intro pins s Z H R I h;refine Call_ (L8 I hg hm boot_range (bO (cF (ha pos pins s Z H _ I h) λus s1 bq=>?_) (by rw[hs,ia]) (by rw[ia];rfl)));obtain⟨vs,H1,I1,r1,q1⟩:=bq;obtain⟨i,j,e,⟨q1,q2,q3,q4⟩,q⟩:=q1;subst e;cases r1 with
 |cons r rr =>
  cases rr with
  |cons r' rr =>
   cases rr;obtain⟨t,rfl⟩:=r;obtain⟨t',rfl⟩:=r';exact call_range_2 (Ic I1 q1 q2 q3 q4 q)
def Su(wi:TI)(g:TG)(tb:TS):TS:=λD Z H=>wi Z H λJ H1=>∃W:Nat->Nat->St->Hp->Prop,(∃m,W 0 m Z H1)/\∀i m Z H,W i m Z H ->
 (J.stop i H/\D.nx Z H)\/(J.go i H/\∃N:St->Hp->Prop,(∀bU H',N bU H'->∃m',m'<m/\W (i+1) m' bU H')/\∀x H',J.nQ i H x H'->g x Z H' λcC H2=>tb { D with nx:=N,ct:=N,bk:=D.nx } cC H2)
def X5(fp:List Addr)(h:Heap):List (Addr×Obj):=fp.filterMap λb=>(h.get? b).map λo=>(b,o)
theorem P7{fp:List Addr}{h:Heap}{b:Addr}{o:Obj}(hb:b∈fp)(e:h.get? b=some o):(b,o)∈X5 fp h:=List.mem_filterMap.mpr ⟨b,hb,by rw[e];rfl⟩
theorem We{fp:List Addr}{h:Heap}{p:Addr×Obj}(hp:p∈X5 fp h):p.1∈fp/\h.get? p.1=some p.2:=by
 obtain⟨b,hb,e⟩:=List.mem_filterMap.mp hp;cases q:h.get? b with
 |none=>rw[q] at e;cases e
 |some o =>
  rw[q] at e;have e':(b,o)=p:=aQ e;subst e';exact⟨hb,q⟩
theorem Inv.pinned{pins:List (Addr×Obj)}{Z:St}{H:Hp}{s:Shared}{fp:List Addr}(I:Inv X pins Z H s)(hf:∀b∈fp,C6 X pins H b)(ho:∀b∈fp,∃o,s.heap.get? b=some o/\∀v,o.data≠.cell v):Inv X (pins++X5 fp s.heap) Z H s :=
 I.K9 λp hp=>(bc.mp hp).elim (λz=>I.pin p (br _ z)) λz=>by
  obtain⟨hb,e⟩:=We z;obtain⟨f0,f1,f2,_⟩:=hf p.1 hb;obtain⟨o,e',d⟩:=ho p.1 hb;rw[e] at e';cases e';exact⟨e,f0,f1,f2,d⟩
theorem Inv.Ay{pins pl:List (Addr×Obj)}{Z:St}{H:Hp}{s:Shared}(I:Inv X (pins++pl) Z H s):Inv X pins Z H s:=I.K9 λp hp=>I.pin p (br _ (cZ _ hp))
theorem Nx{iter:Expr}{body:List Stmt}{wi:TI}{g:TG}{tb:TS}{pos:Pos}(hp:PassesOwn (model X.prog X.w) X.A X.env X.xe)(hc:X.calm=true)(hi:PI X tg iter wi)(hg:PG X tg g)(hb:ic X body tb)(hs:∀x,foldedSetIterable iter X.env x=pure x:=by intro _;rfl):PS X (.For tg iter body [] pos) (Su wi g tb):=by
 intro pins s Z H D I h;refine wpAny_For (cF (hi pins s Z H _ I h) λv s1 h1=>cF h1 λse s2 h2=>?_) hs;obtain⟨it,fp,tn,J,H2,e,I2,T,ju,f2,W,⟨m0,w0⟩,turn⟩:=h2;subst e;have nT:∀{H':Hp},(∀b∈fp,H' b=none)->∀b∈fp,C6 X pins H' b:=λhn b hb=>⟨hn b hb,(f2 b hb).2⟩
 refine codeAny_forLoop_any (λn s'=>∃i bU H',Inv X pins bU H' s'/\tn i s'.heap/\(∀b∈fp,H' b=none)/\W i n bU H') ?_ m0 ⟨0,Z,H2,I2,ju,λb hb=>(f2 b hb).1,w0⟩;rintro n s3 ⟨i,gG,H3,I3,mP,nB,w3⟩;rcases turn i n gG H3 w3 with⟨stop,qn⟩|⟨go,N,hN,step⟩
 ·refine dU hp (cF (T.done X rfl rfl rfl hc i pins s3 gG H3 X.xe I3 (nT nB) mP stop) λr s4 ⟨hr,I4⟩=>?_);subst hr;exact wpAny_execs_nil ⟨gG,H3,I4,qn⟩
 ·refine dU hp (cF (T.item X rfl rfl rfl hc i pins s3 gG H3 X.xe I3 (nT nB) mP go) λr s4 ⟨u,hr,h4⟩=>?_);subst hr;refine dU hp (cF h4 λ_ s5 bq=>?_);obtain⟨x,H5,I5,r5,y5,kz,tJ⟩:=bq;have uM:=I5.pinned (nT tJ) (T.obj _ _ kz);refine dU hp (cF (hg _ s5 gG H5 x u _ uM r5 (step x H5 y5)) λ_ s6 bq=>?_);obtain⟨jQ,H6,I6,q6⟩:=bq;refine dU hp (cF (hb _ s6 jQ H6 _ I6 q6) λf s7 q7=>?_);have again:∀{ku:St} {H7:Hp},Inv X (pins++X5 fp s5.heap) ku H7 s7->N ku H7->∃m,m<n/\∃i bU H',Inv X pins bU H' s7/\tn i s7.heap/\(∀b∈fp,H' b=none)/\W i m bU H':=λ{ku H7} I7 n7=>by
   obtain⟨m',hm,w7⟩:=hN ku H7 n7;refine⟨m',hm,i+1,ku,H7,I7.Ay,T.keep _ _ _ kz λb hb o e=>(I7.pin (b,o) (br _ (br _ (P7 hb e)))).1,λb hb=>?_,w7⟩;obtain⟨o,e,d⟩:=T.obj _ _ kz b hb;exact(I7.pin (b,o) (br _ (br _ (P7 hb e)))).2.1
  cases f with
  |next=>obtain⟨ku,H7,I7,n7⟩:=q7;exact again I7 n7
  |cont=>obtain⟨ku,H7,I7,n7⟩:=q7;exact again I7 n7
  |brk=>obtain⟨ku,H7,I7,q7⟩:=q7;exact⟨ku,H7,I7.Ay,q7⟩
  |ret v=>obtain⟨x7,ku,H7,I7,r7,q7⟩:=q7;exact⟨x7,ku,H7,I7.Ay,r7,q7⟩
end
noncomputable abbrev R2:=V->V->Hp->VK->Prop
def ft(X:Cx)(f:Value->Value->Sem Value)(r:R2):Prop :=
 ∀(pins:List (Addr×Obj)) (s:Shared) (Z:St) (H:Hp) (x y:V) (v u:Value) (Q:VK),Inv X pins Z H s->RelV x v->RelV y u->r x y H Q ->
  wpAny (model X.prog X.w) X.A (f v u) (EP X pins Z Q) X.xe s
def xc(X:Cx)(f:Value->Sem Value)(r:V->Hp->VK->Prop):Prop :=
 ∀(pins:List (Addr×Obj)) (s:Shared) (Z:St) (H:Hp) (x:V) (v:Value) (Q:VK),Inv X pins Z H s->RelV x v->r x H Q ->
  wpAny (model X.prog X.w) X.A (f v) (EP X pins Z Q) X.xe s
def m5(X:Cx)(f:Value)(r:List V->Hp->VK->Prop):Prop :=
 ∀(pins:List (Addr×Obj)) (s:Shared) (Z:St) (H:Hp) (xs:List V) (us:List Value) (Q:VK),Inv X pins Z H s->Vals xs us->r xs H Q ->
  wpAny (model X.prog X.w) X.A (call f us) (EP X pins Z Q) X.xe s
def Rc(X:Cx)(r:V->Hp->(Bool->Hp->Prop)->Prop):Prop :=
 ∀(pins:List (Addr×Obj)) (s:Shared) (Z:St) (H:Hp) (x:V) (v:Value) (Q:Bool->Hp->Prop),Inv X pins Z H s->RelV x v->r x H Q ->
  wpAny (model X.prog X.w) X.A (truthy v) (TP X pins Z Q) X.xe s
def pU(r:R2)(ta tb:TE):TE:=λZ H Q=>ta Z H λx H1=>tb Z H1 λy H2=>r x y H2 Q
def Jc(r:V->Hp->VK->Prop)(ta:TE):TE:=λZ H Q=>ta Z H λx H1=>r x H1 Q
def rI(C:Int->Int->Prop)(g:Int->Int->V):R2:=λx y H Q=>∃i j,x=.int i/\y=.int j/\C i j/\Q (g i j) H
def kj(g:Int->Int->V):R2:=λx y H Q=>∃i j,x=.int i/\y=.int j/\Q (g i j) H
def rU(g:Int->V):V->Hp->VK->Prop:=λx H Q=>∃i,x=.int i/\Q (g i) H
section
variable{X:Cx}{a b c:Expr}{ta tb tc:TE}{pos:Pos}
theorem zK(ha:PE X a ta)(hb:PE X b tb){pins:List (Addr×Obj)}{s:Shared}{Z:St}{H:Hp}{R:V->V->Hp->Prop}(I:Inv X pins Z H s)(h:ta Z H λx H1=>tb Z H1 λy H2=>R x y H2){Q:Value->Shared->Prop}{f:Value->Value->Sem Value}(hf:∀v u s2 x y H2,Inv X pins Z H2 s2->RelV x v->RelV y u->R x y H2->wpAny (model X.prog X.w) X.A (f v u) Q X.xe s2) :
  wpAny (model X.prog X.w) X.A (eval a X.env) (λv cj=>wpAny (model X.prog X.w) X.A (eval b X.env) (λu fP=>wpAny (model X.prog X.w) X.A (f v u) Q X.xe fP) X.xe cj) X.xe s:=by
 refine cF (ha pins s Z H _ I h) λv s1 bq=>?_;obtain⟨x,H1,I1,r1,q1⟩:=bq;refine cF (hb pins s1 Z H1 _ I1 q1) λu s2 bq=>?_;obtain⟨y,H2,I2,r2,q2⟩:=bq;exact hf v u s2 x y H2 I2 r1 r2 q2
theorem Um{op:Operator}{r:R2}(ho:ft X (binaryOp op) r)(ha:PE X a ta)(hb:PE X b tb):PE X (.BinOp a op b pos) (pU r ta tb):=by
 intro pins s Z H Q I h;exact wpAny_BinOp (zK ha hb I h λv u s2 x y H2 I2 rx ry q=>ho pins s2 Z H2 x y v u Q I2 rx ry q)
theorem Up{op:UnaryOp}{r:V->Hp->VK->Prop}(ho:xc X (unaryOp op) r)(ha:PE X a ta):PE X (.UnaryOp op a pos) (Jc r ta):=by
 intro pins s Z H Q I h;exact UnaryOp_ (cF (ha pins s Z H _ I h) λv s1 ⟨x,H1,I1,r1,q1⟩=>ho pins s1 Z H1 x v Q I1 r1 q1)
theorem rB{f:Value->Value->Sem Value}{C:Int->Int->Prop}{g:Int->Int->Int}(rule:∀(i j:Int) (t u:Tok) (s:Shared) (Q:Value->Shared->Prop) (E:Value->Shared->Prop),C i j->Q (.int (g i j) s.toks) { s with toks:=s.toks+1 }->wpAny (model X.prog X.w) X.A (f (.int i t) (.int j u)) Q E s) :
  ft X f (rI C λi j=>.int (g i j)):=by
 intro pins s Z H x y v u Q I rx ry h;obtain⟨i,j,rfl,rfl,hc,q⟩:=h;obtain⟨t,rfl⟩:=rx;obtain⟨t',rfl⟩:=ry;exact rule i j t t' s _ _ hc ⟨.int (g i j),H,I.tok _,⟨_,rfl⟩,q⟩
theorem qE{f:Value->Value->Sem Value}{g:Int->Int->Int}(rule:∀(i j:Int) (t u:Tok) (s:Shared) (Q:Value->Shared->Prop) (E:Value->Shared->Prop),Q (.int (g i j) s.toks) { s with toks:=s.toks+1 }->wpAny (model X.prog X.w) X.A (f (.int i t) (.int j u)) Q E s) :
  ft X f (kj λi j=>.int (g i j)):=by
 intro pins s Z H x y v u Q I rx ry h;obtain⟨i,j,rfl,rfl,q⟩:=h;obtain⟨t,rfl⟩:=rx;obtain⟨t',rfl⟩:=ry;exact rule i j t t' s _ _ ⟨.int (g i j),H,I.tok _,⟨_,rfl⟩,q⟩
theorem xa{f:Value->Value->Sem Value}{g:Int->Int->Bool}(rule:∀(i j:Int) (t u:Tok) (s:Shared) (Q:Value->Shared->Prop) (E:Value->Shared->Prop),Q (.bool (g i j)) s->wpAny (model X.prog X.w) X.A (f (.int i t) (.int j u)) Q E s) :
  ft X f (kj λi j=>.bl (g i j)):=by
 intro pins s Z H x y v u Q I rx ry h;obtain⟨i,j,rfl,rfl,q⟩:=h;obtain⟨t,rfl⟩:=rx;obtain⟨t',rfl⟩:=ry;exact rule i j t t' s _ _ ⟨.bl (g i j),H,I,rfl,q⟩
def zG(i j:Int):Prop:=0<j/\j<1073741824
def my(i j:Int):Prop:=0<=j/\j<=1000000/\i.natAbs<2 ^ 64
def pD(i j:Int):Prop:=(-(2 ^ 64)<i/\i<2 ^ 64)\/(-(2 ^ 64)<j/\j<2 ^ 64)
theorem pD.ok{i j:Int}(h:pD i j):IntMulOk i j:=by
 rcases h with⟨h1,h2⟩|⟨h1,h2⟩
 ·exact .of_left (intBits_le_64 h1 h2)
 ·exact .of_right (intBits_le_64 h1 h2)
theorem MQ:ft X (binaryOp .Add) (kj λi j=>.int (i+j)):=qE λ_ _ _ _ _ _ _ q=>add_int q
theorem Nb:ft X (binaryOp .Sub) (kj λi j=>.int (i-j)):=qE λ_ _ _ _ _ _ _ q=>sub_int q
theorem MY:ft X (binaryOp .Mult) (rI pD λi j=>.int (i*j)):=rB λ_ _ _ _ _ _ _ hc q=>mul_int q hc.ok
theorem Pp:ft X (binaryOp .FloorDiv) (rI zG λi j=>.int (i / j)):=rB λi j _ _ _ _ _ hc q=>by
 have h1:(0:Int)<j:=hc.1;have h2:j<1073741824:=hc.2;exact floordiv_int (by omega) (by rw[Int.fdiv_eq_ediv_of_nonneg i (by omega)];exact q) (.inl (PyProof.noPylong_small (by omega)))
theorem MX:ft X (binaryOp .Mod) (rI (λ_ j=>0<j) λi j=>.int (i % j)):=rB λi j _ _ _ _ _ hc q=>by
 have h1:(0:Int)<j:=hc;exact mod_int' (by omega) (by rw[Int.fmod_eq_emod_of_nonneg i (by omega)];exact q)
theorem MZ:ft X (binaryOp .Pow) (rI my λi j=>.int (i ^ j.toNat)):=rB λ_ _ _ _ _ _ _ hc q=>pow_int_small hc.1 hc.2.1 hc.2.2 q
theorem Na:ft X (binaryOp .LShift) (rI my λi j=>.int (i*2 ^ j.toNat)):=rB λ_ _ _ _ _ _ _ hc q=>lshift_int_small hc.1 hc.2.1 hc.2.2 q
theorem MR:ft X (binaryOp .BitAnd) (kj λi j=>.int (Builtin.bitAnd i j)):=qE λ_ _ _ _ _ _ _ q=>and_int q
theorem Ug:ft X (binaryOp .BitOr) (kj λi j=>.int (Builtin.bitOr i j)):=qE λ_ _ _ _ _ _ _ q=>or_int q
theorem OY:ft X (inplaceOp .Add) (kj λi j=>.int (i+j)):=qE λ_ _ _ _ _ _ _ q=>iadd_int q
theorem OZ:ft X (inplaceOp .Sub) (kj λi j=>.int (i-j)):=qE λ_ _ _ _ _ _ _ q=>isub_int q
theorem Ja{f:Value->Sem Value}{g:Int->Int}(rule:∀(i:Int) (t:Tok) (s:Shared) (Q:Value->Shared->Prop) (E:Value->Shared->Prop),Q (.int (g i) s.toks) { s with toks:=s.toks+1 }->wpAny (model X.prog X.w) X.A (f (.int i t)) Q E s) :
  xc X f (rU λi=>.int (g i)):=by
 intro pins s Z H x v Q I rx h;obtain⟨i,rfl,q⟩:=h;obtain⟨t,rfl⟩:=rx;exact rule i t s _ _ ⟨.int (g i),H,I.tok _,⟨_,rfl⟩,q⟩
theorem OB:xc X (unaryOp .USub) (rU λi=>.int (-i)):=Ja λ_ _ _ _ _ q=>neg_int q
end
def Ep:V->V->Bool
 |.bx,.bx=>true|.bx,.int _=>true|.int _,.bx=>true|.bx,.bl _=>true|.bl _,.bx=>true|.bx,.str _=>true|.str _,.bx=>true
 |.int _,.int _=>true|.bl _,.bl _=>true|.str _,.str _=>true|.jL _,.jL _=>true
 |.int _,.str _=>true|.str _,.int _=>true|.bl _,.str _=>true|.str _,.bl _=>true
 |_,_=>false
def Js:R2:=λx y H Q=>Ep x y=true/\Q (.bl (decide (x=y))) H
def Jr:R2:=λx y H Q=>Ep x y=true/\Q (.bl (!decide (x=y))) H
theorem wx{i j:Int}:decide (V.int i=V.int j)=(i==j):=by
 rw[aV];simp
theorem vY{i j:Bool}:decide (V.bl i=V.bl j)=(i==j):=by
 rw[aV];simp
theorem wy{i j:Str}:decide (V.str i=V.str j)=(i==j):=by
 rw[aV];simp
theorem Hh{i j:Array UInt8}:decide (V.jL i=V.jL j)=(i.toList==j.toList):=by
 rw[aV];cases i;cases j;simp
section
variable{X:Cx}{a b c:Expr}{ta tb tc:TE}{pos:Pos}
theorem j6{pins:List (Addr×Obj)}{Z:St}{H:Hp}{s:Shared}{Q:VK}{k k':Bool}(I:Inv X pins Z H s)(q:Q (.bl k) H)(e:k=k'):EP X pins Z Q (.bool k') s:=by
 subst e;exact⟨.bl k,H,I,rfl,q⟩
theorem Bg:ft X (compareOp .Eq) Js:=by
 intro pins s Z H x y v u Q I rx ry h;obtain⟨hs,q⟩:=h;cases x with
 |bx =>
  cases rx;cases y with
  |bx=>cases ry;exact PySem.EqNone.eq_none_none (j6 I q (by simp))
  |bl j=>cases ry;exact PySem.EqNone.eq_none_bool (j6 I q (by simp))
  |int j=>obtain⟨t',rfl⟩:=ry;exact PySem.EqNone.eq_none_int (j6 I q (by simp))
  |str j=>obtain⟨t',rfl⟩:=ry;exact PySem.EqNone.eq_none_str (j6 I q (by simp))
  |_=>exact absurd (show false=true from hs) Bool.false_ne_true
 |bl i =>
  cases rx;cases y with
  |bx=>cases ry;exact PySem.EqNone.eq_bool_none (j6 I q (by simp))
  |bl j=>cases ry;exact eq_bool (j6 I q vY)
  |str j=>obtain⟨t',rfl⟩:=ry;exact PySem.EqMixed.eq_bool_str (j6 I q (by simp))
  |_=>exact absurd (show false=true from hs) Bool.false_ne_true
 |int i =>
  obtain⟨t,rfl⟩:=rx;cases y with
  |bx=>cases ry;exact PySem.EqNone.eq_int_none (j6 I q (by simp))
  |int j=>obtain⟨t',rfl⟩:=ry;exact eq_int (j6 I q wx)
  |str j=>obtain⟨t',rfl⟩:=ry;exact PySem.EqMixed.eq_int_str (j6 I q (by simp))
  |_=>exact absurd (show false=true from hs) Bool.false_ne_true
 |str i =>
  obtain⟨t,rfl⟩:=rx;cases y with
  |bx=>cases ry;exact PySem.EqNone.eq_str_none (j6 I q (by simp))
  |bl j=>cases ry;exact PySem.EqMixed.eq_str_bool (j6 I q (by simp))
  |int j=>obtain⟨t',rfl⟩:=ry;exact PySem.EqMixed.eq_str_int (j6 I q (by simp))
  |str j=>obtain⟨t',rfl⟩:=ry;exact eq_str (j6 I q wy)
  |_=>exact absurd (show false=true from hs) Bool.false_ne_true
 |jL i =>
  obtain⟨t,rfl⟩:=rx;cases y with
  |jL j=>obtain⟨t',rfl⟩:=ry;exact PySem.W.eq_bytes (j6 I q Hh)
  |_=>exact absurd (show false=true from hs) Bool.false_ne_true
 |_=>cases y<;>exact absurd (show false=true from hs) bH
theorem Bh:ft X (compareOp .NotEq) Jr:=by
 intro pins s Z H x y v u Q I rx ry h;obtain⟨hs,q⟩:=h;cases x with
 |bx =>
  cases rx;cases y with
  |bx=>cases ry;exact PySem.EqNone.ne_none_none (j6 I q (by simp))
  |bl j=>cases ry;exact PySem.EqNone.ne_none_bool (j6 I q (by simp))
  |int j=>obtain⟨t',rfl⟩:=ry;exact PySem.EqNone.ne_none_int (j6 I q (by simp))
  |str j=>obtain⟨t',rfl⟩:=ry;exact PySem.EqNone.ne_none_str (j6 I q (by simp))
  |_=>exact absurd (show false=true from hs) Bool.false_ne_true
 |bl i =>
  cases rx;cases y with
  |bx=>cases ry;exact PySem.EqNone.ne_bool_none (j6 I q (by simp))
  |bl j=>cases ry;exact ne_bool (j6 I q (congrArg not vY))
  |str j=>obtain⟨t',rfl⟩:=ry;exact PySem.EqMixed.ne_bool_str (j6 I q (by simp))
  |_=>exact absurd (show false=true from hs) Bool.false_ne_true
 |int i =>
  obtain⟨t,rfl⟩:=rx;cases y with
  |bx=>cases ry;exact PySem.EqNone.ne_int_none (j6 I q (by simp))
  |int j=>obtain⟨t',rfl⟩:=ry;exact ne_int (j6 I q (congrArg not wx))
  |str j=>obtain⟨t',rfl⟩:=ry;exact PySem.EqMixed.ne_int_str (j6 I q (by simp))
  |_=>exact absurd (show false=true from hs) Bool.false_ne_true
 |str i =>
  obtain⟨t,rfl⟩:=rx;cases y with
  |bx=>cases ry;exact PySem.EqNone.ne_str_none (j6 I q (by simp))
  |bl j=>cases ry;exact PySem.EqMixed.ne_str_bool (j6 I q (by simp))
  |int j=>obtain⟨t',rfl⟩:=ry;exact PySem.EqMixed.ne_str_int (j6 I q (by simp))
  |str j=>obtain⟨t',rfl⟩:=ry;exact ne_str (j6 I q (congrArg not wy))
  |_=>exact absurd (show false=true from hs) Bool.false_ne_true
 |jL i =>
  obtain⟨t,rfl⟩:=rx;cases y with
  |jL j=>obtain⟨t',rfl⟩:=ry;exact PySem.W.ne_bytes (j6 I q (congrArg not Hh))
  |_=>exact absurd (show false=true from hs) Bool.false_ne_true
 |_=>cases y<;>exact absurd (show false=true from hs) bH
theorem Ue:ft X (compareOp .Lt) (kj λi j=>.bl (decide (i<j))):=xa λ_ _ _ _ _ _ _ q=>lt_int q
theorem Ud:ft X (compareOp .LtE) (kj λi j=>.bl (decide (i<=j))):=xa λ_ _ _ _ _ _ _ q=>le_int q
theorem Uc:ft X (compareOp .Gt) (kj λi j=>.bl (decide (j<i))):=xa λ_ _ _ _ _ _ _ q=>gt_int q
theorem Ub:ft X (compareOp .GtE) (kj λi j=>.bl (decide (j<=i))):=xa λ_ _ _ _ _ _ _ q=>ge_int q
theorem MW:ft X (compareOp .Is) (λx y H Q=>y=.bx/\Q (.bl (decide (x=.bx))) H):=by
 intro pins s Z H x y v u Q I rx ry h;obtain⟨rfl,q⟩:=h;cases ry;refine is_none_gen (j6 I q ?_);cases x<;>first
  |(cases rx;rfl)
  |(obtain⟨t,rfl⟩:=rx;rfl)
theorem Pq:ft X (compareOp .IsNot) (λx y H Q=>y=.bx/\Q (.bl (!decide (x=.bx))) H):=by
 intro pins s Z H x y v u Q I rx ry h;obtain⟨rfl,q⟩:=h;cases ry;refine isnot_none_gen (j6 I q ?_);cases x<;>first
  |(cases rx;rfl)
  |(obtain⟨t,rfl⟩:=rx;rfl)
theorem Ht{op:CmpOp}{r:R2}(ho:ft X (compareOp op) r)(ha:PE X a ta)(hb:PE X b tb)(hm:behindInMarks op b=false):PE X (.Compare a [op] [b] pos) (pU r ta tb):=by
 intro pins s Z H Q I h;exact wpAny_Compare1 (zK ha hb I h λv u s2 x y H2 I2 rx ry q=>ho pins s2 Z H2 x y v u Q I2 rx ry q) hm
def Bm(t:TE):TT:=λZ H Q=>t Z H λx H'=>∃k,x=.bl k/\Q k H'
theorem Hx{op:CmpOp}{r:R2}(ho:ft X (compareOp op) r)(ha:PE X a ta)(hb:PE X b tb)(hm:behindInMarks op b=false):PT X (.Compare a [op] [b] pos) (Bm (pU r ta tb)):=by
 intro pins s Z H Q I h;refine wpAny_isTrue_Compare1 (cF (ha pins s Z H _ I h) λv s1 ⟨x,H1,I1,r1,q1⟩=>cF (hb pins s1 Z H1 _ I1 q1) λu s2 ⟨y,H2,I2,r2,q2⟩ =>
  cF (ho pins s2 Z H2 x y v u _ I2 r1 r2 q2) λc s3 ⟨z,H3,I3,r3,k,e,q3⟩=>?_) hm
 subst e;cases r3;exact cx ⟨H3,I3,q3⟩
def BL(r r':R2)(ta tb tc:TE):TE:=λZ H Q=>ta Z H λx H1=>tb Z H1 λy H2=>r x y H2 λz H3=>∃k,z=.bl k /\
 (if k=true then tc Z H3 λw' H4=>r' y w' H4 Q else Q (.bl false) H3)
theorem YH{op gD:CmpOp}{r r':R2}(ho:ft X (compareOp op) r)(kL:ft X (compareOp gD) r')(ha:PE X a ta)(hb:PE X b tb)(hc:PE X c tc)(hm:lastMarks [op,gD] [b,c]=false:=by with_unfolding_all rfl):PE X (.Compare a [op,gD] [b,c] pos) (BL r r' ta tb tc):=by
 intro pins s Z H Q I h;refine Compare_chain (cF (ha pins s Z H _ I h) λv s1 ⟨x,H1,I1,r1,q1⟩=>chain_link (cF (hb pins s1 Z H1 _ I1 q1) λu s2 ⟨y,H2,I2,r2,q2⟩ =>
  cF (ho pins s2 Z H2 x y v u _ I2 r1 r2 q2) λd s3 ⟨z,H3,I3,r3,k,e,q3⟩=>?_)) hm
 subst e;cases r3;refine cx ?_;cases k with
 |false=>exact ite_ff ⟨.bl false,H3,I3,rfl,q3⟩
 |true=>exact ite_tt (chain_last (cF (hc pins s3 Z H3 _ I3 q3) λw' s4 ⟨z',H4,I4,r4,q4⟩=>kL pins s4 Z H4 y z' u w' Q I4 r2 r4 q4))
theorem YW{op gD:CmpOp}{r r':R2}(ho:ft X (compareOp op) r)(kL:ft X (compareOp gD) r')(ha:PE X a ta)(hb:PE X b tb)(hc:PE X c tc)(hm:lastMarks [op,gD] [b,c]=false:=by with_unfolding_all rfl):PT X (.Compare a [op,gD] [b,c] pos) (Bm (BL r r' ta tb tc)):=by
 intro pins s Z H Q I h;refine isTrue_chain (cF (ha pins s Z H _ I h) λv s1 ⟨x,H1,I1,r1,q1⟩=>test_link (cF (hb pins s1 Z H1 _ I1 q1) λu s2 ⟨y,H2,I2,r2,q2⟩ =>
  cF (ho pins s2 Z H2 x y v u _ I2 r1 r2 q2) λd s3 ⟨z,H3,I3,r3,k,e,q3⟩=>?_)) hm
 subst e;cases r3;refine cx ?_;cases k with
 |false =>
  obtain⟨k',e',q'⟩:=q3;cases e';exact ite_ff ⟨H3,I3,q'⟩
 |true =>
  refine ite_tt (test_last (cF (hc pins s3 Z H3 _ I3 q3) λw' s4 ⟨z',H4,I4,r4,q4⟩=>cF (kL pins s4 Z H4 y z' u w' _ I4 r2 r4 q4) λd' s5 bq=>?_));obtain⟨z2,H5,I5,r5,k2,e2,q5⟩:=bq;subst e2;cases r5;exact cx ⟨H5,I5,q5⟩
def zJ(K:PySem.W.Frag)(x:V)(H:Hp)(k:Bool):Prop :=
 match x with
 |.bx=>k=false
 |.bl b=>k=b
 |.int i=>k=(i != 0)
 |.str y=>y.length<=sizeLine/\k=((y.length:Int) != 0)
 |.jL y=>y.size<=sizeLine/\k=((y.size:Int) != 0)
 |.ref p=>(∃xs,fo K H p xs/\k=!xs.isEmpty)\/(∃xs,gF K H p xs/\k=!xs.isEmpty)\/∃kvs,H p=some (.dK kvs)/\k=!kvs.isEmpty
 |_=>False
theorem Xc{κ:Type}{kvs:List (κ×V)}{vs:List (κ×Value)}(r:KV kvs vs):(!vs.isEmpty)=!kvs.isEmpty:=by
 cases r<;>rfl
theorem Ga{xs:List V}{aW:List Value}(r:Vals xs aW):(!aW.toArray.isEmpty)=!xs.isEmpty:=by
 cases r<;>simp
theorem T6:(sizeLine:Nat)<2 ^ 63:=by rw[sizeLine_eq];decide
theorem Oz:Rc X (λx H Q=>∃k,zJ X.K x H k/\Q k H):=by
 intro pins s Z H x v Q I rx h;obtain⟨k,e,q⟩:=h;have hl:=T6;have hs:sizeLine=16777216:=sizeLine_eq;cases x with
 |bx =>
  cases rx;have e':k=false:=e;subst e';exact truthy_none ⟨H,I,q⟩
 |bl b =>
  cases rx;have e':k=b:=e;subst e';exact cx ⟨H,I,q⟩
 |int i =>
  obtain⟨t,rfl⟩:=rx;have e':k=(i != 0):=e;subst e';exact PySem.P.truthy_int ⟨H,I,q⟩
 |str y =>
  obtain⟨t,rfl⟩:=rx;obtain⟨hy,e'⟩:y.length<=sizeLine/\k=((y.length:Int) != 0):=e;subst e';exact PySem.P.truthy_str (by omega) ⟨H,I.tok _,q⟩
 |jL y =>
  obtain⟨t,rfl⟩:=rx;obtain⟨hy,e'⟩:y.size<=sizeLine/\k=((y.size:Int) != 0):=e;subst e';exact PySem.W.truthy_bytes (by omega) ⟨H,I.tok _,q⟩
 |ref p =>
  cases rx;have e':(∃xs,fo X.K H p xs/\k=!xs.isEmpty)\/(∃xs,gF X.K H p xs/\k=!xs.isEmpty)\/∃kvs,H p=some (.dK kvs)/\k=!kvs.isEmpty:=e;rcases e' with⟨xs,hx,e'⟩|⟨xs,hx,e'⟩|⟨kvs,hx,e'⟩
  ·subst e';obtain⟨aW,r,pl,hz⟩:=I.list hx;have hlen:=r.length;exact wpAny_truthy_list pl.isList (by simp only[List.size_toArray];omega) ⟨H,I.tok _,by rw[Ga r];exact q⟩
  ·subst e';obtain⟨aW,r,pl,hz⟩:=I.tuple hx;have hlen:=r.length;exact truthy_tuple pl (by simp only[List.size_toArray];omega) ⟨H,I.tok _,by rw[Ga r];exact q⟩
  ·subst e';obtain⟨hz,hS,vs,r,m⟩:kvs.length<=sizeLine/\(p==sysModules)=false/\∃vs,KV kvs vs/\s.heap.DictOf (q8 X.prog X.w) p vs:=I.bR p _ hx;have hlen:kvs.length=vs.length:=Paired.length r;exact wpAny_truthy_dict hS m (by omega) ⟨H,I.tok _,by rw[Xc r];exact q⟩
 |_=>exact(show False from e).elim
theorem YX(ha:PE X a ta)(he:∀whole,isTrue a X.env whole=(do let v <- whole;standAt a.pos;holding [v] (truthy v))) :
  PT X a (λZ H Q=>ta Z H λx H'=>∃k,zJ X.K x H' k/\Q k H'):=by
 intro pins s Z H Q I h;exact isTrue_plain (cF (ha pins s Z H _ I h) λv s1 ⟨x,H1,I1,r1,q1⟩=>Oz pins s1 Z H1 x v Q I1 r1 q1) (he _)
theorem Xp:ft X (binaryOp .Add) (λx y H Q=>∃i j,x=.str i/\y=.str j/\i.length+j.length<=sizeLine/\Q (.str (i++j)) H):=by
 intro pins s Z H x y v u Q I rx ry h;obtain⟨i,j,rfl,rfl,hz,q⟩:=h;obtain⟨t,rfl⟩:=rx;obtain⟨t',rfl⟩:=ry;exact add_str (λt' tk=>⟨.str (i++j),H,I.tok _,⟨_,rfl⟩,q⟩) hz
theorem vals1{x:V}{us:List Value}(r:Vals [x] us):∃u,us=[u]/\RelV x u:=by
 cases r with
 |cons r1 r2=>cases r2;exact⟨_,rfl,r1⟩
theorem vals2{x y:V}{us:List Value}(r:Vals [x,y] us):∃u w',us=[u,w']/\RelV x u/\RelV y w':=by
 cases r with
 |cons r1 r2 =>
  cases r2 with
  |cons r3 r4=>cases r4;exact⟨_,_,rfl,r1,r3⟩
theorem ZK(hc:X.calm=true):m5 X (.builtin "max") (λxs H Q=>∃i j,xs=[.int i,.int j]/\Q (.int (if j>i then j else i)) H):=by
 intro pins s Z H xs us Q I r h;obtain⟨i,j,rfl,q⟩:=h;obtain⟨u,w',rfl,⟨t,rfl⟩,⟨t',rfl⟩⟩:=vals2 r;refine max_two_ints (I.ok.hd hc) λh' tk k=>⟨_,H,I.kept k,?_,q⟩
 by_cases hj:j>i
 ·rw[aK hj,aK hj];exact⟨_,rfl⟩
 ·rw[aC hj,aC hj];exact⟨_,rfl⟩
theorem ZM(hc:X.calm=true):m5 X (.builtin "min") (λxs H Q=>∃i j,xs=[.int i,.int j]/\Q (.int (if j<i then j else i)) H):=by
 intro pins s Z H xs us Q I r h;obtain⟨i,j,rfl,q⟩:=h;obtain⟨u,w',rfl,⟨t,rfl⟩,⟨t',rfl⟩⟩:=vals2 r;refine min_two_ints (I.ok.hd hc) λh' tk k=>⟨_,H,I.kept k,?_,q⟩
 by_cases hj:j<i
 ·rw[aK hj,aK hj];exact⟨_,rfl⟩
 ·rw[aC hj,aC hj];exact⟨_,rfl⟩
theorem Fq:m5 X (.type "int") (λxs H Q=>(∃i,xs=[.int i]/\Q (.int i) H)\/∃k,xs=[.bl k]/\Q (.int (if k then 1 else 0)) H):=by
 intro pins s Z H xs us Q I r h;rcases h with⟨i,rfl,q⟩|⟨k,rfl,q⟩
 ·obtain⟨u,rfl,t,rfl⟩:=vals1 r;exact call_int_int ⟨.int i,H,I,⟨_,rfl⟩,q⟩
 ·obtain⟨u,rfl,r1⟩:=vals1 r;cases r1;exact call_int_bool ⟨.int (if k then 1 else 0),H,I.tok _,⟨_,rfl⟩,q⟩
end
structure qx(h:Heap)(x dx C:Addr)(mA:Str->Option Value):Prop where
 obj:h.get? x=some (PySem.W.instObj C dx)
 ns:h.Ns1 dx mA
 ne:dx≠x
theorem FA{h:Heap}{dx:Addr}{mA:Str->Option Value}(n:h.Ns1 dx mA):∃od,h.get? dx=some od/\∀name,PySem.W.lookIn name od=some (mA name):=by
 obtain⟨o,es,ep,ho,hd,hk,_,hm⟩:=n;refine⟨o,ho,λname=>?_⟩;have e:=hm name;unfold nsFind findBy at e;rw[<- Array.find?_toList] at e;unfold PySem.W.lookIn;rw[hd];dsimp only;split
 ·rename_i y q;rw[q] at e;exact congrArg some e
 ·rename_i q;rw[q] at e;have a:es.toList.any (·.refKey)=false:=by
   rw[List.any_eq_false];intro y hy;obtain⟨z,t,jg⟩:=hk y (Array.mem_toList_iff.mp hy);simp[DictEntry.refKey,jg]
  have a':¬es.toList.any (·.refKey)=true:=by rw[a];exact bH
  rw[aC a'];exact congrArg some e
theorem qx.look{h:Heap}{x dx C:Addr}{mA:Str->Option Value}(I:qx h x dx C mA):∃od,PySem.W.InstAt h x (PySem.W.instObj C dx) C (some od)/\∀name,PySem.W.lookIn name od=some (mA name) :=
 let ⟨od,ho,hl⟩:=FA I.ns
 ⟨od,⟨I.obj,rfl,rfl,ho⟩,hl⟩
section
variable{prog:Program}{w:World}{A:Around}{E:Value->Shared->Prop}{s:Shared}{K:PySem.W.Frag}{x dx C f:Addr}{mA:Str->Option Value}{name:Str}{v:Value}
theorem get_map{expr:Bool}{Q:Value->Shared->Prop}(X:K.In s.heap)(I:qx s.heap x dx C mA)(hg:PySem.W.plainGet K C name=true)(hh:PySem.W.hasDictIn K C=true)(ha:PySem.W.findIn K (.ref C) name=some none)(hv:mA name=some v)(xW:PySem.W.handedIn v=true)(h:Q v { s with toks:=s.toks+1 }) :
  wpAny (model prog w) A (getAttr (.ref x) name expr) Q E s:=by
 obtain⟨od,J,hl⟩:=I.look;exact PySem.W.get_value X J (PySem.W.plainGet_of hg).1 (PySem.W.findObj_own hh ha rfl (by rw[hl,hv])) xW h
theorem Qp{ns:List Str}{Q:Unit->Shared->Prop}(X:K.In s.heap)(I:qx s.heap x dx C mA)(hs:PySem.W.findIn K (.ref C) "__setattr__"=some (some (.builtin "object.__setattr__")))(hp:PySem.W.plainOver K C=true)(ht:PySem.W.takerIn K C name=some none)(hh:PySem.W.hasDictIn K C=true)(hw:PySem.Within mA ns)(hsz:ns.length<=sizeLine)(h:∀h',qx h' x dx C (λy=>if y=name then some v else mA y)->Heap.SameBut dx s.heap h'->Q () { s with heap:=h',toks:=s.toks+2 }) :
  wpAny (model prog w) A (setAttr (.ref x) name v) Q E s:=by
 obtain⟨od,J,hl⟩:=I.look;refine PySem.W.set_plain X J hs (PySem.W.osa_open (s:={ s with toks:=s.toks+1 }) (r:=none) X J hp ht λb=>?_);obtain⟨cd,hc,yA⟩:=PySem.W.any_some hh;have hx:s.heap.get? x=some ⟨.ref C,some dx,.plain,#[]⟩:=I.obj;refine ae (av (ae (ae (wpAny_loadPart hx (ae (PySem.W.Looks.here (s:={ s with toks:=s.toks+1 }) (PySem.W.looks_clsIn X hc) ?_))))));rw[yA];refine av (a:=some dx) (ae (av (ae ?_)));refine wpAny_nsSet1 (s:={ s with toks:=s.toks+1 }) I.ns λh' lY ia=>?_;obtain⟨oD,esD,epD,JY,Kx,Kz⟩:=lY.count (PySem.Within.cons name v hw);refine ae (wpAny_lookBehind JY (by rw[Kx];exact pastItsLine_dict (aG Kz (by rw[cS];omega))) ?_);exact av (h _ ⟨(ia.2 _ (bP I.ne)).trans I.obj,lY,I.ne⟩ ia)
theorem Yx{R:Result->Shared->Prop}{vs:List Value}{kw:List (Str×Value)}(X:K.In s.heap)(hm:PySem.W.makesIn K C=true)(hi:PySem.W.findIn K (.ref C) "__init__"=some (some (.ref f)))(hf:PySem.W.typeIn K (.ref f)=some (.type "function"))(h:codeAny (model prog w) (A.under (.builtin "type.__call__" ⟨.ref C :: vs,kw⟩)) (.call (.ref f) ⟨.ref (s.heap.objs.size + 1) :: vs,kw⟩) (PySem.W.InitBack (s.heap.objs.size + 1) R)
   { s with heap:=(s.heap.push PySem.W.emptyDict).push (PySem.W.instObj C s.heap.objs.size) }) :
  codeAny (model prog w) A (.call (.ref C) ⟨vs,kw⟩) R s:=by
 obtain⟨hh,g,d,t,os⟩:=s;exact PySem.W.make_core (PySem.W.makes_of X hm) (PySem.W.looks_findIn X hi) (λself=>PySem.W.bind_fn X self hf) (.inl rfl) h
end
def A7(f:Str)(v:V):List (Str×V)->List (Str×V)
 |[]=>[(f,v)]
 |(g,x)::r=>if g=f then(g,v)::r else(g,x)::A7 f v r
theorem Gv(f g:Str)(v:V):∀fs:List (Str×V),(A7 f v fs).lookup g=if g=f then some v else fs.lookup g
 |[]=>by
  show List.lookup g [(f,v)]=_;by_cases h:g=f
  ·have hb:(g==f)=true:=fb.mpr h;simp only[List.lookup,hb,if_pos h]
  ·have hb:(g==f)=false:=dh.mpr h;simp only[List.lookup,hb,if_neg h]
 |(k,x)::r=>by
  have ih:=Gv f g v r;rw[show A7 f v ((k,x)::r)=(if k=f then(k,v)::r else(k,x)::A7 f v r) from rfl];by_cases hk:k=f
  ·rw[aK hk];by_cases h:g=k
   ·have hb:(g==k)=true:=fb.mpr h;simp only[List.lookup,hb,if_pos (h.trans hk)]
   ·have hb:(g==k)=false:=dh.mpr h;simp only[List.lookup,hb,if_neg (λe:g=f=>h (e.trans hk.symm))]
  ·rw[aC hk];by_cases h:g=k
   ·have hb:(g==k)=true:=fb.mpr h;simp only[List.lookup,hb,if_neg (λe:g=f=>hk (h.symm.trans e))]
   ·have hb:(g==k)=false:=dh.mpr h;simp only[List.lookup,hb];exact ih
theorem AD(f:Str)(v:V):∀fs:List (Str×V),f∈(A7 f v fs).map (·.1)/\∀g,g∈fs.map (·.1)->g∈(A7 f v fs).map (·.1)
 |[]=>⟨by simp[A7],λg h=>by simp at h⟩
 |(k,x)::r=>by
  obtain⟨i1,i2⟩:=AD f v r;rw[show A7 f v ((k,x)::r)=(if k=f then(k,v)::r else(k,x)::A7 f v r) from rfl];by_cases hk:k=f
  ·rw[aK hk];subst hk;exact⟨by simp,λg h=>by simpa using h⟩
  ·rw[aC hk];refine⟨?_,λg h=>?_⟩
   ·rw[bz];exact bw _ i1
   ·rw[bz] at h ⊢;rcases aL.mp h with e|e
    ·exact aL.mpr (.inl e)
    ·exact bw _ (i2 g e)
theorem Gu(f:Str)(v:V):∀fs:List (Str×V),(A7 f v fs).length<=fs.length+1
 |[]=>by simp[A7]
 |(k,x)::r=>by
  have ih:=Gu f v r;rw[show A7 f v ((k,x)::r)=(if k=f then(k,v)::r else(k,x)::A7 f v r) from rfl];by_cases hk:k=f
  ·rw[aK hk,cS,cS];omega
  ·rw[aC hk,cS,cS];omega
theorem F8.some_of{v:V}{o:Option Value}(r:F8 (some v) o):∃u,o=some u/\RelV v u:=by
 cases o with
 |none=>exact(show False from r).elim
 |some u=>exact⟨u,rfl,r⟩
theorem ZX{v:V}{u:Value}(r:RelV v u):PySem.W.handedIn u=true:=by
 cases v with
 |bx=>cases (show u=Value.none from r);rfl
 |bl b=>cases (show u=Value.bool b from r);rfl
 |int i=>obtain⟨t,e⟩:=(show ∃t,u=Value.int i t from r);cases e;rfl
 |str x=>obtain⟨t,e⟩:=(show ∃t,u=Value.str x t from r);cases e;rfl
 |jL b=>obtain⟨t,e⟩:=(show ∃t,u=Value.bytes b t from r);cases e;rfl
 |pe b=>obtain⟨t,e⟩:=(show ∃t,u=Value.float b t from r);cases e;rfl
 |ref a=>cases (show u=Value.ref a from r);rfl
 |ty n=>cases (show u=Value.type n from r);rfl
section
variable{P:Program}{w:World}{H H':Hp}{h h':Heap}{a C dx:Addr}{fs oZ:List (Str×V)}
theorem Ac(bR:fN P w H h)(e:H a=some (.ins C dx fs)):∃mA,qx h a dx C mA/\(∀f,F8 (fs.lookup f) (mA f))/\PySem.Within mA (fs.map (·.1))/\fs.length<=1000/\H dx=some (.own a):=by
 obtain⟨d,z,ne,ob,mA,n,r,q⟩:=(show m8 P w H h a (.ins C dx fs) from bR a _ e)
 exact⟨mA,⟨ob,n,ne⟩,r,q,z,d⟩
end
structure iU(K:PySem.W.Frag)(C:Addr):Prop where
 pg:PySem.W.plainGet K C Str.empty=true
 hd:PySem.W.hasDictIn K C=true
 po:PySem.W.plainOver K C=true
 sa:PySem.W.findIn K (.ref C) "__setattr__"=some (some (.builtin "object.__setattr__"))
theorem iU.get{K:PySem.W.Frag}{C:Addr}(c:iU K C)(f:Str):PySem.W.plainGet K C f=true:=c.pg
def B8(K:PySem.W.Frag)(C:Addr)(f:Str):Prop:=PySem.W.findIn K (.ref C) f=some none
theorem B8.US{K:PySem.W.Frag}{C:Addr}{f:Str}(n:B8 K C f):PySem.W.takerIn K C f=some none:=by
 unfold PySem.W.takerIn;rw[show PySem.W.findIn K (.ref C) f=some none from n]
 rfl
structure Meth(K:PySem.W.Frag)(C:Addr)(m:Str)(f:Addr):Prop where
 at_:PySem.W.findIn K (.ref C) m=some (some (.ref f))
 fn:PySem.W.isFn K (.ref f)=true
 kp:PySem.W.keepIn K (.ref f)=true
section
variable{X:Cx}{pins:List (Addr×Obj)}{Z:St}{H:Hp}{s:Shared}{a C dx:Addr}{fs:List (Str×V)}{f:Str}{v:V}{A:Around}{E:Value->Shared->Prop}
theorem Xb{b:Bool}{Q:Value->Shared->Prop}(I:Inv X pins Z H s)(e:H a=some (.ins C dx fs))(c:iU X.K C)(n:B8 X.K C f)(l:fs.lookup f=some v)(h:∀u s',Inv X pins Z H s'->RelV v u->Q u s'):wpAny (model X.prog X.w) A (getAttr (.ref a) f b) Q E s:=by
 obtain⟨mA,O,r,_,_,_⟩:=Ac I.bR e;obtain⟨u,hu,ru⟩:=F8.some_of (v:=v) (o:=mA f) (by rw[<- l];exact r f);exact get_map I.fV O (c.get f) c.hd n hu (ZX ru) (h u _ (I.tok _) ru)
theorem Xv{y:V}{u:Value}{Q:Unit->Shared->Prop}(I:Inv X pins Z H s)(e:H a=some (.ins C dx fs))(c:iU X.K C)(n:B8 X.K C f)(hl:fs.length<1000)(ry:RelV y u)(h:∀s',Inv X pins Z (upd H a (.ins C dx (A7 f y fs))) s'->Q () s'):wpAny (model X.prog X.w) A (setAttr (.ref a) f u) Q E s:=by
 obtain⟨mA,O,r,wi,_,ho⟩:=Ac I.bR e;have hz:(fs.map (·.1)).length<=sizeLine:=by rw[ao,sizeLine_eq];omega
 refine Qp I.fV O c.sa c.po n.US c.hd wi hz λh' O' sb=>h _ ?_;have hd:∃o,h'.get? dx=some o:=let ⟨o,_,_,e',_⟩:=O'.ns;⟨o,e'⟩
 refine I.write (x:=a) (e:=dx) (by rw[e];exact True.intro) (.inr ho) (λb q hb z=>(sb.2 b hb).trans z) hd ?_;refine⟨by rw[d8 O.ne];exact ho,?_,O.ne,O'.obj,_,O'.ns,λg=>?_,λg hg=>?_⟩
 ·have:=Gu f y fs;omega
 ·show F8 ((A7 f y fs).lookup g) (if g=f then some u else mA g);rw[Gv];by_cases q:g=f
  ·rw[aK q,aK q];exact ry
  ·rw[aC q,aC q];exact r g
 ·by_cases q:g=f
  ·rw[q];exact(AD f y fs).1
  ·refine(AD f y fs).2 g (wi g λz=>hg ?_);show(if g=f then some u else mA g)=none;rw[aC q];exact z
theorem Inv.made(I:Inv X pins Z H s):Inv X pins Z (upd (upd H s.heap.objs.size (.own (s.heap.objs.size+1))) (s.heap.objs.size+1) (.ins C s.heap.objs.size []))
  { s with heap:=(s.heap.push PySem.W.emptyDict).push (PySem.W.instObj C s.heap.objs.size) }:=by
 have e1:(s.heap.push PySem.W.emptyDict).get? s.heap.objs.size=some PySem.W.emptyDict:=aH s.heap rfl;have e2:((s.heap.push PySem.W.emptyDict).push (PySem.W.instObj C s.heap.objs.size)).get? (s.heap.objs.size+1)=some (PySem.W.instObj C s.heap.objs.size):=by
  have:=aH (s.heap.push PySem.W.emptyDict) (o:=PySem.W.instObj C s.heap.objs.size) rfl
  rwa [eP] at this
 have e3:(s.heap.push PySem.W.emptyDict).Ns s.heap.objs.size (λ_=>none):=⟨PySem.W.emptyDict,#[],_,e1,rfl,(λe he=>absurd he (by simp)),λ_=>rfl⟩
 have I1:=I.laid (a:=s.heap.objs.size) (o:=.own (s.heap.objs.size+1)) (h':=s.heap.push PySem.W.emptyDict) (t':=s.toks) (λb u q=>au _ q) (aw _) ⟨_,e1⟩;refine I1.laid (a:=s.heap.objs.size+1) (o:=.ins C s.heap.objs.size []) (t':=s.toks) (λb u q=>au _ q) (Nat.le_of_eq (eP _ _)) ?_;have ne:s.heap.objs.size≠s.heap.objs.size+1:=aR (Nat.lt_succ_self _);refine⟨by rw[d8 ne,u3],cJ _,ne,e2,λ_=>none,(Heap.Ns1.of_empty e3).at λo q=>au _ q,λ_=>True.intro,λy hy=>absurd rfl hy⟩
theorem ON{prog:Program}{w:World}{env:Env}{e:Expr}{f:Str}{pos:Pos}{s:Shared}{Q:Value->Shared->Prop}(hb:attributeBase e f env (eval e env)=eval e env)(h:wpAny (model prog w) A (eval e env) (λo cj=>wpAny (model prog w) A (getAttr o f true) Q E cj) E s):wpAny (model prog w) A (eval (.Attribute e f pos) env) Q E s :=
 Attribute_any_ h (by rw[arm_eval_Attribute,hb])
end
def Ss(K:PySem.W.Frag)(ta:TE)(f:Str):TE:=λZ H Q=>ta Z H λx H1=>∃a C dx fs v,x=.ref a/\H1 a=some (.ins C dx fs)/\iU K C/\B8 K C f/\fs.lookup f=some v/\Q v H1
def Sg(K:PySem.W.Frag)(ta tv:TE)(f:Str):TS:=λD Z H=>tv Z H λy H1=>ta Z H1 λx H2=>∃a C dx fs,x=.ref a/\H2 a=some (.ins C dx fs)/\iU K C/\B8 K C f/\fs.length<1000 /\
 D.nx Z (upd H2 a (.ins C dx (A7 f y fs)))
def Ff(X:Cx)(op:Operator)(rd:V->V->Hp->VK->Prop):Prop :=
 ∀(pins:List (Addr×Obj)) (s:Shared) (Z:St) (H:Hp) (x y:V) (u v:Value) (Q:VK),Inv X pins Z H s->RelV x u->RelV y v->rd x y H Q->wpAny (model X.prog X.w) X.A (inplaceOp op u v) (EP X pins Z Q) X.xe s
section
variable{X:Cx}{o e value:Expr}{f:Str}{pos pos' xt:Pos}{ta tv:TE}
theorem Nh(he:PE X e ta)(hb:attributeBase e f X.env (eval e X.env)=eval e X.env):PE X (.Attribute e f pos) (Ss X.K ta f):=by
 intro pins s Z H Q I h;refine ON hb (cF (he pins s Z H _ I h) λu s1 bq=>?_);obtain⟨x,H1,I1,rx,a,C,dx,fs,v,ex,ea,c,n,l,q⟩:=bq;subst ex;obtain rfl:u=Value.ref a:=rx;exact Xb I1 ea c n l λu' s2 I2 ru=>⟨v,H1,I2,ru,q⟩
theorem Nw(ha:PE X o ta)(hv:PE X value tv)(hs:swapsWith value (some (.Attribute o f pos')) pos.line X.env=pure false):PS X (.Assign [.Attribute o f pos'] value pos) (Sg X.K ta tv f):=by
 intro pins s Z H D I h;refine plainObj_wpAny_Assign_Attribute (cF (hv pins s Z H _ I h) λu s1 ⟨y,H1,I1,ry,q⟩=>cF (ha pins s1 Z H1 _ I1 q) λov s2 bq=>?_) hs;obtain⟨x,H2,I2,rx,a,C,dx,fs,ex,ea,c,n,l,q2⟩:=bq;subst ex;obtain rfl:ov=Value.ref a:=rx;exact Xv I2 ea c n l ry λs3 I3=>⟨Z,_,I3,q2⟩
def RU:V->V->Hp->VK->Prop:=λx y H Q=>∃i j,x=.int i/\y=.int j/\Q (.int (i+j)) H
theorem Vq:Ff X .Add RU:=by
 rintro pins s Z H x y u v Q I rx ry ⟨i,j,rfl,rfl,q⟩;obtain⟨t,rfl⟩:=(show ∃t,u=Value.int i t from rx)
 obtain⟨t',rfl⟩:=(show ∃t',v=Value.int j t' from ry)
 exact PyProof.Rows.iadd_int ⟨.int (i+j),H,I.tok _,⟨_,rfl⟩,q⟩
end
section
variable{X:Cx}{pins:List (Addr×Obj)}{Z:St}{H:Hp}{s:Shared}{A:Around}{E:Value->Shared->Prop}{Q:Value->Shared->Prop}{c:Value}{b:Bool}
inductive gi(K:PySem.W.Frag)(H:Hp):V->Value->Prop where
 |bx:gi K H .bx (.type "NoneType")
 |bl (x:Bool):gi K H (.bl x) (.type "bool")
 |int (i:Int):gi K H (.int i) (.type "int")
 |str (x:Str):gi K H (.str x) (.type "str")
 |pe (x:UInt64):gi K H (.pe x) (.type "float")
 |lst {a:Addr} {xs:List V} (e:H a=some (.lst xs)):gi K H (.ref a) (.type "list")
 |iQ {a:Addr} {o:Obj} {xs:List V} (e:H a=some (.iQ o (.lst xs))):gi K H (.ref a) (.type "list")
 |tup {a:Addr} {xs:List V} (e:H a=some (.tup xs)):gi K H (.ref a) (.type "tuple")
 |dK {a:Addr} {kvs:List (Key×V)} (e:H a=some (.dK kvs)):gi K H (.ref a) (.type "dict")
 |dT {a:Addr} {kvs:List (List Key×V)} (e:H a=some (.dT kvs)):gi K H (.ref a) (.type "dict")
 |ins {a C dx:Addr} {fs:List (Str×V)} (e:H a=some (.ins C dx fs)) (cl:iU K C) (ha:PySem.W.findIn K (.ref C) "__class__"=some (some (.builtin "object.__class__")))
   (hn:PySem.W.specialIn K (.builtin "object.__class__") "__get__"=some (some (.builtin "getset_descriptor.__get__"))) (vd:PySem.W.takesIn K (.builtin "object.__class__")=some true)
   (hm:PySem.W.mroIn K C (.type "object")=some true):gi K H (.ref a) (.ref C)
theorem Z'{x:V}{u t:Value}(I:Inv X pins Z H s)(rx:RelV x u)(ty:gi X.K H x t)(e:PySem.W.kitOne X.K t c=some b)(h:∀tk,Q (.bool b) { s with toks:=tk }) :
  wpAny (model X.prog X.w) A (call (.builtin "isinstance") [u,c]) Q E s:=by
 cases ty with
 |bx=>cases (show u=Value.none from rx);exact bW PySem.W.kitx_none I.fV True.intro e (λz=>nomatch z) h
 |bl y=>cases (show u=Value.bool y from rx);exact bW PySem.W.kitx_bool I.fV True.intro e (λz=>nomatch z) h
 |int i=>obtain⟨t,q⟩:=(show ∃t,u=Value.int i t from rx);cases q;exact bW PySem.W.kitx_int I.fV True.intro e (λz=>nomatch z) h
 |str y=>obtain⟨t,q⟩:=(show ∃t,u=Value.str y t from rx);cases q;exact bW PySem.W.kitx_str I.fV True.intro e (λz=>nomatch z) h
 |pe y=>obtain⟨t,q⟩:=(show ∃t,u=Value.float y t from rx);cases q;exact bW PySem.W.kitx_float I.fV True.intro e (λz=>nomatch z) h
 |@lst a xs ea =>
  cases (show u=Value.ref a from rx);obtain⟨_,_,n,_,h1⟩:=(show m8 X.prog X.w H s.heap a (.lst xs) from I.bR a _ ea)
  exact bW PySem.W.kitx_list I.fV ⟨_,h1,rfl⟩ e (λz=>nomatch z) h
 |@iQ a ob xs ea =>
  cases (show u=Value.ref a from rx);obtain⟨_,_,_,n,_,h1⟩:=(show m8 X.prog X.w H s.heap a (.iQ ob (.lst xs)) from I.bR a _ ea)
  exact bW PySem.W.kitx_list I.fV ⟨_,h1,rfl⟩ e (λz=>nomatch z) h
 |@tup a xs ea =>
  cases (show u=Value.ref a from rx);obtain⟨_,_,_,p⟩:=(show m8 X.prog X.w H s.heap a (.tup xs) from I.bR a _ ea)
  obtain⟨o,h1,h2,_⟩:=p;exact bW PySem.W.kitx_tuple I.fV ⟨o,h1,h2⟩ e (λz=>nomatch z) h
 |@dK a kvs ea =>
  cases (show u=Value.ref a from rx);obtain⟨_,_,vs,_,p⟩:=(show m8 X.prog X.w H s.heap a (.dK kvs) from I.bR a _ ea)
  obtain⟨o,es,ep,h1,h2,_⟩:=p;exact bW PySem.W.kitx_dict I.fV ⟨o,h1,h2.1⟩ e (λz=>nomatch z) h
 |@dT a kvs ea =>
  cases (show u=Value.ref a from rx);obtain⟨_,_,xs,_,o,es,ep,h1,h2,_⟩:=(show m8 X.prog X.w H s.heap a (.dT kvs) from I.bR a _ ea)
  exact bW PySem.W.kitx_dict I.fV ⟨o,h1,h2.1⟩ e (λz=>nomatch z) h
 |@ins a C dx fs ea cl ha hn vd hm =>
  cases (show u=Value.ref a from rx);obtain⟨mA,O,_⟩:=Ac I.bR ea;obtain⟨od,J,_⟩:=O.look;exact bW (PySem.W.kitx_own (cl.get _) cl.hd ha hn vd hm) I.fV J e (λz=>nomatch z) h
end
structure w9(k:Nat)(A:Around):Prop where
 hd:A.handled=none
 dp:A.depth+3*k+5<recursionLimit
 un:A.units+16*k+200<cLine
theorem w9.mono{j k:Nat}{A:Around}(r:w9 k A)(h:j<=k):w9 j A:=⟨r.hd,by have:=r.dp;omega,by have:=r.un;omega⟩
theorem w9.deeper{k:Nat}{A:Around}(r:w9 (k+1) A)(env:Env):w9 k (A.deeper env) :=
 ⟨r.hd,by have:=r.dp;show A.depth+1+3*k+5<_;omega,by have:=r.un;show A.units+3+16*k+200<_;omega⟩
theorem Xh{A:Around}{C:Addr}{us:List Value}{kw:List (Str×Value)}:(A.under (.builtin "type.__call__" ⟨.ref C::us,kw⟩)).depth=A.depth+1:=by
 first|rfl|simp[Around.under,Code.weight,Code.isCreation,Code.isGuard,Code.isCaller,Code.frames,Code.isFrame,guardIds]
theorem Xi{A:Around}{C:Addr}{us:List Value}{kw:List (Str×Value)}:(A.under (.builtin "type.__call__" ⟨.ref C::us,kw⟩)).units=A.units+1:=by
 first|rfl|simp[Around.under,Code.cUnits,Code.frames,Code.isFrame]
theorem w9.make{k:Nat}{A:Around}(r:w9 (k+1) A)(C:Addr)(us:List Value)(kw:List (Str×Value)):w9 k (A.under (.builtin "type.__call__" ⟨.ref C::us,kw⟩)) :=
 ⟨r.hd,by have:=r.dp;rw[Xh];omega,by have:=r.un;rw[Xi];omega⟩
theorem w9.depth{k:Nat}{A:Around}(r:w9 k A):A.depth<recursionLimit:=by have:=r.dp;omega
def Et:TA:=λ_ H Q=>Q [] H
def UK(ta:TE)(tr:TA):TA:=λZ H Q=>ta Z H λx H1=>tr Z H1 λxs H2=>Q (x::xs) H2
section
variable{X:Cx}{e:Expr}{es:List Expr}{te:TE}{t:TA}{pos:Pos}
theorem X6:PA X [] Et:=λ_ _ _ _ H Q I h=>Calls.spliced_nil ⟨[],H,I,.nil,h⟩
theorem Q7(ha:PE X e te)(hr:PA X es t)(hs:starEach (e::es) X.env=(false,eval e X.env)::starEach es X.env:=by rfl):PA X (e::es) (UK te t):=by
 intro pos pins s Z H Q I h;rw[hs];show wpAny _ _ (spliced ((false,eval e X.env)::backTo pos (starEach es X.env))) _ _ s;refine Calls.spliced_cons (cF (ha pins s Z H _ I h) λu s1 bq=>?_);obtain⟨x,H1,I1,r1,q1⟩:=bq;exact cF (hr pos pins s1 Z H1 _ I1 q1) λus s2 ⟨xs,H2,I2,r2,q2⟩=>⟨x::xs,H2,I2,.cons r1 r2,q2⟩
def SE(t:TA):TE:=λZ H Q=>t Z H λxs H1=>xs.length<=sizeLine/\∀p,H1 p=none->Q (.ref p) (upd H1 p (.tup xs))
def Sw(t:TA):TE:=λZ H Q=>t Z H λxs H1=>xs.length<=sizeLine/\∀p,H1 p=none->Q (.ref p) (upd H1 p (.lst xs))
theorem Nn{x1}(h:PA X es t):PE X (.Tuple es x1 pos) (SE t):=by
 intro pins s Z H Q I hq;refine wpAny_Tuple_spliced (cF (h pos pins s Z H _ I hq) λus s1 ⟨xs,H1,I1,r,z,q⟩=>⟨by rw[<- r.length];exact z,?_⟩);have hf:H1 s1.heap.objs.size=none:=I1.bR.fresh (aw _);refine⟨.ref s1.heap.objs.size,upd H1 s1.heap.objs.size (.tup xs),I1.laid (t':=s1.toks) (λb u e=>au _ e) (aw _) ?_,rfl,q _ hf⟩;exact⟨z,us,r,⟨_,aH _ rfl,rfl,⟨_,rfl⟩,rfl⟩⟩
theorem Nj(h:PA X es t):PE X (.List es pos) (Sw t):=by
 intro pins s Z H Q I hq;refine wpAny_List_spliced (cF (h pos pins s Z H _ I hq) λus s1 ⟨xs,H1,I1,r,z,q⟩=>⟨by rw[<- r.length];exact z,?_⟩);have hf:H1 s1.heap.objs.size=none:=I1.bR.fresh (aw _);refine⟨.ref s1.heap.objs.size,upd H1 s1.heap.objs.size (.lst xs),I1.laid (t':=s1.toks) (λb u e=>au _ e) (aw _) ?_,rfl,q _ hf⟩;exact⟨z,us,0,r,aH _ rfl⟩
end
noncomputable abbrev Sp:=List V->Hp->VK->XK->Prop
noncomputable abbrev lB:=List Env->Hp->Shared->XK->Value->Shared->Prop
structure pE(P:Program)(w:World)(K:PySem.W.Frag)(mg:Str->Option Value)(base:Heap)(A:Around)(outer:List Env)(s:Shared)(H:Hp):Prop where
 frames:A.frames=some outer
 mod:Mod K mg base
 bs:∀b o,base.get? b=some o->s.heap.get? b=some o/\H b=none
 lr:base.objs.size<=s.heap.objs.size
 K4:s.heap.FunFrames base outer
 lK:∀b∈fH outer,H b=none
 bR:fN P w H s.heap
 bare:AllBare s.gens
def CE(outer:List Env)(P:Program)(w:World)(H:Hp)(s:Shared)(Q:VK)(u:Value)(s':Shared):Prop :=
 ∃v H',s'.os=s.os/\AllBare s'.gens/\Un (fH outer) [] H H' s.heap s'.heap/\fN P w H' s'.heap/\RelV v u/\Q v H'
def CR(CX:lB)(outer:List Env)(P:Program)(w:World)(H:Hp)(s:Shared)(Q:VK)(E:XK)(r:Result)(s':Shared):Prop :=
 match r with
 |.ok (.ret u)=>CE outer P w H s Q u s'
 |.ok _=>False
 |.error e=>CX outer H s E e s'
structure gL(P:Program)(w:World)(K:PySem.W.Frag)(mg:Str->Option Value)(base:Heap)(CX:lB)(k:Nat)(f:Addr)(fd:FuncData)(ps:List Str)(sp:Sp):Prop where
 len:∀vs H Q E,sp vs H Q E->vs.length=ps.length
 run:∀(A:Around) (outer:List Env) (s:Shared) (H:Hp) (args:Args) (us:List Value) (vs:List V) (Q:VK) (E:XK),w9 k A->pE P w K mg base A outer s H->BindsTo s fd args (ps.zip us)->Vals vs us->sp vs H Q E ->
  codeAny (model P w) A (.call (.ref f) args) (CR CX outer P w H s Q E) s
theorem pE.make{P:Program}{w:World}{K:PySem.W.Frag}{mg:Str->Option Value}{base:Heap}{A:Around}{outer:List Env}{s:Shared}{H:Hp}(e:pE P w K mg base A outer s H)(C:Addr)(us:List Value)(kw:List (Str×Value)) :
  pE P w K mg base (A.under (.builtin "type.__call__" ⟨.ref C::us,kw⟩)) outer s H:=⟨by first|exact e.frames|(simpa[Around.under,Code.envs,Code.isFrame,pushEnvs] using e.frames),e.mod,e.bs,e.lr,e.K4,e.lK,e.bR,e.bare⟩
section
variable{X:Cx}{pins:List (Addr×Obj)}{Z:St}{H:Hp}{s s':Shared}
theorem Inv.Fi(I:Inv X pins Z H s):pE X.prog X.w X.K X.mg X.base X.A X.stack s H :=
 ⟨I.ok.frames,I.ok.mod,I.bs,aG I.ok.lr I.sz,I.stack,I.wJ,I.bR,I.bare⟩
theorem Inv.after{Q:VK}{u:Value}(I:Inv X pins Z H s)(h:CE X.stack X.prog X.w H s Q u s'):EP X pins Z Q u s':=by
 obtain⟨v,H',os,bare,un,bR,r,q⟩:=h;obtain⟨hh,g,d,t,rA⟩:=s';obtain rfl:rA=s.os:=os;exact⟨v,H',I.call (h':=hh) (g':=g) (d':=d) (t':=t) (ch:=[]) un bR bare (λb z=>absurd z (by simp)),r,q⟩
end
def UJ(sp:Sp)(jj:List V)(E:XK)(t:TA):TE:=λZ H Q=>t Z H λvs H1=>sp (vs++jj) H1 Q E
def Fd(C:Addr)(sp:Sp)(jj:List V)(E:XK)(t:TA):TE:=λZ H Q=>t Z H λvs H1=>∀x dx,H1 x=none->H1 dx=none->dx≠x ->
 sp (.ref x::(vs++jj)) (upd (upd H1 dx (.own x)) x (.ins C dx [])) (λv H2=>v=.bx/\Q (.ref x) H2) E
def Binds(K:PySem.W.Frag)(fd:FuncData)(ps:List Str)(ds:List Value):Prop :=
 ∀(s:Shared) (us:List Value),K.In s.heap->(us++ds).length=ps.length->BindsTo s fd ⟨us,[]⟩ (ps.zip (us++ds))
theorem Binds.all{K:PySem.W.Frag}{fd:FuncData}{ps:List Str}(h:∀us:List Value,us.length=ps.length->bindArgs fd ⟨us,[]⟩=pure (ps.zip us)):Binds K fd ps []:=λs us _ hl=>by
 rw[eX] at hl ⊢;exact .of_eq (h us hl)
def Passes(CX:lB)(X:Cx)(E:XK):Prop:=∀(pins:List (Addr×Obj)) (Z:St) (H:Hp) (s:Shared) (e:Value) (s':Shared),Inv X pins Z H s->CX X.stack H s E e s'->X.xe e s'
section
variable{X:Cx}{CX:lB}{k:Nat}{f C:Addr}{fd:FuncData}{ps:List Str}{sp:Sp}{jj:List V}{ds:List Value}{E:XK}{x m:Str}{p pos apos:Pos}{e o:Expr}{es:List Expr}{ta:TE}{t:TA}
theorem NI{pins:List (Addr×Obj)}{Z:St}{H:Hp}{s:Shared}{Q:VK}{us:List Value}{vs:List V}(F:gL X.prog X.w X.K X.mg X.base CX k f fd ps sp)(hr:w9 k X.A)(hb:Binds X.K fd ps ds)(hd:Vals jj ds)(hx:Passes CX X E)(I:Inv X pins Z H s)(r:Vals vs us)(h:sp (vs++jj) H Q E):wpAny (model X.prog X.w) X.A (call (.ref f) us) (EP X pins Z Q) X.xe s:=by
 have r2:Vals (vs++jj) (us++ds):=r.append hd;have hl:(us++ds).length=ps.length:=by rw[<- r2.length];exact F.len _ _ _ _ h
 refine wpAny_call (codeAny_mono (F.run X.A X.stack s H ⟨us,[]⟩ (us++ds) (vs++jj) Q E hr I.Fi (hb s us I.fV hl) r2 h) λr s' hq=>?_);cases r with
 |error e=>exact hx pins Z H s e s' I hq
 |ok fl =>
  cases fl with
  |ret u=>exact I.after hq
  |next=>exact False.elim hq
  |brk=>exact False.elim hq
  |cont=>exact False.elim hq
theorem Pz(F:gL X.prog X.w X.K X.mg X.base CX k f fd ps sp)(hr:w9 k X.A)(hg:Gl X x)(hm:X.mg x=some (.ref f))(hk:PySem.W.keepIn X.K (.ref f)=true)(hb:Binds X.K fd ps ds)(hd:Vals jj ds)(hx:Passes CX X E)(ha:PA X (e::es) t)(gQ:(x==("__debug__":Str))=false:=by decide)(he:starEach (e::es) X.env=(false,eval e X.env)::starEach es X.env:=by rfl)(gb:(backTo pos (starEach es X.env)).any (·.1)=false:=by rfl) :
  PE X (.Call (.Name x p) (e::es) [] pos) (UJ sp jj E t):=by
 intro pins s Z H Q I h;refine cY (R7 I hg hm ?_ gQ);refine PySem.W.callWith_K (h₀:=X.base) I.ok.mod.lF hk (cF (ha pos pins s Z H _ I h) λus s1 ⟨vs,H1,I1,r,q⟩=>⟨I1.fV,?_⟩) he gb;exact NI F hr hb hd hx I1 r q
structure Mk(K:PySem.W.Frag)(C f:Addr):Prop where
 makes:PySem.W.makesIn K C=true
 init:PySem.W.findIn K (.ref C) "__init__"=some (some (.ref f))
 fn:PySem.W.isFn K (.ref f)=true
 kp:PySem.W.keepIn K (.ref C)=true
theorem Ig{pins:List (Addr×Obj)}{Z:St}{H:Hp}{s:Shared}{Q:VK}{us:List Value}{vs:List V}(M:Mk X.K C f)(F:gL X.prog X.w X.K X.mg X.base CX k f fd ps sp)(hr:w9 (k+1) X.A)(hb:Binds X.K fd ps ds)(hd:Vals jj ds)(hx:Passes CX X E)(I:Inv X pins Z H s)(r:Vals vs us)(h:∀x dx,H x=none->H dx=none->dx≠x->sp (.ref x::(vs++jj)) (upd (upd H dx (.own x)) x (.ins C dx [])) (λv H2=>v=.bx/\Q (.ref x) H2) E) :
  wpAny (model X.prog X.w) X.A (call (.ref C) us) (EP X pins Z Q) X.xe s:=by
 have hq:=h (s.heap.objs.size+1) s.heap.objs.size (I.bR.fresh (Nat.le_succ _)) (I.bR.fresh (aw _)) (aR (Nat.lt_succ_self _));have I2:=Inv.made (C:=C) I;have r2:Vals (V.ref (s.heap.objs.size+1)::(vs++jj)) (Value.ref (s.heap.objs.size+1)::(us++ds)):=.cons rfl (r.append hd);have hl:(Value.ref (s.heap.objs.size+1)::us++ds).length=ps.length:=by
  have e:=r2.length;rw[F.len _ _ _ _ hq] at e;exact e.symm
 refine wpAny_call (Yx (f:=f) I.fV M.makes M.init (fb.mp M.fn) (codeAny_mono (F.run _ X.stack _ _ ⟨Value.ref (s.heap.objs.size + 1) :: us,[]⟩ (Value.ref (s.heap.objs.size + 1) :: (us ++ ds)) _ _ E (hr.make C us [])
  (I2.Fi.make C us []) (hb _ (Value.ref (s.heap.objs.size + 1) :: us) I2.fV hl) r2 hq) λr s' kJ=>?_))
 cases r with
 |error e=>exact hx pins Z _ _ e s' I2 kJ
 |ok fl =>
  cases fl with
  |ret u =>
   obtain⟨v,H',I3,rv,ev,q3⟩:=I2.after kJ;subst ev;exact⟨rv,⟨V.ref (s.heap.objs.size+1),H',I3,rfl,q3⟩⟩
  |next=>exact False.elim kJ
  |brk=>exact False.elim kJ
  |cont=>exact False.elim kJ
theorem PJ(M:Mk X.K C f)(F:gL X.prog X.w X.K X.mg X.base CX k f fd ps sp)(hr:w9 (k+1) X.A)(hg:Gl X x)(hm:X.mg x=some (.ref C))(hb:Binds X.K fd ps ds)(hd:Vals jj ds)(hx:Passes CX X E)(ha:PA X (e::es) t)(gQ:(x==("__debug__":Str))=false:=by decide)(he:starEach (e::es) X.env=(false,eval e X.env)::starEach es X.env:=by rfl)(gb:(backTo pos (starEach es X.env)).any (·.1)=false:=by rfl) :
  PE X (.Call (.Name x p) (e::es) [] pos) (Fd C sp jj E t):=by
 intro pins s Z H Q I h;refine cY (R7 I hg hm ?_ gQ);refine PySem.W.callWith_K (h₀:=X.base) I.ok.mod.lF M.kp (cF (ha pos pins s Z H _ I h) λus s1 ⟨vs,H1,I1,r,q⟩=>⟨I1.fV,?_⟩) he gb;exact Ig M F hr hb hd hx I1 r q
theorem YL(M:Mk X.K C f)(F:gL X.prog X.w X.K X.mg X.base CX k f fd ps sp)(hr:w9 (k+1) X.A)(hg:Gl X x)(hm:X.mg x=some (.ref C))(hb:Binds X.K fd ps ds)(hd:Vals jj ds)(hx:Passes CX X E)(gQ:(x==("__debug__":Str))=false:=by decide):PE X (.Call (.Name x p) [] [] pos) (Fd C sp jj E Et):=by
 intro pins s Z H Q I h;refine cY (R7 I hg hm ?_ gQ);exact PySem.W.callWith_K0 I.fV M.kp (Ig (us:=[]) M F hr hb hd hx I .nil h)
end
section
variable{X:Cx}{CX:lB}{k:Nat}{f C:Addr}{fd:FuncData}{ps ks:List Str}{sp:Sp}{E:XK}{x m:Str}{p pos apos JG:Pos}{e o:Expr}{es:List Expr}{iq:List Keyword}{te ta:TE}{t tk:TA}{nm:Option Str}
variable{g:List Value->List Value->List Value}{gV:List V->List V->List V}
end
structure gR(N P:List Str)(sc:Scope):Prop where
 kind:sc.kind=.function
 co:sc.isCoroutine=false
 gen:sc.isGenerator=false
 nd:N.Nodup
 pre:N.take P.length=P
 par:∀x∈P,sc.names.lookup x=some .local\/sc.names.lookup x=some .cell
 kC:∀y∈sc.names,y.2≠.free
theorem Fp{kindOf:Str->Option NameKind}{x:Str}:∀{binds:List (Str×Value)} {m:Str->Option Value},(∀v,(x,v)∉binds)->bindL kindOf binds m x=m x
 |[],_,_=>rfl
 |(n,v)::r,m,h=>by
  unfold bindL;rw[Fp λw hw=>h w (bw _ hw)];split
  ·have:x≠n:=by rintro rfl;exact h v List.mem_cons_self
   simp[this]
  ·rfl
theorem Fn{kindOf:Str->Option NameKind}{x:Str}:∀{binds:List (Str×Value)} {m:Str->Option Value},(∀v,(x,v)∉binds)->bindC kindOf binds m x=m x
 |[],_,_=>rfl
 |(n,v)::r,m,h=>by
  unfold bindC;rw[Fn λw hw=>h w (bw _ hw)];split
  ·rfl
  ·have:x≠n:=by rintro rfl;exact h v List.mem_cons_self
   simp[this]
theorem Fo{kindOf:Str->Option NameKind}{x:Str}{v:Value}:∀{P:List Str} {vs:List Value} {i:Nat} {m:Str->Option Value},P.Nodup->P[i]?=some x->vs[i]?=some v->kindOf x=some .local ->
  bindL kindOf (P.zip vs) m x=some v
 |[],_,_,_,_,h,_,_=>by simp at h
 |_::_,[],_,_,_,_,h,_=>by simp at h
 |p::P,w::vs,0,m,nd,h1,h2,hk=>by
  simp at h1 h2;subst h1;subst h2;show bindL kindOf ((p,w)::P.zip vs) m p=_;unfold bindL;rw[Fp λv hv=>(dJ.mp nd).1 (List.of_mem_zip hv).1,aK hk];simp
 |p::P,w::vs,i+1,m,nd,h1,h2,hk=>by
  show bindL kindOf ((p,w)::P.zip vs) m x=_;unfold bindL;exact Fo (i:=i) (dJ.mp nd).2 (by simpa using h1) (by simpa using h2) hk
theorem Fm{kindOf:Str->Option NameKind}{x:Str}{v:Value}:∀{P:List Str} {vs:List Value} {i:Nat} {m:Str->Option Value},P.Nodup->P[i]?=some x->vs[i]?=some v->kindOf x≠some .local ->
  bindC kindOf (P.zip vs) m x=some v
 |[],_,_,_,_,h,_,_=>by simp at h
 |_::_,[],_,_,_,_,h,_=>by simp at h
 |p::P,w::vs,0,m,nd,h1,h2,hk=>by
  simp at h1 h2;subst h1;subst h2;show bindC kindOf ((p,w)::P.zip vs) m p=_;unfold bindC;rw[Fn λv hv=>(dJ.mp nd).1 (List.of_mem_zip hv).1,aC hk];simp
 |p::P,w::vs,i+1,m,nd,h1,h2,hk=>by
  show bindC kindOf ((p,w)::P.zip vs) m x=_;unfold bindC;exact Fm (i:=i) (dJ.mp nd).2 (by simpa using h1) (by simpa using h2) hk
def start(N:List Str)(vs:List V):St:=vs.map some++List.replicate (N.length-vs.length) none
def mF(CX:lB)(P:Program)(w:World)(K:PySem.W.Frag)(mg:Str->Option Value)(base:Heap)(N:List Str)(qual:Str)(scope:Scope)(f:Addr)(cd:Value)(A:Around)(outer:List Env)(s:Shared)(H:Hp)(E:XK):Cx where
 prog:=P
 w:=w
 K:=K
 mg:=mg
 base:=base
 A:=A.deeper (envOfC qual scope s.heap.objs.size f cd)
 N:=N
 df:=s
 ir:=H
 env:=envOfC qual scope s.heap.objs.size f cd
 outer:=outer
 stack:=envOfC qual scope s.heap.objs.size f cd::outer
 ex:=[]
 calm:=true
 fn:=λ_=>true
 pn:=[]
 xe:=λe s'=>wpAny (model P w) (A.deeper (envOfC qual scope s.heap.objs.size f cd)) (leaving (envOfC qual scope s.heap.objs.size f cd) e) (λ_ lR=>CX outer H s E e lR) (λe' lR=>CX outer H s E e' lR) s'
theorem Am{sc:Scope}{n:Nat}{x:Str}(h:sc.names.lookup x=some .cell):∃c,(cellsFrom n sc.names []).lookup x=some c:=by
 have q:=dB sc.names n [] (.inl h);exact eO.mp q
theorem ZZ{CX:lB}{P:Program}{w:World}{K:PySem.W.Frag}{mg:Str->Option Value}{base:Heap}{N ps:List Str}{qual:Str}{scope:Scope}{f:Addr}{cd:Value}{A:Around}{outer:List Env}{s s1:Shared}{H:Hp}{E:XK}{us:List Value}{vs:List V}(S:gR N ps scope)(hd:A.handled=none)(e0:pE P w K mg base A outer s H)(hl:vs.length=ps.length)(r:Vals vs us)(x:InCallC s s.heap.objs.size (bindL (envOfC qual scope s.heap.objs.size f cd).kindOf (ps.zip us) λ_=>none) (cellsFrom (s.heap.objs.size+1) scope.names []) (bindC (envOfC qual scope s.heap.objs.size f cd).kindOf (ps.zip us) λ_=>none) s1) :
  Inv (mF CX P w K mg base N qual scope f cd A outer s H E) [] (start N vs) H s1:=by
 have gb:ps.length<=N.length:=by have:=congrArg List.length S.pre;rw[cR] at this;omega
 obtain⟨h1,tk,rfl,hk⟩:=x.done;have rH:∀b:Addr,b∉(mF CX P w K mg base N qual scope f cd A outer s H E).ex:=λb z=>absurd (show b∈([]:List Addr) from z) (by simp);refine ⟨⟨e0.mod,S.kind,rfl,rfl,aw _,λy z c h1 h2=>?_,λy hy=>?_,λy c _ h=>?_,λ_=>hd,Around.frames_deeper e0.frames,.inr ⟨rfl,rfl⟩,λb z=>absurd z (rH b),e0.bs,e0.lr,λb _ _=>rH b,λb z=>absurd z (rH b),e0.K4,e0.lK⟩,
  rfl,e0.bare,Un.kept hk,⟨_,x.toInCall.ns,λi y v h1 h2 h3=>?_⟩,λy c h=>⟨_,x.cell y c h⟩,e0.bR.fresh (aw _),λy c h=>?_,λp hp=>absurd (show p ∈ ([]:List (Addr × Obj)) from hp) (by simp),e0.bR.kept hk,?_⟩
 ·exact name_of_addr x.apart (aS h1) (aS h2)
 ·have hy:scope.names.lookup y=some .cell\/scope.names.lookup y=some .free:=hy;rcases hy with hy|hy
  ·exact Am hy
  ·exact absurd rfl (S.kC _ (aS hy))
 ·exact et (x.above y c (aS h))
 ·have hi:i<vs.length:=by
   unfold start at h2;by_cases hi:i<vs.length
   ·exact hi
   ·rw[cA (by simpa using hi)] at h2;rw[dn] at h2;split at h2<;>cases h2
  have ha:vs[i]?=some v:=by
   unfold start at h2;rw[aJ (by simpa using hi),ag] at h2;cases e:vs[i]? with
   |none=>rw[e] at h2;cases h2
   |some a=>rw[e] at h2;cases h2;rfl
  obtain⟨u,hu,rv⟩:=r.get ha;have hp:ps[i]?=some y:=by
   rw[<- S.pre,cv (by omega)];exact h1
  have CM:ps.Nodup:=by rw[<- S.pre];exact S.nd.sublist (List.take_sublist _ _)
  refine⟨u,rv,?_⟩;rcases S.par y (aF hp) with k|k
  ·exact .inl ⟨k,Fo CM hp hu k⟩
  ·obtain⟨c,e⟩:=Am (n:=s.heap.objs.size+1) k;refine .inr ⟨.inl k,c,e,?_⟩;have q:=x.cell y c e;rw[Fm CM hp hu (by show scope.names.lookup y≠_;rw[k];decide)] at q;exact q
 ·exact e0.bR.fresh (et (x.above y c (aS h)))
 ·unfold start;show _=N.length;rw[bg,ao,List.length_replicate];omega
theorem Tn{CX:lB}{P:Program}{w:World}{K:PySem.W.Frag}{mg:Str->Option Value}{base:Heap}{k:Nat}{f:Addr}{name qual:Str}{params:Arguments}{body:List Stmt}{scope:Scope}{dV kV doc pm fA ct oc:Value}{an od:Option Addr}{kl:Array (Option Value)}{N ps:List Str}{sp:Sp}(lk:K.lookup f=some ⟨oc,od,.func (PySem.W.fnOf name qual params body scope dV kV doc pm an fA ct),kl⟩)(jW:PySem.W.codeIn K fA qual=true)(S:gR N ps scope)(len:∀vs H Q E,sp vs H Q E->vs.length=ps.length)(sR:∀ (A:Around) (outer:List Env) (s:Shared) (H:Hp) (vs:List V) (Q:VK) (E:XK),w9 k (A.deeper (envOfC qual scope s.heap.objs.size f fA))->sp vs H Q E ->
   ∃ t,ic (mF CX P w K mg base N qual scope f fA A outer s H E) body t/\t { nx:=λ_ H'=>Q .bx H',rt:=Q } (start N vs) H) :
  gL P w K mg base CX (k+1) f (PySem.W.fnOf name qual params body scope dV kV doc pm an fA ct) ps sp:=by
 refine⟨len,λA outer s H args us vs Q E hr e0 hb r qe=>?_⟩;have hl:=len _ _ _ _ qe;have KX:K.In s.heap:=e0.mod.lF.keeps λb o e=>(e0.bs b o e).1;have lim:s.heap.NoLimit:=e0.mod.nolimit.keeps λb o e=>(e0.bs b o e).1;have sG:∀y∈ps.zip us,scope.names.lookup y.1=some .local\/(scope.names.lookup y.1=some .cell/\((cellsFrom (s.heap.objs.size+1) scope.names []).lookup y.1).isSome=true):=λ⟨n,v⟩ hy=>by
  rcases S.par n (List.of_mem_zip hy).1 with q|q
  ·exact .inl q
  ·exact .inr ⟨q,dB _ _ _ (.inl q)⟩
 refine codeAny_call_function hr.depth (KX _ _ lk) rfl S.co S.gen rfl (PySem.W.codeRec_of KX jW) (hb _ _ _ _ ?_);refine wpAny_newFunctionEnv_cells S.kind sG λenv he s1 x=>?_;subst he;refine⟨lim.keeps x.toInCall.keep,codeAny_func ?_⟩;obtain⟨t,ht,hq⟩:=sR A outer s H vs Q E (hr.deeper _) qe;have I:Inv (mF CX P w K mg base N qual scope f fA A outer s H E) [] (start N vs) H s1:=ZZ S hr.hd e0 hl r x;refine bA (ht [] s1 (start N vs) H _ I hq) (λfl s' hs=>?_) λe s' hs=>hs;have fin:∀{bU:St} {H':Hp} {v:V} {u:Value},Inv (mF CX P w K mg base N qual scope f fA A outer s H E) [] bU H' s'->RelV v u->Q v H'->CE outer P w H s Q u s' :=
  λ{bU H' v u} J rv q=>⟨v,H',J.os,J.bare,J.base,J.bR,rv,q⟩
 cases fl with
 |ret u =>
  obtain⟨v,bU,H',J,rv,q⟩:=hs;exact fin J rv q
 |next =>
  obtain⟨bU,H',J,q⟩:=hs;exact fin (v:=V.bx) (u:=Value.none) J rfl q
 |brk =>
  obtain⟨_,_,_,q⟩:=hs;exact False.elim q
 |cont =>
  obtain⟨_,_,_,q⟩:=hs;exact False.elim q
section
variable{X:Cx}{x:Str}{p pos:Pos}{e:Expr}{es:List Expr}{t:TA}{id T:String}{r:List V->Hp->VK->Prop}
def xy(r:List V->Hp->VK->Prop)(t:TA):TE:=λZ H Q=>t Z H λvs H1=>r vs H1 Q
theorem Z7(hc:m5 X (.builtin id) r)(hg:Gl X x)(hm:X.mg x=none)(hv:bootBuiltins x=some (.builtin id))(ha:PA X (e::es) t)(hn:x≠"__name__":=by decide)(gQ:(x==("__debug__":Str))=false:=by decide)(he:starEach (e::es) X.env=(false,eval e X.env)::starEach es X.env:=by rfl)(gb:(backTo pos (starEach es X.env)).any (·.1)=false:=by rfl):PE X (.Call (.Name x p) (e::es) [] pos) (xy r t):=by
 intro pins s Z H Q I h;refine cY (L8 I hg hm hv ?_ hn gQ);exact PyProof.Rows.callWith_builtin1 (cF (ha pos pins s Z H _ I h) λus s1 ⟨vs,H1,I1,r1,q1⟩=>hc pins s1 Z H1 vs us Q I1 r1 q1) he gb
theorem O6(hc:m5 X (.type T) r)(hg:Gl X x)(hm:X.mg x=none)(hv:bootBuiltins x=some (.type T))(ha:PA X (e::es) t)(hn:x≠"__name__":=by decide)(gQ:(x==("__debug__":Str))=false:=by decide)(he:starEach (e::es) X.env=(false,eval e X.env)::starEach es X.env:=by rfl)(gb:(backTo pos (starEach es X.env)).any (·.1)=false:=by rfl):PE X (.Call (.Name x p) (e::es) [] pos) (xy r t):=by
 intro pins s Z H Q I h;refine cY (L8 I hg hm hv ?_ hn gQ);exact bO (cF (ha pos pins s Z H _ I h) λus s1 ⟨vs,H1,I1,r1,q1⟩=>hc pins s1 Z H1 vs us Q I1 r1 q1) he gb
end
end L2

namespace HT
open PySem PyProof.Rows
section
open PySem.SeqAt
open PySem.AutoSeq1 (wpAny_loadPart')
open PySem.MeetsSeq PySem.MeetsSeq2 PySem.MeetsSeq3
end
section
variable{prog:Program}{w:World}{A:Around}{E:Value->Shared->Prop}{s:Shared}
theorem OO{t b:Addr}{vs ws:List Value}{Q:Value->Shared->Prop}(ht:IsTup s.heap t vs.toArray)(hb:IsTup s.heap b ws.toArray)(hv:vs≠[])(h1:ws=[]->Q (.ref t) s)(h2:ws≠[]->Q (.ref s.heap.objs.size) { s with heap:=s.heap.push { cls:=.type "tuple",data:=.seq (vs++ws).toArray } })(hsz:vs.length+ws.length<=sizeLine):wpAny (model prog w) A (binaryOp .Add (.ref t) (.ref b)) Q E s:=by
 obtain⟨⟨cls,dd,data,sl⟩,ho,hc,n,hd⟩:=id ht;obtain⟨⟨tV,nD,data2,jH⟩,hU,kW,n2,hd2⟩:=id hb;simp only at hc hd kW hd2;subst hc hd kW hd2;have e:vs.toArray++ws.toArray=(vs++ws).toArray:=by simp
 by_cases hw:ws=[]
 ·exact concat_meets ⟨_,ho,rfl⟩ ⟨_,hU,rfl⟩ noFill_tuple_add seq_tuple_add PySem.F.slot_tuple_add PySem.F.entry_tuple_add (PySem.F.args_tuple_add_2 _ _)
   (tuple_addW1 t b vs.toArray ws.toArray n n2 dd nD sl jH (by simpa using hv) (by simp[hw])) ⟨ho,hU,h1 hw⟩
 ·refine concat_meets ⟨_,ho,rfl⟩ ⟨_,hU,rfl⟩ noFill_tuple_add seq_tuple_add PySem.F.slot_tuple_add PySem.F.entry_tuple_add (PySem.F.args_tuple_add_2 _ _)
   (tuple_addW2 t b vs.toArray ws.toArray n n2 dd nD sl jH (by simpa using hv) (by simpa using hw) (by rw[aI,aI];exact hsz)) ⟨ho,hU,?_⟩
  rw[e];exact h2 hw
def dF(n d:Nat):Option Int->Nat
 |none=>d
 |some v=>if v<0 then(v+(n:Int)).toNat else min v.toNat n
theorem NJ(n d:Nat)(hd:d<=n)(o:Option Int):dF n d o<=n:=by
 cases o with
 |none=>exact hd
 |some v =>
  show(if v<0 then(v+(n:Int)).toNat else min v.toNat n)<=n;by_cases hv:v<0
  ·rw[aK hv];omega
  ·rw[aC hv];exact Nat.min_le_right _ _
theorem Hg(v:Int)(n d:Nat):(if v<0 then max (v+(n:Int)) 0 else min v (n:Int))=((dF n d (some v):Nat):Int):=by
 show(if v<0 then max (v+(n:Int)) 0 else min v (n:Int))=(((if v<0 then(v+(n:Int)).toNat else min v.toNat n):Nat):Int);by_cases hv:v<0
 ·simp only[if_pos hv];omega
 ·simp only[if_neg hv];omega
theorem WN(lo hi:Option Int)(n:Nat):Builtin.Slice.sliceAdjust lo hi 1 (n:Int)=(((dF n 0 lo:Nat):Int),((dF n n hi:Nat):Int)):=by
 have h1:¬((1:Int)<0):=by omega
 unfold Builtin.Slice.sliceAdjust;simp only[h1,if_false];refine Prod.ext ?_ ?_
 ·cases lo with
  |none=>rfl
  |some v=>exact Hg v n 0
 ·cases hi with
  |none=>rfl
  |some v=>exact Hg v n n
theorem Xs(i j:Nat):Builtin.Slice.slicePlaces (i:Int) (j:Int) 1=j-i:=by
 unfold Builtin.Slice.slicePlaces;have h1:(1:Int)>0:=by omega
 simp only[h1,if_true,Int.ediv_one];split<;>omega
theorem Gh{v:Value}{o:Option Int}{Q:Option Int->Shared->Prop}(p:IsPart v o)(h:Q o s):wpAny (model prog w) A (Builtin.Slice.slicePartIndex v) Q E s:=by
 cases p with
 |none=>exact slicePart_none h
 |int i t=>exact slicePart_int h
theorem S7{sl:Addr}{vl vu:Value}{lo hi:Option Int}{n:Nat}{Q:Int×Int×Nat->Shared->Prop}(hs:s.heap.IsSliceOf sl vl vu .none)(pl:IsPart vl lo)(pu:IsPart vu hi)(h:Q (((dF n 0 lo:Nat):Int),1,dF n n hi-dF n 0 lo) s):wpAny (model prog w) A (Builtin.Slice.sliceApplied (.ref sl) (pure (n:Int))) Q E s:=by
 obtain⟨os,ox,vk,sN⟩:=id hs;unfold Builtin.Slice.sliceApplied Builtin.Slice.sliceFields;refine ae (ae (wpAny_field ox sN (x:=vl) rfl (ae (wpAny_field ox sN (x:=vu) rfl (ae (wpAny_field ox sN (x:=.none) rfl (av ?_)))))));refine ae (slicePart_none ?_);show wpAny _ _ (if((1:Int)==0)=true then _ else _) _ _ s;rw[aC (by decide)];refine ae (Gh pl (ae (Gh pu (ae (av ?_)))));show wpAny _ _ (match Builtin.Slice.sliceAdjust lo hi 1 (n:Int) with|(lo,hi)=>pure (lo,(1:Int),Builtin.Slice.slicePlaces lo hi 1)) _ _ s;rw[WN lo hi n];show wpAny _ _ (pure (((dF n 0 lo:Nat):Int),(1:Int),Builtin.Slice.slicePlaces ((dF n 0 lo:Nat):Int) ((dF n n hi:Nat):Int) 1)) _ _ s;rw[Xs];exact av h
theorem YQ(xs:Array Value)(i k:Nat):((List.range k).filterMap λ(m:Nat)=>xs[((i:Int)+(m:Int)*1).toNat]?).toArray=((xs.toList.drop i).take k).toArray:=by
 have e:(λ(m:Nat)=>xs[((i:Int)+(m:Int)*1).toNat]?)=λm=>xs[i+m]?:=by
  funext m
  have:((i:Int)+(m:Int)*1).toNat=i+m:=by omega
  rw[this]
 rw[e];have:=pick_run xs i k;rw[List.filterMap_map] at this;have e2:((λx=>xs[x]?) ∘ λx=>i+x)=λm=>xs[i+m]?:=rfl;rw[e2] at this;rw[this]
theorem VS{t sl:Addr}{items:Array Value}{vl vu:Value}{lo hi:Option Int}{Q:Value->Shared->Prop}(ht:IsTup s.heap t items)(hs:s.heap.IsSliceOf sl vl vu .none)(pl:IsPart vl lo)(pu:IsPart vu hi)(hw:¬(dF items.size 0 lo=0/\dF items.size items.size hi=items.size))(h:Q (.ref s.heap.objs.size) { s with heap:=s.heap.push { cls:=.type "tuple",data:=.seq ((items.toList.drop (dF items.size 0 lo)).take (dF items.size items.size hi-dF items.size 0 lo)).toArray } })(hsz:items.size<=sizeLine):wpAny (model prog w) A (getItem (.ref t) (.ref sl)) Q E s:=by
 have jI:sizeOk (.seq ((items.toList.drop (dF items.size 0 lo)).take (dF items.size items.size hi-dF items.size 0 lo)).toArray):=by
  show((items.toList.drop (dF items.size 0 lo)).take (dF items.size items.size hi-dF items.size 0 lo)).toArray.size<=sizeLine;rw[aI,cR,List.length_drop,bD];omega
 have hj:dF items.size items.size hi<=items.size:=NJ _ _ (aw _) hi;obtain⟨os,ox,vk,sN⟩:=id hs;have yK:s.TypeIs (.ref sl) "slice":=⟨os,ox,vk⟩
 unfold getItem
 try with_reducible refine cE ?_
 first|refine ae (av ?_)|skip
 refine ae (wpAny_sequenceKey ht.typeIs (by decide) ?_);refine ae (wpAny_callSpecial?_slot (name:=Str.ofString "__getitem__") ht.typeIs bS
  (cL bS ht.typeIs entry_tuple_getitem ?_ (args_tuple_getitem _ _)))
 show wpAny _ _ (Builtin.Tuple.tupleItemsOf (.ref t) >>= _) _ _ s;refine ae (tupleItemsOf_ ht ?_);refine ae (eZ yK ?_);rw[aK (by decide)];refine ae (S7 hs pl pu ?_);have jn:¬((((dF items.size 0 lo:Nat):Int)==0&&(1:Int)==1&&(dF items.size items.size hi-dF items.size 0 lo)==items.size)=true):=by
  intro q;rw[aO,aO] at q;have q1:((dF items.size 0 lo:Nat):Int)=0:=eq_of_beq q.1.1;have q2:dF items.size items.size hi-dF items.size 0 lo=items.size:=eq_of_beq q.2;exact hw ⟨by omega,by omega⟩
 show wpAny _ _ (if(((dF items.size 0 lo:Nat):Int)==0&&(1:Int)==1&&(dF items.size items.size hi-dF items.size 0 lo)==items.size)=true then _ else _) _ _ s;rw[aC jn,YQ]
 first
  |exact wpAny_bind (m:=Builtin.Tuple.tupleExact _) (wpAny_newObj_type (wpAny_pure ⟨_,rfl,wpAny_pure h⟩) jI)
  |exact wpAny_bind (m:=Builtin.Tuple.tupleExact _) (wpAny_newObj_type (wpAny_bind (wpAny_pure (wpAny_pure ⟨_,rfl,wpAny_pure h⟩))) jI)
  |exact wpAny_bind (wpAny_bind (m:=Builtin.Tuple.tupleExact _) (wpAny_newObj_type (wpAny_pure (wpAny_pure ⟨_,rfl,wpAny_pure h⟩)) jI))
  |exact wpAny_bind (wpAny_bind (m:=Builtin.Tuple.tupleExact _) (wpAny_newObj_type (wpAny_pure ⟨_,rfl,wpAny_pure h⟩) jI))
end
end HT
namespace L2
open PySem PySem.Spec PyProof.Rows
noncomputable abbrev TO:=St->Hp->(Option Int->Hp->Prop)->Prop
def PO(X:Cx)(e:Option Expr)(t:TO):Prop :=
 ∀(pins:List (Addr×Obj)) (s:Shared) (Z:St) (H:Hp) (Q:Option Int->Hp->Prop),Inv X pins Z H s->t Z H Q ->
  wpAny (model X.prog X.w) X.A (evalPart e X.env) (λu s'=>∃o H',Inv X pins Z H' s'/\IsPart u o/\Q o H') X.xe s
def QB:TO:=λ_ H Q=>Q none H
def UO(t:TE):TO:=λZ H Q=>t Z H λx H1=>∃i,x=.int i/\Q (some i) H1
section
variable{X:Cx}{e:Expr}{te:TE}{lo hi:Option Expr}{tl th:TO}{pos p2:Pos}
theorem wI:PO X none QB:=by
 intro pins s Z H Q I h;rw[evalPart_none];exact av ⟨none,H,I,.none,h⟩
theorem Hw(h:PE X e te):PO X (some e) (UO te):=by
 intro pins s Z H Q I hw;rw[evalPart_some];refine cF (h pins s Z H _ I hw) λu s1 bq=>?_;obtain⟨x,H1,I1,r1,q1⟩:=bq;obtain⟨i,rfl,q⟩:=q1;obtain⟨t,rfl⟩:=r1;exact⟨some i,H1,I1,.int i t,q⟩
def uH(X:Cx)(r:V->Option Int->Option Int->Hp->VK->Prop):Prop :=
 ∀(pins:List (Addr×Obj)) (s:Shared) (Z:St) (H:Hp) (x:V) (v vl vu:Value) (lo hi:Option Int) (sl:Addr) (Q:VK),Inv X pins Z H s->RelV x v->s.heap.IsSliceOf sl vl vu .none->IsPart vl lo->IsPart vu hi->r x lo hi H Q ->
  ∃T id,typeLookup (.type T) "__getitem__"=pure (some (.builtin id))/\s.TypeIs v T/\wpAny (model X.prog X.w) X.A (getItem v (.ref sl)) (EP X pins Z Q) X.xe s
def Jd(r:V->Option Int->Option Int->Hp->VK->Prop)(te:TE)(tl th:TO):TE:=λZ H Q=>te Z H λx H1=>tl Z H1 λl H2=>th Z H2 λu H3=>r x l u H3 Q
theorem As{r:V->Option Int->Option Int->Hp->VK->Prop}(hr:uH X r)(he:PE X e te)(hl:PO X lo tl)(hu:PO X hi th):PE X (.Subscript e (.Slice lo hi none p2) pos) (Jd r te tl th):=by
 intro pins s Z H Q I h;refine Subscript_ (cF (he pins s Z H _ I h) λv s1 bq=>?_);obtain⟨x,H1,I1,r1,q1⟩:=bq;refine wpAny_Slice (cF (hl pins s1 Z H1 _ I1 q1) λvl s2 ⟨l,H2,I2,pl,q2⟩=>cF (hu pins s2 Z H2 _ I2 q2) λvu s3 bq=>?_);obtain⟨u,H3,I3,pu,q3⟩:=bq;rw[evalPart_none];refine av ?_;have I4:Inv X pins Z H3 { s3 with heap:=s3.heap.push { cls:=.type "slice",data:=.fields #[vl,vu,.none] } }:=I3.kept (t':=s3.toks) λb ob q=>au _ q;obtain⟨T,id,hT,ht,hg⟩:=hr pins { s3 with heap:=s3.heap.push { cls:=.type "slice",data:=.fields #[vl,vu,.none] } } Z H3 x v vl vu l u s3.heap.objs.size Q I4 r1 (Heap.IsSliceOf.new ..) pl pu q3;show wpAny (model X.prog X.w) X.A (subscriptTail e (.Slice lo hi none p2) v (.ref s3.heap.objs.size)) (EP X pins Z Q) X.xe { s3 with heap:=s3.heap.push { cls:=.type "slice",data:=.fields #[vl,vu,.none] } };exact tail_any (ops:=[.ref s3.heap.objs.size,v]) ht hT hg (by with_unfolding_all rfl)
def T9(xs:List V)(lo hi:Option Int):List V:=(xs.drop (HT.dF xs.length 0 lo)).take (HT.dF xs.length xs.length hi-HT.dF xs.length 0 lo)
theorem Gk(xs:List V)(lo hi:Option Int):(T9 xs lo hi).length<=xs.length:=by
 unfold T9;rw[cR,List.length_drop];omega
def Se(K:PySem.W.Frag):V->Option Int->Option Int->Hp->VK->Prop:=λx lo hi H Q=>∃a xs,x=.ref a/\gF K H a xs /\
 ¬(HT.dF xs.length 0 lo=0/\HT.dF xs.length xs.length hi=xs.length)/\∀p,H p=none->Q (.ref p) (upd H p (.tup (T9 xs lo hi)))
theorem NY:uH X (Se X.K):=by
 intro pins s Z H x v vl vu lo hi sl Q I rx hs pl pu h;obtain⟨a,xs,rfl,hx,hw,q⟩:=h;cases rx;obtain⟨aW,r,ht,hz⟩:=I.tuple hx;have hlen:aW.toArray.size=xs.length:=by rw[aI];exact r.length.symm
 refine⟨"tuple",_,bS.lookup,ht.typeIs,?_⟩;refine HT.VS ht hs pl pu (by rw[hlen];exact hw) ?_ (by rw[hlen];exact hz);rw[hlen];refine⟨.ref s.heap.objs.size,_,I.laid (t':=s.toks) (o:=.tup (T9 xs lo hi)) (λb ob q=>au _ q) (aw _) ?_,rfl,q _ (I.bR.fresh (aw _))⟩;exact⟨aG (Gk xs lo hi) hz,_,(r.drop (HT.dF xs.length 0 lo)).take (HT.dF xs.length xs.length hi-HT.dF xs.length 0 lo),K1.new _ _⟩
def Uu(K:PySem.W.Frag):R2:=λx y H Q=>∃a b xs ys,x=.ref a/\y=.ref b/\gF K H a xs/\gF K H b ys/\xs≠[]/\xs.length+ys.length<=sizeLine /\
 (ys=[]->Q (.ref a) H)/\(ys≠[]->∀p,H p=none->Q (.ref p) (upd H p (.tup (xs++ys))))
theorem Vals.Q8{xs:List V}{us:List Value}(r:Vals xs us):us=[]↔xs=[]:=by
 cases r with
 |nil=>simp
 |cons _ _=>simp
theorem Po:ft X (binaryOp .Add) (Uu X.K):=by
 intro pins s Z H x y v u Q I rx ry h;obtain⟨a,b,xs,ys,rfl,rfl,ha,hb,hx,hz,q1,q2⟩:=h;cases rx;cases ry;obtain⟨aW,r1,p1,_⟩:=I.tuple ha;obtain⟨kG,r2,p2,_⟩:=I.tuple hb;refine HT.OO p1 p2 (λz=>hx (r1.Q8.mp z)) (λz=>⟨.ref a,H,I,rfl,q1 (r2.Q8.mp z)⟩) (λz=>?_) (by rw[<- r1.length,<- r2.length];exact hz);refine⟨.ref s.heap.objs.size,_,I.laid (t':=s.toks) (o:=.tup (xs++ys)) (λb ob q=>au _ q) (aw _) ?_,rfl,q2 (λw=>z (r2.Q8.mpr w)) _ (I.bR.fresh (aw _))⟩;exact⟨by rw[bg];exact hz,_,r1.append r2,K1.new _ _⟩
end
def jx(n:Nat)(i:Int):Option Nat:=if 0<=i then(if i<n then some i.toNat else none) else if -(n:Int)<=i then some (i+n).toNat else none
def fI{α:Type}(xs:List α)(i:Int):Option α:=(jx xs.length i).bind λj=>xs[j]?
theorem Hm{n:Nat}{i:Int}{j:Nat}(h:jx n i=some j):seqIndex? i n=some j/\j<n/\-(n:Int)<=i/\i<n:=by
 unfold jx at h;by_cases h0:0<=i
 ·rw[aK h0] at h;by_cases h1:i<n
  ·rw[aK h1] at h;have e:i.toNat=j:=aQ h;exact⟨by rw[seqIndex_of h0 h1,e],by omega,by omega,h1⟩
  ·rw[aC h1] at h;cases h
 ·rw[aC h0] at h;by_cases h1:-(n:Int)<=i
  ·rw[aK h1] at h;have e:(i+n).toNat=j:=aQ h;exact⟨by rw[seqIndex_neg (by omega) h1,e],by omega,h1,by omega⟩
  ·rw[aC h1] at h;cases h
theorem zT{α:Type}{xs:List α}{i:Int}{v:α}(h:fI xs i=some v):∃j,seqIndex? i xs.length=some j/\xs[j]?=some v/\j<xs.length/\-(xs.length:Int)<=i/\i<xs.length:=by
 unfold fI at h;cases e:jx xs.length i with
 |none=>rw[e] at h;cases h
 |some j =>
  rw[e] at h;obtain⟨h1,h2,h3,h4⟩:=Hm e;exact⟨j,h1,h,h2,h3,h4⟩
theorem x4{α:Type}{xs:List α}{j:Nat}{v:α}(h:xs[j]?=some v):fI xs (j:Int)=some v:=by
 have hj:j<xs.length:=(ak.mp h).1;have e:jx xs.length (j:Int)=some j:=by
  unfold jx;rw[aK (by omega),aK (by omega)];simp
 unfold fI;rw[e];exact h
def zP(b:Expr):Prop:=∀o i,subscripted b false o i=operate [o,i] (getItem o i)
def pS(X:Cx)(r:R2):Prop :=
 ∀(value slice:Expr) (pins:List (Addr×Obj)) (s:Shared) (Z:St) (H:Hp) (x y:V) (v u:Value) (Q:VK),Inv X pins Z H s->RelV x v->RelV y u->r x y H Q ->
  subscripted slice false v u=operate [v,u] (getItem v u)->wpAny (model X.prog X.w) X.A (subscriptTail value slice v u) (EP X pins Z Q) X.xe s
def ka(X:Cx)(id:String)(r:V->List V->Hp->VK->Prop):Prop :=
 ∀(pins:List (Addr×Obj)) (s:Shared) (Z:St) (H:Hp) (x:V) (xs:List V) (v:Value) (us:List Value) (Q:VK),Inv X pins Z H s->RelV x v->Vals xs us->r x xs H Q ->
  wpAny (model X.prog X.w) X.A (call (.builtin id) (v::us)) (EP X pins Z Q) X.xe s
section
variable{X:Cx}{a b:Expr}{ta tb:TE}{pos:Pos}
theorem ET{r:R2}(hr:pS X r)(ha:PE X a ta)(hb:PE X b tb)(hs:zP b):PE X (.Subscript a b pos) (pU r ta tb):=by
 intro pins s Z H Q I h;exact Subscript_ (zK ha hb I h λv u s2 x y H2 I2 rx ry q=>hr a b pins s2 Z H2 x y v u Q I2 rx ry q (hs _ _))
def RX(K:PySem.W.Frag):R2:=λx y H Q=>∃p xs i v,x=.ref p/\y=.int i/\fo K H p xs/\fI xs i=some v/\Q v H
def RZ(K:PySem.W.Frag):R2:=λx y H Q=>∃p xs i v,x=.ref p/\y=.int i/\gF K H p xs/\fI xs i=some v/\Q v H
def RY:R2:=λx y H Q=>∃z i c,x=.str z/\y=.int i/\z.length<=sizeLine/\fI z.cps.toList i=some c/\Q (.str ⟨#[c]⟩) H
theorem Pc:pS X (RX X.K):=by
 intro value slice pins s Z H x y v u Q I rx ry h hs;obtain⟨p,xs,i,z,rfl,rfl,hq,he,q⟩:=h;cases rx;obtain⟨t,rfl⟩:=ry;obtain⟨aW,r,pl,hz⟩:=I.list hq;obtain⟨j,h1,h2,h3,h4,h5⟩:=zT he;obtain⟨w,ew,fq⟩:=r.get h2;have hl:=r.length;have hn:=T6;have fin:EP X pins Z Q w s:=⟨z,H,I,fq,q⟩
 by_cases h0:0<=i
 ·have hj:i.toNat=j:=by
   rw[seqIndex_of h0 h5] at h1;exact aQ h1
  exact item_listR pl.isList h0 (by omega) (by rw[hj];simpa using ew) fin hs
 ·have hj:(i+(aW.toArray.size:Int)).toNat=j:=by
   rw[seqIndex_neg (by omega) h4] at h1;rw[aI,<- hl];exact aQ h1
  exact subscriptTail_builtinR (x:=w) pl.isList.typeIs slot_list_getitem.lookup
   (wpAny_getItem_list_neg (Q:=λr s'=>r=w/\EP X pins Z Q r s') pl.isList (by omega) (by rw[aI]<;>omega) (by omega) (by rw[hj];simpa using ew) ⟨rfl,fin⟩) hs
theorem Mx:pS X (RZ X.K):=by
 intro value slice pins s Z H x y v u Q I rx ry h hs;obtain⟨p,xs,i,z,rfl,rfl,hq,he,q⟩:=h;cases rx;obtain⟨t,rfl⟩:=ry;obtain⟨aW,r,pl,hz⟩:=I.tuple hq;obtain⟨j,h1,h2,h3,h4,h5⟩:=zT he;obtain⟨w,ew,fq⟩:=r.get h2;have hl:=r.length;have hn:=T6;have fin:EP X pins Z Q w s:=⟨z,H,I,fq,q⟩
 exact subscriptTail_builtinR (x:=w) pl.typeIs slot_tuple_getitem.lookup
  (getItem_tuple (j:=j) (Q:=λr s'=>r=w/\EP X pins Z Q r s') pl (by omega) (by omega) (by rw[aI,<- hl];exact h1) (by simpa using ew) ⟨rfl,fin⟩) hs
theorem Mw:pS X RY:=by
 intro value slice pins s Z H x y v u Q I rx ry h hs;obtain⟨z,i,c,rfl,rfl,hz,he,q⟩:=h;obtain⟨t,rfl⟩:=rx;obtain⟨t',rfl⟩:=ry;obtain⟨j,h1,h2,h3,h4,h5⟩:=zT he;have hl:z.cps.toList.length=z.length:=by simp[Str.length]
 rw[hl] at h1 h4 h5;have hn:=T6;exact tail_any (typeIs_str s z t) slot_str_getitem.lookup (getItem_str (c:=c) (by
  have e1:decide (i < -(2 ^ 63:Int))=false:=aE (by omega);have e2:decide (i>=2 ^ 63)=false:=aE (by omega);rw [e1,e2,Bool.or_false]) (by rw [h1];simpa using h2) ⟨.str ⟨#[c]⟩,H,I.tok _,⟨_,rfl⟩,q⟩) hs
theorem Xj(aW:List Value)(n j:Nat)(u:Value):Obj.mapSeq (·.setIfInBounds j u) { cls:=.type "list",data:=.seq aW.toArray n }={ cls:=.type "list",data:=.seq (aW.set j u).toArray n }:=by
 simp[Obj.mapSeq]
theorem Inv.lst{pins:List (Addr×Obj)}{Z:St}{H:Hp}{s:Shared}{p:Addr}{xs:List V}(I:Inv X pins Z H s)(h:H p=some (.lst xs)) :
  ∃(aW:List Value) (n:Nat),Vals xs aW/\s.heap.get? p=some { cls:=.type "list",data:=.seq aW.toArray n }/\xs.length<=sizeLine:=by
 obtain⟨z,aW,n,r,e⟩:=I.bR p _ h;exact⟨aW,n,r,e,z⟩
theorem Inv.MJ{pins:List (Addr×Obj)}{Z:St}{H:Hp}{s:Shared}{p:Addr}{xs ys:List V}{aW its':List Value}{n n':Nat}{f:Obj->Obj}(I:Inv X pins Z H s)(h:H p=some (.lst xs))(ho:s.heap.get? p=some { cls:=.type "list",data:=.seq aW.toArray n })(hf:f { cls:=.type "list",data:=.seq aW.toArray n }={ cls:=.type "list",data:=.seq its'.toArray n' })(r:Vals ys its')(hz:ys.length<=sizeLine)(t:Nat) :
  Inv X pins Z (upd H p (.lst ys)) { s with heap:=s.heap.update p f,toks:=t }:=by
 have e:(s.heap.update p f).get? p=some { cls:=.type "list",data:=.seq its'.toArray n' }:=by
  rw[bu f ho (by rw[hf]<;>rfl),hf]
 refine I.write (x:=p) (e:=p) (by rw[h];trivial) (.inl rfl) (λb u hb q=>(cV _ _ (bP hb)).trans q) ⟨_,e⟩ ?_;exact⟨hz,its',n',r,e⟩
def Ux:V->V->V->Hp->(Hp->Prop)->Prop:=λo i v H Q=>∃p xs k j,o=.ref p/\i=.int k/\H p=some (.lst xs)/\jx xs.length k=some j/\Q (upd H p (.lst (xs.set j v)))
theorem set_list:zH X Ux:=by
 intro pins s Z H o i v ov iv u Q I ro ri rv h;obtain⟨p,xs,k,j,rfl,rfl,hp,hj,q⟩:=h;cases ro;obtain⟨t,rfl⟩:=ri;obtain⟨aW,n,r,ho,hz⟩:=I.lst hp;obtain⟨h1,h2,h3,h4⟩:=Hm hj;have hl:=r.length;have hn:=T6;have I':Inv X pins Z (upd H p (.lst (xs.set j v))) { s with heap:=s.heap.update p (Obj.mapSeq (·.setIfInBounds j u)) } :=
  I.MJ hp ho (Xj aW n j u) (r.set rv j) (by rw[List.length_set];exact hz) s.toks
 by_cases h0:0<=k
 ·have hk:k.toNat=j:=by
   rw[seqIndex_of h0 h4] at h1;exact aQ h1
  exact PySem.W.ki_setAt ho h0 (by omega) (by rw[aI,<- hl];exact h4) (by rw[hk];exact⟨_,I',q⟩)
 ·have hk:(k+(aW.toArray.size:Int)).toNat=j:=by
   rw[seqIndex_neg (by omega) h3] at h1;rw[aI,<- hl];exact aQ h1
  exact PySem.W.ki_setBack ho (by omega) (by rw[aI,<- hl];exact h3) (by omega) (by rw[hk];exact⟨_,I',q⟩)
theorem Ys(lo hi:Option Int)(n:Nat):(sliceBounds lo hi none n).1=((HT.dF n 0 lo:Nat):Int)/\(sliceBounds lo hi none n).2.1=((HT.dF n n hi:Nat):Int)/\(sliceBounds lo hi none n).2.2=1:=by
 refine⟨?_,?_,rfl⟩
 ·cases lo with
  |none=>simp[sliceBounds,HT.dF]
  |some i =>
   simp only[sliceBounds,HT.dF,Option.getD_none,show(1:Int)>0 by decide,if_true];by_cases h:i<0
   ·simp only[h,if_true]<;>omega
   ·simp only[h,if_false]<;>omega
 ·cases hi with
  |none=>simp[sliceBounds,HT.dF]
  |some i =>
   simp only[sliceBounds,HT.dF,Option.getD_none,show(1:Int)>0 by decide,if_true];by_cases h:i<0
   ·simp only[h,if_true]<;>omega
   ·simp only[h,if_false]<;>omega
theorem VB(aW:List Value)(lo hi:Option Int):slicePick aW.toArray lo hi none=((aW.drop (HT.dF aW.length 0 lo)).take (HT.dF aW.length aW.length hi-HT.dF aW.length 0 lo)).toArray:=by
 obtain⟨h1,h2,h3⟩:=Ys lo hi aW.toArray.size;unfold slicePick;rw[h1,h2,h3];simp only[sliceRange_one,pick_run,List.size_toArray]<;>rfl
def Sd(K:PySem.W.Frag):V->Option Int->Option Int->Hp->VK->Prop:=λx lo hi H Q=>∃a xs,x=.ref a/\fo K H a xs/\∀p,H p=none->Q (.ref p) (upd H p (.lst (T9 xs lo hi)))
theorem Qu:uH X (Sd X.K):=by
 intro pins s Z H x v vl vu lo hi sl Q I rx hs pl pu h;obtain⟨a,xs,rfl,hx,q⟩:=h;cases rx;obtain⟨aW,r,ht,hz⟩:=I.list hx;have hlen:=r.length;refine⟨"list",_,slot_list_getitem.lookup,ht.isList.typeIs,?_⟩;refine wpAny_getItem_list_slice ht.isList hs pl pu .none (by simp) ?_ (by rw[aI]<;>omega);rw[VB,<- hlen];refine⟨.ref s.heap.objs.size,_,I.laid (t':=s.toks) (o:=.lst (T9 xs lo hi)) (λb ob q=>au _ q) (aw _) ?_,rfl,q _ (I.bR.fresh (aw _))⟩;exact⟨aG (Gk xs lo hi) hz,_,0,(r.drop (HT.dF xs.length 0 lo)).take (HT.dF xs.length xs.length hi-HT.dF xs.length 0 lo),aH _ rfl⟩
def M0:V->Bool
 |.bx=>true
 |.bl _=>true
 |.int _=>true
 |.str _=>true
 |_=>false
def lM:V->V->Bool
 |.bx,.bx=>true
 |.bl a,.bl b=>a==b
 |.bl a,.int b=>(if a then 1 else 0)==b
 |.int a,.bl b=>a==(if b then 1 else 0)
 |.int a,.int b=>a==b
 |.str a,.str b=>a==b
 |_,_=>false
theorem Vm{A:Around}{s:Shared}{y x:V}{u v:Value}(ry:RelV y u)(rx:RelV x v)(fy:M0 y=true)(fx:M0 x=true):SeqAt.EqAt A s u v (lM y x):=by
 cases y with
 |bx =>
  cases ry;cases x with
  |bx=>cases rx;exact SeqAt.EqAt.same _
  |bl b=>cases rx;exact SeqAt.EqAt.none_bool b
  |int b=>obtain⟨t,rfl⟩:=rx;exact SeqAt.EqAt.none_int b t
  |str b=>obtain⟨t,rfl⟩:=rx;exact SeqAt.EqAt.none_str b t
  |_=>exact absurd (show false=true from fx) Bool.false_ne_true
 |bl a =>
  cases ry;cases x with
  |bx=>cases rx;exact SeqAt.EqAt.bool_none a
  |bl b=>cases rx;exact SeqAt.EqAt.bool_bool a b
  |int b=>obtain⟨t,rfl⟩:=rx;exact SeqAt.EqAt.bool_int a b t
  |str b=>obtain⟨t,rfl⟩:=rx;exact SeqAt.EqAt.bool_str a b t
  |_=>exact absurd (show false=true from fx) Bool.false_ne_true
 |int a =>
  obtain⟨t',rfl⟩:=ry;cases x with
  |bx=>cases rx;exact SeqAt.EqAt.int_none a t'
  |bl b=>cases rx;exact SeqAt.EqAt.int_bool a t' b
  |int b=>obtain⟨t,rfl⟩:=rx;exact SeqAt.EqAt.int_int a t' b t
  |str b=>obtain⟨t,rfl⟩:=rx;exact SeqAt.EqAt.int_str a t' b t
  |_=>exact absurd (show false=true from fx) Bool.false_ne_true
 |str a =>
  obtain⟨t',rfl⟩:=ry;cases x with
  |bx=>cases rx;exact SeqAt.EqAt.str_none a t'
  |bl b=>cases rx;exact SeqAt.EqAt.str_bool a t' b
  |int b=>obtain⟨t,rfl⟩:=rx;exact SeqAt.EqAt.str_int a t' b t
  |str b=>obtain⟨t,rfl⟩:=rx;exact SeqAt.EqAt.str_str a t' b t
  |_=>exact absurd (show false=true from fx) Bool.false_ne_true
 |_=>exact absurd (show false=true from fy) bH
def qq(x:V)(u:Value):Bool:=match u with
 |.none=>lM .bx x
 |.bool b=>lM (.bl b) x
 |.int i _=>lM (.int i) x
 |.str z _=>lM (.str z) x
 |_=>false
theorem BB{x y:V}{u:Value}(r:RelV y u)(f:M0 y=true):qq x u=lM y x:=by
 cases y with
 |bx=>cases r;rfl
 |bl b=>cases r;rfl
 |int i=>obtain⟨t,rfl⟩:=r;rfl
 |str z=>obtain⟨t,rfl⟩:=r;rfl
 |_=>exact absurd (show false=true from f) bH
theorem Ar{A:Around}{s:Shared}{x:V}{v:Value}(rx:RelV x v)(fx:M0 x=true):∀{xs:List V} {us:List Value},Vals xs us->xs.all M0=true->∀u∈us,SeqAt.EqAt A s u v (qq x u)
 |_,_,.nil,_=>λu hu=>by cases hu
 |y::xs,u::us,.cons r t,f=>λu' hu=>by
  rw[List.all_cons,aO] at f;rcases aL.mp hu with rfl|hu
  ·rw[BB r f.1];exact Vm r rx f.1 fx
  ·exact Ar rx fx t f.2 u' hu
theorem Yf:m5 X (.builtin "len") (λxs H Q=>∃p ys,xs=[.ref p]/\(fo X.K H p ys\/gF X.K H p ys)/\Q (.int ys.length) H):=by
 intro pins s Z H xs us Q I r h;obtain⟨p,ys,rfl,hq,q⟩:=h;obtain⟨u,rfl,rx⟩:=vals1 r;cases rx;have hn:=T6;rcases hq with hq|hq
 ·obtain⟨aW,r',pl,hz⟩:=I.list hq;have hlen:=r'.length;exact Calls.call_len_list pl.isList (by simp only[List.size_toArray]<;>omega) ⟨.int ys.length,H,I.tok _,⟨s.toks+1,by rw[aI,hlen]⟩,q⟩
 ·obtain⟨aW,r',pl,hz⟩:=I.tuple hq;have hlen:=r'.length;exact len_tuple pl (by simp only[List.size_toArray]<;>omega) ⟨.int ys.length,H,I.tok _,⟨s.toks+1,by rw[aI,hlen]⟩,q⟩
theorem Yg:m5 X (.builtin "len") (λxs H Q=>∃z,xs=[.str z]/\z.length<=sizeLine/\Q (.int z.length) H):=by
 intro pins s Z H xs us Q I r h;obtain⟨z,rfl,hz,q⟩:=h;obtain⟨u,rfl,t,rfl⟩:=vals1 r;have hn:=T6;exact len_str (by omega) ⟨.int z.length,H,I.tok _,⟨_,rfl⟩,q⟩
theorem Yh:m5 X (.type "list") (λxs H Q=>∃p ys,xs=[.ref p]/\(fo X.K H p ys\/gF X.K H p ys)/\∀l,H l=none->Q (.ref l) (upd H l (.lst ys))):=by
 intro pins s Z H xs us Q I r h;obtain⟨p,ys,rfl,hq,q⟩:=h;obtain⟨u,rfl,rx⟩:=vals1 r;cases rx;have fin:∀(aW:List Value),Vals ys aW->ys.length<=sizeLine->∀(h':Heap) (c':Nat),(∀b o',s.heap.get? b=some o'->h'.get? b=some o') ->
   h'.get? s.heap.objs.size=some { cls:=.type "list",dict:=none,data:=.seq aW.toArray c',slots:=#[] }->EP X pins Z Q (.ref s.heap.objs.size) { s with heap:=h' }:=λaW r' hz h' c' kp e =>
  ⟨.ref s.heap.objs.size,_,I.laid (t':=s.toks) kp (aw _) (show m8 X.prog X.w _ h' _ (.lst ys) from⟨hz,aW,c',r',e⟩),rfl,q _ (I.bR.fresh (aw _))⟩
 rcases hq with hq|hq
 ·obtain⟨aW,r',pl,hz⟩:=I.list hq;have hlen:=r'.length;obtain⟨o,ho,hc,n,hd⟩:=pl.isList;exact call_list_seq p (.inl rfl) ho hc hd (λh' c' kp e=>fin aW r' hz h' c' kp e) (by simp only[List.size_toArray]<;>omega)
 ·obtain⟨aW,r',pl,hz⟩:=I.tuple hq;have hlen:=r'.length;obtain⟨o,ho,hc,n,hd⟩:=pl;exact call_list_seq p (.inr rfl) ho hc hd (λh' c' kp e=>fin aW r' hz h' c' kp e) (by simp only[List.size_toArray]<;>omega)
theorem Vu:m5 X (.type "tuple") (λxs H Q=>∃p ys,xs=[.ref p]/\((fo X.K H p ys/\∀l,H l=none->Q (.ref l) (upd H l (.tup ys)))\/(gF X.K H p ys/\Q (.ref p) H))):=by
 intro pins s Z H xs us Q I r h;obtain⟨p,ys,rfl,h⟩:=h;obtain⟨u,rfl,rx⟩:=vals1 r;cases rx;rcases h with⟨hq,q⟩|⟨hq,q⟩
 ·obtain⟨aW,r',pl,hz⟩:=I.list hq;have hlen:=r'.length;refine call_tuple_list pl.isList (λh' kp=>?_) (by simp only[List.size_toArray]<;>omega);have I1:Inv X pins Z H { s with heap:=h' }:=I.kept (t':=s.toks) kp;have I2:Inv X pins Z (upd H h'.objs.size (.tup ys)) { s with heap:=h'.push { cls:=.type "tuple",data:=.seq aW.toArray } } :=
   I1.laid (t':=s.toks) (λb o e=>au _ e) (aw _) (show m8 X.prog X.w _ _ _ (.tup ys) from⟨hz,aW,r',K1.new _ _⟩)
  exact⟨.ref h'.objs.size,_,I2,rfl,q _ (I1.bR.fresh (aw _))⟩
 ·obtain⟨aW,r',pl,hz⟩:=I.tuple hq;exact call_tuple_same pl ⟨.ref p,H,I,rfl,q⟩
def lD(K:PySem.W.Frag)(T:String)(x:V)(H:Hp):Prop:=match x with
 |.str _=>T="str"
 |.int _=>T="int"
 |.ref p=>(T="list"/\∃xs,fo K H p xs)\/(T="tuple"/\∃o,K.lookup p=some o/\o.cls=.type "tuple"/\o.dict=none) \/
   (T="dict"/\((∃kvs,H p=some (.dK kvs))\/∃kvs,H p=some (.dT kvs)))\/(T="set"/\∃S n,H p=some (.set S n))
 |_=>False
theorem Hc{pins:List (Addr×Obj)}{Z:St}{H:Hp}{s:Shared}{T:String}{x:V}{v:Value}(I:Inv X pins Z H s)(r:RelV x v)(ty:lD X.K T x H) :
  s.TypeIs v T/\∀a,v=.ref a->∃ob,s.heap.get? a=some ob/\ob.dict=none:=by
 cases x with
 |str z =>
  obtain⟨t,rfl⟩:=r;cases (show T="str" from ty);exact⟨typeIs_str s z t,λ_ e=>nomatch e⟩
 |int i =>
  obtain⟨t,rfl⟩:=r;cases (show T="int" from ty);exact⟨typeIs_int s i t,λ_ e=>nomatch e⟩
 |ref p =>
  cases r;rcases ty with⟨rfl,xs,hq⟩|⟨rfl,o,hk,hc,hd⟩|⟨rfl,hk⟩|⟨rfl,S,n,hk⟩
  ·obtain⟨aW,_,pl,_⟩:=I.list hq;refine⟨pl.isList.typeIs,λa e=>?_⟩;cases e;obtain⟨o,n,e,c,hd,_⟩:=pl;exact⟨o,e,hd⟩
  ·refine⟨⟨o,I.fV p o hk,hc⟩,λa e=>?_⟩;cases e;exact⟨o,I.fV _ o hk,hd⟩
  ·have z:∃o,s.heap.get? p=some o/\o.ExactDict:=by
    rcases hk with⟨kvs,hk⟩|⟨kvs,hk⟩
    ·obtain⟨_,_,_,_,o,_,_,e,ex,_⟩:=I.bR p _ hk;exact⟨o,e,ex⟩
    ·obtain⟨_,_,_,_,o,_,_,e,ex,_⟩:=I.bR p _ hk;exact⟨o,e,ex⟩
   obtain⟨o,e,ex⟩:=z;refine⟨⟨o,e,ex.1⟩,λa e2=>?_⟩;cases e2;exact⟨o,e,ex.2.1⟩
  ·obtain⟨o,_,_,_,e,ex,_⟩:=I.bR p _ hk;refine⟨⟨o,e,ex.1⟩,λa e2=>?_⟩;cases e2;exact⟨o,e,ex.2.1⟩
 |_=>exact False.elim ty
def Sr(K:PySem.W.Frag)(T:String)(r:V->List V->Hp->VK->Prop)(to:TE):TE:=λZ H Q=>to Z H λx H1=>lD K T x H1/\r x [] H1 Q
def Jg(K:PySem.W.Frag)(T:String)(r:V->List V->Hp->VK->Prop)(to:TE)(t:TA):TE:=λZ H Q=>to Z H λx H1=>lD K T x H1/\t Z H1 λxs H2=>r x xs H2 Q
variable{o e:Expr}{es:List Expr}{to:TE}{t:TA}{name:Str}{apos dY:Pos}{T id:String}{r:V->List V->Hp->VK->Prop}
theorem Ng(pa:PlainAttrs T)(slot:Slot T name id)(iA:typeOf (.builtin id)=pure (.type "method_descriptor"))(hm:ka X id r)(ho:PE X o to)(fM:attributeBase o name X.env (eval o X.env)=eval o X.env:=by rfl)(fL:(apos.endLine==dY.line)=true:=by rfl):PE X (.Call (.Attribute o name apos) [] [] dY) (Sr X.K T r to):=by
 intro pins s Z H Q I h;refine wpAny_Call_method0_late fM fL (cF (ho pins s Z H _ I h) λv s1 bq=>?_);obtain⟨x,H1,I1,r1,ty,q1⟩:=bq;obtain⟨h1,h2⟩:=Hc I1 r1 ty;exact⟨T,id,pa,slot,iA,h1,h2,Calls.callWith_builtin rfl (PySem.evalArgs_none (hm pins s1 Z H1 x [] v [] Q I1 r1 .nil q1))⟩
theorem Uk(pa:PlainAttrs T)(slot:Slot T name id)(iA:typeOf (.builtin id)=pure (.type "method_descriptor"))(hm:ka X id r)(ho:PE X o to)(ha:PA X (e::es) t)(fM:attributeBase o name X.env (eval o X.env)=eval o X.env:=by rfl)(jC:((backTo dY (starEach (e :: es) X.env)).all (λx=>!x.1) && (backToKw dY (keywordEach [] X.env)).all (λx=>x.1.isSome)
   && decide ((e :: es).length + ([]:List Keyword).length + (if ([]:List Keyword).isEmpty then 0 else 1) < 30))=true:=by rfl)(fL:(apos.endLine==dY.line)=true:=by rfl)(hs:starEach (e::es) X.env=(false,eval e X.env)::starEach es X.env:=by rfl)(eV:(backTo dY (starEach es X.env)).any (·.1)=false:=by rfl) :
  PE X (.Call (.Attribute o name apos) (e::es) [] dY) (Jg X.K T r to t):=by
 intro pins s Z H Q I h;refine wpAny_Call_method_late fM jC fL rfl (cF (ho pins s Z H _ I h) λv s1 bq=>?_);obtain⟨x,H1,I1,r1,ty,q1⟩:=bq;obtain⟨h1,h2⟩:=Hc I1 r1 ty;refine⟨T,id,pa,slot,iA,h1,h2,?_⟩;have hA:=ha dY pins s1 Z H1 _ I1 q1;rw[hs] at hA ⊢;refine Calls.callWith_builtin (by show(false||(backTo dY (starEach es X.env)).any (·.1))=false;rw[eV]<;>rfl) (Calls.evalArgs_plain ?_);exact cF hA λus s2 ⟨vs,H2,I2,r2,q2⟩=>hm pins s2 Z H2 x vs v us Q I2 r1 r2 q2
end
def IF(X:Cx)(id:String)(r:V->List V->Hp->VK->Prop):Prop :=
 ∀(pins:List (Addr×Obj)) (s:Shared) (Z:St) (H:Hp) (x:V) (xs:List V) (v:Value) (us:List Value) (Q:VK),Inv X pins Z H s->RelV x v->Vals xs us->r x xs H Q ->
  wpAny (model X.prog X.w) X.A (call (.builtin id) (v::us)) (EP X pins Z Q) X.xe s
theorem Vals.one{x:V}{us:List Value}(h:Vals [x] us):∃u,us=[u]/\RelV x u:=by
 cases h with
 |cons r h =>
  cases h;exact⟨_,rfl,r⟩
theorem Vals.eraseIdx:∀{xs:List V} {us:List Value} (i:Nat),Vals xs us->Vals (xs.eraseIdx i) (us.eraseIdx i)
 |_,_,_,.nil=>.nil
 |_,_,0,.cons _ t=>t
 |_,_,i+1,.cons r t=>.cons r (Vals.eraseIdx i t)
theorem Vals.rep{xs:List V}{us:List Value}(h:Vals xs us):∀k:Nat,Vals (List.replicate k xs).flatten (List.replicate k us).flatten
 |0=>.nil
 |k+1=>by
  rw[cq,cq,da,da];exact Vals.append h (Vals.rep h k)
theorem Fz{α:Type}:∀(l:List α) (i:Nat),(l.eraseIdx i).length<=l.length
 |[],_=>aw _
 |_::_,0=>Nat.le_succ _
 |_::r,i+1=>Nat.succ_le_succ (Fz r i)
theorem foldl_rep(aW:List Value):∀(k:Nat) (acc:List Value),
  List.foldl (λx1 x2=>x1++x2) acc.toArray (List.replicate k aW.toArray)=(acc++(List.replicate k aW).flatten).toArray
 |0,acc=>by simp
 |k+1,acc=>by
  have e:acc.toArray++aW.toArray=(acc++aW).toArray:=by simp
  have e2:(acc++aW)++(List.replicate k aW).flatten=acc++(List.replicate (k+1) aW).flatten:=by
   rw[cq,da,List.append_assoc]
  rw[<- e2,<- foldl_rep aW k (acc++aW),<- e,cq,List.foldl_cons]
section
variable{X:Cx}{pins:List (Addr×Obj)}{Z:St}{H:Hp}{s:Shared}{l b:Addr}{xs ys zs:List V}
theorem Inv.nJ{aW its':List Value}{n:Nat}{f:Array Value->Array Value}{t':Nat}(I:Inv X pins Z H s)(hH:H l=some (.lst xs))(e:s.heap.get? l=some { cls:=.type "list",data:=.seq aW.toArray n })(hf:f aW.toArray=its'.toArray)(hv:Vals ys its')(hz:ys.length<=sizeLine) :
  Inv X pins Z (upd H l (.lst ys)) { s with heap:=s.heap.update l (Obj.mapSeq f),toks:=t' }:=by
 have q:=PySem.IsL.update e f;rw[hf] at q;refine I.write (x:=l) (e:=l) (by rw[hH];exact trivial) (.inl rfl) (λb' u hb hu=>(cV s.heap (Obj.mapSeq f) (bP hb)).trans hu) ⟨_,q⟩ ?_;exact⟨hz,its',_,hv,q⟩
theorem Inv.Ek{aW:List Value}{t':Nat}(I:Inv X pins Z H s)(hv:Vals ys aW)(hz:ys.length<=sizeLine) :
  Inv X pins Z (upd H s.heap.objs.size (.lst ys)) { s with heap:=s.heap.push { cls:=.type "list",data:=.seq aW.toArray },toks:=t' } :=
 I.laid (λ_ _ q=>au _ q) (aw _) ⟨hz,aW,0,hv,aH _ rfl⟩
theorem Inv.fresh(I:Inv X pins Z H s):H s.heap.objs.size=none:=I.bR.fresh (aw _)
theorem Inv.uA(I:Inv X pins Z H s)(hH:H l=some (.lst xs)):xs.length<=sizeLine/\∃(aW:List Value) (n:Nat),Vals xs aW/\xs.length=aW.length/\s.heap.get? l=some { cls:=.type "list",data:=.seq aW.toArray n }:=by
 obtain⟨z,aW,n,r,e⟩:=I.bR l _ hH;exact⟨z,aW,n,r,r.length,e⟩
theorem YC{n:Nat}(h:n<=sizeLine):Builtin.List.listTooLong n=false:=by
 unfold Builtin.List.listTooLong;exact aE (by omega)
end
section
variable{X:Cx}
def Qc:V->List V->Hp->VK->Prop:=λx vs H Q=>∃l xs y,x=.ref l/\vs=[y]/\H l=some (.lst xs)/\xs.length<sizeLine/\Q .bx (upd H l (.lst (xs++[y])))
theorem VZ:IF X "list.append" Qc:=by
 intro pins s Z H x vs v us Q I rx rv h;obtain⟨l,xs,y,rfl,rfl,hH,hz,q⟩:=h;cases rx;obtain⟨u,rfl,ru⟩:=rv.one;obtain⟨z,aW,n,r,hl,e⟩:=I.uA hH;refine dS F.slot_list_append ⟨_,e,rfl⟩ F.entry_list_append (F.args_list_append_2 _ _) (PySem.list_append l aW.toArray n u (by rw[aI];omega)) ⟨e,?_⟩;refine⟨.bx,_,I.nJ (its':=aW++[u]) hH e (by simp) (r.append (.cons ru .nil)) ?_,rfl,q⟩;rw[bg,List.length_singleton];omega
def NH:V->List V->Hp->VK->Prop:=λx vs H Q=>∃l xs i k y,x=.ref l/\vs=[.int i]/\H l=some (.lst xs)/\-(2 ^ 63)<=i/\i<2 ^ 63/\seqIndex? i xs.length=some k/\xs[k]?=some y/\Q y (upd H l (.lst (xs.eraseIdx k)))
theorem Yy:IF X "list.pop" NH:=by
 intro pins s Z H x vs v us Q I rx rv h;obtain⟨l,xs,i,k,y,rfl,rfl,hH,h1,h2,hk,hy,q⟩:=h;cases rx;obtain⟨u,rfl,ru⟩:=rv.one;obtain⟨t,rfl⟩:=ru;obtain⟨z,aW,n,r,hl,e⟩:=I.uA hH;obtain⟨w,hw,fq⟩:=r.get hy;refine dS F.slot_list_pop ⟨_,e,rfl⟩ F.entry_list_pop (F.args_list_pop_2 _ _)
  (MeetsSeq.list_pop_at l aW.toArray n i t k w (fitsIndex_both h1 h2) (by rw[aI,<- hl];exact hk) (by rw[<- Array.getElem?_toList];exact hw) (by rw[aI];omega)) ⟨e,?_⟩
 refine⟨y,_,I.nJ (its':=aW.eraseIdx k) hH e ?_ (r.eraseIdx k) ?_,fq,q⟩
 ·show aW.toArray.eraseIdxIfInBounds k=(aW.eraseIdx k).toArray;rw[List.eraseIdxIfInBounds_toArray]
 ·have:=Fz xs k;omega
def RV:R2:=λx y H Q=>∃l b xs zs,x=.ref l/\y=.ref b/\H l=some (.lst xs)/\H b=some (.lst zs)/\xs.length+zs.length<=sizeLine/\∀p,H p=none->Q (.ref p) (upd H p (.lst (xs++zs)))
theorem MV:ft X (binaryOp .Add) RV:=by
 intro pins s Z H x y v u Q I rx ry h;obtain⟨l,b,xs,zs,rfl,rfl,hH,hB,hz,q⟩:=h;cases rx;cases ry;obtain⟨z,aW,n,r,hl,e⟩:=I.uA hH;obtain⟨z2,kG,n2,r2,hl2,e2⟩:=I.uA hB;refine PySem.P.add_list e e2 ?_ (by rw[aI,aI];omega);have ea:aW.toArray++kG.toArray=(aW++kG).toArray:=by simp
 rw[ea];exact⟨.ref _,_,I.Ek (t':=s.toks) (r.append r2) (by rw[bg];omega),rfl,q _ I.fresh⟩
def Sa:R2:=λx y H Q=>∃l k xs,x=.ref l/\y=.int k/\H l=some (.lst xs)/\-(2 ^ 63)<=k/\k<2 ^ 63/\xs.length*k.toNat<=sizeLine /\
 ∀p,H p=none->Q (.ref p) (upd H p (.lst (List.replicate k.toNat xs).flatten))
theorem len_rep{α:Type}(xs:List α)(k:Nat):(List.replicate k xs).flatten.length=k*xs.length:=by
 induction k with
 |zero=>simp
 |succ k ih=>rw[cq,da,bg,ih,Nat.succ_mul,Nat.add_comm]
theorem M':ft X (binaryOp .Mult) Sa:=by
 intro pins s Z H x y v u Q I rx ry h;obtain⟨l,k,xs,rfl,rfl,hH,h1,h2,hz,q⟩:=h;cases rx;obtain⟨t,rfl⟩:=ry;obtain⟨z,aW,n,r,hl,e⟩:=I.uA hH;have hlen:aW.toArray.size*k.toNat<=sizeLine:=by rw[aI,<- hl];exact hz
 have yB:¬aW.toArray.size*k.toNat>(2 ^ 63-1) / 8:=by
  have:(sizeLine:Nat)<=(2 ^ 63-1) / 8:=by decide
  omega
 have yy:¬(!Builtin.List.listFitsIndex k)=true:=by
  rw[fitsIndex_both h1 h2];exact bH
 have sD:¬Builtin.List.listTooLong (aW.toArray.size*k.toNat)=true:=by
  rw[YC hlen];exact bH
 have yh:List.foldl (λx1 x2=>x1++x2) #[] (List.replicate (if aW.toArray.isEmpty=true then 0 else k.toNat) aW.toArray)=(List.replicate k.toNat aW).flatten.toArray:=by
  have f0:∀m:Nat,List.foldl (λx1 x2=>x1++x2) #[] (List.replicate m aW.toArray)=(List.replicate m aW).flatten.toArray:=λm=>by
   have:=foldl_rep aW m [];rw[List.nil_append] at this;exact this
  rw[f0];cases aW with
  |nil=>simp
  |cons a r'=>rw[if_neg (by simp)]
 refine wpAny_binaryOp_repeat_ref (T:="list") (U:="int") (by decide) ⟨_,e,rfl⟩ (λs'=>typeIs_int s' k t) noFill_list_mul F.fills_int_mul F.slot_int_rmul repeat_list F.slot_int_index.lookup
  (dS F.slot_int_rmul (typeIs_int s k t) F.entry_int_rmul (F.args_int_rmul_2 _ _) (int___rmul___int_list k t l aW.toArray n)
   ⟨e,rfl,⟨_,e,rfl⟩,dS F.slot_list_mul ⟨_,e,rfl⟩ F.entry_list_mul (F.args_list_mul_2 _ _) (AutoListH.list___mul___list_int_3 l aW.toArray n k t yy yB sD) ⟨e,?_⟩⟩)
 rw[yh];exact⟨.ref _,_,I.Ek (t':=s.toks) (r.rep k.toNat) (by rw[len_rep,Nat.mul_comm];exact hz),rfl,q _ I.fresh⟩
end
section
variable{prog:Program}{w:World}{A:Around}{E:Value->Shared->Prop}{s:Shared}
end
section
variable{X:Cx}
end
end L2

namespace L2
open PySem PySem.Spec PyProof.Rows
section
variable{κ:Type}[DecidableEq κ]
def L3(kvs:List (κ×V))(k:κ):Option V:=(kvs.find? λkv=>decide (kv.1=k)).map (·.2)
def putK(kvs:List (κ×V))(k:κ)(v:V):List (κ×V) :=
 if(kvs.any λkv=>decide (kv.1=k))=true then kvs.map (λkv=>if kv.1=k then(kv.1,v) else kv) else kvs++[(k,v)]
theorem AA{p:κ×V}{r:List (κ×V)}{k:κ}(e:p.1=k):L3 (p::r) k=some p.2:=by simp[L3,List.find?_cons,e]
theorem Az{p:κ×V}{r:List (κ×V)}{k:κ}(e:¬p.1=k):L3 (p::r) k=L3 r k:=by simp[L3,List.find?_cons,e]
theorem Iq(k:κ):∀kvs:List (κ×V),(kvs.any λkv=>decide (kv.1=k))=(L3 kvs k).isSome
 |[]=>rfl
 |p::r=>by
  rw[List.any_cons];by_cases e:p.1=k
  ·simp only[AA e,decide_eq_true e,Bool.true_or,Option.isSome_some]
  ·rw[Az e,aE e,eQ];exact Iq k r
theorem W6(kvs:List (κ×V))(k:κ)(v:V):(putK kvs k v).length<=kvs.length+1:=by
 unfold putK;split
 ·rw[ao];omega
 ·rw[bg,cS,List.length_nil];omega
theorem F8.O9{o:Option V}{u:Option Value}(r:F8 o u):o.isSome=u.isSome:=by
 cases o with
 |none=>cases u with
  |none=>rfl
  |some _=>exact(show False from r).elim
 |some _=>cases u with
  |none=>exact(show False from r).elim
  |some _=>rfl
theorem F8.getD{o:Option V}{u:Option Value}{d:V}{d':Value}(r:F8 o u)(rd:RelV d d'):RelV (o.getD d) (u.getD d'):=by
 cases o with
 |none=>cases u with
  |none=>exact rd
  |some _=>exact(show False from r).elim
 |some _=>cases u with
  |none=>exact(show False from r).elim
  |some _=>exact r
theorem KV.val{kvs:List (κ×V)}{vs:List (κ×Value)}(r:KV kvs vs)(k:κ):F8 (L3 kvs k) (valueAt vs k):=by
 unfold KV at r
 induction r with
 |nil=>exact True.intro
 |@cons p q ps qs h t ih =>
  obtain⟨h1,h2⟩:=h;by_cases e:p.1=k
  ·have e':q.1=k:=h1.symm.trans e;have b:valueAt (q::qs) k=some q.2:=by simp[valueAt,List.find?_cons,e']
   rw[AA e,b];exact h2
  ·have e':¬q.1=k:=λz=>e (h1.trans z);have b:valueAt (q::qs) k=valueAt qs k:=by simp[valueAt,List.find?_cons,e']
   rw[Az e,b];exact ih
theorem KV.any{kvs:List (κ×V)}{vs:List (κ×Value)}(r:KV kvs vs)(k:κ):(kvs.any λkv=>decide (kv.1=k))=vs.any λkv=>decide (kv.1=k):=by
 unfold KV at r
 induction r with
 |nil=>rfl
 |cons h t ih=>rw[List.any_cons,List.any_cons,ih,h.1]
theorem KV.BU{kvs:List (κ×V)}{vs:List (κ×Value)}(r:KV kvs vs)(k:κ){y:V}{u:Value}(ry:RelV y u) :
  KV (kvs.map λkv=>if kv.1=k then(kv.1,y) else kv) (vs.map λkv=>if kv.1=k then(kv.1,u) else kv):=by
 unfold KV at r ⊢
 induction r with
 |nil=>exact .nil
 |@cons p q ps qs h t ih =>
  rw[bz,bz];refine .cons ?_ ih;obtain⟨h1,h2⟩:=h;by_cases e:p.1=k
  ·rw[aK e,aK (h1.symm.trans e)];exact⟨h1,ry⟩
  ·rw[aC e,aC (λz=>e (h1.trans z))];exact⟨h1,h2⟩
theorem KV.put{kvs:List (κ×V)}{vs:List (κ×Value)}(r:KV kvs vs)(k:κ){y:V}{u:Value}(ry:RelV y u):KV (putK kvs k y) (stored vs k u):=by
 unfold putK stored;rw[r.any k];by_cases e:(vs.any λkv=>decide (kv.1=k))=true
 ·rw[aK e,aK e];exact r.BU k ry
 ·rw[aC e,aC e];exact Paired.snoc r ⟨rfl,ry⟩
theorem KV.length{kvs:List (κ×V)}{vs:List (κ×Value)}(r:KV kvs vs):kvs.length=vs.length:=Paired.length r
end
theorem pQ{P:Program}{w:World}{k:Key}{u:Value}(r:RelV (kV k) u):(q8 P w).is k u=true:=by
 cases k with
 |inl i=>obtain⟨t,e⟩:=(show ∃t,u=Value.int i t from r);subst e;exact XX P w i t
 |inr x=>obtain⟨t,e⟩:=(show ∃t,u=Value.str x t from r);subst e;exact XY P w x t
theorem Fy{P:Program}{w:World}:∀{ks:List Key} {us:List Value},Vals (ks.map kV) us->ItemsAre (q8 P w) ks us
 |[],_,r=>by rw[List.map_nil] at r;cases r;exact .nil
 |k::ks,_,r=>by
  rw[bz] at r;cases r with
  |cons h t=>exact .cons (pQ h) (Fy t)
noncomputable abbrev KT(H:Hp):List (List Key×V)->List (List Key×Addr×Value)->Prop:=Paired λp q=>p.1=q.1/\H q.2.1=some (.tup (p.1.map kV))/\RelV p.2 q.2.2
theorem KT.val{H:Hp}{kvs:List (List Key×V)}{xs:List (List Key×Addr×Value)}(r:KT H kvs xs)(k:List Key):F8 (L3 kvs k) ((atKey xs k).map (·.2)):=by
 induction r with
 |nil=>exact True.intro
 |@cons p q ps qs h t ih =>
  obtain⟨h1,_,h2⟩:=h;by_cases e:p.1=k
  ·have e':q.1=k:=h1.symm.trans e;have b:atKey (q::qs) k=some q.2:=by simp[atKey,List.find?_cons,e']
   rw[AA e,b];exact h2
  ·have e':¬q.1=k:=λz=>e (h1.trans z);have b:atKey (q::qs) k=atKey qs k:=by simp[atKey,List.find?_cons,e']
   rw[Az e,b];exact ih
theorem KT.BU{H:Hp}{kvs:List (List Key×V)}{xs:List (List Key×Addr×Value)}(r:KT H kvs xs)(k:List Key){y:V}{u:Value}(ry:RelV y u) :
  KT H (kvs.map λkv=>if kv.1=k then(kv.1,y) else kv) (xs.map (putAt k u)):=by
 induction r with
 |nil=>exact .nil
 |@cons p q ps qs h t ih =>
  rw[bz,bz];refine .cons ?_ ih;obtain⟨h1,h2,h3⟩:=h;unfold putAt;by_cases e:p.1=k
  ·rw[aK e,aK (h1.symm.trans e)];exact⟨h1,h2,ry⟩
  ·rw[aC e,aC (λz=>e (h1.trans z))];exact⟨h1,h2,h3⟩
theorem KT.put{H:Hp}{kvs:List (List Key×V)}{xs:List (List Key×Addr×Value)}(r:KT H kvs xs)(k:List Key){b:Addr}{y:V}{u:Value}(hb:H b=some (.tup (k.map kV)))(ry:RelV y u) :
  KT H (putK kvs k y) (storedH xs k b u):=by
 have e:(kvs.any λkv=>decide (kv.1=k))=(atKey xs k).isSome:=by
  rw[Iq,(r.val k).O9,Option.isSome_map]
 unfold putK storedH;rw[e];by_cases q:(atKey xs k).isSome=true
 ·rw[aK q,aK q];exact r.BU k ry
 ·rw[aC q,aC q];exact Paired.snoc r ⟨rfl,hb,ry⟩
theorem KT.keeps{H H':Hp}{kvs:List (List Key×V)}{xs:List (List Key×Addr×Value)}(r:KT H kvs xs)(ht:∀b ys,H b=some (.tup ys)->H' b=some (.tup ys)):KT H' kvs xs :=
 Paired.El r λ_ _ z=>⟨z.1,ht _ _ z.2.1,z.2.2⟩
section
variable{P:Program}{w:World}{H:Hp}{h:Heap}{a:Addr}
theorem EV{u:HO}(ok:fN P w H h)(e:Rd H a u):m8 P w H h a u:=e.ok ok
theorem pP{kvs:List (Key×V)}(ok:fN P w H h)(e:Rd H a (.dK kvs)):kvs.length<=sizeLine/\(a==sysModules)=false/\∃vs,KV kvs vs/\h.DictOf (q8 P w) a vs :=
 show m8 P w H h a (.dK kvs) from EV ok e
theorem EI{kvs:List (Key×V)}(ok:fN P w H h)(e:H a=some (.dK kvs)):kvs.length<=sizeLine/\(a==sysModules)=false/\∃vs,KV kvs vs/\h.DictOf (q8 P w) a vs:=pP ok (.inl e)
theorem Y2{ks:List Key}(ok:fN P w H h)(e:H a=some (.tup (ks.map kV))):(tupleKind (q8 P w)).is h ks a:=by
 obtain⟨_,aW,r,o,h1,h2,⟨n,h3⟩,_⟩:=(show m8 P w H h a (.tup (ks.map kV)) from ok a _ e)
 exact⟨o,aW.toArray,n,h1,h2,h3,by simpa using Fy r⟩
theorem qK{kvs:List (List Key×V)}(ok:fN P w H h)(e:Rd H a (.dT kvs)):kvs.length<=sizeLine/\(a==sysModules)=false /\
  ∃xs,KT H kvs xs/\h.DictOfH (tupleKind (q8 P w)) a xs:=by
 obtain⟨z,y,xs,r,o,es,ep,h1,h2,h3,h4,h5⟩:=(show m8 P w H h a (.dT kvs) from EV ok e)
 refine⟨z,y,xs,r,o,es,ep,h1,h2,h3,h4,λx hx=>?_,h5⟩;have all:∀{l:List (List Key×V)} {m:List (List Key×Addr×Value)},KT H l m->∀x∈m,(tupleKind (q8 P w)).is h x.1 x.2.1:=by
  intro l m q
  induction q with
  |nil=>intro x hx;exact nomatch hx
  |@cons p q ps qs hq t ih =>
   intro x hx;rcases aL.mp hx with e|hx
   ·subst e;exact Y2 ok (by rw[<- hq.1];exact hq.2.1)
   ·exact ih x hx
 exact all r x hx
theorem Tj{kvs:List (List Key×V)}(ok:fN P w H h)(e:H a=some (.dT kvs)):kvs.length<=sizeLine/\(a==sysModules)=false /\
  ∃xs,KT H kvs xs/\h.DictOfH (tupleKind (q8 P w)) a xs:=qK ok (.inl e)
end
def P1(H:Hp)(a:Addr)(y:V)(r:Option V):Prop :=
 (∃kvs k,Rd H a (.dK kvs)/\y=kV k/\r=L3 kvs k)\/∃kvs k b,Rd H a (.dT kvs)/\y=.ref b/\H b=some (.tup (k.map kV))/\r=L3 kvs k
def wU(H:Hp)(a:Addr)(y v:V)(H':Hp):Prop :=
 (∃kvs k,H a=some (.dK kvs)/\y=kV k/\kvs.length<sizeLine/\H'=upd H a (.dK (putK kvs k v))) \/
 ∃kvs k b,H a=some (.dT kvs)/\y=.ref b/\H b=some (.tup (k.map kV))/\kvs.length<sizeLine/\H'=upd H a (.dT (putK kvs k v))
theorem P1.k{H:Hp}{a:Addr}{kvs:List (Key×V)}{k:Key}(e:H a=some (.dK kvs)):P1 H a (kV k) (L3 kvs k):=.inl ⟨kvs,k,.inl e,rfl,rfl⟩
theorem wU.k{H:Hp}{a:Addr}{kvs:List (Key×V)}{k:Key}{v:V}(e:H a=some (.dK kvs))(hl:kvs.length<sizeLine):wU H a (kV k) v (upd H a (.dK (putK kvs k v))):=.inl ⟨kvs,k,e,rfl,hl,rfl⟩
section
variable{X:Cx}{pins:List (Addr×Obj)}{Z:St}{H:Hp}{s:Shared}{a:Addr}{y v:V}{u r:Value}{o:Option V}{A:Around}{E:Value->Shared->Prop}
theorem Inv.big(I:Inv X pins Z H s):sysModules<s.heap.objs.size:=by
 have h:mainGlobals<s.heap.objs.size:=(I.mod.glob.keeps I.bk).lt;exact cP (by decide) h
theorem ZR{Q:Value->Shared->Prop}(hu:A.units+1<cLine)(I:Inv X pins Z H s)(g:P1 H a y (some v))(ry:RelV y u)(h:∀w' s',Inv X pins Z H s'->RelV v w'->Q w' s') :
  wpAny (model X.prog X.w) A (getItem (.ref a) u) Q E s:=by
 rcases g with⟨kvs,k,e,ey,l⟩|⟨kvs,k,b,e,ey,eb,l⟩
 ·subst ey;obtain⟨z,hd,vs,rel,dd⟩:=pP I.bR e;obtain⟨w',hw,fq⟩:=F8.some_of (v:=v) (o:=valueAt vs k) (by rw[l];exact rel.val k);exact wpAny_getItem_of (pQ ry) dd.mapOf hw (h w' _ (I.tok _) fq)
 ·subst ey;cases (show u=Value.ref b from ry);obtain⟨z,hd,xs,rel,dd⟩:=qK I.bR e;obtain⟨w',hw,fq⟩:=F8.some_of (v:=v) (o:=(atKey xs k).map (·.2)) (by rw[l];exact rel.val k);obtain⟨p,hp,sv⟩:=aa.mp hw;refine wpAny_getItem_heap (tupleKind_room_in1 hu) (Y2 I.bR eb) dd hp ?_;rw[sv];exact h w' _ (I.tok _) fq
theorem Rt{Q:Value->Shared->Prop}(hu:A.units+1<cLine)(I:Inv X pins Z H s)(g:P1 H a y o)(ry:RelV y u)(h:∀s',Inv X pins Z H s'->Q (.bool o.isSome) s') :
  wpAny (model X.prog X.w) A (compareOp .In u (.ref a)) Q E s:=by
 rcases g with⟨kvs,k,e,ey,l⟩|⟨kvs,k,b,e,ey,eb,l⟩
 ·subst ey;obtain⟨z,hd,vs,rel,dd⟩:=pP I.bR e;refine wpAny_in_of (pQ ry) hd dd.mapOf ?_;rw[<- (rel.val k).O9,<- l];exact h _ (I.tok _)
 ·subst ey;cases (show u=Value.ref b from ry);obtain⟨z,hd,xs,rel,dd⟩:=qK I.bR e;refine wpAny_in_heap (tupleKind_room_in1 hu) (Y2 I.bR eb) hd dd ?_;have q:=(rel.val k).O9;rw[Option.isSome_map] at q;rw[<- q,<- l];exact h _ (I.tok _)
theorem OQ{Q:Value->Shared->Prop}(hu:A.units+1<cLine)(I:Inv X pins Z H s)(g:P1 H a y o)(ry:RelV y u)(h:∀s',Inv X pins Z H s'->Q (.bool (!o.isSome)) s') :
  wpAny (model X.prog X.w) A (compareOp .NotIn u (.ref a)) Q E s:=by
 rcases g with⟨kvs,k,e,ey,l⟩|⟨kvs,k,b,e,ey,eb,l⟩
 ·subst ey;obtain⟨z,hd,vs,rel,dd⟩:=pP I.bR e;refine wpAny_notIn_of (pQ ry) hd dd.mapOf ?_;rw[<- (rel.val k).O9,<- l];exact h _ (I.tok _)
 ·subst ey;cases (show u=Value.ref b from ry);obtain⟨z,hd,xs,rel,dd⟩:=qK I.bR e;refine wpAny_notIn_heap (tupleKind_room_in1 hu) (Y2 I.bR eb) hd dd ?_;have q:=(rel.val k).O9;rw[Option.isSome_map] at q;rw[<- q,<- l];exact h _ (I.tok _)
theorem zY{h':Heap}{t':Nat}{ob:HO}(I:Inv X pins Z H s)(mu:uK (H a))(hs:Heap.SameBut a s.heap h')(he:∃q,h'.get? a=some q)(new:m8 X.prog X.w (upd H a ob) h' a ob) :
  Inv X pins Z (upd H a ob) { s with heap:=h',toks:=t' } :=
 I.write (x:=a) (e:=a) mu (.inl rfl) (λb q hb z=>(hs.2 b hb).trans z) he new
theorem IA{P:Program}{w:World}{H':Hp}{h':Heap}{kvs:List (Key×V)}{vs:List (Key×Value)}(z:kvs.length<=sizeLine)(hd:(a==sysModules)=false)(rel:KV kvs vs)(dd:h'.DictOf (q8 P w) a vs) :
  m8 P w H' h' a (.dK kvs):=⟨z,hd,vs,rel,dd⟩
theorem ZS{H':Hp}{Q:Unit->Shared->Prop}(hu:A.units+1<cLine)(I:Inv X pins Z H s)(g:wU H a y v H')(ry:RelV y u)(rv:RelV v r)(h:∀s',Inv X pins Z H' s'->Q () s') :
  wpAny (model X.prog X.w) A (setItem (.ref a) u r) Q E s:=by
 rcases g with⟨kvs,k,e,ey,l,eH⟩|⟨kvs,k,b,e,ey,eb,l,eH⟩
 ·subst ey eH;obtain⟨z,hd,vs,rel,dd⟩:=EI I.bR e;have hz:vs.length<=sizeLine:=by rw[<- rel.length];exact z
  have hl:(putK kvs k v).length<=sizeLine:=by have:=W6 kvs k v;omega
  refine wpAny_setItem_pairs (hsz:=hz) (pQ ry) dd λh' pz hs=>h _ ?_;have he:∃q,h'.get? a=some q:=let ⟨q,_,_,hq,_⟩:=pz;⟨q,hq⟩
  exact zY I (by rw[e];exact True.intro) hs he (IA hl hd (rel.put k rv) pz)
 ·subst ey eH;cases (show u=Value.ref b from ry);obtain⟨z,hd,xs,rel,dd⟩:=Tj I.bR e;have hz:xs.length<=sizeLine:=by rw[<- Paired.length rel];exact z
  have hl:(putK kvs k v).length<=sizeLine:=by have:=W6 kvs k v;omega
  refine wpAny_setItem_heap (hsz:=hz) (tupleKind_room_in1 hu) (Y2 I.bR eb) dd λh' pz hs=>h _ ?_;obtain⟨q,es,ep,hq,h2,h3,h4,_,h5⟩:=pz;refine zY I (by rw[e];exact True.intro) hs ⟨q,hq⟩ ⟨hl,hd,_,(rel.put k eb rv).keeps λc ys ec=>?_,q,es,ep,hq,h2,h3,h4,h5⟩;rw[d8 (TZ ec e (λz=>nomatch z))];exact ec
end
section
variable{X:Cx}{pins:List (Addr×Obj)}{Z:St}{H:Hp}{s:Shared}{a:Addr}{kvs:List (Key×V)}{k:Key}{u:Value}{A:Around}{E:Value->Shared->Prop}
theorem Th{Q:Value->Shared->Prop}(I:Inv X pins Z H s)(e:Rd H a (.dK kvs))(h:∀t s',Inv X pins Z H s'->Q (.int kvs.length t) s'):wpAny (model X.prog X.w) A (call (.builtin "len") [.ref a]) Q E s:=by
 obtain⟨z,hd,vs,rel,dd⟩:=pP I.bR e;refine call_len_dict hd dd (by rw[<- rel.length];rw[sizeLine_eq] at z;omega) ?_;rw[<- rel.length];exact h _ _ (I.tok _)
end
theorem XR{X:Cx}{pins:List (Addr×Obj)}{Z:St}{H:Hp}{s:Shared}{a:Addr}{y:V}{o:Option V}(I:Inv X pins Z H s)(g:P1 H a y o):s.TypeIs (.ref a) "dict":=by
 rcases g with⟨kvs,k,e,_,_⟩|⟨kvs,k,b,e,_,_,_⟩
 ·obtain⟨_,_,vs,_,dd⟩:=pP I.bR e;exact dd.typeIs
 ·obtain⟨_,_,xs,_,dd⟩:=qK I.bR e;exact dd.typeIs
section
variable{X:Cx}{o i e value:Expr}{pos pos' xt:Pos}{td ty tv:TE}
end
theorem HU{P:Program}{w:World}{H:Hp}(h:Heap)(hb:sysModules<h.objs.size):m8 P w H (h.push { cls:=.type "dict",data:=.dict #[] }) h.objs.size (.dK []) :=
 ⟨cJ _,dh.mpr (bP (aR hb)),[],.nil,Heap.DictOf.new h⟩
def Oo:TE:=λ_ H Q=>∀p,H p=none->Q (.ref p) (upd H p (.dK []))
section
variable{X:Cx}{pos:Pos}
theorem YI:PE X (.Dict [] [] pos) Oo:=λpins s Z H Q I h =>
 wpAny_Dict_empty ⟨.ref s.heap.objs.size,_,I.laid (a:=s.heap.objs.size) (o:=.dK []) (t':=s.toks) (λ_ _ q=>au _ q) (aw _) (HU s.heap I.big),rfl,h _ (I.bR.fresh (aw _))⟩
end
def wj:List (TE×TE)->St->Hp->(List (V×V)->Hp->Prop)->Prop
 |[],_,H,Q=>Q [] H
 |(tk,tv)::r,Z,H,Q=>tk Z H λx H1=>tv Z H1 λy H2=>wj r Z H2 λps H3=>Q ((x,y)::ps) H3
noncomputable abbrev VV:List (V×V)->List (Value×Value)->Prop:=Paired λp q=>RelV p.1 q.1/\RelV p.2 q.2
def uI(X:Cx)(pos:Pos)(keys:List (Option Expr))(values:List Expr)(gB:List (TE×TE)):Prop :=
 ∀(pins:List (Addr×Obj)) (s:Shared) (Z:St) (H:Hp) (Q:List (V×V)->Hp->Prop),Inv X pins Z H s->wj gB Z H Q ->
  wpAny (model X.prog X.w) X.A (evalPairs (pairTrees keys values X.env pos)) (λvs s'=>∃ps H',Inv X pins Z H' s'/\VV ps vs/\Q ps H') X.xe s
theorem PQ{X:Cx}{pos:Pos}:uI X pos [] [] []:=λpins s Z H Q I h=>pairTrees_nil_walk ⟨[],H,I,.nil,h⟩
theorem YS{X:Cx}{pos:Pos}{k v:Expr}{ks:List (Option Expr)}{vs:List Expr}{tk tv:TE}{gB:List (TE×TE)}(hk:PE X k tk)(hv:PE X v tv)(hr:uI X pos ks vs gB) :
  uI X pos (some k::ks) (v::vs) ((tk,tv)::gB):=λpins s Z H Q I h =>
 pairTrees_cons_walk (cF (hk pins s Z H _ I h) λu s1 ⟨x,H1,I1,rx,q1⟩=>cF (hv pins s1 Z H1 _ I1 q1) λw2 s2 ⟨y,H2,I2,ry,q2⟩ =>
  cF (hr pins s2 Z H2 _ I2 q2) λws s3 ⟨ps,H3,I3,rel,q3⟩=>⟨(x,y) :: ps,H3,I3,.cons ⟨rx,ry⟩ rel,q3⟩)
def T3(kvs more:List (Key×V)):List (Key×V):=more.foldl (λacc kv=>putK acc kv.1 kv.2) kvs
theorem KV.merge:∀{more:List (Key×V)} {rs:List (Key×Value)} {kvs:List (Key×V)} {vs:List (Key×Value)},KV more rs->KV kvs vs->KV (T3 kvs more) (merged vs rs):=by
 intro more rs kvs vs r;unfold KV at r
 induction r generalizing kvs vs with
 |nil=>intro q;exact q
 |@cons p q ps qs h t ih =>
  intro r0;have e:KV (putK kvs p.1 p.2) (stored vs q.1 q.2):=by
   have:=r0.put p.1 h.2;rw[<- h.1];exact this
  exact ih e
theorem GJ:∀(more kvs:List (Key×V)),(T3 kvs more).length<=kvs.length+more.length
 |[],kvs=>by show kvs.length<=kvs.length+0;omega
 |p::r,kvs=>by
  have h1:=GJ r (putK kvs p.1 p.2);have h2:=W6 kvs p.1 p.2;show(T3 (putK kvs p.1 p.2) r).length<=_;rw[cS];omega
theorem FR{P:Program}{w:World}:∀{kvs:List (Key×V)} {ws:List (Value×Value)},VV (kvs.map λkv=>(kV kv.1,kv.2)) ws->∃rs,Carries (q8 P w) ws rs/\KV kvs rs
 |[],_,r=>by rw[List.map_nil] at r;cases r;exact⟨[],True.intro,.nil⟩
 |p::kvs,_,r=>by
  rw[bz] at r;cases r with
  |@cons a b as bs h t =>
   obtain⟨rs,c,q⟩:=FR (P:=P) (w:=w) t;obtain⟨b1,b2⟩:=b;exact⟨(p.1,b2)::rs,⟨pQ h.1,rfl,c⟩,.cons ⟨rfl,h.2⟩ q⟩
def UL(gB:List (TE×TE)):TE:=λZ H Q=>∀p,H p=none->wj gB Z (upd H p (.dK [])) λps H2=>H2 p=some (.dK [])/\∃kvs:List (Key×V),ps=kvs.map (λkv=>(kV kv.1,kv.2))/\kvs.length<=15/\Q (.ref p) (upd H2 p (.dK (T3 [] kvs)))
theorem PD{X:Cx}{pos:Pos}{keys:List (Option Expr)}{values:List Expr}{gB:List (TE×TE)}(h:uI X pos keys values gB)(oN:keys.all (·.isSome)=true)(hl:keys.length=values.length)(h0:keys≠[])(nt:keys.length<=15):PE X (.Dict keys values pos) (UL gB):=by
 intro pins s Z H Q I q;have hn:=I.bR.fresh (aw s.heap.objs.size);have I1:=I.laid (a:=s.heap.objs.size) (o:=.dK []) (h':=s.heap.push { cls:=.type "dict",data:=.dict #[] }) (t':=s.toks) (λ_ _ q=>au _ q) (aw _) (HU s.heap I.big);refine wpAny_Dict_walk (knd:=q8 X.prog X.w) oN hl h0 nt (cF (h pins _ Z _ _ I1 (q _ hn)) λws s2 bq=>?_);obtain⟨ps,H2,I2,rel,e,kvs,ep,lk,q2⟩:=bq;subst ep;obtain⟨rs,c,rk⟩:=FR (P:=X.prog) (w:=X.w) rel;obtain⟨z,hd,vs0,r0,dd⟩:=EI I2.bR e;cases r0;refine⟨rs,c,dd,λh' pz hs=>⟨.ref s.heap.objs.size,_,?_,rfl,q2⟩⟩;have hz:(T3 [] kvs).length<=sizeLine:=by
  have h1:=GJ kvs [];rw[List.length_nil] at h1;rw[sizeLine_eq];omega
 have he:∃q,h'.get? s.heap.objs.size=some q:=let ⟨q,_,_,hq,_⟩:=pz;⟨q,hq⟩
 exact zY I2 (by rw[e];exact True.intro) hs he (IA hz hd (rk.merge .nil) pz)
section
variable{X:Cx}{pins:List (Addr×Obj)}{Z:St}{H:Hp}{s:Shared}{a:Addr}{y d:V}{u r:Value}{o:Option V}{A:Around}{E:Value->Shared->Prop}
theorem Vj{Q:Value->Shared->Prop}(hu:A.units+1<cLine)(I:Inv X pins Z H s)(g:P1 H a y o)(ry:RelV y u)(rd:RelV d r)(h:∀w' s',Inv X pins Z H s'->RelV (o.getD d) w'->Q w' s') :
  wpAny (model X.prog X.w) A (call (.builtin "dict.get") [.ref a,u,r]) Q E s:=by
 rcases g with⟨kvs,k,e,ey,l⟩|⟨kvs,k,b,e,ey,eb,l⟩
 ·subst ey;obtain⟨z,hd,vs,rel,dd⟩:=pP I.bR e;refine call_meetsIn PySem.F.slot_dict_get dd.typeIs PySem.F.entry_dict_get (PySem.F.args_dict_get_3 _ _ _) (meets_dict_get_default (q8 X.prog X.w) a (pQ ry) hd r) ⟨_,dd.mapOf,h _ _ (I.tok _) ?_⟩;rw[l];exact(rel.val k).getD rd
 ·subst ey;cases (show u=Value.ref b from ry);obtain⟨z,hd,xs,rel,dd⟩:=qK I.bR e;refine call_meetsIn PySem.F.slot_dict_get dd.typeIs PySem.F.entry_dict_get (PySem.F.args_dict_get_3 _ _ _) (meetsH_dict_get_default (tupleKind (q8 X.prog X.w)) a b hd r) ⟨tupleKind_room_in1 hu,k,xs,Y2 I.bR eb,dd,h _ _ (I.tok _) ?_⟩;rw[l];exact(rel.val k).getD rd
end
section
variable{X:Cx}{o e f:Expr}{apos dY:Pos}{td ty tx:TE}
end
section
variable{X:Cx}{pins:List (Addr×Obj)}{Z:St}{H:Hp}{s:Shared}{a:Addr}{kvs:List (Key×V)}{A:Around}{E:Value->Shared->Prop}
end
section
variable{X:Cx}{pins:List (Addr×Obj)}{Z:St}{H:Hp}{s:Shared}{a:Addr}{y:V}{u:Value}{A:Around}{E:Value->Shared->Prop}
end
end L2

namespace IP
open PySem PySem.W PySem.Calls PyProof.Rows
theorem VQ{P:Params}{h:Heap}:∀(ns:List Int) (vs:List Value),WellAll P h vs (ns.map WData.int)->IntsAre vs ns:=by
 intro ns
 induction ns with
 |nil =>
  intro vs w;rw[List.map_nil] at w;cases w;exact .nil
 |cons n ns ih =>
  intro vs w;rw[bz] at w;cases w with
  |cons a b =>
   cases a;exact .cons _ _ (ih _ b)
theorem WA{l:OpenLaw}{n:Nat}(hn:l.most=some n){P:Params}{h:Heap}{args:List WData}{vals:List Value}(lX:l.row.toRowW.claim.pre args=true)(xV:WellAll P h vals args) :
  ∃a vs ns,vals=[Value.ref a]/\args=[WData.list (ns.map WData.int)]/\h.get? a=some { cls:=.type "list",data:=.seq vs.toArray }/\IntsAre vs ns/\ns.length<=n:=by
 have iO:WShape.hasAll [] args [.list .int]=true:=(pre_splitW lX).1;have hc:l.pre.holds [] { args:=args }=true:=(pre_splitW lX).2;obtain⟨d,r,rfl,h1,h2⟩:=hasAllW_cons iO;obtain rfl:=hasAllW_nil h2;obtain⟨xs,rfl,h3⟩:=hasW_list h1;obtain⟨ns,rfl⟩:=items_int h3;have hlen:ns.length<=n:=by
  unfold OpenLaw.pre at hc;have h4:(WTm.not (.lt (.lit (.int (n:Int))) (.len (.arg 0)))).holds [] { args:=[.list (ns.map .int)] }=true:=by
   have h4:=(holds_andW hc).1;rw[hn] at h4;exact h4
  have h5:=condW_of h4 (w_not (w_lt w_lit (w_len_list (w_arg rfl))));rw[ao] at h5;refine Nat.le_of_not_lt λq=>?_;have q':(n:Int)<((ns.length:Nat):Int):=by omega
  first
   |(rw[az q'] at h5;exact absurd h5 (by decide))
   |(simp at h5;omega)
 cases xV with
 |cons w1 w2 =>
  cases w2;cases w1 with
  |list ho oN=>exact⟨_,_,ns,rfl,rfl,ho,VQ ns _ oN,hlen⟩
theorem Wu(l:OpenLaw)(args:List WData):l.row.toRowW.claim.post args (.bool true) args=true :=
 postW_of (r:=l.row.toRowW) (X:=(true==true))
  (show WShape.has [] (.bool true) .bool=true by first|rfl|decide|simp[WShape.has,WShape.arms,WShape.armsAll])
  (show(WTm.eq .res (.lit (.bool true))).value [] { args:=args,res:=some (.bool true),after:=args }=some (.bool (true==true)) from w_eq_bool (w_res rfl) w_lit) rfl
theorem XN{l:OpenLaw}{n:Nat}{q:Program}{loose:List Str}{XP:(Str->Option Value)->Heap->Prop}{YP:World->Heap->Prop}{d:DefRec}(hn:l.most=some n)(sO:d.params.defaults=[])(call:∀ (w:World) (df cj:Shared) (mg mb:Str->Option Value) (fa:Addr) (o:Obj) (pm cd doc:Value) (a:Addr) (vs:List Value) (ns:List Int),
   Ground q loose [] XP w df mg mb cj.heap->YP w cj.heap ->
   cj.heap.get? fa=some o->o.data=.func (docDef d.name d.params d.body d.scope pm cd doc)->cj.heap.CodeRec cd d.name->mg d.name=some (.ref fa) ->
   cj.heap.get? a=some { cls:=.type "list",data:=.seq vs.toArray }->IntsAre vs ns->ns.length<=n->cj.gens=#[] ->
   codeAny (model l.prog w) callerA (.call (.ref fa) ⟨[.ref a],[]⟩) (λr s'=>r=.ok (.ret (.bool true))/\OldK cj.heap s'.heap/\s'.os=cj.os/\AllBare s'.gens) cj) :
  WalkO q loose XP YP l.row.toRowW d [] (λf vs=>PySem.call f vs):=by
 intro w df cj mg mb G Y fa o pm cd doc dV kV ho hd jW hD hmg hg args vals as lX Ki hrd xV Dq;obtain rfl:dV=.none:=Dflts.none hD sO;obtain rfl:kV=.none:=Dflts.noKw hD;obtain⟨a,vs,ns,rfl,rfl,hJ,hints,hlen⟩:=WA hn lX xV;refine enter_call (codeAny_mono (call w df cj mg mb fa o pm cd doc a vs ns G Y ho (fd_plain hd) jW hmg hJ hints hlen hg) λr s' hq=>?_);obtain⟨rfl,h2,h3,h4⟩:=hq;exact⟨.inl ⟨.bool true,.bool true,[],rfl,λ_=>rfl,.bool true,Wu l _,λ_=>⟨List.Pairwise.nil,λ_ hm=>(nomatch hm)⟩⟩,h2,h3,h4⟩
section
variable{prog:Program}{w:World}{A:Around}{E:Value->Shared->Prop}{s:Shared}{K:Frag}
end
end IP
namespace L2
open PySem PySem.Spec PyProof.Rows
theorem FK:∀{vs:List Value} {ns:List Int},IntsAre vs ns->Vals (ns.map V.int) vs
 |_,_,.nil=>.nil
 |_,_,.cons n t h=>.cons ⟨t,rfl⟩ (FK h)
def wV(H:Hp):Prop:=∀b,H b=none\/∃o xs,H b=some (.iQ o (.lst xs))
theorem Yv{P:Program}{w:World}{K:PySem.W.Frag}{mg mb:Str->Option Value}{CX:lB}{k:Nat}{fa a:Addr}{fd:FuncData}{x:Str}{sp:Sp}{cj:Shared}{vs:List Value}{ns:List Int}(KX:K.In cj.heap)(oy:cj.heap.Ns mainGlobals mg)(hb:cj.heap.Ns builtinsNs mb)(yD:∀x:Str,x≠"__name__"->mb x=bootBuiltins x)(yo:cj.heap.NoLimit)(hg:cj.gens=#[])(ha:cj.heap.get? a=some { cls:=.type "list",data:=.seq vs.toArray })(hi:IntsAre vs ns)(hl:ns.length<=sizeLine)(hr:w9 k callerA)(F:∀base:Heap,K.In base->base.Ns mainGlobals mg->gL P w K mg base CX k fa fd [x] sp)(sU:∀(s:Shared) (u:Value),BindsTo s fd ⟨[u],[]⟩ [(x,u)])(qe:∀H:Hp,wV H->fo K H a (ns.map V.int)->sp [.ref a] H (λv _=>v=.bl true) λ_ _ _=>False)(yQ:∀H e s',CX [] H cj (λ_ _ _=>False) e s'->False) :
  codeAny (model P w) callerA (.call (.ref fa) ⟨[.ref a],[]⟩) (λr s'=>r=.ok (.ret (.bool true))/\OldK cj.heap s'.heap/\s'.os=cj.os/\AllBare s'.gens) cj:=by
 have rv:=FK hi;have xM:=hi.length;have core:∀H:Hp,wV H->fo K H a (ns.map V.int)->fN P w H cj.heap->(∀b,H b≠none->b=a)->(H a≠none->K.lookup a=none) ->
   codeAny (model P w) callerA (.call (.ref fa) ⟨[.ref a],[]⟩) (λr s'=>r=.ok (.ret (.bool true))/\OldK cj.heap s'.heap/\s'.os=cj.os/\AllBare s'.gens) cj:=by
  intro H hO hS bR hA hK;have N4:∀{b:Addr} {o:Obj},cj.heap.get? b=some o->H b=none->(mH cj.heap H).get? b=some o:=λe n=>QX e n;have rH:∀{b:Addr} {o:Obj} {es:Array DictEntry} {ep:Nat},cj.heap.get? b=some o->o.data=.dict es ep->H b=none:=λ{b o es ep} e d=>by
   cases q:H b with
   |none=>rfl
   |some u =>
    have e':b=a:=hA b (by rw[q];simp);subst e';rw[ha] at e;cases e;have d':Data.seq vs.toArray _=Data.dict es ep:=d;cases d'
  have uY:∀{b:Addr} {m:Str->Option Value},cj.heap.Ns b m->(mH cj.heap H).Ns b m:=λ{b m} ⟨o,es,ep,e,d,r⟩=>⟨o,es,ep,N4 e (rH e d),d,r⟩
  have DN:K.In (mH cj.heap H):=λb o e=>N4 (KX b o e) (by
   cases q:H b with
   |none=>rfl
   |some u =>
    have e':b=a:=hA b (by rw[q];simp);subst e';rw [hK (by rw [q];simp)] at e;cases e)
  have hM:Mod K mg (mH cj.heap H):=⟨DN,uY oy,⟨mb,uY hb,yD⟩,let ⟨mc,h1,h2⟩:=yo;⟨mc,uY h1,h2⟩⟩
  have e0:pE P w K mg (mH cj.heap H) callerA [] cj H:=⟨rfl,hM,λb o e=>Pm e,Nat.le_of_eq (ZY _ _),trivial,λb hb=>absurd (show b∈([]:List Addr) from hb) (by simp),bR,.of_eq hg⟩
  refine codeAny_mono ((F _ DN (uY oy)).run callerA [] cj H ⟨[.ref a],[]⟩ [.ref a] [.ref a] _ _ hr e0 (sU cj (.ref a)) (.cons rfl .nil) (qe H hO hS)) λr s' h=>?_;cases r with
  |error e=>exact(yQ H e s' h).elim
  |ok fl =>
   cases fl with
   |next=>exact False.elim h
   |brk=>exact False.elim h
   |cont=>exact False.elim h
   |ret u =>
    obtain⟨v,H',os,bare,un,yd,r',q⟩:=h;have q':v=.bl true:=q;subst q';obtain rfl:u=Value.bool true:=r';refine⟨rfl,OldK.of_keep λb o e=>?_,os,bare⟩;cases q:H b with
    |none=>exact un.keep b o e q (by intro z;exact absurd (show b∈([]:List Addr) from z) (by simp)) (by simp)
    |some u =>
     rcases hO b with z|⟨ob,xs,z⟩
     ·rw[q] at z;cases z
     ·have z2:=un.gy b ob _ z;obtain⟨e1,_⟩:=bR b _ z;obtain⟨e2,_⟩:=yd b _ z2;rw[e] at e1;cases e1;exact e2
 cases hk:K.lookup a with
 |some o =>
  have e:=KX a o hk;rw[ha] at e;cases e;refine core (λ_=>none) (λ_=>.inl rfl) (.inr ⟨_,vs.toArray,_,hk,rfl,rfl,rfl,by rw[aI,xM];exact hl,by simpa using rv⟩) (λb u z=>by have z':(none:Option HO)=some u:=z;cases z') (λb z=>absurd rfl z) λz=>absurd rfl z
 |none =>
  refine core (λb=>if b=a then some (.iQ { cls:=.type "list",data:=.seq vs.toArray } (.lst (ns.map V.int))) else none) (λb=>?_) (.inl (.inr ⟨{ cls:=.type "list",data:=.seq vs.toArray },aK rfl⟩)) (λb u z=>?_) (λb z=>?_) λ_=>hk
  ·by_cases hb:b=a
   ·exact .inr ⟨_,_,aK hb⟩
   ·exact .inl (aC hb)
  ·by_cases hb:b=a
   ·have z':=(aK hb).symm.trans z;cases z';subst hb;exact⟨ha,by rw[ao];exact hl,vs,_,rv,ha⟩
   ·have z':=(aC hb).symm.trans z;cases z'
  ·by_cases hb:b=a
   ·exact hb
   ·exact absurd (aC hb) z
theorem QG{l:PySem.W.OpenLaw}{n k:Nat}{q:Program}{loose:List Str}{XP:(Str->Option Value)->Heap->Prop}{YP:World->Heap->Prop}{d:DefRec}{K:Params->PySem.W.Frag}{CX:World->lB}{sp:World->Sp}{x:Str}(hn:l.most=some n)(lY:n<=sizeLine)(sO:d.params.defaults=[])(hr:w9 k callerA)(hY:∀(w:World) (h:Heap),YP w h->(K w.params).In h)(F:∀ (w:World) (mg:Str->Option Value) (fa:Addr) (h:Heap),(K w.params).In h->h.Ns mainGlobals mg->mg d.name=some (.ref fa) ->
   ∃fd:FuncData,(∀(s:Shared) (u:Value),BindsTo s fd ⟨[u],[]⟩ [(x,u)]) /\
    ∀ base:Heap,(K w.params).In base->base.Ns mainGlobals mg->gL l.prog w (K w.params) mg base (CX w) k fa fd [x] (sp w))(qe:∀(w:World) (H:Hp) (a:Addr) (ns:List Int),ns.length<=n->wV H->fo (K w.params) H a (ns.map V.int)->sp w [.ref a] H (λv _=>v=.bl true) λ_ _ _=>False)(yQ:∀(w:World) (H:Hp) (s:Shared) (e:Value) (s':Shared),CX w [] H s (λ_ _ _=>False) e s'->False) :
  PySem.W.WalkO q loose XP YP l.row.toRowW d [] (λf vs=>PySem.call f vs):=by
 refine IP.XN hn sO λw df cj mg mb fa o pm cd doc a vs ns G Y ho hd jW hmg hJ hints hlen hg=>?_;have KX:=hY w _ Y;obtain⟨fd,hb,hF⟩:=F w mg fa _ KX G.T.g hmg;exact Yv KX G.T.g G.T.b G.T.builtins G.T.nolimit hg hJ hints (aG hlen lY) hr hF hb (λH hO hS=>qe w H a ns hlen hO hS) λH e s'=>yQ w H cj e s'
def B3(s:Stmt):Arguments:=match s with
 |.FunctionDef _ a _ _ _ _ _ _ _ _=>a
 |_=>{ posonlyargs:=[],args:=[],vararg:=none,kwonlyargs:=[],kw_defaults:=[],kwarg:=none,defaults:=[] }
def o8(s:Stmt):List Stmt:=match s with
 |.FunctionDef _ _ b _ _ _ _ _ _ _=>b
 |_=>[]
def o6(s:Stmt):Scope:=match s with
 |.FunctionDef _ _ _ _ _ _ sc _ _ _=>sc
 |_=>{ kind:=.function,names:=[],isGenerator:=false,isCoroutine:=false }
structure nN(K:PySem.W.Frag)(x qual:Str)(st:Stmt)(f:Addr)(fd:FuncData):Prop where
 ex:∃(oc:Value) (od:Option Addr) (kV doc pm:Value) (an:Option Addr) (fA ct:Value) (kl:Array (Option Value)),
  fd=PySem.W.fnOf x qual (B3 st) (o8 st) (o6 st) .none kV doc pm an fA ct/\K.lookup f=some ⟨oc,od,.func fd,kl⟩/\PySem.W.codeIn K fA qual=true
 kp:PySem.W.keepIn K (.ref f)=true
section
variable{P:Program}{w:World}{K:PySem.W.Frag}{mg:Str->Option Value}{base:Heap}
theorem nN.binds{x qual:Str}{st:Stmt}{f:Addr}{fd:FuncData}{ps:List Str}(F:nN K x qual st f fd)(h:∀(kV doc pm:Value) (an:Option Addr) (fA ct:Value) (us:List Value),us.length=ps.length->bindArgs (PySem.W.fnOf x qual (B3 st) (o8 st) (o6 st) .none kV doc pm an fA ct) ⟨us,[]⟩=pure (ps.zip us)):Binds K fd ps []:=by
 obtain⟨oc,od,kV,doc,pm,an,fA,ct,kl,rfl,lk,jW⟩:=F.ex;exact .all (h kV doc pm an fA ct)
theorem IC{x qual:Str}{st:Stmt}{f:Addr}{oc:Value}{od an:Option Addr}{kl:Array (Option Value)}{kV doc pm fA ct:Value}(l:K.lookup f=some ⟨oc,od,.func (PySem.W.fnOf x qual (B3 st) (o8 st) (o6 st) .none kV doc pm an fA ct),kl⟩)(c:PySem.W.codeIn K fA qual=true)(k:PySem.W.keepIn K (.ref f)=true):nN K x qual st f (PySem.W.fnOf x qual (B3 st) (o8 st) (o6 st) .none kV doc pm an fA ct):=⟨⟨oc,od,kV,doc,pm,an,fA,ct,kl,rfl,l,c⟩,k⟩
end
section
variable{X:Cx}
theorem ZJ:m5 X (.builtin "len") (λxs H Q=>∃a kvs,xs=[V.ref a]/\H a=some (.dK kvs)/\Q (.int kvs.length) H):=by
 intro pins s Z H xs us Q I r h;obtain⟨a,kvs,rfl,ha,q⟩:=h;obtain⟨u,rfl,ru⟩:=vals1 r;cases ru;exact Th I (.inl ha) λt s' I'=>⟨.int kvs.length,H,I',⟨t,rfl⟩,q⟩
end
section
variable{κ:Type}[DecidableEq κ]
end
end L2

namespace L2
open PySem PySem.Spec PyProof.Rows
section
variable{prog:Program}{w:World}{A:Around}{R:Result->Shared->Prop}{s:Shared}
theorem Yi{elt target iter:Expr}{ifs:List Expr}{scope:Scope}{pos:Pos}{it acc:Value}{env:Env}(I:Nat->Shared->Prop)(turn:∀ n s,I n s->wpAny (model prog w) A (pyNext it) (λr cj=>match r with
   |none=>R (.ok .next) cj
   | some v=>wpAny (model prog w) A (letOwnedTupleGo target it v) (λ_ cj=>wpAny (model prog w) A (assign target env v) (λ_ fP =>
     wpAny (model prog w) A (forIn ifs true λc r=>if r=true then do let ok <- isTrue c env (eval c env);pure (ForInStep.yield ok) else pure (ForInStep.yield r)) (λok fe =>
      if ok=true then wpAny (model prog w) A (eval elt env) (λx iK =>
       wpAny (model prog w) A (call (.builtin "list.append") [acc,x]) (λ_ ky=>∃ m,m < n/\I m ky) (λ_ _=>False) iK) (notedBy (model prog w) A env λe s'=>R (.error e) s') fe
      else ∃ m,m < n/\I m fe) (λ_ _=>False) fP) (λ_ _=>False) cj) (λ_ _=>False) cj) (λ_ _=>False) s)(n:Nat)(h:I n s) :
  codeAny (model prog w) A (.compLoop (.ListComp elt [⟨target,iter,ifs,0⟩] scope pos) 0 it acc env) R s:=by
 refine codeAny_loop rfl I (λn s hI=>?_) n h;show wpAny _ A ((compTurn (.ListComp elt [⟨target,iter,ifs,0⟩] scope pos) 0 it acc env).onRaise (λx=>do noteFrame x env;theTreesLotGoes x)) _ _ s;refine wpAny_noted ?_;rw[compTurn_list];refine ae (dZ (ae (bA (turn n s hI) (λr cj dG=>?_) λ_ _ h'=>h'.elim)));cases r with
 |none=>exact av dG
 |some v =>
  refine ae (bA dG (λ_ cj dG=>?_) λ_ _ h'=>h'.elim);refine ae (bA dG (λ_ fP gZ=>ae (bA gZ (λok fe kI=>?_) λ_ _ h'=>h'.elim)) λ_ _ h'=>h'.elim);cases ok with
  |false=>exact wpAny_pure ⟨rfl,kI⟩
  |true =>
   exact ae (ae (bA kI (λx iK ot=>ae (bA ot (λ_ ky oq=>av (av ⟨rfl,oq⟩)) λ_ _ h'=>h'.elim)) λ_ _ h'=>h'))
end
def jP(X:Cx)(es:List Expr)(t:TT):Prop :=
 ∀(pins:List (Addr×Obj)) (s:Shared) (Z:St) (H:Hp) (Q:Bool->Hp->Prop),Inv X pins Z H s->t Z H Q ->
  wpAny (model X.prog X.w) X.A (forIn es true λc r=>if r=true then do let ok <- isTrue c X.env (eval c X.env);pure (ForInStep.yield ok) else pure (ForInStep.yield r)) (TP X pins Z Q) X.xe s
def SG:TT:=λ_ H Q=>Q true H
section
variable{X:Cx}
theorem P':jP X [] SG:=λpins s Z H Q I h=>av ⟨H,I,h⟩
theorem Qa{c:Expr}{t:TT}(h:PT X c t):jP X [c] t:=by
 intro pins s Z H Q I q;simp only[List.forIn_cons,List.forIn_nil,if_true];exact ae (ae (bA (h pins s Z H Q I q) (λb s' hb=>av (av hb)) λ_ _ x=>x))
end
def K5(scope:Scope)(cl:List (Str×Addr))(C:Addr):List (Str×Addr):=cellsFrom (C+1) scope.names []++cl
theorem E6:∀(names:List (Str×NameKind)) (n:Nat) (acc:List (Str×Addr)),cellsFrom n names acc=cellsFrom n names []++acc
 |[],_,_=>rfl
 |(y,k)::r,n,acc=>by
  unfold cellsFrom;split
  ·rw[E6 r (n+1) ((y,n)::acc),E6 r (n+1) [(y,n)],List.append_assoc]
   rfl
  ·exact E6 r n acc
theorem U0{x:Str}{c:Addr}:∀{names:List (Str×NameKind)} {n:Nat},(x,c)∈cellsFrom n names []->(x,NameKind.cell)∈names
 |[],_,h=>by simp[cellsFrom] at h
 |(y,k)::r,n,h=>by
  unfold cellsFrom at h;split at h
  ·rename_i hk;rw[E6] at h;rcases bc.mp h with z|z
   ·exact bw _ (U0 z)
   ·cases bo.mp z;rw[show k=NameKind.cell from by simpa using hk];exact List.mem_cons_self
  ·exact bw _ (U0 h)
theorem I9{α:Type}{x:Str}:∀{a b:List (Str×α)},(a++b).lookup x=(a.lookup x).or (b.lookup x)
 |[],_=>rfl
 |(y,v)::r,b=>by
  rw[List.cons_append,cI,cI];cases x==y
  ·exact I9
  ·rfl
theorem Fs{scope:Scope}{cl:List (Str×Addr)}{C:Addr}{x:Str}(h:scope.names.lookup x=some .cell\/∃c,cl.lookup x=some c):∃c,(K5 scope cl C).lookup x=some c:=by
 unfold K5;rw[I9];cases e:(cellsFrom (C+1) scope.names []).lookup x with
 |some c=>exact⟨c,rfl⟩
 |none =>
  rcases h with h|h
  ·have q:=dB scope.names (C+1) [] (.inl h);rw[e] at q;cases q
  ·exact h
theorem M4{env:Env}:∀{names:List (Str×NameKind)} {x:Str},names.lookup x=some .cell ->
  (names.map λ(n,k)=>if(k==NameKind.free&&env.scope.kind==.function&&env.kindOf n==some .cell) then(n,NameKind.cell) else(n,k)).lookup x=some .cell
 |[],_,h=>by simp at h
 |(n,k)::r,x,h=>by
  have ih:=@M4 env r x;show List.lookup x ((if(k==NameKind.free&&env.scope.kind==.function&&env.kindOf n==some .cell)=true then(n,NameKind.cell) else(n,k))::_)=_;cases hx:x==n with
  |true =>
   simp only[List.lookup_cons,hx] at h;cases h;simp[List.lookup_cons,hx]
  |false =>
   simp only[List.lookup_cons,hx] at h;by_cases hc:(k==NameKind.free&&env.scope.kind==.function&&env.kindOf n==some .cell)=true
   ·rw[aK hc];simp only[List.lookup_cons,hx];exact ih h
   ·rw[aC hc];simp only[List.lookup_cons,hx];exact ih h
theorem wL{scope:Scope}{cl:List (Str×Addr)}{C:Addr}{h:Heap}(ck:CellsOk h (C+1) (cellsFrom (C+1) scope.names [])){x:Str}{c:Addr}(e:(K5 scope cl C).lookup x=some c):C<c\/cl.lookup x=some c:=by
 unfold K5 at e;rw[I9] at e;cases e2:(cellsFrom (C+1) scope.names []).lookup x with
 |some c' =>
  rw[e2] at e;cases e;exact .inl (ck.empty x c (aS e2)).2
 |none =>
  rw[e2] at e;exact .inr e
theorem GK{M:Model}{A:Around}{E:Value->Shared->Prop}{s:Shared}{scope:Scope}{globals:Addr}{cl:List (Str×Addr)}{qual:Str}{outer:Env}{Q:Env->Shared->Prop}(hQ:∀ dG:Heap,dG.Ns s.heap.objs.size (λ_=>none)->(∀ b o,s.heap.get? b=some o->dG.get? b=some o)->CellsOk dG (s.heap.objs.size + 1) (cellsFrom (s.heap.objs.size + 1) scope.names []) ->
   Q (newEnv scope s.heap.objs.size globals (K5 scope cl s.heap.objs.size) qual none .none (some outer) builtinsNs) { s with heap:=dG }) :
  wpAny M A (newFunctionEnv scope globals cl [] qual none .none (some outer)) Q E s:=by
 simp only[newFunctionEnv,Option.isSome_some,if_true];refine ae (wpAny_alloc ?_);refine ae (wpAny_layCells _ (λname kind cells=>by cases Km:kind==NameKind.cell<;>simp[Km]) _ _ _ _ ?_);have ok:=cellsFrom_ok scope.names (s.heap.push { cls:=.type "dict",data:=.dict #[] }) (s.heap.objs.size+1) [] ⟨λ_ _ hm=>(nomatch hm),List.Pairwise.nil⟩ (by rw[eP];exact aw _);rw[eP] at ok;rw[show({ s with heap:=s.heap.push { cls:=.type "dict",data:=.dict #[] } }:Shared).heap.objs.size=s.heap.objs.size+1 from eP ..];rw[List.forIn_nil];refine ae (av (av ?_));rw[E6];exact hQ _ ((Heap.Ns.new s.heap (.type "dict")).keeps (pushCells_keeps _ _)) (λb o e=>pushCells_keeps _ _ b o (au _ e)) ok
def d7(X:Cx)(pins:List (Addr×Obj))(scope:Scope)(N':List Str)(cl:List (Str×Addr))(C:Addr)(s:Shared)(H:Hp)(fp:List Addr):Cx where
 prog:=X.prog
 w:=X.w
 K:=X.K
 mg:=X.mg
 base:=X.base
 A:=X.A
 N:=N'
 df:=s
 ir:=H
 env:=compEnvC scope (K5 scope cl C) C X.env
 outer:=X.stack
 stack:=X.stack
 ex:=fp
 calm:=true
 fn:=λx=>decide (scope.names.lookup x=some .cell)
 pn:=X.pn++pins
 xe:=λ_ _=>False
structure dt(X:Cx)(scope:Scope)(N':List Str)(d4:List Nat)(cl:List (Str×Addr)):Prop where
 kind:scope.kind=.function
 cells:∀y∈scope.names,y.2=.cell->scope.names.lookup y.1=some .cell
 names:∀y∈scope.names,y.2=.local->scope.names.lookup y.1=some .local
 pB:closureFor scope X.env=pure cl
 cin:∀x c,cl.lookup x=some c->X.env.cells.lookup x=some c
 tW:∀x,scope.names.lookup x=some .free->∃c,cl.lookup x=some c
 nd:N'.Nodup
 Mq:∀(i j:Nat),d4[i]?=some j->∃x,N'[i]?=some x/\X.N[j]?=some x/\scope.names.lookup x=some .free/\(X.env.kindOf x=some .cell\/X.env.kindOf x=some .free)
 zD:d4.length<=N'.length
theorem E9{env:Env}:∀{names:List (Str×NameKind)} {x:Str},names.lookup x=some .free ->
  (names.map λ(n,k)=>if(k==NameKind.free&&env.scope.kind==.function&&env.kindOf n==some .cell) then(n,NameKind.cell) else(n,k)).lookup x=some .cell \/
  (names.map λ(n,k)=>if(k==NameKind.free&&env.scope.kind==.function&&env.kindOf n==some .cell) then(n,NameKind.cell) else(n,k)).lookup x=some .free
 |[],_,h=>by simp at h
 |(n,k)::r,x,h=>by
  have ih:=@E9 env r x;show List.lookup x ((if(k==NameKind.free&&env.scope.kind==.function&&env.kindOf n==some .cell)=true then(n,NameKind.cell) else(n,k))::_)=_\/List.lookup x ((if(k==NameKind.free&&env.scope.kind==.function&&env.kindOf n==some .cell)=true then(n,NameKind.cell) else(n,k))::_)=_;cases hx:x==n with
  |true =>
   simp only[List.lookup_cons,hx] at h;cases h;by_cases hc:(NameKind.free==NameKind.free&&env.scope.kind==.function&&env.kindOf n==some .cell)=true
   ·rw[aK hc];simp[List.lookup_cons,hx]
   ·rw[aC hc];simp[List.lookup_cons,hx]
  |false =>
   simp only[List.lookup_cons,hx] at h;by_cases hc:(k==NameKind.free&&env.scope.kind==.function&&env.kindOf n==some .cell)=true
   ·rw[aK hc];simp only[List.lookup_cons,hx];exact ih h
   ·rw[aC hc];simp only[List.lookup_cons,hx];exact ih h
theorem M5{env:Env}:∀{names:List (Str×NameKind)} {x:Str},((names.map λ(n,k)=>if(k==NameKind.free&&env.scope.kind==.function&&env.kindOf n==some .cell) then(n,NameKind.cell) else(n,k)).lookup x=some .cell \/
  (names.map λ(n,k)=>if (k == NameKind.free && env.scope.kind == .function && env.kindOf n == some .cell) then (n,NameKind.cell) else (n,k)).lookup x=some .free)->names.lookup x=some .free \/ names.lookup x=some .cell
 |[],_,h=>by simp at h
 |(n,k)::r,x,h=>by
  have ih:=@M5 env r x;rw[bz] at h;cases hx:x==n with
  |true =>
   simp only[List.lookup_cons,hx];by_cases hc:(k==NameKind.free&&env.scope.kind==.function&&env.kindOf n==some .cell)=true
   ·left;simp only[Bool.and_eq_true,beq_iff_eq] at hc;rw[hc.1.1]
   ·simp only[if_neg hc,List.lookup_cons,hx] at h;rcases h with h|h
    ·exact .inr h
    ·exact .inl h
  |false =>
   simp only[List.lookup_cons,hx];by_cases hc:(k==NameKind.free&&env.scope.kind==.function&&env.kindOf n==some .cell)=true
   ·simp only[if_pos hc,List.lookup_cons,hx] at h;exact ih h
   ·simp only[if_neg hc,List.lookup_cons,hx] at h;exact ih h
def C5(Z:St)(d4:List Nat)(n:Nat):St:=d4.map (λj=>(Z[j]?).join)++List.replicate (n-d4.length) none
section
variable{X:Cx}{pins:List (Addr×Obj)}{Z:St}{H:Hp}{s:Shared}
theorem Inv.FU{scope:Scope}{N':List Str}{d4:List Nat}{cl:List (Str×Addr)}{C:Addr}{h1:Heap}{fp:List Addr}{tk:Nat}(I:Inv X pins Z H s)(S:dt X scope N' d4 cl)(hc:X.calm=true)(hf:∀b∈fp,C6 X pins H b)(ho:∀b∈fp,∃o,s.heap.get? b=some o)(hC:s.heap.objs.size<=C)(hn:∃m,h1.Ns C m)(k:∀b o,s.heap.get? b=some o->h1.get? b=some o)(ck:CellsOk h1 (C+1) (cellsFrom (C+1) scope.names [])) :
  Inv (d7 X pins scope N' cl C s H fp) [] (C5 Z d4 N'.length) H { s with heap:=h1,toks:=tk }:=by
 obtain⟨m,hm⟩:=hn;have Kl:(relabel scope X.env).kind=.function:=S.kind;have CJ:∀b o,s.heap.get? b=some o->b≠C:=λb o e z=>absurd (aD e) (by rw[z];exact Nat.not_lt.mpr hC);have two:∀{x:Str} {c:Addr},(K5 scope cl C).lookup x=some c->(C<c/\h1.IsCell c none/\(x,c)∈cellsFrom (C+1) scope.names [])\/(cl.lookup x=some c/\(cellsFrom (C+1) scope.names []).lookup x=none):=λ{x c} h=>by
  unfold K5 at h;rw[I9] at h;cases e:(cellsFrom (C+1) scope.names []).lookup x with
  |some c' =>
   rw[e] at h;cases h;have hm:=aS e;exact .inl ⟨(ck.empty x c hm).2,(ck.empty x c hm).1,hm⟩
  |none =>
   rw[e] at h;exact .inr ⟨h,rfl⟩
 have rC:∀{x:Str} {c:Addr},cl.lookup x=some c->c<s.heap.objs.size:=λ{x c} h=>by
  obtain⟨v,o,e,_⟩:=I.cell x c (S.cin x c h);exact aD e
 have frees:∀{x:Str},scope.names.lookup x=some .free->(K5 scope cl C).lookup x=cl.lookup x:=λ{x} h=>by
  unfold K5;rw[I9];cases e:(cellsFrom (C+1) scope.names []).lookup x with
  |some c' =>
   have:=S.cells _ (U0 (aS e)) rfl;rw[h] at this;cases this
  |none=>rfl
 refine⟨⟨I.mod,Kl,I.ok.glob,I.ok.blt,hC,?_,?_,?_,λ_=>I.ok.hd hc,I.ok.frames,.inl rfl,?_,I.bs,?_,?_,?_,I.stack,I.wJ⟩,rfl,I.bare,Un.kept k,⟨m,hm,?_⟩,?_,?_,?_,?_,I.bR.kept k,?_⟩
 ·intro x y c h1 h2;rcases two h1 with⟨l1,_,q1⟩|⟨q1,_⟩<;>rcases two h2 with⟨l2,_,q2⟩|⟨q2,_⟩
  ·exact PySem.name_of_addr ck.apart q1 q2
  ·exact absurd (cP l1 (aB (rC q2) hC)) (bt _)
  ·exact absurd (cP l2 (aB (rC q1) hC)) (bt _)
  ·exact I.ok.inj x y c (S.cin x c q1) (S.cin y c q2)
 ·intro x hx;rcases M5 (env:=X.env) (names:=scope.names) hx with z|z
  ·obtain⟨c,hc⟩:=S.tW x z;exact⟨c,(frees z).trans hc⟩
  ·have q:=dB scope.names (C+1) [] (.inl z);obtain⟨c,hc⟩:=eO.mp q;refine⟨c,?_⟩;show(K5 scope cl C).lookup x=some c;unfold K5;rw[I9,hc]
   rfl
 ·intro x c hf h;have z:scope.names.lookup x=some .cell:=aZ hf;have q:=dB scope.names (C+1) [] (.inl z);rcases two h with⟨l,_⟩|⟨_,e⟩
  ·exact et (dC hC l)
  ·rw[e] at q;cases q
 ·intro b hb;obtain⟨f0,f1,f2,f3,f4,f5⟩:=hf b hb;obtain⟨o,e⟩:=ho b hb;refine⟨CJ b o e,λx c h=>?_⟩;rcases two h with⟨l,_⟩|⟨q,_⟩
  ·intro z;subst z;exact absurd (cP l (aB (aD e) hC)) (bt _)
  ·exact f4 x c (S.cin x c q)
 ·exact aG I.ok.lr I.sz
 ·intro b o e hb;obtain⟨f0,f1,f2,f3,f4,f5⟩:=hf b hb;rcases f3 with f3|f3
  ·exact I.ok.ja b o e f3
  ·exact absurd (aD (I.ok.bs b o e).1) (Nat.not_lt.mpr f3)
 ·intro b hb z;obtain⟨f0,f1,f2,f3,f4,f5⟩:=hf b hb;rcases aL.mp (I.L5 b z) with z|z
  ·exact f1 z
  ·exact f2 z
 ·intro i x v Lq h2 h3;have hi:i<d4.length:=by
   unfold C5 at h2;by_cases hi:i<d4.length
   ·exact hi
   ·rw[cA (by simpa using hi),dn] at h2;split at h2<;>cases h2
  obtain⟨j,hj⟩:∃j,d4[i]?=some j:=⟨_,ai hi⟩
  have hs:Z[j]?=some (some v):=by
   unfold C5 at h2;rw[aJ (by simpa using hi),ag,hj] at h2;simp only[Option.map_some] at h2;cases e:Z[j]? with
   |none=>rw[e] at h2;cases h2
   |some a=>rw[e] at h2;exact congrArg some (aQ h2)
  obtain⟨y,JL,JK,xT,CZ⟩:=S.Mq i j hj;have ey:y=x:=by
   have tE:N'[i]?=some x:=Lq;rw[JL] at tE;exact aQ tE
  subst ey;obtain⟨m0,yk,hl⟩:=I.loc;obtain ⟨u,ru,hu⟩:=hl j y v JK hs (by
   rcases CZ with z|z
   ·exact .inr (.inl z)
   ·exact .inr (.inr z))
  refine⟨u,ru,.inr ⟨E9 (env:=X.env) (names:=scope.names) xT,?_⟩⟩;rcases hu with⟨z,_⟩|⟨_,c,oI,kW⟩
  ·rcases CZ with z'|z'<;>(rw[z'] at z;cases z)
  ·obtain⟨c',hV⟩:=S.tW y xT;have e:=S.cin y c' hV;rw[oI] at e;cases e;obtain⟨o,e1,e2⟩:=kW;exact⟨c,(frees xT).trans hV,o,k _ _ e1,e2⟩
 ·intro x c h;rcases two h with⟨_,q,_⟩|⟨q,_⟩
  ·exact⟨none,q⟩
  ·obtain⟨v,o,e1,e2⟩:=I.cell x c (S.cin x c q);exact⟨v,o,k _ _ e1,e2⟩
 ·exact I.bR.fresh hC
 ·intro x c h;rcases two h with⟨l,_⟩|⟨q,_⟩
  ·exact I.bR.fresh (et (dC hC l))
  ·exact I.eJ x c (S.cin x c q)
 ·intro p hp;have iP:p∈X.pn++pins:=by simpa[d7] using hp
  obtain⟨p1,p2,p3,p4,p5⟩:=I.pin p iP;refine⟨k _ _ p1,p2,CJ _ _ p1,λz=>?_,p5⟩;rcases aL.mp (I.L5 _ z) with z|z
  ·exact p3 z
  ·exact p4 z
 ·unfold C5;show _=N'.length;rw[bg,ao,List.length_replicate];have:=S.zD;omega
theorem Inv.HR{scope:Scope}{N':List Str}{cl:List (Str×Addr)}{C:Addr}{fp:List Addr}{gS:List (Addr×Obj)}{bU:St}{H':Hp}{s':Shared}(I:Inv X pins Z H s)(hf:∀b∈fp,C6 X pins H b)(J:Inv (d7 X pins scope N' cl C s H fp) gS bU H' s'):Inv X pins Z H' s' :=
 I.Bc (ch:=fp) J.os J.base J.bR J.bare λb hb=>by
  obtain⟨f0,f1,f2,f3,f4,f5⟩:=hf b hb;exact⟨f3,f1,f4,f5⟩
theorem Inv.UU{D:Addr}{ys:List V}{aW:List Value}{n:Nat}(I:Inv X pins Z H s)(f:C6 X pins H D)(hs:X.df.heap.objs.size<=D)(hv:Vals ys aW)(hz:ys.length<=sizeLine)(ho:s.heap.get? D=some { cls:=.type "list",data:=.seq aW.toArray n }):Inv X pins Z (upd H D (.lst ys)) s:=by
 obtain⟨f0,f1,f2,f3,f4,f5⟩:=f;have dH:∀b o,X.df.heap.get? b=some o->b≠D:=λb o e z=>absurd (aD e) (by rw[z];exact Nat.not_lt.mpr hs);have tup:∀b u,H b=some u->upd H D (.lst ys) b=some u:=λb u e=>by rw[d8 (l9 e f0)];exact e
 refine⟨I.ok,I.os,I.bare,⟨?_,?_,?_,I.base.there,?_,?_,?_⟩,I.loc,I.cell,?_,?_,?_,?_,I.len⟩
 ·exact λb o e n1 n2 n3=>I.base.keep b o e n1 n2 n3
 ·exact λb o e n1 n2 n3=>I.base.slot b o e n1 n2 n3
 ·exact λb o e n1 n2=>by rw[d8 (dH b o e)];exact I.base.free b o e n1 n2
 ·exact λb xs e=>tup _ _ (I.base.gH b xs e)
 ·exact λb o u e=>tup _ _ (I.base.gy b o u e)
 ·exact λb ps e=>by
   obtain⟨more,q⟩:=I.base.gI b ps e;exact⟨more,tup _ _ q⟩
 ·rw[d8 f1.symm];exact I.free
 ·exact λx c e=>by rw[d8 (f4 x c e)];exact I.eJ x c e
 ·intro p hp;obtain⟨p1,p2,p3⟩:=I.pin p hp;exact⟨p1,by rw[d8 (f5 p hp)];exact p2,p3⟩
 ·intro a o e;by_cases ha:a=D
  ·subst ha;rw[u3] at e;cases e;exact⟨hz,aW,n,hv,ho⟩
  ·rw[d8 ha] at e;have q:=I.bR a o e;refine q.V5 (λb u _ h=>h) (λb hb=>tup _ _ hb) (λb xs hb=>tup _ _ hb)
end
end L2

namespace L2
open PySem PySem.Spec PyProof.Rows
def Bl(wi:TI)(d4:List Nat)(n:Nat)(g:TG)(tc:TT)(te:TE):TE:=λZ H Q=>wi Z H λJ H1=>∃W:Nat->Nat->List V->St->Hp->Prop,(∃m,W 0 m [] (C5 Z d4 n) H1)/\∀i m ys Z H,W i m ys Z H ->
 (J.stop i H/\∀p,H p=none->Q (.ref p) (upd H p (.lst ys))) \/
 (J.go i H/\ys.length < sizeLine/\∀ x H',J.nQ i H x H'->g x Z H' λcC H2=>tc cC H2 λb H3 =>
  if b=true then te cC H3 λy H4=>∃ m',m' < m/\W (i + 1) m' (ys ++ [y]) cC H4 else ∃ m',m' < m/\W (i + 1) m' ys cC H3)
noncomputable abbrev M6(aW:List Value)(n:Nat):Obj:={ cls:=.type "list",data:=.seq aW.toArray n }
section
variable{X:Cx}{pins:List (Addr×Obj)}{Z:St}{H:Hp}{s:Shared}
theorem FT{elt tg iter:Expr}{ifs:List Expr}{scope:Scope}{N':List Str}{d4:List Nat}{cl:List (Str×Addr)}{pos:Pos}{it:Addr}{fp:List Addr}{tn:Nat->Heap->Prop}{J:It}{g:TG}{tc:TT}{te:TE}{xx:Addr->Shared->Hp->Value->Shared->Prop}{RR:Value->Addr->Result->Shared->Prop}{E:Value->Shared->Prop}{W:Nat->Nat->List V->St->Hp->Prop}{m0:Nat}{Q:VK}(S:dt X scope N' d4 cl)(hc:X.calm=true)(hg:∀C s H,PG (d7 X pins scope N' cl C s H fp) tg g)(ht:∀C s H,jP (d7 X pins scope N' cl C s H fp) ifs tc)(he:∀C s H,PE ((d7 X pins scope N' cl C s H fp).Z0 (xx C s H)) elt te)(I:Inv X pins Z H s)(T:Turn X.prog X.w X.K tg J fp it tn)(st:tn 0 s.heap)(hf:∀b∈fp,C6 X pins H b)(w0:W 0 m0 [] (C5 Z d4 N'.length) H)(turn:∀ i m ys Z H,W i m ys Z H->(J.stop i H/\∀ p,H p=none->Q (.ref p) (upd H p (.lst ys))) \/
   (J.go i H/\ys.length < sizeLine/\∀ x H',J.nQ i H x H'->g x Z H' λcC H2=>tc cC H2 λb H3 =>
    if b=true then te cC H3 λy H4=>∃ m',m' < m/\W (i + 1) m' (ys ++ [y]) cC H4 else ∃ m',m' < m/\W (i + 1) m' ys cC H3))(yM:∀D C s' H' m,Inv X pins Z H' s'->Q (.ref D) H'->s'.heap.Ns C m->H' C=none->s.heap.objs.size<=C->RR (.ref D) C (.ok .next) s')(KR:∀D C e s',s.heap.objs.size<=C->xx C s H e s'->notedBy (model X.prog X.w) X.A (compEnvC scope (K5 scope cl C) C X.env) (λe s'=>RR (.ref D) C (.error e) s') e s') :
  wpAny (model X.prog X.w) X.A (newList []) (λacc fe=>wpAny (model X.prog X.w) X.A (newFunctionEnv scope X.env.globals cl [] X.env.qual none .none (some X.env)) (λjZ iK =>
   jZ.frame=X.env.frame/\codeAny (model X.prog X.w) X.A (.compStart (.ListComp elt [⟨tg,iter,ifs,0⟩] scope pos) 0 (.ref it) acc { jZ with scope:=relabel scope X.env }) (RR acc jZ.locals) iK) E fe) E s:=by
 refine cy (GK λdG fX fz kU=>?_);dsimp only at fX fz kU ⊢;generalize oP:s.heap.push { cls:=.type "list",dict:=none,data:=.seq ([]:List Value).toArray }=H2 at fX fz kU ⊢;generalize eD:s.heap.objs.size=D at *;have hC:H2.objs.size=D+1:=by rw[<- oP,eP,eD]
 generalize eC:H2.objs.size=C at *;have tm:D≠C:=by omega
 have lt:∀b o,s.heap.get? b=some o->b<D:=λb o e=>by rw[<- eD];exact aD e
 have om:D<=C:=by omega
 have mU:∀b o,s.heap.get? b=some o->b≠C:=λb o e=>aR (aB (lt b o e) om);have kD:∀b o,s.heap.get? b=some o->b≠D:=λb o e=>aR (lt b o e);have old:∀b o,s.heap.get? b=some o->dG.get? b=some o:=λb o e=>fz b o (oP▸au _ e);have jD:dG.get? D=some (M6 [] 0):=fz _ _ (by rw[<- oP,<- eD];exact aH _ rfl);have hJ:∀b∈fp,∃o,s.heap.get? b=some o:=λb hb=>by
  obtain⟨o,e,_⟩:=T.obj _ _ st b hb;exact⟨o,e⟩
 have tj:D∉fp:=λhm=>by
  obtain⟨o,e⟩:=hJ D hm;exact kD D o e rfl
 have X1:Inv (d7 X pins scope N' cl C s H fp) [] (C5 Z d4 N'.length) H { s with heap:=dG } :=
  I.FU S hc hf hJ (by rw[eD];omega) ⟨_,fX⟩ old kU
 have rf:tn 0 dG:=T.keep _ _ _ st λb _ o e=>old b o e;have zk:∀{H':Hp},(∀b∈fp,H' b=none)->∀b∈fp,C6 (d7 X pins scope N' cl C s H fp) [] H' b:=λhn b hb=>by
  obtain⟨f0,f1,f2,f3,f4,f5⟩:=hf b hb;obtain⟨o,e⟩:=hJ b hb;refine⟨hn b hb,?_,?_,.inl hb,λx c q=>(wL kU q).elim (λl z=>absurd (cP (z▸l) (aB (lt b o e) om)) (bt _)) λq=>f4 x c (S.cin x c q),λp hp=>?_⟩
  ·exact mU b o e
  ·exact λz=>by
    rcases aL.mp (I.L5 b z) with z|z
    ·exact f1 z
    ·exact f2 z
  ·have iP:p∈X.pn++pins:=by simpa[d7] using hp
   exact f5 p iP
 have fD:∀{H':Hp},H' D=none->C6 (d7 X pins scope N' cl C s H fp) [] H' D:=λhn=>by
  refine⟨hn,tm,λz=>?_,.inr (by show s.heap.objs.size<=D;omega),λx c q=>?_,λp hp=>?_⟩
  ·exact absurd (I.uC (a:=D) (by omega)) λjn=>by
    rcases aL.mp (I.L5 D z) with z|z
    ·exact absurd I.lt (by rw[<- z,eD];exact bt _)
    ·exact jn z
  ·rcases wL kU q with l|q
   ·exact λz=>absurd (aB (z▸l) om) (bt _)
   ·obtain⟨v,o,e,_⟩:=I.cell x c (S.cin x c q);exact kD c o e
  ·have iP:p∈X.pn++pins:=by simpa[d7] using hp
   exact kD _ _ (I.pin p iP).1
 have oh:∀{H':Hp} {s':Shared} {bU:St} {aW:List Value} {n:Nat},Inv (d7 X pins scope N' cl C s H fp) [] bU H' s'->H' D=none->s'.heap.get? D=some (M6 aW n) ->
   Inv (d7 X pins scope N' cl C s H fp) [(D,M6 aW n)] bU H' s':=λ{H' s' bU aW n} J0 hn e=>J0.K9 λp hp=>by
  have z:p=(D,M6 aW n):=by simpa using hp
  subst z;obtain⟨f0,f1,f2,_⟩:=fD hn;exact⟨e,f0,f1,f2,λv z=>nomatch z⟩
 have pb:∀{H':Hp} {aW:List Value} {n:Nat},(∀b∈fp,H' b=none)->∀b∈fp,C6 (d7 X pins scope N' cl C s H fp) [(D,M6 aW n)] H' b:=λ{H' aW n} hn b hb=>by
  obtain⟨f0,f1,f2,f3,f4,f5⟩:=zk hn b hb;refine⟨f0,f1,f2,f3,f4,λp hp=>?_⟩;have iP:p∈(d7 X pins scope N' cl C s H fp).pn\/p=(D,M6 aW n):=by simpa using hp
  rcases iP with z|z
  ·exact f5 p (cZ _ z)
  ·subst z;exact λz=>tj (by rw[show D=b from z];exact hb)
 have loop:∀fe:Shared,fe={ s with heap:=dG } ->
   codeAny (model X.prog X.w) X.A (.compLoop (.ListComp elt [⟨tg,iter,ifs,0⟩] scope pos) 0 (.ref it) (.ref D) (compEnvC scope (K5 scope cl C) C X.env)) (RR (.ref D) C) fe:=by
  rintro fe rfl;refine Yi (λn s'=>∃ i ys bU H' aW nn,Inv (d7 X pins scope N' cl C s H fp) [] bU H' s'/\tn i s'.heap/\(∀ b ∈ fp,H' b=none)/\H' D=none/\Vals ys aW/\ys.length <= sizeLine /\
   s'.heap.get? D=some (M6 aW nn)/\W i n ys bU H') ?_ m0 ⟨0,[],_,H,[],0,X1,rf,λb hb=>(hf b hb).1,I.bR.fresh (by omega),.nil,cJ _,jD,w0⟩
  rintro n s3 ⟨i,ys,gG,H3,aW,nn,I3,mP,nB,d3,v3,z3,o3,w3⟩;have uN:=oh I3 d3 o3;rcases turn i n ys gG H3 w3 with⟨stop,q⟩|⟨go,hz,step⟩
  ·refine cF (T.done (d7 X pins scope N' cl C s H fp) rfl rfl rfl rfl i _ s3 _ H3 _ uN (pb nB) mP stop) λr s4 ⟨hr,I4⟩=>?_;subst hr;have o4:=(I4.pin (D,M6 aW nn) (by simp)).1;have J4:Inv X pins Z H3 s4:=I.HR hf I4;have zl:C6 X pins H3 D:=by
    refine⟨d3,bZ (by rw[<- eD];exact I.lt),I.uC (by omega),.inr (by have:=I.sz;omega),λx c q=>?_,λp hp=>?_⟩
    ·obtain⟨v,o,e,_⟩:=I.cell x c q;exact kD c o e
    ·exact kD _ _ (I.pin p hp).1
   obtain⟨mC,yj,_⟩:=I4.loc;exact yM D C s4 (upd H3 D (.lst ys)) mC (J4.UU zl (by have:=I.sz;omega) v3 z3 o4) (q D d3) yj (by rw[d8 tm.symm];exact I4.free) (by omega)
  ·refine cF (T.item (d7 X pins scope N' cl C s H fp) rfl rfl rfl rfl i _ s3 _ H3 _ uN (pb nB) mP go) λr s4 ⟨u,hr,h4⟩=>?_;subst hr;refine cF h4 λ_ s5 bq=>?_;obtain⟨x,H5,I5,r5,y5,kz,tJ⟩:=bq;have o5:=I5.pin (D,M6 aW nn) (by simp);have uM:=I5.pinned (pb tJ) (T.obj _ _ kz);refine cF (hg C s H _ s5 _ H5 x u _ uM r5 (step x H5 y5)) λ_ s6 bq=>?_;obtain⟨jQ,H6,I6,q6⟩:=bq;refine cF (ht C s H _ s6 jQ H6 _ I6 q6) λok s7 ⟨H7,I7,q7⟩=>?_;have back:∀{qT:St} {H8:Hp} {s8:Shared},Inv (d7 X pins scope N' cl C s H fp) ([(D,M6 aW nn)]++X5 fp s5.heap) qT H8 s8->(∀b∈fp,H8 b=none)/\tn (i+1) s8.heap/\H8 D=none/\s8.heap.get? D=some (M6 aW nn) :=
    λ{qT H8 s8} I8=>by
     have pf:∀b∈fp,∀o,s5.heap.get? b=some o->s8.heap.get? b=some o/\H8 b=none:=λb hb o e=>by
      have:=I8.pin (b,o) (br _ (br _ (P7 hb e)));exact⟨this.1,this.2.1⟩
     have pd:=I8.pin (D,M6 aW nn) (by simp);refine⟨λb hb=>?_,T.keep _ _ _ kz λb hb o e=>(pf b hb o e).1,pd.2.1,pd.1⟩;obtain⟨o,e,_⟩:=T.obj _ _ kz b hb;exact(pf b hb o e).2
   cases ok with
   |false =>
    obtain⟨m',hm,w7⟩:=q7;obtain⟨b1,b2,b3,b4⟩:=back I7;exact⟨m',hm,i+1,ys,jQ,H7,aW,nn,I7.K9 λp hp=>absurd hp (by simp),b2,b1,b3,v3,z3,b4,w7⟩
   |true =>
    refine bA (he C s H _ s7 jQ H7 _ (I7.Z0 _) q7) (λxv s8 bq=>?_) λe s' hx=>KR D C e s' (by omega) hx;obtain⟨y,H8,I8,r8,m',hm,w8⟩:=bq;have I8:=I8.BO;obtain⟨b1,b2,b3,b4⟩:=back I8;refine dS F.slot_list_append ⟨_,b4,rfl⟩ F.entry_list_append (F.args_list_append_2 _ _) (PySem.list_append D aW.toArray nn xv (by rw[aI];have:=v3.length;omega)) ⟨b4,?_⟩;have q:∃n',(s8.heap.update D (Obj.mapSeq (·.push xv))).get? D=some (M6 (aW++[xv]) n'):=by
     have q0:=PySem.IsL.update b4 (·.push xv);have e0:aW.toArray.push xv=(aW++[xv]).toArray:=by simp
     rw[e0] at q0;exact⟨_,q0⟩
    obtain⟨n',q⟩:=q;have Cd:Inv (d7 X pins scope N' cl C s H fp) [] jQ H8 s8:=I8.K9 λp hp=>absurd hp (by simp);obtain⟨f0,f1,f2,f3,f4,f5⟩:=fD (H':=H8) b3;have kp:∀b o,b≠D->s8.heap.get? b=some o->(s8.heap.update D (Obj.mapSeq (·.push xv))).get? b=some o:=λb' u hb hu=>(cV s8.heap (Obj.mapSeq (·.push xv)) (bP hb)).trans hu;refine⟨m',hm,i+1,ys++[y],jQ,H8,aW++[xv],n',Cd.turned (it:=D) (t':=s8.toks) kp f0 f1 f3 f4 f5,T.keep _ _ _ b2 λb hb o e=>kp b o (λz=>tj (by rw[<- z];exact hb)) e,b1,b3,v3.append (.cons r8 .nil),?_,q,w8⟩;rw[bg,List.length_singleton];omega
 exact⟨rfl,codeAny_compStart_list (loop _ rfl) (T.self _ 0 _ _ _ rf (loop _ rfl))⟩
theorem Inv.EO{C:Addr}{h':Heap}{s2:Shared}{H2:Hp}(I:Inv X pins Z H s)(hC:s2.heap.objs.size<=C)(I2:Inv X pins Z H2 s2)(hn:H C=none)(sb:Heap.SameBut C s.heap h'):Inv X pins Z H { s with heap:=h' }:=by
 have f:=I2.nH (b:=C) (H':=H) hC hn;obtain⟨f0,f1,f2,f3,f4,f5⟩:=f;exact I.turned (t':=s.toks) (λb o hb e=>sb.extBut b o hb e) f0 f1 f3 f4 f5
theorem FW{M:Model}{A:Around}{E:Value->Shared->Prop}{s:Shared}{a:Sem Value}{b:Sem Env}{P:Env->Prop}{Q:Value->Env->Shared->Prop}(h:wpAny M A a (λx s1=>wpAny M A b (λy s2=>P y/\Q x y s2) E s1) E s):wpAny M A a (λx s1=>wpAny M A b (λy s2=>Q x y s2) E s1) E s :=
 bA h (λ_ _ h=>bA h (λ_ _ h=>h.2) λ_ _ z=>z) λ_ _ z=>z
theorem Hu{elt tg iter:Expr}{ifs:List Expr}{scope:Scope}{N':List Str}{d4:List Nat}{cl:List (Str×Addr)}{pos:Pos}{wi:TI}{g:TG}{tc:TT}{te:TE}(S:dt X scope N' d4 cl)(hc:X.calm=true)(hi:PI X tg iter wi)(hg:∀pins C s H fp,PG (d7 X pins scope N' cl C s H fp) tg g)(ht:∀pins C s H fp,jP (d7 X pins scope N' cl C s H fp) ifs tc)(he:∀pins C s H fp,PE (d7 X pins scope N' cl C s H fp) elt te)(hs:∀x,foldedSetIterable iter X.env x=pure x):PE X (.ListComp elt [⟨tg,iter,ifs,0⟩] scope pos) (Bl wi d4 N'.length g tc te):=by
 intro pins s Z H Q I h;rw[eval_ListComp];refine wpAny_comprehension_free (use:=none) rfl hs S.pB S.kind S.names (cF (hi pins s Z H _ I h) λxv cj dG=>cF dG λse fP gZ=>?_);obtain⟨it,fp,tn,J,H2,e,I2,T,ju,f2,W,⟨m0,w0⟩,turn⟩:=gZ;subst e;refine FW (FT (xx:=λ_ _ _ _ _=>False) (RR:=λacc C=>compPost (model X.prog X.w) X.A X.xe none (EP X pins Z Q) acc C) S hc (λC s H=>hg pins C s H fp) (λC s H=>ht pins C s H fp) (λC s H=>he pins C s H fp) I2 T ju f2 w0 turn ?_ λ_ _ _ _ _ z=>z.elim);intro D C s' H' m I' q hn hC hsz;exact⟨m,hn,λh' sb=>⟨.ref D,H',I'.EO hsz I2 hC sb,rfl,q⟩⟩
theorem X'{elt tg iter:Expr}{ifs:List Expr}{scope:Scope}{N':List Str}{d4:List Nat}{cl:List (Str×Addr)}{pos rg px:Pos}{wi:TI}{g:TG}{tc:TT}{te:TE}{i:Nat}{x:Str}(S:dt X scope N' d4 cl)(hc:X.calm=true)(hi:PI X tg iter wi)(hg:∀pins C s H fp,PG (d7 X pins scope N' cl C s H fp) tg g)(ht:∀pins C s H fp,jP (d7 X pins scope N' cl C s H fp) ifs tc)(he:∀pins C s H fp,PE (d7 X pins scope N' cl C s H fp) elt te)(hs:∀x,foldedSetIterable iter X.env x=pure x)(hN:X.N.Nodup)(oE:X.N[i]?=some x)(hx:Loc X.env.scope x)(hf:X.fn x=true\/X.env.scope.names.lookup x=some .local) :
  PS X (.Assign [.Name x px] (.ListComp elt [⟨tg,iter,ifs,0⟩] scope pos) rg) (uD (Bl wi d4 N'.length g tc te) (qL i)):=by
 intro pins s Z H D I h;have ve:∃b,swapsWith (.ListComp elt [⟨tg,iter,ifs,0⟩] scope pos) (some (.Name x px)) rg.line X.env=pure b:=⟨_,rfl⟩
 obtain⟨b,ve⟩:=ve;cases b with
 |false=>exact GS hN oE hx (Hu S hc hi hg ht he hs) ve hf pins s Z H D I h
 |true =>
  rw[exec_Assign_Name_used _ _ _ _ ve];refine ae (dZ (ae ?_));show wpAny _ X.A (do let _ <- comprehension (.ListComp elt [⟨tg,iter,ifs,0⟩] scope pos) scope X.env _ (newList []) false (eval iter X.env) (some (assign (.Name x px) X.env))) _ _ s;refine ae (bA (wpAny_comprehension_free (use:=some (assign (.Name x px) X.env)) (Q:=λ_ s'=>SP X pins D .next s') rfl hs S.pB S.kind S.names
   (cF (hi pins s Z H _ I h) λxv cj dG=>cF dG λse fP gZ=>?_)) (λ_ s' hq=>av (av hq)) λ_ _ e=>e)
  obtain⟨it,fp,tn,J,H2,e,I2,T,ju,f2,W,⟨m0,w0⟩,turn⟩:=gZ;subst e;refine FW (FT (xx:=λ_ _ _ _ _=>False) (Q:=λv H1=>qL i v Z H1 D.nx) (RR:=λacc C=>compPost (model X.prog X.w) X.A X.xe (some (assign (.Name x px) X.env)) (λ_ s'=>SP X pins D .next s') acc C) S hc (λC s H=>hg pins C s H fp) (λC s H=>ht pins C s H fp) (λC s H=>he pins C s H fp) I2 T ju f2 w0 turn ?_ λ_ _ _ _ _ z=>z.elim);intro Dl C s' H' m I' q hn hC hsz;show wpAny _ X.A (assign (.Name x px) X.env (.ref Dl)) _ _ _;refine wpAny_assign_Name (FJ I' hN oE hx (v:=.ref Dl) rfl (λs3 I3 ⟨a,sb,ha⟩=>?_) hf);have KU:C≠a:=by
   obtain⟨f0,f1,f2,f3,f4,f5⟩:=I2.nH (b:=C) (H':=H') hsz hC;rcases ha with z|z
   ·rw[z];exact f1
   ·exact λz'=>f4 _ _ z z'.symm
  obtain⟨f0,f1,f2,f3,f4,f5⟩:=I2.nH (b:=C) (H':=H') hsz hC;refine⟨m,hn.sameBut sb KU,λh3 Jm=>⟨_,H',I3.turned (t':=s3.toks) (λb o hb e=>Jm.extBut b o hb e) f0 f1 f3 f4 f5,q⟩⟩
end
end L2

namespace HT
open PySem PyProof.Rows
section
variable{prog:Program}{w:World}{A:Around}{E:Value->Shared->Prop}{s:Shared}
theorem QQ{t b:Addr}{ws:List Value}{Q:Value->Shared->Prop}(ht:IsTup s.heap t #[])(hb:IsTup s.heap b ws.toArray)(h1:Q (.ref b) s):wpAny (model prog w) A (binaryOp .Add (.ref t) (.ref b)) Q E s:=by
 obtain⟨⟨cls,dd,data,sl⟩,ho,hc,n,hd⟩:=id ht;obtain⟨⟨tV,nD,data2,jH⟩,hU,kW,n2,hd2⟩:=id hb;simp only at hc hd kW hd2;subst hc hd kW hd2;exact concat_meets ⟨_,ho,rfl⟩ ⟨_,hU,rfl⟩ noFill_tuple_add seq_tuple_add PySem.F.slot_tuple_add PySem.F.entry_tuple_add (PySem.F.args_tuple_add_2 _ _)
   (tuple_addW0 t b #[] ws.toArray n n2 dd nD sl jH rfl) ⟨ho,hU,h1⟩
theorem VU{t sl:Addr}{items:Array Value}{vl vu:Value}{lo hi:Option Int}{Q:Value->Shared->Prop}(ht:IsTup s.heap t items)(hs:s.heap.IsSliceOf sl vl vu .none)(pl:IsPart vl lo)(pu:IsPart vu hi)(hw:dF items.size 0 lo=0/\dF items.size items.size hi=items.size)(h:Q (.ref t) s):wpAny (model prog w) A (getItem (.ref t) (.ref sl)) Q E s:=by
 obtain⟨os,ox,vk,sN⟩:=id hs;have yK:s.TypeIs (.ref sl) "slice":=⟨os,ox,vk⟩
 unfold getItem
 try with_reducible refine cE ?_
 first|refine ae (av ?_)|skip
 refine ae (wpAny_sequenceKey ht.typeIs (by decide) ?_);refine ae (wpAny_callSpecial?_slot (name:=Str.ofString "__getitem__") ht.typeIs bS
  (cL bS ht.typeIs entry_tuple_getitem ?_ (args_tuple_getitem _ _)))
 show wpAny _ _ (Builtin.Tuple.tupleItemsOf (.ref t) >>= _) _ _ s;refine ae (tupleItemsOf_ ht ?_);refine ae (eZ yK ?_);rw[aK (by decide)];refine ae (S7 hs pl pu ?_);have xS:((((dF items.size 0 lo:Nat):Int)==0&&(1:Int)==1&&(dF items.size items.size hi-dF items.size 0 lo)==items.size)=true):=by
  rw[hw.1,hw.2];simp
 show wpAny _ _ (if(((dF items.size 0 lo:Nat):Int)==0&&(1:Int)==1&&(dF items.size items.size hi-dF items.size 0 lo)==items.size)=true then _ else _) _ _ s;rw[aK xS];obtain⟨o,ho,hc,_⟩:=id ht;unfold Builtin.Tuple.tupleIsExact;refine ae (ae (eZ ht.typeIs (av ?_)));rw[aK (by decide)]
 first
  |exact wpAny_bind (wpAny_rule (wpAny_bind (wpAny_pure ⟨_,rfl,wpAny_pure h⟩)))
  |exact wpAny_bind (wpAny_rule (wpAny_pure ⟨_,rfl,wpAny_pure h⟩))
  |exact wpAny_bind (wpAny_rule (wpAny_bind (wpAny_pure (wpAny_pure ⟨_,rfl,wpAny_pure h⟩))))
end
end HT
namespace L2
open PySem PySem.Spec PyProof.Rows
section
variable{X:Cx}
def NG(K:PySem.W.Frag):R2:=λx y H Q=>∃a b xs ys,x=.ref a/\y=.ref b/\gF K H a xs/\gF K H b ys/\xs.length+ys.length<=sizeLine /\
 (xs=[]->Q (.ref b) H)/\(ys=[]->Q (.ref a) H)/\(∀p,H p=none->Q (.ref p) (upd H p (.tup (xs++ys))))
theorem YD:ft X (binaryOp .Add) (NG X.K):=by
 intro pins s Z H x y v u Q I rx ry h;obtain⟨a,b,xs,ys,rfl,rfl,ha,hb,hz,q0,q1,q2⟩:=h;by_cases hx:xs=[]
 ·subst hx;cases rx;cases ry;obtain⟨aW,r1,p1,_⟩:=I.tuple ha;obtain⟨kG,r2,p2,_⟩:=I.tuple hb;cases r1;exact HT.QQ p1 p2 ⟨.ref b,H,I,rfl,q0 rfl⟩
 ·exact Po pins s Z H _ _ v u Q I rx ry ⟨a,b,xs,ys,rfl,rfl,ha,hb,hx,hz,q1,λ_=>q2⟩
def Uy(K:PySem.W.Frag):V->Option Int->Option Int->Hp->VK->Prop:=λx lo hi H Q=>∃a xs,x=.ref a/\gF K H a xs /\
 (T9 xs lo hi=xs->Q (.ref a) H)/\∀p,H p=none->Q (.ref p) (upd H p (.tup (T9 xs lo hi)))
theorem Qv:uH X (Uy X.K):=by
 intro pins s Z H x v vl vu lo hi sl Q I rx hs pl pu h;obtain⟨a,xs,rfl,hx,q0,q⟩:=h;by_cases hw:HT.dF xs.length 0 lo=0/\HT.dF xs.length xs.length hi=xs.length
 ·cases rx;obtain⟨aW,r,ht,hz⟩:=I.tuple hx;have hlen:aW.toArray.size=xs.length:=by rw[aI];exact r.length.symm
  refine⟨"tuple",_,bS.lookup,ht.typeIs,?_⟩;exact HT.VU ht hs pl pu (by rw[hlen];exact hw) ⟨.ref a,H,I,rfl,q0 (by unfold T9;rw[hw.1,hw.2];simp)⟩
 ·exact NY pins s Z H _ v vl vu lo hi sl Q I rx hs pl pu ⟨a,xs,rfl,hx,hw,q⟩
theorem XO:m5 X (.builtin "isinstance") (λxs H Q=>∃x t c b,xs=[x,.ty c]/\gi X.K H x t/\PySem.W.kitOne X.K t (.type c)=some b/\Q (.bl b) H):=by
 intro pins s Z H xs us Q I r h;obtain⟨x,t,c,b,rfl,hT,hk,q⟩:=h;obtain⟨u,w',rfl,ru,fq⟩:=vals2 r;cases (show w'=Value.type c from fq);exact Z' I ru hT hk λtk=>⟨.bl b,H,I.tok tk,rfl,q⟩
theorem ZG(hc:X.calm=true):m5 X (.builtin "all") (λxs H Q=>∃(a:Addr) (bs:List Bool),xs=[.ref a]/\fo X.K H a (bs.map V.bl)/\Q (.bl (bs.all id)) H):=by
 intro pins s Z H xs us Q I r h;obtain⟨a,bs,rfl,ha,q⟩:=h;obtain⟨u,rfl,ru⟩:=vals1 r;cases ru;obtain⟨aW,rv,p,hz⟩:=I.list ha;refine call_all_walk ?_;refine wpAny_pyIter_list p.isList ?_;have dH:a≠s.heap.objs.size:=by
  obtain⟨o,e,_⟩:=id p.isList;exact aR (aD e)
 have hl:=rv.length;rw[ao] at hl;refine⟨s.heap.objs.size,_,_,_,_,_,λi=>bs.getD i true,rfl,Walks.list (A:=X.A.in1) (I.ok.hd hc) _ a dH aW.toArray,⟨⟨_,aH _ rfl,rfl,rfl⟩,?_⟩,?_,λh' tk k=>?_⟩
 ·obtain⟨o,e,q1⟩:=id p.isList;exact⟨o,au _ e,q1⟩
 ·intro i v s' Q' E' hP hQ;have hv:aW[i]?=some v:=by simpa using hP
  have hi:i<bs.length:=by rw[hl];exact(ak.mp hv).1
  obtain⟨u',mZ,rz⟩:=rv.get (i:=i) (x:=V.bl bs[i]) (by rw[ag,ai hi];rfl);rw[hv] at mZ;cases mZ;cases (show v=Value.bool bs[i] from rz);refine cx ?_;have:bs.getD i true=bs[i]:=by simp[List.getD,hi]
  dsimp only at hQ;rw[this] at hQ;exact hQ
 ·have e1:(List.range aW.toArray.size).all (λi=>bs.getD i true)=bs.all id:=by
   rw[aI,<- hl];rw[aV];simp only[List.all_eq_true,List.mem_range,id];constructor
   ·intro hh x hx;obtain⟨i,hi,rfl⟩:=bG.mp hx;have:=hh i hi;simpa[List.getD,hi] using this
   ·intro hh i hi;have:=hh bs[i] (cc hi);simpa[List.getD,hi] using this
  rw[e1];exact ⟨.bl (bs.all id),H,I.kept (t':=tk) λb o e=>k b o (by
   intro hb;have:b=s.heap.objs.size:=by simpa using hb
   exact absurd (aD e) (by rw [this];exact bt _)) (au _ e),rfl,q⟩
end
end L2

namespace HT
open PySem PyProof.Rows
section
variable{prog:Program}{w:World}{A:Around}{E:Value->Shared->Prop}{s:Shared}
end
end HT
namespace L2
open PySem PySem.Spec PyProof.Rows
section
variable{X:Cx}{e st:Expr}{te ts:TE}{pos p2:Pos}
end
end L2

namespace L2
open PySem PySem.Spec PyProof.Rows
theorem m8.get{P:Program}{w:World}{H:Hp}{h:Heap}{a:Addr}:∀{o:HO},m8 P w H h a o->∃ob,h.get? a=some ob
 |.lst _,x=>by obtain⟨_,_,_,_,e⟩:=x;exact⟨_,e⟩
 |.tup _,x=>by obtain⟨_,_,_,o,e,_⟩:=x;exact⟨o,e⟩
 |.dK _,x=>by obtain⟨_,_,_,_,o,es,ep,e,_⟩:=x;exact⟨o,e⟩
 |.dT _,x=>by obtain⟨_,_,_,_,o,es,ep,e,_⟩:=x;exact⟨o,e⟩
 |.set _ _,x=>by obtain⟨o,es,ep,t,e,_⟩:=x;exact⟨o,e⟩
 |.ins _ _ _,x=>by obtain⟨_,_,_,e,_⟩:=x;exact⟨_,e⟩
 |.own _,x=>x
 |.xd _,x=>by obtain⟨mA,n,_⟩:=x;obtain⟨od,e,_⟩:=FA n;exact⟨od,e⟩
 |.ki _ _,x=>by obtain⟨_,_,_,e⟩:=x;exact⟨_,e⟩
 |.iQ _ _,x=>⟨_,x.1⟩
 |.kh _,x=>⟨_,x⟩
 |.met _ _,x=>⟨_,x⟩
 |.ext _,x=>x.2.1
def AX(H':Hp)(h0:Heap)(l:List Env)(e:Value)(C:Addr)(h:Heap):Prop :=
 ∃(ea:Addr) (a0:Value) (B:Heap),e=.ref ea/\Heap.FlyingW B l ea (.ref C) a0 h/\∀b o,h.get? b=some o->b∉fH l->(H' b≠none\/∃o0,h0.get? b=some o0)->B.get? b=some o
def ig(P:Program)(w:World):lB:=λouter H s E e s'=>∃(C:Addr) (H':Hp),s'.os=s.os/\AllBare s'.gens/\Un (fH outer) [] H H' s.heap s'.heap/\fN P w H' s'.heap/\AX H' s.heap outer e C s'.heap/\E (.ref C) none H'
section
variable{X:Cx}{pins:List (Addr×Obj)}{Z:St}{H:Hp}{s s':Shared}{E:XK}{e:Value}
theorem Inv.flew(I:Inv X pins Z H s)(h:ig X.prog X.w X.stack H s E e s'):∃C H',Inv X pins Z H' s'/\AX H' s.heap X.stack e C s'.heap/\E (.ref C) none H':=by
 obtain⟨C,H',ho,hb,hu,bR,fl,hE⟩:=h;exact⟨C,H',I.Bc (ch:=[]) ho hu bR hb (by simp),fl,hE⟩
theorem wM(I:Inv X pins Z H s){b:Addr}(hb:b∈fH X.stack):∃o,s.heap.get? b=some o/\∀vs,o.data≠.fields vs:=(I.stack.mem hb).2
theorem Be{lJ:Heap}{B:Heap}{ea C:Addr}{a0:Value}(I:Inv X pins Z H s)(dP:X.stack=X.env::X.outer)(hex:X.ex=[])(hf:X.env.frame=some X.env.locals)(qc:∀b o,s.heap.get? b=some o->b∉fH X.stack->(H b≠none\/∃o0,X.df.heap.get? b=some o0)->B.get? b=some o)(sl:∀b∈fH X.stack,∀o,s.heap.get? b=some o->∃sl,lJ.get? b=some { o with slots:=sl })(fw:Heap.FlyingW B X.outer ea (.ref C) a0 lJ)(hE:E (.ref C) none H):ig X.prog X.w X.outer X.ir X.df E (.ref ea) { s with heap:=lJ }:=by
 have xX:∀b,b∈fH X.outer->b∈fH X.stack:=λb hb=>by rw[dP];unfold fH at hb ⊢;rw[eG,hf];exact bw _ hb
 have rG:∀b o,X.df.heap.get? b=some o->b∉fH X.outer->b∉fH X.stack:=λb o e hb z=>by
  rcases aL.mp (I.L5 b z) with z|z
  ·exact absurd (aD e) (by rw[z];exact Nat.not_lt.mpr I.ok.above)
  ·exact hb z
 have lQ:∀b u,H b=some u->b∉fH X.stack:=λb u e z=>by rw[I.wJ b z] at e;cases e
 have kept:∀b o,s.heap.get? b=some o->b∉fH X.stack->(H b≠none\/∃o0,X.df.heap.get? b=some o0)->lJ.get? b=some o:=λb o e n q=>fw.1 b o (qc b o e n q);have rJ:∀b,b∉X.ex:=λb=>by rw[hex];simp
 refine⟨C,H,I.os,I.bare,⟨?_,?_,?_,?_,I.base.gH,I.base.gy,I.base.gI⟩,?_,⟨ea,a0,B,rfl,fw,?_⟩,hE⟩
 ·exact λb o e n1 n2 _=>kept b o (I.base.keep b o e n1 n2 (rJ b)) (rG b o e n2) (.inr ⟨o,e⟩)
 ·intro b o e n1 n2 _;obtain⟨Jk,e1⟩:=I.base.slot b o e n1 n2 (rJ b);obtain⟨jH,e2⟩:=sl b (xX b n2) _ e1;exact⟨jH,e2⟩
 ·exact λb o e n1 _=>I.base.free b o e n1 (rJ b)
 ·intro b o e _;obtain⟨o1,e1⟩:=I.base.there b o e (rJ b);by_cases hb:b∈fH X.stack
  ·obtain⟨jH,e2⟩:=sl b hb _ e1;exact⟨_,e2⟩
  ·exact⟨o1,kept b o1 e1 hb (.inr ⟨o,e⟩)⟩
 ·intro a o e;exact (I.bR a o e).V5 (λb u hb q=>by
   have jq:∃v,H b=some v:=by
    rcases hb with rfl|hb
    ·exact⟨o,e⟩
    ·exact⟨_,hb⟩
   obtain⟨v,hv⟩:=jq;exact kept b u q (lQ b v hv) (.inl (by rw [hv];simp))) (λb hb=>hb) (λb xs hb=>hb)
 ·intro b o e n q;rcases q with q|⟨o0,q⟩
  ·obtain⟨v,hv⟩:=Option.ne_none_iff_exists'.mp q;obtain⟨o1,e1⟩:=(I.bR b v hv).get;have z:=qc b o1 e1 (lQ b v hv) (.inl (by rw[hv];simp));have z':=fw.1 b o1 z;have:o=o1:=by
    have e':lJ.get? b=some o:=e;rw[z'] at e';exact(aQ e').symm
   subst this;exact z
  ·obtain⟨o1,e1⟩:=I.base.there b o0 q (rJ b);have z:=qc b o1 e1 (rG b o0 q n) (.inr ⟨o0,q⟩);have z':=fw.1 b o1 z;have:o=o1:=by
    have e':lJ.get? b=some o:=e;rw[z'] at e';exact(aQ e').symm
   subst this;exact z
theorem Ym{h0:Heap}{C:Addr}{Ex:Value->Shared->Prop}(I:Inv X pins Z H s)(fl:AX H h0 X.stack e C s.heap)(Ls:∀b o,X.df.heap.get? b=some o->∃o',h0.get? b=some o')(dP:X.stack=X.env::X.outer)(hex:X.ex=[])(hf:X.env.frame=some X.env.locals)(hE:E (.ref C) none H):wpAny (model X.prog X.w) X.A (leaving X.env e) (λ_ lR=>ig X.prog X.w X.outer X.ir X.df E e lR) Ex s:=by
 obtain⟨ea,a0,B,rfl,fw,hB⟩:=fl;have fw0:=fw;rw[dP] at fw;refine wpAny_leaves_onW (by rw[I.ok.frames,dP]) hf fw λlJ vz us=>?_;refine Be I dP hex hf (λb o e n q=>hB b o e n (q.imp id λ⟨o0,q⟩=>Ls b o0 q)) (λb hb o e=>?_) vz hE;obtain⟨o1,e1,nf⟩:=wM I hb;rw[e] at e1;cases e1;exact us b o e nf
theorem Xf{h':Heap}{ea C:Addr}{vs:List Value}{Ex:Value->Shared->Prop}(I:Inv X pins Z H s)(hx:Heap.MadeExcOf s.heap h' ea (.ref C) vs)(dP:X.stack=X.env::X.outer)(hex:X.ex=[])(hf:X.env.frame=some X.env.locals)(hE:E (.ref C) none H):wpAny (model X.prog X.w) X.A (leaving X.env (.ref ea)) (λ_ lR=>ig X.prog X.w X.outer X.ir X.df E (.ref ea) lR) Ex { s with heap:=h' }:=by
 have qh:=I.stack;rw[dP] at qh;have iC:∀env∈(X.env::X.outer),∀b,env.frame=some b->b∈fH X.stack:=λenv he b hb=>by rw[dP];exact List.mem_filterMap.mpr ⟨env,he,hb⟩
 refine wpAny_leaves_madeW (s:={ s with heap:=h' }) (base:=PySem.W.hideAll s.heap (fH X.stack)) (h:=s.heap) (by rw[I.ok.frames,dP]) hf (λb o q=>PySem.W.of_hideAll _ q) (PySem.W.funFrames_hide qh iC) hx λlJ t fw _ _ us=>?_;refine(show ig X.prog X.w X.outer X.ir X.df E (.ref ea) { s with heap:=lJ } from Be I dP hex hf (λb o e n _=>PySem.W.hideAll_get _ e n) (λb hb o e=>?_) fw hE);obtain⟨o1,e1,nf⟩:=wM I hb;rw[e] at e1;cases e1;exact us b o (hx.keeps b o e) nf
theorem Zx{l:List Env}{H H':Hp}{h0 h h1 B:Heap}{Pg:Program}{w:World}(u:Un (fH l) [] H H' h0 h)(ok:fN Pg w H' h)(hB:∀b o,h.get? b=some o->b∉fH l->(H' b≠none\/∃o0,h0.get? b=some o0)->B.get? b=some o)(st:B.StaysIn h1)(us:h.UpToSlots h1)(Dw:∀b∈fH l,H' b=none/\∃o,h.get? b=some o/\∀vs,o.data≠.fields vs):Un (fH l) [] H H' h0 h1/\fN Pg w H' h1/\∀b o,h1.get? b=some o->b∉fH l->(H' b≠none\/∃o0,h0.get? b=some o0)->B.get? b=some o:=by
 have lQ:∀b u,H' b=some u->b∉fH l:=λb u e z=>by rw[(Dw b z).1] at e;cases e
 have kept:∀b o,h.get? b=some o->b∉fH l->(H' b≠none\/∃o0,h0.get? b=some o0)->h1.get? b=some o:=λb o e n q=>st b o (hB b o e n q);have DV:∀b∈fH l,∀o,h.get? b=some o->∃sl,h1.get? b=some { o with slots:=sl }:=λb hb o e=>by
  obtain⟨_,o1,e1,nf⟩:=Dw b hb;rw[e] at e1;cases e1;exact us b o e nf
 refine⟨⟨?_,?_,u.free,?_,u.gH,u.gy,u.gI⟩,?_,?_⟩
 ·exact λb o e n1 n2 n3=>kept b o (u.keep b o e n1 n2 n3) n2 (.inr ⟨o,e⟩)
 ·intro b o e n1 n2 n3;obtain⟨Jk,e1⟩:=u.slot b o e n1 n2 n3;obtain⟨jH,e2⟩:=DV b n2 _ e1;exact⟨jH,e2⟩
 ·intro b o e n;obtain⟨o1,e1⟩:=u.there b o e n;by_cases hb:b∈fH l
  ·obtain⟨jH,e2⟩:=DV b hb _ e1;exact⟨_,e2⟩
  ·exact⟨o1,kept b o1 e1 hb (.inr ⟨o,e⟩)⟩
 ·intro a o e;exact (ok a o e).V5 (λb u hb q=>by
   have jq:∃v,H' b=some v:=by
    rcases hb with rfl|hb
    ·exact⟨o,e⟩
    ·exact⟨_,hb⟩
   obtain⟨v,hv⟩:=jq;exact kept b u q (lQ b v hv) (.inl (by rw [hv];simp))) (λb hb=>hb) (λb xs hb=>hb)
 ·intro b o e n q;have:∃o1,h.get? b=some o1:=by
   rcases q with q|⟨o0,q⟩
   ·obtain⟨v,hv⟩:=Option.ne_none_iff_exists'.mp q;exact(ok b v hv).get
   ·exact u.there b o0 q (by simp)
  obtain⟨o1,e1⟩:=this;have z:=hB b o1 e1 n q;rw[st b o1 z] at e;cases e;exact z
section
variable{s':Shared}
structure Lies(X:Cx)(H H':Hp)(s:Shared)(B:Heap)(ea C:Addr)(a0:Value)(s':Shared):Prop where
 os:s'.os=s.os
 bare:AllBare s'.gens
 un:Un (fH X.stack) [] H H' s.heap s'.heap
 bR:fN X.prog X.w H' s'.heap
 qc:∀b o,s'.heap.get? b=some o->b∉fH X.stack->(H' b≠none\/∃o0,s.heap.get? b=some o0)->B.get? b=some o
theorem Lies.inv{H':Hp}{B:Heap}{ea C:Addr}{a0:Value}(I:Inv X pins Z H s)(l:Lies X H H' s B ea C a0 s'):Inv X pins Z H' s':=I.Bc (ch:=[]) l.os l.un l.bR l.bare (by simp)
theorem leave_held{H':Hp}{B:Heap}{ea C:Addr}{a0:Value}{Ex:Value->Shared->Prop}(I:Inv X pins Z H s)(l:Lies X H H' s B ea C a0 s')(hh:Heap.HeldW B X.stack ea (.ref C) a0 X.env.locals s'.heap)(dP:X.stack=X.env::X.outer)(hex:X.ex=[])(hf:X.env.frame=some X.env.locals)(hE:E (.ref C) none H'):wpAny (model X.prog X.w) X.A (leaving X.env (.ref ea)) (λ_ lR=>ig X.prog X.w X.outer X.ir X.df E (.ref ea) lR) Ex s':=by
 have J:=l.inv I;have yx:=hh;rw[dP] at yx;unfold leaving;refine ae (wpAny_noteFrame_againW hf yx.2.2.2 ?_);refine wpAny_landsW yx λlJ fl us=>?_;obtain⟨k1,k2,⟨_,_,k3⟩,k4⟩:=fl;refine Be J dP hex hf (λb o e n q=>l.qc b o e n (q.imp id λ⟨o0,q⟩=>I.base.there b o0 q (by rw[hex];simp))) (λb hb o e=>?_) ⟨k1,k2,k3,k4⟩ hE;obtain⟨o1,e1,nf⟩:=wM J hb;rw[e] at e1;cases e1;exact us b o e nf
end
def wq(X:Cx)(Ξ:XK):Prop:=∀(pins:List (Addr×Obj)) (Z:St) (H:Hp) (s:Shared) (h':Heap) (ea C:Addr) (vs:List Value),Inv X pins Z H s->Heap.MadeExcOf s.heap h' ea (.ref C) vs->Ξ (.ref C) none H->X.xe (.ref ea) { s with heap:=h' }
def uk(X:Cx)(Ξ:XK):Prop:=∀(pins:List (Addr×Obj)) (Z:St) (H H':Hp) (s s':Shared) (B:Heap) (ea C:Addr) (a0:Value),Inv X pins Z H s->Lies X H H' s B ea C a0 s'->Heap.HeldW B X.stack ea (.ref C) a0 X.env.locals s'.heap->Ξ (.ref C) none H'->X.xe (.ref ea) s'
def Ot(C:Addr)(Ξ:XK)(t:TA):TS:=λ_ Z H=>t Z H λvs H1=>vs.length<=sizeLine/\Ξ (.ref C) none H1
theorem YT{x:Str}{C:Addr}{B newId fW:String}{bm:List Value}{np dY pos:Pos}{iR:Expr}{rest:List Expr}{t:TA}{Ξ:XK}(hc:X.calm=true)(O:OwnCls x C bm newId X.mg X.base)(FB:ExcBaseFacts B newId fW bm)(hg:Gl X x)(ha:PA X (iR::rest) t)(hr:wq X Ξ)(he:starEach (iR::rest) X.env=(false,eval iR X.env)::starEach rest X.env)(eV:(backTo dY (starEach rest X.env)).any (·.1)=false)(hd:(x==("__debug__":Str))=false) :
  PS X (.Raise (some (.Call (.Name x np) (iR::rest) [] dY)) none pos) (Ot C Ξ t):=by
 intro pins s Z H D I h;obtain⟨tl,N,nm,q,bs,hdct,sn,sub,ab,col,dd,k0,k1,k2,k3,k5,mN,hC,hN,vg,T⟩:=O.obj;refine wpAny_Raise_call_subT (C:=C) (nm:=nm) (q:=q) (N:=N) (bs:=bs) (bm:=tl) (hdct:=hdct) (sn:=sn) (sub:=sub) (ab:=ab) (col:=col) (dd:=dd) (k0:=k0) (k1:=k1) (k2:=k2) (k3:=k3) (k5:=k5)
  FB (mN:=mN) (T.hasType FB.hasBase) (I.ok.hd hc) (by rw[he];show(false||(backTo dY (starEach rest X.env)).any (·.1))=false;rw[eV];rfl) vg (R7 I hg O.bound ⟨rfl,?_⟩ hd)
 have h':=ha dY pins s Z H _ I h;rw[he] at h' ⊢;refine Calls.evalArgs_plain (bA h' (λvs fP gZ=>?_) λ_ _ y=>y);obtain⟨ws,H1,I1,rv,hz,hE⟩:=gZ;exact⟨rfl,by rw[<- rv.length];exact hz,I1.bk _ _ hC,hN.keeps I1.bk,T.keeps I1.bk,λh2 ea hm=>hr pins Z H1 fP h2 ea C vs I1 hm hE⟩
def U2(X:Cx)(pins:List (Addr×Obj))(xe:Value->Shared->Prop):Cx:={ X with pn:=X.pn++pins,xe:=xe }
def E5(X:Cx)(ea:Addr):Cx:={ X with A:=X.A.mark (some (.ref ea)),calm:=false,xe:=λ_ _=>False }
theorem Inv.UT{xe:Value->Shared->Prop}(I:Inv X pins Z H s):Inv (U2 X pins xe) [] Z H s :=
 ⟨⟨I.ok.mod,I.ok.kind,I.ok.glob,I.ok.blt,I.ok.above,I.ok.inj,I.ok.has,I.ok.nF,I.ok.hd,I.ok.frames,I.ok.nS,I.ok.tL,I.ok.bs,I.ok.lr,I.ok.ja,I.ok.jF,I.ok.K4,I.ok.lK⟩,I.os,I.bare,I.base,I.loc,I.cell,I.free,I.eJ,
  λp hp=>I.pin p (by simpa [U2] using hp),I.bR,I.len⟩
theorem Inv.Z9{xe:Value->Shared->Prop}{gS:List (Addr×Obj)}(I:Inv (U2 X pins xe) gS Z H s):Inv X pins Z H s :=
 ⟨⟨I.ok.mod,I.ok.kind,I.ok.glob,I.ok.blt,I.ok.above,I.ok.inj,I.ok.has,I.ok.nF,I.ok.hd,I.ok.frames,I.ok.nS,I.ok.tL,I.ok.bs,I.ok.lr,I.ok.ja,I.ok.jF,I.ok.K4,I.ok.lK⟩,I.os,I.bare,I.base,I.loc,I.cell,I.free,I.eJ,
  λp hp=>I.pin p (cZ _ hp),I.bR,I.len⟩
theorem Inv.Hb{ea:Addr}(I:Inv X pins Z H s):Inv (E5 X ea) pins Z H s :=
 ⟨⟨I.ok.mod,I.ok.kind,I.ok.glob,I.ok.blt,I.ok.above,I.ok.inj,I.ok.has,I.ok.nF,λz=>(by cases z),I.ok.frames,I.ok.nS,I.ok.tL,I.ok.bs,I.ok.lr,I.ok.ja,I.ok.jF,I.ok.K4,I.ok.lK⟩,I.os,I.bare,I.base,I.loc,I.cell,I.free,I.eJ,I.pin,I.bR,I.len⟩
theorem Inv.X9{ea:Addr}(J:X.Ok)(I:Inv (E5 X ea) pins Z H s):Inv X pins Z H s :=
 ⟨J,I.os,I.bare,I.base,I.loc,I.cell,I.free,I.eJ,I.pin,I.bR,I.len⟩
theorem SP.Z9{xe:Value->Shared->Prop}{D:Ends}{f:Flow}(h:SP (U2 X pins xe) [] D f s):SP X pins D f s:=by
 cases f with
 |next=>obtain⟨a,b,I,q⟩:=h;exact⟨a,b,I.Z9,q⟩
 |brk=>obtain⟨a,b,I,q⟩:=h;exact⟨a,b,I.Z9,q⟩
 |cont=>obtain⟨a,b,I,q⟩:=h;exact⟨a,b,I.Z9,q⟩
 |ret u=>obtain⟨v,a,b,I,r,q⟩:=h;exact⟨v,a,b,I.Z9,r,q⟩
theorem SP.X9{ea:Addr}{D:Ends}{f:Flow}(J:X.Ok)(h:SP (E5 X ea) pins D f s):SP X pins D f s:=by
 cases f with
 |next=>obtain⟨a,b,I,q⟩:=h;exact⟨a,b,I.X9 J,q⟩
 |brk=>obtain⟨a,b,I,q⟩:=h;exact⟨a,b,I.X9 J,q⟩
 |cont=>obtain⟨a,b,I,q⟩:=h;exact⟨a,b,I.X9 J,q⟩
 |ret u=>obtain⟨v,a,b,I,r,q⟩:=h;exact⟨v,a,b,I.X9 J,r,q⟩
def pM(X:Cx)(D:Ends)(C:Addr)(H:Hp):List ExceptHandler->Prop
 |.ExceptHandler (some (.Name x _)) none (tX::mM) _::rest=>Gl X x/\(x==("__debug__":Str))=false/\∃C' b,X.mg x=some (.ref C')/\PySem.W.exmOne X.K (.ref C) (.ref C')=some b /\
   (if b=true then ∃t:TS,(∀ea,ic (E5 X ea) (tX::mM) t)/\t D (List.replicate X.N.length none) H else pM X D C H rest)
 |[]=>∃Ξ:XK,uk X Ξ/\Ξ (.ref C) none H
 |_=>False
end
end L2

namespace L2
open PySem PySem.Spec PyProof.Rows
section
variable{X:Cx}{pins:List (Addr×Obj)}{Z:St}{H H':Hp}{s s':Shared}{e:Value}{D:Ends}
def qR(X:Cx)(pins:List (Addr×Obj))(D:Ends)(hs:List ExceptHandler):Value->Shared->Prop:=λe cj =>
 wpAny (model X.prog X.w) X.A (noteFrame e X.env) (λ_ fP=>wpAny (model X.prog X.w) X.A (setFlight e none) (λ_ fe=>wpAny (model X.prog X.w) X.A (handleBy e X.env hs) (SP X pins D) X.xe fe) X.xe fP) X.xe cj
theorem Lies.step{B h1:Heap}{ea C:Addr}{a0:Value}(I:Inv X pins Z H s)(l:Lies X H H' s B ea C a0 s')(st:B.StaysIn h1)(us:s'.heap.UpToSlots h1):Lies X H H' s B ea C a0 { s' with heap:=h1 }:=by
 have J:=l.inv I;obtain⟨u,ok,ib⟩:=Zx l.un l.bR l.qc st us λb hb=>⟨J.wJ b hb,wM J hb⟩
 exact⟨l.os,l.bare,u,ok,ib⟩
theorem XU{s:Shared}{B:Heap}{l:List Env}{ea L:Addr}{cls a0:Value}{A:Around}{M:Model}{E:Value->Shared->Prop}{Q:Unit->Shared->Prop}(fw:Heap.FlyingW B l ea cls a0 s.heap)(h:∀h',Heap.HeldW B l ea cls a0 L h'->(∀b o,s.heap.get? b=some o->(∀vs,o.data≠.fields vs)->h'.get? b=some o)->Q () { s with heap:=h' }):wpAny M A (setFlight (.ref ea) (some L)) Q E s:=by
 obtain⟨f1,f2,f3,oe,vs,T,oT,ts,he,mh,hd,h1,Dn,DJ,hT,vj,h3⟩:=fw;have si:3<ts.size:=(Array.getElem?_eq_some_iff.mp h3).1;have other:∀b,b≠T->(s.heap.update T (Obj.mapFields (·.setIfInBounds 3 ((some L).elim Value.none λf=>rawInt f)))).get? b=s.heap.get? b :=
  λb hb=>cV _ _ (bP hb)
 have jb:∀b o,s.heap.get? b=some o->(∀vs,o.data≠.fields vs)->b≠T:=λb o hb sA q=>by
  rw[q,hT] at hb;injection hb with hb;subst hb;exact sA ts vj
 unfold setFlight;refine ae (wpAny_field he hd h1 ?_);rw[aK (show(Value.ref T != Value.none)=true from by simp)];refine dI hT vj si (h _ ⟨λb o yC=>(other b λq=>by rw [q,Dn] at yC;cases yC).trans (f1 b o yC),f2,
  f3.of_keeps λb o hb sA=>⟨o,(other b (jb b o hb sA)).trans hb,rfl⟩,?_⟩ λb o hb sA=>(other b (jb b o hb sA)).trans hb)
 exact⟨oe,vs,T,_,_,(other ea (bP DJ)).trans he,mh,hd,h1,Dn,DJ,bu _ hT (de (bB vj _)),bB vj _,by simp[si]⟩
theorem Fx{B:Heap}{ea C:Addr}{a0:Value}(hf:X.env.frame=some X.env.locals):∀(hs:List ExceptHandler) (s':Shared),Inv X pins Z H s->Lies X H H' s B ea C a0 s'->Heap.FlyingW B X.stack ea (.ref C) a0 s'.heap->pM X D C H' hs ->
  wpAny (model X.prog X.w) X.A (handleBy (.ref ea) X.env hs) (SP X pins D) X.xe s'
 |[],s',I,l,fw,t=>by
  obtain⟨Ξ,hh,hE⟩:=t;refine wpAny_handleBy_nil ?_;unfold PySem.passOn;obtain⟨f1,f2,f3,oe,vs,T,oT,ts,he,mh,hd,h1,_⟩:=id fw;refine ae (wpAny_field he hd h1 ?_);rw[aC (by simp),hf];refine ae (XU fw λh2 held k=>wpAny_throw ?_);have l2:=l.step I held.1 (λb o hb hn=>⟨o.slots,k b o hb hn⟩);exact hh pins Z H H' s _ B ea C a0 I l2 held hE
 |.ExceptHandler none _ _ _::_,_,_,_,_,t=>t.elim
 |.ExceptHandler (some e) nm bd pos::rest,s',I,l,fw,t=>by
  cases e
  case Name x np =>
   cases nm with
   |some y=>exact t.elim
   |none =>
    cases bd with
    |nil=>exact t.elim
    |cons tX mM =>
     obtain⟨hg,gQ,C',b,hm,hx,q⟩:=t;have J:=l.inv I;have JM:Inv (E5 X ea) pins Z H' s':=J.Hb;have LT:PySem.W.Looks (model X.prog X.w) s'.heap (typeOf (.ref ea)) (.ref C):=λA Q E s2 k q=>by
      obtain⟨ob,ho,hc⟩:=fw.there;exact wpAny_typeOf_ref (k _ _ ho) (by rw[hc];exact q)
     refine wpAny_handleBy_cons (codeAny_handlers_test ?_) (by intro z;cases z);refine R7 (X:=E5 X ea) JM hg hm ?_ gQ;refine(PySem.W.exm_one (M:=model X.prog X.w) J.fV LT hx).here ?_;cases b with
     |false =>
      simp only[Bool.false_eq_true,if_false] at q;exact Fx hf rest s' I l fw q
     |true =>
      simp only[if_true] at q;obtain⟨t,ht,hq⟩:=q;refine codeAny_handlers_suite ?_;refine wpAny_setFlight_noneW fw.1 fw.2.2.1 fw.2.2.2.at λh2 k1 k2 k3 k4=>?_;have l2:=l.step I k1 (λb o hb hn=>⟨o.slots,k4 b o hb hn⟩);have J2:=l2.inv I;have J3:Inv (E5 X ea) pins (List.replicate X.N.length none) H' { s' with heap:=h2 }:=(J2.weak (by rw [List.length_replicate,J2.len]) λi v z=>by
       rw [dn] at z;split at z <;> cases z).Hb
      refine bA (ht ea pins _ _ H' D J3 hq) (λf s2 hf=>hf.X9 I.ok) λ_ _ z=>z.elim
  all_goals exact t.elim
theorem YG{hs:List ExceptHandler}{Ξ:XK}(dP:X.stack=X.env::X.outer)(hf:X.env.frame=some X.env.locals)(hT:∀C H',Ξ (.ref C) none H'->pM X D C H' hs) :
  Passes (ig X.prog X.w) (U2 X pins (qR X pins D hs)) Ξ:=by
 intro gS Z H s e s' I0 h;have I:Inv X pins Z H s:=I0.Z9;obtain⟨C,H',ho,hb,hu,bR,⟨ea,a0,B,rfl,fw,hB⟩,hE⟩:=h;have l:Lies X H H' s B ea C a0 s':=⟨ho,hb,hu,bR,hB⟩
 have fw:Heap.FlyingW B X.stack ea (.ref C) a0 s'.heap:=fw;show qR X pins D hs (.ref ea) s';unfold qR;have vz:=fw;rw[dP] at vz;refine wpAny_looks_onW (by rw[I.ok.frames,dP]) hf vz λh1 held us=>?_;have l1:=l.step I held.1 us;refine wpAny_landsW held λh2 fl IY=>?_;have l2:=l1.step I fl.1 IY;rw[<- dP] at fl;exact Fx hf hs _ I l2 fl (hT C H' hE)
theorem NA{hs:List ExceptHandler}{h₀:ExceptHandler}{body:List Stmt}{pos:Pos}{t:Ends->TS}{Ξ:Ends->XK}(dP:X.stack=X.env::X.outer)(hf:X.env.frame=some X.env.locals)(hb:∀pins D,(∀C H',Ξ D (.ref C) none H'->pM X D C H' (h₀::hs))->ic (U2 X pins (qR X pins D (h₀::hs))) body (t D)) :
  PS X (.Try body (h₀::hs) [] [] pos) (λD Z H=>(∀C H',Ξ D (.ref C) none H'->pM X D C H' (h₀::hs))/\t D D Z H):=by
 intro pins s Z H D I ⟨hT,h⟩;refine wpAny_Try_except (bA (hb pins D hT [] s Z H D I.UT h) (λf s1 q=>?_) λe s1 q=>q);have q:=q.Z9;cases f with
 |next =>
  obtain⟨bU,H',I',q⟩:=q;exact cF (wpAny_execs_nil ⟨bU,H',I',q⟩) λ_ _ z=>z
 |brk=>exact q
 |cont=>exact q
 |ret u=>exact q
end
end L2

namespace L2
open PySem PySem.Spec PyProof.Rows
section
variable{M:Model}{A:Around}{E:Value->Shared->Prop}{env:Env}{s:Shared}
end
end L2

namespace L2
open PySem PySem.Spec PyProof.Rows
section
variable{X:Cx}{pins:List (Addr×Obj)}{Z:St}{H H':Hp}{s s':Shared}
end
end L2

namespace L2
open PySem PySem.Spec PyProof.Rows
def Cc(K:PySem.W.Frag)(a:Addr):It :=
 ⟨λi H=>∃xs x,fo K H a xs/\xs[i]?=some x,λi H v H'=>∃p x,H p=none/\v=.ref p/\(∀xs,fo K H a xs->xs[i]?=some x)/\H'=upd H p (.tup [.int i,x]),λi H=>∃xs,fo K H a xs/\xs.length<=i⟩
theorem WK{P:Program}{w:World}{K:PySem.W.Frag}{elts:List Expr}{x1:Nat}{tp:Pos}(a e it:Addr)(DB:e≠it):Turn P w K (.Tuple elts x1 tp) (Cc K a) [e,it] e (λi h=>(∃old,IsEnum h e it i old)/\h.IsListIter it a i) where
 mem:=by simp
 obj:=λi h st b hb=>by
  obtain⟨⟨old,h1⟩,o,h2,c,d⟩:=st;rcases aL.mp hb with z|z
  ·subst z;exact ⟨_,h1,λv z=>by
    have z':Data.fields _=Data.cell v:=z;cases z'⟩
  ·have z:b=it:=by simpa using z
   subst z;exact⟨o,h2,λv z=>by rw[d] at z;cases z⟩
 keep:=λi h h' st k=>by
  obtain⟨⟨old,h1⟩,h2⟩:=st;exact⟨⟨old,k e (by simp) _ h1⟩,h2.at λo x=>k it (by simp) o x⟩
 item:=by
  intro X hP hw hK hc i pins s Z H E I hf st hg;subst hP hw hK;obtain⟨⟨old,h1⟩,h2⟩:=st;obtain⟨xs,x,hq,hx⟩:=hg;obtain⟨aW,rv,p,hz⟩:=I.list hq;obtain⟨u,hu,ru⟩:=rv.get hx;obtain⟨e0,e1,e2,e3,e4,e5⟩:=hf e (by simp);obtain⟨f0,f1,f2,f3,f4,f5⟩:=hf it (by simp);refine wpAny_pyNext_enum_item h1 h2 p.isList (x:=u) (by simpa using hu) DB λh' nk yq ow ou lH=>?_;refine⟨_,rfl,wpAny_letOwnedTupleGo_enum nk λtB Kw ia=>?_⟩;have ia:Heap.SameBut e h' tB:=ia;have elt:e<s.heap.objs.size:=aD h1;have kp:∀b o,b≠e->b≠it->s.heap.get? b=some o->tB.get? b=some o:=λb o b1 b2 q=>(ia.2 b b1).trans (lH b o b1 b2 q);have hn:H s.heap.objs.size=none:=I.bR.fresh (aw _);have xr:tB.get? s.heap.objs.size=some { cls:=.type "tuple",data:=.seq #[.int i s.toks,u] }:=(ia.2 _ (bZ elt)).trans ow;have ne:∀b u',H b=some u'->b≠e/\b≠it:=λb u' q=>And.intro (λ(z:b=e)=>by rw[z,e0] at q;cases q) (λ(z:b=it)=>by rw[z,f0] at q;cases q);have bR:fN X.prog X.w (upd H s.heap.objs.size (.tup [.int i,x])) tB:=λb o q=>by
   by_cases hb:b=s.heap.objs.size
   ·subst hb;rw[u3] at q;cases q;exact⟨by show 2<=sizeLine;decide,[.int i s.toks,u],.cons ⟨_,rfl⟩ (.cons ru .nil),_,xr,rfl,⟨_,rfl⟩,rfl⟩
   ·rw[d8 hb] at q;refine(I.bR b o q).V5 (λc v hc q'=>?_) (λc q'=>by rw[d8 (l9 q' hn)];exact q') λc ys q'=>by rw[d8 (l9 q' hn)];exact q'
    rcases hc with z|z
    ·subst z;exact kp _ _ (ne _ _ q).1 (ne _ _ q).2 q'
    ·exact kp _ _ (ne _ _ z).1 (ne _ _ z).2 q'
  have I2:Inv X pins Z (upd H s.heap.objs.size (.tup [.int i,x])) { s with heap:=tB,toks:=s.toks+1 }:=by
   refine I.step (g':=s.gens) (d':=s.drawn) (t':=s.toks+1) (ch:=[e,it]) (λb hb=>?_) (λb o _ _ hb q _=>kp b o (λz=>hb (by simp[z])) (λz=>hb (by simp[z])) q) (λb o _ _ hb q _=>⟨o.slots,kp b o (λz=>hb (by simp[z])) (λz=>hb (by simp[z])) q⟩)
    (λb o _ q n=>by rw[d8 (aR (aD q))];exact n) (λb o hb q=>⟨o,kp b o (λz=>hb (by simp[z])) (λz=>hb (by simp[z])) q⟩)
    (λb ys q=>by rw[d8 (l9 q hn)];exact q) (λb o' ys q=>by rw[d8 (l9 q hn)];exact q) (λb ps q=>⟨#[],by rw[d8 (l9 q hn),q];simp⟩) (λm hm=>?_) bR I.bare
   ·rcases aL.mp hb with z|z
    ·subst z;exact⟨e3,e1,e4,e5⟩
    ·have z:b=it:=by simpa using z
     subst z;exact⟨f3,f1,f4,f5⟩
   ·obtain⟨o,es,ep,ho,r⟩:=hm;exact⟨o,es,ep,kp _ o (bP e1) (bP f1) ho,r⟩
  refine⟨.ref s.heap.objs.size,_,I2,rfl,⟨s.heap.objs.size,x,hn,rfl,λys hy=>by rw[I.Ap hy hq];exact hx,rfl⟩,⟨⟨u,by simpa using Kw⟩,yq.at λo y=>(ia.2 it DB.symm).trans y⟩,λb hb=>?_⟩;have jq:b<s.heap.objs.size:=by
   rcases aL.mp hb with z|z
   ·subst z;exact elt
   ·have z:b=it:=by simpa using z
    subst z;obtain⟨o,h2,_⟩:=h2;exact aD h2
  rw[d8 (aR jq)];exact(hf b hb).1
 done:=by
  intro X hP hw hK hc i pins s Z H E I hf st hg;subst hP hw hK;obtain⟨⟨old,h1⟩,h2⟩:=st;obtain⟨xs,hq,hx⟩:=hg;obtain⟨aW,rv,p,hz⟩:=I.list hq;obtain⟨f0,f1,f2,f3,f4,f5⟩:=hf it (by simp);have hl:=rv.length;exact wpAny_pyNext_enum_end (I.ok.hd hc) h1 h2 p.isList (by simp;omega) λh' eb=>⟨rfl,I.turned (t':=s.toks) (λb o hb e=>eb b o hb e) f0 f1 f3 f4 f5⟩
 self:=λ_ _ _ _ _ st h=>by
  obtain⟨⟨old,h1⟩,h2⟩:=st;exact wpAny_pyIter_enum h1 h
section
variable{X:Cx}
theorem PN{l:Expr}{ta:TA}{p pos tp:Pos}{elts:List Expr}{x1:Nat}(hg:Gl X "enumerate")(hm:X.mg "enumerate"=none)(ha:PA X [l] ta)(hs:starEach [l] X.env=[(false,eval l X.env)]) :
  PI X (.Tuple elts x1 tp) (.Call (.Name "enumerate" p) [l] [] pos) (λZ H R=>ta Z H λvs H1=>∃a,vs=[.ref a]/\(∃xs,fo X.K H1 a xs)/\R (Cc X.K a) H1):=by
 intro pins s Z H R I h;refine Call_ (L8 I hg hm PyProof.Rows.boot_enumerate (bO (cF (ha pos pins s Z H _ I h) λus s1 bq=>?_) hs rfl));obtain⟨vs,H1,I1,r1,q1⟩:=bq;obtain⟨a,e,⟨xs,hq⟩,q⟩:=q1;subst e;cases r1 with
 |cons r rr =>
  cases rr;cases r;obtain⟨aW,rv,p,hz⟩:=I1.list hq;refine call_enumerate_list p.isList λh' he hit hsz hk=>wpAny_pyIter_enum he ?_;refine⟨s1.heap.objs.size+1,[s1.heap.objs.size+1,s1.heap.objs.size],_,_,H1,rfl,I1.kept (t':=s1.toks) hk,WK a _ _ (by simp),⟨⟨_,he⟩,hit⟩,λb hb=>?_,q⟩;have jq:s1.heap.objs.size<=b:=by
   rcases aL.mp hb with z|z
   ·rw[z];exact Nat.le_succ _
   ·have z:b=s1.heap.objs.size:=by simpa using z
    rw[z];exact aw _
  exact I1.nH jq (I1.bR.fresh jq)
theorem Ul{e:Expr}{t:TE}{pos:Pos}(he:PE X e t):PE X (.FormattedValue e (-1) none pos) (λZ H Q=>t Z H λx H1=>(∃i,x=.int i/\i.natAbs.log2<1920/\Q (.str (toString i)) H1)\/∃y,x=.str y/\y.length<=sizeLine/\Q (.str y) H1):=by
 intro pins s Z H Q I h;refine wpAny_FormattedValue_plain (cF (he pins s Z H _ I h) λv s1 bq=>?_);obtain⟨x,H1,I1,r1,q1⟩:=bq;rcases q1 with⟨i,rfl,hd,q⟩|⟨y,rfl,hy,q⟩
 ·obtain⟨t,rfl⟩:=r1;exact wpAny_formatField_int hd ⟨.str _,H1,I1.tok _,⟨_,rfl⟩,q⟩
 ·obtain⟨t,rfl⟩:=r1;exact wpAny_formatField_str ⟨.str _,H1,I1,⟨_,rfl⟩,q⟩ ⟨.str _,H1,I1.tok _,⟨_,rfl⟩,q⟩ hy
inductive qS(X:Cx):List Expr->List TE->Prop
 |nil:qS X [] []
 |cons {e:Expr} {t:TE} {es:List Expr} {ts:List TE} (h:PE X e t) (r:qS X es ts):qS X (e::es) (t::ts)
def vR:List TE->St->Hp->Str->(Str->Hp->Prop)->Prop
 |[],_,H,acc,Q=>Q acc H
 |t::ts,Z,H,acc,Q=>t Z H λx H1=>∃y,x=.str y/\(acc++y).length<=sizeLine/\vR ts Z H1 (acc++y) Q
theorem HY{pins:List (Addr×Obj)}{Z:St}{Q:Str->Hp->Prop}:∀{es:List Expr} {ts:List TE},qS X es ts->∀{s:Shared} {H:Hp} {acc:Str},Inv X pins Z H s->vR ts Z H acc Q ->
  Joins (model X.prog X.w) X.A X.xe (evalEach es X.env) acc (λout s1=>∃H1,Inv X pins Z H1 s1/\Q out H1) s
 |_,_,.nil,s,H,acc,I,h=>⟨H,I,h⟩
 |_,_,.cons he r,s,H,acc,I,h=>by
  rw[arm_evalEach_cons];refine cF (he pins s Z H _ I h) λv s1 bq=>?_;obtain⟨x,H1,I1,r1,y,ey,hy,q1⟩:=bq;subst ey;obtain⟨t,rfl⟩:=r1;exact⟨y,t,rfl,hy,HY r I1 q1⟩
theorem FO{M:Model}{A:Around}{E:Value->Shared->Prop}{Q Q':Str->Shared->Prop}(hq:∀x s,Q x s->Q' x s):∀{l:List (Sem Value)} {acc:Str} {s:Shared},Joins M A E l acc Q s->Joins M A E l acc Q' s
 |[],acc,s,h=>hq _ _ h
 |x::r,acc,s,h=>cF h λv s1 ⟨y,t,e,hz,h1⟩=>⟨y,t,e,hz,FO hq h1⟩
theorem PH{jS jR:Expr}{rest:List Expr}{ts:List TE}{pos:Pos}(h:qS X (jS::jR::rest) ts):PE X (.JoinedStr (jS::jR::rest) pos) (λZ H Q=>vR ts Z H Str.empty λout H1=>out.length<=sizeLine/\Q (.str out) H1):=by
 intro pins s Z H Q I hw;refine wpAny_JoinedStr (FO (λx s1 ⟨H1,I1,hl,q⟩=>⟨hl,.str x,H1,I1.tok _,⟨_,rfl⟩,q⟩) (HY h I hw))
theorem Xd{lo:Int}{acc:Array Value}{n:Nat}(h:ItemsOf (λi v=>∃t,v=.int (lo+i*1) t) acc n):Vals ((List.range n).map λ(k:Nat)=>V.int (lo+k)) acc.toList:=by
 have hl:acc.toList.length=n:=by
  have:=h.1;simpa using this
 have go:∀(m:Nat) (l:List Value),l.length<=n->m+l.length=n->(∀i v,l[i]?=some v->∃t,v=Value.int (lo+((m+i:Nat):Int)) t)->Vals ((List.range' m l.length).map λ(k:Nat)=>V.int (lo+k)) l:=by
  intro m l
  induction l generalizing m with
  |nil=>intro _ _ _;exact .nil
  |cons x r ih =>
   intro h1 h2 h3;simp only[List.length_cons,List.range'_succ,List.map_cons];refine .cons ?_ (ih (m+1) (by simp at h1;omega) (by simp at h2;omega) λi v hv=>?_)
   ·obtain⟨t,e⟩:=h3 0 x rfl;exact⟨t,by rw[e];simp⟩
   ·obtain⟨t,e⟩:=h3 (i+1) v (by simpa using hv);exact⟨t,by rw[e,show m+(i+1)=m+1+i by omega]⟩
 have:=go 0 acc.toList (by omega) (by omega) λi v hv=>?_
 ·rw[hl,<- List.range_eq_range'] at this;exact this
 ·have hi:i<n:=by
   have:=(ak.mp hv).1;omega
  have:acc[i]?=some v:=by rw[<- Array.getElem?_toList];exact hv
  obtain⟨t,e⟩:=h.2 i v this;refine⟨t,?_⟩;rw[e];simp
theorem GH(hc:X.calm=true):m5 X (.type "list") (λxs H Q=>∃a lo hi,xs=[.ref a]/\H a=some (.ki lo hi)/\(-(2 ^ 62)<=lo/\lo<2 ^ 62/\-(2 ^ 62)<=hi/\hi<2 ^ 62/\hi-lo<=100000)/\∀p,H p=none->Q (.ref p) (upd H p (.lst ((List.range (hi-lo).toNat).map λ(k:Nat)=>V.int (lo+k))))):=by
 intro pins s Z H xs us Q I r h;obtain⟨a,lo,hi,rfl,ha,⟨h1,h2,h3,h4,h5⟩,q⟩:=h;obtain⟨t,u,v,ho⟩:=I.bR a _ ha;cases r with
 |cons r rr =>
 cases rr;cases r;have hn:Builtin.Range.rangeSize lo hi 1=((hi-lo).toNat:Nat):=by rw[rangeSize_one];split<;>omega
 refine call_list_range (n:=(hi-lo).toNat) (I.ok.hd hc) ho (small_one h1 h2 h3 h4) hn (by omega) λh' kx acc c hk hS gP=>?_;have hp:H s.heap.objs.size=none:=I.bR.fresh (aw _);refine⟨.ref _,_,I.laid (a:=s.heap.objs.size) (o:=.lst ((List.range (hi-lo).toNat).map λ(k:Nat)=>V.int (lo+k))) (t':=kx) hk (aw _) ⟨?_,acc.toList,c,Xd gP,by simpa using hS⟩,rfl,q _ hp⟩;rw[ao,List.length_range];have:(hi-lo).toNat<=100000:=by omega
 exact aG this (by decide)
theorem Wm{a:Expr}{ta:TA}{p pos:Pos}(hg:Gl X "range")(hm:X.mg "range"=none)(ha:PA X [a] ta)(hs:starEach [a] X.env=[(false,eval a X.env)]):PE X (.Call (.Name "range" p) [a] [] pos) (λZ H Q=>ta Z H λvs H1=>∃j:Int,vs=[.int j]/\∀q,H1 q=none->Q (.ref q) (upd H1 q (.ki 0 j))):=by
 intro pins s Z H Q I h;refine cY (L8 I hg hm boot_range (bO (cF (ha pos pins s Z H _ I h) λus s1 bq=>?_) hs rfl));obtain⟨vs,H1,I1,r1,q1⟩:=bq;obtain⟨j,e,q⟩:=q1;subst e;cases r1 with
 |cons r rr =>
  cases rr;obtain⟨t,rfl⟩:=r;exact call_range_1 ⟨.ref s1.heap.objs.size,_,I1.laid (a:=s1.heap.objs.size) (o:=.ki 0 j) (λb o e=>au _ e) (aw _) ⟨_,_,_,aH _ rfl⟩,rfl,q _ (I1.bR.fresh (aw _))⟩
theorem Wn{a b:Expr}{ta:TA}{p pos:Pos}(hg:Gl X "range")(hm:X.mg "range"=none)(ha:PA X [a,b] ta)(hs:starEach [a,b] X.env=[(false,eval a X.env),(false,eval b X.env)])(ia:starEach [b] X.env=[(false,eval b X.env)]):PE X (.Call (.Name "range" p) [a,b] [] pos) (λZ H Q=>ta Z H λvs H1=>∃i j:Int,vs=[.int i,.int j]/\∀q,H1 q=none->Q (.ref q) (upd H1 q (.ki i j))):=by
 intro pins s Z H Q I h;refine cY (L8 I hg hm boot_range (bO (cF (ha pos pins s Z H _ I h) λus s1 bq=>?_) (by rw[hs,ia]) (by rw[ia];rfl)));obtain⟨vs,H1,I1,r1,q1⟩:=bq;obtain⟨i,j,e,q⟩:=q1;subst e;cases r1 with
 |cons r rr =>
  cases rr with
  |cons r' rr =>
   cases rr;obtain⟨t,rfl⟩:=r;obtain⟨t',rfl⟩:=r';exact call_range_2 ⟨.ref s1.heap.objs.size,_,I1.laid (a:=s1.heap.objs.size) (o:=.ki i j) (λb o e=>au _ e) (aw _) ⟨_,_,_,aH _ rfl⟩,rfl,q _ (I1.bR.fresh (aw _))⟩
def ub(K:PySem.W.Frag)(P:Params)(a:Addr)(kvs:List (Str×V)):Prop :=
 ∃es n,K.lookup a=some ⟨.type "dict",none,.dict es n,#[]⟩/\PySem.W.KeysLit P es.toList/\(a==sysModules)=false/\∀x,F8 (kvs.lookup x) (findBy Value.isStrOf es x)
theorem GO{kvs:List (Str×V)}(neg:Bool):ft X (compareOp (if neg then .NotIn else .In)) (λx y H Q=>∃a z,y=.ref a/\ub X.K X.w.params a kvs/\x=.str z/\Q (.bl (xor neg (kvs.lookup z).isSome)) H):=by
 intro pins s Z H x y v u Q I rx ry h;obtain⟨a,z,rfl,⟨es,n,hl,hk,lo,hf⟩,rfl,q⟩:=h;obtain⟨t,rfl⟩:=rx;cases ry;have hm:=PySem.W.mapOf_K (prog:=X.prog) (w:=X.w) I.fV hl hk;have e:=hf z;have ee:(findBy Value.isStrOf es z).isSome=(kvs.lookup z).isSome:=by
  cases h1:kvs.lookup z<;>cases h2:findBy Value.isStrOf es z<;>rw[h1,h2] at e<;>first|rfl|exact e.elim
 cases neg
 ·exact wpAny_in_of (strKind_is X.prog X.w z t) lo hm ⟨.bl _,H,I.tok _,by rw[ee];rfl,by simpa using q⟩
 ·exact wpAny_notIn_of (strKind_is X.prog X.w z t) lo hm ⟨.bl _,H,I.tok _,by rw[ee];rfl,by simpa using q⟩
theorem Tx{kvs:List (Str×V)}:pS X (λx y H Q=>∃a z v,x=.ref a/\ub X.K X.w.params a kvs/\y=.str z/\kvs.lookup z=some v/\Q v H):=by
 intro value slice pins s Z H x y v u Q I rx ry h hs;obtain⟨a,z,d,rfl,⟨es,n,hl,hk,lo,hf⟩,rfl,hz,q⟩:=h;cases rx;obtain⟨t,rfl⟩:=ry;have hm:=PySem.W.mapOf_K (prog:=X.prog) (w:=X.w) I.fV hl hk;have e:=hf z;rw[hz] at e;cases h2:findBy Value.isStrOf es z with
 |none=>rw[h2] at e;exact e.elim
 |some r =>
  rw[h2] at e;exact tail_any hm.typeIs slot_dict_getitem.lookup (wpAny_getItem_of (strKind_is X.prog X.w z t) hm h2 ⟨d,H,I.tok _,e,q⟩) hs
theorem Pb(hu:X.A.units+1<cLine):pS X (λx y H Q=>∃a v,x=.ref a/\P1 H a y (some v)/\Q v H):=by
 intro value slice pins s Z H x y v u Q I rx ry h hs;obtain⟨a,d,rfl,g,q⟩:=h;cases rx;exact tail_any (XR I g) slot_dict_getitem.lookup (ZR hu I g ry λw' s3 I3 fq=>⟨d,H,I3,fq,q⟩) hs
end
end L2

namespace ST
open PySem PyProof.Rows
noncomputable abbrev jr(xs:Array Nat):Prop:=xs.toList.Pairwise (· < ·)
theorem jr.lt{xs:Array Nat}(h:jr xs){i k:Nat}(sI:i<k)(hk:k<xs.size):xs.getD i 0<xs.getD k 0:=by
 have:=List.pairwise_iff_getElem.mp h i k (by simpa using cP sI hk) (by simpa using hk) sI;simp only[Array.getElem_toList] at this;rw[<- dO (h:=cP sI hk),<- dO (h:=hk)];exact this
theorem jr.le{xs:Array Nat}(h:jr xs){i k:Nat}(sI:i<=k)(hk:k<xs.size):xs.getD i 0<=xs.getD k 0:=by
 rcases Nat.eq_or_lt_of_le sI with e|e
 ·rw[e];exact aw _
 ·exact et (h.lt e hk)
theorem Aa{xs:Array Nat}{j:Nat}(h:jr xs):∀(fuel lo hi:Nat),hi-lo<=fuel->lo<=hi->hi<=xs.size->(∀i,i<lo->xs.getD i 0<j)->(∀i,hi<=i->i<xs.size->j<=xs.getD i 0) ->
  SetTable.below.go xs j fuel lo hi<=xs.size/\(∀i,i<SetTable.below.go xs j fuel lo hi->xs.getD i 0<j)/\∀i,SetTable.below.go xs j fuel lo hi<=i->i<xs.size->j<=xs.getD i 0
 |0,lo,hi,h1,h2,h3,h4,h5=>by
  unfold SetTable.below.go;have:lo=hi:=by omega
  subst this;exact⟨h3,h4,h5⟩
 |fuel+1,lo,hi,h1,h2,h3,h4,h5=>by
  unfold SetTable.below.go;split
  ·rename_i hl;have hm:(lo+hi) / 2<xs.size:=by omega
   have em:xs.getD ((lo+hi) / 2) j=xs.getD ((lo+hi) / 2) 0:=by simp[Array.getD,hm]
   dsimp only;rw[em];by_cases hc:xs.getD ((lo+hi) / 2) 0<j
   ·rw[aK hc];exact Aa h fuel _ hi (by omega) (by omega) h3 (λi gP=>dC (h.le (by omega) hm) hc) h5
   ·rw[aC hc];exact Aa h fuel lo _ (by omega) (by omega) (by omega) h4 λi gP hs=>aG (Nat.le_of_not_lt hc) (h.le gP hs)
  ·have:lo=hi:=by omega
   subst this;exact⟨h3,h4,h5⟩
theorem Q3{xs:Array Nat}(j:Nat)(h:jr xs):SetTable.below xs j<=xs.size/\(∀i,i<SetTable.below xs j->xs.getD i 0<j)/\∀i,SetTable.below xs j<=i->i<xs.size->j<=xs.getD i 0 :=
 Aa h _ 0 _ (by omega) (by omega) (aw _) (λi hi=>absurd hi (Nat.not_lt_zero _)) λi h1 h2=>absurd h2 (by omega)
theorem below_at{xs:Array Nat}(h:jr xs){i:Nat}(hi:i<xs.size):SetTable.below xs (xs.getD i 0)=i:=by
 obtain⟨h1,h2,h3⟩:=Q3 (xs.getD i 0) h;rcases dQ (SetTable.below xs (xs.getD i 0)) i with z|z|z
 ·exact absurd (h3 _ (aw _) (by omega)) (Nat.not_le_of_lt (h.lt z hi))
 ·exact z
 ·exact absurd (h2 i z) (bt _)
theorem WU{xs:Array Nat}(h:jr xs){i:Nat}(hi:i<xs.size):SetTable.below xs (xs.getD i 0+1)=i+1:=by
 obtain⟨h1,h2,h3⟩:=Q3 (xs.getD i 0+1) h;rcases dQ (SetTable.below xs (xs.getD i 0+1)) (i+1) with z|z|z
 ·have:=h3 i (by omega) hi;omega
 ·exact z
 ·have:=h2 (i+1) z;have:=h.lt (Nat.lt_succ_self i) (k:=i+1) (by omega);omega
theorem WV{xs:Array Nat}(h:jr xs):SetTable.below xs 0=0:=by
 obtain⟨_,h2,_⟩:=Q3 0 h;rcases Nat.eq_zero_or_pos (SetTable.below xs 0) with z|z
 ·exact z
 ·exact absurd (h2 0 z) (Nat.not_lt_zero _)
theorem getD_mem{xs:Array Nat}{i:Nat}(hi:i<xs.size):xs[i]?=some (xs.getD i 0):=by simp[Array.getD,hi]
theorem Xx{t:SetTable}{j:Nat}(h:jr t.place)(hs:t.slot j=.empty):j∉t.place.toList:=by
 intro hm;obtain⟨i,hi,e⟩:=bG.mp hm;have gP:i<t.place.size:=by simpa using hi
 have ej:t.place.getD i 0=j:=by rw[<- dO (h:=gP)];simpa using e
 have hb:=below_at h gP;rw[ej] at hb;unfold SetTable.slot at hs;dsimp only at hs;rw[hb,getD_mem gP,ej] at hs;simp at hs
theorem Xt{xs:Array Nat}{j:Nat}(h:jr xs)(hj:j∉xs.toList):jr (SetTable.insertAt xs (SetTable.below xs j) j):=by
 obtain⟨h1,h2,h3⟩:=Q3 j h;show(SetTable.insertAt xs (SetTable.below xs j) j).toList.Pairwise (· < ·);rw[SetTable.toList_insertAt,List.pairwise_append];have tk:∀a∈xs.toList.take (SetTable.below xs j),a<j:=λa ha=>by
  obtain⟨i,hi,e⟩:=bG.mp ha;rw[cR] at hi;rw[List.getElem_take] at e;have hs:i<xs.size:=by simp at hi;omega
  have:=h2 i (by omega);rw[<- dO (h:=hs)] at this;simp at e;omega
 have dp:∀b∈xs.toList.drop (SetTable.below xs j),j<b:=λb hb=>by
  obtain⟨i,hi,e⟩:=bG.mp hb;rw[List.length_drop] at hi;rw[List.getElem_drop] at e;have hs:SetTable.below xs j+i<xs.size:=by simp at hi;omega
  have:=h3 (SetTable.below xs j+i) (by omega) hs;rw[<- dO (h:=hs)] at this;have dH:b≠j:=λz=>hj (by rw[<- z];exact List.mem_of_mem_drop hb);simp at e;omega
 refine⟨h.take,List.pairwise_cons.mpr ⟨dp,h.drop⟩,λa ha b hb=>?_⟩;have jX:=tk a ha;rcases aL.mp hb with z|z
 ·omega
 ·have:=dp b z;omega
theorem Wx(n:Nat):jr (Array.range n):=by
 show(Array.range n).toList.Pairwise (· < ·);rw[Array.toList_range];exact List.pairwise_lt_range
structure Well(L:Bool)(t:SetTable):Prop where
 uW:jr t.place
 zx:t.dummies=#[]
 led:t.led=L
theorem YB{t:SetTable}(hd:t.dummies=#[])(j:Nat):t.slot j≠.dummy:=by
 unfold SetTable.slot;dsimp only;split
 ·intro z;cases z
 ·rw[hd];split
  ·rename_i z;simp[SetTable.has] at z
  ·intro z;cases z
theorem Gz{t:SetTable}(hd:t.dummies=#[]){hashAt:Nat->Int}{h:Int}:∀(fuel:Nat) (p:SetTable.Probe) {j:Nat} {dm:Option Nat},p.dummy=none->SetTable.probe.go t hashAt h fuel p=some (.empty j dm)->t.slot j=.empty/\dm=none
 |0,p,j,dm,_,e=>by simp[SetTable.probe.go] at e
 |fuel+1,p,j,dm,hp,e=>by
  unfold SetTable.probe.go at e;have ad:∀q:SetTable.Probe,q.dummy=none->(t.advance q).dummy=none:=λq hq=>by
   unfold SetTable.advance;split
   ·exact hq
   ·exact hq
  split at e
  ·rename_i hs;cases e;exact⟨hs,hp⟩
  ·rename_i hs;exact absurd hs (YB hd _)
  ·split at e
   ·cases e
   ·exact Gz hd fuel _ (ad p hp) e
theorem ZV{t:SetTable}(hd:t.dummies=#[]){h:Int}{j:Nat}{wd:Bool}(e:t.freeSlot h=some (j,wd)):t.slot j=.empty/\wd=false:=by
 unfold SetTable.freeSlot at e;split at e
 ·rename_i j' dm hp;obtain⟨h1,h2⟩:=Gz hd _ _ rfl hp;subst h2;cases e;exact⟨h1,rfl⟩
 ·cases e
theorem L6{L:Bool}{t:SetTable}(h:Well L t)(n:Nat):Well L (t.standIn n):=⟨Wx n,rfl,h.led⟩
theorem XW{L:Bool}{t:SetTable}{es:Array (Int×Value)}{h:Int}{x:Value}(hw:Well L t):Well L (layNew t es h x).2.1/\(layNew t es h x).2.2.1=false:=by
 unfold layNew;split
 ·rename_i slot wd e;obtain⟨h1,h2⟩:=ZV hw.zx e;refine⟨?_,h2⟩;have hd:SetTable.has t.dummies slot=false:=by rw[hw.zx];simp[SetTable.has]
  have w2:Well L (t.put slot).1:=⟨Xt hw.uW (Xx hw.uW h1),by simp only[SetTable.put,hd];exact hw.zx,hw.led⟩
  dsimp only;unfold SetTable.orStandIn;split
  ·exact w2
  ·exact L6 w2 _
 ·exact⟨L6 hw _,rfl⟩
theorem a02{L:Bool}{mask finger moves:Nat}{led plain:Bool}{hashes:Array Int}{t:SetTable}{o:Array Nat}(hl:led=L)(e:SetTable.laid mask finger moves led plain hashes=some (t,o)):Well L t:=by
 unfold SetTable.laid at e;cases ho:SetTable.layClean mask hashes with
 |none=>rw[ho] at e;cases e
 |some owner =>
  rw[ho] at e;simp only[Option.bind_eq_bind,Option.bind_some,Option.pure_def,Option.some.injEq,Prod.mk.injEq] at e;obtain⟨rfl,_⟩:=e;refine⟨?_,rfl,hl⟩;show(List.map _ _).toArray.toList.Pairwise (· < ·);rw[List.toList_toArray];have sub:((List.range (mask+1)).filterMap λj=>(owner.getD j none).map (j,·)).map (·.1) |>.Sublist (List.range (mask+1)):=by
   generalize List.range (mask+1)=l
   induction l with
   |nil=>simp
   |cons a r ih =>
    rw[eG];cases owner.getD a none with
    |none=>exact ih.cons a
    |some k=>exact ih.cons_cons a
  exact List.Pairwise.sublist sub List.pairwise_lt_range
theorem Vz{L:Bool}{t:SetTable}{es:Array (Int×Value)}{n:Nat}(hw:Well L t):Well L (relayAll t es n).2.1:=by
 unfold relayAll;split
 ·rename_i t' order e;dsimp only;split
  ·exact a02 hw.led e
  ·exact L6 hw _
 ·exact L6 hw _
end ST

namespace ST
open PySem PyProof.Rows
def toI:Value->Int
 |.int k _=>k
 |_=>0
def Led(w:World):Bool:=!(w.params.followText "set-order")
section
variable{prog:Program}{w:World}
def y9(prog:Program)(w:World)(h:Heap)(a:Addr)(ks:List Int):Prop :=
 ∃o es ep t,h.get? a=some o/\o.ExactSet/\o.data=.set es ep t/\ElemsOf (intKind prog w) es.toList/\(es.toList.map λe=>toI e.2).Perm ks/\ks.Nodup/\es.size<scanBound/\t.fits es.size=true/\Well (Led w) t
theorem y9.at{h h':Heap}{a:Addr}{ks:List Int}(x:y9 prog w h a ks)(k:∀o,h.get? a=some o->h'.get? a=some o):y9 prog w h' a ks:=by
 obtain⟨o,es,ep,t,e,r⟩:=x;exact⟨o,es,ep,t,k o e,r⟩
theorem Hi{e:Int×Value}{es:List (Int×Value)}(h:ElemsOf (intKind prog w) es)(he:e∈es):∃tk,e.2=.int (toI e.2) tk/\e.1=(intKind prog w).hash (toI e.2):=by
 obtain⟨⟨k,h1,h2⟩,_⟩:=h e he;obtain⟨t,ht⟩:=Value.isInt_shape (k:=k) (v:=e.2) h1;refine⟨t,by rw[ht];rfl,?_⟩;rw[h2,ht]
 rfl
theorem IB{e:Int×Value}{es:List (Int×Value)}(h:ElemsOf (intKind prog w) es)(he:e∈es)(k:Int):(intKind prog w).is k e.2=decide (toI e.2=k):=by
 obtain⟨t,ht,_⟩:=Hi h he;show Value.isInt k e.2=_;rw[ht];generalize toI e.2=m;show Value.isInt k (.int m t)=decide (m=k);by_cases z:m=k
 ·subst z;simp[Value.isInt]
 ·rw[aE z];cases hv:Value.isInt k (.int m t) with
  |false=>rfl
  |true =>
   obtain⟨t',e'⟩:=Value.isInt_shape hv;cases e';exact absurd rfl z
theorem y9.mem{a:Addr}{es:List (Int×Value)}{ks:List Int}(h:ElemsOf (intKind prog w) es)(hp:(es.map λe=>toI e.2).Perm ks)(k:Int):(es.findIdx? λe=>(intKind prog w).is k e.2).isSome=decide (k∈ks):=by
 rw[aV,dA,<- hp.mem_iff,aU,eO];constructor
 ·rintro⟨i,hi⟩;obtain⟨h1,h2,_⟩:=List.findIdx?_eq_some_iff_getElem.mp hi;have hm:=cc h1;rw[IB h hm] at h2;exact⟨_,hm,aZ h2⟩
 ·rintro⟨e,he,rfl⟩;cases hf:es.findIdx? λe'=>(intKind prog w).is (toI e.2) e'.2 with
  |some i=>exact⟨i,rfl⟩
  |none =>
   have:=List.findIdx?_eq_none_iff.mp hf e he;rw[IB h he] at this;simp at this
variable{A:Around}{E:Value->Shared->Prop}{s:Shared}
def E0(ks:List Int)(k:Int):List Int:=if k∈ks then ks else ks++[k]
theorem QM(ks:List Int)(k:Int):(E0 ks k).length<=ks.length+1:=by unfold E0;split<;>simp
theorem EA{a:Addr}{ks:List Int}{k:Int}{tk:Tok}{Q:Bool->Shared->Prop}(hS:y9 prog w s.heap a ks)(hr:ks.length+1<scanBound)(h:∀h' b,Heap.SameBut a s.heap h'->y9 prog w h' a (E0 ks k)->Q b { s with heap:=h' }):wpAny (model prog w) A (setAddHashed a (.int k tk) ((intKind prog w).hash k)) Q E s:=by
 obtain⟨o,es,ep,t,ho,hx,hd,oG,hp,hn,hb,hf,hw⟩:=hS;have hlen:es.size=ks.length:=by rw[<- hp.length_eq];simp
 have jg:(intKind prog w).is k (.int k tk)=true:=intKind_is _ _ _ _;have gv:∀(b:Bool) (s1:Shared) (Q':Unit->Shared->Prop),Q' () s1->wpAny (model prog w) A (match b with|true=>rule "set.scan.the-table-gave-way"|false=>pure ()) Q' E s1:=λb s1 Q' q=>by
  cases b
  ·exact av q
  ·exact wpAny_rule q
 unfold setAddHashed setAddHashedIn;refine cE (ae (cG ho hd hf ?_));dsimp only;rw[byScan_of rfl hb oG,aK rfl];unfold setAddByScan;refine ae (ae (wpAny_rule (ae (wpAny_setScan_of jg ho hd hf oG ?_))));have hm:=y9.mem (a:=a) oG hp k;cases fk:es.toList.findIdx? (λe=>(intKind prog w).is k e.2) with
 |some j =>
  rw[fk] at hm;have hk:k∈ks:=by simpa using hm.symm
  refine av (av ?_);have e0:s={ s with heap:=s.heap }:=rfl;rw[e0];refine h s.heap _ (Heap.SameBut.refl a s.heap) ?_;unfold E0;rw[aK hk];exact⟨o,es,ep,t,ho,hx,hd,oG,hp,hn,hb,hf,hw⟩
 |none =>
  rw[fk] at hm;have hk:k∉ks:=by simpa using hm.symm
  dsimp only;have p1:=layNew_perm t es ((intKind prog w).hash k) (.int k tk);have f1:=layNew_fits t es ((intKind prog w).hash k) (.int k tk);obtain⟨w1,xo⟩:=XW (es:=es) (h:=(intKind prog w).hash k) (x:=.int k tk) hw;generalize layNew t es ((intKind prog w).hash k) (.int k tk)=R1 at p1 f1 w1 xo ⊢;obtain⟨fY,t1,wd,Lz⟩:=R1;dsimp only at p1 f1 w1 xo ⊢;subst xo;rw[Array.toList_push] at p1;have DZ:ElemsOf (intKind prog w) fY.toList:=(oG.push jg rfl).perm p1;have sz1:fY.size=es.size+1:=by rw[<- bD,p1.length_eq];simp
  have k1:(fY.toList.map λe=>toI e.2).Perm (E0 ks k):=by
   unfold E0;rw[aC hk];refine(p1.map _).trans ?_;rw[dM];exact hp.append_right _
  have n1:(E0 ks k).Nodup:=by
   unfold E0;rw[aC hk,cM];exact⟨hn,by simp,λx hx y hy=>by simp at hy;subst hy;exact λz=>hk (z▸hx)⟩
  refine ae (gv _ _ _ ?_);have fin:∀ (t2:SetTable),t2.fits fY.size=true->Well (Led w) t2->wpAny (model prog w) A (do
    storeSet a fY t2
    if(!false&&t2.tooFull)=true then do
      (match(relayAll t2 fY (SetTable.grown fY.size)).2.2 with|true=>rule "set.scan.the-table-gave-way"|false=>pure ())
      storeSet a (relayAll t2 fY (SetTable.grown fY.size)).1 (relayAll t2 fY (SetTable.grown fY.size)).2.1
      pure (some true)
     else pure (some true)) (λr s'=>wpAny (model prog w) A (match r with | some added=>pure added | none=>setAddHashedIn a (.int k tk) ((intKind prog w).hash k) 99999) Q E s') E s:=λt2 f2 w2=>by
   have g1:(s.heap.update a (Obj.putSet fY t2)).get? a=some { o with data:=.set fY (ep+1) t2 }:=by
    have:=bu (Obj.putSet fY t2) ho (by rw[putSet_of fY t2 hd];rfl);rw[putSet_of fY t2 hd] at this;exact this
   refine ae (wpAny_storeSet_of ho hd ?_ (fits_of_scanBound (by omega)));have Cv:=cw s.heap a (Obj.putSet fY t2);split
   ·have p2:=relayAll_perm t2 fY (SetTable.grown fY.size);have f3:=relayAll_fits t2 fY (SetTable.grown fY.size);have w3:=Vz (es:=fY) (n:=SetTable.grown fY.size) w2;generalize relayAll t2 fY (SetTable.grown fY.size)=R2 at p2 f3 w3 ⊢;obtain⟨lq,t3,gv2⟩:=R2;dsimp only at p2 f3 w3 ⊢;have sz2:lq.size=fY.size:=by rw[<- bD,p2.length_eq,bD]
    refine ae (gv _ _ _ ?_);refine ae (wpAny_storeSet_of g1 rfl ?_ (fits_of_scanBound (by omega)));refine av (av (h _ _ (Cv.trans (cw _ a _)) ?_));have g2:((s.heap.update a (Obj.putSet fY t2)).update a (Obj.putSet lq t3)).get? a=some { o with data:=.set lq (ep+1+1) t3 }:=by
     have:=bu (Obj.putSet lq t3) g1 (by rw[putSet_of lq t3 rfl];rfl);rw[putSet_of lq t3 rfl] at this;exact this
    exact⟨_,lq,_,t3,g2,hx,rfl,DZ.perm p2,(p2.map _).trans k1,n1,by omega,f3,w3⟩
   ·exact av (av (h _ _ Cv ⟨_,fY,_,t2,g1,hx,rfl,DZ,k1,n1,by omega,f1 |> λ_=>f2,w2⟩))
  split
  ·refine ae (eM (hashByValue_scannable 8 rfl) ?_);exact fin _ f1 w1
  ·refine ae (av ?_);exact fin _ f1 w1
end
end ST

namespace ST
open PySem PyProof.Rows
theorem Yj:entryFor table "set.__iter__"=some Builtin.«frozenset.__iter__» :=
 entryFor_alias (id':="frozenset.__iter__") (by kernel_rfl) rfl (by decide +kernel) (by kernel_rfl)
theorem B9:Slot "set_iterator" "__next__" "set_iterator.__next__" :=
 .of (owner:="set_iterator") (n:="__next__") (by rw[typeLookup_type,builtinLookup_eq_fast];kernel_rfl) (by decide +kernel) (by decide +kernel) (by decide +kernel)
  (by first|exact .inl (by decide +kernel)|exact .inr (by decide +kernel)) (by rw[isSubtype_type];kernel_rfl)
theorem Gm:entryFor table "set_iterator.__next__"=some Builtin.«set_iterator.__next__»:=entryFor_of_tree (by kernel_rfl)
theorem GC(a:Value):argsOk "set_iterator.__next__" ⟨[a],[]⟩:=by
 unfold argsOk
 kernel_rfl
theorem GG:Slot "set_iterator" "__iter__" "set_iterator.__iter__" :=
 .of (owner:="set_iterator") (n:="__iter__") (by rw[typeLookup_type,builtinLookup_eq_fast];kernel_rfl) (by decide +kernel) (by decide +kernel) (by decide +kernel)
  (by first|exact .inl (by decide +kernel)|exact .inr (by decide +kernel)) (by rw[isSubtype_type];kernel_rfl)
theorem XS:entryFor table "set_iterator.__iter__"=some Builtin.«dict_keyiterator.__iter__» :=
 entryFor_alias (id':="dict_keyiterator.__iter__") (by kernel_rfl) rfl (by decide +kernel) (by kernel_rfl)
theorem Ye(a:Value):argsOk "set_iterator.__iter__" ⟨[a],[]⟩:=by
 unfold argsOk
 kernel_rfl
end ST

namespace ST
open PySem PyProof.Rows
inductive Rd|text|plain|drawn
structure Lies(h:Heap)(a:Addr)(es:Array (Int×Value))(ep:Nat)(t:SetTable):Prop where
 at_:∃o,h.get? a=some o/\o.cls=.type "set"/\o.data=.set es ep t
 fit:t.fits es.size=true
theorem Lies.at{h h':Heap}{a:Addr}{es:Array (Int×Value)}{ep:Nat}{t:SetTable}(x:Lies h a es ep t)(k:∀o,h.get? a=some o->h'.get? a=some o):Lies h' a es ep t :=
 ⟨let ⟨o,e,r⟩:=x.at_;⟨o,k o e,r⟩,x.fit⟩
def E2(h:Heap)(I a:Addr)(f:Value)(i n ep:Nat):Prop:=∃o,h.get? I=some o/\o.cls=.type "set_iterator"/\o.data=.fields #[f,rawInt i,.ref a,rawInt n,rawInt ep]
theorem E2.at{h h':Heap}{I a:Addr}{f:Value}{i n ep:Nat}(x:E2 h I a f i n ep)(k:∀o,h.get? I=some o->h'.get? I=some o):E2 h' I a f i n ep:=let ⟨o,e,r⟩:=x;⟨o,k o e,r⟩
theorem E2.ty{s:Shared}{I a:Addr}{f:Value}{i n ep:Nat}(x:E2 s.heap I a f i n ep):s.TypeIs (.ref I) "set_iterator":=let ⟨o,e,c,_⟩:=x;⟨o,e,c⟩
def uh(w:World)(a:Addr)(es:Array (Int×Value))(ep:Nat)(pl:List Nat):Rd->List Value
 |.text=>(pickOrder (w.params.setOrder a ep) es).toList.map (·.2)
 |.plain=>es.toList.map (·.2)
 |.drawn=>pl.map λj=>(es.getD j (0,.none)).2
def slotAt(t:SetTable):Nat->Nat
 |0=>0
 |i+1=>t.place.getD i 0+1
def N6(h:Heap)(t:SetTable)(b:Addr)(pl:List Nat)(i:Nat)(f:Value):Rd->Prop
 |.text=>∃k:Nat,f=rawInt k
 |.plain=>f=rawInt (slotAt t i)
 |.drawn=>f=.ref b/\∃o e,h.get? b=some o/\o.cls=.type "tuple"/\o.data=.seq (pl.map λj=>rawInt (j:Nat)).toArray e
def qy(w:World)(es:Array (Int×Value))(t:SetTable)(pl:List Nat):Rd->Prop
 |.text=>w.params.followText "set-order"=true
 |.plain=>w.params.followText "set-order"=false/\(t.plain=true\/es.size<=1)/\Well true t
 |.drawn=>w.params.followText "set-order"=false/\pl.Perm (List.range es.size)
section
variable{prog:Program}{w:World}{A:Around}{E:Value->Shared->Prop}{s:Shared}{a:Addr}{es:Array (Int×Value)}{ep:Nat}{t:SetTable}
theorem uo{Q:Bool->Shared->Prop}(h:Q (w.params.followText "set-order") s):wpAny (model prog w) A setsByText Q E s:=by
 unfold setsByText;exact ae (wpAny_askSetting (av h))
theorem FC(hL:Lies s.heap a es ep t)(ht:w.params.followText "set-order"=true){sl g:Nat}{Q:Option (Value×Nat)->Shared->Prop}(h:Q (((pickOrder (w.params.setOrder a ep) es)[g]?).map λe=>(e.2,sl)) s) :
  wpAny (model prog w) A (setNext a sl g ep) Q E s:=by
 obtain⟨o,ho,_,hd⟩:=hL.at_;unfold setNext;refine ae (cG ho hd hL.fit ?_);refine ae (uo ?_);rw[ht,aK rfl,aC (by simp)];unfold setWalk;refine ae (ae (cG ho hd hL.fit ?_));refine ae (uo ?_);rw[ht,aK rfl];exact ae (wpAny_askSetting (av (av h)))
theorem Gb(hL:Lies s.heap a es ep t)(ht:w.params.followText "set-order"=false)(hp:t.plain=true\/es.size<=1)(hl:t.led=true){sl g:Nat}{Q:Option (Value×Nat)->Shared->Prop}(h:Q (match es[SetTable.below t.place sl]?,t.place[SetTable.below t.place sl]? with|some (_,x),some j=>some (x,j+1)|_,_=>none) s):wpAny (model prog w) A (setNext a sl g ep) Q E s:=by
 obtain⟨o,ho,_,hd⟩:=hL.at_;unfold setNext;refine ae (cG ho hd hL.fit ?_);refine ae (uo ?_);rw[ht,aC (by decide)];show wpAny _ _ (if(!t.plain&&decide (es.size>1))=true then _ else _) _ _ _;rw[aC (by rcases hp with e|e<;>simp[e])];refine ae (eM (a:=()) ?_ (av h));show((if(!t.led&&!es.isEmpty)=true then unsupported "set:maker-not-led" else pure ()):Sem Unit)=pure ();rw[hl]
 rfl
theorem Xo(hL:Lies s.heap a es ep t){j:Nat}(hj:j<es.size){Q:Value->Shared->Prop}(h:Q (es.getD j (0,.none)).2 s):wpAny (model prog w) A (setNextDrawn a j ep) Q E s:=by
 obtain⟨o,ho,_,hd⟩:=hL.at_;unfold setNextDrawn;refine ae (cG ho hd hL.fit ?_);dsimp only;rw[aC (by simp)];have e:es[j]?=some (es.getD j (0,.none)):=by simp[Array.getD,hj]
 rw[e];exact av h
end
end ST

namespace ST
open PySem PyProof.Rows
section
variable{prog:Program}{w:World}{A:Around}{E:Value->Shared->Prop}{s:Shared}{a I b:Addr}{es:Array (Int×Value)}{ep:Nat}{t:SetTable}{pl:List Nat}
theorem Im(hL:Lies s.heap a es ep t):t.place.size=es.size:=by
 have:=hL.fit;unfold SetTable.fits at this;simp at this;exact this.1
theorem FQ(hw:jr t.place){i:Nat}(hi:i<=t.place.size):SetTable.below t.place (slotAt t i)=i:=by
 cases i with
 |zero=>exact WV hw
 |succ i=>exact WU hw (by omega)
theorem entries{Q:Array (Int×Value)->Shared->Prop}(hL:Lies s.heap a es ep t)(h:Q es s):wpAny (model prog w) A (setEntries a) Q E s:=by
 obtain⟨o,ho,_,hd⟩:=hL.at_;unfold setEntries;exact ae (cG ho hd hL.fit (av h))
theorem Rw{f f':Value}{i n:Nat}{h:Heap}(hi:E2 h I a f i n ep){x:Value}(hx:x=rawInt ((i:Int)+1)):E2 ((h.update I (Obj.mapFields (·.setIfInBounds 0 f'))).update I (Obj.mapFields (·.setIfInBounds 1 x))) I a f' (i+1) n ep:=by
 obtain⟨o,ho,hc,hd⟩:=hi;have h1:=bu (Obj.mapFields (·.setIfInBounds 0 f')) ho (de (bB hd _));have d1:(Obj.mapFields (·.setIfInBounds 0 f') o).data=.fields #[f',rawInt i,.ref a,rawInt n,rawInt ep]:=by rw[bB hd];simp
 have h2:=bu (Obj.mapFields (·.setIfInBounds 1 x)) h1 (de (bB d1 _));refine⟨_,h2,(Obj.cls_mapFields ..).trans ((Obj.cls_mapFields ..).trans hc),?_⟩;rw[bB d1];subst hx;simp[rawInt]
theorem Rv{f:Value}{i n:Nat}{h:Heap}(hi:E2 h I a f i n ep){x:Value}(hx:x=rawInt ((i:Int)+1)):E2 (h.update I (Obj.mapFields (·.setIfInBounds 1 x))) I a f (i+1) n ep:=by
 obtain⟨o,ho,hc,hd⟩:=hi;have h2:=bu (Obj.mapFields (·.setIfInBounds 1 x)) ho (de (bB hd _));refine⟨_,h2,(Obj.cls_mapFields ..).trans hc,?_⟩;rw[bB hd];subst hx;simp[rawInt]
theorem Er{α:Type}{f f' x:Value}{i n:Nat}{m:Sem α}{Q':α->Shared->Prop}(hi:E2 s.heap I a f i n ep)(hx:x=rawInt ((i:Int)+1))(h:∀h',E2 h' I a f' (i+1) n ep->Heap.SameBut I s.heap h'->wpAny (model prog w) A m Q' E { s with heap:=h' }) :
  wpAny (model prog w) A (do setField (.ref I) 0 f';setField (.ref I) 1 x;m) Q' E s:=by
 obtain⟨o,ho,hc,hd⟩:=id hi;refine ae (dI ho hd (by simp) ?_);have h1:=bu (Obj.mapFields (·.setIfInBounds 0 f')) ho (de (bB hd _));have d1:(Obj.mapFields (·.setIfInBounds 0 f') o).data=.fields #[f',rawInt i,.ref a,rawInt n,rawInt ep]:=by rw[bB hd];simp
 refine ae (dI (s:={ s with heap:=_ }) h1 d1 (by simp) ?_);exact h _ (Rw hi hx) ((cw ..).trans (cw ..))
theorem Si{α:Type}{f x:Value}{i n:Nat}{m:Sem α}{Q':α->Shared->Prop}(hi:E2 s.heap I a f i n ep)(hx:x=rawInt ((i:Int)+1))(h:∀h',E2 h' I a f (i+1) n ep->Heap.SameBut I s.heap h'->wpAny (model prog w) A m Q' E { s with heap:=h' }) :
  wpAny (model prog w) A (do setField (.ref I) 1 x;m) Q' E s:=by
 obtain⟨o,ho,hc,hd⟩:=id hi;refine ae (dI ho hd (by simp) ?_);exact h _ (Rv hi hx) (cw ..)
theorem Au{α:Type}(next:Nat->Nat)(xs:Array α):(pickOrder next xs).toList.Perm xs.toList:=by
 have go:∀(fuel k:Nat) (left:List α) (out:Array α),fuel=left.length->(pickOrder.go next fuel k left out).toList.Perm (out.toList++left):=by
  intro fuel
  induction fuel with
  |zero =>
   intro k left out e;have:left=[]:=dy e.symm;subst this;simp[pickOrder.go]
  |succ n ih =>
   intro k left out e;have dj:next k % left.length<left.length:=Nat.mod_lt _ (by omega)
   unfold pickOrder.go;rw[ai dj];refine(ih _ _ _ (by rw[List.length_eraseIdx_of_lt dj];omega)).trans ?_;rw[Array.toList_push,List.append_assoc];refine List.Perm.append_left _ ?_;have:left.Perm (left[next k % left.length]::left.eraseIdx (next k % left.length)):=by
    rw[List.eraseIdx_eq_take_drop_succ]
    conv=>lhs;rw[<- List.take_append_drop (next k % left.length) left,eE dj]
    exact List.perm_middle
   exact this.symm
 have:=go xs.size 0 xs.toList #[] (by simp);simpa[pickOrder] using this
theorem next_item{r:Rd}{i:Nat}{f:Value}{Q:Option Value->Shared->Prop}(hL:Lies s.heap a es ep t)(hr:qy w es t pl r)(hi:E2 s.heap I a f i es.size ep)(hf:N6 s.heap t b pl i f r)(dH:b≠I)(dj:i<es.size)(h:∀v h' f',(uh w a es ep pl r)[i]?=some v->E2 h' I a f' (i+1) es.size ep->N6 h' t b pl (i+1) f' r->Heap.SameBut I s.heap h'->Q (some v) { s with heap:=h' }):wpAny (model prog w) A (pyNext (.ref I)) Q E s:=by
 obtain⟨o,ho,hc,hd⟩:=id hi;unfold pyNext;refine ae (wpAny_attempt (wpAny_callSpecial?_slot (name:=Str.ofString "__next__") hi.ty B9 (cL B9 hi.ty Gm ?_ (GC _))));unfold Builtin.«set_iterator.__next__»;refine ae (av ?_);refine ae (wpAny_fieldsOf ho hd ?_);dsimp only[rawInt];refine ae (entries hL ?_);rw[aC (by simp)];rw[cB,cB];cases r with
 |text =>
  obtain⟨k,rfl⟩:=hf;dsimp only[rawInt];refine ae (FC hL hr ?_);have hl:i<(pickOrder (w.params.setOrder a ep) es).size:=by
   have:=(Au (w.params.setOrder a ep) es).length_eq;simp at this;omega
  rw[Array.getElem?_eq_getElem hl];refine Er hi rfl λh' h1 h2=>av ⟨_,rfl,av (h _ _ _ ?_ h1 ⟨_,rfl⟩ h2)⟩;show((pickOrder (w.params.setOrder a ep) es).toList.map (·.2))[i]?=_;simp[hl]
 |plain =>
  obtain⟨r1,r2,r3⟩:=hr;have hs:=Im hL;obtain rfl:=hf;dsimp only[rawInt];rw[cB];refine ae (Gb hL r1 r2 r3.led ?_);rw[FQ r3.uW (by omega),Array.getElem?_eq_getElem dj,getD_mem (by omega)];refine Er hi rfl λh' h1 h2=>av ⟨_,rfl,av (h _ _ _ ?_ h1 rfl h2)⟩;show(es.toList.map (·.2))[i]?=_;simp[dj]
 |drawn =>
  obtain⟨r1,r2⟩:=hr;obtain⟨rfl,ob,e,hb,DG,vo⟩:=hf;have gb:i<pl.length:=by rw[r2.length_eq];simpa using dj
  dsimp only;refine ae (wpAny_seqItems hb vo ?_);have hj:pl[i]<es.size:=by
   have:=r2.mem_iff.mp (cc gb);simpa using this
  have e1:(pl.map λj=>rawInt (j:Nat)).toArray[i]?=some (rawInt (pl[i]:Nat)):=by simp[gb]
  dsimp only;rw[e1];dsimp only[rawInt];rw[cB];refine ae (Xo hL hj ?_);refine Si hi rfl λh' h1 h2=>av ⟨_,rfl,av (h _ _ _ ?_ h1 ⟨rfl,ob,e,by rw[h2.2 b dH];exact hb,DG,vo⟩ h2)⟩;show(pl.map λj=>(es.getD j (0,.none)).2)[i]?=_;simp[gb]
theorem Aw{Q:Option Value->Shared->Prop}{I:Addr}{h0:Heap}(hh:A.handled=none)(Lr:Heap.ExtBut I h0 s.heap)(h:∀h',Heap.ExtBut I h0 h'->Q none { s with heap:=h' }) :
  wpAny (model prog w) A.in1 (newExc (.type "StopIteration") [] >>= λe=>(raiseNew e:Sem Fin)) (λfin s'=>∃v,fin=Fin.done (Flow.ret v)/\wpAny (model prog w) A (pure (some v)) Q E s')
   (λe s'=>wpAny (model prog w) A (do
     let x <- isInstance e (Value.type "StopIteration")
     if x=true then pure none else throw e) Q E s') s:=by
 refine ae ?_;simp only[newExc,newTuple];refine ae (cy ?_ (by size_fits));refine ae (m:=firstArgMember _ _) (eM (a:=Value.none) (by first|rfl|(simp only[firstArgMember];rfl)) ?_);refine cy ?_ (by size_fits);simp only[raiseNew];refine ae (wpAny_handled ?_);rw[show A.in1.handled=none from hh];refine ae (av (wpAny_throw ?_));refine ae (wpAny_isInstance (T:="StopIteration") (b:=true) ⟨_,aH _ rfl,rfl⟩ isSubtype_stop ?_);exact av (h _ ((Lr.push _).push _))
theorem next_end{r:Rd}{f:Value}{Q:Option Value->Shared->Prop}(hh:A.handled=none)(hL:Lies s.heap a es ep t)(hr:qy w es t pl r)(hi:E2 s.heap I a f es.size es.size ep)(hf:N6 s.heap t b pl es.size f r)(dH:b≠I)(h:∀h',Heap.ExtBut I s.heap h'->Q none { s with heap:=h' }):wpAny (model prog w) A (pyNext (.ref I)) Q E s:=by
 obtain⟨o,ho,hc,hd⟩:=id hi;unfold pyNext;refine ae (wpAny_attempt (wpAny_callSpecial?_slot (name:=Str.ofString "__next__") hi.ty B9 (cL B9 hi.ty Gm ?_ (GC _))));unfold Builtin.«set_iterator.__next__»;refine ae (av ?_);refine ae (wpAny_fieldsOf ho hd ?_);dsimp only[rawInt];refine ae (entries hL ?_);rw[aC (by simp)];rw[cB,cB];cases r with
 |text =>
  obtain⟨k,rfl⟩:=hf;dsimp only[rawInt];refine ae (FC hL hr ?_);have hl:(pickOrder (w.params.setOrder a ep) es).size<=es.size:=by
   have:=(Au (w.params.setOrder a ep) es).length_eq;simp at this;omega
  rw[Array.getElem?_eq_none hl];refine ae (dI ho hd (by simp) ?_);exact Aw (s:={ s with heap:=_ }) hh (cw ..).extBut h
 |plain =>
  obtain⟨r1,r2,r3⟩:=hr;have hs:=Im hL;obtain rfl:=hf;dsimp only[rawInt];rw[cB];refine ae (Gb hL r1 r2 r3.led ?_);rw[FQ r3.uW (by omega),Array.getElem?_eq_none (aw _)];refine ae (dI ho hd (by simp) ?_);exact Aw (s:={ s with heap:=_ }) hh (cw ..).extBut h
 |drawn =>
  obtain⟨r1,r2⟩:=hr;obtain⟨rfl,ob,e,hb,DG,vo⟩:=hf;have gb:pl.length=es.size:=by rw[r2.length_eq];simp
  dsimp only;refine ae (wpAny_seqItems hb vo ?_);have e1:(pl.map λj=>rawInt (j:Nat)).toArray[es.size]?=none:=by simp[gb]
  dsimp only;rw[e1];dsimp only[rawInt];refine ae (dI ho hd (by simp) ?_);have h1:=bu (Obj.mapFields (·.setIfInBounds 0 (Value.int 0 0))) ho (de (bB hd _));refine ae (dI (s:={ s with heap:=_ }) h1 (bB hd _) (by simp) ?_);exact Aw (s:={ s with heap:=_ }) hh ((cw ..).trans (cw ..)).extBut h
end
end ST

namespace ST
open PySem PyProof.Rows
section
variable{prog:Program}{w:World}{A:Around}{E:Value->Shared->Prop}{s:Shared}{a I b:Addr}{es:Array (Int×Value)}{ep:Nat}{t:SetTable}{pl:List Nat}
theorem Wo{α:Type}{l:List α}{k:Nat}(dj:k<l.length):(l[k]::l.eraseIdx k).Perm l:=by
 rw[List.eraseIdx_eq_take_drop_succ]
 conv=>rhs;rw[<- List.take_append_drop k l,eE dj]
 exact List.perm_middle.symm
theorem FV{α:Type}:∀(n:Nat) (xs:List α) (s:Shared) (Q:List α->Shared->Prop),n=xs.length->(∀ys d,ys.Perm xs->Q ys { s with drawn:=d })->wpAny (model prog w) A (drawOrder n xs) Q E s
 |0,xs,s,Q,e,h=>by
  have:xs=[]:=dy e.symm;subst this;exact av (h [] s.drawn (List.Perm.refl _))
 |n+1,[],s,Q,e,h=>by simp at e
 |n+1,x::xs,s,Q,e,h=>by
  unfold drawOrder;refine ae ?_;intro Γ p hΓ;refine⟨by simp,?_⟩;generalize (model prog w).w.draws .order (s.drawn.get .order)=k;have dj:k % (x::xs).length<(x::xs).length:=Nat.mod_lt _ (by simp);have go:wpAny (model prog w) A (match (x :: xs)[k % (x :: xs).length]? with
   |some y=>do
    let ys <- drawOrder n ((x::xs).eraseIdx (k % (x::xs).length))
    pure (y::ys)
   | none=>unsupported "internal:drawOrder") Q E { s with drawn:=s.drawn.bump .order }:=by
   rw[ai dj];refine ae (FV n _ _ _ (by rw[List.length_eraseIdx_of_lt dj];simp at e ⊢;omega) λys d hp=>av ?_);exact h _ d ((List.Perm.cons _ hp).trans (Wo dj))
  exact go
theorem Ib{r:Rd}(hr:qy w es t pl r):(uh w a es ep pl r).Perm (es.toList.map (·.2)):=by
 cases r with
 |text=>exact(Au _ es).map _
 |plain=>exact List.Perm.refl _
 |drawn =>
  refine(hr.2.map _).trans ?_;have:(List.range es.size).map (λj=>(es.getD j (0,.none)).2)=es.toList.map (·.2):=by
   apply List.ext_getElem
   ·simp
   ·intro i h1 h2;simp at h1;simp[Array.getD,h1]
  rw[this]
theorem Lies.ty(hL:Lies s.heap a es ep t):s.TypeIs (.ref a) "set":=let ⟨o,e,c,_⟩:=hL.at_;⟨o,e,c⟩
theorem Zp(hL:Lies s.heap a es ep t)(hw:Well (Led w) t)(hz:es.size<=10000){Q:Value->Shared->Prop}(h:∀r pl b f I h' d',qy w es t pl r->E2 h' I a f 0 es.size ep->N6 h' t b pl 0 f r->b≠I->(b=a\/s.heap.objs.size<=b)->(∀c o,s.heap.get? c=some o->h'.get? c=some o)->s.heap.objs.size<=I->s.heap.objs.size<=h'.objs.size->Q (.ref I) { s with heap:=h',drawn:=d' }) :
  wpAny (model prog w) A (pyIter (.ref a)) Q E s:=by
 obtain⟨o,ho,yf,hd⟩:=hL.at_;refine wpAny_pyIter_slot hL.ty F.slot_set_iter (cL F.slot_set_iter hL.ty Yj ?_ (F.args_set_iter_1 _));unfold Builtin.«frozenset.__iter__»;refine ae (av ?_);unfold Builtin.Frozenset.sizeOf;refine ae (ae (entries hL (av ?_)));unfold setDrawn;refine ae (ae (cG ho hd hL.fit ?_));refine ae (uo (av ?_));have dj:=aD ho;have fin:∀(r:Rd) (f:Value) (b:Addr) (pl:List Nat) (h1:Heap) (d1:Drawn),qy w es t pl r->(∀h',(∀c o,h1.get? c=some o->h'.get? c=some o)->N6 h' t b pl 0 f r)->b<h1.objs.size->(b=a\/s.heap.objs.size<=b)->(∀c o,s.heap.get? c=some o->h1.get? c=some o)->s.heap.objs.size<=h1.objs.size ->
   wpAny (model prog w) A.in1 (do
    let e <- setEpoch a
    ret (<- newFields "set_iterator" [f,rawInt 0,.ref a,rawInt es.size,rawInt e])) (λfin s'=>∃ v,fin=Fin.done (Flow.ret v)/\∃ T' r,s'.TypeIs v T'/\typeLookup (.type T') "__next__"=pure (some r)/\Q v s') E { s with heap:=h1,drawn:=d1 }:=λr f b pl h1 d1 hr hf hb yE he hsz=>by
  have ql:Lies h1 a es ep t:=hL.at λo e=>he a o e;obtain⟨o1,JZ,_,DF⟩:=ql.at_;unfold setEpoch;refine ae (ae (cG (s:={ s with heap:=h1,drawn:=d1 }) JZ DF ql.fit (av ?_)));refine ae (cy (av ⟨_,rfl,"set_iterator",_,⟨_,aH _ rfl,rfl⟩,B9.lookup,?_⟩));refine h r pl b f h1.objs.size _ d1 hr ⟨_,aH _ rfl,rfl,rfl⟩ (hf _ λc o e=>au _ e) (aR hb) yE (λc o e=>au _ (he c o e)) hsz (by rw[size_push'];exact Nat.le_succ_of_le hsz)
 have e0:s={ s with heap:=s.heap,drawn:=s.drawn }:=rfl;cases hT:w.params.followText "set-order" with
 |true =>
  dsimp only[Bool.not_true,Bool.false_and];rw[aC (by simp)];refine ae (av ?_);rw[e0];exact fin .text (rawInt 0) a [] s.heap s.drawn hT (λh' _=>⟨0,rfl⟩) dj (.inl rfl) (λc o e=>e) (aw _)
 |false =>
  show wpAny _ _ (if(!false&&(!t.plain&&decide (es.size>1)))=true then _ else _ ) _ _ _;by_cases hp:t.plain=true\/es.size<=1
  ·rw[aC (by rcases hp with e|e<;>simp[e])];refine ae (av ?_);rw[e0];refine fin .plain (rawInt 0) a [] s.heap s.drawn ⟨hT,hp,?_⟩ (λh' _=>rfl) dj (.inl rfl) (λc o e=>e) (aw _);have:Led w=true:=by unfold Led;rw[hT];rfl
   rw[<- this];exact hw
  ·have h1:t.plain=false:=by cases hq:t.plain with|true=>exact absurd (.inl hq) hp|false=>rfl
   have h2:¬es.size<=1:=λz=>hp (.inr z);rw[aK (by simp[h1];omega)];refine ae (FV _ _ _ _ (List.length_range).symm λys d hy=>?_);have hl:ys.length=es.size:=by rw[hy.length_eq];simp
   refine ae (cy ?_ (by show(List.map _ ys).toArray.size<=sizeLine;rw[aI,ao,hl];exact aG hz (by decide)));refine fin .drawn (.ref s.heap.objs.size) s.heap.objs.size ys _ d ⟨hT,hy⟩ (λh' hk=>⟨rfl,_,_,hk _ _ (aH _ rfl),rfl,rfl⟩) (by rw[size_push'];exact Nat.lt_succ_self _) (.inr (aw _)) (λc o e=>au _ e) (by rw[size_push'];exact Nat.le_succ _)
theorem WC(hh:A.handled=none){r:Rd}(hr:qy w es t pl r)(dH:b≠I)(Ka:a≠I) :
  Walks prog w A I [I,a,b] [I] es.size (λi v=>(uh w a es ep pl r)[i]?=some v) (λi h=>Lies h a es ep t/\∃f,E2 h I a f i es.size ep/\N6 h t b pl i f r) where
 sub:=λc hc=>by simp at hc;simp[hc]
 frame:=λi h h' st hk=>by
  obtain⟨hL,f,hi,hf⟩:=st;refine⟨hL.at λo e=>hk a (by simp) o e,f,hi.at λo e=>hk I (by simp) o e,?_⟩;cases r with
  |text=>exact hf
  |plain=>exact hf
  |drawn =>
   obtain⟨e1,o,e,h1,h2⟩:=hf;exact⟨e1,o,e,hk b (by simp) o h1,h2⟩
 item:=λi s Q E hi st hQ=>by
  obtain⟨hL,f,hI,hf⟩:=st;exact next_item hL hr hI hf dH hi λv h' f' hv h1 h2 h3=>hQ v h' s.toks hv ⟨hL.at λo e=>by rw[h3.2 a Ka];exact e,f',h1,h2⟩ λc o hc e=>h3.extBut c o (λz=>hc (by simp[z])) e
 done:=λs Q E st hQ=>by
  obtain⟨hL,f,hI,hf⟩:=st;exact next_end hh hL hr hI hf dH λh' he=>hQ h' s.toks λc o hc e=>he c o (λz=>hc (by simp[z])) e
 self:=λi s Q E st hQ=>by
  obtain⟨hL,f,hI,hf⟩:=st;refine wpAny_pyIter_slot hI.ty GG (cL GG hI.ty XS ?_ (Ye _));exact ae (av (av ⟨_,rfl,"set_iterator",_,hI.ty,B9.lookup,hQ⟩))
end
end ST

namespace ST
open PySem PyProof.Rows
theorem Yn:typeLookup (.type "set") "__len__"=pure (some (.builtin "set.__len__")):=by rw[typeLookup_type,builtinLookup_eq_fast];kernel_rfl
section
variable{prog:Program}{w:World}{A:Around}{E:Value->Shared->Prop}{s:Shared}{a I b:Addr}{es:Array (Int×Value)}{ep:Nat}{t:SetTable}{pl:List Nat}
theorem Yb(hh:A.handled=none)(hL:Lies s.heap a es ep t)(hw:Well (Led w) t)(hz:es.size<=10000){Q:List Value->Shared->Prop}(h:∀(vs:List Value) h' d' kx,vs.Perm (es.toList.map (·.2))->(∀c o,s.heap.get? c=some o->h'.get? c=some o)->s.heap.objs.size<=h'.objs.size->s.toks<=kx->Q vs { s with heap:=h',drawn:=d',toks:=kx }) :
  wpAny (model prog w) A (collect (.ref a)) Q E s:=by
 have dj:a<s.heap.objs.size:=let ⟨o,ho,_⟩:=hL.at_;aD ho
 unfold collect;refine ae (wpAny_runValue (codeAny_builtin F.entry_proto_collect ?_));rw[eR F.plain_proto_collect _];show wpAny _ A.in1 (newList [] >>= λl=>again (.builtin "list.__iadd__" ⟨[l,.ref a],[]⟩)) _ _ s;refine ae (cy ?_);refine av ⟨plainId_quiet F.plain_list_iadd _,codeAny_builtin F.entry_list_iadd ?_⟩;rw[eR F.plain_list_iadd _];have ql:Lies (s.heap.push { cls:=.type "list",data:=.seq ([]:List Value).toArray }) a es ep t:=hL.at λo e=>au _ e;have KP:(s.heap.push { cls:=.type "list",data:=.seq ([]:List Value).toArray }).get? s.heap.objs.size=some { cls:=.type "list",data:=.seq ([]:List Value).toArray }:=aH _ rfl;have dH:s.heap.objs.size≠a:=bZ dj;have h1:Builtin.List.listSameRef (.ref s.heap.objs.size) (.ref a)=false:=by simp[Builtin.List.listSameRef,dH]
 show wpAny _ A.in1 (Builtin.List.listExtendWith (.ref s.heap.objs.size) (.ref a) (.ref s.heap.objs.size)) _ _ _;unfold Builtin.List.listExtendWith;refine ae (eZ (Lies.ty (s:={ s with heap:=_ }) ql) ?_);rw[aC (by rw[h1];decide)];refine ae (Zp (s:={ s with heap:=_ }) ql hw hz λr pl b f I h2 d2 hr hI hf hb KH he yO h2z=>?_);have oO:Lies h2 a es ep t:=ql.at λo e=>he a o e;have sX:=he _ _ KP;refine ae (cE ?_);unfold Builtin.List.listLengthHint;refine ae (wpAny_specialOf (Lies.ty (s:={ s with heap:=h2,drawn:=d2 }) oO) Yn ?_);generalize Dt:("set.__len__":String)=JI;dsimp only;rw[show splitId JI=some ("set","__len__") from by subst Dt;decide +kernel];dsimp only;refine ae (wpAny_isInstance (b:=true) (Lies.ty (s:={ s with heap:=h2,drawn:=d2 }) oO) (by rw[isSubtype_type];kernel_rfl) ?_);rw[aC (by decide)];subst Dt;rw[aK (by decide +kernel)];refine ae (eZ (Lies.ty (s:={ s with heap:=h2,drawn:=d2 }) oO) ?_);refine av ?_;rw[aK (by decide +kernel)];refine ae (wpAny_rule ?_);refine ae ?_;show wpAny _ A.in1 (updateSeq s.heap.objs.size (·.push .none) >>= λ_=>updateSeq s.heap.objs.size (·.pop)) _ _ _;refine ae (wpAny_updateSeq (s:={ s with heap:=h2,drawn:=d2 }) sX rfl ?_);have DM:=bu (Obj.mapSeq (·.push Value.none)) sX rfl;refine wpAny_updateSeq (s:={ s with heap:=_,drawn:=d2 }) DM rfl ?_;have KO:=bu (Obj.mapSeq (·.pop)) DM rfl;have CG:∀c o,c≠s.heap.objs.size->h2.get? c=some o->((h2.update s.heap.objs.size (Obj.mapSeq (·.push Value.none))).update s.heap.objs.size (Obj.mapSeq (·.pop))).get? c=some o :=
  λc o hc e=>(cV _ _ (bP hc)).trans ((cV _ _ (bP hc)).trans e)
 have qd:s.heap.objs.size<(s.heap.push { cls:=.type "list",data:=.seq ([]:List Value).toArray }).objs.size:=by rw[size_push'];exact Nat.lt_succ_self _
 have hSI:I≠s.heap.objs.size:=bZ (aB qd yO);have hSb:b≠s.heap.objs.size:=by
  rcases KH with z|z
  ·rw[z];exact bP dH
  ·exact bZ (aB qd z)
 have W:=(WC (prog:=prog) (w:=w) (A:=A.in1) (a:=a) (b:=b) (I:=I) (es:=es) (ep:=ep) (t:=t) (pl:=pl) hh hr hb (aR (aB (cP dj qd) yO))).toS;have st:Lies h2 a es ep t/\∃f,E2 h2 I a f 0 es.size ep/\N6 h2 t b pl 0 f r:=⟨oO,f,hI,hf⟩
 have ju:=W.frame 0 ({ s with heap:=h2,drawn:=d2 }:Shared) _ s.toks st (aw _) λc hc o e=>CG c o (λz=>by simp at hc;rcases hc with y|y|y<;>simp_all) e;refine av ⟨plainId_quiet F.plain_extend_loop _,codeAny_extend_loopS W (aG hz (by decide)) _ (λz=>by simp at z;rcases z with y|y|y<;>simp_all) _ es.size 0 _ _ _ rfl (cJ _) ju KO (ItemsOf.nil _) λs' uv c' hm kY jD=>?_⟩;show wpAny _ A (load s.heap.objs.size >>= _) _ _ s';refine ae (wpAny_load kY ?_);refine av ?_;have eS:s'={ s with heap:=s'.heap,drawn:=d2,toks:=s'.toks }:=by
  obtain⟨iP,g',d',kx,rA⟩:=s';have m1:g'=s.gens:=hm.gens;have m2:d'=d2:=hm.drawn;have m3:rA=s.os:=hm.os;subst m1;subst m2;subst m3
  rfl
 have eo:uv.toList=uh w a es ep pl r:=by
  have l1:(uh w a es ep pl r).length=es.size:=by rw[(Ib hr).length_eq];simp
  apply List.ext_getElem
  ·rw[l1];simpa using jD.1
  ·intro i h1 h2;have:=jD.2 i uv.toList[i] (by simp at h1 ⊢);dsimp only at this;rw[ai h2] at this;exact(aQ this).symm
 rw[eo,eS];refine h _ _ d2 s'.toks (Ib hr) (λc o e=>?_) (et (aD kY)) hm.toks;have hc:c<s.heap.objs.size:=aD e;have n1:c≠s.heap.objs.size:=aR hc;have n2:c≠I:=aR (aB (cP hc qd) yO);exact hm.heap c o (by simp[n1,n2]) (CG c o n1 (he c o (au _ e)))
theorem Xz{ks:List Int}(hh:A.handled=none)(hS:y9 prog w s.heap a ks)(h64:ks.length<64){Q:Value->Shared->Prop}(h:∀(S:Addr) (vs:List Value) (ns:List Int) e h' d' kx,IntsAre vs ns->ns.Perm ks->ns.Pairwise (·<=·)->h'.get? S=some (seqObj "list" vs.toArray e)->s.heap.objs.size<=S->(∀c o,s.heap.get? c=some o->h'.get? c=some o)->s.toks<=kx->Q (.ref S) { s with heap:=h',drawn:=d',toks:=kx }) :
  wpAny (model prog w) A (call (.builtin "sorted") [.ref a]) Q E s:=by
 obtain⟨o,es,ep,t,ho,hx,hd,oG,hp,hn,hb,hf,hw⟩:=hS;have hL:Lies s.heap a es ep t:=⟨⟨o,ho,hx.1,hd⟩,hf⟩
 have hz:es.size=ks.length:=by rw[<- hp.length_eq];simp
 refine Calls.call_function_entry kind_sorted plain_sorted entry_sorted (args_sorted1 _) ?_;unfold Builtin.«sorted»;refine ae (m:=checkCount "sorted" 1 1 _) (av ?_);refine ae (Yb (A:=A.in1) hh hL hw (by omega) λvs h1 d1 xu hv he qd vd=>?_);have hI:IntsAre vs (vs.map toI):=by
  have all:∀v∈vs,∃tk,v=.int (toI v) tk:=λv xW=>by
   obtain⟨e,yz,rfl⟩:=aU.mp (hv.mem_iff.mp xW);obtain⟨tk,h1,_⟩:=Hi oG yz;exact⟨tk,h1⟩
  clear hv
  induction vs with
  |nil=>exact .nil
  |cons v r ih =>
   obtain⟨tk,e⟩:=all v (by simp);have:=IntsAre.cons (toI v) tk (ih λu hu=>all u (by simp[hu]));rw[<- e] at this;exact this
 have hk:(vs.map toI).Perm ks:=by
  refine(hv.map toI).trans ?_;rw[cb];exact hp
 have hl:vs.length<64:=by rw[hv.length_eq];simp;omega
 refine ae (wpAny_newList (s:={ s with heap:=h1,drawn:=d1,toks:=xu }) ?_);have sy:(h1.push (seqObj "list" vs.toArray 0)).get? h1.objs.size=some (seqObj "list" vs.toArray 0):=aH _ rfl;refine ae (cE (cL (s:={ s with heap:=h1.push (seqObj "list" vs.toArray 0),drawn:=d1,toks:=xu }) slot_list_sort ⟨_,sy,rfl⟩ entry_list_sort (list_sort_tree sy hI hl λout xH a1 a2 a3=>⟨_,rfl,?_⟩) (args_list_sort _)));obtain⟨e,yz⟩:=sortedHeap_at (vs:=vs) (out:=out) sy;refine av ⟨_,rfl,h h1.objs.size out.toList xH e _ d1 xu a1 (a2.trans hk) a3 yz qd (λc o' e'=>?_) vd⟩;have hc:=aD (he c o' e');rw[sortedHeap_old (aR hc) (by rw[size_push'];exact Nat.lt_succ_of_lt hc)];exact au _ (he c o' e')
end
end ST

namespace ST
open PySem PyProof.Rows
def i9(ks xs:List Int):List Int:=xs.foldl E0 ks
theorem M3:∀(xs ks:List Int),(i9 ks xs).length<=ks.length+xs.length
 |[],ks=>by simp[i9]
 |x::xs,ks=>by
  have:=M3 xs (E0 ks x);have h2:=QM ks x;show(i9 (E0 ks x) xs).length<=_;simp only[List.length_cons];omega
theorem AW:∀(xs ks:List Int) (k:Int),k∈i9 ks xs↔k∈ks\/k∈xs
 |[],ks,k=>by simp[i9]
 |x::xs,ks,k=>by
  show k∈i9 (E0 ks x) xs↔_;rw[AW xs];unfold E0;split
  ·rename_i h;constructor
   ·rintro(a|a)
    ·exact .inl a
    ·exact .inr (by simp[a])
   ·rintro(a|a)
    ·exact .inl a
    ·rcases aL.mp a with rfl|b
     ·exact .inl h
     ·exact .inr b
  ·simp[or_assoc]
theorem AL:∀(xs ks:List Int),ks.Nodup->(i9 ks xs).Nodup
 |[],ks,h=>h
 |x::xs,ks,h=>by
  show(i9 (E0 ks x) xs).Nodup;refine AL xs _ ?_;unfold E0;split
  ·exact h
  ·rename_i hk;rw[cM];exact⟨h,by simp,λa ha b hb=>by simp at hb;subst hb;exact λz=>hk (z▸ha)⟩
section
variable{prog:Program}{w:World}{A:Around}{E:Value->Shared->Prop}{s:Shared}{a:Addr}
theorem Xa:Well (Led w) (SetTable.fresh 0 0 (Led w)):=⟨by simp[jr,SetTable.fresh],rfl,rfl⟩
theorem Fv{h:Heap}(e:h.get? a=some { cls:=.type "set",dict:=none,data:=.set #[] 0 (.fresh 0 0 (Led w)) }):y9 prog w h a [] :=
 ⟨_,#[],0,_,e,⟨rfl,rfl,rfl⟩,rfl,(by intro e he;simp at he),by simp,by simp,by decide,by rfl,Xa⟩
theorem Zy{R:Result->Shared->Prop}{I:Addr}{fp wr:List Addr}{G:Array GenState->Array GenState->Prop}{n:Nat}{P:Nat->Value->Prop}{St:Nat->Shared->Prop}(W:WalksS prog w A.in1 I fp wr G n P St)(DL:a∉fp){ns:List Int}(hn:n=ns.length)(hv:∀i v,P i v->∃tk,v=.int (ns.getD i 0) tk)(hb:n+1<scanBound):∀(k i:Nat) (s:Shared),i+k=n->St i s->y9 prog w s.heap a (i9 [] (ns.take i)) ->
   (∀s',Moved (a::wr) G s s'->y9 prog w s'.heap a (i9 [] ns)->R (.ok (.ret .none)) s')->codeAny (model prog w) A (.builtin "set.update.loop" ⟨[.ref a,.ref I],[]⟩) R s:=by
 have hw:a∉wr:=λh=>DL (W.sub _ h);have qZ:∀b∈wr,b∈a::wr:=λb hb=>by simp[hb]
 intro k
 induction k with
 |zero =>
  intro i s e st hS hR;obtain rfl:i=n:=by omega
  refine codeAny_builtin PyProof.Rows.F.entry_set_update_loop ?_;rw[eR eF _];unfold Builtin.«set.update.loop»;refine ae (W.done s _ _ st λs' m=>av (hR s' (m.mono qZ) (y9.at ?_ λo e=>m.heap a o hw e)));rw[hn,bK] at hS;exact hS
 |succ k ih =>
  intro i s e st hS hR;have dj:i<ns.length:=by omega
  refine codeAny_builtin PyProof.Rows.F.entry_set_update_loop ?_;rw[eR eF _];unfold Builtin.«set.update.loop»;refine ae (W.item i s _ _ (by omega) st λv s' hP jU m=>?_);obtain⟨tk,rfl⟩:=hv i v hP;have kY:=y9.at hS λo e=>m.heap a o hw e;have hl:=M3 (ns.take i) [];rw[cR] at hl;simp only[List.length_nil] at hl;refine ae (cE ?_);unfold setAdd;refine cE (ae ((intKind prog w).pyHash (k:=ns.getD i 0) (intKind_is _ _ _ _) ?_));refine EA (s:={ s' with toks:=s'.toks+1 }) kY (by omega) λh' bb sb sX=>?_;have e2:E0 (i9 [] (ns.take i)) (ns.getD i 0)=i9 [] (ns.take (i+1)):=by
   unfold i9;rw[bE,List.foldl_append,ai dj];simp[List.getD,dj]
  rw[e2] at sX;refine av ⟨plainId_quiet eF _,ih (i+1) _ (by omega) (W.frame _ s' _ _ jU (Nat.le_succ _) λb hb o e=>by rw[sb.2 b λz=>DL (z▸hb)];exact e) sX λs2 m2 h2=>?_⟩;exact hR s2 (Moved.trans W.gtrans ((m.mono qZ).then_heap (Nat.le_succ _) λb o hb e=>by rw[sb.2 b λz=>hb (by rw[z];simp)];exact e) m2) h2
end
end ST

namespace ST
open PySem PyProof.Rows
section
variable{prog:Program}{w:World}{A:Around}{E:Value->Shared->Prop}{s:Shared}{a:Addr}
noncomputable abbrev x8(w:World):Obj:={ cls:=.type "set",dict:=none,data:=.set #[] 0 (.fresh 0 0 (Led w)) }
theorem Hs{Q:Value->Shared->Prop}(h:Q (.ref s.heap.objs.size) { s with heap:=s.heap.push (x8 w) }):wpAny (model prog w) A (newSet (.type "set")) Q E s:=by
 unfold newSet;refine ae (uo ?_);exact cy h (cJ _)
theorem QS(x:Value){Q:Value->Shared->Prop}(h:Q (.ref s.heap.objs.size) { s with heap:=s.heap.push (x8 w) }):codeAny (model prog w) A (.call (.builtin "set.__new__") ⟨[.type "set",x],[]⟩) (wants Q E) s:=by
 refine codeAny_of_tree (?_:wpAny _ A.in1 (do
  checkBuiltinCall "set.__new__" ⟨[.type "set",x],[]⟩
  again (.builtin "set.__new__" ⟨[.type "set",x],[]⟩)) _ _ s)
 refine ae (eM (F.newCall_set_1 x) (av ⟨plainId_quiet F.plain_set_new _,?_⟩));refine codeAny_builtin F.entry_set_new ?_;rw[eR F.plain_set_new _];unfold Builtin.«set.__new__»;have sub:=sub_set_self;refine ae (m:=Builtin.Frozenset.newClass "set" _) ?_;unfold Builtin.Frozenset.newClass;dsimp only;refine ae (eM (a:=true) (by first|rfl|(simp[isType];rfl)) ?_);rw[aC (by decide)];refine ae (eM sub ?_);rw[aC (by decide)];refine av ?_;exact ae (Hs (av h))
theorem HX{vs:List Value}{ns:List Int}(h:IntsAre vs ns):vs.length=ns.length:=by
 induction h with
 |nil=>rfl
 |cons n t r ih=>simp[ih]
def uw(h:Heap)(l:Addr)(items:Array Value):Prop:=h.IsList l items\/h.IsTuple l items
theorem uw.lt{h:Heap}{l:Addr}{items:Array Value}(x:uw h l items):l<h.objs.size:=by
 rcases x with⟨_,e,_⟩|⟨_,e,_⟩<;>exact aD e
theorem Ra{l:Addr}{items:Array Value}{ns:List Int}{Q:Fin->Shared->Prop}(hh:A.handled=none)(hS:s.heap.get? a=some (x8 w))(hl:uw s.heap l items)(hi:IntsAre items.toList ns)(hb:items.size+1<scanBound)(dH:a≠l)(h:∀h' tk,y9 prog w h' a (i9 [] ns)->(∀b o,b≠a->s.heap.get? b=some o->h'.get? b=some o)->s.toks<=tk->wpAny (model prog w) A (ret .none) Q E { s with heap:=h',toks:=tk }) :
  wpAny (model prog w) A (Builtin.«set.__init__» ⟨[.ref a,.ref l],[]⟩) Q E s:=by
 have hT:s.TypeIs (.ref a) "set":=⟨_,hS,rfl⟩
 have hLi:Lies s.heap a #[] 0 (SetTable.fresh 0 0 (Led w)):=⟨⟨_,hS,rfl,rfl⟩,rfl⟩
 have dj:=hl.lt;have Dp:l≠s.heap.objs.size:=aR dj;unfold Builtin.«set.__init__» noKeywords;dsimp only;refine ae (eM (a:=()) rfl ?_);have nm:∀{Q':String->Shared->Prop},(∀x,Q' x s)->wpAny (model prog w) A (typeNameOfCut 200 (.ref a)) Q' E s:=λ{Q'} q=>by
  unfold typeNameOfCut shownTypeOf;refine ae (ae (eZ hT ?_));rw[aC (by decide)];refine av (eM (a:="set") ?_ (q _));unfold typeNameCut;dsimp only
  first|(unfold typeName;rw[find?_eq_fast];kernel_rfl)|kernel_rfl
 refine ae (nm λx=>?_);refine ae (m:=checkCount _ 0 1 _) (av ?_);refine ae (m:=Builtin.Frozenset.addrOf _) (av ?_);unfold setUsed;refine ae (ae (cG hS rfl rfl (av ?_)));rw[aC (by show ¬((SetTable.fill (SetTable.fresh 0 0 (Led w)) != 0)=true);unfold SetTable.fill;simp[SetTable.fresh])];unfold Builtin.Frozenset.updateFrom Builtin.Frozenset.isAnySet;obtain⟨c,qi,yL,it,hit,Dr,St,W,dP⟩:∃c:String,(c="list"\/c="tuple")/\s.TypeIs (.ref l) c/\∃it:Obj,(∀Q':Value->Shared->Prop,Q' (.ref s.heap.objs.size) { s with heap:=s.heap.push it }->wpAny (model prog w) A (pyIter (.ref l)) Q' E s) /\
   (∀b o,s.heap.get? b=some o->(s.heap.push it).get? b=some o)/\∃St:Nat->Shared->Prop,WalksS prog w A.in1 s.heap.objs.size [s.heap.objs.size,l] [s.heap.objs.size] (λa b=>b=a) items.size (λi v=>items[i]?=some v) St/\St 0 { s with heap:=s.heap.push it }:=by
  rcases hl with hl|hl
  ·obtain⟨o,ho,hc,_⟩:=id hl;exact⟨"list",.inl rfl,⟨o,ho,hc⟩,_,λQ' q=>wpAny_pyIter_list hl q,λb o e=>au _ e,_,(Walks.list (A:=A.in1) hh _ l Dp items).toS,⟨⟨_,aH _ rfl,rfl,rfl⟩,hl.push _⟩⟩
  ·obtain⟨o,ho,hc,_⟩:=id hl;exact⟨"tuple",.inr rfl,⟨o,ho,hc⟩,_,λQ' q=>wpAny_pyIter_tuple hl q,λb o e=>au _ e,_,(Walks.tuple (A:=A.in1) hh _ l Dp items).toS,⟨⟨_,aH _ rfl,rfl,rfl⟩,hl.push _⟩⟩
 refine ae (ae (ae (wpAny_isInstance (b:=false) yL (by rcases qi with rfl|rfl<;>(rw[isSubtype_type];kernel_rfl)) ?_)));show wpAny (model prog w) A (isInstance (Value.ref l) (Value.type "frozenset")) _ _ _;refine wpAny_isInstance (b:=false) yL (by rcases qi with rfl|rfl<;>(rw[isSubtype_type];kernel_rfl)) ?_;rw[aC (by decide)];refine ae (eZ yL ?_);rw[aC (by rcases qi with rfl|rfl<;>decide)];refine ae (hit _ ?_);refine ae (wpAny_runValue ?_);have KL:a<s.heap.objs.size:=aD hS;have hsz:items.size=ns.length:=by rw[<- bD];exact HX hi
 refine Zy (a:=a) (ns:=ns) W (by simp only[List.mem_cons,List.not_mem_nil,or_false,not_or];exact⟨aR KL,dH⟩) hsz (λi v hv=>IntsAre.int_at hi i v (by rw[Array.getElem?_toList];exact hv)) hb items.size 0 _ (by omega)
  dP (Fv (Dr _ _ hS)) λs' m kY=>?_
 have eS:s'={ s with heap:=s'.heap,toks:=s'.toks }:=by
  obtain⟨iP,g',d',kx,rA⟩:=s';have m1:g'=s.gens:=m.gens;have m2:d'=s.drawn:=m.drawn;have m3:rA=s.os:=m.os;subst m1;subst m2;subst m3
  rfl
 rw[eS];refine av (h _ _ kY (λb o hb e=>?_) m.toks);exact m.heap b o (by simp only[List.mem_cons,List.not_mem_nil,or_false,not_or];exact⟨hb,aR (aD e)⟩) (Dr _ _ e)
theorem QP{l:Addr}{items:Array Value}{ns:List Int}{Q:Value->Shared->Prop}(hh:A.handled=none)(hl:uw s.heap l items)(hi:IntsAre items.toList ns)(hb:items.size+1<scanBound)(h:∀h' tk,y9 prog w h' s.heap.objs.size (i9 [] ns)->(∀b o,s.heap.get? b=some o->h'.get? b=some o)->s.toks<=tk->Q (.ref s.heap.objs.size) { s with heap:=h',toks:=tk }) :
  wpAny (model prog w) A (call (.type "set") [.ref l]) Q E s:=by
 have cs:=F.called_set;obtain⟨_,_,y1⟩:=cs.mro;have y2:=cs.made;have y3:=cs.sub;have y4:=cs.notType;have y5:=cs.canCreate;have y6:=F.typeCall_set_1 (.ref l);refine wpAny_call (codeAny_of_tree (?_:wpAny _ _ (callAny (.type "set") _) _ _ _));refine av ⟨Code.quiet_builtin _ (by decide +kernel),codeAny_builtin F.entry_type_call ?_⟩;rw[Around.under_plain (weight_type_call_type "set" [.ref l] []) rfl]
 repeat (any_goals (first|assumption|wp_step))
 refine codeAny_mono (QS (.ref l) (E:=E) (Q:=λv s1=>v=.ref s.heap.objs.size/\s1={ s with heap:=s.heap.push (x8 w) }) ⟨rfl,rfl⟩) ?_;rintro(e|fl) s1 hr
 ·exact hr
 cases fl with
 |next=>exact hr
 |brk=>exact hr
 |cont=>exact hr
 |ret v =>
 obtain⟨rfl,rfl⟩:=hr;have hS:(s.heap.push (x8 w)).get? s.heap.objs.size=some (x8 w):=aH _ rfl;have hT:Shared.TypeIs { s with heap:=s.heap.push (x8 w) } (.ref s.heap.objs.size) "set":=⟨_,hS,rfl⟩
 have y7:=cs.init.lookup;have y8:=cs.init.bind (.ref s.heap.objs.size)
 repeat (any_goals (first|assumption|wp_step))
 refine codeAny_mono (codeAny_call_builtin (R:=wants (λv s2=>v=.none/\∃h' tk,s2={ s with heap:=h',toks:=tk }/\y9 prog w h' s.heap.objs.size (i9 [] ns)/\(∀b o,s.heap.get? b=some o->h'.get? b=some o)/\s.toks<=tk) E) cs.init.plain F.entry_set_init (check_set_init_1 hT ?_)) ?_
 ·have iB:uw (s.heap.push (x8 w)) l items:=hl.imp (·.push _) (·.push _);have Kh:=hl.lt;refine Ra (s:={ s with heap:=s.heap.push (x8 w) }) (by simp[hh]) hS iB hi hb (bZ Kh) λh' tk h1 h2 h3=>av ⟨rfl,h',tk,rfl,h1,λb o e=>h2 b o (aR (aD e)) (au _ e),h3⟩
 ·rintro(e|fl) s2 hr
  ·exact hr
  cases fl with
  |next=>exact hr
  |brk=>exact hr
  |cont=>exact hr
  |ret v =>
  obtain⟨rfl,h',tk,rfl,h1,h2,h3⟩:=hr
  repeat (any_goals (first|assumption|wp_step))
  exact h _ _ h1 h2 h3
end
end ST

namespace L2
open PySem PySem.Spec PyProof.Rows
def pK(X:Cx)(a:Addr)(ks:List Int):HO:=.ext λh=>ST.y9 X.prog X.w h a ks
def n8(ns:List Int):List Int:=(ST.i9 [] ns).mergeSort (λa b=>decide (a<=b))
theorem FF:∀{a b:List Int},a.Perm b->a.Pairwise (·<=·)->b.Pairwise (·<=·)->a=b
 |[],b,h,_,_=>by rw[List.nil_perm.mp h]
 |x::a,[],h,_,_=>absurd h.length_eq (by simp)
 |x::a,y::b,h,h1,h2=>by
  rw[List.pairwise_cons] at h1 h2;have e:x=y:=by
   have m1:=h.mem_iff (a:=y);have m2:=h.mem_iff (a:=x);simp only[List.mem_cons,true_or,true_iff,iff_true] at m1 m2;rcases m1 with z|z
   ·exact z.symm
   ·rcases m2 with z'|z'
    ·exact z'
    ·have:=h1.1 y z;have:=h2.1 x z';omega
  subst e;rw[FF (h.cons_inv) h1.2 h2.2]
theorem Xy(ns:List Int):(n8 ns).Pairwise (·<=·):=by
 have:=List.pairwise_mergeSort (le:=λa b:Int=>decide (a<=b)) (λa b c h1 h2=>by simp at *;omega) (λa b=>by simp;omega) (ST.i9 [] ns);exact this.imp λh=>by simpa using h
theorem P5(ns:List Int):(n8 ns).Perm (ST.i9 [] ns):=List.mergeSort_perm _ _
theorem O5(ns:List Int):(n8 ns).length<=ns.length:=by
 rw[(P5 ns).length_eq];have:=ST.M3 ns [];simpa using this
section
variable{X:Cx}{pins:List (Addr×Obj)}{Z:St}{H:Hp}{s:Shared}
theorem Inv.draw(I:Inv X pins Z H s)(d:Drawn):Inv X pins Z H { s with drawn:=d } :=
 I.step (g':=s.gens) (t':=s.toks) (d':=d) (ch:=[]) (by simp) (λb o _ _ _ e _=>e) (λb o _ _ _ e _=>⟨o.slots,e⟩) (λb o _ _ e=>e) (λb o _ e=>⟨o,e⟩) (λ_ _ e=>e) (λ_ _ _ e=>e) (λb ps e=>⟨#[],by simp[e]⟩) (λm hm=>hm) I.bR I.bare
theorem HE{h:Heap}{H:Hp}{a:Addr}{ks:List Int}(x:ST.y9 X.prog X.w h a ks):m8 X.prog X.w H h a (pK X a ks) :=
 ⟨x,by obtain⟨o,_,_,_,e,_⟩:=x;exact⟨o,e⟩,λh1 h2 y k=>y.at k⟩
theorem XG{ns:List Int}{vs:List Value}(h:IntsAre vs ns):Vals (ns.map V.int) vs:=by
 induction h with
 |nil=>exact .nil
 |cons n t r ih=>exact .cons ⟨t,rfl⟩ ih
theorem L9:∀{ns:List Int} {vs:List Value},Vals (ns.map V.int) vs->IntsAre vs ns
 |[],_,h=>by cases h;exact .nil
 |n::ns,_,h=>by
  cases h with
  |cons r rr =>
   obtain⟨t,rfl⟩:=r;exact .cons n t (L9 rr)
theorem GD(hc:X.calm=true):m5 X (.type "set") (λxs H Q=>∃a ns,xs=[.ref a]/\fo X.K H a (ns.map V.int)/\ns.length<60/\∀p,H p=none->Q (.ref p) (upd H p (pK X p (ST.i9 [] ns)))):=by
 intro pins s Z H xs us Q I r h;obtain⟨a,ns,rfl,hq,hl,q⟩:=h;cases r with
 |cons r rr =>
 cases rr;cases r;obtain⟨aW,rv,p,hz⟩:=I.list hq;have hI:=L9 rv;have hlen:=ST.HX hI;refine ST.QP (ns:=ns) (I.ok.hd hc) (.inl p.isList) (by simpa using hI) (by rw[aI,hlen];exact aB (Nat.succ_lt_succ hl) (by decide)) λh' tk hS hk _=>?_;exact⟨.ref _,_,I.laid (a:=s.heap.objs.size) (t':=tk) hk (aw _) (HE hS),rfl,q _ (I.bR.fresh (aw _))⟩
theorem V1(hc:X.calm=true):m5 X (.builtin "sorted") (λxs H Q=>∃a ns,xs=[.ref a]/\H a=some (pK X a (ST.i9 [] ns))/\ns.length<60/\∀p,H p=none->Q (.ref p) (upd H p (.lst ((n8 ns).map V.int)))):=by
 intro pins s Z H xs us Q I r h;obtain⟨a,ns,rfl,ha,hl,q⟩:=h;cases r with
 |cons r rr =>
 cases rr;cases r;have hS:ST.y9 X.prog X.w s.heap a (ST.i9 [] ns):=(I.bR a _ ha).1;have hn:=ST.M3 ns [];simp only[List.length_nil] at hn;refine ST.Xz (I.ok.hd hc) hS (by omega) λS vs xH e h' d' kx h1 h2 h3 h4 h5 h6 _=>?_;have e1:xH=n8 ns:=FF (h2.trans (P5 ns).symm) h3 (Xy ns);subst e1;have hz:=O5 ns;exact⟨.ref S,_,(I.laid (a:=S) (o:=.lst ((n8 ns).map V.int)) (t':=kx) h6 h5 ⟨by rw[ao];exact aG hz (aG (et hl) (by decide)),vs,e,XG h1,h4⟩).draw d',rfl,q S (I.bR.fresh h5)⟩
end
end L2

namespace ST
open PySem PyProof.Rows
theorem QO{prog:Program}{w:World}{A:Around}{E:Value->Shared->Prop}{s:Shared}{a:Addr}{ks:List Int}{k:Int}{tk:Tok}{Q:Value->Shared->Prop}(hS:y9 prog w s.heap a ks)(hr:ks.length+1<scanBound)(h:∀h',Heap.SameBut a s.heap h'->y9 prog w h' a (E0 ks k)->Q .none { s with heap:=h',toks:=s.toks+1 }):wpAny (model prog w) A (call (.builtin "set.add") [.ref a,.int k tk]) Q E s:=by
 have hT:s.TypeIs (.ref a) "set":=let ⟨o,_,_,_,e,x,_⟩:=hS;⟨o,e,x.1⟩
 refine cL F.slot_set_add hT F.entry_set_add ?_ (F.args_set_add_2 _ _);have go:∀(Q':Fin->Shared->Prop),(∀h',Heap.SameBut a s.heap h'->y9 prog w h' a (E0 ks k)->wpAny (model prog w) A.in1 (ret .none) Q' E { s with heap:=h',toks:=s.toks+1 })->wpAny (model prog w) A.in1 (do let _ <- setAdd a (.int k tk);ret .none) Q' E s:=λQ' q=>by
  unfold setAdd;refine ae (cE (ae ((intKind prog w).pyHash (k:=k) (intKind_is _ _ _ _) ?_)));exact EA (s:={ s with toks:=s.toks+1 }) hS hr λh' b sb S2=>q h' sb S2
 unfold Builtin.«set.add» Builtin.Frozenset.oneOther;simp only[List.isEmpty_nil,bind_assoc];unfold Builtin.Frozenset.addrOf;refine ae (av ?_)
 try dsimp only
 refine ae (av ?_)
 try dsimp only
 exact go _ λh' sb S2=>av ⟨_,rfl,h h' sb S2⟩
end ST
namespace L2
open PySem PySem.Spec PyProof.Rows
section
variable{prog:Program}{w:World}{A:Around}{R:Result->Shared->Prop}{s:Shared}
theorem XD(elt target iter:Expr)(ifs:List Expr)(scope:Scope)(pos:Pos)(it acc:Value)(env:Env):compTurn (.SetComp elt [⟨target,iter,ifs,0⟩] scope pos) 0 it acc env=(do
      standAt iter.pos
      match <- pyNext it with
      |none=>pure (.done .next)
      |some v =>
        letOwnedTupleGo target it v
        assign target env v
        let mut ok:=true
        for c in ifs do if ok then ok <- isTrue c env (eval c env)
        if ok then(do let x <- eval elt env;standAt elt.pos;let _ <- call (.builtin "set.add") [acc,x])
        again (.compLoop (.SetComp elt [⟨target,iter,ifs,0⟩] scope pos) 0 it acc env)):=by rfl
theorem VA{elt target iter:Expr}{ifs:List Expr}{scope:Scope}{pos:Pos}{it acc:Value}{env:Env}(I:Nat->Shared->Prop)(turn:∀ n s,I n s->wpAny (model prog w) A (pyNext it) (λr cj=>match r with
   |none=>R (.ok .next) cj
   | some v=>wpAny (model prog w) A (letOwnedTupleGo target it v) (λ_ cj=>wpAny (model prog w) A (assign target env v) (λ_ fP =>
     wpAny (model prog w) A (forIn ifs true λc r=>if r=true then do let ok <- isTrue c env (eval c env);pure (ForInStep.yield ok) else pure (ForInStep.yield r)) (λok fe =>
      if ok=true then wpAny (model prog w) A (eval elt env) (λx iK =>
       wpAny (model prog w) A (call (.builtin "set.add") [acc,x]) (λ_ ky=>∃ m,m < n/\I m ky) (λ_ _=>False) iK) (λ_ _=>False) fe
      else ∃ m,m < n/\I m fe) (λ_ _=>False) fP) (λ_ _=>False) cj) (λ_ _=>False) cj) (λ_ _=>False) s)(n:Nat)(h:I n s) :
  codeAny (model prog w) A (.compLoop (.SetComp elt [⟨target,iter,ifs,0⟩] scope pos) 0 it acc env) R s:=by
 refine codeAny_loop rfl I (λn s hI=>?_) n h;show wpAny _ A ((compTurn (.SetComp elt [⟨target,iter,ifs,0⟩] scope pos) 0 it acc env).onRaise (λx=>do noteFrame x env;theTreesLotGoes x)) _ _ s;refine wpAny_noted ?_;rw[XD];refine ae (dZ (ae (bA (turn n s hI) (λr cj dG=>?_) λ_ _ h'=>h'.elim)));cases r with
 |none=>exact av dG
 |some v =>
  refine ae (bA dG (λ_ cj dG=>?_) λ_ _ h'=>h'.elim);refine ae (bA dG (λ_ fP gZ=>ae (bA gZ (λok fe kI=>?_) λ_ _ h'=>h'.elim)) λ_ _ h'=>h'.elim);cases ok with
  |false=>exact wpAny_pure ⟨rfl,kI⟩
  |true =>
   exact ae (ae (bA kI (λx iK ot=>ae (dZ (ae (bA ot (λ_ ky oq=>av (av ⟨rfl,oq⟩)) λ_ _ h'=>h'.elim)))) λ_ _ h'=>h'.elim))
theorem Xu{elt target iter:Expr}{ifs:List Expr}{scope:Scope}{pos:Pos}{it acc:Value}{env:Env}(h0:codeAny (model prog w) A (.compLoop (.SetComp elt [⟨target,iter,ifs,0⟩] scope pos) 0 it acc env) R s)(h:wpAny (model prog w) A (pyIter it) (λCV s'=>codeAny (model prog w) A (.compLoop (.SetComp elt [⟨target,iter,ifs,0⟩] scope pos) 0 CV acc env) R s') (notedBy (model prog w) A env λx s'=>R (.error x) s') s) :
  codeAny (model prog w) A (.compStart (.SetComp elt [⟨target,iter,ifs,0⟩] scope pos) 0 it acc env) R s:=by
 refine codeAny_of_tree (?_:wpAny _ _ ((compStart (.SetComp elt [⟨target,iter,ifs,0⟩] scope pos) 0 it acc env).onRaise (λx=>do noteFrame x env;standAt theWindowsPlace)) _ _ s);refine wpAny_notedAt ?_;unfold compStart;refine ae (wpAny_askSetting (wpAny_ite ?_));split
 ·first
   |exact av ⟨rfl,h0⟩
   |exact ae (av (av ⟨rfl,h0⟩))
 ·refine ae (wpAny_rule ?_);exact ae (dZ (ae (bA h (λCV s' h'=>av ⟨rfl,h'⟩) λ_ _ x=>x)))
end
def Bv(o:Obj):Prop:=∀v,o.data≠.cell v
def Ou(X:Cx)(wi:TI)(d4:List Nat)(n:Nat)(g:TG)(tc:TT)(te:TE):TE:=λZ H Q=>wi Z H λJ H1=>∃W:Nat->Nat->List Int->St->Hp->Prop,(∃m,W 0 m [] (C5 Z d4 n) H1)/\∀i m ys Z H,W i m ys Z H ->
 (J.stop i H/\∀p,H p=none->Q (.ref p) (upd H p (pK X p (ST.i9 [] ys)))) \/
 (J.go i H/\ys.length < 60/\∀ x H',J.nQ i H x H'->g x Z H' λcC H2=>tc cC H2 λb H3 =>
  if b=true then te cC H3 λy H4=>∃ k,y=.int k/\∃ m',m' < m/\W (i + 1) m' (ys ++ [k]) cC H4 else ∃ m',m' < m/\W (i + 1) m' ys cC H3)
section
variable{X:Cx}{pins:List (Addr×Obj)}{Z:St}{H:Hp}{s:Shared}
theorem Inv.Ox{D:Addr}{φ:Heap->Prop}(I:Inv X pins Z H s)(f:C6 X pins H D)(hs:X.df.heap.objs.size<=D)(ho:m8 X.prog X.w (upd H D (.ext φ)) s.heap D (.ext φ)):Inv X pins Z (upd H D (.ext φ)) s:=by
 obtain⟨f0,f1,f2,f3,f4,f5⟩:=f;have dH:∀b o,X.df.heap.get? b=some o->b≠D:=λb o e z=>absurd (aD e) (by rw[z];exact Nat.not_lt.mpr hs);have tup:∀b u,H b=some u->upd H D (.ext φ) b=some u:=λb u e=>by rw[d8 (l9 e f0)];exact e
 refine⟨I.ok,I.os,I.bare,⟨?_,?_,?_,I.base.there,?_,?_,?_⟩,I.loc,I.cell,?_,?_,?_,?_,I.len⟩
 ·exact λb o e n1 n2 n3=>I.base.keep b o e n1 n2 n3
 ·exact λb o e n1 n2 n3=>I.base.slot b o e n1 n2 n3
 ·exact λb o e n1 n2=>by rw[d8 (dH b o e)];exact I.base.free b o e n1 n2
 ·exact λb xs e=>tup _ _ (I.base.gH b xs e)
 ·exact λb o u e=>tup _ _ (I.base.gy b o u e)
 ·exact λb ps e=>by
   obtain⟨more,q⟩:=I.base.gI b ps e;exact⟨more,tup _ _ q⟩
 ·rw[d8 f1.symm];exact I.free
 ·exact λx c e=>by rw[d8 (f4 x c e)];exact I.eJ x c e
 ·intro p hp;obtain⟨p1,p2,p3⟩:=I.pin p hp;exact⟨p1,by rw[d8 (f5 p hp)];exact p2,p3⟩
 ·intro a o e;by_cases ha:a=D
  ·subst ha;rw[u3] at e;cases e;exact ho
  ·rw[d8 ha] at e;have q:=I.bR a o e;refine q.V5 (λb u _ h=>h) (λb hb=>tup _ _ hb) (λb xs hb=>tup _ _ hb)
theorem Ya{elt tg iter:Expr}{ifs:List Expr}{scope:Scope}{N':List Str}{d4:List Nat}{cl:List (Str×Addr)}{pos:Pos}{it:Addr}{fp:List Addr}{tn:Nat->Heap->Prop}{J:It}{g:TG}{tc:TT}{te:TE}{RR:Value->Addr->Result->Shared->Prop}{E:Value->Shared->Prop}{W:Nat->Nat->List Int->St->Hp->Prop}{m0:Nat}{Q:VK}(S:dt X scope N' d4 cl)(hc:X.calm=true)(hg:∀C s H,PG (d7 X pins scope N' cl C s H fp) tg g)(ht:∀C s H,jP (d7 X pins scope N' cl C s H fp) ifs tc)(he:∀C s H,PE (d7 X pins scope N' cl C s H fp) elt te)(I:Inv X pins Z H s)(T:Turn X.prog X.w X.K tg J fp it tn)(st:tn 0 s.heap)(hf:∀b∈fp,C6 X pins H b)(w0:W 0 m0 [] (C5 Z d4 N'.length) H)(turn:∀ i m ys Z H,W i m ys Z H->(J.stop i H/\∀ p,H p=none->Q (.ref p) (upd H p (pK X p (ST.i9 [] ys)))) \/
   (J.go i H/\ys.length < 60/\∀ x H',J.nQ i H x H'->g x Z H' λcC H2=>tc cC H2 λb H3 =>
    if b=true then te cC H3 λy H4=>∃ k,y=.int k/\∃ m',m' < m/\W (i + 1) m' (ys ++ [k]) cC H4 else ∃ m',m' < m/\W (i + 1) m' ys cC H3))(yM:∀D C s' H' m,Inv X pins Z H' s'->Q (.ref D) H'->s'.heap.Ns C m->H' C=none->s.heap.objs.size<=C->RR (.ref D) C (.ok .next) s') :
  wpAny (model X.prog X.w) X.A (newSet (.type "set")) (λacc fe=>wpAny (model X.prog X.w) X.A (newFunctionEnv scope X.env.globals cl [] X.env.qual none .none (some X.env)) (λjZ iK =>
   codeAny (model X.prog X.w) X.A (.compStart (.SetComp elt [⟨tg,iter,ifs,0⟩] scope pos) 0 (.ref it) acc { jZ with scope:=relabel scope X.env }) (RR acc jZ.locals) iK) E fe) E s:=by
 refine ST.Hs (GK λdG fX fz kU=>?_);dsimp only at fX fz kU ⊢;generalize oP:s.heap.push (ST.x8 X.w)=H2 at fX fz kU ⊢;generalize eD:s.heap.objs.size=D at *;have hC:H2.objs.size=D+1:=by rw[<- oP,eP,eD]
 generalize eC:H2.objs.size=C at *;have tm:D≠C:=by omega
 have lt:∀b o,s.heap.get? b=some o->b<D:=λb o e=>by rw[<- eD];exact aD e
 have om:D<=C:=by omega
 have mU:∀b o,s.heap.get? b=some o->b≠C:=λb o e=>aR (aB (lt b o e) om);have kD:∀b o,s.heap.get? b=some o->b≠D:=λb o e=>aR (lt b o e);have old:∀b o,s.heap.get? b=some o->dG.get? b=some o:=λb o e=>fz b o (oP▸au _ e);have jD:dG.get? D=some (ST.x8 X.w):=fz _ _ (by rw[<- oP,<- eD];exact aH _ rfl);have hJ:∀b∈fp,∃o,s.heap.get? b=some o:=λb hb=>by
  obtain⟨o,e,_⟩:=T.obj _ _ st b hb;exact⟨o,e⟩
 have tj:D∉fp:=λhm=>by
  obtain⟨o,e⟩:=hJ D hm;exact kD D o e rfl
 have X1:Inv (d7 X pins scope N' cl C s H fp) [] (C5 Z d4 N'.length) H { s with heap:=dG } :=
  I.FU S hc hf hJ (by rw[eD];omega) ⟨_,fX⟩ old kU
 have rf:tn 0 dG:=T.keep _ _ _ st λb _ o e=>old b o e;have zk:∀{H':Hp},(∀b∈fp,H' b=none)->∀b∈fp,C6 (d7 X pins scope N' cl C s H fp) [] H' b:=λhn b hb=>by
  obtain⟨f0,f1,f2,f3,f4,f5⟩:=hf b hb;obtain⟨o,e⟩:=hJ b hb;refine⟨hn b hb,?_,?_,.inl hb,λx c q=>(wL kU q).elim (λl z=>absurd (cP (z▸l) (aB (lt b o e) om)) (bt _)) λq=>f4 x c (S.cin x c q),λp hp=>?_⟩
  ·exact mU b o e
  ·exact λz=>by
    rcases aL.mp (I.L5 b z) with z|z
    ·exact f1 z
    ·exact f2 z
  ·have iP:p∈X.pn++pins:=by simpa[d7] using hp
   exact f5 p iP
 have fD:∀{H':Hp},H' D=none->C6 (d7 X pins scope N' cl C s H fp) [] H' D:=λhn=>by
  refine⟨hn,tm,λz=>?_,.inr (by show s.heap.objs.size<=D;omega),λx c q=>?_,λp hp=>?_⟩
  ·exact absurd (I.uC (a:=D) (by omega)) λjn=>by
    rcases aL.mp (I.L5 D z) with z|z
    ·exact absurd I.lt (by rw[<- z,eD];exact bt _)
    ·exact jn z
  ·rcases wL kU q with l|q
   ·exact λz=>absurd (aB (z▸l) om) (bt _)
   ·obtain⟨v,o,e,_⟩:=I.cell x c (S.cin x c q);exact kD c o e
  ·have iP:p∈X.pn++pins:=by simpa[d7] using hp
   exact kD _ _ (I.pin p iP).1
 have oh:∀{H':Hp} {s':Shared} {bU:St} {oD:Obj},Bv oD->Inv (d7 X pins scope N' cl C s H fp) [] bU H' s'->H' D=none->s'.heap.get? D=some oD ->
   Inv (d7 X pins scope N' cl C s H fp) [(D,oD)] bU H' s':=λ{H' s' bU oD} iT J0 hn e=>J0.K9 λp hp=>by
  have z:p=(D,oD):=by simpa using hp
  subst z;obtain⟨f0,f1,f2,_⟩:=fD hn;exact⟨e,f0,f1,f2,iT⟩
 have pb:∀{H':Hp} {oD:Obj},(∀b∈fp,H' b=none)->∀b∈fp,C6 (d7 X pins scope N' cl C s H fp) [(D,oD)] H' b:=λ{H' oD} hn b hb=>by
  obtain⟨f0,f1,f2,f3,f4,f5⟩:=zk hn b hb;refine⟨f0,f1,f2,f3,f4,λp hp=>?_⟩;have iP:p∈(d7 X pins scope N' cl C s H fp).pn\/p=(D,oD):=by simpa using hp
  rcases iP with z|z
  ·exact f5 p (cZ _ z)
  ·subst z;exact λz=>tj (by rw[show D=b from z];exact hb)
 have loop:∀fe:Shared,fe={ s with heap:=dG } ->
   codeAny (model X.prog X.w) X.A (.compLoop (.SetComp elt [⟨tg,iter,ifs,0⟩] scope pos) 0 (.ref it) (.ref D) (compEnvC scope (K5 scope cl C) C X.env)) (RR (.ref D) C) fe:=by
  rintro fe rfl;refine VA (λn s'=>∃ (i:Nat) (ys:List Int) (bU:St) (H':Hp) (oD:Obj),Inv (d7 X pins scope N' cl C s H fp) [] bU H' s'/\tn i s'.heap/\(∀ b ∈ fp,H' b=none)/\H' D=none/\ys.length <= 60/\Bv oD /\
   s'.heap.get? D=some oD/\ST.y9 X.prog X.w s'.heap D (ST.i9 [] ys)/\W i n ys bU H') ?_ m0 ⟨0,[],_,H,ST.x8 X.w,X1,rf,λb hb=>(hf b hb).1,I.bR.fresh (by omega),cJ _,(λv (z:Data.set _ _ _=_)=>by cases z),jD,ST.Fv jD,w0⟩
  rintro n s3 ⟨i,ys,gG,H3,oD,I3,mP,nB,d3,z3,c3,o3,S3,w3⟩;have uN:=oh c3 I3 d3 o3;rcases turn i n ys gG H3 w3 with⟨stop,q⟩|⟨go,hz,step⟩
  ·refine cF (T.done (d7 X pins scope N' cl C s H fp) rfl rfl rfl rfl i _ s3 _ H3 _ uN (pb nB) mP stop) λr s4 ⟨hr,I4⟩=>?_;subst hr;have o4:=(I4.pin (D,oD) (by simp)).1;have J4:Inv X pins Z H3 s4:=I.HR hf I4;have zl:C6 X pins H3 D:=by
    refine⟨d3,bZ (by rw[<- eD];exact I.lt),I.uC (by omega),.inr (by have:=I.sz;omega),λx c q=>?_,λp hp=>?_⟩
    ·obtain⟨v,o,e,_⟩:=I.cell x c q;exact kD c o e
    ·exact kD _ _ (I.pin p hp).1
   obtain⟨mC,yj,_⟩:=I4.loc;exact yM D C s4 (upd H3 D (pK X D (ST.i9 [] ys))) mC (J4.Ox zl (by have:=I.sz;omega) (HE (S3.at λo e=>by rw[o3] at e;cases e;exact o4))) (q D d3) yj (by rw[d8 tm.symm];exact I4.free) (by omega)
  ·refine cF (T.item (d7 X pins scope N' cl C s H fp) rfl rfl rfl rfl i _ s3 _ H3 _ uN (pb nB) mP go) λr s4 ⟨u,hr,h4⟩=>?_;subst hr;refine cF h4 λ_ s5 bq=>?_;obtain⟨x,H5,I5,r5,y5,kz,tJ⟩:=bq;have o5:=I5.pin (D,oD) (by simp);have uM:=I5.pinned (pb tJ) (T.obj _ _ kz);refine cF (hg C s H _ s5 _ H5 x u _ uM r5 (step x H5 y5)) λ_ s6 bq=>?_;obtain⟨jQ,H6,I6,q6⟩:=bq;refine cF (ht C s H _ s6 jQ H6 _ I6 q6) λok s7 ⟨H7,I7,q7⟩=>?_;have back:∀{qT:St} {H8:Hp} {s8:Shared},Inv (d7 X pins scope N' cl C s H fp) ([(D,oD)]++X5 fp s5.heap) qT H8 s8->(∀b∈fp,H8 b=none)/\tn (i+1) s8.heap/\H8 D=none/\s8.heap.get? D=some oD :=
    λ{qT H8 s8} I8=>by
     have pf:∀b∈fp,∀o,s5.heap.get? b=some o->s8.heap.get? b=some o/\H8 b=none:=λb hb o e=>by
      have:=I8.pin (b,o) (br _ (br _ (P7 hb e)));exact⟨this.1,this.2.1⟩
     have pd:=I8.pin (D,oD) (by simp);refine⟨λb hb=>?_,T.keep _ _ _ kz λb hb o e=>(pf b hb o e).1,pd.2.1,pd.1⟩;obtain⟨o,e,_⟩:=T.obj _ _ kz b hb;exact(pf b hb o e).2
   cases ok with
   |false =>
    obtain⟨m',hm,w7⟩:=q7;obtain⟨b1,b2,b3,b4⟩:=back I7;exact⟨m',hm,i+1,ys,jQ,H7,oD,I7.K9 λp hp=>absurd hp (by simp),b2,b1,b3,z3,c3,b4,S3.at λo e=>by rw[o3] at e;cases e;exact b4,w7⟩
   |true =>
    refine cF (he C s H _ s7 jQ H7 _ I7 q7) λxv s8 bq=>?_;obtain⟨y,H8,I8,r8,kk,ey,m',hm,w8⟩:=bq;subst ey;obtain⟨tk,rfl⟩:=r8;obtain⟨b1,b2,b3,b4⟩:=back I8;have S8:ST.y9 X.prog X.w s8.heap D (ST.i9 [] ys):=S3.at λo e=>by rw[o3] at e;cases e;exact b4
    have xN:=ST.M3 ys [];simp only[List.length_nil] at xN;refine ST.QO S8 (aB (by omega:_<62) (by decide)) λh' sb S9=>?_;have e9:ST.E0 (ST.i9 [] ys) kk=ST.i9 [] (ys++[kk]):=by unfold ST.i9;rw[List.foldl_append];rfl
    rw[e9] at S9;obtain⟨o9,es9,ep9,t9,g9,x9,d9,r9⟩:=id S9;have c9:Bv o9:=λv z=>by rw[d9] at z;cases z
    have Cd:Inv (d7 X pins scope N' cl C s H fp) [] jQ H8 s8:=I8.K9 λp hp=>absurd hp (by simp);obtain⟨f0,f1,f2,f3,f4,f5⟩:=fD (H':=H8) b3;have kp:∀b o,b≠D->s8.heap.get? b=some o->h'.get? b=some o:=λb' u hb hu=>by rw[sb.2 b' hb];exact hu
    refine⟨m',hm,i+1,ys++[kk],jQ,H8,o9,Cd.turned (it:=D) (t':=s8.toks+1) kp f0 f1 f3 f4 f5,T.keep _ _ _ b2 λb hb o e=>kp b o (λz=>tj (by rw[<- z];exact hb)) e,b1,b3,?_,c9,g9,S9,w8⟩;rw[bg,List.length_singleton];omega
 exact Xu (loop _ rfl) (T.self _ 0 _ _ _ rf (loop _ rfl))
theorem YN{elt tg iter:Expr}{ifs:List Expr}{scope:Scope}{N':List Str}{d4:List Nat}{cl:List (Str×Addr)}{pos:Pos}{wi:TI}{g:TG}{tc:TT}{te:TE}(S:dt X scope N' d4 cl)(hc:X.calm=true)(hi:PI X tg iter wi)(hg:∀pins C s H fp,PG (d7 X pins scope N' cl C s H fp) tg g)(ht:∀pins C s H fp,jP (d7 X pins scope N' cl C s H fp) ifs tc)(he:∀pins C s H fp,PE (d7 X pins scope N' cl C s H fp) elt te)(hs:∀x,foldedSetIterable iter X.env x=pure x):PE X (.SetComp elt [⟨tg,iter,ifs,0⟩] scope pos) (Ou X wi d4 N'.length g tc te):=by
 intro pins s Z H Q I h;rw[arm_eval_SetComp];refine wpAny_comprehension_free (use:=none) rfl hs S.pB S.kind S.names (cF (hi pins s Z H _ I h) λxv cj dG=>cF dG λse fP gZ=>?_);obtain⟨it,fp,tn,J,H2,e,I2,T,ju,f2,W,⟨m0,w0⟩,turn⟩:=gZ;subst e;refine Ya (RR:=λacc C=>compPost (model X.prog X.w) X.A X.xe none (EP X pins Z Q) acc C) S hc (λC s H=>hg pins C s H fp) (λC s H=>ht pins C s H fp) (λC s H=>he pins C s H fp) I2 T ju f2 w0 turn ?_;intro D C s' H' m I' q hn hC hsz;exact⟨m,hn,λh' sb=>⟨.ref D,H',I'.EO hsz I2 hC sb,rfl,q⟩⟩
end
end L2

namespace HT
open PySem PyProof.Rows Builtin
theorem VR:fillsNumberSlot (.type "tuple") "mul"=pure false :=
 PySem.fillsNumberSlot_seq (id:="tuple.__mul__") (r:=some (.builtin "tuple.__rmul__")) F.slot_tuple_mul.lookup (by decide +kernel) F.slot_tuple_rmul.lookup (by decide +kernel)
theorem Yq:seqRepeat? (.type "tuple")=pure (some (.builtin "tuple.__mul__")):=by
 unfold seqRepeat?;rw[PySem.seqSlot_of (T:="tuple") (name:="__mul__") (id:="tuple.__mul__") F.slot_tuple_mul.lookup (by decide +kernel),PySem.seqSlot_of (T:="tuple") (name:="__rmul__") (id:="tuple.__rmul__") F.slot_tuple_rmul.lookup (by decide +kernel)]
 rfl
theorem VJ(a:Int)(t:Tok)(l:Addr)(items:Array Value)(n:Nat)(dd:Option Addr)(sl:Array (Option Value)) :
  Meets (Builtin.«int.__rmul__» ⟨[.int a t,.ref l],[]⟩) (λ_ R s=>s.heap.get? l=some { cls:=.type "tuple",dict:=dd,data:=.seq items n,slots:=sl }/\R (.ok (.ret Value.notImplemented)) s) :=
 .of_wp λprog w A R s h=>by obtain⟨hp,g,d,tk,os⟩:=s;obtain⟨hl,h⟩:=h;wp_walk;exact⟨_,rfl,h⟩
theorem VO(t:Value)(c:Value):Builtin.«tuple.__mul__» ⟨[t,c],[]⟩=(do
 let n <- asIndex c
 if n < -(2 ^ 63)||n>=2 ^ 63 then
  rule "tuple.repeat.overflow";raiseError "OverflowError" s!"cannot fit '{<- typeNameOf c}' into an index-sized integer"
 let xs <- Builtin.Tuple.tupleItemsOf t
 if xs.isEmpty||n==1 then
  if <- Builtin.Tuple.tupleIsExact t then rule "tuple.repeat.same-object";return <- ret t
 if n<=0||xs.isEmpty then return <- ret (<- Builtin.Tuple.tupleExact #[])
 if xs.size*n>(2 ^ 63-1) / 8 then rule "tuple.repeat.no-memory";raiseNew (<- newExc (.type "MemoryError") [])
 if Builtin.Tuple.tupleTooMany (xs.size*n) then unsupported "tuple.__mul__:memory"
 ret (<- Builtin.Tuple.tupleExact ((List.replicate n.toNat xs).foldl (· ++ ·) #[]))):=rfl
section
variable{prog:Program}{w:World}{A:Around}{E:Value->Shared->Prop}{s:Shared}
theorem WY(aW:List Value):∀(m:Nat) (acc:Array Value),List.foldl (λx1 x2=>x1++x2) acc (List.replicate m aW.toArray)=acc++(List.replicate m aW).flatten.toArray:=by
 intro m
 induction m with
 |zero=>intro acc;simp
 |succ m ih=>intro acc;rw[cq,List.foldl_cons,ih,cq,da];simp
theorem WJ{a:Addr}{aW:List Value}{n:Int}{t:Tok}{Q:Value->Shared->Prop}(ht:IsTup s.heap a aW.toArray)(dH:aW≠[])(h1:1<=n)(h2:n<2 ^ 62)(hz:aW.length*n.toNat<=sizeLine)(q1:n=1->Q (.ref a) s)(q2:Q (.ref s.heap.objs.size) { s with heap:=s.heap.push { cls:=.type "tuple",data:=.seq (List.replicate n.toNat aW).flatten.toArray } }):wpAny (model prog w) A (binaryOp .Mult (.ref a) (.int n t)) Q E s:=by
 obtain⟨o,ho,hc,k,hd⟩:=id ht;obtain⟨cls,dict,data,slots⟩:=o;dsimp only at hc hd;subst hc hd;have he:aW.toArray.isEmpty=false:=by cases aW<;>first|exact absurd rfl dH|rfl
 refine wpAny_binaryOp_repeat_ref (T:="tuple") (U:="int") (by decide) ht.typeIs (λs'=>typeIs_int s' n t) VR F.fills_int_mul F.slot_int_rmul Yq F.slot_int_index.lookup
  (dS F.slot_int_rmul (typeIs_int s n t) F.entry_int_rmul (F.args_int_rmul_2 _ _) (VJ n t a aW.toArray k dict slots) ⟨ho,rfl,ht.typeIs,?_⟩)
 refine cL F.slot_tuple_mul ht.typeIs F.entry_tuple_mul ?_ (F.args_tuple_mul_2 _ _);rw[VO];refine ae (eM (show asIndex (.int n t)=pure n from rfl) ?_);dsimp only;rw[aC (by simp only[Bool.or_eq_true,decide_eq_true_eq];omega)];refine ae (tupleItemsOf_ ht ?_);have big:¬((aW.toArray.size:Int)*n>(2 ^ 63-1) / 8):=by
  rw[aI];have:((aW.length*n.toNat:Nat):Int)=(aW.length:Int)*n:=by rw[Int.natCast_mul];rw[show((n.toNat:Nat):Int)=n by omega]
  rw[<- this];have hs:sizeLine<2 ^ 59:=by decide
  omega
 have many:¬(Builtin.Tuple.tupleTooMany ((aW.toArray.size:Int)*n)=true):=by
  unfold Builtin.Tuple.tupleTooMany;rw[aI,dA];have:((aW.length*n.toNat:Nat):Int)=(aW.length:Int)*n:=by rw[Int.natCast_mul];rw[show((n.toNat:Nat):Int)=n by omega]
  rw[<- this];omega
 have hsz:sizeOk (.seq (List.replicate n.toNat aW).flatten.toArray):=by
  show(List.replicate n.toNat aW).flatten.toArray.size<=sizeLine;simp only[List.size_toArray,List.length_flatten,List.map_replicate,List.sum_replicate_nat];rw[Nat.mul_comm];exact hz
 by_cases e1:n=1
 ·subst e1;rw[aK (by rw[he];rfl)];unfold Builtin.Tuple.tupleIsExact;refine ae (ae (eZ ht.typeIs (av ?_)));rw[aK (by decide)]
  first
   |exact ae (wpAny_rule (ae (av ⟨_,rfl,av (q1 rfl)⟩)))
   |exact ae (wpAny_rule (av ⟨_,rfl,(q1 rfl)⟩))
   |exact ae (wpAny_rule (av ⟨_,rfl,av (q1 rfl)⟩))
 ·rw[aC (by rw[he];simpa using e1)];rw[aC (by rw[he];simp;omega),aC big,aC many];rw[show List.foldl (λx1 x2=>x1++x2) #[] (List.replicate n.toNat aW.toArray)=(List.replicate n.toNat aW).flatten.toArray by rw[WY];simp]
  first
   |exact ae (m:=Builtin.Tuple.tupleExact _) (cy (av ⟨_,rfl,q2⟩) hsz)
   |exact ae (m:=Builtin.Tuple.tupleExact _) (cy (av ⟨_,rfl,av q2⟩) hsz)
end
end HT
namespace L2
open PySem PySem.Spec PyProof.Rows
section
variable{X:Cx}
def Uw(K:PySem.W.Frag):R2:=λx y H Q=>∃(a:Addr) (n:Int) (xs:List V),x=.ref a/\y=.int n/\gF K H a xs/\xs≠[]/\1<=n/\n<2 ^ 62/\xs.length*n.toNat<=sizeLine /\
 (n=1->Q (.ref a) H)/\(∀p,H p=none->Q (.ref p) (upd H p (.tup (List.replicate n.toNat xs).flatten)))
theorem Pt:ft X (binaryOp .Mult) (Uw X.K):=by
 intro pins s Z H x y v u Q I rx ry h;obtain⟨a,n,xs,rfl,rfl,ha,dH,h1,h2,hz,q1,q2⟩:=h;cases rx;obtain⟨tk,rfl⟩:=ry;obtain⟨aW,r,p,_⟩:=I.tuple ha;refine HT.WJ p (λz=>dH (r.Q8.mp z)) h1 h2 (by rw[<- r.length];exact hz) (λe=>⟨.ref a,H,I,rfl,q1 e⟩) ?_;refine⟨.ref s.heap.objs.size,_,I.laid (t':=s.toks) (o:=.tup (List.replicate n.toNat xs).flatten) (λb ob q=>au _ q) (aw _) ?_,rfl,q2 _ (I.bR.fresh (aw _))⟩;exact⟨by rw[len_rep,Nat.mul_comm];exact hz,_,r.rep _,K1.new _ _⟩
def Pd(sep:Str)(ys:List Str):Nat:=ys.foldl (λn y=>n+y.length+sep.length) 0
end
end L2

namespace HT
open PySem PyProof.Rows Builtin PySem.SeqAt
theorem VC(l:Addr)(items:Array Value)(n:Nat)(dd:Option Addr)(sl:Array (Option Value))(x:Value)(e:Value->Bool)(j:Nat)(hj:j<items.size)(hit:e items[j]=true)(jn:∀m (hm:m<items.size),m<j->e items[m]=false) :
    Meets (Builtin.«tuple.index» ⟨[.ref l,x],[]⟩)
      (λA R s=>s.heap.get? l=some { cls:=.type "tuple",dict:=dd,data:=.seq items n,slots:=sl }/\(∀y,y∈items->EqAt A.in1 s y x (e y))/\R (.ok (.ret (.int j s.toks))) { s with toks:=s.toks+1 }) :=
  .of_wp λprog w A R s h=>by
    obtain⟨hp,g,d,tk,os⟩:=s;obtain⟨hl,he,h⟩:=h
    wp_walk using wpAny_loadPart' hl
    show wpAny (model prog w) A.in1 (forIn ([:Min.min items.size items.size]:Std.Legacy.Range) ((none,()):Option PySem.Fin × Unit) (λ(i:Nat) __s =>
            match items[i]? with
            |some y=>do
              let __do_lift <- eqBool y x
              if __do_lift=true then do
                  let __do_lift <- retInt (i:Nat)
                  pure (ForInStep.done (some __do_lift,()))
                else pure (ForInStep.yield (none,()))
            | x=>pure (ForInStep.yield (none,())))) _ _ _
    rw[Std.Legacy.Range.forIn_eq_forIn_range'];simp only[Std.Legacy.Range.size,Nat.sub_zero,Nat.add_sub_cancel,Nat.div_one,Nat.min_self];refine wpAny_forIn_list _ (λrest b s'=>b=(none,())/\s'=⟨hp,g,d,tk,os⟩/\∃i,rest=List.range' i (items.size-i)/\i<=j) _ ?_ ?_ _ _ ⟨rfl,rfl,0,by simp,cJ _⟩
    · rintro y rest b s' ⟨rfl,rfl,i,hr,hi⟩;have dj:i<items.size:=by omega
      rw[show items.size-i=(items.size-(i+1))+1 by omega,List.range'_succ] at hr;cases hr;rw[show items[y]?=some items[y] from Array.getElem?_eq_getElem dj];refine ae (he _ (Array.getElem_mem dj) prog w _ _ ?_);by_cases gf:y=j
      · subst gf;rw[hit]
        wp_walk
        exact⟨_,rfl,h⟩
      · rw[jn y dj (by omega)]
        wp_walk
        exact⟨rfl,rfl,y+1,rfl,by omega⟩
    · rintro b s' ⟨rfl,rfl,i,hr,hi⟩;exfalso;have:=congrArg List.length hr;simp at this;omega
section
variable{prog:Program}{w:World}{A:Around}{E:Value->Shared->Prop}{s:Shared}
theorem Wd:typeLookup (.type "tuple") (dunderI "add")=pure none:=by
 show typeLookup (.type "tuple") "__iadd__"=pure none;rw[typeLookup_type,builtinLookup_eq_fast];kernel_rfl
theorem QY{t b:Addr}{vs ws:List Value}{Q:Value->Shared->Prop}(ht:IsTup s.heap t vs.toArray)(hb:IsTup s.heap b ws.toArray)(h0:vs=[]->Q (.ref b) s)(h1:ws=[]->Q (.ref t) s)(h2:Q (.ref s.heap.objs.size) { s with heap:=s.heap.push { cls:=.type "tuple",data:=.seq (vs++ws).toArray } })(hsz:vs.length+ws.length<=sizeLine):wpAny (model prog w) A (inplaceOp .Add (.ref t) (.ref b)) Q E s:=by
 obtain⟨⟨cls,dd,data,sl⟩,ho,hc,n,hd⟩:=id ht;obtain⟨⟨tV,nD,data2,jH⟩,hU,kW,n2,hd2⟩:=id hb;simp only at hc hd kW hd2;subst hc hd kW hd2;have e:vs.toArray++ws.toArray=(vs++ws).toArray:=by simp
 refine wpAny_inplaceOp_concat (T:="tuple") ⟨_,ho,rfl⟩ ⟨_,hU,rfl⟩ Wd noFill_tuple_add seq_tuple_add ?_;by_cases hv:vs=[]
 ·subst hv;exact dS F.slot_tuple_add ⟨_,ho,rfl⟩ F.entry_tuple_add (F.args_tuple_add_2 _ _) (tuple_addW0 t b #[] ws.toArray n n2 dd nD sl jH rfl) ⟨ho,hU,h0 rfl⟩
 by_cases hw:ws=[]
 ·exact dS F.slot_tuple_add ⟨_,ho,rfl⟩ F.entry_tuple_add (F.args_tuple_add_2 _ _) (tuple_addW1 t b vs.toArray ws.toArray n n2 dd nD sl jH (by simpa using hv) (by simp[hw])) ⟨ho,hU,h1 hw⟩
 ·refine dS F.slot_tuple_add ⟨_,ho,rfl⟩ F.entry_tuple_add (F.args_tuple_add_2 _ _) (tuple_addW2 t b vs.toArray ws.toArray n n2 dd nD sl jH (by simpa using hv) (by simpa using hw) (by rw[aI,aI];exact hsz)) ⟨ho,hU,?_⟩;rw[e];exact h2
end
end HT
namespace L2
open PySem PySem.Spec PyProof.Rows
section
variable{X:Cx}
def wo(ys:List V)(y:V)(n:Nat):Prop:=ys.all M0=true/\M0 y=true/\(∃z,ys[n]?=some z/\lM z y=true)/\∀(m:Nat) z,m<n->ys[m]?=some z->lM z y=false
theorem Ak:∀{xs:List V} {us:List Value} {i:Nat} (hi:i<us.length),Vals xs us->∃x,xs[i]?=some x/\RelV x us[i]
 |_,_,0,hi,.cons r _=>⟨_,rfl,r⟩
 |_,_,i+1,hi,.cons _ t=>by
  obtain⟨x,h1,h2⟩:=Ak (i:=i) (by simpa using hi) t;exact⟨x,by simpa using h1,by simpa using h2⟩
theorem Iv{xs:List V}(h:xs.all M0=true){i:Nat}{x:V}(e:xs[i]?=some x):M0 x=true:=cg.mp h x (aF e)
theorem Ft{ys:List V}{y:V}{n:Nat}{aW:List Value}(F:wo ys y n)(r:Vals ys aW):∃hn:n<aW.toArray.size,qq y aW.toArray[n]=true/\∀m (hm:m<aW.toArray.size),m<n->qq y aW.toArray[m]=false:=by
 obtain⟨fs,fy,⟨z,hz,he⟩,jn⟩:=F;have hl:=r.length;have hn:n<aW.length:=by
  have:=(ak.mp hz).1;omega
 refine⟨by simpa using hn,?_,λm hm Kf=>?_⟩
 ·obtain⟨x,hx,rx⟩:=Ak hn r;rw[hz] at hx;cases hx;rw[List.getElem_toArray,BB rx (Iv fs hz)];exact he
 ·have nj:m<aW.length:=by simpa using hm
  obtain⟨x,hx,rx⟩:=Ak nj r;rw[List.getElem_toArray,BB rx (Iv fs hx)];exact jn m x Kf hx
def HA(K:PySem.W.Frag):V->List V->Hp->VK->Prop:=λx xs H Q=>∃a ys y n,x=.ref a/\xs=[y]/\gF K H a ys/\wo ys y n/\Q (.int n) H
def Hz(K:PySem.W.Frag):V->List V->Hp->VK->Prop:=λx xs H Q=>∃a ys y n,x=.ref a/\xs=[y]/\fo K H a ys/\wo ys y n/\n<2 ^ 62/\Q (.int n) H
theorem Wa:ka X "tuple.index" (HA X.K):=by
 intro pins s Z H x xs v us Q I rx r h;obtain⟨a,ys,y,n,rfl,rfl,hq,W,q⟩:=h;cases rx;cases r with
 |cons ry rr =>
 cases rr;obtain⟨aW,rv,p,hz⟩:=I.tuple hq;obtain⟨hn,hit,jn⟩:=Ft W rv;obtain⟨⟨cls,dd,data,sl⟩,ho,hc,k,hd⟩:=id p;simp only at hc hd;subst hc hd;refine dS F.slot_tuple_index p.typeIs F.entry_tuple_index (F.args_tuple_index_2 _ _) (HT.VC a aW.toArray k dd sl _ (qq y) n hn hit jn) ⟨ho,λw hw=>Ar ry W.2.1 rv W.1 w (by simpa using hw),⟨.int n,H,I.tok _,⟨_,rfl⟩,q⟩⟩
theorem V':ka X "list.index" (Hz X.K):=by
 intro pins s Z H x xs v us Q I rx r h;obtain⟨a,ys,y,n,rfl,rfl,hq,W,lY,q⟩:=h;cases rx;cases r with
 |cons ry rr =>
 cases rr;obtain⟨aW,rv,p,hz⟩:=I.list hq;obtain⟨hn,hit,jn⟩:=Ft W rv;have pt:=p.isList.typeIs;obtain⟨⟨cls,dd,data,sl⟩,k,ho,hc,DE,hd⟩:=id p;simp only at hc DE hd;subst hc DE hd;refine dS F.slot_list_index pt F.entry_list_index (F.args_list_index_2 _ _) (SeqAt.list_indexAt a aW.toArray k none sl _ (qq y) n hn (by omega) hit jn) ⟨ho,λw hw=>Ar ry W.2.1 rv W.1 w (by simpa using hw),⟨.int n,H,I.tok _,⟨_,rfl⟩,q⟩⟩
def ux(K:PySem.W.Frag)(H:Hp)(a:Addr)(xs:List V):Prop :=
 H a=some (.tup xs)\/∃(o:Obj) (aW:Array Value) (n:Nat),K.lookup a=some o/\o.cls=.type "tuple"/\o.dict=none/\o.data=.seq aW n/\aW.size<=sizeLine/\Vals xs aW.toList
theorem ux.sq{K:PySem.W.Frag}{H:Hp}{a:Addr}{xs:List V}(h:ux K H a xs):gF K H a xs:=by
 rcases h with h|⟨o,aW,n,h1,h2,_,h3,h4,h5⟩
 ·exact .inl (.inl h)
 ·exact .inr ⟨o,aW,n,h1,h2,h3,h4,h5⟩
theorem Inv.SJ{pins:List (Addr×Obj)}{Z:St}{H:Hp}{s:Shared}{a:Addr}{xs:List V}(I:Inv X pins Z H s)(h:ux X.K H a xs):s.TypeIs (.ref a) "tuple"/\∀b,Value.ref a=.ref b->∃ob,s.heap.get? b=some ob/\ob.dict=none:=by
 rcases h with h|⟨o,aW,n,h1,h2,h3,_⟩
 ·obtain⟨_,aW,_,o,e,c,_,d⟩:=(show m8 X.prog X.w H s.heap a (.tup xs) from I.bR a _ h)
  exact⟨⟨o,e,c⟩,λb q=>by cases q;exact⟨o,e,d⟩⟩
 ·exact⟨⟨o,I.fV a o h1,h2⟩,λb q=>by cases q;exact⟨o,I.fV a o h1,h3⟩⟩
def Oq(K:PySem.W.Frag)(to:TE)(t:TA):TE:=λZ H Q=>to Z H λx H1=>(∃a xs,x=.ref a/\fo K H1 a xs/\t Z H1 λys H2=>Hz K x ys H2 Q)\/(∃a xs,x=.ref a/\ux K H1 a xs/\t Z H1 λys H2=>HA K x ys H2 Q)
theorem YK{o e:Expr}{es:List Expr}{to:TE}{t:TA}{apos dY:Pos}(ho:PE X o to)(ha:PA X (e::es) t)(fM:attributeBase o "index" X.env (eval o X.env)=eval o X.env)(jC:((backTo dY (starEach (e :: es) X.env)).all (λx=>!x.1) && (backToKw dY (keywordEach [] X.env)).all (λx=>x.1.isSome)
   && decide ((e :: es).length + ([]:List Keyword).length + (if ([]:List Keyword).isEmpty then 0 else 1) < 30))=true)(fL:(apos.endLine==dY.line)=true)(hs:starEach (e::es) X.env=(false,eval e X.env)::starEach es X.env)(eV:(backTo dY (starEach es X.env)).any (·.1)=false) :
  PE X (.Call (.Attribute o "index" apos) (e::es) [] dY) (Oq X.K to t):=by
 intro pins s Z H Q I h;refine wpAny_Call_method_late fM jC fL rfl (cF (ho pins s Z H _ I h) λv s1 bq=>?_);obtain⟨x,H1,I1,r1,q1⟩:=bq;rcases q1 with⟨a,xs,rfl,hq,q1⟩|⟨a,xs,rfl,hq,q1⟩
 ·cases r1;obtain⟨aW,rv,pl,hz⟩:=I1.list hq;have pt:=pl.isList.typeIs;obtain⟨ob,k,e1,_,e2,_⟩:=id pl;refine⟨"list","list.index",F.plainAttrs_list,F.slot_list_index,F.type_list_index,pt,λb q=>by cases q;exact⟨ob,e1,e2⟩,?_⟩;have hA:=ha dY pins s1 Z H1 _ I1 q1;rw[hs] at hA ⊢;refine Calls.callWith_builtin (by show(false||(backTo dY (starEach es X.env)).any (·.1))=false;rw[eV]<;>rfl) (Calls.evalArgs_plain ?_);exact cF hA λus s2 ⟨vs,H2,I2,r2,q2⟩=>V' pins s2 Z H2 (.ref a) vs (.ref a) us Q I2 rfl r2 q2
 ·cases r1;obtain⟨pt,hd⟩:=I1.SJ hq;refine⟨"tuple","tuple.index",F.plainAttrs_tuple,F.slot_tuple_index,F.type_tuple_index,pt,hd,?_⟩;have hA:=ha dY pins s1 Z H1 _ I1 q1;rw[hs] at hA ⊢;refine Calls.callWith_builtin (by show(false||(backTo dY (starEach es X.env)).any (·.1))=false;rw[eV]<;>rfl) (Calls.evalArgs_plain ?_);exact cF hA λus s2 ⟨vs,H2,I2,r2,q2⟩=>Wa pins s2 Z H2 (.ref a) vs (.ref a) us Q I2 rfl r2 q2
def Uv(K:PySem.W.Frag):V->V->Hp->VK->Prop:=λx y H Q=>(∃i j,x=.int i/\y=.int j/\Q (.int (i+j)) H) \/
 ∃a b xs ys,x=.ref a/\y=.ref b/\gF K H a xs/\gF K H b ys/\xs.length+ys.length<=sizeLine/\(xs=[]->Q (.ref b) H)/\(ys=[]->Q (.ref a) H)/\(∀p,H p=none->Q (.ref p) (upd H p (.tup (xs++ys))))
theorem OX:Ff X .Add (Uv X.K):=by
 rintro pins s Z H x y u v Q I rx ry h;rcases h with h|⟨a,b,xs,ys,rfl,rfl,ha,hb,hz,q0,q1,q2⟩
 ·exact Vq pins s Z H x y u v Q I rx ry h
 ·cases rx;cases ry;obtain⟨aW,r1,p1,_⟩:=I.tuple ha;obtain⟨kG,r2,p2,_⟩:=I.tuple hb;refine HT.QY p1 p2 (λz=>⟨.ref b,H,I,rfl,q0 (r1.Q8.mp z)⟩) (λz=>⟨.ref a,H,I,rfl,q1 (r2.Q8.mp z)⟩) ?_ (by rw[<- r1.length,<- r2.length];exact hz);refine⟨.ref s.heap.objs.size,_,I.laid (t':=s.toks) (o:=.tup (xs++ys)) (λb ob q=>au _ q) (aw _) ?_,rfl,q2 _ (I.bR.fresh (aw _))⟩;exact⟨by rw[bg];exact hz,_,r1.append r2,K1.new _ _⟩
end
end L2

namespace ST
open PySem PyProof.Rows
def Spot(k:Int):Prop:=0<=k/\k<8
structure Own(mask:Nat)(owner:Array (Option Nat))(pre:List Int):Prop where
 sz:owner.size=mask+1
 fwd:∀(i:Nat) (k:Int),pre[i]?=some k->owner[k.toNat]?=some (some i)
 bwd:∀(j i:Nat),owner[j]?=some (some i)->pre[i]?=some (j:Int)
end ST

namespace ST
open PySem PyProof.Rows
section
variable{prog:Program}{w:World}{A:Around}{E:Value->Shared->Prop}{s:Shared}{a:Addr}
end
end ST
namespace L2
open PySem PySem.Spec PyProof.Rows
variable{X:Cx}
end L2

namespace ST
open PySem PyProof.Rows
section
variable{prog:Program}{w:World}{A:Around}{E:Value->Shared->Prop}{s:Shared}{a:Addr}{ep:Nat}{K:Type}[DecidableEq K]{knd:PySem.KeyKind prog w K}{kvs:List (K×Value)}
end
end ST
namespace L2
open PySem PySem.Spec PyProof.Rows
section
variable{X:Cx}
theorem ZI(hc:X.calm=true):m5 X (.builtin "any") (λxs H Q=>∃(a:Addr) (bs:List Bool),xs=[.ref a]/\fo X.K H a (bs.map V.bl)/\Q (.bl (bs.any id)) H):=by
 intro pins s Z H xs us Q I r h;obtain⟨a,bs,rfl,ha,q⟩:=h;obtain⟨u,rfl,ru⟩:=vals1 r;cases ru;obtain⟨aW,rv,p,hz⟩:=I.list ha;refine call_any_walk ?_;refine wpAny_pyIter_list p.isList ?_;have dH:a≠s.heap.objs.size:=by
  obtain⟨o,e,_⟩:=id p.isList;exact aR (aD e)
 have hl:=rv.length;rw[ao] at hl;refine⟨s.heap.objs.size,_,_,_,_,_,λi=>bs.getD i false,rfl,Walks.list (A:=X.A.in1) (I.ok.hd hc) _ a dH aW.toArray,⟨⟨_,aH _ rfl,rfl,rfl⟩,?_⟩,?_,λh' tk k=>?_⟩
 ·obtain⟨o,e,q1⟩:=id p.isList;exact⟨o,au _ e,q1⟩
 ·intro i v s' Q' E' hP hQ;have hv:aW[i]?=some v:=by simpa using hP
  have hi:i<bs.length:=by rw[hl];exact(ak.mp hv).1
  obtain⟨u',mZ,rz⟩:=rv.get (i:=i) (x:=V.bl bs[i]) (by rw[ag,ai hi];rfl);rw[hv] at mZ;cases mZ;cases (show v=Value.bool bs[i] from rz);refine cx ?_;have:bs.getD i false=bs[i]:=by simp[List.getD,hi]
  dsimp only at hQ;rw[this] at hQ;exact hQ
 ·have e1:(List.range aW.toArray.size).any (λi=>bs.getD i false)=bs.any id:=by
   rw[aI,<- hl];rw[aV];simp only[List.any_eq_true,List.mem_range,id];constructor
   ·rintro⟨i,hi,hh⟩;exact⟨bs[i],cc hi,by simpa[List.getD,hi] using hh⟩
   ·rintro⟨x,hx,hh⟩;obtain⟨i,hi,rfl⟩:=bG.mp hx;exact⟨i,hi,by simpa[List.getD,hi] using hh⟩
  rw[e1];exact ⟨.bl (bs.any id),H,I.kept (t':=tk) λb o e=>k b o (by
   intro hb;have:b=s.heap.objs.size:=by simpa using hb
   exact absurd (aD e) (by rw [this];exact bt _)) (au _ e),rfl,q⟩
end
end L2

namespace L2
open PySem PySem.Spec PyProof.Rows
section
variable{X:Cx}
theorem W8{aW:List Value}{ns:List Int}(hi:IntsAre aW ns):∃xs,aW.toArray=intItems xs/\ns=xs.toList.map (·.1):=by
 obtain⟨xs,e⟩:=hi.allInts.items;exact⟨xs,e,by rw[<- hi.numsOf,<- nums_intItems,<- e]⟩
theorem ZO(hc:X.calm=true):m5 X (.builtin "sum") (λxs H Q=>∃a,∃ns:List Int,xs=[.ref a]/\fo X.K H a (ns.map V.int)/\Q (.int ns.sum) H):=by
 intro pins s Z H xs us Q I r h;obtain⟨a,ns,rfl,ha,q⟩:=h;obtain⟨u,rfl,ru⟩:=vals1 r;cases ru;obtain⟨aW,rv,p,hz⟩:=I.list ha;obtain⟨xs,e,en⟩:=W8 (L9 rv);refine sum_intListG (xs:=xs) (I.ok.hd hc) (by rw[<- e];exact p.isList) λh' tk t' k=>⟨.int ns.sum,H,I.kept k,⟨t',?_⟩,q⟩
 rw[preSum_eq,List.take_of_length_le (by simp),en]
theorem ZL(hc:X.calm=true):m5 X (.builtin "max") (λxs H Q=>∃a,∃(ns:List Int) (M:Int),xs=[.ref a]/\fo X.K H a (ns.map V.int)/\M∈ns/\(∀x∈ns,x<=M)/\Q (.int M) H):=by
 intro pins s Z H xs us Q I r h;obtain⟨a,ns,M,rfl,ha,hm,hM,q⟩:=h;obtain⟨u,rfl,ru⟩:=vals1 r;cases ru;obtain⟨aW,rv,p,hz⟩:=I.list ha;obtain⟨xs,e,en⟩:=W8 (L9 rv);have hsz:0<xs.size:=by
  have:=List.length_pos_of_mem hm;rw[en,ao,bD] at this;exact this
 refine max_intList (xs:=xs) (I.ok.hd hc) (by rw[<- e];exact p.isList) hsz λv h' tk hv k=>?_;obtain⟨t,rfl⟩:=intItems_at hv;obtain⟨h1,h2⟩:=argBest_gt (numAt xs) (xs.size-1);generalize argBest (λi j=>decide (numAt xs i>numAt xs j)) (xs.size-1)=j0 at *;have m1:numAt xs j0∈ns:=by rw[en,numAt_eq];exact getD_mem (by rw[ao,bD];omega)
 have m2:M<=numAt xs j0:=by
  rw[en] at hm;obtain⟨j,hj,rfl⟩:=mem_getD hm;rw[ao,bD] at hj;rw[<- numAt_eq];exact h2 j (by omega)
 have e2:numAt xs j0=M:=Int.le_antisymm (hM _ m1) m2;exact⟨.int M,H,I.kept k,⟨t,by rw[e2]⟩,q⟩
theorem ZN(hc:X.calm=true):m5 X (.builtin "min") (λxs H Q=>∃a,∃(ns:List Int) (M:Int),xs=[.ref a]/\fo X.K H a (ns.map V.int)/\M∈ns/\(∀x∈ns,M<=x)/\Q (.int M) H):=by
 intro pins s Z H xs us Q I r h;obtain⟨a,ns,M,rfl,ha,hm,hM,q⟩:=h;obtain⟨u,rfl,ru⟩:=vals1 r;cases ru;obtain⟨aW,rv,p,hz⟩:=I.list ha;obtain⟨xs,e,en⟩:=W8 (L9 rv);have hsz:0<xs.size:=by
  have:=List.length_pos_of_mem hm;rw[en,ao,bD] at this;exact this
 refine min_intList (xs:=xs) (I.ok.hd hc) (by rw[<- e];exact p.isList) hsz λv h' tk hv k=>?_;obtain⟨t,rfl⟩:=intItems_at hv;obtain⟨h1,h2⟩:=argBest_lt (numAt xs) (xs.size-1);generalize argBest (λi j=>decide (numAt xs i<numAt xs j)) (xs.size-1)=j0 at *;have m1:numAt xs j0∈ns:=by rw[en,numAt_eq];exact getD_mem (by rw[ao,bD];omega)
 have m2:numAt xs j0<=M:=by
  rw[en] at hm;obtain⟨j,hj,rfl⟩:=mem_getD hm;rw[ao,bD] at hj;rw[<- numAt_eq];exact h2 j (by omega)
 have e2:numAt xs j0=M:=Int.le_antisymm m2 (hM _ m1);exact⟨.int M,H,I.kept k,⟨t,by rw[e2]⟩,q⟩
theorem ZH(hc:X.calm=true):m5 X (.builtin "all") (λxs H Q=>∃(a:Addr) (ns:List Int),xs=[.ref a]/\fo X.K H a (ns.map V.int)/\Q (.bl (ns.all λn=>n != 0)) H):=by
 intro pins s Z H xs us Q I r h;obtain⟨a,ns,rfl,ha,q⟩:=h;obtain⟨u,rfl,ru⟩:=vals1 r;cases ru;obtain⟨aW,rv,p,hz⟩:=I.list ha;refine call_all_walk ?_;refine wpAny_pyIter_list p.isList ?_;have dH:a≠s.heap.objs.size:=by
  obtain⟨o,e,_⟩:=id p.isList;exact aR (aD e)
 have hl:=rv.length;rw[ao] at hl;refine⟨s.heap.objs.size,_,_,_,_,_,λi=>ns.getD i 1 != 0,rfl,Walks.list (A:=X.A.in1) (I.ok.hd hc) _ a dH aW.toArray,⟨⟨_,aH _ rfl,rfl,rfl⟩,?_⟩,?_,λh' tk k=>?_⟩
 ·obtain⟨o,e,q1⟩:=id p.isList;exact⟨o,au _ e,q1⟩
 ·intro i v s' Q' E' hP hQ;have hv:aW[i]?=some v:=by simpa using hP
  have hi:i<ns.length:=by rw[hl];exact(ak.mp hv).1
  obtain⟨u',mZ,rz⟩:=rv.get (i:=i) (x:=V.int ns[i]) (by rw[ag,ai hi];rfl);rw[hv] at mZ;cases mZ;obtain⟨t,rfl⟩:=rz;refine truthy_int ?_;have:ns.getD i 1=ns[i]:=by simp[List.getD,hi]
  dsimp only at hQ;rw[this] at hQ;exact hQ
 ·have e1:(List.range aW.toArray.size).all (λi=>ns.getD i 1 != 0)=ns.all λn=>n != 0:=by
   rw[aI,<- hl];rw[aV];simp only[List.all_eq_true,List.mem_range];constructor
   ·intro hh x hx;obtain⟨i,hi,rfl⟩:=bG.mp hx;have:=hh i hi;simpa[List.getD,hi] using this
   ·intro hh i hi;have:=hh ns[i] (cc hi);simpa[List.getD,hi] using this
  rw[e1];exact ⟨.bl _,H,I.kept (t':=tk) λb o e=>k b o (by
   intro hb;have:b=s.heap.objs.size:=by simpa using hb
   exact absurd (aD e) (by rw [this];exact bt _)) (au _ e),rfl,q⟩
theorem Vt:m5 X (.builtin "len") (λxs H Q=>∃a,∃ks:List Int,xs=[.ref a]/\H a=some (pK X a ks)/\Q (.int ks.length) H):=by
 intro pins s Z H xs us Q I r h;obtain⟨a,ks,rfl,ha,q⟩:=h;obtain⟨u,rfl,ru⟩:=vals1 r;cases ru;have hS:ST.y9 X.prog X.w s.heap a ks:=(I.bR a _ ha).1;obtain⟨o,es,ep,t,e,ex,ed,_,hp,nd,hz,hf,_⟩:=hS;have hl:es.size=ks.length:=by have:=hp.length_eq;simpa using this
 refine call_len_set e ex ed hf (by have:scanBound<2 ^ 62:=(by decide);omega) ⟨.int ks.length,H,I.tok _,⟨_,by rw[hl]⟩,q⟩
end
end L2

namespace L2
open PySem PySem.Spec PyProof.Rows
section
variable{X:Cx}
theorem PK{i:Int}{j:Nat}{p pos:Pos}(kT:PySem.W.kdsCode X.K X.env.code=true):PE X (.Set [.Constant (.int i) j p] 0 pos) (λZ H Q=>∀q,H q=none->Q (.ref q) (upd H q (.set (λk=>decide (k=i)) 1))):=by
 intro pins s Z H Q I h;rw[arm_eval_Set];refine ae (dZ ?_);refine ae (PySem.W.kds_main I.fV kT λb=>?_);rw[PySem.W.kds_star _ (by rfl),cb];refine PySem.W.kds_core (ts:=(evalEach [Expr.Constant (.int i) j p] X.env).map λt=>do let v <- t;standAt pos;pure v) (by rfl) (by rfl) (by show 1<=30;decide) (by rw[cb];rfl) λled=>?_;refine PySem.W.kds_all pos _ _ _ ?_;show wpAny _ _ (eval (.Constant (.int i) j p) X.env) _ _ _;refine wpAny_Constant_int ?_;refine PySem.W.kds_fill_cons ?_;have KQ:(s.heap.push { cls:=.type "set",dict:=none,data:=.set #[] 0 (.fresh 0 0 led) }).SetOf (intKind X.prog X.w) s.heap.objs.size (λ_=>false) 0:=(setObjOf_fresh led).setOf (aH _ rfl) (by decide);unfold setAdd;refine cE (ae ((intKind X.prog X.w).pyHash (k:=i) (intKind_is _ _ _ _) ?_));refine wpAny_setAddHashed_of (knd:=intKind X.prog X.w) (intKind_is _ _ _ _) rfl KQ (by decide) λh' xZ kY=>?_;refine PySem.W.kds_fill_nil (by rfl) ?_;have kp:∀b u,s.heap.get? b=some u->h'.get? b=some u:=λb u e=>(xZ.2 b (aR (aD e))).trans (au _ e);exact⟨.ref s.heap.objs.size,_,I.laid (a:=s.heap.objs.size) (o:=.set (λk=>decide (k=i)) 1) kp (aw _) (by show Heap.SetOf _ _ _ _ _;simpa using kY),rfl,h _ (I.bR.fresh (aw _))⟩
theorem Wg:ft X (compareOp .In) (λx y H Q=>∃i a S n,x=.int i/\y=.ref a/\H a=some (.set S n)/\Q (.bl (S i)) H):=by
 intro pins s Z H x y v u Q I rx ry h;obtain⟨i,a,S,n,rfl,rfl,ha,q⟩:=h;obtain⟨t,rfl⟩:=rx;cases ry;exact wpAny_inSet_of (knd:=intKind X.prog X.w) (k:=i) (intKind_is _ _ _ _) rfl (I.bR a _ ha) ⟨.bl (S i),H,I.tok _,rfl,q⟩
theorem Yp:ft X (compareOp .NotIn) (λx y H Q=>∃i a S n,x=.int i/\y=.ref a/\H a=some (.set S n)/\Q (.bl (!S i)) H):=by
 intro pins s Z H x y v u Q I rx ry h;obtain⟨i,a,S,n,rfl,rfl,ha,q⟩:=h;obtain⟨t,rfl⟩:=rx;cases ry;exact wpAny_notInSet_of (knd:=intKind X.prog X.w) (k:=i) (intKind_is _ _ _ _) rfl (I.bR a _ ha) ⟨.bl (!S i),H,I.tok _,rfl,q⟩
theorem Xm:ka X "set.add" (λx xs H Q=>∃a i S n,x=.ref a/\xs=[.int i]/\H a=some (.set S n)/\n+1<4096/\Q .bx (upd H a (.set (λk=>S k||decide (k=i)) (if S i then n else n+1)))):=by
 intro pins s Z H x vs v us Q I rx rv h;obtain⟨a,i,S,n,rfl,rfl,ha,hn,q⟩:=h;cases rx;obtain⟨u,rfl,t,rfl⟩:=rv.one;refine call_set_add (knd:=intKind X.prog X.w) (k:=i) (intKind_is _ _ _ _) rfl (I.bR a _ ha) (show n+1<scanBound from hn) λh' xZ kY=>?_;obtain⟨o,es,ep,tb,ho,_⟩:=id kY;exact⟨.bx,_,I.write (x:=a) (e:=a) (o:=.set (λk=>S k||decide (k=i)) (if S i then n else n+1)) (by rw[ha];trivial) (.inl rfl) (λb u hb e=>(xZ.2 b hb).trans e) ⟨o,ho⟩ kY,rfl,q⟩
def BZ(K:PySem.W.Frag)(a:Addr)(n:Nat):It :=
 ⟨λi H=>∃xs x,fo K H a xs/\xs.length=n/\i<n/\xs[n-1-i]?=some x,λi H x H'=>H'=H/\∀xs,fo K H a xs->xs[n-1-i]?=some x,λi H=>n<=i⟩
theorem Zv{P:Program}{w:World}{K:PySem.W.Frag}{tg:Expr}(a it:Addr)(n:Nat):Turn P w K tg (BZ K a n) [it] it (λi h=>i<=n/\h.IsRevIter it a ((n:Int)-1-(i:Nat))) where
 mem:=by simp
 obj:=λi h st b hb=>by
  have e:b=it:=by simpa using hb
  subst e;obtain⟨o,e,c,d⟩:=st.2;exact⟨o,e,λv z=>by rw[d] at z;cases z⟩
 keep:=λi h h' st k=>⟨st.1,st.2.at λo e=>k it (by simp) o e⟩
 item:=by
  intro X hP hw hK hc i pins s Z H E I hf st hg;subst hP hw hK;obtain⟨xs,x,hq,hn,hi,hx⟩:=hg;obtain⟨aW,rv,p,hz⟩:=I.list hq;obtain⟨u,hu,ru⟩:=rv.get hx;obtain⟨f0,f1,f2,f3,f4,f5⟩:=hf it (by simp);have ju:=st.2;rw[show(n:Int)-1-(i:Nat)=((n-1-i:Nat):Int) by omega] at ju;refine wpAny_pyNext_rev_item ju p.isList (x:=u) (by simpa using hu) λh' jU sb=>?_;have I1:Inv X pins Z H { s with heap:=h' }:=I.turned (t':=s.toks) (λb o hb e=>(sb.2 b hb).trans e) f0 f1 f3 f4 f5;obtain⟨o,e,c,d⟩:=id jU;refine⟨u,rfl,vN (s:={ s with heap:=h' }) e c d (by decide) ⟨x,H,I1,ru,⟨rfl,λys hy=>by rw[I.Ap hy hq];exact hx⟩,⟨by omega,?_⟩,λb hb=>(hf b hb).1⟩⟩;rw[show(n:Int)-1-((i+1:Nat):Int)=((n-1-i:Nat):Int)-1 by omega];exact jU
 done:=by
  intro X hP hw hK hc i pins s Z H E I hf st hg;subst hP hw hK;obtain⟨f0,f1,f2,f3,f4,f5⟩:=hf it (by simp);have ju:=st.2;have:n<=i:=hg;rw[show(n:Int)-1-(i:Nat)=-1 by have:=st.1;omega] at ju;exact wpAny_pyNext_rev_end (I.ok.hd hc) ju λh' eb=>⟨rfl,I.turned (t':=s.toks) (λb o hb e=>eb b o hb e) f0 f1 f3 f4 f5⟩
 self:=λ_ _ _ _ _ st h=>wpAny_pyIter_revIter st.2 h
theorem boot_reversed:bootBuiltins "reversed"=some (.type "reversed"):=by decide +kernel
theorem Nt{tg l:Expr}{ta:TA}{p pos:Pos}(hg:Gl X "reversed")(hm:X.mg "reversed"=none)(ha:PA X [l] ta)(hs:starEach [l] X.env=[(false,eval l X.env)]) :
  PI X tg (.Call (.Name "reversed" p) [l] [] pos) (λZ H R=>ta Z H λvs H1=>∃a xs,vs=[.ref a]/\fo X.K H1 a xs/\R (BZ X.K a xs.length) H1):=by
 intro pins s Z H R I h;refine Call_ (L8 I hg hm boot_reversed (bO (cF (ha pos pins s Z H _ I h) λus s1 bq=>?_) hs rfl));obtain⟨vs,H1,I1,r1,q1⟩:=bq;obtain⟨a,xs,e,hq,q⟩:=q1;subst e;cases r1 with
 |cons r rr =>
  cases rr;cases r;obtain⟨aW,rv,p,hz⟩:=I1.list hq;refine call_reversed_list p.isList ?_;have hl:=rv.length;have hit:(s1.heap.push (revObj a ((aW.toArray.size:Int)-1))).IsRevIter s1.heap.objs.size a ((xs.length:Int)-1-((0:Nat):Int)):=⟨_,aH _ rfl,rfl,by simp[revObj,hl]⟩
  refine wpAny_pyIter_revIter hit ?_;refine⟨s1.heap.objs.size,[s1.heap.objs.size],_,_,H1,rfl,I1.kept (t':=s1.toks) λb o e=>au _ e,Zv a _ xs.length,⟨cJ _,hit⟩,λb hb=>?_,q⟩;have e:b=s1.heap.objs.size:=by simpa using hb
  subst e;exact I1.nH (aw _) (I1.bR.fresh (aw _))
end
end L2

namespace ST
open PySem PyProof.Rows
section
variable{prog:Program}{w:World}{A:Around}{E:Value->Shared->Prop}{s:Shared}{a:Addr}
end
end ST
namespace L2
open PySem PyProof.Rows
def UD(ns:List Int):List Int:=ns.mergeSort (λa b=>decide (a<=b))
section
variable{X:Cx}
end
end L2

namespace M
open PySem L2
inductive D where
 |bx|bl (b:Bool)|int (i:Int)|str (x:Str)|ty (n:String)|ref (i:Nat)|tup (l:List D)
inductive O where
 |lst (l:List D)|mq (l:List D)
 |ei (kvs:List (Key×D))
 |ins (c:Str) (fs:List (Str×D))
 |set (S:Int->Bool) (n:Nat)
def O.mut:O->Bool
 |.mq _=>false
 |_=>true
def W7:D->Option Key
 |.int i=>some (.inl i)
 |.str x=>some (.inr x)
 |_=>none
def t8(kvs:List (Key×D))(k:Key):Option D:=(kvs.find? λkv=>decide (kv.1=k)).map (·.2)
def putD(kvs:List (Key×D))(k:Key)(v:D):List (Key×D) :=
 if(kvs.any λkv=>decide (kv.1=k))=true then kvs.map (λkv=>if kv.1=k then(kv.1,v) else kv) else kvs++[(k,v)]
def j9(f:Str)(v:D):List (Str×D)->List (Str×D)
 |[]=>[(f,v)]
 |(g,x)::r=>if g=f then(g,v)::r else(g,x)::j9 f v r
def O3:List D->Str->Option D
 |.tup [.str y,v]::r,x=>if x=y then some v else O3 r x
 |_::_,_=>none
 |[],_=>none
def U8:List D->Option Str
 |[]=>some Str.empty
 |.str x::r=>(U8 r).map λy=>x++y
 |_=>none
structure Xn where
 cls:Str
noncomputable abbrev G:=List O
noncomputable abbrev S:=List (Option D)
noncomputable abbrev KD:=D->G->Prop
noncomputable abbrev KX:=Xn->G->Prop
noncomputable abbrev ie:KX:=λ_ _=>False
def BD:Option O->Option (List D)
 |some (.lst l)=>some l
 |some (.mq l)=>some l
 |_=>none
noncomputable abbrev d0(g:G)(a:Nat):Option (List D):=BD g[a]?
def rd(g:G):Nat->D->Option PyData
 |_,.bx=>some .none
 |_,.bl b=>some (.bool b)
 |_,.int i=>some (.int i)
 |_,.str x=>some (.str x)
 |_,.ty _=>none
 |0,.ref _=>none
 |0,.tup _=>none
 |n+1,.ref a=>match d0 g a with
  |some l=>(l.mapM (rd g n)).map .list
  |none=>none
 |n+1,.tup l=>(l.mapM (rd g n)).map .tuple
def Jo(g:G)(l:List D):Option (List PyData):=l.mapM (rd g 6)
def K0(g:G):D->Option (List D)
 |.tup l=>some l
 |.ref a=>d0 g a
 |_=>none
def O4:D->Bool
 |.bx=>true
 |_=>false
def cut{α:Type}(xs:List α)(lo hi:Option Int):List α:=(xs.drop (HT.dF xs.length 0 lo)).take (HT.dF xs.length xs.length hi-HT.dF xs.length 0 lo)
def pH(g:G)(x:D)(c:String):Option Bool:=match x with
 |.bx=>some (c=="NoneType")
 |.bl _=>some (c=="bool"||c=="int")
 |.int _=>some (c=="int")
 |.str _=>some (c=="str")
 |.tup _=>some (c=="tuple")
 |.ref a=>match g[a]? with
  |some (.lst _)=>some (c=="list")
  |_=>none
 |.ty _=>none
def i3(lo:Int)(n:Nat):List D:=(List.range n).map λ(k:Nat)=>.int (lo+k)
def V4:List D->Option Bool
 |[]=>some true
 |.bl b::r=>(V4 r).map λc=>b&&c
 |_=>none
inductive Pr where
 |bin (op:Operator)|un (op:UnaryOp)|cmp (op:CmpOp)
 |ix|lE (lo hi:Bool)|rev|tup|lst|mG
 |len|list|tuple|isin|all|max|min|int|str|gU|je|sset|Ji|tP
 |DT|tH|lp|fv|jY|fld (f:Str)
 |append|pop|get|index|join|iadd|clear|xD|extend|any|rh|sum|nJ|kH|iY|iX (i:Int)
noncomputable abbrev DR:=List D->G->D->G->Prop
def VM:Operator->Int->Int->Int->Prop
 |.Add,i,j,r=>r=i+j
 |.Sub,i,j,r=>r=i-j
 |.Mult,i,j,r=>pD i j/\r=i*j
 |.FloorDiv,i,j,r=>zG i j/\r=i / j
 |.Mod,i,j,r=>0<j/\r=i % j
 |.Pow,i,j,r=>my i j/\r=i ^ j.toNat
 |.LShift,i,j,r=>my i j/\r=i*2 ^ j.toNat
 |.BitAnd,i,j,r=>r=Builtin.bitAnd i j
 |.BitOr,i,j,r=>r=Builtin.bitOr i j
 |_,_,_,_=>False
def Rk(op:Operator):DR:=λxs g d g' =>
 (∃i j r,xs=[.int i,.int j]/\VM op i j r/\d=.int r/\g'=g) \/
 (op=.Add/\((∃ l m,xs=[.tup l,.tup m]/\l.length + m.length <= 100000/\d=.tup (l ++ m)/\g'=g) \/
  (∃a b l m,xs=[.ref a,.ref b]/\g[a]?=some (.lst l)/\g[b]?=some (.lst m)/\l.length+m.length<=100000/\d=.ref g.length/\g'=g++[.lst (l++m)]) \/
  (∃ x y,xs=[.str x,.str y]/\x.length + y.length <= 100000/\d=.str (x ++ y)/\g'=g))) \/
 (op=.Mult/\((∃ a l n,xs=[.ref a,.int n]/\g[a]?=some (.lst l)/\-(2 ^ 62) <= n/\n < 2 ^ 62/\l.length * n.toNat <= 100000/\d=.ref g.length/\g'=g ++ [.lst (List.replicate n.toNat l).flatten]) \/
  (∃ l n,xs=[.tup l,.int n]/\l ≠ []/\1 <= n/\n < 2 ^ 62/\l.length * n.toNat <= 100000/\d=.tup (List.replicate n.toNat l).flatten/\g'=g)))
def IZ(op:UnaryOp):DR:=λxs g d g'=>op=.USub/\∃i,xs=[.int i]/\d=.int (-i)/\g'=g
def tM(g:G)(x y:D)(b:Bool):Prop :=
 (∃i j,x=.int i/\y=.int j/\b=decide (i=j))\/(∃i j,x=.bl i/\y=.bl j/\b=(i==j))\/(∃i j,x=.str i/\y=.str j/\b=decide (i=j)) \/
 ∃p q,rd g 6 x=some p/\rd g 6 y=some q/\p.canLay0=true/\q.canLay0=true/\b=PyData.eqv p q
def inR(g:G)(x y:D)(b:Bool):Prop :=
 (∃a kvs c,y=.ref a/\g[a]?=some (.ei kvs)/\W7 x=some c/\b=(t8 kvs c).isSome) \/
 ∃l ps p,K0 g y=some l/\Jo g l=some ps/\rd g 6 x=some p/\PyData.canLayAll0 ps=true/\p.canLay0=true/\b=(ps.any λq=>PyData.eqv q p)
def Es(g:G)(x y:D)(b:Bool):Prop:=∃a S n i,y=.ref a/\g[a]?=some (.set S n)/\x=.int i/\b=S i
def Fh(g:G)(x y:D)(b:Bool):CmpOp->Prop
 |.Eq=>tM g x y b
 |.NotEq=>tM g x y (!b)
 |.In=>inR g x y b\/Es g x y b
 |.NotIn=>inR g x y (!b)\/Es g x y (!b)
 |.Lt=>∃i j,x=.int i/\y=.int j/\b=decide (i<j)
 |.LtE=>∃i j,x=.int i/\y=.int j/\b=decide (i<=j)
 |.Gt=>∃i j,x=.int i/\y=.int j/\b=decide (j<i)
 |.GtE=>∃i j,x=.int i/\y=.int j/\b=decide (j<=i)
 |.Is=>y=.bx/\b=O4 x
 |.IsNot=>y=.bx/\b=!O4 x
def Rq(op:CmpOp):DR:=λxs g d g'=>∃x y b,xs=[x,y]/\Fh g x y b op/\d=.bl b/\g'=g
def Ew(g:G)(x:D)(b:Bool):Prop :=
 (x=.bx/\b=false)\/x=.bl b\/(∃i,x=.int i/\b=(i != 0))\/(∃l,x=.tup l/\b=!l.isEmpty)\/∃a l,x=.ref a/\d0 g a=some l/\b=!l.isEmpty
def JH:DR:=λxs g d g'=>g'=g/\((∃x l i,xs=[x,.int i]/\K0 g x=some l/\fI l i=some d)\/(∃a kvs y c,xs=[.ref a,y]/\g[a]?=some (.ei kvs)/\W7 y=some c/\t8 kvs c=some d) \/
 ∃ x i c,xs=[.str x,.int i]/\x.length <= 100000/\fI x.cps.toList i=some c/\d=.str ⟨#[c]⟩)
def rn(x:D)(lo hi:Option Int)(g:G)(d:D)(g':G):Prop:=(∃l,x=.tup l/\d=.tup (cut l lo hi)/\g'=g)\/∃a l,x=.ref a/\d0 g a=some l/\d=.ref g.length/\g'=g++[.lst (cut l lo hi)]
def Sk:Bool->Bool->DR
 |false,false,xs,g,d,g'=>∃x,xs=[x]/\rn x none none g d g'
 |true,false,xs,g,d,g'=>∃x i,xs=[x,.int i]/\rn x (some i) none g d g'
 |false,true,xs,g,d,g'=>∃x j,xs=[x,.int j]/\rn x none (some j) g d g'
 |true,true,xs,g,d,g'=>∃x i j,xs=[x,.int i,.int j]/\rn x (some i) (some j) g d g'
def Sf:DR:=λxs g d g'=>(∃l,xs=[.tup l]/\d=.tup l.reverse/\g'=g)\/∃a l,xs=[.ref a]/\d0 g a=some l/\d=.ref g.length/\g'=g++[.lst l.reverse]
def SK:DR:=λxs g d g'=>xs.length<=1000/\d=.tup xs/\g'=g
def RH:DR:=λxs g d g'=>xs.length<=1000/\d=.ref g.length/\g'=g++[.lst xs]
def uz:List D->List (Key×D)->Option (List (Key×D))
 |[],kvs=>some kvs
 |k::v::r,kvs=>(W7 k).bind λc=>uz r (putD kvs c v)
 |_,_=>none
def Ti:DR:=λxs g d g'=>xs=[]/\d=.ref g.length/\g'=g++[.ei []]
def RG:DR:=λxs g d g'=>g'=g/\((∃x l,xs=[x]/\K0 g x=some l/\d=.int l.length)\/(∃a kvs,xs=[.ref a]/\g[a]?=some (.ei kvs)/\d=.int kvs.length)\/∃x,xs=[.str x]/\x.length<=100000/\d=.int x.length)
def TL:DR:=λxs g d g'=>∃x l,xs=[x]/\K0 g x=some l/\d=.ref g.length/\g'=g++[.lst l]
def OA:DR:=λxs g d g'=>∃x l,xs=[x]/\K0 g x=some l/\d=.tup l/\g'=g
def Tv:DR:=λxs g d g'=>∃x c b,xs=[x,.ty c]/\c∈["int","bool","str","tuple","list"]/\pH g x c=some b/\d=.bl b/\g'=g
def allR:DR:=λxs g d g'=>∃a l b,xs=[.ref a]/\d0 g a=some l/\(V4 l=some b\/∃ns:List Int,l=ns.map .int/\b=ns.all λn=>n != 0)/\d=.bl b/\g'=g
def V2:List D->Option Bool
 |[]=>some false
 |.bl b::r=>(V2 r).map λc=>b||c
 |_=>none
def anyR:DR:=λxs g d g'=>∃a l b,xs=[.ref a]/\d0 g a=some l/\V2 l=some b/\d=.bl b/\g'=g
def NZ:DR:=λxs g d g'=>False\/∃ns:List Int,xs=[.tup (ns.map .int)]/\ns.length<60/\d=.ref g.length/\g'=g++[.lst ((UD ns).map .int)]
def RI:DR:=λxs g d g'=>g'=g/\((∃i j,xs=[.int i,.int j]/\d=.int (if j>i then j else i))\/∃a,∃(ns:List Int) (M:Int),xs=[.ref a]/\d0 g a=some (ns.map .int)/\M∈ns/\(∀x∈ns,x<=M)/\d=.int M)
def RJ:DR:=λxs g d g'=>g'=g/\((∃i j,xs=[.int i,.int j]/\d=.int (if j<i then j else i))\/∃a,∃(ns:List Int) (M:Int),xs=[.ref a]/\d0 g a=some (ns.map .int)/\M∈ns/\(∀x∈ns,M<=x)/\d=.int M)
def Uz:DR:=λxs g d g'=>∃a i S n,xs=[.ref a,.int i]/\g[a]?=some (.set S n)/\n+1<4096/\d=.bx/\g'=g.set a (.set (λk=>S k||decide (k=i)) (if S i then n else n+1))
def NK(i:Int):DR:=λxs g d g'=>xs=[]/\d=.ref g.length/\g'=g++[.set (λk=>decide (k=i)) 1]
def Sm:DR:=λxs g d g'=>∃a,∃ns:List Int,xs=[.ref a]/\d0 g a=some (ns.map .int)/\d=.int ns.sum/\g'=g
def TM:DR:=λxs g d g'=>∃a,∃ns:List Int,xs=[.ref a]/\d0 g a=some (ns.map .int)/\ns.length<60/\d=.int (ST.i9 [] ns).length/\g'=g
def Tw:DR:=λxs g d g'=>∃i j,xs=[.int i,.int j]/\d=.int (i-j)/\g'=g
def RD:DR:=λxs g d g'=>g'=g/\((∃i,xs=[.int i]/\d=.int i)\/∃b,xs=[.bl b]/\d=.int (if b then 1 else 0))
def Sl:DR:=λxs g d g'=>(∃i,xs=[.int i]/\i.natAbs.log2<1920/\d=.str (toString i)/\g'=g)\/∃x,xs=[.str x]/\d=.str x/\g'=g
def MG:DR:=λxs g d g'=>∃j,xs=[.int j]/\-(2 ^ 62)<=j/\j<=100000/\d=.ref g.length/\g'=g++[.lst (i3 0 j.toNat)]
def MH:DR:=λxs g d g'=>∃i j,xs=[.int i,.int j]/\(-(2 ^ 62)<=i/\i<2 ^ 62/\-(2 ^ 62)<=j/\j<2 ^ 62/\j-i<=100000)/\d=.ref g.length/\g'=g++[.lst (i3 i (j-i).toNat)]
def UE:DR:=λxs g d g'=>∃a ns,xs=[.ref a]/\d0 g a=some (ns.map .int)/\ns.length<60/\d=.ref g.length/\g'=g++[.lst ((n8 ns).map .int)]
def Sn:DR:=λxs g d g'=>∃ns ms:List Int,xs=[.tup (ns.map .int),.tup (ms.map .int)]/\(∀k∈ns,ST.Spot k)/\(∀k∈ms,ST.Spot k)/\ns.length+ms.length<50/\d=.ref g.length/\g'=g++[.lst ((n8 (ns++ms)).map .int)]
def zN(neg:Bool):DR:=λxs g d g'=>∃kvs x,xs=[.tup kvs,.str x]/\d=.bl (xor neg (O3 kvs x).isSome)/\g'=g
def Tp:DR:=λxs g d g'=>∃kvs x,xs=[.tup kvs,.str x]/\O3 kvs x=some d/\g'=g
def LJ:DR:=λxs g d g'=>g'=g/\((∃i,xs=[.int i]/\i.natAbs.log2<1920/\d=.str (toString i))\/∃x,xs=[.str x]/\x.length<=2000/\d=.str x)
def To:DR:=λxs g d g'=>∃x,U8 xs=some x/\d=.str x/\g'=g
def Rx(f:Str):DR:=λxs g d g'=>∃a c fs,xs=[.ref a]/\g[a]?=some (.ins c fs)/\fs.lookup f=some d/\g'=g
def appendR:DR:=λxs g d g'=>∃a y l,xs=[.ref a,y]/\g[a]?=some (.lst l)/\l.length<100000/\d=.bx/\g'=g.set a (.lst (l++[y]))
def RT:DR:=λxs g d g'=>∃a i l k,xs=[.ref a,.int i]/\g[a]?=some (.lst l)/\-(2 ^ 63)<=i/\i<2 ^ 63/\seqIndex? i l.length=some k/\l[k]?=some d/\g'=g.set a (.lst (l.eraseIdx k))
def RA:DR:=λxs g d g'=>∃a y z kvs c,xs=[.ref a,y,z]/\g[a]?=some (.ei kvs)/\W7 y=some c/\d=(t8 kvs c).getD z/\g'=g
def vK:D->Bool
 |.bx=>true
 |.bl _=>true
 |.int _=>true
 |.str _=>true
 |_=>false
def toV:D->V
 |.bl b=>.bl b
 |.int i=>.int i
 |.str x=>.str x
 |_=>.bx
def Bt(l:List D)(y:D)(n:Nat):Prop:=l.all vK=true/\vK y=true/\(∃z,l[n]?=some z/\lM (toV z) (toV y)=true)/\∀(m:Nat) z,m<n->l[m]?=some z->lM (toV z) (toV y)=false
def Vr:DR:=λxs g d g'=>∃x y l n,xs=[x,y]/\K0 g x=some l/\Bt l y n/\l.length<=100000/\d=.int n/\g'=g
def joinR:DR:=λxs g d g'=>∃sep a ys,xs=[.str sep,.ref a]/\d0 g a=some (ys.map .str)/\Pd sep ys<=100000/\d=.str (Builtin.Str.glued sep ys)/\g'=g
def Tt:DR:=λxs g d g'=>(∃i j,xs=[.int i,.int j]/\d=.int (i+j)/\g'=g)\/∃l m,xs=[.tup l,.tup m]/\l.length+m.length<=100000/\d=.tup (l++m)/\g'=g
def Vh:DR:=λxs g d g'=>∃a l,xs=[.ref a]/\g[a]?=some (.lst l)/\d=.bx/\g'=g.set a (.lst [])
def Uq:DR:=λxs g d g'=>∃a l,xs=[.ref a]/\g[a]?=some (.lst (l++[d]))/\g'=g.set a (.lst l)
def OS:DR:=λxs g d g'=>∃a b l m,xs=[.ref a,.ref b]/\g[a]?=some (.lst l)/\g[b]?=some (.lst m)/\l.length+m.length<=100000/\d=.bx/\g'=g.set a (.lst (l++m))
def Vk:DR:=λxs g d g'=>∃a kvs,xs=[.ref a]/\g[a]?=some (.ei kvs)/\d=.ref g.length/\g'=g++[.ei kvs]
def PR:Pr->DR
 |.clear=>Vh
 |.any=>anyR
 |.sum=>Sm
 |.iY=>Uz
 |.iX i=>NK i
 |.nJ=>TM
 |.kH=>Tw
 |.rh=>NZ
 |.extend=>OS
 |.xD=>Uq
 |.tP=>Vk
 |.bin op=>Rk op
 |.un op=>IZ op
 |.cmp op=>Rq op
 |.ix=>JH
 |.lE a b=>Sk a b
 |.rev=>Sf
 |.tup=>SK
 |.lst=>RH
 |.mG=>Ti
 |.len=>RG
 |.list=>TL
 |.tuple=>OA
 |.isin=>Tv
 |.all=>allR
 |.max=>RI
 |.min=>RJ
 |.int=>RD
 |.str=>Sl
 |.gU=>MG
 |.je=>MH
 |.sset=>UE
 |.Ji=>Sn
 |.DT=>zN false
 |.tH=>zN true
 |.lp=>Tp
 |.fv=>LJ
 |.jY=>To
 |.fld f=>Rx f
 |.append=>appendR
 |.pop=>RT
 |.get=>RA
 |.index=>Vr
 |.join=>joinR
 |.iadd=>Tt
def cH(p:Pr)(xs:List D)(g:G)(Q:KD):Prop:=∃d g',PR p xs g d g'/\Q d g'
def qr(g:G)(x y:D)(k:Bool->Prop):Prop:=∃b,tM g x y b/\k b
def oo(g:G)(x y:D)(k:Bool->Prop):Prop:=∃b,inR g x y b/\k b
def Z3(g:G)(x:D)(k:Bool->Prop):Prop:=∃b,Ew g x b/\k b
def Sj(x y v:D)(g g':G):Prop:=(∃a i l j,x=.ref a/\y=.int i/\g[a]?=some (.lst l)/\jx l.length i=some j/\g'=g.set a (.lst (l.set j v))) \/
 ∃a kvs c,x=.ref a/\g[a]?=some (.ei kvs)/\W7 y=some c/\kvs.length<100000/\g'=g.set a (.ei (putD kvs c v))
def V6(x y v:D)(g:G)(k:G->Prop):Prop:=∃g',Sj x y v g g'/\k g'
def EX(f:Str)(cs:List Str)(x v:D)(g g':G):Prop:=∃a c fs,x=.ref a/\g[a]?=some (.ins c fs)/\c∈cs/\fs.length<100/\g'=g.set a (.ins c (j9 f v fs))
def ui(f:Str)(cs:List Str)(x v:D)(g:G)(k:G->Prop):Prop:=∃g',EX f cs x v g g'/\k g'
def jV:Pr->D->G->Prop
 |.get,x,g=>∃a kvs,x=.ref a/\g[a]?=some (.ei kvs)
 |.join,x,g=>∃y,x=.str y
 |.iY,x,g=>∃a S n,x=.ref a/\g[a]?=some (.set S n)
 |.index,x,g=>(∃l,x=.tup l)\/∃a l,x=.ref a/\d0 g a=some l
 |_,x,g=>∃a l,x=.ref a/\d0 g a=some l
inductive IK where
 |fix (l:List D)|lst (a:Nat)|mr (a:Nat)|pX (a n:Nat)
def IK.at:IK->Nat->G->Option (Option D)
 |.fix l,i,_=>some l[i]?
 |.lst a,i,g=>match d0 g a with
  |some l=>some l[i]?
  |none=>none
 |.mr a,i,g=>match d0 g a with
  |some l=>some (l[i]?.map λd=>.tup [.int i,d])
  |none=>none
 |.pX a n,i,g=>match d0 g a with
  |some l=>if l.length=n then some (if i<n then l[n-1-i]? else none) else none
  |none=>none
inductive MT where
 |one (i:Nat)|many (is:List Nat)
def E4:List Nat->List D->S->Option S
 |[],[],Z=>some Z
 |i::is,d::ds,Z=>E4 is ds (Z.set i (some d))
 |_,_,_=>none
def iw(t:MT)(x:D)(Z:S)(k:S->Prop):Prop:=match t with
 |.one i=>k (Z.set i (some x))
 |.many is=>∃l bU,x=.tup l/\E4 is l Z=some bU/\k bU
set_option genInjectivity false in
set_option genSizeOf false in
inductive ME where
 |var (i:Nat)|lit (d:D)
 |nil|cons (a b:ME)|prim (p:Pr) (es:ME)|dW (p:Pr) (o es:ME)|nE (es:ME)
 |chain (o1 o2:CmpOp) (a b c:ME)
 |dw (a b:ME)|iN (a b:ME)|eB (a:ME)|ite (c a b:ME)
 |call (f:Nat) (es:ME)|make (c:Str) (f:Nat) (es:ME)|jc (m:Str) (cs:List (Str×Nat)) (o es:ME)
 |comp (d4:List Nat) (n:Nat) (tg:MT) (it cond elt:ME)|gg (d4:List Nat) (n:Nat) (tg:MT) (it cond elt:ME)|iZ (d4:List Nat) (n:Nat) (tg:MT) (it cond elt:ME)
 |eK (e:ME)|dX (a:ME)|jf (a b:ME)|jy (e:ME)|lG (e:ME)|fg (e:ME)|no
noncomputable abbrev fm:=Nat->List D->G->KD->KX->Prop
def F2(Z:S)(d4:List Nat)(n:Nat):S:=d4.map (λj=>(Z[j]?).join)++List.replicate (n-d4.length) none
def turns(k:IK)(Z:S)(g:G)(fin:S->G->Prop)(turn:D->(S->G->Prop)->S->G->Prop):Prop :=
 ∃W:Nat->Nat->S->G->Prop,(∃m,W 0 m Z g)/\∀i m Z g,W i m Z g->(k.at i g=some none/\fin Z g)\/∃x,k.at i g=some (some x)/\∃N2:S->G->Prop,(∀bU g',N2 bU g'->∃m',m'<m/\W (i+1) m' bU g')/\turn x N2 Z g
def wk(k:IK)(Z:S)(g:G)(fin:List D->G->Prop)(turn:D->(Option D->S->G->Prop)->S->G->Prop):Prop :=
 ∃W:Nat->Nat->List D->S->G->Prop,(∃m,W 0 m [] Z g)/\∀i m ys Z g,W i m ys Z g->(k.at i g=some none/\fin ys g) \/
  ∃x,k.at i g=some (some x)/\ys.length<100000/\turn x (λy bU g'=>∃m',m'<m/\W (i+1) m' (ys++y.toList) bU g') Z g
def BN(k:IK)(Z:S)(g:G)(fin:List Int->G->Prop)(turn:D->(Option Int->S->G->Prop)->S->G->Prop):Prop :=
 ∃W:Nat->Nat->List Int->S->G->Prop,(∃m,W 0 m [] Z g)/\∀i m ys Z g,W i m ys Z g->(k.at i g=some none/\ys.length<60/\fin ys g) \/
  ∃x,k.at i g=some (some x)/\ys.length<60/\turn x (λy bU g'=>∃m',m'<m/\W (i+1) m' (ys++y.toList) bU g') Z g
mutual
noncomputable def aX(P:fm):ME->S->G->KD->KX->Prop
 |.var i,Z,g,Q,_=>∃d,Z[i]?=some (some d)/\Q d g
 |.lit d,_,g,Q,_=>Q d g
 |.prim p es,Z,g,Q,E=>fC P es Z g (λxs g1=>cH p xs g1 Q) E
 |.dW p o es,Z,g,Q,E=>aX P o Z g (λx g1=>jV p x g1/\fC P es Z g1 (λxs g2=>cH p (x::xs) g2 Q) E) E
 |.nE es,Z,g,Q,E=>fC P es Z (g++[.ei []]) (λxs g1=>∃kvs,uz xs []=some kvs/\xs.length<=30/\g1[g.length]?=some (.ei [])/\Q (.ref g.length) (g1.set g.length (.ei kvs))) E
 |.chain o1 o2 a b c,Z,g,Q,E=>aX P a Z g (λx g1=>aX P b Z g1 (λy g2=>cH (.cmp o1) [x,y] g2 λz g3=>∃t,z=.bl t/\if t=true then aX P c Z g3 (λw g4=>cH (.cmp o2) [y,w] g4 Q) E else Q (.bl false) g3) E) E
 |.dw a b,Z,g,Q,E=>aX P a Z g (λx g1=>∃t,x=.bl t/\if t=true then aX P b Z g1 Q E else Q (.bl false) g1) E
 |.iN a b,Z,g,Q,E=>aX P a Z g (λx g1=>∃t,x=.bl t/\if t=true then Q (.bl true) g1 else aX P b Z g1 Q E) E
 |.eB a,Z,g,Q,E=>aX P a Z g (λx g1=>∃t,x=.bl t/\Q (.bl (!t)) g1) E
 |.ite c a b,Z,g,Q,E=>cW P c Z g (λt g1=>if t=true then aX P a Z g1 Q E else aX P b Z g1 Q E) E
 |.call f es,Z,g,Q,E=>fC P es Z g (λxs g1=>P f xs g1 Q E) E
 |.make c f es,Z,g,Q,E=>fC P es Z g (λxs g1=>P f (.ref g1.length::xs) (g1++[.ins c []]) (λd g2=>d=.bx/\Q (.ref g1.length) g2) E) E
 |.jc m cs o es,Z,g,Q,E=>aX P o Z g (λx g1=>∃a c fs f,x=.ref a/\g1[a]?=some (.ins c fs)/\fs.lookup m=none/\cs.lookup c=some f/\fC P es Z g1 (λxs g2=>P f (x::xs) g2 Q E) E) E
 |.comp d4 n tg it cond elt,Z,g,Q,E=>fZ P it Z g (λk g1=>wk k (F2 Z d4 n) g1 (λys g=>Q (.ref g.length) (g++[.lst ys])) λx N Z g=>iw tg x Z λcC=>cW P cond cC g (λb g3=>if b=true then aX P elt cC g3 (λy g4=>N (some y) cC g4) ie else N none cC g3) ie) E
 |.iZ d4 n tg it cond elt,Z,g,Q,E=>fZ P it Z g (λk g1=>wk k (F2 Z d4 n) g1 (λys g=>Q (.ref g.length) (g++[.lst ys])) λx N Z g=>iw tg x Z λcC=>cW P cond cC g (λb g3=>if b=true then aX P elt cC g3 (λy g4=>N (some y) cC g4) E else N none cC g3) ie) E
 |.gg d4 n tg it cond elt,Z,g,Q,E=>fZ P it Z g (λk g1=>BN k (F2 Z d4 n) g1 (λys g=>Q (.ref g.length) (g++[.lst ((n8 ys).map .int)])) λx N Z g=>iw tg x Z λcC=>cW P cond cC g (λb g3=>if b=true then aX P elt cC g3 (λy g4=>∃j,y=.int j/\N (some j) cC g4) ie else N none cC g3) ie) E
 |.nil,_,_,_,_=>False
 |.cons _ _,_,_,_,_=>False
 |.eK _,_,_,_,_=>False
 |.dX _,_,_,_,_=>False
 |.jf _ _,_,_,_,_=>False
 |.jy _,_,_,_,_=>False
 |.lG _,_,_,_,_=>False
 |.fg _,_,_,_,_=>False
 |.no,_,_,_,_=>False
noncomputable def fC(P:fm):ME->S->G->(List D->G->Prop)->KX->Prop
 |.nil,_,g,Q,_=>Q [] g
 |.cons a b,Z,g,Q,E=>aX P a Z g (λx g1=>fC P b Z g1 (λxs g2=>Q (x::xs) g2) E) E
 |_,_,_,_,_=>False
noncomputable def cW(P:fm):ME->S->G->(Bool->G->Prop)->KX->Prop
 |.dw a b,Z,g,Q,E=>cW P a Z g (λt g1=>if t=true then cW P b Z g1 Q E else Q false g1) E
 |.iN a b,Z,g,Q,E=>cW P a Z g (λt g1=>if t=true then Q true g1 else cW P b Z g1 Q E) E
 |.eB a,Z,g,Q,E=>cW P a Z g (λt g1=>Q (!t) g1) E
 |.no,_,g,Q,_=>Q true g
 |.fg e,Z,g,Q,E=>aX P e Z g (λx g1=>Z3 g1 x λb=>Q b g1) E
 |_,_,_,_,_=>False
noncomputable def fZ(P:fm):ME->S->G->(IK->G->Prop)->KX->Prop
 |.eK e,Z,g,R,E=>aX P e Z g (λx g1=>(∃l,x=.tup l/\R (.fix l) g1)\/∃a l,x=.ref a/\d0 g1 a=some l/\R (.lst a) g1) E
 |.dX a,Z,g,R,E=>aX P a Z g (λx g1=>∃j:Int,x=.int j/\-(2 ^ 62)<=j/\j<2 ^ 62/\R (.fix (i3 0 j.toNat)) g1) E
 |.jf a b,Z,g,R,E=>aX P a Z g (λx g1=>aX P b Z g1 (λy g2=>∃i j:Int,x=.int i/\y=.int j/\(-(2 ^ 62)<=i/\i<2 ^ 62/\-(2 ^ 62)<=j/\j<2 ^ 62)/\R (.fix (i3 i (j-i).toNat)) g2) E) E
 |.jy e,Z,g,R,E=>aX P e Z g (λx g1=>∃a l,x=.ref a/\d0 g1 a=some l/\R (.mr a) g1) E
 |.lG e,Z,g,R,E=>aX P e Z g (λx g1=>∃a l,x=.ref a/\d0 g1 a=some l/\R (.pX a l.length) g1) E
 |_,_,_,_,_=>False
end
set_option genInjectivity false in
set_option genSizeOf false in
inductive MS where
 |pass|seq (a b:MS)|expr (e:ME)|set (i:Nat) (e:ME)|jG (t:MT) (e:ME)|eI (o i v:ME)|gp (f:Str) (cs:List Str) (o v:ME)
 |tZ (f:Str) (cs:List Str) (o v:ME)|jk (i:Nat) (p:Pr) (v:ME)|uS (o1 i1 o2 i2 e:ME)
 |ifs (c:ME) (a b:MS)|cU (t:MT) (it:ME) (b:MS)|iW (c:ME) (b:MS)|ret (e:ME)|nV|brk|cont
 |raise (x:Str) (es:ME)|Z2 (b:MS) (hs:List (Str×ME))
structure Ends where
 nx:S->G->Prop
 rt:KD
 bk:S->G->Prop:=λ_ _=>False
 ct:S->G->Prop:=λ_ _=>False
def lC(P:fm)(N:Ends)(Z:S)(E:KX):List (Str×ME)->KX
 |[],x,g=>E x g
 |(y,e)::r,x,g=>if x.cls=y\/y="MintError" then aX P e Z g N.rt ie else lC P N Z E r x g
def wpS(P:fm):MS->Ends->S->G->KX->Prop
 |.pass,N,Z,g,_=>N.nx Z g
 |.seq a b,N,Z,g,E=>wpS P a { N with nx:=λgM g1=>wpS P b N gM g1 E } Z g E
 |.expr e,N,Z,g,E=>aX P e Z g (λ_ g1=>N.nx Z g1) E
 |.set i e,N,Z,g,E=>aX P e Z g (λx g1=>N.nx (Z.set i (some x)) g1) E
 |.jG t e,N,Z,g,E=>aX P e Z g (λx g1=>iw t x Z λgM=>N.nx gM g1) E
 |.eI o i v,N,Z,g,E=>aX P v Z g (λx g1=>aX P o Z g1 (λy g2=>aX P i Z g2 (λz g3=>V6 y z x g3 λg4=>N.nx Z g4) E) E) E
 |.gp f cs o v,N,Z,g,E=>aX P v Z g (λx g1=>aX P o Z g1 (λy g2=>ui f cs y x g2 λg3=>N.nx Z g3) E) E
 |.tZ f cs o v,N,Z,g,E=>aX P o Z g (λy g1=>∃a c fs x,y=.ref a/\g1[a]?=some (.ins c fs)/\c∈cs/\fs.lookup f=some x/\aX P v Z g1 (λz g3=>cH .iadd [x,z] g3 λw g4=>∃oZ,g4[a]?=some (.ins c oZ)/\oZ.length<100/\N.nx Z (g4.set a (.ins c (j9 f w oZ)))) E) E
 |.uS o1 i1 o2 i2 e,N,Z,g,E=>aX P e Z g (λx g1=>∃u v,x=.tup [u,v]/\aX P o1 Z g1 (λy1 g2=>aX P i1 Z g2 (λz1 g3=>V6 y1 z1 u g3 λg4=>aX P o2 Z g4 (λy2 g5=>aX P i2 Z g5 (λz2 g6=>V6 y2 z2 v g6 λg7=>N.nx Z g7) E) E) E) E) E
 |.jk i p v,N,Z,g,E=>∃x,Z[i]?=some (some x)/\aX P v Z g (λz g1=>cH p [x,z] g1 λw g2=>N.nx (Z.set i (some w)) g2) E
 |.ifs c a b,N,Z,g,E=>cW P c Z g (λt g1=>if t=true then wpS P a N Z g1 E else wpS P b N Z g1 E) E
 |.cU t it b,N,Z,g,E=>fZ P it Z g (λk g1=>turns k Z g1 N.nx λx N2 Z g=>iw t x Z λcC=>wpS P b { N with nx:=N2,ct:=N2,bk:=N.nx } cC g E) E
 |.iW c b,N,Z,g,E=>∃W:Nat->S->G->Prop,(∃m,W m Z g)/\∀m Z g,W m Z g->cW P c Z g (λt g1=>if t=true then ∃N2:S->G->Prop,(∀bU g',N2 bU g'->∃m',m'<m/\W m' bU g')/\wpS P b { N with nx:=N2,ct:=N2,bk:=N.nx } Z g1 E else N.nx Z g1) E
 |.ret e,N,Z,g,E=>aX P e Z g N.rt E
 |.nV,N,_,g,_=>N.rt .bx g
 |.brk,N,Z,g,_=>N.bk Z g
 |.cont,N,Z,g,_=>N.ct Z g
 |.raise x es,_,Z,g,E=>fC P es Z g (λvs g1=>vs.length<=1000/\E ⟨x⟩ g1) E
 |.Z2 b hs,N,Z,g,E=>wpS P b N Z g (lC P N (Z.map λ_=>none) E hs)
structure ba where
 ar:Nat
 n:Nat
 body:MS
def c8(m:ba)(ds:List D):S:=ds.map some++List.replicate (m.n-ds.length) none
def b9(T:Nat->Option ba):Nat->fm
 |0,_,_,_,_,_=>False
 |k+1,f,ds,g,Q,E=>∃m,T f=some m/\ds.length=m.ar/\wpS (b9 T k) m.body ⟨λ_ g'=>Q .bx g',Q,λ_ _=>False,λ_ _=>False⟩ (c8 m ds) g E
end M

namespace M
open PySem L2
theorem u4{p xs}{g:G}{Q Q':KD}(h:∀d g,Q d g->Q' d g)(q:cH p xs g Q):cH p xs g Q':=by
 obtain⟨d,g',a,b⟩:=q;exact⟨d,g',a,h _ _ b⟩
theorem WH{x}{g:G}{k k':Bool->Prop}(h:∀b,k b->k' b)(q:Z3 g x k):Z3 g x k':=by
 obtain⟨b,a,z⟩:=q;exact⟨b,a,h _ z⟩
theorem U4{x y v}{g:G}{k k':G->Prop}(h:∀g,k g->k' g)(q:V6 x y v g k):V6 x y v g k':=by
 obtain⟨b,a,z⟩:=q;exact⟨b,a,h _ z⟩
theorem Xw{f cs x v}{g:G}{k k':G->Prop}(h:∀g,k g->k' g)(q:ui f cs x v g k):ui f cs x v g k':=by
 obtain⟨b,a,z⟩:=q;exact⟨b,a,h _ z⟩
theorem x6{t x Z}{k k':S->Prop}(h:∀Z,k Z->k' Z)(q:iw t x Z k):iw t x Z k':=by
 cases t with
 |one i=>exact h _ q
 |many is=>obtain⟨l,bU,a,b,c⟩:=q;exact⟨l,bU,a,b,h _ c⟩
theorem XF{k Z g}{fin ji:S->G->Prop}{turn gA:D->(S->G->Prop)->S->G->Prop}(h:∀Z g,fin Z g->ji Z g)(h2:∀x N Z g,turn x N Z g->gA x N Z g)(q:turns k Z g fin turn):turns k Z g ji gA:=by
 obtain⟨W,w0,q⟩:=q;refine⟨W,w0,λi m Z g w=>?_⟩;rcases q i m Z g w with⟨a,b⟩|⟨x,a,N2,b,c⟩
 ·exact .inl ⟨a,h _ _ b⟩
 ·exact .inr ⟨x,a,N2,b,h2 _ _ _ _ c⟩
theorem GB{k Z g}{fin ji:List D->G->Prop}{turn gA:D->(Option D->S->G->Prop)->S->G->Prop}(h:∀ys g,fin ys g->ji ys g)(h2:∀x N Z g,turn x N Z g->gA x N Z g)(q:wk k Z g fin turn):wk k Z g ji gA:=by
 obtain⟨W,w0,q⟩:=q;refine⟨W,w0,λi m ys Z g w=>?_⟩;rcases q i m ys Z g w with⟨a,b⟩|⟨x,a,b,c⟩
 ·exact .inl ⟨a,h _ _ b⟩
 ·exact .inr ⟨x,a,b,h2 _ _ _ _ c⟩
theorem Yd{k Z g}{fin ji:List Int->G->Prop}{turn gA:D->(Option Int->S->G->Prop)->S->G->Prop}(h:∀ys g,fin ys g->ji ys g)(h2:∀x N Z g,turn x N Z g->gA x N Z g)(q:BN k Z g fin turn):BN k Z g ji gA:=by
 obtain⟨W,w0,q⟩:=q;refine⟨W,w0,λi m ys Z g w=>?_⟩;rcases q i m ys Z g w with⟨a,b,c⟩|⟨x,a,b,c⟩
 ·exact .inl ⟨a,b,h _ _ c⟩
 ·exact .inr ⟨x,a,b,h2 _ _ _ _ c⟩
theorem F5{t:Bool}{A B A' B':Prop}(h1:A->A')(h2:B->B')(q:if t=true then A else B):if t=true then A' else B':=by
 cases t
 ·exact h2 q
 ·exact h1 q
def i0(P:fm):Prop:=∀f xs g Q Q' E E',(∀d g,Q d g->Q' d g)->(∀x g,E x g->E' x g)->P f xs g Q E->P f xs g Q' E'
mutual
theorem c5{P:fm}(hP:i0 P):∀(e:ME) (Z:S) (g:G) (Q Q':KD) (E E':KX),(∀d g,Q d g->Q' d g)->(∀x g,E x g->E' x g)->aX P e Z g Q E->aX P e Z g Q' E'
 |.var i,Z,g,Q,Q',E,E',h,hx,q=>by
  obtain⟨d,a,b⟩:=q;exact⟨d,a,h _ _ b⟩
 |.lit d,Z,g,Q,Q',E,E',h,hx,q=>by exact h _ _ q
 |.prim p es,Z,g,Q,Q',E,E',h,hx,q=>by
  exact x5 hP es _ _ _ _ _ _ (λxs g1 q=>u4 h q) hx q
 |.dW p o es,Z,g,Q,Q',E,E',h,hx,q=>by
  exact c5 hP o _ _ _ _ _ _ (λx g1 q=>⟨q.1,x5 hP es _ _ _ _ _ _ (λxs g2 q=>u4 h q) hx q.2⟩) hx q
 |.nE es,Z,g,Q,Q',E,E',h,hx,q=>by
  exact x5 hP es _ _ _ _ _ _ (λxs g1 ⟨kvs,a,b,c,d⟩=>⟨kvs,a,b,c,h _ _ d⟩) hx q
 |.chain o1 o2 a b c,Z,g,Q,Q',E,E',h,hx,q=>by
  refine c5 hP a _ _ _ _ _ _ (λx g1 q=>c5 hP b _ _ _ _ _ _ (λy g2 q=>u4 (λz g3 q=>?_) q) hx q) hx q;obtain⟨t,e,q⟩:=q;exact⟨t,e,F5 (λq=>c5 hP c _ _ _ _ _ _ (λw g4 q=>u4 h q) hx q) (h _ _) q⟩
 |.dw a b,Z,g,Q,Q',E,E',h,hx,q=>by
  refine c5 hP a _ _ _ _ _ _ (λx g1 q=>?_) hx q;obtain⟨t,e,q⟩:=q;exact⟨t,e,F5 (λq=>c5 hP b _ _ _ _ _ _ h hx q) (h _ _) q⟩
 |.iN a b,Z,g,Q,Q',E,E',h,hx,q=>by
  refine c5 hP a _ _ _ _ _ _ (λx g1 q=>?_) hx q;obtain⟨t,e,q⟩:=q;exact⟨t,e,F5 (h _ _) (λq=>c5 hP b _ _ _ _ _ _ h hx q) q⟩
 |.eB a,Z,g,Q,Q',E,E',h,hx,q=>by
  refine c5 hP a _ _ _ _ _ _ (λx g1 q=>?_) hx q;obtain⟨t,e,q⟩:=q;exact⟨t,e,h _ _ q⟩
 |.ite c a b,Z,g,Q,Q',E,E',h,hx,q=>by
  exact p6 hP c _ _ _ _ _ _ (λt g1 q=>F5 (λq=>c5 hP a _ _ _ _ _ _ h hx q) (λq=>c5 hP b _ _ _ _ _ _ h hx q) q) hx q
 |.call f es,Z,g,Q,Q',E,E',h,hx,q=>by
  exact x5 hP es _ _ _ _ _ _ (λxs g1 q=>hP _ _ _ _ _ _ _ h hx q) hx q
 |.make c f es,Z,g,Q,Q',E,E',h,hx,q=>by
  exact x5 hP es _ _ _ _ _ _ (λxs g1 q=>hP _ _ _ _ _ _ _ (λd g2 q=>⟨q.1,h _ _ q.2⟩) hx q) hx q
 |.jc m cs o es,Z,g,Q,Q',E,E',h,hx,q=>by
  refine c5 hP o _ _ _ _ _ _ (λx g1 q=>?_) hx q;obtain⟨a,c,fs,f,q1,q2,q3,q4,q⟩:=q;exact⟨a,c,fs,f,q1,q2,q3,q4,x5 hP es _ _ _ _ _ _ (λxs g2 q=>hP _ _ _ _ _ _ _ h hx q) hx q⟩
 |.comp d4 n tg it cond elt,Z,g,Q,Q',E,E',h,hx,q=>by
  exact A5 hP it _ _ _ _ _ _ (λk g1 q=>GB (λys g q=>h _ _ q) (λ_ _ _ _ q=>q) q) hx q
 |.iZ d4 n tg it cond elt,Z,g,Q,Q',E,E',h,hx,q=>by
  exact A5 hP it _ _ _ _ _ _ (λk g1 q=>GB (λys g q=>h _ _ q) (λx N Z g q=>x6 (λcC q=>p6 hP cond _ _ _ _ _ _ (λb g3 q=>by
   cases b
   ·exact q
   ·exact c5 hP elt _ _ _ _ _ _ (λ_ _ z=>z) hx q) (λ_ _ z=>z) q) q) q) hx q
 |.gg d4 n tg it cond elt,Z,g,Q,Q',E,E',h,hx,q=>by
  exact A5 hP it _ _ _ _ _ _ (λk g1 q=>Yd (λys g q=>h _ _ q) (λ_ _ _ _ q=>q) q) hx q
 |.nil,Z,g,Q,Q',E,E',h,hx,q=>(show False from q).elim
 |.cons _ _,Z,g,Q,Q',E,E',h,hx,q=>(show False from q).elim
 |.eK _,Z,g,Q,Q',E,E',h,hx,q=>(show False from q).elim
 |.dX _,Z,g,Q,Q',E,E',h,hx,q=>(show False from q).elim
 |.jf _ _,Z,g,Q,Q',E,E',h,hx,q=>(show False from q).elim
 |.jy _,Z,g,Q,Q',E,E',h,hx,q|.lG _,Z,g,Q,Q',E,E',h,hx,q=>(show False from q).elim
 |.fg _,Z,g,Q,Q',E,E',h,hx,q=>(show False from q).elim
 |.no,Z,g,Q,Q',E,E',h,hx,q=>(show False from q).elim
theorem x5{P:fm}(hP:i0 P):∀(e:ME) (Z:S) (g:G) (Q Q':List D->G->Prop) (E E':KX),(∀d g,Q d g->Q' d g)->(∀x g,E x g->E' x g)->fC P e Z g Q E->fC P e Z g Q' E'
 |.nil,Z,g,Q,Q',E,E',h,hx,q=>by exact h _ _ q
 |.cons a b,Z,g,Q,Q',E,E',h,hx,q=>by
  exact c5 hP a _ _ _ _ _ _ (λx g1 q=>x5 hP b _ _ _ _ _ _ (λxs g2 q=>h _ _ q) hx q) hx q
 |.var _,Z,g,Q,Q',E,E',h,hx,q|.lit _,Z,g,Q,Q',E,E',h,hx,q|.prim _ _,Z,g,Q,Q',E,E',h,hx,q|.dW _ _ _,Z,g,Q,Q',E,E',h,hx,q|.nE _,Z,g,Q,Q',E,E',h,hx,q|.chain _ _ _ _ _,Z,g,Q,Q',E,E',h,hx,q|.dw _ _,Z,g,Q,Q',E,E',h,hx,q|.iN _ _,Z,g,Q,Q',E,E',h,hx,q|.eB _,Z,g,Q,Q',E,E',h,hx,q|.ite _ _ _,Z,g,Q,Q',E,E',h,hx,q|.call _ _,Z,g,Q,Q',E,E',h,hx,q
 |.make _ _ _,Z,g,Q,Q',E,E',h,hx,q|.jc _ _ _ _,Z,g,Q,Q',E,E',h,hx,q|.comp _ _ _ _ _ _,Z,g,Q,Q',E,E',h,hx,q|.gg _ _ _ _ _ _,Z,g,Q,Q',E,E',h,hx,q|.iZ _ _ _ _ _ _,Z,g,Q,Q',E,E',h,hx,q|.eK _,Z,g,Q,Q',E,E',h,hx,q|.dX _,Z,g,Q,Q',E,E',h,hx,q|.jf _ _,Z,g,Q,Q',E,E',h,hx,q|.jy _,Z,g,Q,Q',E,E',h,hx,q|.lG _,Z,g,Q,Q',E,E',h,hx,q|.fg _,Z,g,Q,Q',E,E',h,hx,q|.no,Z,g,Q,Q',E,E',h,hx,q=>(show False from q).elim
theorem p6{P:fm}(hP:i0 P):∀(e:ME) (Z:S) (g:G) (Q Q':Bool->G->Prop) (E E':KX),(∀d g,Q d g->Q' d g)->(∀x g,E x g->E' x g)->cW P e Z g Q E->cW P e Z g Q' E'
 |.dw a b,Z,g,Q,Q',E,E',h,hx,q=>by
  exact p6 hP a _ _ _ _ _ _ (λt g1 q=>F5 (λq=>p6 hP b _ _ _ _ _ _ h hx q) (h _ _) q) hx q
 |.iN a b,Z,g,Q,Q',E,E',h,hx,q=>by
  exact p6 hP a _ _ _ _ _ _ (λt g1 q=>F5 (h _ _) (λq=>p6 hP b _ _ _ _ _ _ h hx q) q) hx q
 |.eB a,Z,g,Q,Q',E,E',h,hx,q=>by exact p6 hP a _ _ _ _ _ _ (λt g1 q=>h _ _ q) hx q
 |.no,Z,g,Q,Q',E,E',h,hx,q=>by exact h _ _ q
 |.fg e,Z,g,Q,Q',E,E',h,hx,q=>by exact c5 hP e _ _ _ _ _ _ (λx g1 q=>WH (λb q=>h _ _ q) q) hx q
 |.var _,Z,g,Q,Q',E,E',h,hx,q|.lit _,Z,g,Q,Q',E,E',h,hx,q|.prim _ _,Z,g,Q,Q',E,E',h,hx,q|.dW _ _ _,Z,g,Q,Q',E,E',h,hx,q|.nE _,Z,g,Q,Q',E,E',h,hx,q|.chain _ _ _ _ _,Z,g,Q,Q',E,E',h,hx,q|.ite _ _ _,Z,g,Q,Q',E,E',h,hx,q|.call _ _,Z,g,Q,Q',E,E',h,hx,q|.nil,Z,g,Q,Q',E,E',h,hx,q|.cons _ _,Z,g,Q,Q',E,E',h,hx,q
 |.make _ _ _,Z,g,Q,Q',E,E',h,hx,q|.jc _ _ _ _,Z,g,Q,Q',E,E',h,hx,q|.comp _ _ _ _ _ _,Z,g,Q,Q',E,E',h,hx,q|.gg _ _ _ _ _ _,Z,g,Q,Q',E,E',h,hx,q|.iZ _ _ _ _ _ _,Z,g,Q,Q',E,E',h,hx,q|.eK _,Z,g,Q,Q',E,E',h,hx,q|.dX _,Z,g,Q,Q',E,E',h,hx,q|.jf _ _,Z,g,Q,Q',E,E',h,hx,q|.jy _,Z,g,Q,Q',E,E',h,hx,q|.lG _,Z,g,Q,Q',E,E',h,hx,q=>(show False from q).elim
theorem A5{P:fm}(hP:i0 P):∀(e:ME) (Z:S) (g:G) (Q Q':IK->G->Prop) (E E':KX),(∀d g,Q d g->Q' d g)->(∀x g,E x g->E' x g)->fZ P e Z g Q E->fZ P e Z g Q' E'
 |.eK e,Z,g,Q,Q',E,E',h,hx,q=>by
  exact c5 hP e _ _ _ _ _ _ (λx g1 q=>q.imp (λ⟨l,a,b⟩=>⟨l,a,h _ _ b⟩) λ⟨i,l,a,b,c⟩=>⟨i,l,a,b,h _ _ c⟩) hx q
 |.dX a,Z,g,Q,Q',E,E',h,hx,q=>by
  exact c5 hP a _ _ _ _ _ _ (λx g1 ⟨j,a,b,c,d⟩=>⟨j,a,b,c,h _ _ d⟩) hx q
 |.jf a b,Z,g,Q,Q',E,E',h,hx,q=>by
  exact c5 hP a _ _ _ _ _ _ (λx g1 q=>c5 hP b _ _ _ _ _ _ (λy g2 ⟨i,j,a,b,c,d⟩=>⟨i,j,a,b,c,h _ _ d⟩) hx q) hx q
 |.jy e,Z,g,Q,Q',E,E',h,hx,q=>by
  exact c5 hP e _ _ _ _ _ _ (λx g1 ⟨i,l,a,b,c⟩=>⟨i,l,a,b,h _ _ c⟩) hx q
 |.lG e,Z,g,Q,Q',E,E',h,hx,q=>by
  exact c5 hP e _ _ _ _ _ _ (λx g1 ⟨i,l,a,b,c⟩=>⟨i,l,a,b,h _ _ c⟩) hx q
 |.var _,Z,g,Q,Q',E,E',h,hx,q|.lit _,Z,g,Q,Q',E,E',h,hx,q|.prim _ _,Z,g,Q,Q',E,E',h,hx,q|.dW _ _ _,Z,g,Q,Q',E,E',h,hx,q|.nE _,Z,g,Q,Q',E,E',h,hx,q|.chain _ _ _ _ _,Z,g,Q,Q',E,E',h,hx,q|.ite _ _ _,Z,g,Q,Q',E,E',h,hx,q|.call _ _,Z,g,Q,Q',E,E',h,hx,q|.nil,Z,g,Q,Q',E,E',h,hx,q|.cons _ _,Z,g,Q,Q',E,E',h,hx,q
 |.dw _ _,Z,g,Q,Q',E,E',h,hx,q|.iN _ _,Z,g,Q,Q',E,E',h,hx,q|.eB _,Z,g,Q,Q',E,E',h,hx,q|.fg _,Z,g,Q,Q',E,E',h,hx,q|.no,Z,g,Q,Q',E,E',h,hx,q
 |.make _ _ _,Z,g,Q,Q',E,E',h,hx,q|.jc _ _ _ _,Z,g,Q,Q',E,E',h,hx,q|.comp _ _ _ _ _ _,Z,g,Q,Q',E,E',h,hx,q|.gg _ _ _ _ _ _,Z,g,Q,Q',E,E',h,hx,q|.iZ _ _ _ _ _ _,Z,g,Q,Q',E,E',h,hx,q=>(show False from q).elim
end
structure Ends.le(N N':Ends):Prop where
 nx:∀Z g,N.nx Z g->N'.nx Z g
 rt:∀d g,N.rt d g->N'.rt d g
 bk:∀Z g,N.bk Z g->N'.bk Z g
 ct:∀Z g,N.ct Z g->N'.ct Z g
theorem Iu{P:fm}(hP:i0 P){N N':Ends}{E E':KX}(h:N.le N')(hx:∀x g,E x g->E' x g){Z:S}:∀(hs:List (Str×ME)) x g,lC P N Z E hs x g->lC P N' Z E' hs x g
 |[],x,g,q=>hx x g q
 |(y,e)::r,x,g,q=>by
  unfold lC at q ⊢;split
  ·rename_i hh;rw[aK hh] at q;exact c5 hP e _ _ _ _ _ _ h.rt (λ_ _ z=>z) q
  ·rename_i hh;rw[aC hh] at q;exact Iu hP h hx r x g q
theorem wpS_mono{P:fm}(hP:i0 P):∀(s:MS) (N N':Ends) (Z:S) (g:G) (E E':KX),N.le N'->(∀x g,E x g->E' x g)->wpS P s N Z g E->wpS P s N' Z g E'
 |.pass,N,N',Z,g,E,E',h,hx,q=>h.nx _ _ q
 |.seq a b,N,N',Z,g,E,E',h,hx,q=>wpS_mono hP a { N with nx:=λgM g1=>wpS P b N gM g1 E } { N' with nx:=λgM g1=>wpS P b N' gM g1 E' } _ _ _ _ ⟨λgM g1 q=>wpS_mono hP b _ _ _ _ _ _ h hx q,h.rt,h.bk,h.ct⟩ hx q
 |.expr e,N,N',Z,g,E,E',h,hx,q=>c5 hP e _ _ _ _ _ _ (λx g1 q=>h.nx _ _ q) hx q
 |.set i e,N,N',Z,g,E,E',h,hx,q=>c5 hP e _ _ _ _ _ _ (λx g1 q=>h.nx _ _ q) hx q
 |.jG t e,N,N',Z,g,E,E',h,hx,q=>c5 hP e _ _ _ _ _ _ (λx g1 q=>x6 (λZ q=>h.nx _ _ q) q) hx q
 |.eI o i v,N,N',Z,g,E,E',h,hx,q=>c5 hP v _ _ _ _ _ _ (λx g1 q=>c5 hP o _ _ _ _ _ _ (λy g2 q=>c5 hP i _ _ _ _ _ _ (λz g3 q=>U4 (λg q=>h.nx _ _ q) q) hx q) hx q) hx q
 |.gp f cs o v,N,N',Z,g,E,E',h,hx,q=>c5 hP v _ _ _ _ _ _ (λx g1 q=>c5 hP o _ _ _ _ _ _ (λy g2 q=>Xw (λg q=>h.nx _ _ q) q) hx q) hx q
 | .tZ f cs o v,N,N',Z,g,E,E',h,hx,q=>c5 hP o _ _ _ _ _ _ (λy g1 q=>by
   obtain⟨a,c,fs,x,q1,q2,q3,q4,q⟩:=q;exact ⟨a,c,fs,x,q1,q2,q3,q4,c5 hP v _ _ _ _ _ _ (λz g3 q=>u4 (λw g4 q=>by
    obtain⟨oZ,k1,k2,k3⟩:=q;exact ⟨oZ,k1,k2,h.nx _ _ k3⟩) q) hx q⟩) hx q
 |.uS o1 i1 o2 i2 e,N,N',Z,g,E,E',h,hx,q=>c5 hP e _ _ _ _ _ _ (λx g1 q=>let ⟨u,v,q1,q⟩:=q;⟨u,v,q1,c5 hP o1 _ _ _ _ _ _ (λy g2 q=>c5 hP i1 _ _ _ _ _ _ (λz g3 q=>U4 (λg4 q=>c5 hP o2 _ _ _ _ _ _ (λy g5 q=>c5 hP i2 _ _ _ _ _ _ (λz g6 q=>U4 (λg q=>h.nx _ _ q) q) hx q) hx q) q) hx q) hx q⟩) hx q
 |.jk i p v,N,N',Z,g,E,E',h,hx,q=>let ⟨x,q1,q⟩:=q;⟨x,q1,c5 hP v _ _ _ _ _ _ (λz g1 q=>u4 (λw g2 q=>h.nx _ _ q) q) hx q⟩
 |.ifs c a b,N,N',Z,g,E,E',h,hx,q=>p6 hP c _ _ _ _ _ _ (λt g1 q=>F5 (λq=>wpS_mono hP a _ _ _ _ _ _ h hx q) (λq=>wpS_mono hP b _ _ _ _ _ _ h hx q) q) hx q
 |.cU t it b,N,N',Z,g,E,E',h,hx,q=>A5 hP it _ _ _ _ _ _ (λk g1 q=>XF h.nx (λx N2 Z g q=>x6 (λcC q=>wpS_mono hP b { N with nx:=N2,ct:=N2,bk:=N.nx } { N' with nx:=N2,ct:=N2,bk:=N'.nx } _ _ _ _ ⟨λ_ _ z=>z,h.rt,h.nx,λ_ _ z=>z⟩ hx q) q) q) hx q
 |.iW c b,N,N',Z,g,E,E',h,hx,q=>by
  obtain⟨W,w0,q⟩:=q;refine⟨W,w0,λm Z g w=>p6 hP c _ _ _ _ _ _ (λt g1 q=>F5 (λq=>?_) (h.nx _ _) q) hx (q m Z g w)⟩;obtain⟨N2,a,q⟩:=q;exact⟨N2,a,wpS_mono hP b { N with nx:=N2,ct:=N2,bk:=N.nx } { N' with nx:=N2,ct:=N2,bk:=N'.nx } _ _ _ _ ⟨λ_ _ z=>z,h.rt,h.nx,λ_ _ z=>z⟩ hx q⟩
 |.ret e,N,N',Z,g,E,E',h,hx,q=>c5 hP e _ _ _ _ _ _ h.rt hx q
 |.nV,N,N',Z,g,E,E',h,hx,q=>h.rt _ _ q
 |.brk,N,N',Z,g,E,E',h,hx,q=>h.bk _ _ q
 |.cont,N,N',Z,g,E,E',h,hx,q=>h.ct _ _ q
 |.raise x es,N,N',Z,g,E,E',h,hx,q=>x5 hP es _ _ _ _ _ _ (λvs g1 q=>⟨q.1,hx _ _ q.2⟩) hx q
 |.Z2 b hs,N,N',Z,g,E,E',h,hx,q=>wpS_mono hP b _ _ _ _ _ _ h (λx g q=>Iu hP h hx hs x g q) q
theorem a8(T:Nat->Option ba):∀k,i0 (b9 T k)
 |0=>λf xs g Q Q' E E' h hx q=>q.elim
 |k+1=>λf xs g Q Q' E E' h hx q=>by
  obtain⟨m,a,b,q⟩:=q;exact⟨m,a,b,wpS_mono (a8 T k) m.body ⟨λ_ g'=>Q .bx g',Q,λ_ _=>False,λ_ _=>False⟩ _ _ _ _ _ ⟨λ_ _ z=>h _ _ z,h,λ_ _ z=>z,λ_ _ z=>z⟩ hx q⟩
end M

namespace M
open PySem L2
def TupAt(K:PySem.W.Frag)(H:Hp)(a:Addr)(vs:List V):Prop :=
 H a=some (.tup vs)\/∃(o:Obj) (aW:Array Value) (n:Nat),K.lookup a=some o/\o.cls=.type "tuple"/\o.dict=none/\o.data=.seq aW n/\aW.size<=sizeLine/\Vals vs aW.toList
theorem TupAt.d{K:PySem.W.Frag}{H:Hp}{a:Addr}{vs:List V}(h:TupAt K H a vs):ux K H a vs:=h
theorem TupAt.sq{K:PySem.W.Frag}{H:Hp}{a:Addr}{vs:List V}(h:TupAt K H a vs):gF K H a vs:=h.d.sq
mutual
inductive d5(K:PySem.W.Frag)(ρ:List Addr)(H:Hp):D->V->Prop
 |bx:d5 K ρ H .bx .bx
 |bl (b:Bool):d5 K ρ H (.bl b) (.bl b)
 |int (i:Int):d5 K ρ H (.int i) (.int i)
 |str (x:Str):d5 K ρ H (.str x) (.str x)
 |ty (n:String):d5 K ρ H (.ty n) (.ty n)
 |ref {i:Nat} {a:Addr} (h:ρ[i]?=some a):d5 K ρ H (.ref i) (.ref a)
 |tup {l:List D} {a:Addr} {vs:List V} (h:TupAt K H a vs) (r:c7 K ρ H l vs):d5 K ρ H (.tup l) (.ref a)
inductive c7(K:PySem.W.Frag)(ρ:List Addr)(H:Hp):List D->List V->Prop
 |nil:c7 K ρ H [] []
 |cons {d:D} {v:V} {ds:List D} {vs:List V} (h:d5 K ρ H d v) (r:c7 K ρ H ds vs):c7 K ρ H (d::ds) (v::vs)
end
structure Ext(ρ:List Addr)(H:Hp)(bI:List Addr)(H':Hp):Prop where
 pre:∃more,bI=ρ++more
 tup:∀a xs,H a=some (.tup xs)->H' a=some (.tup xs)
theorem Ext.refl(ρ:List Addr)(H:Hp):Ext ρ H ρ H:=⟨⟨[],by simp⟩,λ_ _ h=>h⟩
theorem Ext.trans{ρ H bT H1 eT H2}(a:Ext ρ H bT H1)(b:Ext bT H1 eT H2):Ext ρ H eT H2:=by
 obtain⟨⟨m,rfl⟩,t⟩:=a;obtain⟨⟨m',rfl⟩,t'⟩:=b;exact⟨⟨m++m',by simp⟩,λx xs h=>t' _ _ (t _ _ h)⟩
theorem Ext.get{ρ H bI H'}(e:Ext ρ H bI H'){i:Nat}{a:Addr}(h:ρ[i]?=some a):bI[i]?=some a:=by
 obtain⟨⟨m,rfl⟩,_⟩:=e;rw[aJ (ak.mp h).1];exact h
theorem TupAt.ext{K ρ H bI H'}(e:Ext ρ H bI H'){a:Addr}{vs:List V}(h:TupAt K H a vs):TupAt K H' a vs:=h.elim (λz=>.inl (e.tup _ _ z)) .inr
mutual
theorem d5.ext{K ρ H bI H'}(e:Ext ρ H bI H'):∀{d v},d5 K ρ H d v->d5 K bI H' d v
 |_,_,.bx=>.bx
 |_,_,.bl b=>.bl b
 |_,_,.int i=>.int i
 |_,_,.str x=>.str x
 |_,_,.ty n=>.ty n
 |_,_,.ref h=>.ref (e.get h)
 |_,_,.tup h r=>.tup (h.ext e) (c7.ext e r)
theorem c7.ext{K ρ H bI H'}(e:Ext ρ H bI H'):∀{ds vs},c7 K ρ H ds vs->c7 K bI H' ds vs
 |_,_,.nil=>.nil
 |_,_,.cons h r=>.cons (d5.ext e h) (c7.ext e r)
end
theorem c7.length{K ρ H}{ds:List D}{vs:List V}(h:c7 K ρ H ds vs):ds.length=vs.length:=by
 induction ds generalizing vs with
 |nil=>cases h;rfl
 |cons d ds ih =>
  cases h with
  |cons q r=>simp[ih r]
theorem c7.get{K ρ H}:∀{ds vs} {i:Nat} {d:D},c7 K ρ H ds vs->ds[i]?=some d->∃v,vs[i]?=some v/\d5 K ρ H d v
 |_,_,_,_,.nil,h=>by simp at h
 |_,_,0,_,.cons h _,e=>by simp at e;subst e;exact⟨_,rfl,h⟩
 |_,_,i+1,d,.cons _ r,e=>by
  obtain⟨v,h1,h2⟩:=c7.get (i:=i) (d:=d) r (by simpa using e);exact⟨v,by simpa using h1,h2⟩
theorem c7.set{K ρ H}{d:D}{v:V}(h:d5 K ρ H d v):∀{ds vs} (i:Nat),c7 K ρ H ds vs->c7 K ρ H (ds.set i d) (vs.set i v)
 |_,_,_,.nil=>.nil
 |_,_,0,.cons _ r=>.cons h r
 |_,_,i+1,.cons q r=>.cons q (c7.set h i r)
theorem c7.append{K ρ H}{ds es:List D}{vs ws:List V}(h:c7 K ρ H ds vs)(s:c7 K ρ H es ws):c7 K ρ H (ds++es) (vs++ws):=by
 induction ds generalizing vs with
 |nil=>cases h;exact s
 |cons d ds ih =>
  cases h with
  |cons q r=>exact .cons q (ih r)
theorem c7.rep{K ρ H}{ds:List D}{vs:List V}(r:c7 K ρ H ds vs):∀n,c7 K ρ H (List.replicate n ds).flatten (List.replicate n vs).flatten
 |0=>.nil
 |n+1=>by
  rw[cq,cq,da,da];exact c7.append r (c7.rep r n)
theorem c7.erase{K ρ H}:∀{ds:List D} {vs:List V} (i:Nat),c7 K ρ H ds vs->c7 K ρ H (ds.eraseIdx i) (vs.eraseIdx i)
 |_,_,_,.nil=>.nil
 |_,_,0,.cons _ r=>r
 |_,_,i+1,.cons q r=>.cons q (c7.erase i r)
theorem c7.take{K ρ H}:∀{ds:List D} {vs:List V} (n:Nat),c7 K ρ H ds vs->c7 K ρ H (ds.take n) (vs.take n)
 |_,_,0,_=>.nil
 |_,_,_+1,.nil=>.nil
 |_,_,n+1,.cons h r=>.cons h (c7.take n r)
theorem c7.drop{K ρ H}:∀{ds:List D} {vs:List V} (n:Nat),c7 K ρ H ds vs->c7 K ρ H (ds.drop n) (vs.drop n)
 |_,_,0,r=>r
 |_,_,_+1,.nil=>.nil
 |_,_,n+1,.cons _ r=>c7.drop n r
theorem c7.reverse{K ρ H}:∀{ds:List D} {vs:List V},c7 K ρ H ds vs->c7 K ρ H ds.reverse vs.reverse
 |_,_,.nil=>.nil
 |_,_,.cons h r=>by
  rw[List.reverse_cons,List.reverse_cons];exact c7.append (c7.reverse r) (.cons h .nil)
theorem c7.cut{K ρ H}{ds:List D}{vs:List V}(r:c7 K ρ H ds vs)(lo hi:Option Int):c7 K ρ H (M.cut ds lo hi) (T9 vs lo hi):=by
 unfold M.cut T9;rw[r.length];exact(r.drop _).take _
theorem c7.ints{K ρ H}:∀{ns:List Int} {vs:List V},c7 K ρ H (ns.map D.int) vs->vs=ns.map V.int
 |[],_,.nil=>rfl
 |_::_,_,.cons h r=>by cases h;rw[c7.ints r];rfl
theorem c7.ofInts{K ρ H}:∀(ns:List Int),c7 K ρ H (ns.map D.int) (ns.map V.int)
 |[]=>.nil
 |n::r=>.cons (.int n) (c7.ofInts r)
def qH(K:PySem.W.Frag)(H:Hp)(a:Addr)(vs:List V):Prop :=
 (∃o,H a=some (.iQ o (.lst vs)))\/∃(o:Obj) (aW:Array Value) (n:Nat),K.lookup a=some o/\o.cls=.type "list"/\o.dict=none/\o.data=.seq aW n/\aW.size<=sizeLine/\Vals vs aW.toList
theorem qH.sq{K:PySem.W.Frag}{H:Hp}{a:Addr}{vs:List V}(h:qH K H a vs):fo K H a vs:=h.elim (λ⟨o,z⟩=>.inl (.inr ⟨o,z⟩)) .inr
inductive i6{α:Type}(K:PySem.W.Frag)(ρ:List Addr)(H:Hp):List (α×D)->List (α×V)->Prop
 |nil:i6 K ρ H [] []
 |cons {k:α} {d:D} {v:V} {ds:List (α×D)} {vs:List (α×V)} (h:d5 K ρ H d v) (r:i6 K ρ H ds vs):i6 K ρ H ((k,d)::ds) ((k,v)::vs)
theorem i6.ext{α:Type}{K ρ H bI H'}(e:Ext ρ H bI H'){ds:List (α×D)}{vs:List (α×V)}(h:i6 K ρ H ds vs):i6 K bI H' ds vs:=by
 induction h with
 |nil=>exact .nil
 |cons h r ih=>exact .cons (h.ext e) ih
theorem i6.length{α:Type}{K ρ H}{ds:List (α×D)}{vs:List (α×V)}(h:i6 K ρ H ds vs):ds.length=vs.length:=by
 induction h with
 |nil=>rfl
 |cons h r ih=>simp[ih]
def pL(K:PySem.W.Frag)(ρ:List Addr)(H:Hp):Option D->Option V->Prop
 |some d,some v=>d5 K ρ H d v
 |none,none=>True
 |_,_=>False
theorem i6.val{K ρ H}:∀{ds vs} (k:Key),i6 K ρ H ds vs->pL K ρ H (t8 ds k) (L3 vs k)
 |_,_,k,.nil=>trivial
 |_,_,k,.cons (k:=k') h r=>by
  unfold t8 L3;rw[eW,eW];by_cases e:k'=k
  ·simp only[e,decide_true];exact h
  ·simp only[e,decide_false];exact i6.val k r
theorem i6.EB{K ρ H}:∀{ds vs} (k:Key),i6 K ρ H ds vs->(ds.any λkv=>decide (kv.1=k))=(vs.any λkv=>decide (kv.1=k))
 |_,_,k,.nil=>rfl
 |_,_,k,.cons h r=>by simp only[List.any_cons,i6.EB k r]
theorem i6.snoc{K ρ H}{k:Key}{d:D}{v:V}(h:d5 K ρ H d v){ds vs}(t:i6 K ρ H ds vs):i6 K ρ H (ds++[(k,d)]) (vs++[(k,v)]):=by
 induction ds generalizing vs with
 |nil=>cases t;exact .cons h .nil
 |cons d ds ih =>
  cases t with
  |cons q r=>exact .cons q (ih r)
theorem i6.BI{K ρ H}{k:Key}{d:D}{v:V}(h:d5 K ρ H d v):∀{ds vs},i6 K ρ H ds vs->i6 K ρ H (ds.map λkv=>if kv.1=k then(kv.1,d) else kv) (vs.map λkv=>if kv.1=k then(kv.1,v) else kv)
 |_,_,.nil=>.nil
 |_,_,.cons (k:=k') q r=>by
  simp only[List.map_cons];by_cases e:k'=k
  ·rw[aK e,aK e];exact .cons h (i6.BI h r)
  ·rw[aC e,aC e];exact .cons q (i6.BI h r)
theorem i6.put{K ρ H}{k:Key}{d:D}{v:V}(h:d5 K ρ H d v){ds vs}(r:i6 K ρ H ds vs):i6 K ρ H (putD ds k d) (putK vs k v):=by
 unfold putD putK;rw[r.EB k];split
 ·exact r.BI h
 ·exact r.snoc h
noncomputable abbrev s9(K:PySem.W.Frag)(x:Str)(C:Addr):Prop:=PySem.W.nsIn K mainGlobals x=some (some (.ref C))
theorem i6.look{K ρ H}{ds:List (Str×D)}{vs:List (Str×V)}(f:Str)(h:i6 K ρ H ds vs):pL K ρ H (ds.lookup f) (vs.lookup f):=by
 induction h with
 |nil=>trivial
 |cons h r ih =>
  rename_i k d v ds vs;rw[cI,cI];cases f==k
  ·exact ih
  ·exact h
theorem i6.A7{K ρ H}{f:Str}{d:D}{v:V}(h:d5 K ρ H d v){ds:List (Str×D)}{vs:List (Str×V)}(r:i6 K ρ H ds vs):i6 K ρ H (j9 f d ds) (L2.A7 f v vs):=by
 induction r with
 |nil=>exact .cons h .nil
 |cons q r ih =>
  unfold j9 L2.A7;split
  ·exact .cons h r
  ·exact .cons q ih
theorem Gf{f:Str}{d:D}{p:Str->Prop}(hf:p f):∀{ds:List (Str×D)},(∀x∈ds,p x.1)->∀x∈j9 f d ds,p x.1
 |[],_,x,hx=>by
  have:x=(f,d):=by simpa[j9] using hx
  rw[this];exact hf
 |(k,e)::r,h,x,hx=>by
  unfold j9 at hx;split at hx
  ·rcases aL.mp hx with z|z
   ·rw[z];exact h (k,e) (by simp)
   ·exact h x (by simp[z])
  ·rcases aL.mp hx with z|z
   ·rw[z];exact h (k,e) (by simp)
   ·exact Gf hf (λy hy=>h y (by simp[hy])) x z
def OH(K:PySem.W.Frag)(ρ:List Addr)(H:Hp):O->HO->Prop
 |.lst l,.lst vs=>c7 K ρ H l vs
 |.ei kvs,.dK vs=>i6 K ρ H kvs vs
 |.set S n,.set S' n'=>S=S'/\n=n'
 |.ins c fs,.ins C _ vs=>s9 K c C/\iU K C/\i6 K ρ H fs vs/\∀x∈fs,B8 K C x.1
 |_,_=>False
theorem OH.ext{K ρ H bI H'}(e:Ext ρ H bI H'){o:O}{u:HO}(h:OH K ρ H o u):OH K bI H' o u:=by
 cases o<;>cases u<;>first|exact h.elim|exact c7.ext e h|exact i6.ext e h|exact⟨h.1,h.2.1,h.2.2.1.ext e,h.2.2.2⟩|exact h
theorem OH.qQ{K ρ H}{o:O}{xs:List V}(h:OH K ρ H o (.tup xs)):False:=by cases o<;>exact h
theorem OH.Ua{K ρ H}{o:O}{ob:Obj}{u:HO}(h:OH K ρ H o (.iQ ob u)):False:=by cases o<;>exact h
def J6(K:PySem.W.Frag)(ρ:List Addr)(H:Hp)(o:O)(a:Addr):Prop:=match o with
 |.mq l=>∃vs,qH K H a vs/\c7 K ρ H l vs
 |o=>∃u,H a=some u/\OH K ρ H o u
theorem J6.of{K ρ H}{o:O}{a:Addr}{u:HO}(hu:H a=some u)(h:OH K ρ H o u):J6 K ρ H o a:=by
 cases o<;>first|exact⟨u,hu,h⟩|(cases u<;>exact h.elim)
theorem J6.inv{K ρ H}{o:O}{a:Addr}(m:o.mut=true)(h:J6 K ρ H o a):∃u,H a=some u/\OH K ρ H o u:=by
 cases o<;>first|exact h|cases m
theorem J6.lst{K ρ H}{l:List D}{a:Addr}(h:J6 K ρ H (.lst l) a):∃vs,H a=some (.lst vs)/\c7 K ρ H l vs:=by
 obtain⟨u,h1,h2⟩:=h;cases u<;>first|exact⟨_,h1,h2⟩|exact h2.elim
theorem J6.ei{K ρ H}{l:List (Key×D)}{a:Addr}(h:J6 K ρ H (.ei l) a):∃vs,H a=some (.dK vs)/\i6 K ρ H l vs:=by
 obtain⟨u,h1,h2⟩:=h;cases u<;>first|exact⟨_,h1,h2⟩|exact h2.elim
theorem J6.set{K ρ H}{S:Int->Bool}{n:Nat}{a:Addr}(h:J6 K ρ H (.set S n) a):H a=some (.set S n):=by
 obtain⟨u,h1,h2⟩:=h;cases u<;>first|(obtain⟨rfl,rfl⟩:=(show _/\_ from h2);exact h1)|exact h2.elim
theorem J6.ins{K ρ H}{c:Str}{fs:List (Str×D)}{a:Addr}(h:J6 K ρ H (.ins c fs) a):∃C dx vs,H a=some (.ins C dx vs)/\s9 K c C/\iU K C/\i6 K ρ H fs vs/\∀x∈fs,B8 K C x.1:=by
 obtain⟨u,h1,h2⟩:=h;cases u<;>first|exact⟨_,_,_,h1,h2⟩|exact h2.elim
structure Rl(K:PySem.W.Frag)(ρ:List Addr)(g:G)(H:Hp):Prop where
 len:ρ.length=g.length
 obj:∀(i:Nat) o a,g[i]?=some o->ρ[i]?=some a->J6 K ρ H o a
 nd:∀(i j:Nat) o o' a,g[i]?=some o->g[j]?=some o'->o.mut=true->o'.mut=true->ρ[i]?=some a->ρ[j]?=some a->i=j
section
variable{K:PySem.W.Frag}{ρ:List Addr}{g:G}{H:Hp}
theorem Rl.lst(R:Rl K ρ g H){i:Nat}{l:List D}{a:Addr}(h:g[i]?=some (.lst l))(ha:ρ[i]?=some a):∃vs,H a=some (.lst vs)/\c7 K ρ H l vs:=(R.obj _ _ _ h ha).lst
theorem Rl.ei(R:Rl K ρ g H){i:Nat}{l:List (Key×D)}{a:Addr}(h:g[i]?=some (.ei l))(ha:ρ[i]?=some a):∃vs,H a=some (.dK vs)/\i6 K ρ H l vs:=(R.obj _ _ _ h ha).ei
theorem Rl.set(R:Rl K ρ g H){i:Nat}{S:Int->Bool}{n:Nat}{a:Addr}(h:g[i]?=some (.set S n))(ha:ρ[i]?=some a):H a=some (.set S n):=(R.obj _ _ _ h ha).set
theorem Rl.ins(R:Rl K ρ g H){i:Nat}{c:Str}{fs:List (Str×D)}{a:Addr}(h:g[i]?=some (.ins c fs))(ha:ρ[i]?=some a):∃C dx vs,H a=some (.ins C dx vs)/\s9 K c C/\iU K C/\i6 K ρ H fs vs/\∀x∈fs,B8 K C x.1:=(R.obj _ _ _ h ha).ins
theorem Rl.items(R:Rl K ρ g H){i:Nat}{l:List D}{a:Addr}(h:d0 g i=some l)(ha:ρ[i]?=some a):∃vs,fo K H a vs/\c7 K ρ H l vs:=by
 cases e:g[i]? with
 |none=>rw[d0,e] at h;cases h
 |some o =>
  rw[d0,e] at h;have q:=R.obj _ _ _ e ha;cases o with
  |lst m=>cases h;obtain⟨vs,z,r⟩:=q.lst;exact⟨vs,fo.of z,r⟩
  |mq m=>cases h;obtain⟨vs,z,r⟩:=q;exact⟨vs,z.sq,r⟩
  |_=>cases h
theorem A9{p:Addr}{o:HO}(hp:H p=none):Ext ρ H ρ (upd H p o):=⟨⟨[],by simp⟩,λa xs h=>by rw[d8 (l9 h hp)];exact h⟩
theorem qH.upd{p a:Addr}{o:HO}{vs:List V}(h:qH K H a vs)(hp:∀ob u,H p≠some (.iQ ob u)):qH K (upd H p o) a vs:=by
 rcases h with⟨ob,z⟩|z
 ·refine .inl ⟨ob,?_⟩;rw[d8 ?_]
  ·exact z
  ·intro e;subst e;exact hp _ _ z
 ·exact .inr z
theorem J6.upd{p a:Addr}{o:O}{u:HO}{bI:List Addr}(h:J6 K ρ H o a)(dH:o.mut=true->a≠p)(hp:∀ob u,H p≠some (.iQ ob u))(e:Ext ρ H bI (L2.upd H p u)):J6 K bI (L2.upd H p u) o a:=by
 cases hm:o.mut with
 |true =>
  obtain⟨u',h1,h2⟩:=h.inv hm;exact .of (by rw[d8 (dH hm)];exact h1) (h2.ext e)
 |false =>
  cases o<;>first|cases hm|skip
  obtain⟨vs,z,r⟩:=h;exact⟨vs,z.upd hp,r.ext e⟩
theorem Rl.grow{p:Addr}{o:HO}(R:Rl K ρ g H)(hp:H p=none):Rl K ρ g (upd H p o):=by
 have e:Ext ρ H ρ (upd H p o):=A9 hp;refine⟨R.len,λi ob a h1 h2=>?_,R.nd⟩;have q:=R.obj _ _ _ h1 h2;refine q.upd (λhm=>?_) (λob u z=>by rw[hp] at z;cases z) e;obtain⟨u,h1,_⟩:=q.inv hm;exact l9 h1 hp
theorem Rl.C7(R:Rl K ρ g H)(p:Addr):(ρ++[p])[g.length]?=some p:=by rw[<- R.len];simp
theorem M9{p:Addr}{o:HO}(hp:H p=none):Ext ρ H (ρ++[p]) (upd H p o):=⟨⟨[p],rfl⟩,(A9 (ρ:=ρ) hp).tup⟩
theorem Rl.new{p:Addr}{o:O}{u:HO}(R:Rl K ρ g H)(hp:H p=none)(r:OH K ρ H o u):Rl K (ρ++[p]) (g++[o]) (upd H p u):=by
 have e:Ext ρ H (ρ++[p]) (upd H p u):=M9 hp;have old:∀{i:Nat} {ob:O} {a:Addr},g[i]?=some ob->(ρ++[p])[i]?=some a->ρ[i]?=some a:=λ{i ob a} h1 h2=>by
  rw[aJ (by rw[R.len];exact(ak.mp h1).1)] at h2;exact h2
 have split:∀{i:Nat} {ob:O},(g++[o])[i]?=some ob->g[i]?=some ob\/(i=g.length/\ob=o):=λ{i ob} h=>by
  rcases dQ i g.length with q|q|q
  ·rw[aJ q] at h;exact .inl h
  ·subst q;simp at h;exact .inr ⟨rfl,h.symm⟩
  ·rw[aP (by simp;omega)] at h;cases h
 refine⟨by simp[R.len],λi ob a h1 h2=>?_,λi j o1 o2 a h1 h2 m1 m2 h3 h4=>?_⟩
 ·rcases split h1 with q|⟨rfl,rfl⟩
  ·have z:=R.obj _ _ _ q (old q h2);refine z.upd (λhm=>?_) (λob u z=>by rw[hp] at z;cases z) e;obtain⟨u,h1,_⟩:=z.inv hm;exact l9 h1 hp
  ·rw[R.C7] at h2;cases h2;exact .of u3 (r.ext e)
 ·have nq:∀{i:Nat} {o:O} {a:Addr},g[i]?=some o->o.mut=true->ρ[i]?=some a->a≠p:=λ{i o a} h1 hm h2=>by
   obtain⟨u,z,_⟩:=(R.obj _ _ _ h1 h2).inv hm;exact l9 z hp
  rcases split h1 with q|⟨rfl,_⟩
  ·rcases split h2 with q'|⟨rfl,_⟩
   ·exact R.nd _ _ _ _ _ q q' m1 m2 (old q h3) (old q' h4)
   ·rw[R.C7] at h4;cases h4;exact absurd rfl (nq q m1 (old q h3))
  ·rcases split h2 with q'|⟨rfl,_⟩
   ·rw[R.C7] at h3;cases h3;exact absurd rfl (nq q' m2 (old q' h4))
   ·rfl
theorem Rl.alloc{p:Addr}{l:List D}{vs:List V}(R:Rl K ρ g H)(hp:H p=none)(r:c7 K ρ H l vs):Rl K (ρ++[p]) (g++[.lst l]) (upd H p (.lst vs)):=R.new hp r
theorem Rl.put{i:Nat}{a:Addr}{o o':O}{u:HO}(R:Rl K ρ g H)(h:g[i]?=some o)(hm:o.mut=true)(ha:ρ[i]?=some a)(r:OH K ρ H o' u) :
  Rl K ρ (g.set i o') (upd H a u)/\Ext ρ H ρ (upd H a u):=by
 obtain⟨u0,z0,CH⟩:=(R.obj _ _ _ h ha).inv hm;have e:Ext ρ H ρ (upd H a u):=⟨⟨[],by simp⟩,λb xs q=>by rw[d8];exact q;intro z;subst z;rw[z0] at q;cases q;exact CH.qQ⟩
 refine⟨⟨by simp[R.len],λj ob b h1 h2=>?_,λj k o1 o2 b h1 h2 m1 m2 h3 h4=>?_⟩,e⟩
 ·by_cases gf:i=j
  ·subst gf;rw[ha] at h2;cases h2;have hi:i<g.length:=(ak.mp h).1;rw[aY hi] at h1;cases h1;exact .of u3 (r.ext e)
  ·rw[aA gf] at h1;refine(R.obj _ _ _ h1 h2).upd (λnj ez=>?_) (λob u z=>by rw[z0] at z;cases z;exact CH.Ua) e;subst ez;exact gf (R.nd _ _ _ _ _ h h1 hm nj ha h2)
 ·have back:∀{j:Nat} {m:O},(g.set i o')[j]?=some m->m.mut=true->∃m',g[j]?=some m'/\m'.mut=true:=λ{j m} q nj=>by
   by_cases gf:i=j
   ·subst gf;exact⟨o,h,hm⟩
   ·rw[aA gf] at q;exact⟨m,q,nj⟩
  obtain⟨_,q1,n1⟩:=back h1 m1;obtain⟨_,q2,n2⟩:=back h2 m2;exact R.nd _ _ _ _ _ q1 q2 n1 n2 h3 h4
theorem Rl.write{i:Nat}{a:Addr}{l l':List D}{vs:List V}(R:Rl K ρ g H)(h:g[i]?=some (.lst l))(ha:ρ[i]?=some a)(r:c7 K ρ H l' vs) :
  Rl K ρ (g.set i (.lst l')) (upd H a (.lst vs))/\Ext ρ H ρ (upd H a (.lst vs)):=R.put h rfl ha r
end
structure n9(K:PySem.W.Frag)(ρ:List Addr)(H:Hp)(Z:S)(bY:St):Prop where
 len:Z.length=bY.length
 val:∀(i:Nat) d,Z[i]?=some (some d)->∃v,bY[i]?=some (some v)/\d5 K ρ H d v
section
variable{K:PySem.W.Frag}{ρ bI:List Addr}{H H':Hp}
theorem n9.ext{Z bY}(e:Ext ρ H bI H')(r:n9 K ρ H Z bY):n9 K bI H' Z bY:=⟨r.len,λi d h=>let ⟨v,a,b⟩:=r.val i d h;⟨v,a,b.ext e⟩⟩
theorem n9.set{Z bY d v}(r:n9 K ρ H Z bY)(i:Nat)(h:d5 K ρ H d v):n9 K ρ H (Z.set i (some d)) (bY.set i (some v)):=by
 refine⟨by simp[r.len],λj e q=>?_⟩;by_cases gf:i=j
 ·subst gf;have hi:i<Z.length:=by
   have:=(ak.mp q).1;simpa using this
  rw[aY hi] at q;cases q;exact⟨v,by rw[aY (by rw[<- r.len];exact hi)],h⟩
 ·rw[aA gf] at q ⊢;exact r.val j e q
theorem n9.start{ds vs}{n:Nat}(r:c7 K ρ H ds vs):n9 K ρ H (ds.map some++List.replicate (n-ds.length) none) (vs.map some++List.replicate (n-vs.length) none):=by
 refine⟨by simp[r.length],λi d h=>?_⟩;by_cases hi:i<ds.length
 ·rw[aJ (by simpa using hi),ag] at h;cases e:ds[i]? with
  |none=>rw[e] at h;cases h
  |some x =>
   rw[e] at h;cases h;obtain⟨v,h1,h2⟩:=r.get e;refine⟨v,?_,h2⟩;rw[aJ (by rw[ao,<- r.length];exact hi),ag,h1]
   rfl
 ·rw[cA (by simpa using hi),dn] at h;split at h<;>cases h
theorem n9.d4{Z bY}(r:n9 K ρ H Z bY)(d4:List Nat)(n:Nat):n9 K ρ H (F2 Z d4 n) (C5 bY d4 n):=by
 refine⟨by simp[F2,C5],λi d h=>?_⟩;unfold F2 at h;unfold C5;by_cases hi:i<d4.length
 ·rw[aJ (by simpa using hi),ag,ai hi] at h;rw[aJ (by simpa using hi),ag,ai hi];simp only[Option.map_some] at h ⊢;cases e:Z[d4[i]]? with
  |none=>rw[e] at h;cases h
  |some x =>
   rw[e] at h;have hx:x=some d:=aQ h;subst hx;obtain⟨v,h1,h2⟩:=r.val _ _ e;exact⟨v,by rw[h1];rfl,h2⟩
 ·rw[cA (by simpa using hi),dn] at h;split at h<;>cases h
end
end M

namespace M
open PySem L2 PySem.Spec PyProof.Rows
def LQ(K:PySem.W.Frag)(ρ:List Addr)(H:Hp)(Q:VK):KD:=λd g'=>∀bI H' v,Ext ρ H bI H'->Rl K bI g' H'->d5 K bI H' d v->Q v H'
theorem LQ.ext{K ρ H bT H1 Q d g}(e:Ext ρ H bT H1)(h:LQ K ρ H Q d g):LQ K bT H1 Q d g:=λbI H' v e' R r=>h bI H' v (e.trans e') R r
theorem LQ.now{K ρ H Q d g v}(h:LQ K ρ H Q d g)(R:Rl K ρ g H)(r:d5 K ρ H d v):Q v H:=h ρ H v (.refl _ _) R r
theorem LQ.new{K ρ H Q}{g:G}{l:List D}{vs:List V}{p:Addr}(h:LQ K ρ H Q (.ref g.length) (g++[.lst l]))(R:Rl K ρ g H)(hp:H p=none)(r:c7 K ρ H l vs):Q (.ref p) (upd H p (.lst vs)) :=
 h (ρ++[p]) _ _ (M9 hp) (R.alloc hp r) (.ref (R.C7 p))
theorem LQ.tup{K ρ H Q}{g:G}{l:List D}{vs:List V}{p:Addr}(h:LQ K ρ H Q (.tup l) g)(R:Rl K ρ g H)(hp:H p=none)(r:c7 K ρ H l vs):Q (.ref p) (upd H p (.tup vs)) :=
 h ρ _ _ (A9 hp) (R.grow hp) (.tup (.inl u3) (r.ext (A9 hp)))
def r2(K:PySem.W.Frag)(p:Pr):R2:=λx y H Q=>∃d e g ρ,Rl K ρ g H/\d5 K ρ H d x/\d5 K ρ H e y/\cH p [d,e] g (LQ K ρ H Q)
def r1(K:PySem.W.Frag)(p:Pr):V->Hp->VK->Prop:=λx H Q=>∃d g ρ,Rl K ρ g H/\d5 K ρ H d x/\cH p [d] g (LQ K ρ H Q)
def rN(K:PySem.W.Frag)(p:Pr):List V->Hp->VK->Prop:=λxs H Q=>∃ds g ρ,Rl K ρ g H/\c7 K ρ H ds xs/\cH p ds g (LQ K ρ H Q)
theorem m9{n:Nat}(h:n<=100000):n<=sizeLine:=aG h (by decide)
theorem Ad{n:Nat}(h:n<100000):n<sizeLine:=aB h (by decide)
theorem d5.i4{K ρ H i v}(h:d5 K ρ H (.int i) v):v=.int i:=by cases h;rfl
theorem d5.E3{K ρ H i v}(h:d5 K ρ H (.str i) v):v=.str i:=by cases h;rfl
theorem d5.M1{K ρ H i v}(h:d5 K ρ H (.bl i) v):v=.bl i:=by cases h;rfl
theorem d5.wb{K ρ H v}(h:d5 K ρ H .bx v):v=.bx:=by cases h;rfl
theorem d5.UX{K ρ H n v}(h:d5 K ρ H (.ty n) v):v=.ty n:=by cases h;rfl
theorem d5.j5{K ρ H i v}(h:d5 K ρ H (.ref i) v):∃a,v=.ref a/\ρ[i]?=some a:=by cases h;exact⟨_,rfl,by assumption⟩
theorem d5.J7{K ρ H l v}(h:d5 K ρ H (.tup l) v):∃a vs,v=.ref a/\TupAt K H a vs/\c7 K ρ H l vs:=by cases h;exact⟨_,_,rfl,by assumption,by assumption⟩
theorem c7.one{K ρ H d vs}(h:c7 K ρ H [d] vs):∃v,vs=[v]/\d5 K ρ H d v:=by
 cases h with
 |cons r rr=>cases rr;exact⟨_,rfl,r⟩
theorem c7.two{K ρ H d e vs}(h:c7 K ρ H [d,e] vs):∃v w,vs=[v,w]/\d5 K ρ H d v/\d5 K ρ H e w:=by
 cases h with
 |cons r rr=>obtain⟨w,rfl,q⟩:=rr.one;exact⟨_,_,rfl,r,q⟩
theorem A3{a b c d:D}(h:[a,b]=[c,d]):a=c/\b=d:=by cases h;exact⟨rfl,rfl⟩
section
variable{X:Cx}
theorem MU(op:Operator):ft X (binaryOp op) (r2 X.K (.bin op)):=by
 intro pins s Z H x y v u Q I rx ry h;obtain⟨d,e,g,ρ,R,rd,re,d',g',h,q⟩:=h;rcases h with⟨i,j,r,ex,ha,rfl,rfl⟩|⟨rfl,h⟩|⟨rfl,h⟩
 ·obtain⟨rfl,rfl⟩:=A3 ex;obtain rfl:=rd.i4;obtain rfl:=re.i4;have fin:=q.now R (.int r);cases op<;>first|exact(show False from ha).elim|skip
  ·cases ha;exact MQ pins s Z H _ _ v u Q I rx ry ⟨i,j,rfl,rfl,fin⟩
  ·cases ha;exact Nb pins s Z H _ _ v u Q I rx ry ⟨i,j,rfl,rfl,fin⟩
  ·obtain⟨hc,rfl⟩:=ha;exact MY pins s Z H _ _ v u Q I rx ry ⟨i,j,rfl,rfl,hc,fin⟩
  ·obtain⟨hc,rfl⟩:=ha;exact MX pins s Z H _ _ v u Q I rx ry ⟨i,j,rfl,rfl,hc,fin⟩
  ·obtain⟨hc,rfl⟩:=ha;exact MZ pins s Z H _ _ v u Q I rx ry ⟨i,j,rfl,rfl,hc,fin⟩
  ·obtain⟨hc,rfl⟩:=ha;exact Na pins s Z H _ _ v u Q I rx ry ⟨i,j,rfl,rfl,hc,fin⟩
  ·cases ha;exact Ug pins s Z H _ _ v u Q I rx ry ⟨i,j,rfl,rfl,fin⟩
  ·cases ha;exact MR pins s Z H _ _ v u Q I rx ry ⟨i,j,rfl,rfl,fin⟩
  ·obtain⟨hc,rfl⟩:=ha;exact Pp pins s Z H _ _ v u Q I rx ry ⟨i,j,rfl,rfl,hc,fin⟩
 ·rcases h with⟨l,m,ex,hz,rfl,rfl⟩|⟨a,b,l,m,ex,ha,hb,hz,rfl,rfl⟩|⟨x',y',ex,hz,rfl,rfl⟩
  ·obtain⟨rfl,rfl⟩:=A3 ex;obtain⟨a,vs,rfl,ta,rs⟩:=rd.J7;obtain⟨b,ws,rfl,tb,rt⟩:=re.J7;refine YD pins s Z H _ _ v u Q I rx ry ⟨a,b,vs,ws,rfl,rfl,ta.sq,tb.sq,?_,λz=>?_,λz=>?_,λp hp=>q.tup R hp (rs.append rt)⟩
   ·rw[<- rs.length,<- rt.length];exact m9 hz
   ·subst z;cases rs;exact q.now R (.tup tb rt)
   ·subst z;cases rt;rw[eX] at q;exact q.now R (.tup ta rs)
  ·obtain⟨rfl,rfl⟩:=A3 ex;obtain⟨a',rfl,ra⟩:=rd.j5;obtain⟨b',rfl,rb⟩:=re.j5;obtain⟨vs,z1,rs⟩:=R.lst ha ra;obtain⟨ws,z2,rt⟩:=R.lst hb rb;exact MV pins s Z H _ _ v u Q I rx ry ⟨_,_,vs,ws,rfl,rfl,z1,z2,by rw[<- rs.length,<- rt.length];exact m9 hz,λp hp=>q.new R hp (rs.append rt)⟩
  ·obtain⟨rfl,rfl⟩:=A3 ex;obtain rfl:=rd.E3;obtain rfl:=re.E3;exact Xp pins s Z H _ _ v u Q I rx ry ⟨_,_,rfl,rfl,m9 hz,q.now R (.str _)⟩
 ·rcases h with⟨a,l,n,ex,ha,h1,h2,hz,rfl,rfl⟩|⟨l,n,ex,dH,h1,h2,hz,rfl,rfl⟩
  rotate_left
  ·obtain⟨rfl,rfl⟩:=A3 ex;obtain⟨a',vs,rfl,ta,rs⟩:=rd.J7;obtain rfl:=re.i4;refine Pt pins s Z H _ _ v u Q I rx ry ⟨_,_,vs,rfl,rfl,ta.sq,λz=>?_,h1,h2,by rw[<- rs.length];exact m9 hz,λz=>?_,λp hp=>q.tup R hp (rs.rep _)⟩
   ·subst z;cases rs;exact dH rfl
   ·subst z;have:(List.replicate (Int.toNat 1) l).flatten=l:=by simp
    rw[this] at q;exact q.now R (.tup ta rs)
  obtain⟨rfl,rfl⟩:=A3 ex;obtain⟨a',rfl,ra⟩:=rd.j5;obtain rfl:=re.i4;obtain⟨vs,z1,rs⟩:=R.lst ha ra;exact M' pins s Z H _ _ v u Q I rx ry ⟨_,_,vs,rfl,rfl,z1,by omega,by omega,by rw[<- rs.length];exact m9 hz,λp hp=>q.new R hp (rs.rep _)⟩
theorem Uh(op:UnaryOp):xc X (unaryOp op) (r1 X.K (.un op)):=by
 intro pins s Z H x v Q I rx h;obtain⟨d,g,ρ,R,rd,d',g',⟨rfl,i,ex,rfl,rfl⟩,q⟩:=h;cases ex;obtain rfl:=rd.i4;exact OB pins s Z H _ v Q I rx ⟨_,rfl,q.now R (.int _)⟩
section
variable{ρ:List Addr}{g:G}{H:Hp}{pins:List (Addr×Obj)}{Z:L2.St}{s:Shared}
theorem GA(I:Inv X pins Z H s)(R:Rl X.K ρ g H)(n:Nat)(ih:∀{d:D} {v:V} {u:Value} {p:PyData},rd g n d=some p->d5 X.K ρ H d v->RelV v u->∃as,Reads s.heap u p as/\p.depth<=n){l:List D}:∀{vs:List V} {us:List Value} {ps:List PyData},l.mapM (rd g n)=some ps->c7 X.K ρ H l vs->Vals vs us->∃as,ReadsAll s.heap us ps as/\PyData.depthAll ps<=n:=by
 induction l with
 |nil =>
  intro vs us ps h rs rv;cases rs;cases rv;simp at h;subst h;exact⟨_,.nil,cJ _⟩
 |cons d l il =>
  intro vs us ps h rs rv;cases rs with
  |cons gC rs =>
   cases rv with
   |cons ru rv =>
    rw[List.mapM_cons] at h;cases e:rd g n d with
    |none=>rw[e] at h;cases h
    |some p =>
     rw[e] at h;cases e2:l.mapM (rd g n) with
     |none=>rw[e2] at h;cases h
     |some qs =>
      rw[e2] at h;cases h;obtain⟨as,q1,d1⟩:=ih e gC ru;obtain⟨bs,q2,d2⟩:=il e2 rs rv;refine⟨_,.cons q1 q2,?_⟩;simp only[PyData.depthAll];omega
theorem T2(I:Inv X pins Z H s)(R:Rl X.K ρ g H)(n:Nat):∀{d:D} {v:V} {u:Value} {p:PyData},rd g n d=some p->d5 X.K ρ H d v->RelV v u->∃as,Reads s.heap u p as/\p.depth<=n:=by
 induction n with
 |zero =>
  intro d v u p h r ru;cases r with
  |bx=>simp only[rd] at h;cases h;cases ru;exact⟨_,.none,Nat.zero_le _⟩
  |bl b=>simp only[rd] at h;cases h;cases ru;exact⟨_,.bool b,Nat.zero_le _⟩
  |int i=>simp only[rd] at h;cases h;obtain⟨t,rfl⟩:=ru;exact⟨_,.int i t,Nat.zero_le _⟩
  |str x=>simp only[rd] at h;cases h;obtain⟨t,rfl⟩:=ru;exact⟨_,.str x t,Nat.zero_le _⟩
  |_=>simp only[rd] at h;cases h
 |succ n ih =>
  intro d v u p h r ru;cases r with
  |bx=>simp only[rd] at h;cases h;cases ru;exact⟨_,.none,Nat.zero_le _⟩
  |bl b=>simp only[rd] at h;cases h;cases ru;exact⟨_,.bool b,Nat.zero_le _⟩
  |int i=>simp only[rd] at h;cases h;obtain⟨t,rfl⟩:=ru;exact⟨_,.int i t,Nat.zero_le _⟩
  |str x=>simp only[rd] at h;cases h;obtain⟨t,rfl⟩:=ru;exact⟨_,.str x t,Nat.zero_le _⟩
  |ty x=>simp only[rd] at h;cases h
  |ref ha =>
   rename_i i a;simp only[rd] at h;cases e:d0 g i with
   |none=>rw[e] at h;cases h
   |some l =>
    rw[e] at h;dsimp only at h;cases e2:l.mapM (rd g n) with
    |none=>rw[e2] at h;cases h
    |some ps =>
     rw[e2] at h;cases h;cases ru;obtain⟨vs,hq,rs⟩:=R.items e ha;obtain⟨aW,rv,p,hz⟩:=I.list hq;obtain⟨as,q,hd⟩:=GA I R n ih e2 rs rv;obtain⟨o,ho,hc,k,oH⟩:=p.isList;refine⟨_,.list ho hc oH (by simpa using q),?_⟩;simp only[PyData.depth];omega
  |tup ht rs =>
   rename_i l a vs;simp only[rd] at h;cases e2:l.mapM (rd g n) with
   |none=>rw[e2] at h;cases h
   |some ps =>
    rw[e2] at h;cases h;cases ru;obtain⟨aW,rv,pt,hz⟩:=I.tuple ht.sq;obtain⟨as,q,hd⟩:=GA I R n ih e2 rs rv;obtain⟨o,ho,hc,k,oH⟩:=id pt;refine⟨_,.tuple ho hc oH (by simpa using q),?_⟩;simp only[PyData.depth];omega
end
end
section
variable{X:Cx}
theorem wu{α:Type}[BEq α][LawfulBEq α][DecidableEq α](a b:α):decide (a=b)=(a==b):=by
 by_cases e:a=b
 ·subst e;simp
 ·rw[aE e];exact(dh.mpr e).symm
theorem Y1{K ρ H}{d:D}{v:V}{c:Key}(h:W7 d=some c)(r:d5 K ρ H d v):v=kV c:=by
 cases r<;>first|(cases h;rfl)|cases h
theorem pL.some{K ρ H}{o:Option V}{d:D}(h:pL K ρ H (some d) o):∃v,o=some v/\d5 K ρ H d v:=by
 cases o with
 |none=>exact h.elim
 |some v=>exact⟨v,rfl,h⟩
theorem pL.isSome{K ρ H}{o:Option V}{d:Option D}(h:pL K ρ H d o):d.isSome=o.isSome:=by
 cases o<;>cases d<;>first|rfl|exact h.elim
theorem EJ{pins:List (Addr×Obj)}{s:Shared}{Z:L2.St}{H:Hp}{ρ:List Addr}{g:G}{d e:D}{x y:V}{v u:Value}{b:Bool}{Q:VK}(hu:X.A.units+100<cLine)(I:Inv X pins Z H s)(rx:RelV x v)(ry:RelV y u)(R:Rl X.K ρ g H)(gC:d5 X.K ρ H d x)(re:d5 X.K ρ H e y)(h:tM g d e b)(neg:Bool)(q:Q (.bl (xor neg b)) H):wpAny (model X.prog X.w) X.A (compareOp (if neg then .NotEq else .Eq) v u) (EP X pins Z Q) X.xe s:=by
 rcases h with⟨i,j,rfl,rfl,rfl⟩|⟨i,j,rfl,rfl,rfl⟩|⟨i,j,rfl,rfl,rfl⟩|⟨p,p',h1,h2,c1,c2,rfl⟩
 ·obtain rfl:=gC.i4;obtain rfl:=re.i4;cases neg
  ·exact Bg pins s Z H _ _ v u Q I rx ry ⟨rfl,by rw[wx];simpa[wu] using q⟩
  ·exact Bh pins s Z H _ _ v u Q I rx ry ⟨rfl,by rw[wx];simpa[wu] using q⟩
 ·obtain rfl:=gC.M1;obtain rfl:=re.M1;cases neg
  ·exact Bg pins s Z H _ _ v u Q I rx ry ⟨rfl,by rw[vY];simpa using q⟩
  ·exact Bh pins s Z H _ _ v u Q I rx ry ⟨rfl,by rw[vY];simpa using q⟩
 ·obtain rfl:=gC.E3;obtain rfl:=re.E3;cases neg
  ·exact Bg pins s Z H _ _ v u Q I rx ry ⟨rfl,by rw[wy];simpa[wu] using q⟩
  ·exact Bh pins s Z H _ _ v u Q I rx ry ⟨rfl,by rw[wy];simpa[wu] using q⟩
 ·obtain⟨as,q1,d1⟩:=T2 I R 6 h1 gC rx;obtain⟨bs,q2,d2⟩:=T2 I R 6 h2 re ry;have hr:X.A.units+min p.depth p'.depth<cLine:=by omega
  cases neg
  ·exact SeqAt.compareEq_reads q1 q2 c1 c2 hr ⟨.bl _,H,I,rfl,by simpa using q⟩
  ·exact SeqAt.compareNe_reads q1 q2 c1 c2 hr ⟨.bl _,H,I,rfl,by simpa using q⟩
theorem in_of{pins:List (Addr×Obj)}{s:Shared}{Z:L2.St}{H:Hp}{ρ:List Addr}{g:G}{d e:D}{x y:V}{v u:Value}{b:Bool}{Q:VK}(hu:X.A.units+100<cLine)(I:Inv X pins Z H s)(rx:RelV x v)(ry:RelV y u)(R:Rl X.K ρ g H)(gC:d5 X.K ρ H d x)(re:d5 X.K ρ H e y)(h:inR g d e b)(neg:Bool)(q:Q (.bl (xor neg b)) H):wpAny (model X.prog X.w) X.A (compareOp (if neg then .NotIn else .In) v u) (EP X pins Z Q) X.xe s:=by
 rcases h with⟨a,kvs,c,rfl,ha,hc,rfl⟩|⟨l,ps,p,h0,h1,h2,c1,c2,rfl⟩
 ·obtain⟨a',rfl,ra⟩:=re.j5;obtain⟨vs,z,rs⟩:=R.ei ha ra;have:=Y1 hc gC;subst this;cases ry;rw[(rs.val c).isSome] at q;cases neg
  ·exact Rt (by omega) I (P1.k z) rx λs' I'=>⟨.bl _,H,I',rfl,by simpa using q⟩
  ·exact OQ (by omega) I (P1.k z) rx λs' I'=>⟨.bl _,H,I',rfl,by simpa using q⟩
 ·obtain⟨as,q1,d1⟩:=T2 I R 6 h2 gC rx;cases e with
  |tup m =>
   cases h0;have h3:rd g 7 (.tup l)=some (.tuple ps):=by simp only[rd];rw[show l.mapM (rd g 6)=some ps from h1];rfl
   obtain⟨bs,q2,d2⟩:=T2 I R 7 h3 re ry;have hr:X.A.units+1+min (PyData.depthAll ps) p.depth<cLine:=by omega
   cases neg
   ·exact SeqAt.in_tuple_reads q2 q1 c1 c2 hr ⟨.bl _,H,I,rfl,by simpa using q⟩
   ·exact SeqAt.notIn_tuple_reads q2 q1 c1 c2 hr ⟨.bl _,H,I,rfl,by simpa using q⟩
  |ref a =>
   have h3:rd g 7 (.ref a)=some (.list ps):=by
    simp only[rd];rw[show d0 g a=some l from h0];dsimp only;rw[show l.mapM (rd g 6)=some ps from h1]
    rfl
   obtain⟨bs,q2,d2⟩:=T2 I R 7 h3 re ry;have hr:X.A.units+1+min (PyData.depthAll ps) p.depth<cLine:=by omega
   cases neg
   ·exact SeqAt.in_list_reads q2 q1 c1 c2 hr ⟨.bl _,H,I,rfl,by simpa using q⟩
   ·exact SeqAt.notIn_list_reads q2 q1 c1 c2 hr ⟨.bl _,H,I,rfl,by simpa using q⟩
  |_=>cases h0
theorem X8(hu:X.A.units+100<cLine)(op:CmpOp):ft X (compareOp op) (r2 X.K (.cmp op)):=by
 intro pins s Z H x y v u Q I rx ry h;obtain⟨d,e,g,ρ,R,gC,re,d',g',⟨x',y',b,ex,h,rfl,rfl⟩,q⟩:=h;obtain⟨rfl,rfl⟩:=A3 ex;have fin:=q.now R (.bl b);have lV:∀{P:Int->Int->Bool},(∃i j,d=.int i/\e=.int j/\b=P i j)->∃i j,x=.int i/\y=.int j/\b=P i j:=λhh=>by
  obtain⟨i,j,z1,z2,z3⟩:=hh;exact⟨i,j,(z1▸gC).i4,(z2▸re).i4,z3⟩
 cases op
 ·exact EJ hu I rx ry R gC re h false (by simpa using fin)
 ·exact EJ hu I rx ry R gC re h true (by simpa using fin)
 ·obtain⟨i,j,e1,e2,e3⟩:=lV (P:=λi j=>decide (i<j)) h;exact Ue pins s Z H _ _ v u Q I rx ry ⟨i,j,e1,e2,by subst e3;exact fin⟩
 ·obtain⟨i,j,e1,e2,e3⟩:=lV (P:=λi j=>decide (i<=j)) h;exact Ud pins s Z H _ _ v u Q I rx ry ⟨i,j,e1,e2,by subst e3;exact fin⟩
 ·obtain⟨i,j,e1,e2,e3⟩:=lV (P:=λi j=>decide (j<i)) h;exact Uc pins s Z H _ _ v u Q I rx ry ⟨i,j,e1,e2,by subst e3;exact fin⟩
 ·obtain⟨i,j,e1,e2,e3⟩:=lV (P:=λi j=>decide (j<=i)) h;exact Ub pins s Z H _ _ v u Q I rx ry ⟨i,j,e1,e2,by subst e3;exact fin⟩
 ·obtain⟨rfl,rfl⟩:=(show _/\_ from h)
  obtain rfl:=re.wb;refine MW pins s Z H _ _ v u Q I rx ry ⟨rfl,?_⟩;have e:O4 d=decide (x=V.bx):=by cases gC<;>simp[O4]
  rw[<- e];exact fin
 ·obtain⟨rfl,rfl⟩:=(show _/\_ from h)
  obtain rfl:=re.wb;refine Pq pins s Z H _ _ v u Q I rx ry ⟨rfl,?_⟩;have e:O4 d=decide (x=V.bx):=by cases gC<;>simp[O4]
  rw[<- e];exact fin
 ·rcases h with h|⟨a,S,n,i,rfl,ha,rfl,rfl⟩
  ·exact in_of hu I rx ry R gC re h false (by simpa using fin)
  ·obtain⟨a',rfl,ra⟩:=re.j5;obtain rfl:=gC.i4;exact Wg pins s Z H _ _ v u Q I rx ry ⟨i,a',S,n,rfl,rfl,R.set ha ra,fin⟩
 ·rcases h with h|⟨a,S,n,i,rfl,ha,rfl,hb⟩
  ·exact in_of hu I rx ry R gC re h true (by simpa using fin)
  ·obtain⟨a',rfl,ra⟩:=re.j5;obtain rfl:=gC.i4;exact Yp pins s Z H _ _ v u Q I rx ry ⟨i,a',S,n,rfl,rfl,R.set ha ra,by rw[<- hb,Bool.not_not];exact fin⟩
theorem empty_eq{K ρ H}{l:List D}{vs:List V}(r:c7 K ρ H l vs):l.isEmpty=vs.isEmpty:=by cases r<;>rfl
theorem Oy{K:PySem.W.Frag}{ρ:List Addr}{g:G}{H:Hp}{d:D}{x:V}{b:Bool}(R:Rl K ρ g H)(r:d5 K ρ H d x)(h:Ew g d b):zJ K x H b:=by
 rcases h with⟨rfl,rfl⟩|rfl|⟨i,rfl,rfl⟩|⟨l,rfl,rfl⟩|⟨a,l,rfl,hl,rfl⟩
 ·obtain rfl:=r.wb;rfl
 ·obtain rfl:=r.M1;rfl
 ·obtain rfl:=r.i4;rfl
 ·obtain⟨a,vs,rfl,ht,rs⟩:=r.J7;exact .inr (.inl ⟨_,ht.sq,by rw[empty_eq rs]⟩)
 ·obtain⟨a',rfl,ha⟩:=r.j5;obtain⟨vs,hq,rs⟩:=R.items hl ha;exact .inl ⟨_,hq,by rw[empty_eq rs]⟩
theorem OL{K ρ H}{l:List D}{vs:List V}{i:Int}{d:D}(r:c7 K ρ H l vs)(h:fI l i=some d):∃v,fI vs i=some v/\d5 K ρ H d v:=by
 unfold fI at h ⊢;rw[<- r.length];cases e:jx l.length i with
 |none=>rw[e] at h;cases h
 |some j =>
  rw[e] at h;exact r.get h
theorem wg{K ρ H}{g:G}{x:D}{v:V}{l:List D}(R:Rl K ρ g H)(r:d5 K ρ H x v)(h:K0 g x=some l):∃a vs,v=.ref a/\c7 K ρ H l vs/\((∃i,x=.ref i/\ρ[i]?=some a)/\fo K H a vs\/x=.tup l/\TupAt K H a vs):=by
 cases r with
 |tup ht rs=>cases h;exact⟨_,_,rfl,rs,.inr ⟨rfl,ht⟩⟩
 |ref ha=>obtain⟨vs,hq,rs⟩:=R.items h ha;exact⟨_,_,rfl,rs,.inl ⟨⟨_,rfl,ha⟩,hq⟩⟩
 |_=>cases h
theorem Tz(hu:X.A.units+100<cLine):pS X (r2 X.K .ix):=by
 intro value slice pins s Z H x y v u Q I rx ry h hs;obtain⟨d,e,g,ρ,R,gC,re,d',g',⟨rfl,h⟩,q⟩:=h;rcases h with⟨x',l,i,ex,hl,ha⟩|⟨a,kvs,y',c,ex,ha,hc,hv⟩|⟨x',i,c,ex,h0,h1,rfl⟩
 ·obtain⟨rfl,rfl⟩:=A3 ex;obtain rfl:=re.i4;obtain⟨a,vs,rfl,rs,h⟩:=wg R gC hl;obtain⟨w,hw,fq⟩:=OL rs ha;rcases h with⟨_,hq⟩|⟨_,ht⟩
  ·exact Pc value slice pins s Z H _ _ v u Q I rx ry ⟨_,_,i,w,rfl,rfl,hq,hw,q.now R fq⟩ hs
  ·exact Mx value slice pins s Z H _ _ v u Q I rx ry ⟨_,_,i,w,rfl,rfl,ht.sq,hw,q.now R fq⟩ hs
 ·obtain⟨rfl,rfl⟩:=A3 ex;obtain⟨a',rfl,ra⟩:=gC.j5;obtain⟨vs,z,rs⟩:=R.ei ha ra;have:=Y1 hc re;subst this;have q2:=rs.val c;rw[hv] at q2;obtain⟨w,hw,fq⟩:=q2.some;exact Pb (by omega) value slice pins s Z H _ _ v u Q I rx ry ⟨_,w,rfl,by have:=P1.k (k:=c) z;rw[hw] at this;exact this,q.now R fq⟩ hs
 ·obtain⟨rfl,rfl⟩:=A3 ex;obtain rfl:=gC.E3;obtain rfl:=re.i4;exact Mw value slice pins s Z H _ _ v u Q I rx ry ⟨x',i,c,rfl,rfl,m9 h0,h1,q.now R (.str _)⟩ hs
end
end M

namespace M
open PySem L2 PySem.Spec PyProof.Rows
section
variable{X:Cx}
def Jq(K:PySem.W.Frag):V->Option Int->Option Int->Hp->VK->Prop:=λx lo hi H Q=>∃d g ρ d' g',Rl K ρ g H/\d5 K ρ H d x/\rn d lo hi g d' g'/\LQ K ρ H Q d' g'
theorem Bk:uH X (Jq X.K):=by
 intro pins s Z H x v vl vu lo hi sl Q I rx hs pl pu h;obtain⟨d,g,ρ,d',g',R,gC,h,q⟩:=h;rcases h with⟨l,rfl,rfl,rfl⟩|⟨a,l,rfl,hl,rfl,rfl⟩
 ·obtain⟨a,vs,rfl,ht,rs⟩:=gC.J7;refine Qv pins s Z H _ v vl vu lo hi sl Q I rx hs pl pu ⟨_,_,rfl,ht.sq,λz=>?_,λp hp=>q.tup R hp (rs.cut lo hi)⟩;refine q.now R (.tup ht ?_);have:=rs.cut lo hi;rw[z] at this;exact this
 ·obtain⟨a',rfl,ha⟩:=gC.j5;obtain⟨vs,hq,rs⟩:=R.items hl ha;exact Qu pins s Z H _ v vl vu lo hi sl Q I rx hs pl pu ⟨_,_,rfl,hq,λp hp=>q.new R hp (rs.cut lo hi)⟩
def Sb(K:PySem.W.Frag):V->V->V->Hp->(Hp->Prop)->Prop:=λo i v H Q=>∃zy di dv g ρ,Rl K ρ g H/\d5 K ρ H zy o/\d5 K ρ H di i/\d5 K ρ H dv v/\V6 zy di dv g (λg'=>∀bI H',Ext ρ H bI H'->Rl K bI g' H'->Q H')
theorem NU(hu:X.A.units+100<cLine):zH X (Sb X.K):=by
 intro pins s Z H o i v ov iv u Q I ro ri rv h;obtain⟨zy,di,dv,g,ρ,R,r1,r2,r3,g',h,q⟩:=h;rcases h with⟨a,i',l,j,rfl,rfl,hl,hj,rfl⟩|⟨a,kvs,c,rfl,ha,hc,hz,rfl⟩
 ·obtain⟨a',rfl,ha⟩:=r1.j5;obtain rfl:=r2.i4;obtain⟨vs,z,rs⟩:=R.lst hl ha;obtain⟨R',e'⟩:=R.write hl ha (rs.set r3 j);exact set_list pins s Z H _ _ _ ov iv u Q I ro ri rv ⟨_,vs,_,j,rfl,rfl,z,by rw[<- rs.length];exact hj,q ρ _ e' R'⟩
 ·obtain⟨a',rfl,ra⟩:=r1.j5;obtain⟨vs,z,rs⟩:=R.ei ha ra;have:=Y1 hc r2;subst this;obtain⟨R',e'⟩:=R.put (o':=.ei (putD kvs c dv)) (u:=.dK (putK vs c v)) ha rfl ra (rs.put r3);cases ro;exact ZS (by omega) I (wU.k z (by rw[<- rs.length];exact Ad hz)) ri rv λs' I'=>⟨_,I',q ρ _ e' R'⟩
theorem MF:m5 X (.builtin "len") (rN X.K .len):=by
 intro pins s Z H xs us Q I r h;obtain⟨ds,g,ρ,R,rs,d',g',⟨rfl,h⟩,q⟩:=h;rcases h with⟨x,l,rfl,hl,rfl⟩|⟨a,kvs,rfl,ha,rfl⟩|⟨x,rfl,hz,rfl⟩
 ·obtain⟨v,rfl,rv⟩:=rs.one;obtain⟨a,vs,rfl,rl,h⟩:=wg R rv hl;refine Yf pins s Z H _ us Q I r ⟨_,_,rfl,?_,by rw[<- rl.length];exact q.now R (.int _)⟩;exact h.imp (λz=>z.2) (λz=>z.2.sq)
 ·obtain⟨v,rfl,rv⟩:=rs.one;obtain⟨a',rfl,ra⟩:=rv.j5;obtain⟨vs,z,rk⟩:=R.ei ha ra;exact ZJ pins s Z H _ us Q I r ⟨_,_,rfl,z,by rw[<- rk.length];exact q.now R (.int _)⟩
 ·obtain⟨v,rfl,rv⟩:=rs.one;obtain rfl:=rv.E3;exact Yg pins s Z H _ us Q I r ⟨_,rfl,m9 hz,q.now R (.int _)⟩
theorem Pe:m5 X (.type "list") (rN X.K .list):=by
 intro pins s Z H xs us Q I r h;obtain⟨ds,g,ρ,R,rs,d',g',⟨x,l,rfl,hl,rfl,rfl⟩,q⟩:=h;obtain⟨v,rfl,rv⟩:=rs.one;obtain⟨a,vs,rfl,rl,h⟩:=wg R rv hl;exact Yh pins s Z H _ us Q I r ⟨_,_,rfl,h.imp (λz=>z.2) (λz=>z.2.sq),λp hp=>q.new R hp rl⟩
theorem Zu:m5 X (.type "tuple") (rN X.K .tuple):=by
 intro pins s Z H xs us Q I r h;obtain⟨ds,g,ρ,R,rs,d',g',⟨x,l,rfl,hl,rfl,rfl⟩,q⟩:=h;obtain⟨v,rfl,rv⟩:=rs.one;obtain⟨a,vs,rfl,rl,h⟩:=wg R rv hl;refine Vu pins s Z H _ us Q I r ⟨a,vs,rfl,?_⟩;exact h.imp (λz=>⟨z.2,λp hp=>q.tup R hp rl⟩) (λz=>⟨z.2.sq,q.now R (.tup z.2 rl)⟩)
theorem Pa:m5 X (.builtin "isinstance") (rN X.K .isin):=by
 intro pins s Z H xs us Q I r h;obtain⟨ds,g,ρ,R,rs,d',g',⟨x,c,b,rfl,hc,hb,rfl,rfl⟩,q⟩:=h;obtain⟨v,w,rfl,r1,r2⟩:=rs.two;obtain rfl:=r2.UX;have fin:=q.now R (.bl b);have go:∀(t:Value) (v:V),gi X.K H v t->PySem.W.kitOne X.K t (.type c)=some b->Vals [v,V.ty c] us->wpAny (model X.prog X.w) X.A (call (.builtin "isinstance") us) (EP X pins Z Q) X.xe s :=
  λt v ht hk r=>XO pins s Z H _ us Q I r ⟨v,t,c,b,rfl,ht,hk,fin⟩
 simp only[List.mem_cons,List.mem_nil_iff,or_false] at hc;cases r1 with
 |bx=>refine go _ _ .bx ?_ r;cases hb;rcases hc with rfl|rfl|rfl|rfl|rfl<;>rfl
 |bl y=>refine go _ _ (.bl y) ?_ r;cases hb;rcases hc with rfl|rfl|rfl|rfl|rfl<;>rfl
 |int y=>refine go _ _ (.int y) ?_ r;cases hb;rcases hc with rfl|rfl|rfl|rfl|rfl<;>rfl
 |str y=>refine go _ _ (.str y) ?_ r;cases hb;rcases hc with rfl|rfl|rfl|rfl|rfl<;>rfl
 |ty _=>cases hb
 |tup ht rs =>
  cases hb;rcases ht with ht|ht
  ·refine go _ _ (.tup ht) ?_ r;rcases hc with rfl|rfl|rfl|rfl|rfl<;>rfl
  ·obtain⟨o,aW,n,lk,iT,_⟩:=ht;obtain⟨u,w',rfl,ru,fq⟩:=vals2 r;cases (show w'=Value.type c from fq);cases ru;have hk:PySem.W.kitOne X.K (.type "tuple") (.type c)=some (c=="tuple"):=by rcases hc with rfl|rfl|rfl|rfl|rfl<;>rfl
   exact bW PySem.W.kitx_tuple I.fV ⟨o,I.fV _ _ lk,iT⟩ hk (λz=>nomatch z) λtk=>⟨.bl _,H,I.tok tk,rfl,fin⟩
 |@ref i a ha =>
  have sV:∃m,g'[i]?=some (.lst m)/\b=(c=="list"):=by
   simp only[pH] at hb;split at hb
   ·exact⟨_,by assumption,(aQ hb).symm⟩
   ·cases hb
  obtain⟨m,e,rfl⟩:=sV;obtain⟨vs,z,_⟩:=R.lst e ha;refine go _ _ (.lst z) ?_ r;rcases hc with rfl|rfl|rfl|rfl|rfl<;>rfl
theorem WO:∀{l:List D} {b:Bool},V4 l=some b->∃bs:List Bool,l=bs.map D.bl/\b=bs.all id:=by
 intro l
 induction l with
 |nil=>intro b h;cases h;exact⟨[],rfl,rfl⟩
 |cons d r ih =>
  intro b h;cases d<;>first|(cases h;done)|skip
  rename_i c;simp only[V4] at h;cases e:V4 r with
  |none=>rw[e] at h;cases h
  |some b' =>
   rw[e] at h;cases h;obtain⟨bs,rfl,rfl⟩:=ih e;exact⟨c::bs,rfl,by simp⟩
theorem c7.Ez{K ρ H}:∀{bs:List Bool} {vs:List V},c7 K ρ H (bs.map D.bl) vs->vs=bs.map V.bl:=by
 intro bs
 induction bs with
 |nil=>intro vs h;cases h;rfl
 |cons b r ih =>
  intro vs h;cases h with
  |cons h rr=>rw[ih rr,h.M1];rfl
theorem Ve(hc:X.calm=true):m5 X (.builtin "all") (rN X.K .all):=by
 intro pins s Z H xs us Q I r h;obtain⟨ds,g,ρ,R,rs,d',g',⟨a,l,b,rfl,hl,hb,rfl,rfl⟩,q⟩:=h;obtain⟨v,rfl,rv⟩:=rs.one;obtain⟨a',rfl,ra⟩:=rv.j5;obtain⟨vs,hq,rs⟩:=R.items hl ra;rcases hb with hb|⟨ns,rfl,rfl⟩
 rotate_left
 ·have:=rs.ints;subst this;exact ZH hc pins s Z H _ us Q I r ⟨_,ns,rfl,hq,q.now R (.bl _)⟩
 obtain⟨bs,rfl,rfl⟩:=WO hb;have:=rs.Ez;subst this;exact ZG hc pins s Z H _ us Q I r ⟨_,bs,rfl,hq,q.now R (.bl _)⟩
theorem WQ:∀{l:List D} {b:Bool},V2 l=some b->∃bs:List Bool,l=bs.map D.bl/\b=bs.any id:=by
 intro l
 induction l with
 |nil=>intro b h;cases h;exact⟨[],rfl,rfl⟩
 |cons d r ih =>
  intro b h;cases d<;>first|(cases h;done)|skip
  rename_i c;simp only[V2] at h;cases e:V2 r with
  |none=>rw[e] at h;cases h
  |some c' =>
   rw[e] at h;cases h;obtain⟨bs,rfl,rfl⟩:=ih e;exact⟨c::bs,rfl,rfl⟩
theorem Vg(hc:X.calm=true):m5 X (.builtin "any") (rN X.K .any):=by
 intro pins s Z H xs us Q I r h;obtain⟨ds,g,ρ,R,rs,d',g',⟨a,l,b,rfl,hl,hb,rfl,rfl⟩,q⟩:=h;obtain⟨bs,rfl,rfl⟩:=WQ hb;obtain⟨v,rfl,rv⟩:=rs.one;obtain⟨a',rfl,ra⟩:=rv.j5;obtain⟨vs,hq,rs⟩:=R.items hl ra;have:=rs.Ez;subst this;exact ZI hc pins s Z H _ us Q I r ⟨_,bs,rfl,hq,q.now R (.bl _)⟩
theorem ML(hc:X.calm=true):m5 X (.builtin "max") (rN X.K .max):=by
 intro pins s Z H xs us Q I r h;obtain⟨ds,g,ρ,R,rs,d',g',⟨rfl,⟨i,j,rfl,rfl⟩|⟨a,ns,M,rfl,hl,h1,h2,rfl⟩⟩,q⟩:=h
 rotate_left
 ·obtain⟨v,rfl,rv⟩:=rs.one;obtain⟨a',rfl,ra⟩:=rv.j5;obtain⟨vs,hq,rs⟩:=R.items hl ra;have:=rs.ints;subst this;exact ZL hc pins s Z H _ us Q I r ⟨_,ns,M,rfl,hq,h1,h2,q.now R (.int _)⟩
 obtain⟨v,w,rfl,r1,r2⟩:=rs.two;obtain rfl:=r1.i4;obtain rfl:=r2.i4;exact ZK hc pins s Z H _ us Q I r ⟨i,j,rfl,q.now R (.int _)⟩
theorem MM(hc:X.calm=true):m5 X (.builtin "min") (rN X.K .min):=by
 intro pins s Z H xs us Q I r h;obtain⟨ds,g,ρ,R,rs,d',g',⟨rfl,⟨i,j,rfl,rfl⟩|⟨a,ns,M,rfl,hl,h1,h2,rfl⟩⟩,q⟩:=h
 rotate_left
 ·obtain⟨v,rfl,rv⟩:=rs.one;obtain⟨a',rfl,ra⟩:=rv.j5;obtain⟨vs,hq,rs⟩:=R.items hl ra;have:=rs.ints;subst this;exact ZN hc pins s Z H _ us Q I r ⟨_,ns,M,rfl,hq,h1,h2,q.now R (.int _)⟩
 obtain⟨v,w,rfl,r1,r2⟩:=rs.two;obtain rfl:=r1.i4;obtain rfl:=r2.i4;exact ZM hc pins s Z H _ us Q I r ⟨i,j,rfl,q.now R (.int _)⟩
theorem Og(hc:X.calm=true):m5 X (.builtin "sum") (rN X.K .sum):=by
 intro pins s Z H xs us Q I r h;obtain⟨ds,g,ρ,R,rs,d',g',⟨a,ns,rfl,hl,rfl,rfl⟩,q⟩:=h;obtain⟨v,rfl,rv⟩:=rs.one;obtain⟨a',rfl,ra⟩:=rv.j5;obtain⟨vs,hq,rs⟩:=R.items hl ra;have:=rs.ints;subst this;exact ZO hc pins s Z H _ us Q I r ⟨_,ns,rfl,hq,q.now R (.int _)⟩
theorem Mt:m5 X (.type "int") (rN X.K .int):=by
 intro pins s Z H xs us Q I r h;obtain⟨ds,g,ρ,R,rs,d',g',⟨rfl,h⟩,q⟩:=h;rcases h with⟨i,rfl,rfl⟩|⟨b,rfl,rfl⟩
 ·obtain⟨v,rfl,rv⟩:=rs.one;obtain rfl:=rv.i4;exact Fq pins s Z H _ us Q I r (.inl ⟨i,rfl,q.now R (.int _)⟩)
 ·obtain⟨v,rfl,rv⟩:=rs.one;obtain rfl:=rv.M1;exact Fq pins s Z H _ us Q I r (.inr ⟨b,rfl,q.now R (.int _)⟩)
def rM(K:PySem.W.Frag)(p:Pr):V->List V->Hp->VK->Prop:=λx xs H Q=>∃d ds g ρ,Rl K ρ g H/\d5 K ρ H d x/\c7 K ρ H ds xs/\cH p (d::ds) g (LQ K ρ H Q)
theorem wK{a b:D}{l m:List D}(h:a::l=b::m):a=b/\l=m:=by cases h;exact⟨rfl,rfl⟩
theorem ZC:ka X "list.append" (rM X.K .append):=by
 intro pins s Z H x xs v us Q I rx r h;obtain⟨d,ds,g,ρ,R,rd,rs,d',g',⟨a,y,l,ex,ha,hz,rfl,rfl⟩,q⟩:=h;obtain⟨rfl,rfl⟩:=wK ex;obtain⟨a',rfl,ra⟩:=rd.j5;obtain⟨w,rfl,fq⟩:=rs.one;obtain⟨vs,z1,rv⟩:=R.lst ha ra;obtain⟨R2,e2⟩:=R.write ha ra (rv.append (.cons fq .nil));exact VZ pins s Z H _ _ v us Q I rx r ⟨_,vs,_,rfl,rfl,z1,by rw[<- rv.length];exact Ad hz,q ρ _ _ e2 R2 .bx⟩
theorem Vo(hu:X.A.units+100<cLine):ka X "dict.get" (rM X.K .get):=by
 intro pins s Z H x xs v us Q I rx r h;obtain⟨d,ds,g,ρ,R,rd,rs,d',g',⟨a,y,z,kvs,c,ex,ha,hc,rfl,rfl⟩,q⟩:=h;obtain⟨rfl,rfl⟩:=wK ex;obtain⟨a',rfl,ra⟩:=rd.j5;obtain⟨w1,w2,rfl,r1,r2⟩:=rs.two;obtain⟨vs,z1,rv⟩:=R.ei ha ra;have:=Y1 hc r1;subst this;obtain⟨u1,u2,rfl,p1,p2⟩:=vals2 r;cases rx;refine Vj (by omega) I (P1.k z1) p1 p2 λw' s4 I4 fq=>⟨_,H,I4,fq,q.now R ?_⟩
 have q:=rv.val c;cases e1:t8 kvs c with
 |none =>
  rw[e1] at q;cases e2:L3 vs c with
  |none=>exact r2
  |some w=>rw[e2] at q;exact q.elim
 |some d' =>
  rw[e1] at q;obtain⟨w,hw,q⟩:=q.some;rw[hw];exact q
theorem YR:ka X "list.pop" (rM X.K .pop):=by
 intro pins s Z H x xs v us Q I rx r h;obtain⟨d,ds,g,ρ,R,rd,rs,y,g',⟨a,i,l,k,ex,ha,h1,h2,hk,hy,rfl⟩,q⟩:=h;obtain⟨rfl,rfl⟩:=wK ex;obtain⟨a',rfl,ra⟩:=rd.j5;obtain⟨w,rfl,fq⟩:=rs.one;obtain rfl:=fq.i4;obtain⟨vs,z1,rv⟩:=R.lst ha ra;obtain⟨w,hw,fq⟩:=rv.get hy;obtain⟨R2,e2⟩:=R.write ha ra (rv.erase k);exact Yy pins s Z H _ _ v us Q I rx r ⟨_,vs,i,k,w,rfl,rfl,z1,h1,h2,by rw[<- rv.length];exact hk,hw,q ρ _ _ e2 R2 (fq.ext e2)⟩
theorem ty_list{d:D}{v:V}{g:G}{ρ:List Addr}{H:Hp}(R:Rl X.K ρ g H)(r:d5 X.K ρ H d v)(h:∃a l,d=.ref a/\d0 g a=some l):lD X.K "list" v H:=by
 obtain⟨a,l,rfl,hl⟩:=h;obtain⟨a',rfl,ra⟩:=r.j5;obtain⟨vs,hq,_⟩:=R.items hl ra;exact .inl ⟨rfl,vs,hq⟩
theorem Qf:ka X "set.add" (rM X.K .iY):=by
 intro pins s Z H x xs v us Q I rx r h;obtain⟨d,ds,g,ρ,R,rd,rs,d',g',⟨a,i,S,n,ex,ha,hn,rfl,rfl⟩,q⟩:=h;obtain⟨rfl,rfl⟩:=wK ex;obtain⟨a',rfl,ra⟩:=rd.j5;obtain⟨w,rfl,fq⟩:=rs.one;obtain rfl:=fq.i4;obtain⟨R2,e2⟩:=R.put (o':=.set (λk=>S k||decide (k=i)) (if S i then n else n+1)) (u:=.set (λk=>S k||decide (k=i)) (if S i then n else n+1)) ha rfl ra ⟨rfl,rfl⟩;exact Xm pins s Z H _ _ v us Q I rx r ⟨_,i,S,n,rfl,rfl,R.set ha ra,hn,q ρ _ _ e2 R2 .bx⟩
theorem ty_set{d:D}{v:V}{g:G}{ρ:List Addr}{H:Hp}(R:Rl X.K ρ g H)(r:d5 X.K ρ H d v)(h:jV .iY d g):lD X.K "set" v H:=by
 obtain⟨a,S,n,rfl,hl⟩:=h;obtain⟨a',rfl,ra⟩:=r.j5;exact .inr (.inr (.inr ⟨rfl,S,n,R.set hl ra⟩))
theorem ty_dict{d:D}{v:V}{g:G}{ρ:List Addr}{H:Hp}(R:Rl X.K ρ g H)(r:d5 X.K ρ H d v)(h:jV .get d g):lD X.K "dict" v H:=by
 obtain⟨a,l,rfl,hl⟩:=h;obtain⟨a',rfl,ra⟩:=r.j5;obtain⟨vs,hq,_⟩:=R.ei hl ra;exact .inr (.inr (.inl ⟨rfl,.inl ⟨vs,hq⟩⟩))
end
end M

namespace M
open PySem L2 PySem.Spec PyProof.Rows
noncomputable abbrev gn:=List Str×XK
def LX(K:PySem.W.Frag)(ρ:List Addr)(H:Hp)(Ξ:gn):KX:=λx g'=>∀bI H' C,Ext ρ H bI H'->Rl K bI g' H'->x.cls∈Ξ.1->s9 K x.cls C->Ξ.2 (.ref C) none H'
theorem LX.ext{K:PySem.W.Frag}{ρ bT:List Addr}{H H1:Hp}{Ξ:gn}(e:Ext ρ H bT H1){x:Xn}{g:G}(h:LX K ρ H Ξ x g):LX K bT H1 Ξ x g:=λbI H' C e' R hm c=>h bI H' C (e.trans e') R hm c
noncomputable abbrev lO(ex:List Str):gn:=(ex,λ_ _ _=>False)
def LE(K:PySem.W.Frag)(Ξ:gn)(t:S->G->KD->KX->Prop):TE:=λbY H Q=>∃Z g ρ,n9 K ρ H Z bY/\Rl K ρ g H/\t Z g (LQ K ρ H Q) (LX K ρ H Ξ)
def LT(K:PySem.W.Frag)(Ξ:gn)(t:S->G->(Bool->G->Prop)->KX->Prop):TT:=λbY H Q=>∃Z g ρ,n9 K ρ H Z bY/\Rl K ρ g H/\t Z g (λb g'=>∀bI H',Ext ρ H bI H'->Rl K bI g' H'->Q b H') (LX K ρ H Ξ)
def LA(K:PySem.W.Frag)(Ξ:gn)(t:S->G->(List D->G->Prop)->KX->Prop):TA:=λbY H Q=>∃Z g ρ,n9 K ρ H Z bY/\Rl K ρ g H/\t Z g (λds g'=>∀bI H' vs,Ext ρ H bI H'->Rl K bI g' H'->c7 K bI H' ds vs->Q vs H') (LX K ρ H Ξ)
def X2(K:PySem.W.Frag)(fJ:List Addr)(H0:Hp)(k:IK)(J:It):Prop:=∀ρ g H,Ext fJ H0 ρ H->Rl K ρ g H->∀i,(k.at i g=some none->J.stop i H) /\
 ∀d,k.at i g=some (some d)->J.go i H/\∀v H',J.nQ i H v H'->Ext ρ H ρ H'/\Rl K ρ g H'/\d5 K ρ H' d v
def LI(K:PySem.W.Frag)(Ξ:gn)(t:S->G->(IK->G->Prop)->KX->Prop):TI:=λbY H R=>∃Z g ρ,n9 K ρ H Z bY/\Rl K ρ g H/\t Z g (λk g'=>∀bI H' J,Ext ρ H bI H'->Rl K bI g' H'->X2 K bI H' k J->R J H') (LX K ρ H Ξ)
def LG(K:PySem.W.Frag)(t:MT):TG:=λv bY H Q=>∃d Z g ρ,n9 K ρ H Z bY/\Rl K ρ g H/\d5 K ρ H d v/\iw t d Z (λbU=>∀dc,n9 K ρ H bU dc->Q dc H)
def LN(K:PySem.W.Frag)(ρ:List Addr)(H:Hp)(N:L2.Ends):Ends where
 nx:=λbU g'=>∀bI H' dc,Ext ρ H bI H'->Rl K bI g' H'->n9 K bI H' bU dc->N.nx dc H'
 rt:=LQ K ρ H N.rt
 bk:=λbU g'=>∀bI H' dc,Ext ρ H bI H'->Rl K bI g' H'->n9 K bI H' bU dc->N.bk dc H'
 ct:=λbU g'=>∀bI H' dc,Ext ρ H bI H'->Rl K bI g' H'->n9 K bI H' bU dc->N.ct dc H'
def LS(K:PySem.W.Frag)(Ξ:gn)(t:Ends->S->G->KX->Prop):TS:=λN bY H=>∃Z g ρ,n9 K ρ H Z bY/\Rl K ρ g H/\t (LN K ρ H N) Z g (LX K ρ H Ξ)
end M
namespace L2
open PySem PySem.Spec PyProof.Rows
section
variable{X:Cx}{e:Expr}
theorem PE.imp{t t':TE}(h:PE X e t)(i:∀Z H Q,t' Z H Q->t Z H Q):PE X e t':=λpins s Z H Q I q=>h pins s Z H Q I (i Z H Q q)
theorem PT.imp{t t':TT}(h:PT X e t)(i:∀Z H Q,t' Z H Q->t Z H Q):PT X e t':=λpins s Z H Q I q=>h pins s Z H Q I (i Z H Q q)
theorem PW.imp{t t':TT}(h:PW X e t)(i:∀Z H Q,t' Z H Q->t Z H Q):PW X e t':=λw pins s Z H Q I q=>h w pins s Z H Q I (i Z H Q q)
theorem PA.imp{es:List Expr}{t t':TA}(h:PA X es t)(i:∀Z H Q,t' Z H Q->t Z H Q):PA X es t':=λp pins s Z H Q I q=>h p pins s Z H Q I (i Z H Q q)
theorem jP.imp{es:List Expr}{t t':TT}(h:jP X es t)(i:∀Z H Q,t' Z H Q->t Z H Q):jP X es t':=λpins s Z H Q I q=>h pins s Z H Q I (i Z H Q q)
theorem PI.imp{tg:Expr}{t t':TI}(h:PI X tg e t)(i:∀Z H Q,t' Z H Q->t Z H Q):PI X tg e t':=λpins s Z H Q I q=>h pins s Z H Q I (i Z H Q q)
theorem PG.imp{t t':TG}(h:PG X e t)(i:∀v Z H Q,t' v Z H Q->t v Z H Q):PG X e t':=λpins s Z H v u Q I r q=>h pins s Z H v u Q I r (i v Z H Q q)
theorem PS.imp{st:Stmt}{t t':TS}(h:PS X st t)(i:∀N Z H,t' N Z H->t N Z H):PS X st t':=λpins s Z H N I q=>h pins s Z H N I (i N Z H q)
theorem ic.imp{st:List Stmt}{t t':TS}(h:ic X st t)(i:∀N Z H,t' N Z H->t N Z H):ic X st t':=λpins s Z H N I q=>h pins s Z H N I (i N Z H q)
end
end L2
namespace M
open PySem L2 PySem.Spec PyProof.Rows
section
variable{K:PySem.W.Frag}{Ξ:gn}{P:fm}(hP:i0 P){ρ fJ:List Addr}{H H0:Hp}{Z:S}{bY:L2.St}{g:G}{m:ME}
include hP
theorem fh{Q0:KD}{Q:VK}(s:n9 K ρ H Z bY)(R:Rl K ρ g H)(e0:Ext fJ H0 ρ H)(h:aX P m Z g Q0 (LX K fJ H0 Ξ))(k:∀x g1 bT H1 v1,Ext ρ H bT H1->Rl K bT g1 H1->d5 K bT H1 x v1->Q0 x g1->Q v1 H1):LE K Ξ (aX P m) bY H Q :=
 ⟨Z,g,ρ,s,R,c5 hP m _ _ _ _ _ _ (λx g1 h bT H1 v1 e1 R1 r1=>k x g1 bT H1 v1 e1 R1 r1 h) (λ_ _ z=>LX.ext e0 z) h⟩
theorem iJ{Q0:List D->G->Prop}{Q:List V->Hp->Prop}(s:n9 K ρ H Z bY)(R:Rl K ρ g H)(e0:Ext fJ H0 ρ H)(h:fC P m Z g Q0 (LX K fJ H0 Ξ))(k:∀x g1 bT H1 v1,Ext ρ H bT H1->Rl K bT g1 H1->c7 K bT H1 x v1->Q0 x g1->Q v1 H1):LA K Ξ (fC P m) bY H Q :=
 ⟨Z,g,ρ,s,R,x5 hP m _ _ _ _ _ _ (λx g1 h bT H1 v1 e1 R1 r1=>k x g1 bT H1 v1 e1 R1 r1 h) (λ_ _ z=>LX.ext e0 z) h⟩
theorem mL{Q0:Bool->G->Prop}{Q:Bool->Hp->Prop}(s:n9 K ρ H Z bY)(R:Rl K ρ g H)(e0:Ext fJ H0 ρ H)(h:cW P m Z g Q0 (LX K fJ H0 Ξ))(k:∀t g1 bT H1,Ext ρ H bT H1->Rl K bT g1 H1->Q0 t g1->Q t H1):LT K Ξ (cW P m) bY H Q :=
 ⟨Z,g,ρ,s,R,p6 hP m _ _ _ _ _ _ (λt g1 h bT H1 e1 R1=>k t g1 bT H1 e1 R1 h) (λ_ _ z=>LX.ext e0 z) h⟩
theorem pT{ms:MS}{N:L2.Ends}{N0:Ends}(s:n9 K ρ H Z bY)(R:Rl K ρ g H)(e0:Ext fJ H0 ρ H)(h:wpS P ms N0 Z g (LX K fJ H0 Ξ))(k:N0.le (LN K ρ H N)):LS K Ξ (wpS P ms) N bY H :=
 ⟨Z,g,ρ,s,R,wpS_mono hP ms _ _ _ _ _ _ k (λ_ _ z=>LX.ext e0 z) h⟩
end
theorem c7.ki{K ρ H}(lo:Int)(n:Nat):c7 K ρ H (i3 lo n) ((List.range n).map λ(k:Nat)=>V.int (lo+k)):=by
 unfold i3;have:∀l:List Nat,c7 K ρ H (l.map λ(k:Nat)=>D.int (lo+k)) (l.map λ(k:Nat)=>V.int (lo+k)):=by
  intro l
  induction l with
  |nil=>exact .nil
  |cons x r ih=>exact .cons (.int _) ih
 exact this _
section
variable{X:Cx}{Ξ:gn}{P:fm}(hP:i0 P){a b c e:Expr}{ma mb mc:ME}{pos:Pos}{p:Pr}
include hP
theorem BK(h:PE X e (pU (r2 X.K p) (LE X.K Ξ (aX P ma)) (LE X.K Ξ (aX P mb)))):PE X e (LE X.K Ξ (aX P (.prim p (.cons ma (.cons mb .nil))))) :=
 h.imp λbY H Q bq=>by
  obtain⟨Z,g,ρ,s,R,h⟩:=bq;exact fh hP s R (.refl _ _) h λx g1 bT H1 v1 e1 R1 r1 h=>fh hP (s.ext e1) R1 e1 h λy g2 eT H2 v2 e2 R2 r2 h =>
   ⟨x,y,g2,eT,R2,r1.ext e2,r2,u4 (λd g' h=>h.ext (e1.trans e2)) h⟩
theorem Oe{op:CmpOp}(h:PT X e (Bm (pU (r2 X.K (.cmp op)) (LE X.K Ξ (aX P ma)) (LE X.K Ξ (aX P mb))))):PT X e (LT X.K Ξ (cW P (.fg (.prim (.cmp op) (.cons ma (.cons mb .nil)))))) :=
 h.imp λbY H Q bq=>by
  obtain⟨Z,g,ρ,s,R,h⟩:=bq;refine fh hP s R (.refl _ _) h λx g1 bT H1 v1 e1 R1 r1 h=>fh hP (s.ext e1) R1 e1 h λy g2 eT H2 v2 e2 R2 r2 h=>?_;obtain⟨d',g',h,q⟩:=h;obtain⟨x',y',t,ex,hc,rfl,rfl⟩:=id h;refine⟨x,y,g',eT,R2,r1.ext e2,r2,_,_,h,λbI H' v e' R' r'=>?_⟩;obtain⟨t',ht,q⟩:=q;rcases ht with⟨z,_⟩|z|⟨i,z,_⟩|⟨l,z,_⟩|⟨a,l,z,_⟩<;>cases z
  exact⟨_,r'.M1,q bI H' (e1.trans (e2.trans e')) R'⟩
theorem UC{op:UnaryOp}(ha:PE X a (LE X.K Ξ (aX P ma))):PE X (.UnaryOp op a pos) (LE X.K Ξ (aX P (.prim (.un op) (.cons ma .nil)))) :=
 (Up (Uh op) ha).imp λbY H Q bq=>by
  obtain⟨Z,g,ρ,s,R,h⟩:=bq;exact fh hP s R (.refl _ _) h λx g1 bT H1 v1 e1 R1 r1 h=>⟨x,g1,bT,R1,r1,u4 (λd g' h=>h.ext e1) h⟩
theorem HP{op gD:CmpOp}:∀bY H Q,LE X.K Ξ (aX P (.chain op gD ma mb mc)) bY H Q->BL (r2 X.K (.cmp op)) (r2 X.K (.cmp gD)) (LE X.K Ξ (aX P ma)) (LE X.K Ξ (aX P mb)) (LE X.K Ξ (aX P mc)) bY H Q:=λbY H Q bq=>by
 obtain⟨Z,g,ρ,s,R,h⟩:=bq;refine fh hP s R (.refl _ _) h λx g1 bT H1 v1 e1 R1 r1 h=>fh hP (s.ext e1) R1 e1 h λy g2 eT H2 v2 e2 R2 r2 h=>?_;refine⟨x,y,g2,eT,R2,r1.ext e2,r2,u4 (λd g3 h ij H3 v3 e3 R3 r3=>?_) h⟩;obtain⟨t,rfl,h⟩:=h;obtain rfl:=r3.M1;refine⟨t,rfl,?_⟩;cases t
 ·exact h ij H3 _ (e1.trans (e2.trans e3)) R3 (.bl _)
 ·exact fh hP (s.ext (e1.trans (e2.trans e3))) R3 (e1.trans (e2.trans e3)) h λz g4 nP H4 v4 e4 R4 r4 h =>
   ⟨y,z,g4,nP,R4,r2.ext (e3.trans e4),r4,u4 (λd g' h=>h.ext (e1.trans (e2.trans (e3.trans e4)))) h⟩
theorem Zf{op gD:CmpOp}(hu:X.A.units+100<cLine)(ha:PE X a (LE X.K Ξ (aX P ma)))(hb:PE X b (LE X.K Ξ (aX P mb)))(hc:PE X c (LE X.K Ξ (aX P mc)))(hm:lastMarks [op,gD] [b,c]=false) :
  PE X (.Compare a [op,gD] [b,c] pos) (LE X.K Ξ (aX P (.chain op gD ma mb mc))):=(YH (X8 hu op) (X8 hu gD) ha hb hc hm).imp (HP hP)
theorem QR{op gD:CmpOp}{Z:S}{g:G}{Q:Bool->G->Prop}{E:KX}(h:cW P (.fg (.chain op gD ma mb mc)) Z g Q E):aX P (.chain op gD ma mb mc) Z g (λd g'=>∃t,d=.bl t/\Q t g') E:=by
 have one:∀{o:CmpOp} {xs:List D} {g:G},cH (.cmp o) xs g (λd g1=>Z3 g1 d λb=>Q b g1)->cH (.cmp o) xs g λd g'=>∃t,d=.bl t/\Q t g':=by
  intro o xs g h;obtain⟨d',g',h,t',ht,q⟩:=h;obtain⟨x',y',t,ex,hc,rfl,rfl⟩:=id h;refine⟨_,_,h,t',?_,q⟩;rcases ht with⟨z,_⟩|z|⟨i,z,_⟩|⟨l,z,_⟩|⟨a,l,z,_⟩<;>first|exact z|cases z
 refine c5 hP ma _ _ _ _ _ _ (λx g1 h=>c5 hP mb _ _ _ _ _ _ (λy g2 h=>u4 (λz g3 h=>?_) h) (λ_ _ z=>z) h) (λ_ _ z=>z) h;obtain⟨t,rfl,h⟩:=h;refine⟨t,rfl,?_⟩;cases t
 ·obtain⟨b,hb,q⟩:=(show Z3 g3 (.bl false) λb=>Q b g3 from h)
  rcases hb with⟨z,_⟩|z|⟨i,z,_⟩|⟨l,z,_⟩|⟨a,l,z,_⟩<;>first|(cases z;exact⟨_,rfl,q⟩)|cases z
 ·exact c5 hP mc _ _ _ _ _ _ (λw g4 h=>one h) (λ_ _ z=>z) h
theorem Zq{op gD:CmpOp}(hu:X.A.units+100<cLine)(ha:PE X a (LE X.K Ξ (aX P ma)))(hb:PE X b (LE X.K Ξ (aX P mb)))(hc:PE X c (LE X.K Ξ (aX P mc)))(hm:lastMarks [op,gD] [b,c]=false) :
  PT X (.Compare a [op,gD] [b,c] pos) (LT X.K Ξ (cW P (.fg (.chain op gD ma mb mc)))) :=
 (YW (X8 hu op) (X8 hu gD) ha hb hc hm).imp λbY H Q ⟨Z,g,ρ,s,R,h⟩ =>
  HP hP bY H _ (fh hP s R (.refl _ _) (QR hP h) λx g1 bT H1 v1 e1 R1 r1 h=>by
   obtain⟨t,rfl,h⟩:=h;exact ⟨t,r1.M1,h bT H1 e1 R1⟩)
theorem NL{rest:List Expr}(ha:PE X a (LE X.K Ξ (aX P ma)))(hb:PE X (.BoolOp .And (b::rest) pos) (LE X.K Ξ (aX P mb))):PE X (.BoolOp .And (a::b::rest) pos) (LE X.K Ξ (aX P (.dw ma mb))) :=
 (Nf ha hb).imp λbY H Q bq=>by
  obtain⟨Z,g,ρ,s,R,h⟩:=bq;refine fh hP s R (.refl _ _) h λx g1 bT H1 v1 e1 R1 r1 h=>?_;obtain⟨t,rfl,h⟩:=h;refine⟨t,r1.M1,?_⟩;cases t
  ·exact h bT H1 _ e1 R1 (.bl _)
  ·exact fh hP (s.ext e1) R1 e1 h λy g2 eT H2 v2 e2 R2 r2 h=>h eT H2 v2 (e1.trans e2) R2 r2
theorem UB{rest:List Expr}(ha:PE X a (LE X.K Ξ (aX P ma)))(hb:PE X (.BoolOp .Or (b::rest) pos) (LE X.K Ξ (aX P mb))):PE X (.BoolOp .Or (a::b::rest) pos) (LE X.K Ξ (aX P (.iN ma mb))) :=
 (Uo ha hb).imp λbY H Q bq=>by
  obtain⟨Z,g,ρ,s,R,h⟩:=bq;refine fh hP s R (.refl _ _) h λx g1 bT H1 v1 e1 R1 r1 h=>?_;obtain⟨t,rfl,h⟩:=h;refine⟨t,r1.M1,?_⟩;cases t
  ·exact fh hP (s.ext e1) R1 e1 h λy g2 eT H2 v2 e2 R2 r2 h=>h eT H2 v2 (e1.trans e2) R2 r2
  ·exact h bT H1 _ e1 R1 (.bl _)
theorem NR(ha:PE X a (LE X.K Ξ (aX P ma))):PE X (.UnaryOp .Not a pos) (LE X.K Ξ (aX P (.eB ma))) :=
 (Nl ha).imp λbY H Q bq=>by
  obtain⟨Z,g,ρ,s,R,h⟩:=bq;refine fh hP s R (.refl _ _) h λx g1 bT H1 v1 e1 R1 r1 h=>?_;obtain⟨t,rfl,h⟩:=h;exact⟨t,r1.M1,h bT H1 _ e1 R1 (.bl _)⟩
theorem NQ(hc:PT X c (LT X.K Ξ (cW P mc)))(ha:PE X a (LE X.K Ξ (aX P ma)))(hb:PE X b (LE X.K Ξ (aX P mb))):PE X (.IfExp c a b pos) (LE X.K Ξ (aX P (.ite mc ma mb))) :=
 (YJ hc ha hb).imp λbY H Q bq=>by
  obtain⟨Z,g,ρ,s,R,h⟩:=bq;refine mL hP s R (.refl _ _) h λt g1 bT H1 e1 R1 h=>?_;cases t
  ·exact fh hP (s.ext e1) R1 e1 h λy g2 eT H2 v2 e2 R2 r2 h=>h eT H2 v2 (e1.trans e2) R2 r2
  ·exact fh hP (s.ext e1) R1 e1 h λy g2 eT H2 v2 e2 R2 r2 h=>h eT H2 v2 (e1.trans e2) R2 r2
theorem NS{es:List Expr}{fU:ME}{k:Nat}(h:PA X es (LA X.K Ξ (fC P fU))):PE X (.Tuple es k pos) (LE X.K Ξ (aX P (.prim .tup fU))) :=
 (Nn h).imp λbY H Q bq=>by
  obtain⟨Z,g,ρ,s,R,h⟩:=bq;refine iJ hP s R (.refl _ _) h λds g1 bT H1 vs e1 R1 r1 h=>?_;obtain⟨d',g',⟨hz,rfl,rfl⟩,q⟩:=h;exact⟨by rw[<- r1.length];exact m9 (aG hz (by decide)),λp hp=>(q.ext e1).tup R1 hp r1⟩
theorem GV{es:List Expr}{fU:ME}(h:PA X es (LA X.K Ξ (fC P fU))):PE X (.List es pos) (LE X.K Ξ (aX P (.prim .lst fU))) :=
 (Nj h).imp λbY H Q bq=>by
  obtain⟨Z,g,ρ,s,R,h⟩:=bq;refine iJ hP s R (.refl _ _) h λds g1 bT H1 vs e1 R1 r1 h=>?_;obtain⟨d',g',⟨hz,rfl,rfl⟩,q⟩:=h;exact⟨by rw[<- r1.length];exact m9 (aG hz (by decide)),λp hp=>(q.ext e1).new R1 hp r1⟩
theorem J8:PA X [] (LA X.K Ξ (fC P .nil)) :=
 (X6 (X:=X)).imp λbY H Q bq=>by
  obtain⟨Z,g,ρ,s,R,h⟩:=bq;exact h ρ H [] (.refl _ _) R .nil
theorem B1{es:List Expr}{fU:ME}(ha:PE X a (LE X.K Ξ (aX P ma)))(h:PA X es (LA X.K Ξ (fC P fU)))(hs:starEach (a::es) X.env=(false,eval a X.env)::starEach es X.env):PA X (a::es) (LA X.K Ξ (fC P (.cons ma fU))) :=
 (Q7 ha h hs).imp λbY H Q bq=>by
  obtain⟨Z,g,ρ,s,R,h⟩:=bq;exact fh hP s R (.refl _ _) h λx g1 bT H1 v1 e1 R1 r1 h=>iJ hP (s.ext e1) R1 e1 h λxs g2 eT H2 vs e2 R2 r2 h=>h eT H2 _ (e1.trans e2) R2 (.cons (r1.ext e2) r2)
theorem Zm{p2:Pos}(ha:PE X a (LE X.K Ξ (aX P ma))):PE X (.Subscript a (.Slice none none none p2) pos) (LE X.K Ξ (aX P (.prim (.lE false false) (.cons ma .nil)))) :=
 (As Bk ha wI wI).imp λbY H Q bq=>by
  obtain⟨Z,g,ρ,s,R,h⟩:=bq;refine fh hP s R (.refl _ _) h λx g1 bT H1 v1 e1 R1 r1 h=>?_;obtain⟨d',g',⟨x',ex,h⟩,q⟩:=h;cases ex;exact⟨x,g1,bT,d',g',R1,r1,h,q.ext e1⟩
theorem Zo{p2:Pos}(ha:PE X a (LE X.K Ξ (aX P ma)))(hb:PE X b (LE X.K Ξ (aX P mb))):PE X (.Subscript a (.Slice (some b) none none p2) pos) (LE X.K Ξ (aX P (.prim (.lE true false) (.cons ma (.cons mb .nil))))) :=
 (As Bk ha (Hw hb) wI).imp λbY H Q bq=>by
  obtain⟨Z,g,ρ,s,R,h⟩:=bq;refine fh hP s R (.refl _ _) h λx g1 bT H1 v1 e1 R1 r1 h=>fh hP (s.ext e1) R1 e1 h λy g2 eT H2 v2 e2 R2 r2 h=>?_;obtain⟨d',g',⟨x',i,ex,h⟩,q⟩:=h;cases ex;exact⟨i,r2.i4,x,g2,eT,d',g',R2,r1.ext e2,h,q.ext (e1.trans e2)⟩
theorem Zn{p2:Pos}(ha:PE X a (LE X.K Ξ (aX P ma)))(hb:PE X b (LE X.K Ξ (aX P mb))):PE X (.Subscript a (.Slice none (some b) none p2) pos) (LE X.K Ξ (aX P (.prim (.lE false true) (.cons ma (.cons mb .nil))))) :=
 (As Bk ha wI (Hw hb)).imp λbY H Q bq=>by
  obtain⟨Z,g,ρ,s,R,h⟩:=bq;refine fh hP s R (.refl _ _) h λx g1 bT H1 v1 e1 R1 r1 h=>fh hP (s.ext e1) R1 e1 h λy g2 eT H2 v2 e2 R2 r2 h=>?_;obtain⟨d',g',⟨x',i,ex,h⟩,q⟩:=h;cases ex;exact⟨i,r2.i4,x,g2,eT,d',g',R2,r1.ext e2,h,q.ext (e1.trans e2)⟩
theorem Of(ha:PE X a (LE X.K Ξ (aX P ma)))(he:∀whole,isTrue a X.env whole=(do let v <- whole;standAt a.pos;holding [v] (truthy v))):PT X a (LT X.K Ξ (cW P (.fg ma))) :=
 (YX ha he).imp λbY H Q bq=>by
  obtain⟨Z,g,ρ,s,R,h⟩:=bq;refine fh hP s R (.refl _ _) h λx g1 bT H1 v1 e1 R1 r1 h=>?_;obtain⟨b,h1,h2⟩:=h;exact⟨b,Oy R1 r1 h1,h2 bT H1 e1 R1⟩
theorem Od(ha:PT X a (LT X.K Ξ (cW P ma))):PT X (.UnaryOp .Not a pos) (LT X.K Ξ (cW P (.eB ma))) :=
 (NB ha).imp λbY H Q bq=>by
  obtain⟨Z,g,ρ,s,R,h⟩:=bq;exact mL hP s R (.refl _ _) h λt g1 bT H1 e1 R1 h=>h bT H1 e1 R1
theorem Oh{rest:List Expr}(ha:PT X a (LT X.K Ξ (cW P ma)))(hb:PW X (.BoolOp .And (b::rest) pos) (LT X.K Ξ (cW P mb))):PW X (.BoolOp .And (a::b::rest) pos) (LT X.K Ξ (cW P (.dw ma mb))) :=
 (NC ha hb).imp λbY H Q bq=>by
  obtain⟨Z,g,ρ,s,R,h⟩:=bq;refine mL hP s R (.refl _ _) h λt g1 bT H1 e1 R1 h=>?_;cases t
  ·exact h bT H1 e1 R1
  ·exact mL hP (s.ext e1) R1 e1 h λt g2 eT H2 e2 R2 h=>h eT H2 (e1.trans e2) R2
theorem UG{rest:List Expr}(ha:PT X a (LT X.K Ξ (cW P ma)))(hb:PW X (.BoolOp .Or (b::rest) pos) (LT X.K Ξ (cW P mb))):PW X (.BoolOp .Or (a::b::rest) pos) (LT X.K Ξ (cW P (.iN ma mb))) :=
 (Us ha hb).imp λbY H Q bq=>by
  obtain⟨Z,g,ρ,s,R,h⟩:=bq;refine mL hP s R (.refl _ _) h λt g1 bT H1 e1 R1 h=>?_;cases t
  ·exact mL hP (s.ext e1) R1 e1 h λt g2 eT H2 e2 R2 h=>h eT H2 (e1.trans e2) R2
  ·exact h bT H1 e1 R1
theorem Qx:jP X [] (LT X.K Ξ (cW P .no)) :=
 (P' (X:=X)).imp λbY H Q bq=>by
  obtain⟨Z,g,ρ,s,R,h⟩:=bq;exact h ρ H (.refl _ _) R
theorem NM{x:Str}{v:Value}{es:List Expr}{fU:ME}{q:Pos}(hv:(∃id,v=.builtin id)\/∃T,v=.type T)(hc:m5 X v (rN X.K p))(hg:Gl X x)(hm:X.mg x=none)(hb:bootBuiltins x=some v)(ha:PA X (e::es) (LA X.K Ξ (fC P fU)))(hn:x≠"__name__")(hd:(x==("__debug__":Str))=false)(dP:starEach (e::es) X.env=(false,eval e X.env)::starEach es X.env)(gb:(backTo pos (starEach es X.env)).any (·.1)=false):PE X (.Call (.Name x q) (e::es) [] pos) (LE X.K Ξ (aX P (.prim p fU))):=by
 have base:PE X (.Call (.Name x q) (e::es) [] pos) (xy (rN X.K p) (LA X.K Ξ (fC P fU))):=by
  rcases hv with⟨id,rfl⟩|⟨T,rfl⟩
  ·exact Z7 hc hg hm hb ha hn hd dP gb
  ·exact O6 hc hg hm hb ha hn hd dP gb
 refine base.imp λbY H Q bq=>?_;obtain⟨Z,g,ρ,s,R,h⟩:=bq;exact iJ hP s R (.refl _ _) h λxs g1 bT H1 vs e1 R1 r1 h=>⟨xs,g1,bT,R1,r1,u4 (λd g' h=>h.ext e1) h⟩
theorem Qm{o:Expr}{es:List Expr}{mo fU:ME}{T:String}{name:Str}{id:String}{apos:Pos}(pa:PlainAttrs T)(slot:Slot T name id)(iA:typeOf (.builtin id)=pure (.type "method_descriptor"))(hm:ka X id (rM X.K p))(hk:∀{d:D} {v:V} {g:G} {ρ:List Addr} {H:Hp},Rl X.K ρ g H->d5 X.K ρ H d v->jV p d g->lD X.K T v H)(ho:PE X o (LE X.K Ξ (aX P mo)))(ha:PA X (e::es) (LA X.K Ξ (fC P fU)))(fM:attributeBase o name X.env (eval o X.env)=eval o X.env)(jC:((backTo pos (starEach (e::es) X.env)).all (λx=>!x.1)&&(backToKw pos (keywordEach [] X.env)).all (λx=>x.1.isSome)&&decide ((e::es).length+([]:List Keyword).length+(if([]:List Keyword).isEmpty then 0 else 1)<30))=true)(fL:(apos.endLine==pos.line)=true)(hs:starEach (e::es) X.env=(false,eval e X.env)::starEach es X.env)(eV:(backTo pos (starEach es X.env)).any (·.1)=false) :
  PE X (.Call (.Attribute o name apos) (e::es) [] pos) (LE X.K Ξ (aX P (.dW p mo fU))) :=
 (Uk pa slot iA hm ho ha fM jC fL hs eV).imp λbY H Q bq=>by
  obtain⟨Z,g,ρ,s,R,h⟩:=bq;exact fh hP s R (.refl _ _) h λx g1 bT H1 v1 e1 R1 r1 h=>⟨hk R1 r1 h.1,iJ hP (s.ext e1) R1 e1 h.2 λxs g2 eT H2 ws e2 R2 r2 h =>
   ⟨x,xs,g2,eT,R2,r1.ext e2,r2,u4 (λd g' h=>h.ext (e1.trans e2)) h⟩⟩
theorem Zk{o:Expr}{mo:ME}{T:String}{name:Str}{id:String}{apos:Pos}(pa:PlainAttrs T)(slot:Slot T name id)(iA:typeOf (.builtin id)=pure (.type "method_descriptor"))(hm:ka X id (rM X.K p))(hk:∀{d:D} {v:V} {g:G} {ρ:List Addr} {H:Hp},Rl X.K ρ g H->d5 X.K ρ H d v->jV p d g->lD X.K T v H)(ho:PE X o (LE X.K Ξ (aX P mo)))(fM:attributeBase o name X.env (eval o X.env)=eval o X.env)(fL:(apos.endLine==pos.line)=true) :
  PE X (.Call (.Attribute o name apos) [] [] pos) (LE X.K Ξ (aX P (.dW p mo .nil))) :=
 (Ng pa slot iA hm ho fM fL).imp λbY H Q bq=>by
  obtain⟨Z,g,ρ,s,R,h⟩:=bq;exact fh hP s R (.refl _ _) h λx g1 bT H1 v1 e1 R1 r1 h=>⟨hk R1 r1 h.1,x,[],g1,bT,R1,r1,.nil,u4 (λd g' h=>h.ext e1) h.2⟩
omit hP in
theorem HV{K ρ H}{d:D}{v:V}(r:d5 K ρ H d v)(h:vK d=true):v=toV d/\M0 v=true:=by
 cases r with
 |bx=>exact⟨rfl,rfl⟩
 |bl _=>exact⟨rfl,rfl⟩
 |int _=>exact⟨rfl,rfl⟩
 |str _=>exact⟨rfl,rfl⟩
 |ty _=>exact absurd h bH
 |ref _=>exact absurd h bH
 |tup _ _=>exact absurd h bH
omit hP in
theorem ZU{K ρ H}{l:List D}{vs:List V}(r:c7 K ρ H l vs)(h:l.all vK=true):vs=l.map toV/\vs.all M0=true:=by
 induction l generalizing vs with
 |nil=>cases r;exact⟨rfl,rfl⟩
 |cons d l ih =>
  cases r with
  |cons rd rs =>
   rw[List.all_cons,aO] at h;obtain⟨e1,f1⟩:=HV rd h.1;obtain⟨e2,f2⟩:=ih rs h.2;subst e1 e2;exact⟨rfl,by rw[List.all_cons,f1,f2];rfl⟩
omit hP in
theorem Fu{K ρ H}{l:List D}{vs:List V}{y:D}{w:V}{n:Nat}(r:c7 K ρ H l vs)(ry:d5 K ρ H y w)(h:Bt l y n):wo vs w n:=by
 obtain⟨h1,h2,⟨z,h3,h4⟩,h5⟩:=h;obtain⟨e1,f1⟩:=ZU r h1;obtain⟨e2,f2⟩:=HV ry h2;subst e1 e2;refine⟨f1,f2,⟨toV z,by rw[ag,h3];rfl,h4⟩,λm z' hm hz=>?_⟩;rw[ag,aa] at hz;obtain⟨IS,hz,rfl⟩:=hz;exact h5 m IS hm hz
theorem Zg{o:Expr}{es:List Expr}{mo fU:ME}{apos:Pos}(ho:PE X o (LE X.K Ξ (aX P mo)))(ha:PA X (e::es) (LA X.K Ξ (fC P fU)))(fM:attributeBase o "index" X.env (eval o X.env)=eval o X.env)(jC:((backTo pos (starEach (e::es) X.env)).all (λx=>!x.1)&&(backToKw pos (keywordEach [] X.env)).all (λx=>x.1.isSome)&&decide ((e::es).length+([]:List Keyword).length+(if([]:List Keyword).isEmpty then 0 else 1)<30))=true)(fL:(apos.endLine==pos.line)=true)(hs:starEach (e::es) X.env=(false,eval e X.env)::starEach es X.env)(eV:(backTo pos (starEach es X.env)).any (·.1)=false) :
  PE X (.Call (.Attribute o "index" apos) (e::es) [] pos) (LE X.K Ξ (aX P (.dW .index mo fU))) :=
 (YK ho ha fM jC fL hs eV).imp λbY H Q bq=>by
  obtain⟨Z,g,ρ,s,R,h⟩:=bq;refine fh hP s R (.refl _ _) h λx g1 bT H1 v1 e1 R1 r1 h=>?_;obtain⟨hk,h⟩:=h;rcases hk with⟨l,rfl⟩|⟨a,l,rfl,hl⟩
  ·obtain⟨a',vs,rfl,ta,rs⟩:=r1.J7;refine .inr ⟨a',vs,rfl,ta.d,iJ hP (s.ext e1) R1 e1 h λxs g2 eT H2 ws e2 R2 r2 h=>?_⟩;obtain⟨d',g',⟨x,y,l',n,ex,hi,W,hz,rfl,rfl⟩,q⟩:=h;cases ex;cases hi;obtain⟨w,rfl,fq⟩:=r2.one;exact⟨a',vs,w,n,rfl,rfl,(ta.ext e2).sq,Fu (rs.ext e2) fq W,(q.ext (e1.trans e2)).now R2 (.int n)⟩
  ·obtain⟨a',rfl,ra⟩:=r1.j5;obtain⟨vs,hq,_⟩:=R1.items hl ra;refine .inl ⟨a',vs,rfl,hq,iJ hP (s.ext e1) R1 e1 h λxs g2 eT H2 ws e2 R2 r2 h=>?_⟩;obtain⟨d',g',⟨x,y,l',n,ex,hi,W,hz,rfl,rfl⟩,q⟩:=h;cases ex;obtain⟨w,rfl,fq⟩:=r2.one;obtain⟨xq,ya,pY⟩:=R2.items (show d0 _ a=some l' from hi) (e2.get ra);have hn:n<2 ^ 62:=by
    obtain⟨_,_,⟨z,ou,_⟩,_⟩:=W;have:=(ak.mp ou).1;omega
   exact⟨a',xq,w,n,rfl,rfl,ya,Fu pY fq W,hn,(q.ext (e1.trans e2)).now R2 (.int n)⟩
theorem Zh{q p2 iM:Pos}(hc:X.calm=true)(ha:PE X a (LE X.K Ξ (aX P ma)))(kR:Gl X "list")(kM:X.mg "list"=none)(hg:Gl X "range")(hm:X.mg "range"=none)(hs:starEach [a] X.env=[(false,eval a X.env)]) :
  PE X (.Call (.Name "list" p2) [.Call (.Name "range" q) [a] [] pos] [] iM) (LE X.K Ξ (aX P (.prim .gU (.cons ma .nil)))) :=
 (O6 (GH hc) kR kM (by first|exact PyProof.Rows.boot_list|decide +kernel) (Q7 (Wm hg hm (B1 hP ha (J8 hP) (by rw[hs];rfl)) hs) X6)).imp λbY H Q bq=>by
  obtain⟨Z,g,ρ,s,R,h⟩:=bq;refine iJ hP s R (.refl _ _) h λxs g1 bT H1 vs e1 R1 r1 h=>?_;obtain⟨d',g',⟨j,rfl,h1,h2,rfl,rfl⟩,q⟩:=h;obtain⟨v,rfl,rv⟩:=r1.one;obtain rfl:=rv.i4;refine⟨j,rfl,λq' hq=>⟨q',0,j,rfl,u3,⟨by omega,by omega,h1,by omega,by omega⟩,λp hp=>?_⟩⟩;rw[show(j-0).toNat=j.toNat by omega];exact(q.ext (e1.trans (A9 hq))).new (R1.grow hq) hp (c7.ki 0 _)
theorem Zi{q p2 iM:Pos}(hc:X.calm=true)(ha:PE X a (LE X.K Ξ (aX P ma)))(hb:PE X b (LE X.K Ξ (aX P mb)))(kR:Gl X "list")(kM:X.mg "list"=none)(hg:Gl X "range")(hm:X.mg "range"=none)(hs:starEach [a,b] X.env=[(false,eval a X.env),(false,eval b X.env)])(ia:starEach [b] X.env=[(false,eval b X.env)]) :
  PE X (.Call (.Name "list" p2) [.Call (.Name "range" q) [a,b] [] pos] [] iM) (LE X.K Ξ (aX P (.prim .je (.cons ma (.cons mb .nil))))) :=
 (O6 (GH hc) kR kM (by first|exact PyProof.Rows.boot_list|decide +kernel) (Q7 (Wn hg hm (B1 hP ha (B1 hP hb (J8 hP) (by rw[ia];rfl)) (by rw[hs,ia])) hs ia) X6)).imp λbY H Q bq=>by
  obtain⟨Z,g,ρ,s,R,h⟩:=bq;refine iJ hP s R (.refl _ _) h λxs g1 bT H1 vs e1 R1 r1 h=>?_;obtain⟨d',g',⟨i,j,rfl,hb,rfl,rfl⟩,q⟩:=h;obtain⟨v,w,rfl,rv,fq⟩:=r1.two;obtain rfl:=rv.i4;obtain rfl:=fq.i4;exact⟨i,j,rfl,λq' hq=>⟨q',i,j,rfl,u3,hb,λp hp=>(q.ext (e1.trans (A9 hq))).new (R1.grow hq) hp (c7.ki i _)⟩⟩
theorem Qo{q p2 iM:Pos}(hc:X.calm=true)(ha:PE X a (LE X.K Ξ (aX P ma)))(kR:Gl X "sorted")(kM:X.mg "sorted"=none)(hg:Gl X "set")(hm:X.mg "set"=none)(hs:starEach [a] X.env=[(false,eval a X.env)]) :
  PE X (.Call (.Name "sorted" p2) [.Call (.Name "set" q) [a] [] pos] [] iM) (LE X.K Ξ (aX P (.prim .sset (.cons ma .nil)))) :=
 (Z7 (V1 hc) kR kM (by first|exact PyProof.Rows.boot_sorted|decide +kernel) (Q7 (O6 (GD hc) hg hm (by first|exact PyProof.Rows.boot_set|decide +kernel) (B1 hP ha (J8 hP) (by rw[hs];rfl)) (by decide) (by decide) (by rw[hs];rfl) rfl) X6)).imp λbY H Q bq=>by
  obtain⟨Z,g,ρ,s,R,h⟩:=bq;refine iJ hP s R (.refl _ _) h λxs g1 bT H1 vs e1 R1 r1 h=>?_;obtain⟨d',g',⟨i,ns,rfl,hl,hz,rfl,rfl⟩,q⟩:=h;obtain⟨v,rfl,rv⟩:=r1.one;obtain⟨a',rfl,ra⟩:=rv.j5;obtain⟨ws,hq,rs⟩:=R1.items hl ra;obtain rfl:=rs.ints;refine⟨_,ns,rfl,hq,hz,λq' kJ=>⟨q',ns,rfl,u3,hz,λp hp=>?_⟩⟩;exact(q.ext (e1.trans (A9 kJ))).new (R1.grow kJ) hp (c7.ofInts _)
theorem Qk{q p2 iM:Pos}(hc:X.calm=true)(ha:PE X a (LE X.K Ξ (aX P ma)))(kR:Gl X "len")(kM:X.mg "len"=none)(hg:Gl X "set")(hm:X.mg "set"=none)(hs:starEach [a] X.env=[(false,eval a X.env)]) :
  PE X (.Call (.Name "len" p2) [.Call (.Name "set" q) [a] [] pos] [] iM) (LE X.K Ξ (aX P (.prim .nJ (.cons ma .nil)))) :=
 (Z7 Vt kR kM PySem.boot_len (Q7 (O6 (GD hc) hg hm (by first|exact PyProof.Rows.boot_set|decide +kernel) (B1 hP ha (J8 hP) (by rw[hs];rfl)) (by decide) (by decide) (by rw[hs];rfl) rfl) X6)).imp λbY H Q bq=>by
  obtain⟨Z,g,ρ,s,R,h⟩:=bq;refine iJ hP s R (.refl _ _) h λxs g1 bT H1 vs e1 R1 r1 h=>?_;obtain⟨d',g',⟨i,ns,rfl,hl,hz,rfl,rfl⟩,q⟩:=h;obtain⟨v,rfl,rv⟩:=r1.one;obtain⟨a',rfl,ra⟩:=rv.j5;obtain⟨ws,hq,rs⟩:=R1.items hl ra;obtain rfl:=rs.ints;refine⟨_,ns,rfl,hq,hz,λq' kJ=>⟨q',_,rfl,u3,?_⟩⟩;exact(q.ext (e1.trans (A9 kJ))).now (R1.grow kJ) (.int _)
theorem Qn{i:Int}{j:Nat}{q:Pos}(kT:PySem.W.kdsCode X.K X.env.code=true):PE X (.Set [.Constant (.int i) j q] 0 pos) (LE X.K Ξ (aX P (.prim (.iX i) .nil))) :=
 (PK kT).imp λbY H Q bq=>by
  obtain⟨Z,g,ρ,s,R,h⟩:=bq;obtain⟨d',g',⟨_,rfl,rfl⟩,q⟩:=h;exact λp hp=>q (ρ++[p]) _ _ (M9 hp) (R.new hp (o:=.set (λk=>decide (k=i)) 1) (u:=.set (λk=>decide (k=i)) 1) ⟨rfl,rfl⟩) (.ref (R.C7 p))
theorem NO{f:Str}(ha:PE X a (LE X.K Ξ (aX P ma)))(hb:attributeBase a f X.env (eval a X.env)=eval a X.env):PE X (.Attribute a f pos) (LE X.K Ξ (aX P (.prim (.fld f) (.cons ma .nil)))) :=
 (Nh ha hb).imp λbY H Q bq=>by
  obtain⟨Z,g,ρ,s,R,h⟩:=bq;refine fh hP s R (.refl _ _) h λx g1 bT H1 v1 e1 R1 r1 h=>?_;obtain⟨d',g',⟨i,c,fs,ex,hi,hf,rfl⟩,q⟩:=h;cases ex;obtain⟨a',rfl,ra⟩:=r1.j5;obtain⟨C,dx,vs,hH,_,hC,rk,na⟩:=R1.ins hi ra;have lk:=rk.look f;rw[hf] at lk;obtain⟨v,hv,rv⟩:=lk.some;exact⟨a',C,dx,vs,v,rfl,hH,hC,na _ (aS hf),hv,q bT H1 v e1 R1 rv⟩
end
section
variable{X:Cx}{Ξ:gn}{P:fm}{a b c:Expr}{ma mb mc:ME}{pos:Pos}
theorem NT{i:Nat}{x:Str}(hN:X.N[i]?=some x)(hv:uG X.env.scope x)(hd:(x==("__debug__":Str))=false)(jW:(x==("__classdict__":Str))=false):PE X (.Name x pos) (LE X.K Ξ (aX P (.var i))) :=
 (Np hN hv hd jW).imp λbY H Q bq=>by
  obtain⟨Z,g,ρ,s,R,h⟩:=bq;obtain⟨d,e,h⟩:=h;obtain⟨v,h1,h2⟩:=s.val _ _ e;exact⟨v,h1,h.now R h2⟩
theorem T1{e:Expr}{d:D}{v:V}(h:PE X e (tC v))(r:∀ρ H,d5 X.K ρ H d v):PE X e (LE X.K Ξ (aX P (.lit d))) :=
 h.imp λbY H Q bq=>by
  obtain⟨Z,g,ρ,s,R,h⟩:=bq;exact LQ.now h R (r ρ H)
theorem Qh:PE X (.Dict [] [] pos) (LE X.K Ξ (aX P (.prim .mG .nil))) :=
 (YI (X:=X)).imp λbY H Q ⟨Z,g,ρ,s,R,h⟩ p hp=>by
  obtain⟨d',g',⟨_,rfl,rfl⟩,q⟩:=h;exact q (ρ++[p]) _ _ (M9 hp) (R.new hp (o:=.ei []) (u:=.dK []) i6.nil) (.ref (R.C7 p))
end
end M

namespace L2
open PySem PySem.Spec PyProof.Rows
section
variable{X:Cx}{m:Str}{pos apos:Pos}{e o:Expr}{es:List Expr}{ta:TE}{t:TA}
end
end L2
namespace M
open PySem L2 PySem.Spec PyProof.Rows
inductive nG(K:PySem.W.Frag):List D->List (Str×V)->Prop
 |nil:nG K [] []
 |cons {x:Str} {d:D} {v:V} {ds:List D} {vs:List (Str×V)} (h:∀ρ H,d5 K ρ H d v) (r:nG K ds vs):nG K (.tup [.str x,d]::ds) ((x,v)::vs)
theorem nG.look{K:PySem.W.Frag}{ρ:List Addr}{H:Hp}{ds vs}(x:Str)(h:nG K ds vs):pL K ρ H (O3 ds x) (vs.lookup x):=by
 induction h with
 |nil=>trivial
 |cons h r ih =>
  rename_i y d v ds vs;unfold O3;rw[cI];by_cases e:x=y
  ·rw[aK e,show(x==y)=true from by simp[e]];exact h ρ H
  ·rw[aC e,show(x==y)=false from by simpa using e];exact ih
def vF(X:Cx)(x:Str)(kvs:List D):Prop:=∃A vs,X.mg x=some (.ref A)/\ub X.K X.w.params A vs/\nG X.K kvs vs
def vM(neg:Bool):Pr:=if neg then .tH else .DT
theorem Hk{neg:Bool}:PR (vM neg)=zN neg:=by cases neg<;>rfl
theorem WD(a b c:Str):a++b++c=a++(b++c):=by
 cases a;cases b;cases c;show Str.mk _=Str.mk _;exact congrArg Str.mk (Array.append_assoc ..)
theorem Qw(x:Str):x++Str.empty=x:=by cases x;show Str.mk _=_;simp[Str.empty]
theorem Pl(x:Str):Str.empty++x=x:=by cases x;show Str.mk _=_;simp[Str.empty]
section
variable{X:Cx}{Ξ:gn}{P:fm}(hP:i0 P){a b c:Expr}{ma mb mc:ME}{pos:Pos}
include hP
theorem NP{x:Str}{p:Pos}{kvs:List D}{neg:Bool}(hg:Gl X x)(hd:(x==("__debug__":Str))=false)(hG:vF X x kvs)(ha:PE X a (LE X.K Ξ (aX P ma)))(hm:behindInMarks (if neg then .NotIn else .In) (.Name x p)=false) :
  PE X (.Compare a [if neg then .NotIn else .In] [.Name x p] pos) (LE X.K Ξ (aX P (.prim (vM neg) (.cons (.lit (.tup kvs)) (.cons ma .nil))))):=by
 obtain⟨A,vs,hmg,hk,gr⟩:=hG;refine(Ht (GO (kvs:=vs) neg) ha (wH (v:=.ref A) hg hmg rfl hd) hm).imp λbY H Q bq=>?_;obtain⟨Z,g,ρ,s,R,h⟩:=bq;refine fh hP s R (.refl _ _) h λd g1 bT H1 v1 e1 R1 r1 h=>?_;obtain⟨d',g',h,q⟩:=h;rw[Hk] at h;obtain⟨gY,z,ex,rfl,rfl⟩:=h;cases ex;obtain rfl:=r1.E3;refine⟨A,z,rfl,hk,rfl,?_⟩;rw[<- (gr.look (ρ:=bT) (H:=H1) z).isSome];exact q bT H1 _ e1 R1 (.bl _)
theorem Oc{x:Str}{p:Pos}{kvs:List D}{neg:Bool}(hg:Gl X x)(hd:(x==("__debug__":Str))=false)(hG:vF X x kvs)(ha:PE X a (LE X.K Ξ (aX P ma)))(hm:behindInMarks (if neg then .NotIn else .In) (.Name x p)=false) :
  PT X (.Compare a [if neg then .NotIn else .In] [.Name x p] pos) (LT X.K Ξ (cW P (.fg (.prim (vM neg) (.cons (.lit (.tup kvs)) (.cons ma .nil)))))):=by
 obtain⟨A,vs,hmg,hk,gr⟩:=hG;refine(Hx (GO (kvs:=vs) neg) ha (wH (v:=.ref A) hg hmg rfl hd) hm).imp λbY H Q bq=>?_;obtain⟨Z,g,ρ,s,R,h⟩:=bq;refine fh hP s R (.refl _ _) h λd g1 bT H1 v1 e1 R1 r1 h=>?_;obtain⟨d',g',h,t,ht,q⟩:=h;rw[Hk] at h;obtain⟨gY,z,ex,rfl,rfl⟩:=h;cases ex;obtain rfl:=r1.E3;refine⟨A,z,rfl,hk,rfl,t,?_,q bT H1 e1 R1⟩;rw[<- (gr.look (ρ:=bT) (H:=H1) z).isSome];rcases ht with⟨z,_⟩|z|⟨i,z,_⟩|⟨l,z,_⟩|⟨a,l,z,_⟩<;>cases z
 rfl
theorem Qj{x:Str}{p:Pos}{kvs:List D}(hg:Gl X x)(hd:(x==("__debug__":Str))=false)(hG:vF X x kvs)(ha:PE X a (LE X.K Ξ (aX P ma)))(hs:zP a):PE X (.Subscript (.Name x p) a pos) (LE X.K Ξ (aX P (.prim .lp (.cons (.lit (.tup kvs)) (.cons ma .nil))))):=by
 obtain⟨A,vs,hmg,hk,gr⟩:=hG;refine(ET (Tx (kvs:=vs)) (wH (v:=.ref A) hg hmg rfl hd) ha hs).imp λbY H Q bq=>?_;obtain⟨Z,g,ρ,s,R,h⟩:=bq;refine fh hP s R (.refl _ _) h λd g1 bT H1 v1 e1 R1 r1 h=>?_;obtain⟨d',g',⟨gY,z,ex,hz,rfl⟩,q⟩:=h;cases ex;obtain rfl:=r1.E3;have lk:=gr.look (ρ:=bT) (H:=H1) z;rw[hz] at lk;obtain⟨w,hw,lk⟩:=lk.some;exact⟨A,z,w,rfl,hk,rfl,hw,q bT H1 _ e1 R1 lk⟩
theorem UA(ha:PE X a (LE X.K Ξ (aX P ma))):PE X (.FormattedValue a (-1) none pos) (LE X.K Ξ (aX P (.prim .fv (.cons ma .nil)))) :=
 (Ul ha).imp λbY H Q bq=>by
  obtain⟨Z,g,ρ,s,R,h⟩:=bq;refine fh hP s R (.refl _ _) h λd g1 bT H1 v1 e1 R1 r1 h=>?_;obtain⟨d',g',⟨rfl,h⟩,q⟩:=h;rcases h with⟨i,ex,h1,rfl⟩|⟨z,ex,h1,rfl⟩
  ·cases ex;exact .inl ⟨i,r1.i4,h1,q bT H1 _ e1 R1 (.str _)⟩
  ·cases ex;exact .inr ⟨z,r1.E3,m9 (by omega),q bT H1 _ e1 R1 (.str _)⟩
omit hP in
inductive kq(X:Cx)(Ξ:gn)(P:fm):List Expr->ME->List TE->Prop
 |nil:kq X Ξ P [] .nil []
 |lit {x:Str} {j:Nat} {p:Pos} {es:List Expr} {ms:ME} {ts:List TE} (hx:x.length<=2000) (r:kq X Ξ P es ms ts):kq X Ξ P (.Constant (.str x) j p::es) (.cons (.lit (.str x)) ms) (LE X.K Ξ (aX P (.lit (.str x)))::ts)
 |val {e:Expr} {m:ME} {p:Pos} {es:List Expr} {ms:ME} {ts:List TE} (he:PE X e (LE X.K Ξ (aX P m))) (r:kq X Ξ P es ms ts):kq X Ξ P (.FormattedValue e (-1) none p::es) (.cons (.prim .fv (.cons m .nil)) ms) (LE X.K Ξ (aX P (.prim .fv (.cons m .nil)))::ts)
theorem kq.Jv{es ms ts}(h:kq X Ξ P es ms ts):qS X es ts:=by
 induction h with
 |nil=>exact .nil
 |lit hx r ih=>exact .cons (T1 GQ λ_ _=>.str _) ih
 |val he r ih=>exact .cons (UA hP he) ih
theorem kq.join{bY:L2.St}{Q:Str->Hp->Prop}{es ms ts}(hf:kq X Ξ P es ms ts):∀{Z:S} {g:G} {ρ:List Addr} {H:Hp} {acc:Str},acc.length+2000*es.length<=100000->n9 X.K ρ H Z bY->Rl X.K ρ g H ->
  fC P ms Z g (λds g1=>∃x,U8 ds=some x/\∀bI H',Ext ρ H bI H'->Rl X.K bI g1 H'->Q (acc++x) H') (LX X.K ρ H Ξ)->vR ts bY H acc (λout H1=>out.length<=sizeLine/\Q out H1):=by
 have tl:∀{acc y:Str} {ρ:List Addr} {H:Hp} {bT:List Addr} {H1:Hp} {ds:List D} {g1:G},Ext ρ H bT H1->(∃x,U8 (.str y::ds)=some x/\∀bI H',Ext ρ H bI H'->Rl X.K bI g1 H'->Q (acc++x) H')->∃x,U8 ds=some x/\∀bI H',Ext bT H1 bI H'->Rl X.K bI g1 H'->Q (acc++y++x) H':=by
  intro acc y ρ H bT H1 ds g1 e1 h;obtain⟨x,hx,h⟩:=h;simp only[U8] at hx;cases hj:U8 ds with
  |none=>rw[hj] at hx;cases hx
  |some x' =>
   rw[hj] at hx;cases hx;refine⟨x',rfl,λbI H' e' R'=>?_⟩;rw[WD];exact h bI H' (e1.trans e') R'
 induction hf with
 |nil =>
  intro Z g ρ H acc ha s R h;obtain⟨x,hx,h⟩:=h;cases hx;rw[Qw] at h;exact⟨m9 (by simpa using ha),h ρ H (.refl _ _) R⟩
 |lit hx r ih =>
  rename_i y j p es ms ts;intro Z g ρ H acc ha s R h;refine⟨Z,g,ρ,s,R,?_⟩;intro bT H1 v1 e1 R1 r1;obtain rfl:=r1.E3;have hl:(acc++y).length<=acc.length+2000:=by rw[strLen_append];omega
  simp only[List.length_cons] at ha;exact⟨y,rfl,m9 (by omega),ih (by omega) (s.ext e1) R1 (x5 hP _ _ _ _ _ _ _ (λds g1 h=>tl e1 h) (λ_ _ z=>LX.ext e1 z) h)⟩
 |val he r ih =>
  rename_i e m p es ms ts;intro Z g ρ H acc ha s R h;refine⟨Z,g,ρ,s,R,?_⟩;simp only[List.length_cons] at ha;refine c5 hP m _ _ _ _ _ _ (λd g1 h=>?_) (λ_ _ z=>z) h;obtain⟨d',g',⟨rfl,h⟩,q⟩:=h;have hy:∃y,d'=.str y/\y.length<=2000:=by
   rcases h with⟨i,ex,h1,rfl⟩|⟨z,ex,h1,rfl⟩
   ·exact⟨_,rfl,by rw[PySem.ofString_length];have:=int_text_length_le (k:=1920) (by decide) h1;omega⟩
   ·exact⟨z,rfl,h1⟩
  obtain⟨y,rfl,hy⟩:=hy;refine⟨_,_,⟨rfl,h⟩,λbT H1 v1 e1 R1 r1=>?_⟩;obtain rfl:=r1.E3;have hl:(acc++y).length<=acc.length+2000:=by rw[strLen_append];omega
  exact⟨y,rfl,m9 (by omega),ih (by omega) (s.ext e1) R1 (x5 hP _ _ _ _ _ _ _ (λds g1 h=>tl e1 h) (λ_ _ z=>LX.ext e1 z) q)⟩
theorem Qi{jS jR:Expr}{rest:List Expr}{ms:ME}{ts:List TE}(h:kq X Ξ P (jS::jR::rest) ms ts)(hl:(jS::jR::rest).length<=40):PE X (.JoinedStr (jS::jR::rest) pos) (LE X.K Ξ (aX P (.prim .jY ms))) :=
 (PH (h.Jv hP)).imp λbY H Q bq=>by
  obtain⟨Z,g,ρ,s,R,hw⟩:=bq;refine kq.join hP h (Q:=λout H1=>Q (.str out) H1) (acc:=Str.empty) ?_ s R (x5 hP ms _ _ _ _ _ _ (λds g1 hw=>?_) (λ_ _ z=>z) hw)
  ·have:Str.empty.length=0:=rfl;omega
  ·obtain⟨d',g',⟨x,hx,rfl,rfl⟩,q⟩:=hw;refine⟨x,hx,λbI H' e' R'=>?_⟩;rw[Pl];exact q bI H' _ e' R' (.str _)
omit hP in
def mQ(ex:List Str)(K:PySem.W.Frag)(n:Nat)(t:List D->G->KD->KX->Prop):Sp:=λvs H Q E=>vs.length=n/\∃ds g ρ,c7 K ρ H ds vs/\Rl K ρ g H/\t ds g (LQ K ρ H Q) (LX K ρ H (ex,E))
omit hP in
def nO(X:Cx)(P:fm)(ex:List Str)(k f:Nat)(fa:Addr)(fd:FuncData)(ps:List Str):Prop :=
 gL X.prog X.w X.K X.mg X.base (ig X.prog X.w) k fa fd ps (mQ ex X.K ps.length (P f))/\Binds X.K fd ps []/\∀ds g Q E,P f ds g Q E->ds.length=ps.length
theorem EY{k f:Nat}{fa:Addr}{fd:FuncData}{ps:List Str}(F:nO X P Ξ.1 k f fa fd ps){ρ fJ:List Addr}{H H0:Hp}{g:G}{xs:List D}{vs:List V}{Q0:KD}{Q:VK}(e0:Ext fJ H0 ρ H)(R:Rl X.K ρ g H)(r:c7 X.K ρ H xs vs)(h:P f xs g Q0 (LX X.K fJ H0 Ξ))(k:∀d g',Q0 d g'->LQ X.K ρ H Q d g'):mQ Ξ.1 X.K ps.length (P f) (vs++[]) H Q Ξ.2:=by
 rw[eX];exact⟨by rw[<- r.length];exact F.2.2 _ _ _ _ h,xs,g,ρ,r,R,hP _ _ _ _ _ _ _ k (λ_ _ z=>LX.ext e0 z) h⟩
theorem Qg{k f:Nat}{x:Str}{fa:Addr}{fd:FuncData}{ps:List Str}{es:List Expr}{e:Expr}{fU:ME}{p:Pos}(hx:Passes (ig X.prog X.w) X Ξ.2)(F:nO X P Ξ.1 k f fa fd ps)(hr:w9 k X.A)(hg:Gl X x)(hm:X.mg x=some (.ref fa))(hk:PySem.W.keepIn X.K (.ref fa)=true)(ha:PA X (e::es) (LA X.K Ξ (fC P fU)))(hd:(x==("__debug__":Str))=false)(dP:starEach (e::es) X.env=(false,eval e X.env)::starEach es X.env)(gb:(backTo pos (starEach es X.env)).any (·.1)=false):PE X (.Call (.Name x p) (e::es) [] pos) (LE X.K Ξ (aX P (.call f fU))) :=
 (Pz F.1 hr hg hm hk F.2.1 .nil hx ha hd dP gb).imp λbY H Q bq=>by
  obtain⟨Z,g,ρ,s,R,h⟩:=bq;exact iJ hP s R (.refl _ _) h λxs g1 bT H1 vs e1 R1 r1 h=>EY hP F e1 R1 r1 h λd g' h=>h.ext e1
theorem Hq{c:Str}{f k:Nat}{C fa:Addr}{fd:FuncData}{ps:List Str}(F:nO X P Ξ.1 k f fa fd ps)(hC:s9 X.K c C)(hc:iU X.K C){ρ fJ:List Addr}{H H0:Hp}{g1:G}{xs:List D}{vs:List V}{Q:VK}(e0:Ext fJ H0 ρ H)(R:Rl X.K ρ g1 H)(r:c7 X.K ρ H xs vs)(h:P f (.ref g1.length::xs) (g1++[.ins c []]) (λd g2=>d=.bx/\LQ X.K fJ H0 Q (.ref g1.length) g2) (LX X.K fJ H0 Ξ)):∀x dx,H x=none->H dx=none->dx≠x->mQ Ξ.1 X.K ps.length (P f) (.ref x::(vs++[])) (upd (upd H dx (.own x)) x (.ins C dx [])) (λv H2=>v=.bx/\Q (.ref x) H2) Ξ.2:=by
 intro x dx hx DC dH;have vc:upd H dx (.own x) x=none:=by rw[d8 (bP dH)];exact hx
 have R2:=R.grow (o:=.own x) DC;have e2:Ext ρ H ρ (upd H dx (.own x)):=A9 DC;have R3:=R2.new (o:=.ins c []) (u:=.ins C dx []) vc ⟨hC,hc,.nil,λx hx=>absurd hx (by simp)⟩;have e3:Ext ρ (upd H dx (.own x)) (ρ++[x]) (upd (upd H dx (.own x)) x (.ins C dx [])):=M9 vc;have:=EY hP F (e0.trans (e2.trans e3)) R3 (.cons (.ref (R.C7 x)) (r.ext (e2.trans e3))) h (Q:=λv H2=>v=.bx/\Q (.ref x) H2) λd g' q bI H' v e' R' r'=>by
  obtain⟨rfl,q⟩:=q;exact⟨r'.wb,q bI H' _ (e0.trans (e2.trans (e3.trans e'))) R' (.ref (e'.get (R.C7 x)))⟩
 exact this
theorem Ql{k f:Nat}{x:Str}{C fa:Addr}{fd:FuncData}{ps:List Str}{es:List Expr}{e:Expr}{fU:ME}{p:Pos}(hx:Passes (ig X.prog X.w) X Ξ.2)(F:nO X P Ξ.1 k f fa fd ps)(M:Mk X.K C fa)(hC:s9 X.K x C)(hc:iU X.K C)(hr:w9 (k+1) X.A)(hg:Gl X x)(hm:X.mg x=some (.ref C))(ha:PA X (e::es) (LA X.K Ξ (fC P fU)))(hd:(x==("__debug__":Str))=false)(dP:starEach (e::es) X.env=(false,eval e X.env)::starEach es X.env)(gb:(backTo pos (starEach es X.env)).any (·.1)=false):PE X (.Call (.Name x p) (e::es) [] pos) (LE X.K Ξ (aX P (.make x f fU))) :=
 (PJ M F.1 hr hg hm F.2.1 .nil hx ha hd dP gb).imp λbY H Q bq=>by
  obtain⟨Z,g,ρ,s,R,h⟩:=bq;exact iJ hP s R (.refl _ _) h λxs g1 bT H1 vs e1 R1 r1 h=>Hq hP F hC hc e1 R1 r1 h
theorem Zj{k f:Nat}{x:Str}{C fa:Addr}{fd:FuncData}{ps:List Str}{p:Pos}(hx:Passes (ig X.prog X.w) X Ξ.2)(F:nO X P Ξ.1 k f fa fd ps)(M:Mk X.K C fa)(hC:s9 X.K x C)(hc:iU X.K C)(hr:w9 (k+1) X.A)(hg:Gl X x)(hm:X.mg x=some (.ref C))(hd:(x==("__debug__":Str))=false):PE X (.Call (.Name x p) [] [] pos) (LE X.K Ξ (aX P (.make x f .nil))) :=
 (YL M F.1 hr hg hm F.2.1 .nil hx hd).imp λbY H Q bq=>by
  obtain⟨Z,g,ρ,s,R,h⟩:=bq;exact Hq hP F hC hc (.refl _ _) R .nil h
end
end M

namespace M
open PySem L2 PySem.Spec PyProof.Rows
inductive jl(K:PySem.W.Frag)(ρ:List Addr)(H:Hp):List D->List (V×V)->Prop
 |nil:jl K ρ H [] []
 |cons {k d:D} {x y:V} {ds:List D} {ps:List (V×V)} (h1:d5 K ρ H k x) (h2:d5 K ρ H d y) (r:jl K ρ H ds ps):jl K ρ H (k::d::ds) ((x,y)::ps)
theorem Vl{K ρ H}{xs:List D}{ps:List (V×V)}(r:jl K ρ H xs ps):∀{acc kvs:List (Key×D)} {accV:List (Key×V)},uz xs acc=some kvs->i6 K ρ H acc accV->∃more:List (Key×V),ps=more.map (λkv=>(kV kv.1,kv.2))/\2*more.length=xs.length/\i6 K ρ H kvs (T3 accV more):=by
 induction r with
 |nil =>
  intro acc kvs accV h ra;cases h;exact⟨[],rfl,rfl,ra⟩
 |cons h1 h2 r ih =>
  rename_i k d x y ds ps;intro acc kvs accV h ra;simp only[uz] at h;cases hk:W7 k with
  |none=>rw[hk] at h;cases h
  |some c =>
   rw[hk] at h;obtain⟨more,e1,e2,r2⟩:=ih (show uz ds (putD acc c d)=some kvs from h) (ra.put h2);have ex:=Y1 hk h1;subst ex;refine⟨(c,y)::more,by rw[bz,<- e1],by simp only[List.length_cons];omega,r2⟩
section
variable{X:Cx}{Ξ:gn}{P:fm}(hP:i0 P){pos:Pos}
inductive kr(X:Cx)(Ξ:gn)(P:fm):List (Option Expr)->List Expr->ME->List (TE×TE)->Prop
 |nil:kr X Ξ P [] [] .nil []
 |cons {k v:Expr} {ks:List (Option Expr)} {vs:List Expr} {mk mv ms:ME} {gB:List (TE×TE)} (hk:PE X k (LE X.K Ξ (aX P mk))) (hv:PE X v (LE X.K Ξ (aX P mv))) (r:kr X Ξ P ks vs ms gB) :
   kr X Ξ P (some k::ks) (v::vs) (.cons mk (.cons mv ms)) ((LE X.K Ξ (aX P mk),LE X.K Ξ (aX P mv))::gB)
theorem kr.Ju{ks vs ms gB}(h:kr X Ξ P ks vs ms gB):uI X pos ks vs gB:=by
 induction h with
 |nil=>exact PQ
 |cons hk hv r ih=>exact YS hk hv ih
theorem kr.len{ks vs ms gB}(h:kr X Ξ P ks vs ms gB):ks.all (·.isSome)=true/\ks.length=vs.length:=by
 induction h with
 |nil=>exact⟨rfl,rfl⟩
 |cons hk hv r ih=>exact⟨by simpa using ih.1,by simp[ih.2]⟩
include hP
theorem kr.pairs{ks vs ms gB}(hd:kr X Ξ P ks vs ms gB):∀{bY:L2.St} {Z:S} {g:G} {ρ fJ:List Addr} {H H0:Hp} {Qd:List D->G->Prop} {Q:List (V×V)->Hp->Prop},n9 X.K ρ H Z bY->Rl X.K ρ g H->Ext fJ H0 ρ H->fC P ms Z g Qd (LX X.K fJ H0 Ξ) ->
  (∀ds g' bI H' ps,Ext ρ H bI H'->Rl X.K bI g' H'->jl X.K bI H' ds ps->Qd ds g'->Q ps H')->wj gB bY H Q:=by
 induction hd with
 |nil =>
  intro bY Z g ρ fJ H H0 Qd Q s R e0 h k;exact k [] g ρ H [] (.refl _ _) R .nil h
 |cons hk hv r ih =>
  intro bY Z g ρ fJ H H0 Qd Q s R e0 h k;refine fh hP s R e0 h λx g1 bT H1 v1 e1 R1 r1 h=>fh hP (s.ext e1) R1 (e0.trans e1) h λy g2 eT H2 v2 e2 R2 r2 h=>?_;refine ih (s.ext (e1.trans e2)) R2 (e0.trans (e1.trans e2)) h λds g' bI H' ps e' R' rp hq=>?_;exact k _ g' bI H' _ (e1.trans (e2.trans e')) R' (.cons (r1.ext (e2.trans e')) (r2.ext e') rp) hq
theorem NN{ks:List (Option Expr)}{vs:List Expr}{ms:ME}{gB:List (TE×TE)}(hd:kr X Ξ P ks vs ms gB)(h0:ks≠[])(nt:ks.length<=15):PE X (.Dict ks vs pos) (LE X.K Ξ (aX P (.nE ms))) :=
 (PD hd.Ju hd.len.1 hd.len.2 h0 nt).imp λbY H Q ⟨Z,g,ρ,s,R,h⟩ p hp=>by
  have e1:Ext ρ H (ρ++[p]) (upd H p (.dK [])):=M9 hp;refine kr.pairs hP hd (s.ext e1) (R.new hp (o:=.ei []) (u:=.dK []) i6.nil) e1 h λds g2 eT H2 ps e2 R2 rp hq=>?_;obtain⟨kvs,hk,hz,hg,q⟩:=hq;have sv:eT[g.length]?=some p:=e2.get (R.C7 p);obtain⟨vs',hv,rv⟩:=R2.ei hg sv;cases rv;obtain⟨more,em,hl,rk⟩:=Vl rp hk (accV:=[]) .nil;refine⟨hv,more,em,by omega,?_⟩;obtain⟨R3,e3⟩:=R2.put (o':=.ei kvs) (u:=.dK (T3 [] more)) hg rfl sv rk;exact q eT _ _ (e1.trans (e2.trans e3)) R3 (.ref sv)
end
end M

namespace M
open PySem L2 PySem.Spec PyProof.Rows
theorem TJ{K:PySem.W.Frag}{fJ:List Addr}{H0:Hp}{a:Addr}{l:List D}{vs:List V}(ht:TupAt K H0 a vs)(rs:c7 K fJ H0 l vs):X2 K fJ H0 (.fix l) (Ca K a):=by
 intro ρ g H e R i;have ow:=ht.ext e;have mR:=rs.ext e;refine⟨λh=>⟨vs,ow.sq,?_⟩,λd h=>?_⟩
 ·simp only[IK.at] at h;have:=cX.mp (aQ h);rw[<- mR.length];exact this
 ·simp only[IK.at] at h;obtain⟨v,hv,rv⟩:=mR.get (aQ h);refine⟨⟨vs,v,ow.sq,hv⟩,λw H' y=>?_⟩;obtain⟨rfl,y⟩:=y;have:=y vs ow.sq;rw[hv] at this;cases this;exact⟨.refl _ _,R,rv⟩
theorem TC{K:PySem.W.Frag}{fJ:List Addr}{H0:Hp}{a:Addr}{j:Nat}(ha:fJ[j]?=some a):X2 K fJ H0 (.lst j) (Cb K a):=by
 intro ρ g H e R i;have jX:=e.get ha;refine⟨λh=>?_,λd h=>?_⟩
 ·simp only[IK.at] at h;cases el:d0 g j with
  |none=>rw[el] at h;cases h
  |some l =>
   rw[el] at h;obtain⟨vs,hq,rs⟩:=R.items el jX;refine⟨vs,hq,?_⟩;have:=cX.mp (aQ h);rw[<- rs.length];exact this
 ·simp only[IK.at] at h;cases el:d0 g j with
  |none=>rw[el] at h;cases h
  |some l =>
   rw[el] at h;obtain⟨vs,hq,rs⟩:=R.items el jX;obtain⟨v,hv,rv⟩:=rs.get (aQ h);refine⟨⟨vs,v,hq,hv⟩,λw H' y=>?_⟩;obtain⟨rfl,y⟩:=y;have:=y vs hq;rw[hv] at this;cases this;exact⟨.refl _ _,R,rv⟩
theorem EN{K:PySem.W.Frag}{fJ:List Addr}{H0:Hp}{lo:Int}{n:Nat}:X2 K fJ H0 (.fix (i3 lo n)) (uL lo n):=by
 unfold i3;intro ρ g H e R i;refine⟨λh=>?_,λd h=>?_⟩
 ·simp only[IK.at] at h;have:=cX.mp (aQ h);show n<=i;simpa using this
 ·simp only[IK.at] at h;have h:=aQ h;have hi:i<n:=by
   have:=(ak.mp h).1;simpa using this
  rw[ag,bC hi] at h;cases h;refine⟨hi,λw H' y=>?_⟩;obtain⟨rfl,rfl⟩:=y;exact⟨.refl _ _,R,.int _⟩
theorem TH{K:PySem.W.Frag}{fJ:List Addr}{H0:Hp}{a:Addr}{j n:Nat}(ha:fJ[j]?=some a):X2 K fJ H0 (.pX j n) (BZ K a n):=by
 intro ρ g H e R i;have jX:=e.get ha;refine⟨λh=>?_,λd h=>?_⟩
 ·simp only[IK.at] at h;cases el:d0 g j with
  |none=>rw[el] at h;cases h
  |some l =>
   rw[el] at h;dsimp only at h;by_cases hl:l.length=n
   ·rw[aK hl] at h;have h:=aQ h;by_cases hi:i<n
    ·rw[aK hi] at h;have:=cX.mp h;omega
    ·exact Nat.le_of_not_lt hi
   ·rw[aC hl] at h;cases h
 ·simp only[IK.at] at h;cases el:d0 g j with
  |none=>rw[el] at h;cases h
  |some l =>
   rw[el] at h;dsimp only at h;by_cases hl:l.length=n
   ·rw[aK hl] at h;have h:=aQ h;by_cases hi:i<n
    ·rw[aK hi] at h;obtain⟨vs,hq,rs⟩:=R.items el jX;obtain⟨v,hv,rv⟩:=rs.get h;refine⟨⟨vs,v,hq,by rw[<- rs.length];exact hl,hi,hv⟩,λw H' y=>?_⟩;obtain⟨rfl,y⟩:=y;have:=y vs hq;rw[hv] at this;cases this;exact⟨.refl _ _,R,rv⟩
    ·rw[aC hi] at h;cases h
   ·rw[aC hl] at h;cases h
theorem TB{K:PySem.W.Frag}{fJ:List Addr}{H0:Hp}{a:Addr}{j:Nat}(ha:fJ[j]?=some a):X2 K fJ H0 (.mr j) (Cc K a):=by
 intro ρ g H e R i;have jX:=e.get ha;refine⟨λh=>?_,λd h=>?_⟩
 ·simp only[IK.at] at h;cases el:d0 g j with
  |none=>rw[el] at h;cases h
  |some l =>
   rw[el] at h;obtain⟨vs,hq,rs⟩:=R.items el jX;refine⟨vs,hq,?_⟩;have h:=aQ h;rw[Option.map_eq_none_iff] at h;have:=cX.mp h;rw[<- rs.length];exact this
 ·simp only[IK.at] at h;cases el:d0 g j with
  |none=>rw[el] at h;cases h
  |some l =>
   rw[el] at h;obtain⟨vs,hq,rs⟩:=R.items el jX;have h:=aQ h;rw[aa] at h;obtain⟨d',hd,rfl⟩:=h;obtain⟨v,hv,rv⟩:=rs.get hd;refine⟨⟨vs,v,hq,hv⟩,λw H' y=>?_⟩;obtain⟨p,x,hp,rfl,y,rfl⟩:=y;have:=y vs hq;rw[hv] at this;cases this;exact⟨A9 hp,R.grow hp,.tup (.inl u3) (.cons (.int _) (.cons (rv.ext (A9 hp)) .nil))⟩
end M
namespace L2
open PySem PySem.Spec PyProof.Rows
theorem Nu{X:Cx}{tg l:Expr}{tl:TE}(hl:PE X l tl):PI X tg l (λZ H R=>tl Z H λx H1=>(∃a,x=.ref a/\(∃xs,fo X.K H1 a xs)/\R (Cb X.K a) H1)\/(∃a,x=.ref a/\(∃xs,gF X.K H1 a xs)/\R (Ca X.K a) H1)):=by
 intro pins s Z H R I h;refine cF (hl pins s Z H _ I h) λv s1 bq=>?_;obtain⟨x,H1,I1,r1,q1⟩:=bq;rcases q1 with⟨a,e,⟨xs,hq⟩,q⟩|⟨a,e,⟨xs,hq⟩,q⟩
 ·subst e;cases r1;obtain⟨aW,rv,p,hz⟩:=I1.list hq;refine wpAny_pyIter_list p.isList ?_;refine⟨s1.heap.objs.size,[s1.heap.objs.size],_,_,H1,rfl,I1.kept (t':=s1.toks) λb o e=>au _ e,WL a _,⟨_,aH _ rfl,rfl,rfl⟩,λb hb=>?_,q⟩;have e:b=s1.heap.objs.size:=by simpa using hb
  subst e;exact I1.nH (aw _) (I1.bR.fresh (aw _))
 ·subst e;cases r1;obtain⟨aW,rv,p,hz⟩:=I1.tuple hq;refine wpAny_pyIter_tuple (show s1.heap.IsTuple a aW.toArray from p) ?_;refine⟨s1.heap.objs.size,[s1.heap.objs.size],_,_,H1,rfl,I1.kept (t':=s1.toks) λb o e=>au _ e,XE a _,⟨_,aH _ rfl,rfl,rfl⟩,λb hb=>?_,q⟩;have e:b=s1.heap.objs.size:=by simpa using hb
  subst e;exact I1.nH (aw _) (I1.bR.fresh (aw _))
end L2
namespace M
open PySem L2 PySem.Spec PyProof.Rows
section
variable{X:Cx}{Ξ:gn}{P:fm}(hP:i0 P){a b c tg:Expr}{ma mb mc:ME}{pos p:Pos}
include hP
theorem NX(ha:PE X a (LE X.K Ξ (aX P ma))):PI X tg a (LI X.K Ξ (fZ P (.eK ma))) :=
 (Nu ha).imp λbY H R bq=>by
  obtain⟨Z,g,ρ,s,Rr,h⟩:=bq;refine fh hP s Rr (.refl _ _) h λx g1 bT H1 v1 e1 R1 r1 h=>?_;rcases h with⟨l,rfl,h⟩|⟨i,l,rfl,hl,h⟩
  ·obtain⟨a',vs,rfl,ht,rs⟩:=r1.J7;exact .inr ⟨_,rfl,⟨_,ht.sq⟩,h bT H1 _ e1 R1 (TJ ht rs)⟩
  ·obtain⟨a',rfl,jX⟩:=r1.j5;obtain⟨vs,hq,rs⟩:=R1.items hl jX;exact .inl ⟨_,rfl,⟨_,hq⟩,h bT H1 _ e1 R1 (TC jX)⟩
theorem Qr{elts:List Expr}{x1:Nat}{tp:Pos}(ha:PE X a (LE X.K Ξ (aX P ma)))(hg:Gl X "enumerate")(hm:X.mg "enumerate"=none)(hs:starEach [a] X.env=[(false,eval a X.env)]):PI X (.Tuple elts x1 tp) (.Call (.Name "enumerate" p) [a] [] pos) (LI X.K Ξ (fZ P (.jy ma))) :=
 (PN hg hm (B1 hP ha (J8 hP) (by rw[hs];rfl)) hs).imp λbY H R bq=>by
  obtain⟨Z,g,ρ,s,Rr,h⟩:=bq;refine iJ hP (m:=.cons ma .nil) s Rr (.refl _ _) (Q0:=λxs g1=>∃a l,xs=[.ref a]/\d0 g1 a=some l/\∀bI H' J,Ext ρ H bI H'->Rl X.K bI g1 H'->X2 X.K bI H' (.mr a) J->R J H') ?_ λxs g1 bT H1 vs e1 R1 r1 h=>?_
  ·skip
   exact c5 hP ma _ _ _ _ _ _ (λx g1 ⟨i,l,e,hl,h⟩=>⟨i,l,by rw[e],hl,h⟩) (λ_ _ z=>z) h
  ·obtain⟨j,l,rfl,hl,h⟩:=h;obtain⟨v,rfl,rv⟩:=r1.one;obtain⟨a',rfl,ra⟩:=rv.j5;obtain⟨vs,hq,rs⟩:=R1.items hl ra;exact⟨_,rfl,⟨_,hq⟩,h bT H1 _ e1 R1 (TB ra)⟩
theorem NW(ha:PE X a (LE X.K Ξ (aX P ma)))(hg:Gl X "reversed")(hm:X.mg "reversed"=none)(hs:starEach [a] X.env=[(false,eval a X.env)]):PI X tg (.Call (.Name "reversed" p) [a] [] pos) (LI X.K Ξ (fZ P (.lG ma))) :=
 (Nt hg hm (B1 hP ha (J8 hP) (by rw[hs];rfl)) hs).imp λbY H R bq=>by
  obtain⟨Z,g,ρ,s,Rr,h⟩:=bq;refine iJ hP (m:=.cons ma .nil) s Rr (.refl _ _) (Q0:=λxs g1=>∃a l,xs=[.ref a]/\d0 g1 a=some l/\∀bI H' J,Ext ρ H bI H'->Rl X.K bI g1 H'->X2 X.K bI H' (.pX a l.length) J->R J H') ?_ λxs g1 bT H1 vs e1 R1 r1 h=>?_
  ·skip
   exact c5 hP ma _ _ _ _ _ _ (λx g1 ⟨i,l,e,hl,h⟩=>⟨i,l,by rw[e],hl,h⟩) (λ_ _ z=>z) h
  ·obtain⟨j,l,rfl,hl,h⟩:=h;obtain⟨v,rfl,rv⟩:=r1.one;obtain⟨a',rfl,ra⟩:=rv.j5;obtain⟨vs,hq,rs⟩:=R1.items hl ra;exact⟨_,vs,rfl,hq,h bT H1 _ e1 R1 (by rw[rs.length];exact TH ra)⟩
theorem Qs(ha:PE X a (LE X.K Ξ (aX P ma)))(hg:Gl X "range")(hm:X.mg "range"=none)(hs:starEach [a] X.env=[(false,eval a X.env)]):PI X tg (.Call (.Name "range" p) [a] [] pos) (LI X.K Ξ (fZ P (.dX ma))) :=
 (Wr hg hm (B1 hP ha (J8 hP) (by rw[hs];rfl)) hs).imp λbY H R bq=>by
  obtain⟨Z,g,ρ,s,Rr,h⟩:=bq;refine iJ hP (m:=.cons ma .nil) s Rr (.refl _ _) (Q0:=λxs g1=>∃j:Int,xs=[.int j]/\-(2 ^ 62)<=j/\j<2 ^ 62/\∀bI H' J,Ext ρ H bI H'->Rl X.K bI g1 H'->X2 X.K bI H' (.fix (i3 0 j.toNat)) J->R J H') ?_ λxs g1 bT H1 vs e1 R1 r1 h=>?_
  ·skip
   exact c5 hP ma _ _ _ _ _ _ (λx g1 ⟨j,e,h1,h2,h⟩=>⟨j,by rw[e],h1,h2,h⟩) (λ_ _ z=>z) h
  ·obtain⟨j,rfl,h1,h2,h⟩:=h;obtain⟨v,rfl,rv⟩:=r1.one;obtain rfl:=rv.i4;exact⟨_,rfl,h1,h2,h bT H1 _ e1 R1 EN⟩
theorem Qt(ha:PE X a (LE X.K Ξ (aX P ma)))(hb:PE X b (LE X.K Ξ (aX P mb)))(hg:Gl X "range")(hm:X.mg "range"=none)(hs:starEach [a,b] X.env=[(false,eval a X.env),(false,eval b X.env)])(ia:starEach [b] X.env=[(false,eval b X.env)]) :
  PI X tg (.Call (.Name "range" p) [a,b] [] pos) (LI X.K Ξ (fZ P (.jf ma mb))) :=
 (Ws hg hm (B1 hP ha (B1 hP hb (J8 hP) (by rw[ia];rfl)) (by rw[hs,ia])) hs ia).imp λbY H R bq=>by
  obtain⟨Z,g,ρ,s,Rr,h⟩:=bq;refine iJ hP (m:=.cons ma (.cons mb .nil)) s Rr (.refl _ _) (Q0:=λxs g1=>∃i j:Int,xs=[.int i,.int j]/\(-(2 ^ 62)<=i/\i<2 ^ 62/\-(2 ^ 62)<=j/\j<2 ^ 62)/\∀bI H' J,Ext ρ H bI H'->Rl X.K bI g1 H'->X2 X.K bI H' (.fix (i3 i (j-i).toNat)) J->R J H') ?_ λxs g1 bT H1 vs e1 R1 r1 h=>?_
  ·skip
   exact c5 hP ma _ _ _ _ _ _ (λx g1 h=>c5 hP mb _ _ _ _ _ _ (λy g2 ⟨i,j,e,e',h1,h⟩=>⟨i,j,by rw[e,e'],h1,h⟩) (λ_ _ z=>z) h) (λ_ _ z=>z) h
  ·obtain⟨i,j,rfl,h1,h⟩:=h;obtain⟨v,w,rfl,rv,fq⟩:=r1.two;obtain rfl:=rv.i4;obtain rfl:=fq.i4;exact⟨_,_,rfl,h1,h bT H1 _ e1 R1 EN⟩
end
section
variable{X:Cx}{pos:Pos}
theorem NV{i:Nat}{x:Str}(hN:X.N.Nodup)(hi:X.N[i]?=some x)(hx:Loc X.env.scope x)(hf:X.fn x=true\/X.env.scope.names.lookup x=some .local):PG X (.Name x pos) (LG X.K (.one i)) :=
 (Hv hN hi hx hf).imp λv bY H Q hq=>by
  obtain⟨d,Z,g,ρ,s,R,r,h⟩:=hq;exact h _ (s.set i r)
inductive fB(X:Cx):List Expr->List Nat->Prop
 |nil:fB X [] []
 |cons {x:Str} {p:Pos} {i:Nat} {es:List Expr} {is:List Nat} (hi:X.N[i]?=some x) (hx:Loc X.env.scope x) (hf:X.fn x=true\/X.env.scope.names.lookup x=some .local) (r:fB X es is):fB X (.Name x p::es) (i::is)
def BC:List Nat->nL
 |[]=>Fj
 |i::is=>EK (qL i) (BC is)
theorem Wq(hN:X.N.Nodup){es:List Expr}{is:List Nat}(h:fB X es is):uJ X es (BC is):=by
 induction h with
 |nil=>exact PL
 |cons hi hx hf r ih=>exact YO (Hv hN hi hx hf) ih rfl
theorem AN:∀{es:List Expr} {is:List Nat},fB X es is->(assignEach es X.env).length=is.length/\(assignEach es X.env).findIdx? (·.1)=none
 |_,_,.nil=>⟨rfl,rfl⟩
 |_,_,.cons (x:=x) (p:=p) (es:=es) hi hx hf r=>by
  obtain⟨h1,h2⟩:=AN r;have e:assignEach (.Name x p::es) X.env=(false,assign (.Name x p) X.env)::assignEach es X.env:=rfl;rw[e];refine⟨by simp[h1],?_⟩;rw[List.findIdx?_cons,h2]
  rfl
theorem Fw{K:PySem.W.Frag}{ρ:List Addr}{H:Hp}{k:S->Prop}{Q:L2.St->Hp->Prop}:∀{is:List Nat} {l:List D} {vs:List V} {Z bU:S} {bY:L2.St},E4 is l Z=some bU->c7 K ρ H l vs->n9 K ρ H Z bY->(∀dc,n9 K ρ H bU dc->Q dc H)->BC is vs bY H Q
 |[],_,_,_,_,_,h,.nil,s,q=>by
  simp only[E4] at h;cases h;exact⟨rfl,q _ s⟩
 |[],_,_,_,_,_,h,.cons _ _,s,q=>by simp only[E4] at h;cases h
 |i::is,_,_,_,_,_,h,.nil,s,q=>by simp only[E4] at h;cases h
 |i::is,_,_,_,_,_,h,.cons r rr,s,q=>by
  simp only[E4] at h;exact⟨_,_,rfl,Fw (k:=k) h rr (s.set i r) q⟩
theorem Z6:∀{is:List Nat} {l:List D} {Z bU:S},E4 is l Z=some bU->l.length=is.length
 |[],[],_,_,_=>rfl
 |[],_::_,_,_,h=>by simp only[E4] at h;cases h
 |_::_,[],_,_,h=>by simp only[E4] at h;cases h
 |_::is,_::l,_,_,h=>by simp only[E4] at h;simp[Z6 h]
theorem HF{es:List Expr}{is:List Nat}{k:Nat}(hc:X.calm=true)(hN:X.N.Nodup)(hs:fB X es is):PG X (.Tuple es k pos) (LG X.K (.many is)) :=
 (Nr hc (Wq hN hs) (AN hs).1 (AN hs).2).imp λv bY H Q bq=>by
  obtain⟨d,Z,g,ρ,s,R,r,h⟩:=bq;obtain⟨l,bU,rfl,e,h⟩:=h;obtain⟨a',vs,rfl,ht,rs⟩:=r.J7;exact⟨_,_,rfl,ht.sq,by rw[<- rs.length];exact Z6 e,Fw (k:=λ_=>True) e rs s h⟩
end
theorem LN.ext{K ρ H N bT H1}(e:Ext ρ H bT H1):(LN K ρ H N).le (LN K bT H1 N) :=
 ⟨λZ g h bI H' dc e' R s=>h bI H' dc (e.trans e') R s,λd g h=>h.ext e,λZ g h bI H' dc e' R s=>h bI H' dc (e.trans e') R s,λZ g h bI H' dc e' R s=>h bI H' dc (e.trans e') R s⟩
section
variable{X:Cx}{Ξ:gn}{P:fm}(hP:i0 P){a b c tg:Expr}{ma mb mc:ME}{st:Stmt}{rest:List Stmt}{xK kE:MS}{pos p:Pos}
include hP
theorem GX:ic X [] (LS X.K Ξ (wpS P .pass)) :=
 (PZ (X:=X)).imp λN bY H ⟨Z,g,ρ,s,R,h⟩=>h ρ H bY (.refl _ _) R s
theorem HI(h1:PS X st (LS X.K Ξ (wpS P xK)))(h2:ic X rest (LS X.K Ξ (wpS P kE))):ic X (st::rest) (LS X.K Ξ (wpS P (.seq xK kE))) :=
 (YV h1 h2).imp λN bY H ⟨Z,g,ρ,s,R,h⟩ =>
  pT hP s R (.refl _ _) (show wpS P xK { LN X.K ρ H N with nx:=λgM g1=>wpS P kE (LN X.K ρ H N) gM g1 (LX X.K ρ H Ξ) } Z g (LX X.K ρ H Ξ) from h) ⟨λgM g1 h bT H1 IQ e1 R1 s1=>pT hP s1 R1 e1 h (LN.ext e1),λ_ _ z=>z,λ_ _ z=>z,λ_ _ z=>z⟩
theorem Qz(ha:PE X a (LE X.K Ξ (aX P ma)))(hs:swapsWith a none pos.line X.env=pure false):PS X (.Expr a pos) (LS X.K Ξ (wpS P (.expr ma))) :=
 (PU ha hs).imp λN bY H ⟨Z,g,ρ,s,R,h⟩=>fh hP s R (.refl _ _) h λx g1 bT H1 v1 e1 R1 r1 h=>h bT H1 bY e1 R1 (s.ext e1)
theorem Ha{i:Nat}{x:Str}{p:Pos}(h0:PS X (.Assign [.Name x p] a pos) (uD (LE X.K Ξ (aX P ma)) (qL i))):PS X (.Assign [.Name x p] a pos) (LS X.K Ξ (wpS P (.set i ma))) :=
 h0.imp λN bY H ⟨Z,g,ρ,s,R,h⟩=>fh hP s R (.refl _ _) h λx g1 bT H1 v1 e1 R1 r1 h=>h bT H1 _ e1 R1 ((s.ext e1).set i r1)
theorem Om{t:MT}(h0:PS X (.Assign [tg] a pos) (uD (LE X.K Ξ (aX P ma)) (LG X.K t))):PS X (.Assign [tg] a pos) (LS X.K Ξ (wpS P (.jG t ma))) :=
 h0.imp λN bY H ⟨Z,g,ρ,s,R,h⟩=>fh hP s R (.refl _ _) h λx g1 bT H1 v1 e1 R1 r1 h=>⟨x,Z,g1,bT,s.ext e1,R1,r1,x6 (λbU h dc s'=>h bT H1 dc e1 R1 s') h⟩
theorem Zs(hu:X.A.units+100<cLine){o i:Expr}{mo mi:ME}{tp:Pos}(ha:PE X a (LE X.K Ξ (aX P ma)))(ho:PE X o (LE X.K Ξ (aX P mo)))(hi:PE X i (LE X.K Ξ (aX P mi)))(hs:swapsWithSole [.Subscript o i tp] a pos.line X.env=pure false)(jX:∀ v,assign (.Subscript o i tp) X.env v=(do
   let ov <- holding [v] (eval o X.env)
   let iv <- holding [v,ov] (eval i X.env)
   standAt tp
   holding [v,ov,iv] (setItem ov iv v)
   release [v,ov,iv] [])):PS X (.Assign [.Subscript o i tp] a pos) (LS X.K Ξ (wpS P (.eI mo mi ma))) :=
 (GR ha (Nq ho hi (NU hu) jX) hs).imp λN bY H ⟨Z,g,ρ,s,R,h⟩ =>
  fh hP s R (.refl _ _) h λx g1 bT H1 v1 e1 R1 r1 h=>fh hP (s.ext e1) R1 e1 h λy g2 eT H2 v2 e2 R2 r2 h=>fh hP (s.ext (e1.trans e2)) R2 (e1.trans e2) h λz g3 ij H3 v3 e3 R3 r3 h =>
   ⟨y,z,x,g3,ij,R3,r2.ext e3,r3,r1.ext (e2.trans e3),U4 (λg4 h nP H4 e4 R4=>h nP H4 bY (e1.trans (e2.trans (e3.trans e4))) R4 (s.ext (e1.trans (e2.trans (e3.trans e4))))) h⟩
omit hP in
def Bu(K:PySem.W.Frag)(f:Str)(cs:List Str):Prop:=∀c C,c∈cs->s9 K c C->B8 K C f
omit hP in
theorem Qq{f:Str}{cs:List Str}(hF:Bu X.K f cs){ρ:List Addr}{H:Hp}{g g':G}{x v:D}{xv vv:V}(R:Rl X.K ρ g H)(rx:d5 X.K ρ H x xv)(rv:d5 X.K ρ H v vv)(h:EX f cs x v g g') :
  ∃a C dx fs,xv=.ref a/\H a=some (.ins C dx fs)/\iU X.K C/\B8 X.K C f/\fs.length<1000/\Rl X.K ρ g' (upd H a (.ins C dx (A7 f vv fs)))/\Ext ρ H ρ (upd H a (.ins C dx (A7 f vv fs))):=by
 obtain⟨i,c,fs,rfl,hi,hc,hz,rfl⟩:=h;obtain⟨a',rfl,ra⟩:=rx.j5;obtain⟨C,dx,vs,hH,hC,iT,rk,na⟩:=R.ins hi ra;obtain⟨R',e'⟩:=R.put (o':=.ins c (j9 f v fs)) (u:=.ins C dx (A7 f vv vs)) hi rfl ra ⟨hC,iT,rk.A7 rv,Gf (p:=λy=>B8 X.K C y) (hF c C hc hC) na⟩;exact⟨a',C,dx,vs,rfl,hH,iT,hF c C hc hC,by rw[<- rk.length];omega,R',e'⟩
theorem QA{f:Str}{cs:List Str}{o:Expr}{mo:ME}{tp:Pos}(hF:Bu X.K f cs)(ho:PE X o (LE X.K Ξ (aX P mo)))(ha:PE X a (LE X.K Ξ (aX P ma)))(hs:swapsWith a (some (.Attribute o f tp)) pos.line X.env=pure false):PS X (.Assign [.Attribute o f tp] a pos) (LS X.K Ξ (wpS P (.gp f cs mo ma))) :=
 (Nw ho ha hs).imp λN bY H ⟨Z,g,ρ,s,R,h⟩=>fh hP s R (.refl _ _) h λx g1 bT H1 v1 e1 R1 r1 h=>fh hP (s.ext e1) R1 e1 h λy g2 eT H2 v2 e2 R2 r2 h=>by
  obtain⟨g3,h,q⟩:=h;obtain⟨a',C,dx,fs,hx,hH,iT,na,hz,R3,e3⟩:=Qq hF R2 r2 (r1.ext e2) h;exact⟨a',C,dx,fs,hx,hH,iT,na,hz,q eT _ bY (e1.trans (e2.trans e3)) R3 (s.ext (e1.trans (e2.trans e3)))⟩
theorem Qy{i:Nat}{x:Str}{tp:Pos}{op:Operator}{p:Pr}(JW:(op=.Add/\p=.iadd)\/(op=.Sub/\p=.kH))(hN:X.N.Nodup)(hi:X.N[i]?=some x)(hx:Loc X.env.scope x)(hf:X.fn x=true\/X.env.scope.names.lookup x=some .local)(ha:PE X a (LE X.K Ξ (aX P ma))):PS X (.AugAssign (.Name x tp) op a pos) (LS X.K Ξ (wpS P (.jk i p ma))):=by
 have ho:ID X op (r2 X.K p):=by
  intro pins s Z H x y v u Q I rx ry h;obtain⟨d,e,g,ρ,R,rd,re,d',g',hr,q⟩:=h;rcases JW with⟨rfl,rfl⟩|⟨rfl,rfl⟩
  ·rcases hr with⟨i,j,ex,rfl,rfl⟩|⟨l,m,ex,hz,rfl,rfl⟩
   ·obtain⟨rfl,rfl⟩:=A3 ex;obtain rfl:=rd.i4;obtain rfl:=re.i4;exact OY pins s Z H _ _ v u Q I rx ry ⟨i,j,rfl,rfl,q.now R (.int _)⟩
   ·obtain⟨rfl,rfl⟩:=A3 ex;obtain⟨p1,IX,rfl,t1,uV⟩:=rd.J7;obtain⟨p2,xq,rfl,t2,pY⟩:=re.J7;refine OX pins s Z H _ _ v u Q I rx ry (.inr ⟨p1,p2,IX,xq,rfl,rfl,t1.sq,t2.sq,by rw[<- uV.length,<- pY.length];exact m9 hz,λz=>?_,λz=>?_,λp hp=>q.tup R hp (uV.append pY)⟩)
    ·subst z;cases uV;exact q.now R (.tup t2 pY)
    ·subst z;cases pY;rw[eX] at q;exact q.now R (.tup t1 uV)
  ·obtain⟨i,j,ex,rfl,rfl⟩:=hr;obtain⟨rfl,rfl⟩:=A3 ex;obtain rfl:=rd.i4;obtain rfl:=re.i4;exact OZ pins s Z H _ _ v u Q I rx ry ⟨i,j,rfl,rfl,q.now R (.int _)⟩
 refine(Nv hN hi hx ha ho hf).imp λN bY H bq=>?_;obtain⟨Z,g,ρ,s,R,h⟩:=bq;obtain⟨xd,JO,h⟩:=h;obtain⟨xv,hv,rx⟩:=s.val _ _ JO;refine⟨xv,hv,fh hP s R (.refl _ _) h λz g1 bT H1 v1 e1 R1 r1 h=>?_⟩;refine⟨xd,z,g1,bT,R1,rx.ext e1,r1,u4 (λw g2 q=>?_) h⟩;exact λeT H2 v2 e2 R2 r2=>q eT H2 _ (e1.trans e2) R2 ((s.ext (e1.trans e2)).set i r2)
theorem UH{sa sb:List Stmt}{CO msb:MS}(hc:PT X c (LT X.K Ξ (cW P mc)))(ha:ic X sa (LS X.K Ξ (wpS P CO)))(hb:ic X sb (LS X.K Ξ (wpS P msb))):PS X (.If c sa sb pos) (LS X.K Ξ (wpS P (.ifs mc CO msb))) :=
 (Ur hc ha hb).imp λN bY H ⟨Z,g,ρ,s,R,h⟩=>mL hP s R (.refl _ _) h λt g1 bT H1 e1 R1 h=>by
  cases t
  ·exact pT hP (s.ext e1) R1 e1 h (LN.ext e1)
  ·exact pT hP (s.ext e1) R1 e1 h (LN.ext e1)
theorem GZ(ha:PE X a (LE X.K Ξ (aX P ma))):PS X (.Return (some a) pos) (LS X.K Ξ (wpS P (.ret ma))) :=
 (Nz ha).imp λN bY H ⟨Z,g,ρ,s,R,h⟩=>⟨Z,g,ρ,s,R,h⟩
theorem Zt{body:List Stmt}{mb:MS}(hp:PassesOwn (model X.prog X.w) X.A X.env X.xe)(hc:PT X c (LT X.K Ξ (cW P mc)))(hb:ic X body (LS X.K Ξ (wpS P mb))):PS X (.While c body [] pos) (LS X.K Ξ (wpS P (.iW mc mb))) :=
 (YU hp hc hb).imp λN bY H bq=>by
  obtain⟨Z,g,ρ,s,R,h⟩:=bq;obtain⟨W,⟨m0,w0⟩,h⟩:=h;refine⟨λm dc H'=>∃bU g' bI,Ext ρ H bI H'/\n9 X.K bI H' bU dc/\Rl X.K bI g' H'/\W m bU g',⟨m0,Z,g,ρ,.refl _ _,s,R,w0⟩,?_⟩;rintro m dc H' ⟨bU,g',bI,e1,s',R',w'⟩;refine mL hP s' R' e1 (h m bU g' w') λt g1 bT H1 e2 R1 q=>?_;cases t
  ·exact q bT H1 dc (e1.trans e2) R1 (s'.ext e2)
  ·obtain⟨N2,yN,q⟩:=q;refine⟨λiV H2=>∃cC g2 eT,Ext ρ H eT H2/\n9 X.K eT H2 cC iV/\Rl X.K eT g2 H2/\N2 cC g2,?_,?_⟩
   ·rintro iV H2 ⟨cC,g2,eT,e3,s2,R2,n2⟩;obtain⟨m',hm,w2⟩:=yN cC g2 n2;exact⟨m',hm,cC,g2,eT,e3,s2,R2,w2⟩
   ·refine pT hP (s'.ext e2) R1 (e1.trans e2) q ⟨?_,?_,?_,?_⟩
    ·exact λgG g3 n3 ij H3 js e3 R3 s3=>⟨gG,g3,ij,(e1.trans e2).trans e3,s3,R3,n3⟩
    ·exact λd g3 h=>h.ext (e1.trans e2)
    ·exact λgG g3 h ij H3 js e3 R3 s3=>h ij H3 js ((e1.trans e2).trans e3) R3 s3
    ·exact λgG g3 n3 ij H3 js e3 R3 s3=>⟨gG,g3,ij,(e1.trans e2).trans e3,s3,R3,n3⟩
theorem Oi{iter:Expr}{mi:ME}{body:List Stmt}{mb:MS}{t:MT}(hp:PassesOwn (model X.prog X.w) X.A X.env X.xe)(hc:X.calm=true)(hi:PI X tg iter (LI X.K Ξ (fZ P mi)))(hg:PG X tg (LG X.K t))(hb:ic X body (LS X.K Ξ (wpS P mb)))(hs:∀x,foldedSetIterable iter X.env x=pure x):PS X (.For tg iter body [] pos) (LS X.K Ξ (wpS P (.cU t mi mb))) :=
 (Nx hp hc hi hg hb hs).imp λN bY H bq=>by
  obtain⟨Z,g,ρ,s,R,h⟩:=bq;refine⟨Z,g,ρ,s,R,A5 hP mi _ _ _ _ _ _ (λk g1 h bT H1 J e1 R1 j1=>?_) (λ_ _ z=>z) h⟩;obtain⟨W,⟨m0,w0⟩,h⟩:=h;refine⟨λi m dc H'=>∃bU g' bI,Ext bT H1 bI H'/\n9 X.K bI H' bU dc/\Rl X.K bI g' H'/\W i m bU g',⟨m0,Z,g1,bT,.refl _ _,s.ext e1,R1,w0⟩,?_⟩;rintro i m dc H' ⟨bU,g',bI,e',s',R',w'⟩;obtain⟨rZ,rY⟩:=j1 bI g' H' e' R' i;rcases h i m bU g' w' with⟨ek,q⟩|⟨x,ek,N2,yN,q⟩
  ·exact .inl ⟨rZ ek,q bI H' dc (e1.trans e') R' s'⟩
  ·obtain⟨go,yl⟩:=rY x ek;refine .inr ⟨go,λiV H2=>∃cC g2 eT,Ext bT H1 eT H2/\n9 X.K eT H2 cC iV/\Rl X.K eT g2 H2/\N2 cC g2,?_,?_⟩
   ·rintro iV H2 ⟨cC,g2,eT,e2,s2,R2,n2⟩;obtain⟨m',hm,w2⟩:=yN cC g2 n2;exact⟨m',hm,cC,g2,eT,e2,s2,R2,w2⟩
   ·intro v H2 y;obtain⟨e2,R2,r2⟩:=yl v H2 y;refine⟨x,bU,g',bI,s'.ext e2,R2,r2,x6 (λcC q iV s2=>?_) q⟩;refine pT hP s2 R2 (e1.trans (e'.trans e2)) q ⟨?_,?_,?_,?_⟩
    ·exact λgG g3 n3 ij H3 js e3 R3 s3=>⟨gG,g3,ij,(e'.trans e2).trans e3,s3,R3,n3⟩
    ·exact λd g3 h=>h.ext (e1.trans (e'.trans e2))
    ·exact λgG g3 h ij H3 js e3 R3 s3=>h ij H3 js (e1.trans ((e'.trans e2).trans e3)) R3 s3
    ·exact λgG g3 n3 ij H3 js e3 R3 s3=>⟨gG,g3,ij,(e'.trans e2).trans e3,s3,R3,n3⟩
theorem HS{d4:List Nat}{n:Nat}{t:MT}{mi gT me:ME}:∀bY H Q,LE X.K Ξ (aX P (.comp d4 n t mi gT me)) bY H Q->Bl (LI X.K Ξ (fZ P mi)) d4 n (LG X.K t) (LT X.K (lO Ξ.1) (cW P gT)) (LE X.K (lO Ξ.1) (aX P me)) bY H Q:=λbY H Q bq=>by
 obtain⟨Z,g,ρ,s,R,h⟩:=bq;refine⟨Z,g,ρ,s,R,A5 hP mi _ _ _ _ _ _ (λk g1 h bT H1 J e1 R1 j1=>?_) (λ_ _ z=>z) h⟩;obtain⟨W,⟨m0,w0⟩,h⟩:=h;refine⟨λi m Ci dc H'=>∃ys bU g' bI,Ext bT H1 bI H'/\n9 X.K bI H' bU dc/\Rl X.K bI g' H'/\c7 X.K bI H' ys Ci/\W i m ys bU g',⟨m0,[],_,g1,bT,.refl _ _,(s.ext e1).d4 d4 n,R1,.nil,w0⟩,?_⟩;rintro i m Ci dc H' ⟨ys,bU,g',bI,e',s',R',ry,w'⟩;obtain⟨rZ,rY⟩:=j1 bI g' H' e' R' i;rcases h i m ys bU g' w' with⟨ek,q⟩|⟨x,ek,hz,q⟩
 ·exact .inl ⟨rZ ek,λp hp=>(q.ext (e1.trans e')).new R' hp ry⟩
 ·obtain⟨go,yl⟩:=rY x ek;refine .inr ⟨go,by rw[<- ry.length];exact Ad hz,λv H2 y=>?_⟩;obtain⟨e2,R2,r2⟩:=yl v H2 y;refine⟨x,bU,g',bI,s'.ext e2,R2,r2,x6 (λcC q iV s2=>?_) q⟩;refine⟨cC,g',bI,s2,R2,p6 hP gT _ _ _ _ _ _ (λb g3 q ij H3 e3 R3=>?_) (λ_ _ z=>z.elim) q⟩;cases b
  ·obtain⟨m',hm,w3⟩:=q;exact⟨m',hm,ys,cC,g3,ij,(e'.trans e2).trans e3,s2.ext e3,R3,(ry.ext e2).ext e3,by simpa using w3⟩
  ·refine⟨cC,g3,ij,s2.ext e3,R3,c5 hP me _ _ _ _ _ _ (λz g4 q nP H4 v4 e4 R4 r4=>?_) (λ_ _ z=>z.elim) q⟩;obtain⟨m',hm,w4⟩:=q;exact⟨m',hm,ys++[z],cC,g4,nP,(e'.trans e2).trans (e3.trans e4),(s2.ext e3).ext e4,R4,(((ry.ext e2).ext e3).ext e4).append (.cons r4 .nil),by simpa using w4⟩
theorem Zl{elt tg iter:Expr}{ifs:List Expr}{scope:Scope}{N':List Str}{d4:List Nat}{cl:List (Str×Addr)}{pos p2 iM:Pos}{t:MT}{mi gT me:ME}(S:dt X scope N' d4 cl)(hc:X.calm=true)(hi:PI X tg iter (LI X.K Ξ (fZ P mi)))(hg:∀pins C s H fp,PG (d7 X pins scope N' cl C s H fp) tg (LG X.K t))(ht:∀pins C s H fp,jP (d7 X pins scope N' cl C s H fp) ifs (LT X.K (lO Ξ.1) (cW P gT)))(he:∀pins C s H fp,PE (d7 X pins scope N' cl C s H fp) elt (LE X.K (lO Ξ.1) (aX P me)))(hs:∀x,foldedSetIterable iter X.env x=pure x)(kR:Gl X "sorted")(kM:X.mg "sorted"=none):PE X (.Call (.Name "sorted" p2) [.SetComp elt [⟨tg,iter,ifs,0⟩] scope pos] [] iM) (LE X.K Ξ (aX P (.gg d4 N'.length t mi gT me))) :=
 (Z7 (V1 hc) kR kM (by first|exact PyProof.Rows.boot_sorted|decide +kernel) (Q7 (YN S hc hi hg ht he hs) X6)).imp λbY H Q bq=>by
  obtain⟨Z,g,ρ,s,R,h⟩:=bq;refine⟨Z,g,ρ,s,R,A5 hP mi _ _ _ _ _ _ (λk g1 h bT H1 J e1 R1 j1=>?_) (λ_ _ z=>z) h⟩;obtain⟨W,⟨m0,w0⟩,h⟩:=h;refine⟨λi m ys dc H'=>∃bU g' bI,Ext bT H1 bI H'/\n9 X.K bI H' bU dc/\Rl X.K bI g' H'/\W i m ys bU g',⟨m0,_,g1,bT,.refl _ _,(s.ext e1).d4 d4 _,R1,w0⟩,?_⟩;rintro i m ys dc H' ⟨bU,g',bI,e',s',R',w'⟩;obtain⟨rZ,rY⟩:=j1 bI g' H' e' R' i;rcases h i m ys bU g' w' with⟨ek,hz,q⟩|⟨x,ek,hz,q⟩
  ·exact .inl ⟨rZ ek,λp hp=>⟨p,ys,rfl,u3,hz,λp' iP=>(q.ext ((e1.trans e').trans (A9 hp))).new (R'.grow hp) iP (c7.ofInts _)⟩⟩
  ·obtain⟨go,yl⟩:=rY x ek;refine .inr ⟨go,hz,λv H2 y=>?_⟩;obtain⟨e2,R2,r2⟩:=yl v H2 y;refine⟨x,bU,g',bI,s'.ext e2,R2,r2,x6 (λcC q iV s2=>?_) q⟩;refine⟨cC,g',bI,s2,R2,p6 hP gT _ _ _ _ _ _ (λb g3 q ij H3 e3 R3=>?_) (λ_ _ z=>z.elim) q⟩;cases b
   ·obtain⟨m',hm,w3⟩:=q;exact⟨m',hm,cC,g3,ij,(e'.trans e2).trans e3,s2.ext e3,R3,by simpa using w3⟩
   ·refine⟨cC,g3,ij,s2.ext e3,R3,c5 hP me _ _ _ _ _ _ (λz g4 q nP H4 v4 e4 R4 r4=>?_) (λ_ _ z=>z.elim) q⟩;obtain⟨j,rfl,m',hm,w4⟩:=q;obtain rfl:=r4.i4;exact⟨j,rfl,m',hm,cC,g4,nP,(e'.trans e2).trans (e3.trans e4),(s2.ext e3).ext e4,R4,by simpa using w4⟩
end
end M

namespace M
open PySem L2 PySem.Spec PyProof.Rows
section
variable{X:Cx}{Ξ:gn}{P:fm}(hP:i0 P)
include hP
theorem Zr{x:Str}{C:Addr}{B newId fW:String}{bm:List Value}{np dY pos:Pos}{iR:Expr}{rest:List Expr}{fU:ME}(hc:X.calm=true)(O:OwnCls x C bm newId X.mg X.base)(FB:ExcBaseFacts B newId fW bm)(hg:Gl X x)(ha:PA X (iR::rest) (LA X.K Ξ (fC P fU)))(hr:wq X Ξ.2)(hx:x∈Ξ.1)(hC:s9 X.K x C)(he:starEach (iR::rest) X.env=(false,eval iR X.env)::starEach rest X.env)(eV:(backTo dY (starEach rest X.env)).any (·.1)=false)(hd:(x==("__debug__":Str))=false):PS X (.Raise (some (.Call (.Name x np) (iR::rest) [] dY)) none pos) (LS X.K Ξ (wpS P (.raise x fU))) :=
 (YT hc O FB hg ha hr he eV hd).imp λN bY H bq=>by
  obtain⟨Z,g,ρ,s,R,h⟩:=bq;refine iJ hP s R (.refl _ _) h λds g1 bT H1 vs e1 R1 r1 h=>?_;exact⟨by rw[<- r1.length];exact m9 (aG h.1 (by decide)),h.2 bT H1 C e1 R1 hx hC⟩
def xb(X:Cx)(ex:List Str)(D:L2.Ends)(hs:List ExceptHandler):gn:=(ex,λv _ H=>∃C,v=.ref C/\pM X D C H hs)
inductive kc(X:Cx)(Ξ:gn)(P:fm):List ExceptHandler->List (Str×ME)->Prop
 |nil (hh:uk X Ξ.2):kc X Ξ P [] []
 |cons {y:Str} {C':Addr} {p p1 p2:Pos} {e:Expr} {me:ME} {hs:List ExceptHandler} {ms:List (Str×ME)} (hg:Gl X y) (hd:(y==("__debug__":Str))=false) (hm:X.mg y=some (.ref C'))
   (hx:∀x C,x∈Ξ.1->s9 X.K x C->PySem.W.exmOne X.K (.ref C) (.ref C')=some (decide (x=y\/y="MintError"))) (he:∀ea,PE (E5 X ea) e (LE X.K (lO Ξ.1) (aX P me))) (r:kc X Ξ P hs ms) :
   kc X Ξ P (.ExceptHandler (some (.Name y p)) none [.Return (some e) p1] p2::hs) ((y,me)::ms)
theorem Io{N:L2.Ends}{ρ bI:List Addr}{H H':Hp}{Z:S}{g:G}{x:Xn}{C:Addr}(hl:Z.length=X.N.length)(e:Ext ρ H bI H')(R:Rl X.K bI g H')(hx:x.cls∈Ξ.1)(hC:s9 X.K x.cls C) :
  ∀{hs:List ExceptHandler} {ms:List (Str×ME)},kc X Ξ P hs ms->lC P (LN X.K ρ H N) (Z.map λ_=>none) (LX X.K ρ H Ξ) ms x g->pM X N C H' hs
 |_,_,.nil hh,q=>⟨Ξ.2,hh,q bI H' C e R hx hC⟩
 |_,_,.cons (me:=me) hg hd hm JN he r,q=>by
  refine⟨hg,hd,_,_,hm,JN _ _ hx hC,?_⟩;unfold lC at q;split at q
  ·rename_i ex;rw[aK (by simpa using ex)];refine⟨LS X.K (lO Ξ.1) (wpS P (.seq (.ret me) .pass)),λea=>HI (X:=E5 X ea) (Ξ:=lO Ξ.1) hP (GZ (X:=E5 X ea) hP (he ea)) (GX (X:=E5 X ea) hP),?_⟩;refine⟨Z.map λ_=>none,g,bI,⟨by simp[hl],λi d z=>?_⟩,R,?_⟩
   ·rw[ag] at z;cases e:Z[i]? with
    |none=>rw[e] at z;cases z
    |some y=>rw[e] at z;cases z
   ·skip
    refine c5 hP me _ _ _ _ _ _ (λd g1 h=>?_) (λ_ _ z=>z.elim) q;exact h.ext e
  ·rename_i ex;rw[aC (by simpa using ex)];exact Io hl e R hx hC r q
theorem Ol{h₀:ExceptHandler}{hs:List ExceptHandler}{ms:List (Str×ME)}{body:List Stmt}{mb:MS}{pos:Pos}(dP:X.stack=X.env::X.outer)(hf:X.env.frame=some X.env.locals)(hb:∀pins D,ic (U2 X pins (qR X pins D (h₀::hs))) body (LS X.K (xb X Ξ.1 D (h₀::hs)) (wpS P mb)))(hh:kc X Ξ P (h₀::hs) ms):PS X (.Try body (h₀::hs) [] [] pos) (LS X.K Ξ (wpS P (.Z2 mb ms))):=by
 intro pins s bY H N I ⟨Z,g,ρ,sr,R,h⟩;refine NA (t:=λD=>LS X.K (xb X Ξ.1 D (h₀::hs)) (wpS P mb)) (Ξ:=λD=>(xb X Ξ.1 D (h₀::hs)).2) dP hf (λpins D _=>hb pins D) pins s bY H N I ⟨λC H' ⟨C',e,z⟩=>by cases e;exact z,?_⟩;refine⟨Z,g,ρ,sr,R,wpS_mono hP mb _ _ _ _ _ _ ⟨λ_ _ z=>z,λ_ _ z=>z,λ_ _ z=>z,λ_ _ z=>z⟩ (λx g1 q bI H' C e' R' hm hc=>⟨C,rfl,?_⟩) h⟩;exact Io (Ξ:=Ξ) hP (sr.len.trans I.len) e' R' hm hc hh q
end
end M

namespace M
open PySem L2 PySem.Spec PyProof.Rows
structure f6 where
 N:List Str
 nm:List (Str×NameKind)
 km:Bool
 fns:List (Str×Nat)
 con:List (Str×D)
 blt:List Str
 exc:List Str
 gd:List (Str×List D)
 cls:List (Str×Nat)
 mV:List (Str×Str×Nat)
 lL:List (Str×Str)
 iL:Bool
 ik:Bool
def fF:Expr->Bool
 |.Set ..=>false
 |.Starred ..=>false
 |.Slice ..=>false
 |_=>true
def w5:Expr->Bool
 |.ListComp ..=>false
 |.SetComp ..=>false
 |.DictComp ..=>false
 |_=>true
def qQ:Expr->Bool
 |.Tuple ..=>false
 |_=>true
def AM:Expr->Bool
 |.Name ..=>true
 |.Call ..=>true
 |.Subscript ..=>true
 |.Constant ..=>true
 |.Attribute ..=>true
 |.BinOp ..=>true
 |_=>false
def wc:Expr->Bool
 |.Call (.Name ..) ..=>false
 |_=>true
def f6.idx(c:f6)(x:Str):Option Nat:=c.N.findIdx? λy=>decide (y=x)
def f6.qY(c:f6)(x:Str):Bool:=match c.nm.lookup x with
 |some .local=>true
 |some .cell=>true
 |some .free=>true
 |_=>false
def f6.gl(c:f6)(x:Str):Bool:=decide (c.nm.lookup x=some .globalImplicit)
def f6.A1(c:f6)(x:Str):Bool:=decide (c.nm.lookup x=some .local)||decide (c.nm.lookup x=some .cell)
def mJ(x:Str):Bool:=(x==("__debug__":Str))==false&&(x==("__classdict__":Str))==false&&decide (x≠"__name__")
def Bn:List (Str×String):=[("int","int"),("bool","bool"),("str","str"),("tuple","tuple"),("list","list")]
def Bz:List (Str×Pr):=[("len",.len),("list",.list),("tuple",.tuple),("isinstance",.isin),("all",.all),("max",.max),("min",.min),("int",.int),("any",.any),("sum",.sum)]
def wG:List (Str×Pr):=[]
def BJ:List (Str×Pr):=[("append",.append),("pop",.pop),("get",.get),("add",.iY)]
def zR:Expr->Option (Str×List Expr)
 |.Call (.Name x _) args [] _=>some (x,args)
 |_=>none
def EC:Expr->Bool
 |.Tuple ..=>true
 |_=>false
def asName:Expr->Option Str
 |.Name x _=>some x
 |_=>none
def frees(sc:Scope):List Str:=(sc.names.filter λy=>decide (y.2=.free)).map (·.1)
def locals(sc:Scope):List Str:=(sc.names.filter λy=>decide (y.2=.local)||decide (y.2=.cell)).map (·.1)
def f6.inner(c:f6)(sc:Scope):f6:={ c with N:=frees sc++locals sc,nm:=sc.names,km:=false,iL:=false,ik:=false }
def f6.d4(c:f6)(sc:Scope):List Nat:=(frees sc).map λx=>(c.idx x).getD 0
def f6.Aj(c:f6)(sc:Scope):Bool :=
 decide (sc.kind=.function)&&sc.names.all (λy=>!decide (y.2=.cell)||decide (sc.names.lookup y.1=some .cell))&&sc.names.all (λy=>!decide (y.2=.local)||decide (sc.names.lookup y.1=some .local)) &&
 decide (frees sc++locals sc).Nodup&&(frees sc).all (λx=>(c.idx x).isSome&&decide (sc.names.lookup x=some .free)&&(decide (c.nm.lookup x=some .cell)||decide (c.nm.lookup x=some .free)))
def f6.slot(c:f6)(e:Expr):Option Nat:=(asName e).bind λx=>if c.A1 x then c.idx x else none
def f6.slots(c:f6):List Expr->Option (List Nat)
 |[]=>some []
 |e::r=>(c.slot e).bind λi=>(c.slots r).map λis=>i::is
def f6.tg(c:f6)(e:Expr):Option MT:=((c.slot e).map .one).orElse λ_=>match e with
 |.Tuple es _ _=>(c.slots es).map .many
 |_=>none
def pO:Const->Option D
 |.int i=>some (.int i)
 |.bool b=>some (.bl b)
 |.none=>some .bx
 |.str x=>some (.str x)
 |_=>none
structure CF where
 e:f6->Expr->Option ME
 t:f6->Expr->Option ME
 s:f6->Stmt->Option MS
section
variable(r:CF)(c:f6)
def c1(p:Pr)(a:Expr):Option ME:=(r.e c a).map λm=>.prim p (.cons m .nil)
def c2(p:Pr)(a b:Expr):Option ME:=(r.e c a).bind λma=>(r.e c b).map λmb=>.prim p (.cons ma (.cons mb .nil))
def J5:List Expr->Option ME
 |[]=>some .nil
 |e::es=>if fF e then(r.e c e).bind λm=>(J5 es).map λms=>.cons m ms else none
def Iw:Expr->Option Str
 |.Constant (.str x) _ _=>some x
 |_=>none
def Fg:Expr->Option Expr
 |.FormattedValue e k none _=>if k=-1 then some e else none
 |_=>none
def qJ:List Expr->Option ME
 |[]=>some .nil
 |e::es=>((Iw e).bind λx=>if x.length<=2000 then(qJ es).map λms=>.cons (.lit (.str x)) ms else none).orElse λ_ =>
   (Fg e).bind λa=>(r.e c a).bind λm=>(qJ es).map λms=>.cons (.prim .fv (.cons m .nil)) ms
def ud:List (Option Expr)->List Expr->Option ME
 |[],[]=>some .nil
 |some k::ks,v::vs=>(r.e c k).bind λmk=>(r.e c v).bind λmv=>(ud ks vs).map λms=>.cons mk (.cons mv ms)
 |_,_=>none
def vI(op:BoolOp):List Expr->Option ME
 |[]=>none
 |[a]=>r.e c a
 |a::b::rs=>(r.e c a).bind λma=>(vI op (b::rs)).map λmb=>match op with
  |.And=>.dw ma mb
  |.Or=>.iN ma mb
def vJ(op:BoolOp):List Expr->Option ME
 |[]=>none
 |[a]=>r.t c a
 |a::b::rs=>(r.t c a).bind λma=>(vJ op (b::rs)).map λmb=>match op with
  |.And=>.dw ma mb
  |.Or=>.iN ma mb
def Iz:List Expr->Option ME
 |[]=>some .no
 |[e]=>r.t c e
 |_=>none
def v7:List Stmt->Option MS
 |[]=>some .pass
 |s::rs=>(r.s c s).bind λm=>(v7 rs).map λms=>.seq m ms
def Bs(x:Str):Option ME :=
 if mJ x then(if c.qY x then(c.idx x).map .var else if c.gl x then((c.con.lookup x).map .lit).orElse λ_=>if c.blt.contains x then(Bn.lookup x).map λt=>.lit (.ty t) else none else none) else none
def xi(op:UnaryOp)(a:Expr):Option ME:=if op=.Not then(r.e c a).map .eB else c1 r c (.un op) a
def f6.wX(b:Expr):Option (List D):=(asName b).bind λx=>if c.gl x&&mJ x then c.gd.lookup x else none
def RC:CmpOp->Option Bool
 |.In=>some false
 |.NotIn=>some true
 |_=>none
def tY(a:Expr)(ops:List CmpOp)(bs:List Expr):Option ME:=match ops,bs with
 |[op],[b]=>if behindInMarks op b then none else((RC op).bind λneg=>(c.wX b).bind λkvs=>(r.e c a).map λma=>.prim (vM neg) (.cons (.lit (.tup kvs)) (.cons ma .nil))).orElse λ_=>c2 r c (.cmp op) a b
 |[op,gD],[b,d]=>if lastMarks [op,gD] [b,d] then none else(r.e c a).bind λma=>(r.e c b).bind λmb=>(r.e c d).map λmd=>.chain op gD ma mb md
 |_,_=>none
def Rj:Expr->Option (Option Expr×Option Expr×Option Expr)
 |.Slice lo hi st _=>some (lo,hi,st)
 |_=>none
def Cj(a:Expr):Option Expr->Option Expr->Option Expr->Option ME
 |none,none,none=>c1 r c (.lE false false) a
 |some b,none,none=>c2 r c (.lE true false) a b
 |none,some b,none=>c2 r c (.lE false true) a b
 |_,_,_=>none
def BW(a b:Expr):Option ME:=((Rj b).bind λq=>Cj r c a q.1 q.2.1 q.2.2).orElse λ_=>if fF b then((c.wX a).bind λkvs=>(r.e c b).map λmb=>.prim .lp (.cons (.lit (.tup kvs)) (.cons mb .nil))).orElse λ_=>c2 r c .ix a b else none
def xj(x:Str)(e:Expr):Option ME:=(zR e).bind λq =>
 if x="list" && q.1="range" && c.blt.contains "list" && c.blt.contains "range" && c.gl "range" then (match q.2 with
  |[a]=>if fF a then c1 r c .gU a else none
  |[a,b]=>if fF a&&fF b then c2 r c .je a b else none
  | _=>none)
 else if x="sorted" && q.1="set" && c.blt.contains "sorted" && c.blt.contains "set" && c.gl "set" then (match q.2 with
  |[a]=>if fF a then c1 r c .sset a else none
  | _=>none)
 else if x="len" && q.1="set" && c.blt.contains "len" && c.blt.contains "set" && c.gl "set" then (match q.2 with
  |[a]=>if fF a then c1 r c .nJ a else none
  | _=>none)
 else none
def SN(x:Str)(e:Expr):List Expr->Option ME
 |[]=>xj r c x e
 |_=>none
def BP(x:Str):Option ME:=if mJ x&&c.gl x then(c.cls.lookup x).map λf=>.make x f .nil else none
def BQ(x:Str)(e:Expr)(es:List Expr):Option ME:=if mJ x&&c.gl x then(SN r c x e es).orElse λ_=>(J5 r c (e::es)).bind λms=>((c.fns.lookup x).map λf=>.call f ms).orElse λ_=>((c.cls.lookup x).map λf=>.make x f ms).orElse λ_=>if c.blt.contains x then(Bz.lookup x).map λp=>.prim p ms else none else none
def Hf(x:Str):List Expr->Option ME
 |[]=>BP c x
 |e::es=>BQ r c x e es
def BR(o:Expr)(m:Str)(apos pos:Pos)(args:List Expr):Option ME :=
 if wc o && (apos.endLine == pos.line) && decide (args.length < 20) then (r.e c o).bind λmo=>(J5 r c args).bind λms=>if m="index" then (if args.isEmpty then none else some (.dW .index mo ms)) else if args.isEmpty && (wG.lookup m).isSome then (wG.lookup m).map λp=>.dW p mo ms else (match BJ.lookup m with
  |some p=>if args.isEmpty then none else some (.dW p mo ms)
  | none=>none) else none
def Br(f:Expr)(args:List Expr)(iq:List Keyword)(pos:Pos):Option ME:=if iq.isEmpty then(match f with
 |.Name x _=>Hf r c x args
 |.Attribute o m apos=>BR r c o m apos pos args
 | _=>none) else none
def uf(tg e:Expr):Option ME:=(((zR e).bind λq =>
  if q.1="enumerate" then (match q.2 with
   |[a]=>if c.gl "enumerate"&&c.blt.contains "enumerate"&&fF a&&EC tg then(r.e c a).map .jy else none
   | _=>none)
  else if q.1="reversed" then (match q.2 with
   |[a]=>if c.gl "reversed"&&c.blt.contains "reversed"&&fF a then(r.e c a).map .lG else none
   | _=>none)
  else if q.1="range" then (match q.2 with
   |[a]=>if c.gl "range"&&c.blt.contains "range"&&fF a then(r.e c a).map .dX else none
   |[a,b]=>if c.gl "range"&&c.blt.contains "range"&&fF a&&fF b then(r.e c a).bind λma=>(r.e c b).map λmb=>.jf ma mb else none
   | _=>none)
  else none):Option ME).orElse λ_=>if fF e then (r.e c e).map .eK else none
def Y9(elt:Expr)(gens:List Comprehension)(sc:Scope):Option ME:=match gens with
 |[⟨tg,it,ifs,CW⟩]=>if c.Aj sc&&decide (CW=0)&&fF it then((c.inner sc).tg tg).bind λt=>(uf r c tg it).bind λmi=>(Iz r (c.inner sc) ifs).bind λmc=>(r.e (c.inner sc) elt).map λme=>.comp (c.d4 sc) (frees sc++locals sc).length t mi mc me else none
 |_=>none
def Rh:Expr->Option Str
 |.Name x _=>some x
 |_=>none
def Ri:Expr->Option (Expr×List Comprehension×Scope)
 |.SetComp elt gens sc _=>some (elt,gens,sc)
 |_=>none
def SI:ME->Option ME
 |.comp a n t i k e=>some (.gg a n t i k e)
 |_=>none
def xk(f:Expr)(args:List Expr)(iq:List Keyword):Option ME:=match args with
 |[a]=>if iq.isEmpty&&decide (Rh f=some "sorted")&&c.gl "sorted"&&c.blt.contains "sorted" then(Ri a).bind λq=>(Y9 r c q.1 q.2.1 q.2.2).bind SI else none
 |_=>none
def uO(f:Expr)(args:List Expr)(iq:List Keyword):Option ME:=(λ(_:f6)=>none) c
def BV(es:List Expr)(k:Nat):Option ME:=if c.km&&decide (k=0) then(match es with
 |[.Constant (.int i) _ _]=>some (.prim (.iX i) .nil)
 | _=>none) else none
def EZ:Expr->Option ME
 |.Name x _=>Bs c x
 |.Constant k _ _=>(pO k).map .lit
 |.BinOp a op b _=>c2 r c (.bin op) a b
 |.UnaryOp op a _=>xi r c op a
 |.Compare a ops bs _=>tY r c a ops bs
 |.BoolOp op vs _=>vI r c op vs
 |.IfExp t a b _=>(r.t c t).bind λmt=>(r.e c a).bind λma=>(r.e c b).map λmb=>.ite mt ma mb
 |.Tuple es _ _=>(J5 r c es).map (.prim .tup)
 |.List es _=>(J5 r c es).map (.prim .lst)
 |.Subscript a b _=>BW r c a b
 |.Dict ks vs _=>if ks.isEmpty&&vs.isEmpty then some (.prim .mG .nil) else if decide (ks.length<=15) then(ud r c ks vs).map .nE else none
 |.JoinedStr vs _=>if decide (2<=vs.length)&&decide (vs.length<=40) then(qJ r c vs).map (.prim .jY) else none
 |.Attribute o f _=>if wc o then c1 r c (.fld f) o else none
 |.Call f args iq pos=>(xk r c f args iq).orElse λ_=>(uO c f args iq).orElse λ_=>Br r c f args iq pos
 |.ListComp elt gens sc _=>Y9 r c elt gens sc
 |.Set es k _=>BV c es k
 |_=>none
def stepT:Expr->Option ME
 |.UnaryOp op a _=>if op=.Not then(r.t c a).map .eB else none
 |.BoolOp op vs _=>vJ r c op vs
 |.Compare a ops bs _=>(tY r c a ops bs).map .fg
 |e=>if AM e then(r.e c e).map .fg else none
def f6.vQ:List Expr->Expr->Bool
 |[.Name x px,.Name y py],.Tuple [a,b] _ _=>decide (c.nm.lookup x=some .local)&&decide (c.nm.lookup y=some .local)&&decide (x≠y)&&decide (py.line=px.line)&&fF a&&fF b&&!([a,b].all (foldedForSure 8))&&!([a,b].all (constantsAlone 8))
 |_,_=>false
def EH:Expr->Option ME
 |.Constant k _ _=>(pO k).map .lit
 |_=>none
def vX:List Expr->Option ME
 |[]=>some .nil
 |e::es=>(EH e).bind λm=>(vX es).map λms=>.cons m ms
def EG:Expr->Option ME
 |.List es _=>(vX es).map (.prim .lst)
 |.Constant k _ _=>(pO k).map .lit
 |_=>none
def Bx:ExceptHandler->Option (Str×Expr)
 |.ExceptHandler (some (.Name y _)) none [.Return (some e) _] _=>some (y,e)
 |_=>none
def ue:List ExceptHandler->Option (List (Str×ME))
 |[]=>some []
 |h::hs=>(Bx h).bind λq=>if c.exc.contains q.1&&c.gl q.1&&mJ q.1 then(EG q.2).bind λm=>(ue hs).map λms=>(q.1,m)::ms else none
def zS:Option Expr->Option Expr->Option (Str×Expr×List Expr)
 |some (.Call (.Name x _) (e::es) [] _),none=>some (x,e,es)
 |_,_=>none
def f6.wW(f:Str):List Str:=(c.lL.filter λy=>decide (y.1=f)).map (·.2)
def By:List Expr->Option (Expr×Expr×Expr×Expr)
 |_=>none
def Eo(tg e:Expr):Option MS:=match tg with
 |.Name x _=>if c.A1 x then(c.idx x).bind λi=>(r.e c e).map λm=>.set i m else none
 |.Tuple es _ _=>(By es).elim (if(qQ e&&w5 e)||c.vQ es e then(c.slots es).bind λis=>(r.e c e).map λm=>.jG (.many is) m else none) λq=>if w5 e&&fF q.2.1&&fF q.2.2.2 then(r.e c q.1).bind λm1=>(r.e c q.2.1).bind λn1=>(r.e c q.2.2.1).bind λm2=>(r.e c q.2.2.2).bind λn2=>(r.e c e).map λm=>.uS m1 n1 m2 n2 m else none
 |.Subscript o i _=>if fF i&&w5 e then(r.e c o).bind λmo=>(r.e c i).bind λmi=>(r.e c e).map λm=>.eI mo mi m else none
 |.Attribute o f _=>if w5 e then(r.e c o).bind λmo=>(r.e c e).map λm=>.gp f (c.wW f) mo m else none
 |_=>none
def ED:Operator->Option Pr
 |.Add=>some .iadd
 |.Sub=>some .kH
 |_=>none
def toR(e:Expr)(m:ME):ME:=(λ(_:f6)=>m) c
def Fb:Stmt->Option MS
 |.Expr e _=>if w5 e then(r.e c e).map .expr else none
 | .Assign xw e _=>(match xw with
  |[tg]=>Eo r c tg e
  | _=>none)
 | .AugAssign tg op e _=>(match tg with
  |.Name x _=>if c.A1 x then(ED op).bind λp=>(c.idx x).bind λi=>(r.e c e).map λm=>.jk i p m else none
  | _=>none)
 |.If t a b _=>(r.t c t).bind λmt=>(v7 r c a).bind λma=>(v7 r c b).map λmb=>.ifs mt ma mb
 |.For tg it body mx _=>if c.km&&(mx.isEmpty&&fF it) then(c.tg tg).bind λt=>(uf r c tg it).bind λmi=>(v7 r c body).map λmb=>.cU t mi mb else none
 |.While t body mx _=>if c.km&&mx.isEmpty then(r.t c t).bind λmt=>(v7 r c body).map λmb=>.iW mt mb else none
 | .Return e _=>(match e with
  |some e=>(r.e c e).map λm=>.ret (toR c e m)
  | none=>some .nV)
 |.Pass _=>some .pass
 |.Raise e f _=>(zS e f).bind λq=>if c.iL&&c.exc.contains q.1&&c.gl q.1&&mJ q.1 then(J5 r c (q.2.1::q.2.2)).map (.raise q.1) else none
 |.Try body hs el fi _=>if c.ik&&!hs.isEmpty&&el.isEmpty&&fi.isEmpty then(v7 r { c with iL:=false,ik:=false } body).bind λmb=>(ue c hs).map λms=>.Z2 mb ms else none
 |_=>none
end
def comp:Nat->CF
 |0=>⟨λ_ _=>none,λ_ _=>none,λ_ _=>none⟩
 |n+1=>⟨EZ (comp n),stepT (comp n),Fb (comp n)⟩
end M

namespace M
open PySem L2 PySem.Spec PyProof.Rows
structure gk(X:Cx)(c:f6)(P:fm)(Ξ:gn):Prop where
 N:X.N=c.N
 nd:c.N.Nodup
 loc:∀x,c.nm.lookup x=some .local->X.env.scope.names.lookup x=some .local
 vE:∀x,c.nm.lookup x=some .cell->X.env.scope.names.lookup x=some .cell
 zj:∀x,c.nm.lookup x=some .free->X.env.scope.names.lookup x=some .cell\/X.env.scope.names.lookup x=some .free
 DS:∀x,c.nm.lookup x=some .globalImplicit->X.env.scope.names.lookup x=some .globalImplicit
 cells:∀x,(c.nm.lookup x=some .cell\/c.nm.lookup x=some .free)->∃a,X.env.cells.lookup x=some a
 km:∀x,c.nm.lookup x=some .cell->X.fn x=true
 calm:X.calm=true
 units:X.A.units+100<cLine
 own:c.km=true->PassesOwn (model X.prog X.w) X.A X.env X.xe
 mono:i0 P
 con:∀x d,c.con.lookup x=some d->∃v u,X.mg x=some u/\RelV v u/\∀ρ H,d5 X.K ρ H d v
 blt:∀x,c.blt.contains x=true->X.mg x=none
 fns:∀x f,c.fns.lookup x=some f->∃k fa fd ps,nO X P Ξ.1 k f fa fd ps/\w9 k X.A/\X.mg x=some (.ref fa)/\PySem.W.keepIn X.K (.ref fa)=true
 cls:∀x f,c.cls.lookup x=some f->∃k C fa fd ps,nO X P Ξ.1 k f fa fd ps/\w9 (k+1) X.A/\X.mg x=some (.ref C)/\s9 X.K x C/\iU X.K C/\Mk X.K C fa
 mV:∀m y f C,(m,y,f)∈c.mV->s9 X.K y C->∃k fa fd ps,Meth X.K C m fa/\nO X P Ξ.1 k f fa fd ps/\w9 k X.A
 lL:∀f y C,(f,y)∈c.lL->s9 X.K y C->B8 X.K C f
 vA:Ξ.1=c.exc
 pass:Passes (ig X.prog X.w) X Ξ.2
 iL:c.iL=true->wq X Ξ.2
 ik:c.ik=true->X.stack=X.env::X.outer/\X.env.frame=some X.env.locals/\uk X Ξ.2
 exc:∀x,c.exc.contains x=true->∃C,X.mg x=some (.ref C)/\s9 X.K x C/\∃B newId fW bm,OwnCls x C bm newId X.mg X.base/\ExcBaseFacts B newId fW bm
 zo:∀x y C C',c.exc.contains x=true->c.exc.contains y=true->s9 X.K x C->s9 X.K y C'->PySem.W.exmOne X.K (.ref C) (.ref C')=some (decide (x=y\/y="MintError"))
 tI:∀x kvs,c.gd.lookup x=some kvs->vF X x kvs
 code:c.km=true->PySem.W.kdsCode X.K X.env.code=true
section
variable{X:Cx}{c:f6}{P:fm}{Ξ:gn}
theorem OW{c:f6}{x:Str}{i:Nat}(h:c.idx x=some i):c.N[i]?=some x:=by
 unfold f6.idx at h;rw[List.findIdx?_eq_some_iff_getElem] at h;obtain⟨h1,h2,_⟩:=h;rw[ai h1,aZ h2]
theorem gk.UZ(C:gk X c P Ξ){x:Str}(h:c.qY x=true):uG X.env.scope x:=by
 unfold f6.qY at h;split at h
 ·rename_i e;exact .inl (C.loc x e)
 ·rename_i e;exact .inr (.inl (C.vE x e))
 ·rename_i e;rcases C.zj x e with z|z
  ·exact .inr (.inl z)
  ·exact .inr (.inr z)
 ·cases h
theorem gk.A2(C:gk X c P Ξ){x:Str}(h:c.gl x=true):Gl X x:=C.DS x (aZ h)
theorem gk.A1(C:gk X c P Ξ){x:Str}(h:c.A1 x=true):Loc X.env.scope x/\(X.fn x=true\/X.env.scope.names.lookup x=some .local):=by
 unfold f6.A1 at h;rw[cO] at h;rcases h with h|h
 ·have:=C.loc x (aZ h);exact⟨.inl this,.inr this⟩
 ·exact⟨.inr (C.vE x (aZ h)),.inl (C.km x (aZ h))⟩
theorem gk.pG(C:gk X c P Ξ){x:Str}{i:Nat}(h:c.idx x=some i):X.N[i]?=some x:=by rw[C.N];exact OW h
theorem gk.oj(C:gk X c P Ξ):X.N.Nodup:=by rw[C.N];exact C.nd
theorem FP{e:Expr}{x:Str}(h:asName e=some x):∃p,e=.Name x p:=by
 cases e<;>first|(cases h;exact⟨_,rfl⟩)|cases h
theorem Ih{e:Expr}{i:Nat}(h:c.slot e=some i):∃x p,e=.Name x p/\c.A1 x=true/\c.idx x=some i:=by
 unfold f6.slot at h;obtain⟨x,hx,h2⟩:=aj.mp h;obtain⟨p,rfl⟩:=FP hx;split at h2
 ·exact⟨x,p,rfl,by assumption,h2⟩
 ·cases h2
theorem gk.slots(C:gk X c P Ξ):∀{es:List Expr} {is:List Nat},c.slots es=some is->fB X es is:=by
 intro es
 induction es with
 |nil=>intro is h;cases h;exact .nil
 |cons e r ih =>
  intro is h;unfold f6.slots at h;obtain⟨i,hi,h⟩:=aj.mp h;obtain⟨is',hs,rfl⟩:=aa.mp h;obtain⟨x,p,rfl,hl,hx⟩:=Ih hi;exact .cons (C.pG hx) (C.A1 hl).1 (C.A1 hl).2 (ih hs)
theorem orElse_some{α:Type}{a:Option α}{b:Unit->Option α}{m:α}(h:a.orElse b=some m):a=some m\/b ()=some m:=by
 cases a with
 |none=>exact .inr h
 |some x=>exact .inl h
theorem gk.Eu(C:gk X c P Ξ){tg:Expr}{t:MT}(h:c.tg tg=some t):PG X tg (LG X.K t):=by
 unfold f6.tg at h;rcases orElse_some h with h|h
 ·obtain⟨i,hi,rfl⟩:=aa.mp h;obtain⟨x,p,rfl,hl,hx⟩:=Ih hi;exact NV C.oj (C.pG hx) (C.A1 hl).1 (C.A1 hl).2
 ·cases tg<;>first|(cases h;done)|skip
  obtain⟨is,hs,rfl⟩:=aa.mp (show(c.slots _).map MT.many=some t from h);exact HF C.calm C.oj (C.slots hs)
theorem m7{e:Expr}{es:List Expr}{env:Env}(h:fF e=true):starEach (e::es) env=(false,eval e env)::starEach es env:=by
 cases e<;>first|rfl|cases h
theorem Z8{e:Expr}{env:Env}(h:fF e=true):∀x,foldedSetIterable e env x=pure x:=by
 intro x;cases e<;>first|rfl|cases h
theorem GN{e:Expr}(h:fF e=true):zP e:=by
 intro o i;cases e<;>first|rfl|cases h
theorem Pn{o i:Expr}{tp:Pos}{env:Env}(h:fF i=true):∀v,assign (.Subscript o i tp) env v=(do
      let ov <- holding [v] (eval o env)
      let iv <- holding [v,ov] (eval i env)
      standAt tp
      holding [v,ov,iv] (setItem ov iv v)
      release [v,ov,iv] []):=by
  intro v;cases i<;>first|rfl|cases h
theorem U5{e:Expr}{t:Option Expr}{n:Nat}{env:Env}(h:w5 e=true):swapsWith e t n env=pure false:=by
 cases e<;>first|rfl|cases h
theorem YA{e:Expr}{es:List Expr}{k:Nat}{p:Pos}{env:Env}(h:qQ e=true):swappedStores [.Tuple es k p] e env=pure none:=by
 cases e<;>first|rfl|cases h
theorem Wt{e:Expr}{env:Env}(h:AM e=true):∀whole,isTrue e env whole=(do let v <- whole;standAt e.pos;holding [v] (truthy v)):=by
 intro w;cases e<;>first|rfl|cases h
theorem Gi{e:Expr}{q:Str×List Expr}(h:zR e=some q):∃p pos,e=.Call (.Name q.1 p) q.2 [] pos:=by
 cases e<;>first|(cases h;done)|skip
 rename_i f as iq pos;cases f<;>first|(cases h;done)|skip
 cases iq<;>first|(cases h;done)|skip
 cases h;exact⟨_,_,rfl⟩
theorem ZD{e:Expr}(h:EC e=true):∃es k p,e=.Tuple es k p:=by
 cases e<;>first|exact⟨_,_,_,rfl⟩|cases h
theorem HW{b:Expr}{kvs:List D}(h:c.wX b=some kvs):∃x p,b=.Name x p/\c.gl x=true/\mJ x=true/\c.gd.lookup x=some kvs:=by
 unfold f6.wX at h;obtain⟨x,hx,h2⟩:=aj.mp h;obtain⟨p,rfl⟩:=FP hx;split at h2
 ·rename_i hc;rw[aO] at hc;exact⟨x,p,rfl,hc.1,hc.2,h2⟩
 ·cases h2
theorem N4{o:Expr}{f:Str}{env:Env}(h:wc o=true):attributeBase o f env (eval o env)=eval o env:=by
 cases o<;>first|rfl|skip
 rename_i f as iq pos;cases f<;>first|rfl|cases h
theorem zX{env:Env}:∀(names:List (Str×NameKind)) (acc:List (Str×Addr)),(∀y∈names,y.2=.free->∃a,env.cells.lookup y.1=some a)->(∀x a,acc.lookup x=some a->env.cells.lookup x=some a) ->
  ∃ cl,(forIn names acc λ(y:Str × NameKind) (cs:List (Str × Addr))=>(match y with
   |(name,kind)=>if(kind==NameKind.free)=true then do
     let __do_lift <- cellOf env name
     pure (ForInStep.yield ((name,__do_lift)::cs))
    else pure (ForInStep.yield cs):Sem (ForInStep (List (Str × Addr)))))=pure cl/\(∀ x a,cl.lookup x=some a->env.cells.lookup x=some a)/\(∀ y ∈ names,y.2=.free->∃ a,cl.lookup y.1=some a)/\∀ x a,acc.lookup x=some a->∃ a',cl.lookup x=some a'
 |[],acc,_,h2=>⟨acc,rfl,h2,λy hy=>absurd hy (by simp),λx a h=>⟨a,h⟩⟩
 |(n,k)::r,acc,h1,h2=>by
  rw[List.forIn_cons];by_cases hk:k=.free
  ·subst hk;obtain⟨a,ha⟩:=h1 (n,.free) (by simp) rfl;have hc:cellOf env n=pure a:=by unfold cellOf;rw[ha]
   obtain ⟨cl,e,q1,q2,q3⟩:=zX r ((n,a) :: acc) (λy hy=>h1 y (by simp [hy])) (λx b hb=>by
    rw[cI] at hb;cases hx:x==n with
    |true=>rw[hx] at hb;cases hb;rw[eq_of_beq hx];exact ha
    | false=>rw [hx] at hb;exact h2 x b hb)
   refine⟨cl,?_,q1,λy hy hf=>?_,λx b hb=>?_⟩
   ·simp only[beq_self_eq_true,if_true,hc];exact e
   ·rcases aL.mp hy with z|z
    ·subst z;exact q3 n a (by simp[List.lookup_cons])
    ·exact q2 y z hf
   ·cases hx:x==n with
    |true=>exact q3 x a (by rw[cI,hx])
    |false=>exact q3 x b (by rw[cI,hx];exact hb)
  ·have hb:(k==NameKind.free)=false:=by simpa using hk
   obtain⟨cl,e,q1,q2,q3⟩:=zX r acc (λy hy=>h1 y (by simp[hy])) h2;refine⟨cl,?_,q1,λy hy hf=>?_,q3⟩
   ·simp only[hb,Bool.false_eq_true,if_false];exact e
   ·rcases aL.mp hy with z|z
    ·subst z;exact absurd hf hk
    ·exact q2 y z hf
end
end M

namespace M
open PySem L2 PySem.Spec PyProof.Rows
theorem Wl{P:Program}{w:World}{X:Cx}:Passes (ig P w) X (λ_ _ _=>False):=λ_ _ _ _ _ _ _ h=>by
 obtain⟨_,_,_,_,_,_,_,z⟩:=h;exact z.elim
theorem P2{env:Env}:∀{names:List (Str×NameKind)} {x:Str},names.lookup x=some .globalImplicit ->
  (names.map λ(n,k)=>if(k==NameKind.free&&env.scope.kind==.function&&env.kindOf n==some .cell) then(n,NameKind.cell) else(n,k)).lookup x=some .globalImplicit
 |[],_,h=>by simp at h
 |(n,k)::r,x,h=>by
  have ih:=@P2 env r x;show List.lookup x ((if(k==NameKind.free&&env.scope.kind==.function&&env.kindOf n==some .cell)=true then(n,NameKind.cell) else(n,k))::_)=_;cases hx:x==n with
  |true =>
   simp only[List.lookup_cons,hx] at h;cases h;simp[List.lookup_cons,hx]
  |false =>
   simp only[List.lookup_cons,hx] at h;by_cases hc:(k==NameKind.free&&env.scope.kind==.function&&env.kindOf n==some .cell)=true
   ·rw[aK hc];simp only[List.lookup_cons,hx];exact ih h
   ·rw[aC hc];simp only[List.lookup_cons,hx];exact ih h
section
variable{X:Cx}{c:f6}{P:fm}{Ξ:gn}
theorem gk.comp(C:gk X c P Ξ){sc:Scope}(h:c.Aj sc=true):∃cl,dt X sc (frees sc++locals sc) (c.d4 sc) cl/\∀pins A s H fp,gk (d7 X pins sc (frees sc++locals sc) cl A s H fp) (c.inner sc) P (lO Ξ.1):=by
 unfold f6.Aj at h;simp only[Bool.and_eq_true,decide_eq_true_eq,List.all_eq_true] at h;obtain⟨⟨⟨⟨h1,h2⟩,h3⟩,h4⟩,h5⟩:=h;have kS:∀x,sc.names.lookup x=some .free->x∈frees sc:=λx hx=>by
  unfold frees;exact aU.mpr ⟨(x,.free),bh.mpr ⟨aS hx,by simp⟩,rfl⟩
 have fr:∀x∈frees sc,(∃i,c.idx x=some i)/\sc.names.lookup x=some .free/\(c.nm.lookup x=some .cell\/c.nm.lookup x=some .free):=λx hx=>by
  have:=h5 x hx;rw[eO,cO] at this;simp only[decide_eq_true_eq] at this;exact⟨this.1.1,this.1.2,this.2⟩
 have pC:∀y∈sc.names,y.2=.free->∃a,X.env.cells.lookup y.1=some a:=λy hy hf=>by
  have hm:y.1∈frees sc:=aU.mpr ⟨y,bh.mpr ⟨hy,by simp[hf]⟩,rfl⟩;exact C.cells y.1 (fr y.1 hm).2.2
 obtain⟨cl,e,q1,q2,_⟩:=zX sc.names [] pC (λx a h=>by simp at h);have h2:∀y∈sc.names,y.2=.cell->sc.names.lookup y.1=some .cell:=λy hy hl=>by
  have:=h2 y hy;rw[cO] at this;simp only[Bool.not_eq_true',decide_eq_false_iff_not,decide_eq_true_eq] at this;exact this.resolve_left λz=>z hl
 refine⟨cl,⟨h1,h2,λy hy hl=>?_,?_,q1,λx hx=>q2 (x,.free) (aS hx) rfl,h4,λi j gf=>?_,?_⟩,λpins A s H fp=>?_⟩
 ·have:=h3 y hy;rw[cO] at this;simp only[Bool.not_eq_true',decide_eq_false_iff_not,decide_eq_true_eq] at this;exact this.resolve_left λz=>z hl
 ·simp only[closureFor];rw[e]
  rfl
 ·unfold f6.d4 at gf;rw[ag] at gf;cases ex:(frees sc)[i]? with
  |none=>rw[ex] at gf;cases gf
  |some x =>
   rw[ex] at gf;have hx:x∈frees sc:=aF ex;obtain⟨⟨k,hk⟩,hl,hc⟩:=fr x hx;have hj:k=j:=by
    have:=aQ gf;dsimp only at this;rw[hk] at this;exact this
   subst hj;refine⟨x,?_,C.pG hk,hl,?_⟩
   ·rw[aJ (ak.mp ex).1];exact ex
   ·rcases hc with z|z
    ·exact .inl (C.vE x z)
    ·exact C.zj x z
 ·unfold f6.d4;rw[ao,bg];omega
 ·refine⟨rfl,h4,λx hx=>lookup_relabel_local hx,λx hx=>?_,λx hx=>E9 hx,λx hx=>P2 hx,λx hx=>?_,λx _=>?_,rfl,C.units,(λ_=>PassesOwn.never),C.mono,C.con,C.blt,C.fns,C.cls,C.mV,C.lL,C.vA,Wl,(λz=>by cases z),(λz=>by cases z),C.exc,C.zo,C.tI,(λz=>by cases z)⟩
  ·exact M4 hx
  ·rcases hx with hx|hx
   ·exact Fs (.inl hx)
   ·exact Fs (.inr (q2 (x,.free) (aS hx) rfl))
  ·exact az ‹_›
theorem L0{x:Str}(h:mJ x=true):(x==("__debug__":Str))=false/\(x==("__classdict__":Str))=false/\x≠"__name__":=by
 unfold mJ at h;simp only[Bool.and_eq_true,decide_eq_true_eq,beq_iff_eq] at h;exact⟨h.1.1,h.1.2,h.2⟩
theorem Zw{x:Str}{t:String}(h:Bn.lookup x=some t):bootBuiltins x=some (.type t):=by
 have hm:=aS h;simp only[Bn,List.mem_cons,List.mem_nil_iff,or_false] at hm;rcases hm with z|z|z|z|z<;>(cases z;first|exact PyProof.Rows.boot_int|exact PyProof.Rows.boot_bool|exact PyProof.Rows.boot_str|exact PyProof.Rows.boot_tuple|exact PyProof.Rows.boot_list|decide +kernel|rfl)
theorem ZF{x:Str}{p:Pr}(hc:X.calm=true)(h:Bz.lookup x=some p):∃v,((∃id,v=.builtin id)\/∃T,v=.type T)/\bootBuiltins x=some v/\m5 X v (rN X.K p):=by
 have hm:=aS h;simp only[Bz,List.mem_cons,List.mem_nil_iff,or_false] at hm;rcases hm with z|z|z|z|z|z|z|z|z|z
 ·cases z;exact⟨.builtin "len",.inl ⟨_,rfl⟩,PySem.boot_len,MF⟩
 ·cases z;exact⟨.type "list",.inr ⟨_,rfl⟩,by first|exact PyProof.Rows.boot_list|decide +kernel,Pe⟩
 ·cases z;exact⟨.type "tuple",.inr ⟨_,rfl⟩,by first|exact PyProof.Rows.boot_tuple|decide +kernel,Zu⟩
 ·cases z;exact⟨.builtin "isinstance",.inl ⟨_,rfl⟩,by first|exact PyProof.Rows.boot_isinstance|decide +kernel,Pa⟩
 ·cases z;exact⟨.builtin "all",.inl ⟨_,rfl⟩,by first|exact PyProof.Rows.boot_all|decide +kernel,Ve hc⟩
 ·cases z;exact⟨.builtin "max",.inl ⟨_,rfl⟩,by first|exact PyProof.Rows.boot_max|decide +kernel,ML hc⟩
 ·cases z;exact⟨.builtin "min",.inl ⟨_,rfl⟩,by first|exact PyProof.Rows.boot_min|decide +kernel,MM hc⟩
 ·cases z;exact⟨.type "int",.inr ⟨_,rfl⟩,by first|exact PyProof.Rows.boot_int|decide +kernel,Mt⟩
 ·cases z;exact⟨.builtin "any",.inl ⟨_,rfl⟩,by first|exact PyProof.Rows.boot_any|decide +kernel,Vg hc⟩
 ·cases z;exact⟨.builtin "sum",.inl ⟨_,rfl⟩,by first|exact PyProof.Rows.boot_sum|decide +kernel,Og hc⟩
theorem Xl{x:Str}{p:Pr}(h:wG.lookup x=some p):∃T id,PlainAttrs T/\Slot T x id/\typeOf (.builtin id)=pure (.type "method_descriptor")/\ka X id (rM X.K p) /\
  ∀{d:D} {v:V} {g:G} {ρ:List Addr} {H:Hp},Rl X.K ρ g H->d5 X.K ρ H d v->jV p d g->lD X.K T v H:=by
 cases h
theorem VY{x:Str}{p:Pr}(hu:X.A.units+100<cLine)(h:BJ.lookup x=some p):∃T id,PlainAttrs T/\Slot T x id/\typeOf (.builtin id)=pure (.type "method_descriptor")/\ka X id (rM X.K p) /\
  ∀{d:D} {v:V} {g:G} {ρ:List Addr} {H:Hp},Rl X.K ρ g H->d5 X.K ρ H d v->jV p d g->lD X.K T v H:=by
 have hm:=aS h;simp only[BJ,List.mem_cons,List.mem_nil_iff,or_false] at hm;rcases hm with z|z|z|z
 ·cases z;exact⟨_,_,PySem.F.plainAttrs_list,PySem.F.slot_list_append,PySem.F.type_list_append,ZC,λR r h=>ty_list R r h⟩
 ·cases z;exact⟨_,_,PySem.F.plainAttrs_list,PySem.F.slot_list_pop,PySem.F.type_list_pop,YR,λR r h=>ty_list R r h⟩
 ·cases z;exact⟨_,_,PySem.F.plainAttrs_dict,PySem.F.slot_dict_get,PySem.F.type_dict_get,Vo hu,λR r h=>ty_dict R r h⟩
 ·cases z;exact⟨_,_,PySem.F.plainAttrs_set,PySem.F.slot_set_add,PySem.F.type_set_add,Qf,λR r h=>ty_set R r h⟩
theorem Il{pos:Pos}{env:Env}:∀{es:List Expr},(∀e∈es,fF e=true)->(backTo pos (starEach es env)).all (λx=>!x.1)=true
 |[],_=>rfl
 |e::es,h=>by
  rw[m7 (h e (by simp))];have ih:=Il (pos:=pos) (env:=env) (es:=es) λx hx=>h x (by simp[hx]);unfold backTo at ih ⊢;rw[bz,List.all_cons,ih]
  rfl
theorem S5{pos:Pos}{env:Env}:∀{es:List Expr},(∀e∈es,fF e=true)->(backTo pos (starEach es env)).any (·.1)=false
 |[],_=>rfl
 |e::es,h=>by
  rw[m7 (h e (by simp))];have ih:=S5 (pos:=pos) (env:=env) (es:=es) λx hx=>h x (by simp[hx]);unfold backTo at ih ⊢;rw[bz,List.any_cons,ih]
  rfl
theorem An{r:CF}:∀{es:List Expr} {m:ME},J5 r c es=some m->∀e∈es,fF e=true:=by
 intro es
 induction es with
 |nil=>intro m _ e he;exact absurd he (by simp)
 |cons a es ih =>
  intro m h e he;unfold J5 at h;split at h
  ·obtain⟨m1,h1,h⟩:=aj.mp h;obtain⟨m2,h2,_⟩:=aa.mp h;rcases aL.mp he with z|z
   ·rw[z];assumption
   ·exact ih h2 e z
  ·cases h
end
theorem WS{a:Expr}{x:Str}(h:Iw a=some x):∃j p,a=.Constant (.str x) j p:=by
 cases a with
 |Constant k j p=>cases k with
  |str y=>cases h;exact⟨_,_,rfl⟩
  |_=>cases h
 |_=>cases h
theorem QN{a e:Expr}(h:Fg a=some e):∃p,a=.FormattedValue e (-1) none p:=by
 cases a with
 |FormattedValue v k f p=>cases f with
  |none =>
   have h2:(if k=-1 then some v else none)=some e:=h;split at h2
   ·rename_i hk;cases h2;rw[hk];exact⟨_,rfl⟩
   ·cases h2
  |some _=>cases h
 |_=>cases h
structure nM(P:fm)(r:CF):Prop where
 e:∀X c Ξ,gk X c P Ξ->∀e m,r.e c e=some m->PE X e (LE X.K Ξ (aX P m))
 t:∀X c Ξ,gk X c P Ξ->∀e m,r.t c e=some m->PT X e (LT X.K Ξ (cW P m))
 s:∀X c Ξ,gk X c P Ξ->∀st m,r.s c st=some m->PS X st (LS X.K Ξ (wpS P m))
section
variable{X:Cx}{c:f6}{P:fm}{Ξ:gn}{r:CF}(S:nM P r)(C:gk X c P Ξ){a b d e:Expr}{m:ME}{pos:Pos}
include S C
theorem Y8{p:Pr}(h:c1 r c p a=some m):∃ma,PE X a (LE X.K Ξ (aX P ma))/\m=.prim p (.cons ma .nil):=by
 obtain⟨ma,ha,rfl⟩:=aa.mp h;exact⟨ma,S.e X c Ξ C _ _ ha,rfl⟩
theorem Y7{p:Pr}(h:c2 r c p a b=some m):∃ma mb,PE X a (LE X.K Ξ (aX P ma))/\PE X b (LE X.K Ξ (aX P mb))/\m=.prim p (.cons ma (.cons mb .nil)):=by
 obtain⟨ma,ha,h⟩:=aj.mp h;obtain⟨mb,hb,rfl⟩:=aa.mp h;exact⟨ma,mb,S.e X c Ξ C _ _ ha,S.e X c Ξ C _ _ hb,rfl⟩
theorem qa:∀{es:List Expr} {m:ME},J5 r c es=some m->PA X es (LA X.K Ξ (fC P m)):=by
 intro es
 induction es with
 |nil=>intro m h;cases h;exact J8 C.mono
 |cons a es ih =>
  intro m h;unfold J5 at h;split at h
  ·rename_i bR;obtain⟨m1,h1,h⟩:=aj.mp h;obtain⟨m2,h2,rfl⟩:=aa.mp h;exact B1 C.mono (S.e X c Ξ C _ _ h1) (ih h2) (m7 bR)
  ·cases h
theorem JB:∀{es:List Expr} {m:ME},qJ r c es=some m->∃ts,kq X Ξ P es m ts:=by
 intro es
 induction es with
 |nil=>intro m h;cases h;exact⟨_,.nil⟩
 |cons a es ih =>
  intro m h;unfold qJ at h;rcases orElse_some h with h1|h1
  ·obtain⟨x,hx,h2⟩:=aj.mp h1;obtain⟨j,p,rfl⟩:=WS hx;split at h2
   ·obtain⟨m2,h3,rfl⟩:=aa.mp h2;obtain⟨ts,F⟩:=ih h3;exact⟨_,.lit (by assumption) F⟩
   ·cases h2
  ·obtain⟨x,hx,h2⟩:=aj.mp h1;obtain⟨m1,h3,h4⟩:=aj.mp h2;obtain⟨m2,h5,rfl⟩:=aa.mp h4;obtain⟨p,rfl⟩:=QN hx;obtain⟨ts,F⟩:=ih h5;exact⟨_,.val (S.e X c Ξ C _ _ h3) F⟩
theorem JD:∀{ks:List (Option Expr)} {vs:List Expr} {m:ME},ud r c ks vs=some m->∃gB,kr X Ξ P ks vs m gB:=by
 intro ks
 induction ks with
 |nil=>intro vs m h;cases vs<;>first|(cases h;exact⟨_,.nil⟩)|cases h
 |cons k ks ih =>
  intro vs m h;cases k<;>first|(cases h;done)|skip
  cases vs<;>first|(cases h;done)|skip
  unfold ud at h;obtain⟨m1,h1,h⟩:=aj.mp h;obtain⟨m2,h2,h⟩:=aj.mp h;obtain⟨m3,h3,rfl⟩:=aa.mp h;obtain⟨gB,D⟩:=ih h3;exact⟨_,.cons (S.e X c Ξ C _ _ h1) (S.e X c Ξ C _ _ h2) D⟩
theorem JE{op:BoolOp}:∀{vs:List Expr} {m:ME},vI r c op vs=some m->PE X (.BoolOp op vs pos) (LE X.K Ξ (aX P m)):=by
 intro vs
 induction vs with
 |nil=>intro m h;cases h
 |cons a vs ih =>
  intro m h;cases vs with
  |nil=>exact Nm (S.e X c Ξ C _ _ h)
  |cons b vs =>
   unfold vI at h;obtain⟨m1,h1,h⟩:=aj.mp h;obtain⟨m2,h2,rfl⟩:=aa.mp h;cases op
   ·exact NL C.mono (S.e X c Ξ C _ _ h1) (ih h2)
   ·exact UB C.mono (S.e X c Ξ C _ _ h1) (ih h2)
theorem Jy{op:BoolOp}:∀{vs:List Expr} {m:ME},vJ r c op vs=some m->PW X (.BoolOp op vs pos) (LT X.K Ξ (cW P m)):=by
 intro vs
 induction vs with
 |nil=>intro m h;cases h
 |cons a vs ih =>
  intro m h;cases vs with
  |nil =>
   cases op
   ·exact Qb (S.t X c Ξ C _ _ h)
   ·exact ND (S.t X c Ξ C _ _ h)
  |cons b vs =>
   unfold vJ at h;obtain⟨m1,h1,h⟩:=aj.mp h;obtain⟨m2,h2,rfl⟩:=aa.mp h;cases op
   ·exact Oh C.mono (S.t X c Ξ C _ _ h1) (ih h2)
   ·exact UG C.mono (S.t X c Ξ C _ _ h1) (ih h2)
theorem RP{es:List Expr}(h:Iz r c es=some m):jP X es (LT X.K Ξ (cW P m)):=by
 rcases es with _|⟨e,_|⟨_,_⟩⟩
 ·cases h;exact Qx C.mono
 ·exact Qa (S.t X c Ξ C _ _ h)
 ·cases h
theorem qD:∀{Cq:List Stmt} {m:MS},v7 r c Cq=some m->ic X Cq (LS X.K Ξ (wpS P m)):=by
 intro es
 induction es with
 |nil=>intro m h;cases h;exact GX C.mono
 |cons a es ih =>
  intro m h;unfold v7 at h;obtain⟨m1,h1,h⟩:=aj.mp h;obtain⟨m2,h2,rfl⟩:=aa.mp h;exact HI C.mono (S.s X c Ξ C _ _ h1) (ih h2)
end
theorem Gw{e t:Expr}{n:Nat}{env:Env}(h:w5 e=true):swapsWithSole [t] e n env=pure false:=by
 show swapsWith e (some t) n env=pure false;exact U5 h
theorem Xr{x y:Str}{px py pt mS:Pos}{kt k2:Nat}{a b:Expr}{env:Env}(hk:env.scope.kind=.function)(hx:env.kindOf x=some .local)(hy:env.kindOf y=some .local)(dH:x≠y)(hl:py.line=px.line)(ha:fF a=true)(hb:fF b=true)(h1:[a,b].all (foldedForSure 8)=false)(h2:[a,b].all (constantsAlone 8)=false):swappedStores [.Tuple [.Name x px,.Name y py] kt pt] (.Tuple [a,b] k2 mS) env=pure (some [x,y]):=by
 have KI:env.blockKind=.function:=by simp[Env.blockKind,hk,ScopeKind.isAnnotationScope]
 have hd:[x,y].eraseDups.length=2:=by
  have:(y==x)=false:=by simpa using bP dH
  simp[List.eraseDups_cons,this]
 have mY:(env.kindOf x==some NameKind.local&&px.line==px.line)=true:=by simp[hx]
 have xU:(env.kindOf y==some NameKind.local&&py.line==px.line)=true:=by simp[hy,hl]
 have hp:Expr.pos (.Name x px)=px:=rfl;unfold swappedStores;simp only[List.length_cons,List.length_nil,KI,List.head?_cons,Option.map_some,Option.getD_some,hp,List.filterMap_cons,List.filterMap_nil,mY,xU,if_true,hd,h1,h2];rw[aC (by decide),aC ?_]
 ·rfl
 ·simp only[List.any_cons,List.any_nil,Bool.or_false,Bool.or_eq_true,not_or];constructor
  ·cases a<;>first|(intro h;cases h;done)|cases ha
  ·cases b<;>first|(intro h;cases h;done)|cases hb
theorem Oj{X:Cx}{Ξ:gn}{P:fm}(hP:i0 P){i j:Nat}{x y:Str}{a b:Expr}{px py pt mS pos:Pos}{kt k2:Nat}{fU:ME}(hc:X.calm=true)(hN:X.N.Nodup)(hi:X.N[i]?=some x)(hj:X.N[j]?=some y)(dH:x≠y)(hl:py.line=px.line)(hx:X.env.scope.names.lookup x=some .local)(hy:X.env.scope.names.lookup y=some .local)(oa:fF a=true)(ob:fF b=true)(h1:[a,b].all (foldedForSure 8)=false)(h2:[a,b].all (constantsAlone 8)=false)(ha:PA X [a,b] (LA X.K Ξ (fC P fU))):PS X (.Assign [.Tuple [.Name x px,.Name y py] kt pt] (.Tuple [a,b] k2 mS) pos) (LS X.K Ξ (wpS P (.jG (.many [i,j]) (.prim .tup fU)))):=by
 intro pins s bY H D I h;have gf:i≠j:=by
  rintro rfl;rw[hi] at hj;cases hj;exact dH rfl
 refine Ny hc hN hi hj gf hx hy ha (Xr I.ok.kind hx hy dH hl oa ob h1 h2) rfl pins s bY H D I ?_;obtain⟨Z,g,ρ,sr,R,h⟩:=h;refine iJ hP sr R (.refl _ _) (show fC P fU Z g (λxs g1=>cH .tup xs g1 _) _ from h) λds g1 bT H1 vs e1 R1 r1 h=>?_;obtain⟨d',g',⟨_,rfl,rfl⟩,l,bU,ex,hs,h⟩:=h;cases ex;have hl:=Z6 hs;have e2:∃d1 d2,ds=[d1,d2]:=by
  rcases ds with _|⟨d1,_|⟨d2,_|⟨d3,r⟩⟩⟩<;>first|exact⟨_,_,rfl⟩|(simp at hl;done)|(simp at hl;omega)
 obtain⟨d1,d2,rfl⟩:=e2;obtain⟨v,w,rfl,q1,q2⟩:=r1.two;cases hs;exact⟨_,_,rfl,h bT H1 _ e1 R1 (((sr.ext e1).set i q1).set j q2)⟩
theorem gk.Z2{X:Cx}{c:f6}{Ξ:gn}{P:fm}(C:gk X c P Ξ)(dP:X.stack=X.env::X.outer)(hf:X.env.frame=some X.env.locals)(pins:List (Addr×Obj))(D:L2.Ends)(hs:List ExceptHandler) :
  gk (U2 X pins (qR X pins D hs)) { c with iL:=false,ik:=false } P (xb X Ξ.1 D hs) :=
 ⟨C.N,C.nd,C.loc,C.vE,C.zj,C.DS,C.cells,C.km,C.calm,C.units,(λ_=>PassesOwn.looking),C.mono,C.con,C.blt,C.fns,C.cls,C.mV,C.lL,C.vA,YG dP hf λC H' ⟨C',e,z⟩=>(by cases e;exact z),(λz=>by cases z),(λz=>by cases z),C.exc,C.zo,C.tI,C.code⟩
end M

namespace M
open PySem L2 PySem.Spec PyProof.Rows
section
variable{X:Cx}{c:f6}{P:fm}{Ξ:gn}{r:CF}(S:nM P r)(C:gk X c P Ξ){a b d e:Expr}{m:ME}{pos:Pos}
include C
theorem MP{x:Str}(h:Bs c x=some m):PE X (.Name x pos) (LE X.K Ξ (aX P m)):=by
 unfold Bs at h;split at h
 ·rename_i gQ;obtain⟨d1,d2,d3⟩:=L0 gQ;split at h
  ·rename_i hv;obtain⟨i,hi,rfl⟩:=aa.mp h;exact NT (C.pG hi) (C.UZ hv) d1 d2
  ·split at h
   ·rename_i hg;rcases orElse_some h with h|h
    ·obtain⟨d,hd,rfl⟩:=aa.mp h;obtain⟨v,u,hm,r,rr⟩:=C.con x d hd;exact T1 (wH (C.A2 hg) hm r d1) rr
    ·split at h
     ·rename_i hb;obtain⟨t,ht,rfl⟩:=aa.mp h;exact T1 (v:=.ty t) (Py (C.A2 hg) (C.blt x hb) (Zw ht) rfl d3 d1) λ_ _=>.ty t
     ·cases h
   ·cases h
 ·cases h
omit C in
theorem xI{k:Const}{j:Nat}{d:D}(h:pO k=some d):PE X (.Constant k j pos) (LE X.K Ξ (aX P (.lit d))):=by
 cases k<;>first|(cases h;done)|skip
 ·cases h;exact T1 Nk λ_ _=>.bx
 ·cases h;exact T1 Uj λ_ _=>.bl _
 ·cases h;exact T1 Ni λ_ _=>.int _
 ·cases h;exact T1 GQ λ_ _=>.str _
include S
theorem RQ{op:UnaryOp}(h:xi r c op a=some m):PE X (.UnaryOp op a pos) (LE X.K Ξ (aX P m)):=by
 unfold xi at h;split at h
 ·rename_i ho;subst ho;obtain⟨ma,ha,rfl⟩:=aa.mp h;exact NR C.mono (S.e X c Ξ C _ _ ha)
 ·obtain⟨ma,ha,rfl⟩:=Y8 S C h;exact UC C.mono ha
theorem ES{ops:List CmpOp}{bs:List Expr}(h:tY r c a ops bs=some m):PE X (.Compare a ops bs pos) (LE X.K Ξ (aX P m))/\PT X (.Compare a ops bs pos) (LT X.K Ξ (cW P (.fg m))):=by
 unfold tY at h;split at h
 ·rename_i op b;split at h
  ·cases h
  ·rename_i hm;have hm:behindInMarks op b=false:=by simpa using hm
   rcases orElse_some h with h|h
   ·obtain⟨neg,hn,h⟩:=aj.mp h;obtain⟨kvs,hk,h⟩:=aj.mp h;obtain⟨ma,ha,rfl⟩:=aa.mp h;obtain⟨x,p,rfl,hg,hd,hk⟩:=HW hk;have ho:op=if neg then .NotIn else .In:=by cases op<;>cases hn<;>rfl
    subst ho;exact⟨NP C.mono (C.A2 hg) (L0 hd).1 (C.tI x kvs hk) (S.e X c Ξ C _ _ ha) hm,Oc C.mono (C.A2 hg) (L0 hd).1 (C.tI x kvs hk) (S.e X c Ξ C _ _ ha) hm⟩
   ·obtain⟨ma,mb,ha,hb,rfl⟩:=Y7 S C h;exact⟨BK C.mono (Ht (X8 C.units op) ha hb hm),Oe C.mono (Hx (X8 C.units op) ha hb hm)⟩
 ·split at h
  ·cases h
  ·rename_i hm;obtain⟨ma,ha,h⟩:=aj.mp h;obtain⟨mb,hb,h⟩:=aj.mp h;obtain⟨md,hd,rfl⟩:=aa.mp h;exact⟨Zf C.mono C.units (S.e X c Ξ C _ _ ha) (S.e X c Ξ C _ _ hb) (S.e X c Ξ C _ _ hd) (by simpa using hm),Zq C.mono C.units (S.e X c Ξ C _ _ ha) (S.e X c Ξ C _ _ hb) (S.e X c Ξ C _ _ hd) (by simpa using hm)⟩
 ·cases h
theorem RN{lo hi st:Option Expr}{p2:Pos}(h:Cj r c a lo hi st=some m):PE X (.Subscript a (.Slice lo hi st p2) pos) (LE X.K Ξ (aX P m)):=by
 cases lo<;>cases hi<;>cases st<;>first|(cases h;done)|skip
 ·obtain⟨ma,ha,rfl⟩:=Y8 S C h;exact Zm C.mono ha
 ·obtain⟨ma,mb,ha,hb,rfl⟩:=Y7 S C h;exact Zn C.mono ha hb
 ·obtain⟨ma,mb,ha,hb,rfl⟩:=Y7 S C h;exact Zo C.mono ha hb
theorem TY(h:BW r c a b=some m):PE X (.Subscript a b pos) (LE X.K Ξ (aX P m)):=by
 unfold BW at h;rcases orElse_some h with h|h
 ·obtain⟨q,hq,h⟩:=aj.mp h;have eb:∃p,b=.Slice q.1 q.2.1 q.2.2 p:=by cases b<;>first|(cases hq;exact⟨_,rfl⟩)|cases hq
  obtain⟨p,rfl⟩:=eb;exact RN S C h
 ·split at h
  ·rename_i hb;rcases orElse_some h with h|h
   ·obtain⟨kvs,hk,h⟩:=aj.mp h;obtain⟨mb,jq,rfl⟩:=aa.mp h;obtain⟨x,p,rfl,hg,hd,hk⟩:=HW hk;exact Qj C.mono (C.A2 hg) (L0 hd).1 (C.tI x kvs hk) (S.e X c Ξ C _ _ jq) (GN hb)
   ·obtain⟨ma,mb,ha,jq,rfl⟩:=Y7 S C h;exact BK C.mono (ET (Tz C.units) ha jq (GN hb))
  ·cases h
theorem RO{x:Str}{px:Pos}(hg:c.gl x=true)(h:xj r c x e=some m):PE X (.Call (.Name x px) [e] [] pos) (LE X.K Ξ (aX P m)):=by
 unfold xj at h;obtain⟨q,hq,h'⟩:=aj.mp h;clear h;have h:=h';clear h';obtain⟨p,pos',rfl⟩:=Gi hq;obtain⟨y,as⟩:=q;dsimp only at h ⊢;split at h
 ·rename_i hc;simp only[Bool.and_eq_true,decide_eq_true_eq] at hc;obtain⟨⟨⟨⟨rfl,rfl⟩,hl⟩,hr⟩,jo⟩:=hc;rcases as with _|⟨a,_|⟨b,_|⟨_,_⟩⟩⟩
  ·cases h
  ·dsimp only at h;split at h
   ·rename_i ho;obtain⟨ma,ha,rfl⟩:=Y8 S C h;exact Zh C.mono C.calm ha (C.A2 hg) (C.blt _ hl) (C.A2 jo) (C.blt _ hr) (m7 ho)
   ·cases h
  ·dsimp only at h;split at h
   ·rename_i ho;rw[aO] at ho;obtain⟨ma,mb,ha,hb,rfl⟩:=Y7 S C h;exact Zi C.mono C.calm ha hb (C.A2 hg) (C.blt _ hl) (C.A2 jo) (C.blt _ hr) (by rw[m7 ho.1,m7 ho.2];rfl) (m7 ho.2)
   ·cases h
  ·cases h
 ·split at h
  ·rename_i hc;simp only[Bool.and_eq_true,decide_eq_true_eq] at hc;obtain⟨⟨⟨⟨rfl,rfl⟩,hl⟩,hr⟩,jo⟩:=hc;rcases as with _|⟨a,_|⟨_,_⟩⟩
   ·cases h
   ·dsimp only at h;split at h
    ·rename_i ho;obtain⟨ma,ha,rfl⟩:=Y8 S C h;exact Qo C.mono C.calm ha (C.A2 hg) (C.blt _ hl) (C.A2 jo) (C.blt _ hr) (m7 ho)
    ·cases h
   ·cases h
  ·split at h
   ·rename_i hc;simp only[Bool.and_eq_true,decide_eq_true_eq] at hc;obtain⟨⟨⟨⟨rfl,rfl⟩,hl⟩,hr⟩,jo⟩:=hc;rcases as with _|⟨a,_|⟨_,_⟩⟩
    ·cases h
    ·dsimp only at h;split at h
     ·rename_i ho;obtain⟨ma,ha,rfl⟩:=Y8 S C h;exact Qk C.mono C.calm ha (C.A2 hg) (C.blt _ hl) (C.A2 jo) (C.blt _ hr) (m7 ho)
     ·cases h
    ·cases h
   ·cases h
theorem Pk{x:Str}{px:Pos}{args:List Expr}(h:Hf r c x args=some m):PE X (.Call (.Name x px) args [] pos) (LE X.K Ξ (aX P m)):=by
 cases args with
 |nil =>
  have h2:BP c x=some m:=h;unfold BP at h2;split at h2
  ·rename_i gQ;rw[aO] at gQ;obtain⟨f,hf,rfl⟩:=aa.mp h2;obtain⟨k,C',fa,fd,ps,F,hr,hm,hC,iT,M⟩:=C.cls x f hf;exact Zj C.mono C.pass F M hC iT hr (C.A2 gQ.2) hm (L0 gQ.1).1
  ·cases h2
 |cons e es =>
  have h0:BQ r c x e es=some m:=h;clear h;have h:=h0;clear h0;unfold BQ at h;split at h
  ·rename_i gQ;rw[aO] at gQ;obtain⟨d1,d2,d3⟩:=L0 gQ.1;rcases orElse_some h with h|h
   ·cases es with
    |nil=>exact RO S C gQ.2 h
    |cons _ _=>cases h
   ·obtain⟨ms,ni,h⟩:=aj.mp h;have ok:=An ni;have pa:=qa S C ni;have dP:=m7 (env:=X.env) (es:=es) (ok e (by simp));have gb:=S5 (pos:=pos) (env:=X.env) (es:=es) λz hz=>ok z (by simp[hz]);rcases orElse_some h with h|h
    ·obtain⟨f,hf,rfl⟩:=aa.mp h;obtain⟨k,fa,fd,ps,F,hr,hm,hk⟩:=C.fns x f hf;exact Qg C.mono C.pass F hr (C.A2 gQ.2) hm hk pa d1 dP gb
    ·rcases orElse_some h with h|h
     ·obtain⟨f,hf,rfl⟩:=aa.mp h;obtain⟨k,C',fa,fd,ps,F,hr,hm,hC,iT,M⟩:=C.cls x f hf;exact Ql C.mono C.pass F M hC iT hr (C.A2 gQ.2) hm pa d1 dP gb
     ·split at h
      ·rename_i hb;obtain⟨p,hp,rfl⟩:=aa.mp h;obtain⟨v,hv,yD,hc⟩:=ZF (X:=X) C.calm hp;exact NM C.mono hv hc (C.A2 gQ.2) (C.blt x hb) yD pa d3 d1 dP gb
      ·cases h
  ·cases h
theorem Pj{o:Expr}{mt:Str}{apos:Pos}{args:List Expr}(h:BR r c o mt apos pos args=some m):PE X (.Call (.Attribute o mt apos) args [] pos) (LE X.K Ξ (aX P m)):=by
 unfold BR at h;split at h
 ·rename_i hc;simp only[Bool.and_eq_true,decide_eq_true_eq] at hc;obtain⟨⟨hb,hl⟩,hn⟩:=hc;obtain⟨mo,ho,h⟩:=aj.mp h;obtain⟨ms,ni,h⟩:=aj.mp h;have ok:=An ni;have pa:=qa S C ni;have po:=S.e X c Ξ C _ _ ho;have hf:methodCallForm args.length (backTo pos (starEach args X.env)) (backToKw pos (keywordEach [] X.env))=true:=by
   unfold methodCallForm;rw[Il ok];have:args.length+0<30:=by omega
   show(true&&true&&decide (args.length+0<30))=true;rw[az this]
   rfl
  by_cases oE:mt="index"
  ·subst oE;rw[aK rfl] at h;cases args with
   |nil=>cases h
   |cons e es =>
    cases h;exact Zg C.mono po pa (N4 hb) hf hl (m7 (env:=X.env) (es:=es) (ok e (by simp))) (S5 (pos:=pos) (env:=X.env) (es:=es) λz hz=>ok z (by simp[hz]))
  rw[aC oE] at h;cases args with
  |nil =>
   cases ni;by_cases h0:(wG.lookup mt).isSome=true
   ·rw[aK (by rw[h0];rfl)] at h;obtain⟨p,hp,rfl⟩:=aa.mp h;obtain⟨T,id,xE,sl,ty,xJ,hk⟩:=Xl (X:=X) hp;exact Zk C.mono xE sl ty xJ hk po (N4 hb) hl
   rw[aC (by rw[aO];exact λz=>h0 z.2)] at h;split at h
   ·cases h
   ·cases h
  |cons e es =>
   have dP:=m7 (env:=X.env) (es:=es) (ok e (by simp));have gb:=S5 (pos:=pos) (env:=X.env) (es:=es) λz hz=>ok z (by simp[hz]);rw[aC (by simp)] at h;split at h
   ·rename_i p hp;cases h;obtain⟨T,id,xE,sl,ty,xJ,hk⟩:=VY (X:=X) C.units hp;exact Qm C.mono xE sl ty xJ hk po pa (N4 hb) hf hl dP gb
   ·cases h
 ·cases h
theorem CN{tg:Expr}(h:uf r c tg e=some m):PI X tg e (LI X.K Ξ (fZ P m)):=by
 unfold uf at h;rcases orElse_some h with h|h
 ·obtain⟨q,hq,h'⟩:=aj.mp h;rename_i h0;clear h h0;have h:=h';clear h';obtain⟨p,pos',rfl⟩:=Gi hq;obtain⟨y,as⟩:=q;dsimp only at h ⊢;split at h
  ·rename_i hy;subst hy;rcases as with _|⟨a,_|⟨_,_⟩⟩
   ·cases h
   ·dsimp only at h;split at h
    ·rename_i hc;simp only[Bool.and_eq_true] at hc;obtain⟨⟨⟨hg,hb⟩,ho⟩,ht⟩:=hc;obtain⟨ma,ha,rfl⟩:=aa.mp h;obtain⟨es,k,tp,rfl⟩:=ZD ht;exact Qr C.mono (S.e X c Ξ C _ _ ha) (C.A2 hg) (C.blt _ hb) (m7 ho)
    ·cases h
   ·cases h
  ·split at h
   ·rename_i hy;subst hy;rcases as with _|⟨a,_|⟨_,_⟩⟩
    ·cases h
    ·dsimp only at h;split at h
     ·rename_i hc;simp only[Bool.and_eq_true] at hc;obtain⟨⟨hg,hb⟩,ho⟩:=hc;obtain⟨ma,ha,rfl⟩:=aa.mp h;exact NW C.mono (S.e X c Ξ C _ _ ha) (C.A2 hg) (C.blt _ hb) (m7 ho)
     ·cases h
    ·cases h
   split at h
   ·rename_i hy;subst hy;rcases as with _|⟨a,_|⟨b,_|⟨_,_⟩⟩⟩
    ·cases h
    ·dsimp only at h;split at h
     ·rename_i hc;simp only[Bool.and_eq_true] at hc;obtain⟨⟨hg,hb⟩,ho⟩:=hc;obtain⟨ma,ha,rfl⟩:=aa.mp h;exact Qs C.mono (S.e X c Ξ C _ _ ha) (C.A2 hg) (C.blt _ hb) (m7 ho)
     ·cases h
    ·dsimp only at h;split at h
     ·rename_i hc;simp only[Bool.and_eq_true] at hc;obtain⟨⟨⟨hg,hb⟩,ho⟩,hU⟩:=hc;obtain⟨ma,ha,h⟩:=aj.mp h;obtain⟨mb,jq,rfl⟩:=aa.mp h;exact Qt C.mono (S.e X c Ξ C _ _ ha) (S.e X c Ξ C _ _ jq) (C.A2 hg) (C.blt _ hb) (by rw[m7 ho,m7 hU];rfl) (m7 hU)
     ·cases h
    ·cases h
   ·cases h
 ·split at h
  ·obtain⟨ma,ha,rfl⟩:=aa.mp h;exact NX C.mono (S.e X c Ξ C _ _ ha)
  ·cases h
theorem Ah{elt:Expr}{gens:List Comprehension}{sc:Scope}(h:Y9 r c elt gens sc=some m):∃tg it ifs t mi mc me cl,gens=[⟨tg,it,ifs,0⟩]/\m=.comp (c.d4 sc) (frees sc++locals sc).length t mi mc me/\fF it=true /\
  dt X sc (frees sc++locals sc) (c.d4 sc) cl/\PI X tg it (LI X.K Ξ (fZ P mi))/\(∀pins A s H fp,PG (d7 X pins sc (frees sc++locals sc) cl A s H fp) tg (LG X.K t)) /\
   (∀pins A s H fp,jP (d7 X pins sc (frees sc++locals sc) cl A s H fp) ifs (LT X.K (lO Ξ.1) (cW P mc)))/\(∀pins A s H fp,PE (d7 X pins sc (frees sc++locals sc) cl A s H fp) elt (LE X.K (lO Ξ.1) (aX P me))):=by
 unfold Y9 at h;rcases gens with _|⟨⟨tg,it,ifs,CW⟩,_|⟨_,_⟩⟩
 ·cases h
 ·dsimp only at h;split at h
  ·rename_i hs;simp only[Bool.and_eq_true,decide_eq_true_eq] at hs;obtain⟨⟨hs,rfl⟩,hit⟩:=hs;obtain⟨t,h1,h⟩:=aj.mp h;obtain⟨mi,h2,h⟩:=aj.mp h;obtain⟨mc,h3,h⟩:=aj.mp h;obtain⟨me,h4,rfl⟩:=aa.mp h;obtain⟨cl,Sc,I⟩:=C.comp hs;exact⟨tg,it,ifs,t,mi,mc,me,cl,rfl,rfl,hit,Sc,CN S C h2,λpins A s H fp=>(I pins A s H fp).Eu h1,λpins A s H fp=>RP S (I pins A s H fp) h3,λpins A s H fp=>S.e _ _ _ (I pins A s H fp) elt me h4⟩
  ·cases h
 ·cases h
omit S in
theorem RL{f:Expr}{args:List Expr}{iq:List Keyword}(h:uO c f args iq=some m):PE X (.Call f args iq pos) (LE X.K Ξ (aX P m)):=by
 unfold uO at h;cases h
theorem JC:∀e m,EZ r c e=some m->PE X e (LE X.K Ξ (aX P m)):=by
 intro e m h;cases e with
 |Name x p=>exact MP C h
 |Constant k j p =>
  obtain⟨d,hd,rfl⟩:=aa.mp (show(pO k).map ME.lit=some m from h);exact xI hd
 |BinOp a op b p =>
  obtain⟨ma,mb,ha,hb,rfl⟩:=Y7 S C h;exact BK C.mono (Um (MU op) ha hb)
 |UnaryOp op a p=>exact RQ S C h
 |Compare a ops bs p=>exact(ES S C h).1
 |BoolOp op vs p=>exact JE S C h
 |IfExp t a b p =>
  obtain⟨mt,ht,h⟩:=aj.mp h;obtain⟨ma,ha,h⟩:=aj.mp h;obtain⟨mb,hb,rfl⟩:=aa.mp h;exact NQ C.mono (S.t X c Ξ C _ _ ht) (S.e X c Ξ C _ _ ha) (S.e X c Ξ C _ _ hb)
 |Tuple es k p =>
  obtain⟨ma,ha,rfl⟩:=aa.mp h;exact NS C.mono (qa S C ha)
 |List es p =>
  obtain⟨ma,ha,rfl⟩:=aa.mp h;exact GV C.mono (qa S C ha)
 |Subscript a b p=>exact TY S C h
 |Dict ks vs p =>
  have h2:(if ks.isEmpty&&vs.isEmpty then some (ME.prim .mG .nil) else if decide (ks.length<=15) then(ud r c ks vs).map .nE else none)=some m:=h;split at h2
  ·rename_i hc;cases ks<;>cases vs<;>first|(cases hc;done)|skip
   cases h2;exact Qh
  ·rename_i hc;split at h2
   ·rename_i hl;obtain⟨ms,hm,rfl⟩:=aa.mp h2;obtain⟨gB,D⟩:=JD S C hm;refine NN C.mono D (λz=>hc ?_) (aZ hl);have:=D.len.2;subst z;cases vs<;>first|rfl|cases this
   ·cases h2
 |JoinedStr vs p =>
  have h2:(if decide (2<=vs.length)&&decide (vs.length<=40) then(qJ r c vs).map (ME.prim .jY) else none)=some m:=h;split at h2
  ·rename_i hc;simp only[Bool.and_eq_true,decide_eq_true_eq] at hc;obtain⟨ms,hm,rfl⟩:=aa.mp h2;obtain⟨ts,F⟩:=JB S C hm;rcases vs with _|⟨v1,_|⟨v2,vs⟩⟩
   ·simp at hc
   ·simp at hc
   ·exact Qi C.mono F hc.2
  ·cases h2
 |Attribute o f p =>
  have h2:(if wc o then c1 r c (.fld f) o else none)=some m:=h;split at h2
  ·rename_i hb;obtain⟨ma,ha,rfl⟩:=Y8 S C h2;exact NO C.mono ha (N4 hb)
  ·cases h2
 |Call f args iq pos =>
  have h1:((xk r c f args iq).orElse λ_=>(uO c f args iq).orElse λ_=>Br r c f args iq pos)=some m:=h;rcases orElse_some h1 with h2|h2
  ·unfold xk at h2;rcases args with _|⟨a,_|⟨_,_⟩⟩
   ·cases h2
   ·dsimp only at h2;split at h2
    ·rename_i hk;simp only[Bool.and_eq_true,decide_eq_true_eq] at hk;obtain⟨⟨⟨hk,hf⟩,kR⟩,hb⟩:=hk;cases iq<;>first|(cases hk;done)|skip
     obtain⟨q,hq,h3⟩:=aj.mp h2;obtain⟨m1,h4,h5⟩:=aj.mp h3;cases f<;>first|(cases hf;done)|skip
     cases a<;>first|(cases hq;done)|skip
     cases hf;cases hq;obtain⟨tg,it,ifs,t,mi,mc,me,cl,eg,rfl,hit,Sc,q1,q2,q3,q4⟩:=Ah S C h4;dsimp only at eg;subst eg;cases h5;exact Zl C.mono Sc C.calm q1 q2 q3 q4 (Z8 hit) (C.A2 kR) (C.blt _ hb)
    ·cases h2
   ·cases h2
  clear h h1;rcases orElse_some h2 with h3|h3
  ·exact RL C h3
  clear h2;unfold Br at h3;split at h3
  ·rename_i hk;cases iq<;>first|(cases hk;done)|skip
   cases f with
   |Name x p=>exact Pk S C h3
   |Attribute o a p=>exact Pj S C h3
   |_=>cases h3
  ·cases h3
 |Set es k p =>
  have h2:BV c es k=some m:=h;unfold BV at h2;split at h2
  ·rename_i hc;rw[aO] at hc;obtain rfl:=aZ hc.2;split at h2
   ·cases h2;exact Qn C.mono (C.code hc.1)
   ·cases h2
  ·cases h2
 |ListComp elt gens sc p =>
  obtain⟨tg,it,ifs,t,mi,mc,me,cl,rfl,rfl,hit,Sc,q1,q2,q3,q4⟩:=Ah S C h;exact(Hu Sc C.calm q1 q2 q3 q4 (Z8 hit)).imp λZ H Q h=>HS C.mono Z H Q h
 |_=>cases h
theorem Jz:∀e m,stepT r c e=some m->PT X e (LT X.K Ξ (cW P m)):=by
 intro e m h;have plain:∀{e:Expr} {m:ME},(if AM e then(r.e c e).map ME.fg else none)=some m->PT X e (LT X.K Ξ (cW P m)):=λ{e m} h=>by
  split at h
  ·rename_i hp;obtain⟨ma,ha,rfl⟩:=aa.mp h;exact Of C.mono (S.e X c Ξ C _ _ ha) (Wt hp)
  ·cases h
 cases e with
 |UnaryOp op a p =>
  have h2:(if op=.Not then(r.t c a).map ME.eB else none)=some m:=h;split at h2
  ·rename_i ho;subst ho;obtain⟨ma,ha,rfl⟩:=aa.mp h2;exact Od C.mono (S.t X c Ξ C _ _ ha)
  ·cases h2
 |BoolOp op vs p=>exact(Jy S C h).pt
 |Compare a ops bs p =>
  obtain⟨ma,ha,rfl⟩:=aa.mp (show(tY r c a ops bs).map ME.fg=some m from h);exact(ES S C ha).2
 |_=>exact plain h
end
end M

namespace M
open PySem L2 PySem.Spec PyProof.Rows
section
variable{X:Cx}{c:f6}{P:fm}{Ξ:gn}
theorem HQ{e:Expr}{m:ME}(h:EH e=some m):PE X e (LE X.K Ξ (aX P m))/\fF e=true:=by
 cases e<;>first|(cases h;done)|skip
 obtain⟨d,hd,rfl⟩:=aa.mp (show(pO _).map ME.lit=some m from h);exact⟨xI hd,rfl⟩
theorem ZP(hP:i0 P):∀{es:List Expr} {m:ME},vX es=some m->PA X es (LA X.K Ξ (fC P m)):=by
 intro es
 induction es with
 |nil=>intro m h;cases h;exact J8 hP
 |cons e es ih =>
  intro m h;unfold vX at h;obtain⟨m1,h1,h⟩:=aj.mp h;obtain⟨m2,h2,rfl⟩:=aa.mp h;exact B1 hP (HQ h1).1 (ih h2) (m7 (HQ (X:=X) (Ξ:=Ξ) (P:=P) h1).2)
theorem QU(hP:i0 P){e:Expr}{m:ME}(h:EG e=some m):PE X e (LE X.K Ξ (aX P m)):=by
 cases e<;>first|(cases h;done)|skip
 ·obtain⟨d,hd,rfl⟩:=aa.mp (show(pO _).map ME.lit=some m from h);exact xI hd
 ·obtain⟨ms,hm,rfl⟩:=aa.mp h;exact GV hP (ZP hP hm)
theorem WR{h:ExceptHandler}{q:Str×Expr}(hq:Bx h=some q):∃p p1 p2,h=.ExceptHandler (some (.Name q.1 p)) none [.Return (some q.2) p1] p2:=by
 unfold Bx at hq;split at hq
 ·cases hq;exact⟨_,_,_,rfl⟩
 ·cases hq
theorem QT(C:gk X c P Ξ)(yu:uk X Ξ.2):∀{hs:List ExceptHandler} {ms:List (Str×ME)},ue c hs=some ms->kc X Ξ P hs ms:=by
 intro hs
 induction hs with
 |nil=>intro ms h;cases h;exact .nil yu
 |cons hd hs ih =>
  intro ms h;unfold ue at h;obtain⟨q,hq,h'⟩:=aj.mp h;clear h;have h:=h';clear h';obtain⟨p,p1,p2,rfl⟩:=WR hq;obtain⟨y,e⟩:=q;dsimp only at h ⊢;split at h
  ·rename_i hc;simp only[Bool.and_eq_true] at hc;obtain⟨m,h1,h⟩:=aj.mp h;obtain⟨CP,h2,rfl⟩:=aa.mp h;obtain⟨C',hm,hi,_⟩:=C.exc y hc.1.1;refine .cons (C.A2 hc.1.2) (L0 hc.2).1 hm (λx C1 hx h1=>C.zo x y C1 C' ?_ hc.1.1 h1 hi) (λea=>QU (X:=E5 X ea) C.mono h1) (ih h2);rw[C.vA] at hx;simpa using hx
  ·cases h
theorem XM{e f:Option Expr}{q:Str×Expr×List Expr}(h:zS e f=some q):f=none/\∃p p',e=some (.Call (.Name q.1 p) (q.2.1::q.2.2) [] p'):=by
 unfold zS at h;split at h
 ·cases h;exact⟨rfl,_,_,rfl⟩
 ·cases h
theorem OU(C:gk X c P Ξ){f:Str}:Bu X.K f (c.wW f):=λy C' h hC=>by
 unfold f6.wW at h;obtain⟨⟨f',y'⟩,h1,h2⟩:=aU.mp h;obtain⟨h3,h4⟩:=bh.mp h1;cases h2;have:f'=f:=by simpa using h4
 subst this;exact C.lL f' y' C' h3 hC
variable{r:CF}(S:nM P r)(C:gk X c P Ξ){pos:Pos}
include S C
theorem TX{tg e:Expr}{m:MS}(hS:∀e m,r.e c e=some m->w5 e=false->∃elt gens sc p,e=.ListComp elt gens sc p/\∃r',nM P r'/\Y9 r' c elt gens sc=some m)(hT:∀a b k p m,r.e c (.Tuple [a,b] k p)=some m->∃r' ms,nM P r'/\J5 r' c [a,b]=some ms/\m=.prim .tup ms)(h:Eo r c tg e=some m):PS X (.Assign [tg] e pos) (LS X.K Ξ (wpS P m)):=by
 cases tg with
 |Name x px =>
  have h2:(if c.A1 x then(c.idx x).bind λi=>(r.e c e).map λm=>MS.set i m else none)=some m:=h;split at h2
  ·rename_i hl;obtain⟨i,hi,h2⟩:=aj.mp h2;obtain⟨me,he,rfl⟩:=aa.mp h2;cases hn:w5 e with
   |true=>exact Ha C.mono (GS C.oj (C.pG hi) (C.A1 hl).1 (S.e X c Ξ C _ _ he) (U5 hn) (C.A1 hl).2)
   |false =>
    obtain⟨elt,gens,sc,p,rfl,r',S',hx⟩:=hS e me he hn;obtain⟨tg,it,ifs,t,mi,mc,me,cl,rfl,rfl,hit,Sc,q1,q2,q3,q4⟩:=Ah S' C hx;refine Ha C.mono ?_;exact(X' Sc C.calm q1 q2 q3 q4 (Z8 hit) C.oj (C.pG hi) (C.A1 hl).1 (C.A1 hl).2).imp λN Z H h=>HS C.mono Z H _ h
  ·cases h2
 |Tuple es k pt =>
  have h0:((By es).elim (if(qQ e&&w5 e)||c.vQ es e then(c.slots es).bind λis=>(r.e c e).map λm=>MS.jG (.many is) m else none) λq=>if w5 e&&fF q.2.1&&fF q.2.2.2 then(r.e c q.1).bind λm1=>(r.e c q.2.1).bind λn1=>(r.e c q.2.2.1).bind λm2=>(r.e c q.2.2.2).bind λn2=>(r.e c e).map λm=>MS.uS m1 n1 m2 n2 m else none)=some m:=h;cases hq:By es with
  |some q =>
   rw[hq] at h0;dsimp only[Option.elim] at h0;split at h0
   ·cases hq
   ·cases h0
  |none =>
  rw[hq] at h0;have h2:(if(qQ e&&w5 e)||c.vQ es e then(c.slots es).bind λis=>(r.e c e).map λm=>MS.jG (.many is) m else none)=some m:=h0;split at h2
  ·rename_i hn;rw[cO,aO] at hn;obtain⟨is,hs,h2⟩:=aj.mp h2;obtain⟨me,he,rfl⟩:=aa.mp h2;rcases hn with hn|hn
   ·exact Om C.mono (GR (S.e X c Ξ C _ _ he) (HF C.calm C.oj (C.slots hs)) (Gw hn.2) (YA hn.1))
   ·unfold f6.vQ at hn;split at hn
    ·rename_i x px y py a b k2 mS _;simp only[Bool.and_eq_true,decide_eq_true_eq,Bool.not_eq_true'] at hn;obtain⟨⟨⟨⟨⟨⟨⟨l1,l2⟩,dH⟩,hl⟩,oa⟩,ob⟩,f1⟩,f2⟩:=hn;obtain⟨r',ms,S',ni,rfl⟩:=hT _ _ _ _ _ he;have so:=C.slots hs;cases so with
     |cons hi _ _ so =>
     cases so with
     |cons hj _ _ so =>
     cases so;exact Oj C.mono C.calm C.oj hi hj dH hl (C.loc x l1) (C.loc y l2) oa ob f1 f2 (qa S' C ni)
    ·cases hn
  ·cases h2
 |Subscript o i pt =>
  have h2:(if fF i&&w5 e then(r.e c o).bind λmo=>(r.e c i).bind λmi=>(r.e c e).map λm=>MS.eI mo mi m else none)=some m:=h;split at h2
  ·rename_i hn;rw[aO] at hn;obtain⟨mo,ho,h2⟩:=aj.mp h2;obtain⟨mi,hi,h2⟩:=aj.mp h2;obtain⟨me,he,rfl⟩:=aa.mp h2;exact Zs C.mono C.units (S.e X c Ξ C _ _ he) (S.e X c Ξ C _ _ ho) (S.e X c Ξ C _ _ hi) (Gw hn.2) (Pn hn.1)
  ·cases h2
 |Attribute o f pt =>
  have h2:(if w5 e then(r.e c o).bind λmo=>(r.e c e).map λm=>MS.gp f (c.wW f) mo m else none)=some m:=h;split at h2
  ·rename_i hn;obtain⟨mo,ho,h2⟩:=aj.mp h2;obtain⟨me,he,rfl⟩:=aa.mp h2;exact QA C.mono (OU C) (S.e X c Ξ C _ _ ho) (S.e X c Ξ C _ _ he) (U5 hn)
  ·cases h2
 |_=>cases h
theorem JA(hS:∀e m,r.e c e=some m->w5 e=false->∃elt gens sc p,e=.ListComp elt gens sc p/\∃r',nM P r'/\Y9 r' c elt gens sc=some m)(hT:∀a b k p m,r.e c (.Tuple [a,b] k p)=some m->∃r' ms,nM P r'/\J5 r' c [a,b]=some ms/\m=.prim .tup ms) :
  ∀st m,Fb r c st=some m->PS X st (LS X.K Ξ (wpS P m)):=by
 intro st m h;have hP:=C.mono;cases st with
 |AugAssign tg op e p =>
  cases tg with
  |Name x tp =>
   have h2:(if c.A1 x then(ED op).bind λp=>(c.idx x).bind λi=>(r.e c e).map λm=>MS.jk i p m else none)=some m:=h;split at h2
   ·rename_i hl;obtain⟨p,hp,h2⟩:=aj.mp h2;obtain⟨i,hi,h2⟩:=aj.mp h2;obtain⟨me,he,rfl⟩:=aa.mp h2;refine Qy C.mono ?_ C.oj (C.pG hi) (C.A1 hl).1 (C.A1 hl).2 (S.e X c Ξ C _ _ he);cases op<;>first|(cases hp;done)|skip
    ·cases hp;exact .inl ⟨rfl,rfl⟩
    ·cases hp;exact .inr ⟨rfl,rfl⟩
   ·cases h2
  |_=>cases h
 |Expr e p =>
  have h2:(if w5 e then(r.e c e).map MS.expr else none)=some m:=h;split at h2
  ·rename_i hn;obtain⟨me,he,rfl⟩:=aa.mp h2;exact Qz hP (S.e X c Ξ C _ _ he) (U5 hn)
  ·cases h2
 |Assign xw e p =>
  rcases xw with _|⟨tg,_|⟨_,_⟩⟩
  ·cases h
  ·exact TX S C hS hT h
  ·cases h
 |If t a b p =>
  obtain⟨mt,ht,h⟩:=aj.mp h;obtain⟨ma,ha,h⟩:=aj.mp h;obtain⟨mb,hb,rfl⟩:=aa.mp h;exact UH hP (S.t X c Ξ C _ _ ht) (qD S C ha) (qD S C hb)
 |For tg it body mx p =>
  have h2:(if c.km&&(mx.isEmpty&&fF it) then(c.tg tg).bind λt=>(uf r c tg it).bind λmi=>(v7 r c body).map λmb=>MS.cU t mi mb else none)=some m:=h;split at h2
  ·rename_i hc;rw[aO,aO] at hc;cases mx<;>first|(cases hc.2.1;done)|skip
   obtain⟨t,h1,h2⟩:=aj.mp h2;obtain⟨mi,h3,h2⟩:=aj.mp h2;obtain⟨mb,h4,rfl⟩:=aa.mp h2;exact Oi hP (C.own hc.1) C.calm (CN S C h3) (C.Eu h1) (qD S C h4) (Z8 hc.2.2)
  ·cases h2
 |While t body mx p =>
  have h2:(if c.km&&mx.isEmpty then(r.t c t).bind λmt=>(v7 r c body).map λmb=>MS.iW mt mb else none)=some m:=h;split at h2
  ·rename_i hc;rw[aO] at hc;cases mx<;>first|(cases hc.2;done)|skip
   obtain⟨mt,h1,h2⟩:=aj.mp h2;obtain⟨mb,h4,rfl⟩:=aa.mp h2;exact Zt hP (C.own hc.1) (S.t X c Ξ C _ _ h1) (qD S C h4)
  ·cases h2
 |Return e p =>
  cases e with
  |none=>cases h;exact(PY (X:=X)).imp λN bY H ⟨Z,g,ρ,s,R,h⟩=>LQ.now h R .bx
  |some e =>
   obtain⟨me,he,rfl⟩:=aa.mp (show(r.e c e).map (λm=>MS.ret (toR c e m))=some m from h);refine GZ hP ?_;exact S.e X c Ξ C _ _ he
 |Raise e f p =>
  obtain⟨q,hq,h2⟩:=aj.mp h;clear h;obtain⟨rfl,px,p2,rfl⟩:=XM hq;obtain⟨x,e,es⟩:=q;dsimp only at h2 ⊢;split at h2
  ·rename_i hc;simp only[Bool.and_eq_true] at hc;obtain⟨ma,ha,rfl⟩:=aa.mp h2;have ok:=An ha;obtain⟨C',hm,hi,B,nI,iI,bm,O,FB⟩:=C.exc x hc.1.1.2;exact Zr hP C.calm O FB (C.A2 hc.1.2) (qa S C ha) (C.iL hc.1.1.1) (by rw[C.vA];simpa using hc.1.1.2) hi (m7 (ok e (by simp))) (S5 λz hz=>ok z (by simp[hz])) (L0 hc.2).1
  ·cases h2
 |Try body hs el fi p =>
  have h2:(if c.ik&&!hs.isEmpty&&el.isEmpty&&fi.isEmpty then(v7 r { c with iL:=false,ik:=false } body).bind λmb=>(ue c hs).map λms=>MS.Z2 mb ms else none)=some m:=h;split at h2
  ·rename_i hc;simp only[Bool.and_eq_true] at hc;obtain⟨⟨⟨ht,hh⟩,he⟩,hf⟩:=hc;cases el<;>first|(cases he;done)|skip
   cases fi<;>first|(cases hf;done)|skip
   cases hs<;>first|(cases hh;done)|skip
   obtain⟨mb,h1,h2⟩:=aj.mp h2;obtain⟨ms,h3,rfl⟩:=aa.mp h2;obtain⟨dP,hf,yu⟩:=C.ik ht;exact Ol hP dP hf (λpins D=>qD S (C.Z2 dP hf pins D _) h1) (QT C yu h3)
  ·cases h2
 |Pass p=>cases h;exact(PV (X:=X)).imp λN bY H ⟨Z,g,ρ,s,R,h⟩=>h ρ H bY (.refl _ _) R s
 |_=>cases h
end
theorem XQ{n:Nat}{c:f6}{e:Expr}{m:ME}(h:(comp (n+1)).e c e=some m)(hn:w5 e=false):∃elt gens sc p,e=.ListComp elt gens sc p/\Y9 (comp n) c elt gens sc=some m:=by
 cases e<;>first|(cases hn;done)|(cases h;done)|exact⟨_,_,_,_,rfl,h⟩
theorem snd{P:fm}:∀n,(∀k,k<=n->nM P (comp k)):=by
 intro n
 induction n with
 |zero =>
  intro k hk;obtain rfl:=Nat.le_zero.mp hk;exact⟨λ_ _ _ _ _ _ h=>(by cases h),λ_ _ _ _ _ _ h=>(by cases h),λ_ _ _ _ _ _ h=>(by cases h)⟩
 |succ n ih =>
  intro k hk;rcases cQ k (n+1) with dj|hge
  ·exact ih k (by omega)
  obtain rfl:k=n+1:=by omega
  have I:=ih n (aw n);refine⟨λX c Ξ C e m h=>JC I C e m h,λX c Ξ C e m h=>Jz I C e m h,λX c Ξ C st m h=>JA I C (λe m he hn=>?_) (λa b k p m he=>?_) st m h⟩
  ·cases n with
   |zero=>cases he
   |succ n =>
    obtain⟨elt,gens,sc,p,rfl,hx⟩:=XQ he hn;exact⟨_,_,_,_,rfl,comp n,ih n (by omega),hx⟩
  ·cases n with
   |zero=>cases he
   |succ n =>
    obtain⟨ms,hm,rfl⟩:=aa.mp (show(J5 (comp n) c [a,b]).map (ME.prim .tup)=some m from he);exact⟨comp n,ms,ih n (by omega),hm,rfl⟩
end M

namespace M
open PySem L2 PySem.Spec PyProof.Rows
structure mK where
 nm:Str
 qn:Str
 N:List Str
 ps:List Str
 st:Stmt
def f6.at(c:f6)(d:mK):f6:={ c with N:=d.N,nm:=(o6 d.st).names,km:=true,iL:=true,ik:=true }
structure iH(K:PySem.W.Frag)(c:f6)(d:mK)(m:ba)(f:Addr)(fd:FuncData):Prop where
 fn:nN K d.nm d.qn d.st f fd
 bi:Binds K fd d.ps []
 sc:gR d.N d.ps (o6 d.st)
 co:v7 (comp 60) (c.at d) (o8 d.st)=some m.body
 ar:m.ar=d.ps.length
 nn:m.n=d.N.length
structure lz(w:World)(K:PySem.W.Frag)(mg:Str->Option Value)(c:f6)(T:Nat->Option ba):Prop where
 fns:∀x i,c.fns.lookup x=some i->∃d m f fd,T i=some m/\iH K c d m f fd/\mg x=some (.ref f)
 cls:∀x i,c.cls.lookup x=some i->∃C d m f fd,T i=some m/\iH K c d m f fd/\mg x=some (.ref C)/\s9 K x C/\iU K C/\Mk K C f
 mV:∀x y i C,(x,y,i)∈c.mV->s9 K y C->∃d m f fd,T i=some m/\iH K c d m f fd/\Meth K C x f
 lL:∀f y C,(f,y)∈c.lL->s9 K y C->B8 K C f
 con:∀x d,c.con.lookup x=some d->∃v u,mg x=some u/\RelV v u/\∀ρ H,d5 K ρ H d v
 blt:∀x,c.blt.contains x=true->mg x=none
 zp:∀x,c.exc.contains x=true->∃C,mg x=some (.ref C)/\s9 K x C/\∀base:Heap,K.In base->base.Ns mainGlobals mg->∃B newId fW bm,OwnCls x C bm newId mg base/\ExcBaseFacts B newId fW bm
 zm:∀x y C C',c.exc.contains x=true->c.exc.contains y=true->s9 K x C->s9 K y C'->PySem.W.exmOne K (.ref C) (.ref C')=some (decide (x=y\/y="MintError"))
 oY:∀x kvs,c.gd.lookup x=some kvs->∃A vs,mg x=some (.ref A)/\ub K w.params A vs/\nG K kvs vs
section
variable{Pg:Program}{w:World}{K:PySem.W.Frag}{mg:Str->Option Value}{base:Heap}{c:f6}{T:Nat->Option ba}
theorem My{K:PySem.W.Frag}{cd:Value}{q:Str}(h:PySem.W.codeIn K cd q=true):PySem.W.kdsCode K cd=true:=by
 unfold PySem.W.codeIn at h;unfold PySem.W.kdsCode;split at h
 ·dsimp only;split at h
  ·rename_i e;rw[e]
  ·cases h
 ·cases h
theorem Px{N:List Str}{qual:Str}{scope:Scope}{f:Addr}{cd:Value}{A:Around}{outer:List Env}{s:Shared}{H:Hp}{E:XK}:Passes (ig Pg w) (mF (ig Pg w) Pg w K mg base N qual scope f cd A outer s H E) E:=λpins Z H1 s1 e s' I h=>by
 obtain⟨C,H',J,fl,hE⟩:=I.flew h;exact Ym J fl (λb o q=>I.base.there b o q (by intro z;cases z)) rfl rfl rfl hE
theorem Za{N:List Str}{qual:Str}{scope:Scope}{f:Addr}{cd:Value}{A:Around}{outer:List Env}{s:Shared}{H:Hp}{E:XK}:wq (mF (ig Pg w) Pg w K mg base N qual scope f cd A outer s H E) E:=λpins Z H1 s1 h' ea C vs I hm hE =>
 Xf I hm rfl rfl rfl hE
theorem OV{N:List Str}{qual:Str}{scope:Scope}{f:Addr}{cd:Value}{A:Around}{outer:List Env}{s:Shared}{H:Hp}{E:XK}:uk (mF (ig Pg w) Pg w K mg base N qual scope f cd A outer s H E) E:=λpins Z H1 H2 s1 s2 B ea C a0 I l hh hE =>
 leave_held I l hh rfl rfl rfl hE
theorem zW{k i:Nat}{m:ba}(hT:T i=some m){ds:List D}{g:G}{Q:KD}{E:KX}(h:b9 T k i ds g Q E):ds.length=m.ar:=by
 cases k with
 |zero=>exact h.elim
 |succ k =>
  obtain⟨m',e,h,_⟩:=h;rw[hT] at e;cases e;exact h
theorem Vd(lF:K.In base)(tG:base.Ns mainGlobals mg)(A:lz w K mg c T):∀(k i:Nat) d m f fd,T i=some m->iH K c d m f fd->gL Pg w K mg base (ig Pg w) (2*k) f fd d.ps (mQ c.exc K d.ps.length (b9 T k i)):=by
 intro k
 induction k with
 |zero =>
  intro i d m f fd hm O;refine⟨λvs H Q E h=>h.1,λA outer s H args us vs Q E _ _ _ _ h=>?_⟩;obtain⟨_,_,_,_,_,_,q⟩:=h;exact q.elim
 |succ k ih =>
  intro i d m f fd hm O;obtain⟨oc,od,kV,doc,pm,an,fA,ct,kl,rfl,lk,jW⟩:=O.fn.ex;refine Tn (k:=2*k+1) lk jW O.sc (λvs H Q E h=>h.1) (λA0 outer s H vs Q E hr h=>?_);obtain⟨hl,xs,g,ρ,rs,R,q⟩:=h;have C:gk (mF (ig Pg w) Pg w K mg base d.N d.qn (o6 d.st) f fA A0 outer s H E) (c.at d) (b9 T k) (c.exc,E):=by
   refine⟨rfl,O.sc.nd,λx h=>h,λx h=>h,λx h=>.inr h,λx h=>h,λx h=>?_,λ_ _=>rfl,rfl,?_,(λ_=>PassesOwn.leaving),a8 T k,A.con,A.blt,λx j hj=>?_,λx j hj=>?_,λx y j C' hj hC=>?_,A.lL,rfl,Px,λ_=>Za,λ_=>⟨rfl,rfl,OV⟩,λx hx=>?_,A.zm,A.oY,λ_=>My jW⟩
   ·rcases h with h|h
    ·exact Am h
    ·exact absurd rfl (O.sc.kC _ (aS h))
   ·have:=hr.un;show(A0.deeper _).units+100<cLine;omega
   ·obtain⟨d',m',f',nC,hT,O',hmg⟩:=A.fns x j hj;exact⟨2*k,f',nC,d'.ps,⟨ih j d' m' f' nC hT O',O'.bi,λEf g' Q' E' h'=>(zW hT h').trans O'.ar⟩,hr.mono (by omega),hmg,O'.fn.kp⟩
   ·obtain⟨C',d',m',f',nC,hT,O',hmg,hC,iT,M⟩:=A.cls x j hj;exact⟨2*k,C',f',nC,d'.ps,⟨ih j d' m' f' nC hT O',O'.bi,λEf g' Q' E' h'=>(zW hT h').trans O'.ar⟩,hr,hmg,hC,iT,M⟩
   ·obtain⟨d',m',f',nC,hT,O',M⟩:=A.mV x y j C' hj hC;exact⟨2*k,f',nC,d'.ps,M,⟨ih j d' m' f' nC hT O',O'.bi,λEf g' Q' E' h'=>(zW hT h').trans O'.ar⟩,hr.mono (by omega)⟩
   ·obtain⟨C,h1,h2,h3⟩:=A.zp x hx;exact⟨C,h1,h2,h3 base lF tG⟩
  refine⟨_,qD (snd (P:=b9 T k) 60 60 (aw _)) C O.co,?_⟩;obtain⟨m',e,q1,q⟩:=q;rw[hm] at e;cases e;refine⟨c8 m xs,g,ρ,?_,R,wpS_mono (a8 T k) m.body ⟨λ_ g'=>LQ K ρ H Q .bx g',LQ K ρ H Q,λ_ _=>False,λ_ _=>False⟩ _ _ _ _ _ ⟨λZ g' h bI H' dc e R' s'=>h bI H' _ e R' .bx,λd g' h=>h,λ_ _ h=>h.elim,λ_ _ h=>h.elim⟩ (λ_ _ z=>z) q⟩;have:=n9.start (n:=d.N.length) rs;unfold c8 L2.start;rw[O.nn];exact this
theorem MD{L k0:Nat}{H:Hp}{a:Addr}{ns:List Int}(hO:wV H)(hS:fo K H a (ns.map V.int))(h:b9 T k0 L [.ref 0] [.mq (ns.map .int)] (λd _=>d=.bl true) ie) :
  mQ exc K 1 (b9 T k0 L) [.ref a] H (λv _=>v=.bl true) λ_ _ _=>False:=by
 refine⟨rfl,[.ref 0],[.mq (ns.map .int)],[a],.cons (.ref rfl) .nil,⟨rfl,λi o b h1 h2=>?_,λi j l m b h1 h2 m1=>?_⟩,a8 T k0 _ _ _ _ _ _ _ (λd g' e bI H' v _ _ r=>?_) (λ_ _ z=>z.elim) h⟩
 ·cases i with
  |zero =>
   cases h1;cases h2;refine⟨_,?_,c7.ofInts ns⟩;rcases hS with(z|⟨o,z⟩)|z
   ·rcases hO a with q|⟨o,xs,q⟩
    ·rw[z] at q;cases q
    ·rw[z] at q;cases q
   ·exact .inl ⟨o,z⟩
   ·exact .inr z
  |succ i=>simp at h1
 ·cases i with
  |zero=>cases h1;cases m1
  |succ i=>simp at h1
 ·subst e;cases r
  rfl
end
end M

namespace M
open PySem L2
section
variable{P:fm}{Z:S}{g:G}{Q:KD}{E:KX}{N:Ends}{a b c o:ME}{x y:MS}{p:Pr}
theorem F3(h:N.nx Z g):wpS P .pass N Z g E:=h
theorem uj(h:wpS P x ⟨λgM g1=>wpS P y N gM g1 E,N.rt,N.bk,N.ct⟩ Z g E):wpS P (.seq x y) N Z g E:=h
theorem S0(h:wpS P x N Z g E):wpS P (.seq x .pass) N Z g E:=h
theorem OC(h:aX P a Z g (λ_ g1=>N.nx Z g1) E):wpS P (.expr a) N Z g E:=h
theorem vT{i:Nat}(h:aX P a Z g (λx g1=>N.nx (Z.set i (some x)) g1) E):wpS P (.set i a) N Z g E:=h
theorem Vb{t:MT}(h:aX P a Z g (λx g1=>iw t x Z λgM=>N.nx gM g1) E):wpS P (.jG t a) N Z g E:=h
theorem HK{o i:ME}(h:aX P a Z g (λx g1=>aX P o Z g1 (λy g2=>aX P i Z g2 (λz g3=>V6 y z x g3 λg4=>N.nx Z g4) E) E) E):wpS P (.eI o i a) N Z g E:=h
theorem OG{f:Str}{cs:List Str}(h:aX P a Z g (λx g1=>aX P o Z g1 (λy g2=>ui f cs y x g2 λg3=>N.nx Z g3) E) E):wpS P (.gp f cs o a) N Z g E:=h
theorem Bo(h:cW P c Z g (λt g1=>if t=true then wpS P x N Z g1 E else wpS P y N Z g1 E) E):wpS P (.ifs c x y) N Z g E:=h
theorem Bp(h:aX P a Z g N.rt E):wpS P (.ret a) N Z g E:=h
theorem QE{x:Str}(h:fC P a Z g (λvs g1=>vs.length<=1000/\E ⟨x⟩ g1) E):wpS P (.raise x a) N Z g E:=h
theorem Va{hs:List (Str×ME)}(h:wpS P x N Z g (lC P N (Z.map λ_=>none) E hs)):wpS P (.Z2 x hs) N Z g E:=h
theorem Tq{x:Xn}{y:Str}{e:ME}{r:List (Str×ME)}(hx:x.cls=y)(h:aX P e Z g N.rt ie):lC P N Z E ((y,e)::r) x g:=by unfold lC;rw[aK (.inl hx)];exact h
theorem w_var{i:Nat}{d:D}(e:Z[i]?=some (some d))(h:Q d g):aX P (.var i) Z g Q E:=by exact⟨d,e,h⟩
theorem w_lit{d:D}(h:Q d g):aX P (.lit d) Z g Q E:=h
theorem OF(h:fC P a Z g (λxs g1=>cH p xs g1 Q) E):aX P (.prim p a) Z g Q E:=h
theorem SM(h:cH p [] g Q):aX P (.prim p .nil) Z g Q E:=by exact h
theorem uE(h:aX P a Z g (λx g1=>cH p [x] g1 Q) E):aX P (.prim p (.cons a .nil)) Z g Q E:=by exact h
theorem uF(h:aX P a Z g (λx g1=>aX P b Z g1 (λy g2=>cH p [x,y] g2 Q) E) E):aX P (.prim p (.cons a (.cons b .nil))) Z g Q E:=by exact h
theorem QD{o1 o2:CmpOp}(h:aX P a Z g (λx g1=>aX P b Z g1 (λy g2=>cH (.cmp o1) [x,y] g2 λz g3=>∃t,z=.bl t/\if t=true then aX P c Z g3 (λw g4=>cH (.cmp o2) [y,w] g4 Q) E else Q (.bl false) g3) E) E):aX P (.chain o1 o2 a b c) Z g Q E:=h
theorem w_and(h:aX P a Z g (λx g1=>∃t,x=.bl t/\if t=true then aX P b Z g1 Q E else Q (.bl false) g1) E):aX P (.dw a b) Z g Q E:=h
theorem w_or(h:aX P a Z g (λx g1=>∃t,x=.bl t/\if t=true then Q (.bl true) g1 else aX P b Z g1 Q E) E):aX P (.iN a b) Z g Q E:=h
theorem w_not(h:aX P a Z g (λx g1=>∃t,x=.bl t/\Q (.bl (!t)) g1) E):aX P (.eB a) Z g Q E:=h
theorem w_ite(h:cW P c Z g (λt g1=>if t=true then aX P a Z g1 Q E else aX P b Z g1 Q E) E):aX P (.ite c a b) Z g Q E:=h
theorem wm{f:Nat}(h:fC P a Z g (λxs g1=>P f xs g1 Q E) E):aX P (.call f a) Z g Q E:=h
theorem OD{f:Nat}{c:Str}(h:fC P a Z g (λxs g1=>P f (.ref g1.length::xs) (g1++[.ins c []]) (λd g2=>d=.bx/\Q (.ref g1.length) g2) E) E):aX P (.make c f a) Z g Q E:=h
theorem OE(h:aX P o Z g (λx g1=>jV p x g1/\fC P a Z g1 (λxs g2=>cH p (x::xs) g2 Q) E) E):aX P (.dW p o a) Z g Q E:=h
theorem vS{Q:List D->G->Prop}(h:Q [] g):fC P .nil Z g Q E:=h
theorem S1{Q:List D->G->Prop}(h:aX P a Z g (λx g1=>fC P b Z g1 (λxs g2=>Q (x::xs) g2) E) E):fC P (.cons a b) Z g Q E:=h
theorem OI{Q:Bool->G->Prop}(h:cW P a Z g (λt g1=>if t=true then cW P b Z g1 Q E else Q false g1) E):cW P (.dw a b) Z g Q E:=h
theorem U'{Q:Bool->G->Prop}(h:cW P a Z g (λt g1=>if t=true then Q true g1 else cW P b Z g1 Q E) E):cW P (.iN a b) Z g Q E:=h
theorem OJ{Q:Bool->G->Prop}(h:cW P a Z g (λt g1=>Q (!t) g1) E):cW P (.eB a) Z g Q E:=h
theorem vU{Q:Bool->G->Prop}(h:Q true g):cW P .no Z g Q E:=h
theorem Bq{Q:Bool->G->Prop}(h:aX P a Z g (λx g1=>Z3 g1 x λb=>Q b g1) E):cW P (.fg a) Z g Q E:=h
end
section
variable{g:G}{Q:KD}{i j:Int}{kb:Bool->Prop}{t s:Bool}{l m:List D}
theorem SO(h:Q (.int (i+j)) g):cH (.bin .Add) [.int i,.int j] g Q:=⟨_,_,.inl ⟨i,j,_,rfl,rfl,rfl,rfl⟩,h⟩
theorem SQ(h:Q (.int (i-j)) g):cH (.bin .Sub) [.int i,.int j] g Q:=⟨_,_,.inl ⟨i,j,_,rfl,rfl,rfl,rfl⟩,h⟩
theorem Q4(c:pD i j)(h:Q (.int (i*j)) g):cH (.bin .Mult) [.int i,.int j] g Q:=⟨_,_,.inl ⟨i,j,_,rfl,⟨c,rfl⟩,rfl,rfl⟩,h⟩
theorem Q5(c:0<j)(h:Q (.int (i % j)) g):cH (.bin .Mod) [.int i,.int j] g Q:=⟨_,_,.inl ⟨i,j,_,rfl,⟨c,rfl⟩,rfl,rfl⟩,h⟩
theorem vG(c:zG i j)(h:Q (.int (i / j)) g):cH (.bin .FloorDiv) [.int i,.int j] g Q:=⟨_,_,.inl ⟨i,j,_,rfl,⟨c,rfl⟩,rfl,rfl⟩,h⟩
theorem Vc(h1:0<j)(h2:j<1073741824)(h:Q (.int (i / j)) g):cH (.bin .FloorDiv) [.int i,.int j] g Q:=vG ⟨h1,h2⟩ h
theorem AZ(c:my i j)(h:Q (.int (i ^ j.toNat)) g):cH (.bin .Pow) [.int i,.int j] g Q:=⟨_,_,.inl ⟨i,j,_,rfl,⟨c,rfl⟩,rfl,rfl⟩,h⟩
theorem qI{i j:Nat}(hi:g[i]?=some (.lst l))(hj:g[j]?=some (.lst m))(hl:l.length+m.length<=100000)(h:Q (.ref g.length) (g++[.lst (l++m)])):cH (.bin .Add) [.ref i,.ref j] g Q:=⟨_,_,.inr (.inl ⟨rfl,.inr (.inl ⟨i,j,l,m,rfl,hi,hj,hl,rfl,rfl⟩)⟩),h⟩
theorem UY(h:Q (.int (-i)) g):cH (.un .USub) [.int i] g Q:=⟨_,_,⟨rfl,i,rfl,rfl,rfl⟩,h⟩
theorem U1{op:CmpOp}{x y:D}{b:Bool}(hb:Fh g x y b op)(h:Q (.bl b) g):cH (.cmp op) [x,y] g Q:=⟨_,_,⟨x,y,b,rfl,hb,rfl,rfl⟩,h⟩
theorem Rp(h:Q (.bl (decide (i<j))) g):cH (.cmp .Lt) [.int i,.int j] g Q:=U1 ⟨i,j,rfl,rfl,rfl⟩ h
theorem Ro(h:Q (.bl (decide (i<=j))) g):cH (.cmp .LtE) [.int i,.int j] g Q:=U1 ⟨i,j,rfl,rfl,rfl⟩ h
theorem Rn(h:Q (.bl (decide (j<i))) g):cH (.cmp .Gt) [.int i,.int j] g Q:=U1 ⟨i,j,rfl,rfl,rfl⟩ h
theorem Rm(h:Q (.bl (decide (j<=i))) g):cH (.cmp .GtE) [.int i,.int j] g Q:=U1 ⟨i,j,rfl,rfl,rfl⟩ h
theorem zL{x y:D}(h:qr g x y λb=>Q (.bl b) g):cH (.cmp .Eq) [x,y] g Q:=let ⟨_,hb,h⟩:=h;U1 hb h
theorem zM{x y:D}(h:qr g x y λb=>Q (.bl (!b)) g):cH (.cmp .NotEq) [x,y] g Q:=let ⟨b,hb,h⟩:=h;U1 (b:=!b) (show tM g x y (!(!b)) from by rw[Bool.not_not];exact hb) h
theorem uy{x y:D}(h:oo g x y λb=>Q (.bl b) g):cH (.cmp .In) [x,y] g Q:=let ⟨_,hb,h⟩:=h;U1 (.inl hb) h
theorem SY{a n:Nat}{S:Int->Bool}(hg:g[a]?=some (.set S n))(h:Q (.bl (S i)) g):cH (.cmp .In) [.int i,.ref a] g Q:=U1 (.inr ⟨a,S,n,i,rfl,hg,rfl,rfl⟩) h
theorem pN{x y:D}(h:oo g x y λb=>Q (.bl (!b)) g):cH (.cmp .NotIn) [x,y] g Q:=let ⟨b,hb,h⟩:=h;U1 (b:=!b) (.inl (show inR g x y (!(!b)) from by rw[Bool.not_not];exact hb)) h
theorem EU(h:kb (decide (i=j))):qr g (.int i) (.int j) kb:=⟨_,.inl ⟨i,j,rfl,rfl,rfl⟩,h⟩
theorem En(h:kb (t==s)):qr g (.bl t) (.bl s) kb:=⟨_,.inr (.inl ⟨t,s,rfl,rfl,rfl⟩),h⟩
theorem Ut{x y:Str}(h:kb (decide (x=y))):qr g (.str x) (.str y) kb:=⟨_,.inr (.inr (.inl ⟨x,y,rfl,rfl,rfl⟩)),h⟩
theorem SV(h:Q (.bl (decide (i=j))) g):cH (.cmp .Eq) [.int i,.int j] g Q:=zL (EU h)
theorem EF(h:Q (.bl (!decide (i=j))) g):cH (.cmp .NotEq) [.int i,.int j] g Q:=zM (EU h)
theorem SU(h:Q (.bl (t==s)) g):cH (.cmp .Eq) [.bl t,.bl s] g Q:=zL (En h)
theorem Tg(h:Q (.bl (!(t==s))) g):cH (.cmp .NotEq) [.bl t,.bl s] g Q:=zM (En h)
theorem SW{p q:Str}(h:Q (.bl (decide (p=q))) g):cH (.cmp .Eq) [.str p,.str q] g Q:=zL (Ut h)
theorem pF{d:D}(h:Q (.bl (O4 d)) g):cH (.cmp .Is) [d,.bx] g Q:=U1 ⟨rfl,rfl⟩ h
theorem EE{d:D}(h:Q (.bl (!O4 d)) g):cH (.cmp .IsNot) [d,.bx] g Q:=U1 ⟨rfl,rfl⟩ h
theorem Ta(h:Q (.bl true) g):cH (.cmp .Is) [.bx,.bx] g Q:=pF h
theorem Tc(h:Q (.bl false) g):cH (.cmp .Is) [.int i,.bx] g Q:=pF h
theorem Tb(h:Q (.bl false) g):cH (.cmp .Is) [.bl t,.bx] g Q:=pF h
theorem Te{x:Str}(h:Q (.bl false) g):cH (.cmp .Is) [.str x,.bx] g Q:=pF h
theorem Tf(h:Q (.bl false) g):cH (.cmp .Is) [.tup l,.bx] g Q:=pF h
theorem Td{n:Nat}(h:Q (.bl false) g):cH (.cmp .Is) [.ref n,.bx] g Q:=pF h
theorem SX(h:Q (.bl false) g):cH (.cmp .IsNot) [.bx,.bx] g Q:=EE h
theorem SH(h:kb t):Z3 g (.bl t) kb:=⟨t,.inr (.inl rfl),h⟩
theorem UQ(h:kb (i != 0)):Z3 g (.int i) kb:=⟨_,.inr (.inr (.inl ⟨i,rfl,rfl⟩)),h⟩
theorem UR{i:Nat}(hl:d0 g i=some l)(h:kb (!l.isEmpty)):Z3 g (.ref i) kb:=⟨_,.inr (.inr (.inr (.inr ⟨i,l,rfl,hl,rfl⟩))),h⟩
theorem zU{t:Bool}{p:Bool->Prop}(h:p t):∃s,D.bl t=D.bl s/\p s:=⟨t,rfl,h⟩
theorem Mr{p:Int->Prop}(h:p i):∃s,D.int i=D.int s/\p s:=⟨i,rfl,h⟩
theorem if2{c:Prop}[Decidable c]{A B:Prop}(h1:c->A)(h2:¬c->B):if decide c=true then A else B:=by
 by_cases h:c
 ·rw[aK (az h)];exact h1 h
 ·rw[aC (by rw[aE h];decide)];exact h2 h
theorem jz{A B:Prop}(h:A):if true=true then A else B:=by rw[aK rfl];exact h
theorem mI{A B:Prop}(h:B):if false=true then A else B:=by rw[aC (by decide)];exact h
theorem Fl{A B:Prop}(h:A):if(!false)=true then A else B:=by rw[aK (show(!false)=true from rfl)];exact h
theorem RB{A B:Prop}(h:B):if(!true)=true then A else B:=by rw[aC (by decide)];exact h
theorem fj{b:Bool}{A B:Prop}(hb:b=false)(h:B):if b=true then A else B:=by rw[hb];exact mI h
theorem gh{b:Bool}{A B:Prop}(hb:b=true)(h:A):if b=true then A else B:=by rw[hb];exact jz h
theorem n5{a:Nat}{d:D}(hl:d0 g a=some l)(h2:fI l i=some d)(h:Q d g):cH .ix [.ref a,.int i] g Q:=⟨_,_,⟨rfl,.inl ⟨_,l,i,rfl,hl,h2⟩⟩,h⟩
theorem p8{d:D}(h2:fI l i=some d)(h:Q d g):cH .ix [.tup l,.int i] g Q:=⟨_,_,⟨rfl,.inl ⟨_,l,i,rfl,rfl,h2⟩⟩,h⟩
theorem wZ{i:Nat}{kvs:List (Key×D)}{y v:D}{k:Key}(hg:g[i]?=some (.ei kvs))(hk:W7 y=some k)(hv:t8 kvs k=some v)(h:Q v g):cH .ix [.ref i,y] g Q:=⟨_,_,⟨rfl,.inr (.inl ⟨i,kvs,y,k,rfl,hg,hk,hv⟩)⟩,h⟩
theorem U3{a n:Nat}{v:D}{kg:G->Prop}(hl:g[a]?=some (.lst l))(hn:jx l.length i=some n)(h:kg (g.set a (.lst (l.set n v)))):V6 (.ref a) (.int i) v g kg:=⟨_,.inl ⟨a,i,l,n,rfl,rfl,hl,hn,rfl⟩,h⟩
theorem EW{i:Nat}{kvs:List (Key×D)}{y v:D}{k:Key}{kg:G->Prop}(hg:g[i]?=some (.ei kvs))(hk:W7 y=some k)(hl:kvs.length<100000)(h:kg (g.set i (.ei (putD kvs k v)))):V6 (.ref i) y v g kg:=⟨_,.inr ⟨i,kvs,k,rfl,hg,hk,hl,rfl⟩,h⟩
theorem Z5{f c:Str}{cs:List Str}{a:Nat}{fs:List (Str×D)}{v:D}{kg:G->Prop}(hg:g[a]?=some (.ins c fs))(hc:c∈cs)(hl:fs.length<100)(h:kg (g.set a (.ins c (j9 f v fs)))):ui f cs (.ref a) v g kg:=⟨_,⟨a,c,fs,rfl,hg,hc,hl,rfl⟩,h⟩
theorem T8{f c:Str}{a:Nat}{fs:List (Str×D)}{d:D}(hg:g[a]?=some (.ins c fs))(hf:fs.lookup f=some d)(h:Q d g):cH (.fld f) [.ref a] g Q:=⟨_,_,⟨a,c,fs,rfl,hg,hf,rfl⟩,h⟩
theorem a7{a:Nat}(h:g[a]?=some (.lst l)):d0 g a=some l:=by simp only[d0,h,BD]
theorem a05{a:Nat}(h:g[a]?=some (.mq l)):d0 g a=some l:=by simp only[d0,h,BD]
theorem J1{a:Nat}(hl:d0 g a=some l)(h:Q (.int l.length) g):cH .len [.ref a] g Q:=⟨_,_,⟨rfl,.inl ⟨_,l,rfl,hl,rfl⟩⟩,h⟩
theorem GW{a:Nat}(hl:d0 g a=some l)(h:Q (.ref g.length) (g++[.lst (cut l none (some i))])):cH (.lE false true) [.ref a,.int i] g Q:=⟨_,_,⟨_,i,rfl,.inr ⟨a,l,rfl,hl,rfl,rfl⟩⟩,h⟩
theorem Bj(hl:l.length<=1000)(h:Q (.tup l) g):cH .tup l g Q:=⟨_,_,⟨hl,rfl,rfl⟩,h⟩
theorem Bi(hl:l.length<=1000)(h:Q (.ref g.length) (g++[.lst l])):cH .lst l g Q:=⟨_,_,⟨hl,rfl,rfl⟩,h⟩
theorem ER{a:Nat}(hl:d0 g a=some l)(h:Q (.ref g.length) (g++[.lst l])):cH .list [.ref a] g Q:=⟨_,_,⟨_,l,rfl,hl,rfl,rfl⟩,h⟩
theorem UW{a:Nat}(hl:d0 g a=some l)(h:Q (.tup l) g):cH .tuple [.ref a] g Q:=⟨_,_,⟨_,l,rfl,hl,rfl,rfl⟩,h⟩
theorem fS{d:D}{c:String}{b:Bool}(hc:c∈["int","bool","str","tuple","list"])(hb:pH g d c=some b)(h:Q (.bl b) g):cH .isin [d,.ty c] g Q:=⟨_,_,⟨d,c,b,rfl,hc,hb,rfl,rfl⟩,h⟩
theorem P8{i:Nat}{y:D}(hg:g[i]?=some (.lst l))(hl:l.length<100000)(h:Q .bx (g.set i (.lst (l++[y])))):cH .append [.ref i,y] g Q:=⟨_,_,⟨i,y,l,rfl,hg,hl,rfl,rfl⟩,h⟩
theorem TR{i j:Nat}{y:D}{n:Int}(hg:g[i]?=some (.lst l))(hn:n=j)(hj:l[j]?=some y)(hl:l.length<100000)(h:Q y (g.set i (.lst (l.eraseIdx j)))):cH .pop [.ref i,.int n] g Q:=by
 have dj:=(ak.mp hj).1;refine⟨_,_,⟨i,n,l,j,rfl,hg,by omega,by omega,?_,hj,rfl⟩,h⟩;rw[hn];exact PySem.StrLaws.seqIndex_nonneg (by omega) (by omega) |>.trans (by simp)
theorem Bf{i:Nat}{kvs:List (Key×D)}{y z:D}{k:Key}(hg:g[i]?=some (.ei kvs))(hk:W7 y=some k)(h:Q ((t8 kvs k).getD z) g):cH .get [.ref i,y,z] g Q:=⟨_,_,⟨i,y,z,kvs,k,rfl,hg,hk,rfl,rfl⟩,h⟩
theorem MN{a:Nat}{l:List D}(hl:d0 g a=some l):jV .index (.ref a) g:=.inr ⟨a,l,rfl,hl⟩
theorem TQ{a:Nat}{l:List D}{y:D}{n:Nat}(hl:d0 g a=some l)(W:Bt l y n)(hz:l.length<=100000)(h:Q (.int n) g):cH .index [.ref a,y] g Q:=⟨_,_,⟨_,y,l,n,rfl,hl,W,hz,rfl,rfl⟩,h⟩
theorem Vp{i j:Int}(h:Q (.int (i+j)) g):cH .iadd [.int i,.int j] g Q:=⟨_,_,.inl ⟨i,j,rfl,rfl,rfl⟩,h⟩
theorem SS{i:Nat}{v:Bool}{l:List D}(hl:d0 g i=some l)(hv:V2 l=some v)(h:Q (.bl v) g):cH .any [.ref i] g Q:=⟨_,_,⟨i,l,v,rfl,hl,hv,rfl,rfl⟩,h⟩
theorem Y0{i:Nat}(hg:g[i]?=some (.lst l)):jV .append (.ref i) g:=⟨i,l,rfl,a7 hg⟩
theorem MO{i:Nat}(hg:g[i]?=some (.lst l)):jV .pop (.ref i) g:=⟨i,l,rfl,a7 hg⟩
theorem RK{i:Nat}{l:List (Key×D)}(hg:g[i]?=some (.ei l)):jV .get (.ref i) g:=⟨i,l,rfl,hg⟩
theorem qb{j:Int}(h1:-(2 ^ 62)<=j)(h2:j<=100000)(h:Q (.ref g.length) (g++[.lst (i3 0 j.toNat)])):cH .gU [.int j] g Q:=⟨_,_,⟨j,rfl,h1,h2,rfl,rfl⟩,h⟩
theorem rQ{i j:Int}(h1:-(2 ^ 62)<=i/\i<2 ^ 62/\-(2 ^ 62)<=j/\j<2 ^ 62/\j-i<=100000)(h:Q (.ref g.length) (g++[.lst (i3 i (j-i).toNat)])):cH .je [.int i,.int j] g Q:=⟨_,_,⟨i,j,rfl,h1,rfl,rfl⟩,h⟩
theorem GP{a:Nat}{ns:List Int}(hl:d0 g a=some (ns.map .int))(hz:ns.length<60)(h:Q (.ref g.length) (g++[.lst ((n8 ns).map .int)])):cH .sset [.ref a] g Q:=⟨_,_,⟨a,ns,rfl,hl,hz,rfl,rfl⟩,h⟩
theorem mG(h:Q (.ref g.length) (g++[.ei []])):cH .mG [] g Q:=⟨_,_,⟨rfl,rfl,rfl⟩,h⟩
theorem max2{i j:Int}(h:Q (.int (if j>i then j else i)) g):cH .max [.int i,.int j] g Q:=⟨_,_,⟨rfl,.inl ⟨i,j,rfl,rfl⟩⟩,h⟩
theorem TU{a:Nat}{ns:List Int}{M:Int}(hl:d0 g a=some (ns.map .int))(h1:M∈ns)(h2:∀x∈ns,x<=M)(h:Q (.int M) g):cH .max [.ref a] g Q:=⟨_,_,⟨rfl,.inr ⟨a,ns,M,rfl,hl,h1,h2,rfl⟩⟩,h⟩
theorem TV{a:Nat}{ns:List Int}{M:Int}(hl:d0 g a=some (ns.map .int))(h1:M∈ns)(h2:∀x∈ns,M<=x)(h:Q (.int M) g):cH .min [.ref a] g Q:=⟨_,_,⟨rfl,.inr ⟨a,ns,M,rfl,hl,h1,h2,rfl⟩⟩,h⟩
theorem MK{a n:Nat}{i:Int}{S:Int->Bool}(hg:g[a]?=some (.set S n))(hn:n+1<4096)(h:Q .bx (g.set a (.set (λk=>S k||decide (k=i)) (if S i then n else n+1)))):cH .iY [.ref a,.int i] g Q:=⟨_,_,⟨a,i,S,n,rfl,hg,hn,rfl,rfl⟩,h⟩
theorem Ph{a n:Nat}{S:Int->Bool}(hg:g[a]?=some (.set S n)):jV .iY (.ref a) g:=⟨a,S,n,rfl,hg⟩
theorem Pw{i:Int}(h:Q (.ref g.length) (g++[.set (λk=>decide (k=i)) 1])):cH (.iX i) [] g Q:=⟨_,_,⟨rfl,rfl,rfl⟩,h⟩
theorem Fc{a:Nat}{ns:List Int}(hl:d0 g a=some (ns.map .int))(h:Q (.int ns.sum) g):cH .sum [.ref a] g Q:=⟨_,_,⟨a,ns,rfl,hl,rfl,rfl⟩,h⟩
theorem MI{a:Nat}{ns:List Int}(hl:d0 g a=some (ns.map .int))(hz:ns.length<60)(h:Q (.int (ST.i9 [] ns).length) g):cH .nJ [.ref a] g Q:=⟨_,_,⟨a,ns,rfl,hl,hz,rfl,rfl⟩,h⟩
theorem SR{a:Nat}{ns:List Int}(hl:d0 g a=some (ns.map .int))(h:Q (.bl (ns.all λn=>n != 0)) g):cH .all [.ref a] g Q:=⟨_,_,⟨a,_,_,rfl,hl,.inr ⟨ns,rfl,rfl⟩,rfl,rfl⟩,h⟩
theorem Ba{i j:Int}(c:my i j)(h:Q (.int (i*2 ^ j.toNat)) g):cH (.bin .LShift) [.int i,.int j] g Q:=⟨_,_,.inl ⟨i,j,_,rfl,⟨c,rfl⟩,rfl,rfl⟩,h⟩
theorem uc{i j:Int}(h:Q (.int (Builtin.bitAnd i j)) g):cH (.bin .BitAnd) [.int i,.int j] g Q:=⟨_,_,.inl ⟨i,j,_,rfl,rfl,rfl,rfl⟩,h⟩
theorem Rf{i j:Int}(h:Q (.int (Builtin.bitOr i j)) g):cH (.bin .BitOr) [.int i,.int j] g Q:=⟨_,_,.inl ⟨i,j,_,rfl,rfl,rfl,rfl⟩,h⟩
theorem Hd{P:fm}{Z:S}{E:KX}{N:Ends}{i:Nat}{p:Pr}{v:ME}{x:D}(e:Z[i]?=some (some x))(h:aX P v Z g (λz g1=>cH p [x,z] g1 λw g2=>N.nx (Z.set i (some w)) g2) E):wpS P (.jk i p v) N Z g E:=⟨x,e,h⟩
theorem Mu{i j:Int}(h:Q (.int (i-j)) g):cH .kH [.int i,.int j] g Q:=⟨_,_,⟨i,j,rfl,rfl,rfl⟩,h⟩
theorem min2{i j:Int}(h:Q (.int (if j<i then j else i)) g):cH .min [.int i,.int j] g Q:=⟨_,_,⟨rfl,.inl ⟨i,j,rfl,rfl⟩⟩,h⟩
theorem Tu{v:Bool}(h:Q (.int (if v then 1 else 0)) g):cH .int [.bl v] g Q:=⟨_,_,⟨rfl,.inr ⟨v,rfl,rfl⟩⟩,h⟩
theorem EL{kvs:List D}{x:Str}{v:D}(hv:O3 kvs x=some v)(h:Q v g):cH .lp [.tup kvs,.str x] g Q:=⟨_,_,⟨kvs,x,rfl,hv,rfl⟩,h⟩
theorem Ru{i:Int}(hi:i.natAbs.log2<1920)(h:Q (.str (toString i)) g):cH .fv [.int i] g Q:=⟨_,_,⟨rfl,.inl ⟨i,rfl,hi,rfl⟩⟩,h⟩
theorem Nd{x:Str}(hx:U8 l=some x)(h:Q (.str x) g):cH .jY l g Q:=⟨_,_,⟨x,hx,rfl,rfl⟩,h⟩
theorem vH{i:Nat}{v:Bool}(hl:d0 g i=some l)(hv:V4 l=some v)(h:Q (.bl v) g):cH .all [.ref i] g Q:=⟨_,_,⟨i,l,v,rfl,hl,.inl hv,rfl,rfl⟩,h⟩
theorem f9{i:Nat}{x:D}{Z:S}{k:S->Prop}(h:k (Z.set i (some x))):iw (.one i) x Z k:=h
theorem B0{is:List Nat}{Z bU:S}{k:S->Prop}(e:E4 is l Z=some bU)(h:k bU):iw (.many is) (.tup l) Z k:=⟨l,bU,rfl,e,h⟩
end
theorem V3:∀(bs:List Bool),V4 (bs.map D.bl)=some (bs.all id):=by
 intro bs
 induction bs with
 |nil=>rfl
 |cons b r ih=>simp[V4,ih]
theorem call_of{T:Nat->Option ba}{k f:Nat}{m:ba}{ds:List D}{g:G}{Q:KD}{E:KX}(hT:T f=some m)(hl:ds.length=m.ar)(h:wpS (b9 T k) m.body ⟨λ_ g'=>Q .bx g',Q,λ_ _=>False,λ_ _=>False⟩ (c8 m ds) g E):b9 T (k+1) f ds g Q E:=⟨m,hT,hl,h⟩
def IK.Is(k:IK)(l:List D)(g:G):Prop:=∀i,k.at i g=some l[i]?
theorem q9{l:List D}{g:G}:(IK.fix l).Is l g:=λ_=>rfl
theorem j8{a:Nat}{l:List D}{g:G}(h:d0 g a=some l):(IK.lst a).Is l g:=λi=>by simp only[IK.at,h]
def kn(l:List D):List D:=l.mapIdx λi d=>.tup [.int i,d]
theorem vZ{a:Nat}{l:List D}{g:G}(h:d0 g a=some l):(IK.mr a).Is (kn l) g:=λi=>by
 simp only[IK.at,h,kn,List.getElem?_mapIdx]
theorem Mv{a:Nat}{l:List D}{g:G}(h:d0 g a=some l):(IK.pX a l.length).Is l.reverse g:=λi=>by
 simp only[IK.at,h,if_true];by_cases hi:i<l.length
 ·rw[aK hi,List.getElem?_reverse hi]
 ·rw[aC hi,aP (by simpa using hi)]
theorem N1(l:List D):(kn l).length=l.length:=by simp[kn]
theorem wz{l:List D}{i:Nat}{x:D}(h:(kn l)[i]?=some x):∃d,l[i]?=some d/\x=.tup [.int i,d]:=by
 rw[kn,List.getElem?_mapIdx,aa] at h;obtain⟨d,h1,h2⟩:=h;exact⟨d,h1,h2.symm⟩
theorem x3{lo:Int}{n i:Nat}{x:D}(h:(i3 lo n)[i]?=some x):i<n/\x=.int (lo+i):=by
 unfold i3 at h;have hi:i<n:=by
  have:=(ak.mp h).1;simpa using this
 rw[ag,bC hi] at h;cases h;exact⟨hi,rfl⟩
theorem j7(lo:Int)(n:Nat):(i3 lo n).length=n:=by simp[i3]
section
variable{P:fm}{Z:S}{g:G}{E:KX}{N:Ends}{it a b c o:ME}{s:MS}{t:MT}{Q:KD}
theorem Ip{k:IK}{l:List D}{fin:S->G->Prop}{turn:D->(S->G->Prop)->S->G->Prop}(I:Nat->S->G->Prop)(hk:∀i Z g,I i Z g->k.Is l g)(h0:I 0 Z g)(hs:∀i x Z g,l[i]?=some x->I i Z g->turn x (I (i+1)) Z g)(hd:∀Z g,I l.length Z g->fin Z g):turns k Z g fin turn:=by
 refine⟨λi m Z g=>m=l.length-i/\i<=l.length/\I i Z g,⟨l.length,by simp,cJ _,h0⟩,?_⟩;rintro i m Z g ⟨rfl,hi,p⟩;rw[hk i Z g p i];by_cases dj:i<l.length
 ·rw[ai dj];exact .inr ⟨_,rfl,I (i+1),λbU g' p'=>⟨l.length-(i+1),by omega,rfl,dj,p'⟩,hs i l[i] Z g (ai dj) p⟩
 ·have e:i=l.length:=by omega
  subst e;rw[aP (aw _)];exact .inl ⟨rfl,hd Z g p⟩
theorem u9(hP:i0 P)(h:fZ P it Z g (λk g1=>∃(l:List D) (I:Nat->S->G->Prop),(∀i Z g,I i Z g->k.Is l g)/\I 0 Z g1 /\
      (∀ i x Z g,l[i]?=some x->I i Z g->iw t x Z λcC=>wpS P s ⟨I (i + 1),N.rt,N.nx,I (i + 1)⟩ cC g E)/\∀ Z g,I l.length Z g->N.nx Z g) E):wpS P (.cU t it s) N Z g E :=
  A5 hP it _ _ _ _ _ _ (λk g1 hq=>by obtain⟨l,I,hk,h0,hs,hd⟩:=hq;exact Ip I hk h0 hs hd) (λ_ _ z=>z) h
theorem WM{n:Nat}(hn:(n:Int)<2 ^ 62)(I:Nat->S->G->Prop)(h0:I 0 Z g)(hs:∀(i:Nat) Z g,i<n->I i Z g->iw t (.int i) Z λcC=>wpS P s ⟨I (i+1),N.rt,N.nx,I (i+1)⟩ cC g E)(hd:∀Z g,I n Z g->N.nx Z g):wpS P (.cU t (.dX (.lit (.int n))) s) N Z g E:=by
 refine⟨n,rfl,by omega,hn,Ip (l:=i3 0 n) I (λ_ _ _ _=>q9) h0 (λi x Z g hx p=>?_) (λZ g p=>hd Z g (by rw[j7] at p;exact p))⟩;obtain⟨hi,rfl⟩:=x3 hx;have:=hs i Z g hi p;rw[show(0:Int)+(i:Int)=i by omega];exact this
theorem F4{d4:List Nat}{n:Nat}{cond elt:ME}(hP:i0 P)(h:fZ P it Z g (λk g1=>∃(l:List D) (I:Nat->List D->S->G->Prop),l.length<=1000/\(∀i ys Z g,I i ys Z g->k.Is l g/\ys.length<=i)/\I 0 [] (F2 Z d4 n) g1 /\
      (∀i x ys Z g,l[i]?=some x->I i ys Z g->iw t x Z λcC=>cW P cond cC g (λc g3=>if c=true then aX P elt cC g3 (λy g4=>I (i+1) (ys++[y]) cC g4) ie else I (i+1) ys cC g3) ie) /\
      ∀ ys Z g,I l.length ys Z g->Q (.ref g.length) (g ++ [.lst ys])) E):aX P (.comp d4 n t it cond elt) Z g Q E:=by
  refine A5 hP it _ _ _ _ _ _ (λk g1 h=>?_) (λ_ _ z=>z) h;obtain⟨l,I,hl,hk,h0,hs,hd⟩:=h;refine⟨λi m ys Z g=>m=l.length-i/\i<=l.length/\I i ys Z g,⟨l.length,by simp,cJ _,h0⟩,?_⟩;rintro i m ys Z g ⟨rfl,hi,p⟩;obtain⟨lH,hy⟩:=hk i ys Z g p;rw[lH i];by_cases dj:i<l.length
  · rw[ai dj];refine .inr ⟨_,rfl,by omega,x6 (λcC q=>p6 hP cond _ _ _ _ _ _ (λc g3 q=>?_) (λ_ _ z=>z) q) (hs i l[i] ys Z g (ai dj) p)⟩;cases c
    · exact⟨l.length-(i+1),by omega,rfl,dj,by simpa using(show I (i+1) ys cC g3 from q)⟩
    · exact c5 hP elt _ _ _ _ _ _ (λy g4 q=>⟨l.length-(i+1),by omega,rfl,dj,by simpa using q⟩) (λ_ _ z=>z) q
  · have e:i=l.length:=by omega
    subst e;rw[aP (aw _)];exact .inl ⟨rfl,hd ys Z g p⟩
theorem QF{d4:List Nat}{n:Nat}{cond elt:ME}(hP:i0 P)(h:fZ P it Z g (λk g1=>∃(l:List D) (I:Nat->List Int->S->G->Prop),l.length<60/\(∀i ys Z g,I i ys Z g->k.Is l g/\ys.length<=i)/\I 0 [] (F2 Z d4 n) g1 /\
      (∀i x ys Z g,l[i]?=some x->I i ys Z g->iw t x Z λcC=>cW P cond cC g (λc g3=>if c=true then aX P elt cC g3 (λy g4=>∃j,y=.int j/\I (i+1) (ys++[j]) cC g4) ie else I (i+1) ys cC g3) ie) /\
      ∀ ys Z g,I l.length ys Z g->Q (.ref g.length) (g ++ [.lst ((n8 ys).map .int)])) E):aX P (.gg d4 n t it cond elt) Z g Q E:=by
  refine A5 hP it _ _ _ _ _ _ (λk g1 h=>?_) (λ_ _ z=>z) h;obtain⟨l,I,hl,hk,h0,hs,hd⟩:=h;refine⟨λi m ys Z g=>m=l.length-i/\i<=l.length/\I i ys Z g,⟨l.length,by simp,cJ _,h0⟩,?_⟩;rintro i m ys Z g ⟨rfl,hi,p⟩;obtain⟨lH,hy⟩:=hk i ys Z g p;rw[lH i];by_cases dj:i<l.length
  · rw[ai dj];refine .inr ⟨_,rfl,by omega,x6 (λcC q=>p6 hP cond _ _ _ _ _ _ (λc g3 q=>?_) (λ_ _ z=>z) q) (hs i l[i] ys Z g (ai dj) p)⟩;cases c
    · exact⟨l.length-(i+1),by omega,rfl,dj,by simpa using(show I (i+1) ys cC g3 from q)⟩
    · refine c5 hP elt _ _ _ _ _ _ (λy g4 q=>?_) (λ_ _ z=>z) q;obtain⟨j,e,q⟩:=q;exact⟨j,e,l.length-(i+1),by omega,rfl,dj,by simpa using q⟩
  · have e:i=l.length:=by omega
    subst e;rw[aP (aw _)];exact .inl ⟨rfl,by omega,hd ys Z g p⟩
theorem XH{d4:List Nat}{n:Nat}{cond elt:ME}(hP:i0 P)(h:aX P a Z g (λx g1=>∃j:Nat,x=.int j/\j<=1000/\∃I:Nat->List D->S->G->Prop,I 0 [] (F2 Z d4 n) g1/\(∀i ys Z g,I i ys Z g->ys.length<=i) /\
      (∀(i:Nat) ys Z g,i<j->I i ys Z g->iw t (.int i) Z λcC=>cW P cond cC g (λc g3=>if c=true then aX P elt cC g3 (λy g4=>I (i+1) (ys++[y]) cC g4) ie else I (i+1) ys cC g3) ie) /\
      ∀ ys Z g,I j ys Z g->Q (.ref g.length) (g ++ [.lst ys])) E):aX P (.comp d4 n t (.dX a) cond elt) Z g Q E:=by
  refine F4 hP ?_;refine c5 hP a _ _ _ _ _ _ (λx g1 h=>?_) (λ_ _ z=>z) h;obtain⟨j,rfl,hj,I,h0,hz,hs,hd⟩:=h;refine⟨j,rfl,by omega,by omega,_,I,by rw[j7];simpa using hj,λi ys Z g p=>⟨q9,hz i ys Z g p⟩,h0,λi x ys Z g hx p=>?_,λys Z g p=>hd ys Z g (by rw[j7] at p;simpa using p)⟩;obtain⟨hi,rfl⟩:=x3 hx;rw[show(0:Int)+(i:Int)=i by omega];exact hs i ys Z g (by simpa using hi) p
theorem XI{d4:List Nat}{n:Nat}{cond elt:ME}(hP:i0 P)(h:aX P a Z g (λx g1=>∃l,x=.tup l/\l.length<=1000/\∃I:Nat->List D->S->G->Prop,I 0 [] (F2 Z d4 n) g1/\(∀i ys Z g,I i ys Z g->ys.length<=i) /\
      (∀(i:Nat) x ys Z g,l[i]?=some x->I i ys Z g->iw t x Z λcC=>cW P cond cC g (λc g3=>if c=true then aX P elt cC g3 (λy g4=>I (i+1) (ys++[y]) cC g4) ie else I (i+1) ys cC g3) ie) /\
      ∀ ys Z g,I l.length ys Z g->Q (.ref g.length) (g ++ [.lst ys])) E):aX P (.comp d4 n t (.eK a) cond elt) Z g Q E:=by
  refine F4 hP ?_;refine c5 hP a _ _ _ _ _ _ (λx g1 h=>?_) (λ_ _ z=>z) h;obtain⟨l,rfl,hj,I,h0,hz,hs,hd⟩:=h;exact .inl ⟨l,rfl,_,I,hj,λi ys Z g p=>⟨q9,hz i ys Z g p⟩,h0,hs,hd⟩
theorem HL(I:Nat->S->G->Prop)(m0:Nat)(h0:I m0 Z g)(hs:∀m Z g,I m Z g->cW P c Z g (λt g1=>if t=true then wpS P s ⟨λbU g'=>∃m',m'<m/\I m' bU g',N.rt,N.nx,λbU g'=>∃m',m'<m/\I m' bU g'⟩ Z g1 E else N.nx Z g1) E)(hP:i0 P):wpS P (.iW c s) N Z g E:=by
 refine⟨I,⟨m0,h0⟩,λm Z g p=>p6 hP c _ _ _ _ _ _ (λt g1 q=>?_) (λ_ _ z=>z) (hs m Z g p)⟩;cases t
 ·exact q
 ·exact⟨_,λ_ _ z=>z,q⟩
theorem W9(hP:i0 P){R:IK->G->Prop}(h:aX P a Z g (λx g1=>∃j:Int,x=.int j/\-(2 ^ 62)<=j/\j<2 ^ 62/\R (.fix (i3 0 j.toNat)) g1) E):fZ P (.dX a) Z g R E:=h
theorem sf(hP:i0 P){R:IK->G->Prop}(h:aX P a Z g (λx g1=>∃l,x=.tup l/\R (.fix l) g1) E):fZ P (.eK a) Z g R E:=by
 exact c5 hP a _ _ _ _ _ _ (λx g1 h=>.inl h) (λ_ _ z=>z) h
theorem jm(hP:i0 P){R:IK->G->Prop}(h:aX P a Z g (λx g1=>∃i l,x=.ref i/\d0 g1 i=some l/\R (.lst i) g1) E):fZ P (.eK a) Z g R E:=by
 exact c5 hP a _ _ _ _ _ _ (λx g1 h=>.inr h) (λ_ _ z=>z) h
theorem JJ{R:IK->G->Prop}(h:aX P a Z g (λx g1=>∃i l,x=.ref i/\d0 g1 i=some l/\R (.pX i l.length) g1) E):fZ P (.lG a) Z g R E:=h
theorem xQ{R:IK->G->Prop}(h:aX P a Z g (λx g1=>∃i l,x=.ref i/\d0 g1 i=some l/\R (.mr i) g1) E):fZ P (.jy a) Z g R E:=h
end
end M

namespace M
open PySem L2 PySem.Spec PyProof.Rows
structure RF where
 id:Nat
 nm:Str
 N:List Str
 k:Nat
 i:Nat
 m:ba
structure RM where
 id:Nat
 cl:Str
 nm:Str
 qn:Str
 N:List Str
 k:Nat
 i:Nat
 j:Nat
 m:ba
def RF.d(tp:Nat->Stmt)(r:RF):mK:=⟨r.nm,r.nm,r.N,r.N.take r.k,tp r.i⟩
def RM.d(mt:Nat->Nat->Stmt)(r:RM):mK:=⟨r.nm,r.qn,r.N,r.N.take r.k,mt r.i r.j⟩
def qG(F:List RF)(M:List RM)(i:Nat):Option ba:=match F.find? λr=>Nat.beq r.id i with
 |some r=>some r.m
 |none=>(M.find? λr=>Nat.beq r.id i).map (·.m)
section
variable(tp:Nat->Stmt)(mt:Nat->Nat->Stmt)(K:PySem.W.Frag)
def PF:List RF->Prop
 |[]=>True
 |r::l=>(∃f fd,PySem.W.nsIn K mainGlobals r.nm=some (some (.ref f))/\nN K r.nm r.nm (tp r.i) f fd)/\PF l
def PM:List RM->Prop
 |[]=>True
 |r::l=>(∃C f fd,PySem.W.nsIn K mainGlobals r.cl=some (some (.ref C))/\Meth K C r.nm f/\nN K r.nm r.qn (mt r.i r.j) f fd)/\PM l
def PC:List (Str×Nat)->Prop
 |[]=>True
 |r::l=>(∃C,PySem.W.nsIn K mainGlobals r.1=some (some (.ref C))/\iU K C/\PySem.W.makesIn K C=true/\PySem.W.keepIn K (.ref C)=true)/\PC l
def PA:List (Str×Str)->Prop
 |[]=>True
 |r::l=>(∃C,PySem.W.nsIn K mainGlobals r.2=some (some (.ref C))/\PySem.W.findIn K (.ref C) r.1=some none)/\PA l
def PB:List Str->Prop
 |[]=>True
 |r::l=>PySem.W.nsIn K mainGlobals r=some none/\PB l
def PX:List Str->Prop
 |[]=>True
 |r::l=>(∃C,PySem.W.nsIn K mainGlobals r=some (some (.ref C))/\PySem.W.excIn K C [.type "ValueError",.type "Exception",.type "BaseException",.type "object"] "ValueError.__new__"=true)/\PX l
def BF:List RF->Prop
 |[]=>True
 |r::l=>(∀(kV doc pm:Value) (an:Option Addr) (fA ct:Value) (us:List Value),us.length=(r.N.take r.k).length->bindArgs (PySem.W.fnOf r.nm r.nm (B3 (tp r.i)) (o8 (tp r.i)) (o6 (tp r.i)) .none kV doc pm an fA ct) ⟨us,[]⟩=pure ((r.N.take r.k).zip us))/\BF l
def BM:List RM->Prop
 |[]=>True
 |r::l=>(∀(kV doc pm:Value) (an:Option Addr) (fA ct:Value) (us:List Value),us.length=(r.N.take r.k).length->bindArgs (PySem.W.fnOf r.nm r.qn (B3 (mt r.i r.j)) (o8 (mt r.i r.j)) (o6 (mt r.i r.j)) .none kV doc pm an fA ct) ⟨us,[]⟩=pure ((r.N.take r.k).zip us))/\BM l
def YF(c:f6):List RF->Prop
 |[]=>True
 |r::l=>v7 (comp 60) (c.at (r.d tp)) (o8 (tp r.i))=some r.m.body/\YF c l
def YM(c:f6):List RM->Prop
 |[]=>True
 |r::l=>v7 (comp 60) (c.at (r.d mt)) (o8 (mt r.i r.j))=some r.m.body/\YM c l
end
section
variable{tp:Nat->Stmt}{mt:Nat->Nat->Stmt}{K:PySem.W.Frag}{c:f6}{id k i j:Nat}{cl nm qn x:Str}{N:List Str}{m:ba}{f C:Addr}{oc kV doc pm fA ct:Value}{od an:Option Addr}{kl:Array (Option Value)}
theorem PF.nil:PF tp K []:=trivial
theorem PF.cons{l:List RF}(a:PySem.W.nsIn K mainGlobals nm=some (some (.ref f)))(lk:K.lookup f=some ⟨oc,od,.func (PySem.W.fnOf nm nm (B3 (tp i)) (o8 (tp i)) (o6 (tp i)) .none kV doc pm an fA ct),kl⟩)(cd:PySem.W.codeIn K fA nm=true)(kp:PySem.W.keepIn K (.ref f)=true)(h:PF tp K l):PF tp K (⟨id,nm,N,k,i,m⟩::l):=⟨⟨f,_,a,IC lk cd kp⟩,h⟩
theorem PM.nil:PM mt K []:=trivial
theorem PM.cons{l:List RM}(c0:PySem.W.nsIn K mainGlobals cl=some (some (.ref C)))(a:PySem.W.findIn K (.ref C) nm=some (some (.ref f)))(af:PySem.W.isFn K (.ref f)=true)(lk:K.lookup f=some ⟨oc,od,.func (PySem.W.fnOf nm qn (B3 (mt i j)) (o8 (mt i j)) (o6 (mt i j)) .none kV doc pm an fA ct),kl⟩)(cd:PySem.W.codeIn K fA qn=true)(kp:PySem.W.keepIn K (.ref f)=true)(h:PM mt K l):PM mt K (⟨id,cl,nm,qn,N,k,i,j,m⟩::l):=⟨⟨C,f,_,c0,⟨a,af,kp⟩,IC lk cd kp⟩,h⟩
theorem PC.nil:PC K []:=trivial
theorem PC.cons{l:List (Str×Nat)}(cn:PySem.W.nsIn K mainGlobals x=some (some (.ref C)))(cp:PySem.W.plainGet K C Str.empty=true)(Mn:PySem.W.hasDictIn K C=true)(Mj:PySem.W.plainOver K C=true)(Mi:PySem.W.findIn K (.ref C) "__setattr__"=some (some (.builtin "object.__setattr__")))(Ml:PySem.W.makesIn K C=true)(Mm:PySem.W.keepIn K (.ref C)=true)(h:PC K l):PC K ((x,i)::l):=⟨⟨C,cn,⟨cp,Mn,Mj,Mi⟩,Ml,Mm⟩,h⟩
theorem PA.nil:PA K []:=trivial
theorem PA.cons{l:List (Str×Str)}(cn:PySem.W.nsIn K mainGlobals x=some (some (.ref C)))(fl:PySem.W.findIn K (.ref C) nm=some none)(h:PA K l):PA K ((nm,x)::l):=⟨⟨C,cn,fl⟩,h⟩
theorem PB.nil:PB K []:=trivial
theorem PB.cons{l:List Str}(cn:PySem.W.nsIn K mainGlobals x=some none)(h:PB K l):PB K (x::l):=⟨cn,h⟩
theorem PX.nil:PX K []:=trivial
theorem PX.cons{l:List Str}(cn:PySem.W.nsIn K mainGlobals x=some (some (.ref C)))(q:PySem.W.excIn K C [.type "ValueError",.type "Exception",.type "BaseException",.type "object"] "ValueError.__new__"=true)(h:PX K l):PX K (x::l):=⟨⟨C,cn,q⟩,h⟩
theorem Cm{P:List Value->Prop}{n:Nat}(h:∀a vs,vs.length=n->P (a::vs))(us:List Value)(hl:us.length=n+1):P us:=by
 cases us with
 |nil=>cases hl
 |cons a vs=>exact h a vs (Nat.succ.inj hl)
theorem Ck{P:List Value->Prop}(h:P [])(us:List Value)(hl:us.length=0):P us:=by
 cases fc.mp hl;exact h
theorem BF.nil:BF tp []:=trivial
theorem BF.cons{l:List RF}(h:∀(kV doc pm:Value) (an:Option Addr) (fA ct:Value) (us:List Value),us.length=(N.take k).length->bindArgs (PySem.W.fnOf nm nm (B3 (tp i)) (o8 (tp i)) (o6 (tp i)) .none kV doc pm an fA ct) ⟨us,[]⟩=pure ((N.take k).zip us))(h2:BF tp l):BF tp (⟨id,nm,N,k,i,m⟩::l):=⟨h,h2⟩
theorem BM.nil:BM mt []:=trivial
theorem BM.cons{l:List RM}(h:∀(kV doc pm:Value) (an:Option Addr) (fA ct:Value) (us:List Value),us.length=(N.take k).length->bindArgs (PySem.W.fnOf nm qn (B3 (mt i j)) (o8 (mt i j)) (o6 (mt i j)) .none kV doc pm an fA ct) ⟨us,[]⟩=pure ((N.take k).zip us))(h2:BM mt l):BM mt (⟨id,cl,nm,qn,N,k,i,j,m⟩::l):=⟨h,h2⟩
theorem YF.nil:YF tp c []:=trivial
theorem YF.cons{l:List RF}(h:v7 (comp 60) (c.at ⟨nm,nm,N,N.take k,tp i⟩) (o8 (tp i))=some m.body)(h2:YF tp c l):YF tp c (⟨id,nm,N,k,i,m⟩::l):=⟨h,h2⟩
theorem YM.nil:YM mt c []:=trivial
theorem YM.cons{l:List RM}(h:v7 (comp 60) (c.at ⟨nm,qn,N,N.take k,mt i j⟩) (o8 (mt i j))=some m.body)(h2:YM mt c l):YM mt c (⟨id,cl,nm,qn,N,k,i,j,m⟩::l):=⟨h,h2⟩
theorem YF.get:∀{l:List RF},YF tp c l->∀r∈l,v7 (comp 60) (c.at (r.d tp)) (o8 (tp r.i))=some r.m.body
 |_::_,h,r,hr=>(aL.mp hr).elim (λz=>z▸h.1) (YF.get h.2 r)
theorem YM.get:∀{l:List RM},YM mt c l->∀r∈l,v7 (comp 60) (c.at (r.d mt)) (o8 (mt r.i r.j))=some r.m.body
 |_::_,h,r,hr=>(aL.mp hr).elim (λz=>z▸h.1) (YM.get h.2 r)
theorem PF.get:∀{l:List RF},PF tp K l->∀r∈l,∃f fd,PySem.W.nsIn K mainGlobals r.nm=some (some (.ref f))/\nN K r.nm r.nm (tp r.i) f fd
 |_::_,h,r,hr=>(aL.mp hr).elim (λz=>z▸h.1) (PF.get h.2 r)
theorem PM.get:∀{l:List RM},PM mt K l->∀r∈l,∃C f fd,PySem.W.nsIn K mainGlobals r.cl=some (some (.ref C))/\Meth K C r.nm f/\nN K r.nm r.qn (mt r.i r.j) f fd
 |_::_,h,r,hr=>(aL.mp hr).elim (λz=>z▸h.1) (PM.get h.2 r)
theorem PC.get:∀{l:List (Str×Nat)},PC K l->∀r∈l,∃C,PySem.W.nsIn K mainGlobals r.1=some (some (.ref C))/\iU K C/\PySem.W.makesIn K C=true/\PySem.W.keepIn K (.ref C)=true
 |_::_,h,r,hr=>(aL.mp hr).elim (λz=>z▸h.1) (PC.get h.2 r)
theorem PA.get:∀{l:List (Str×Str)},PA K l->∀r∈l,∃C,PySem.W.nsIn K mainGlobals r.2=some (some (.ref C))/\PySem.W.findIn K (.ref C) r.1=some none
 |_::_,h,r,hr=>(aL.mp hr).elim (λz=>z▸h.1) (PA.get h.2 r)
theorem PB.get:∀{l:List Str},PB K l->∀r∈l,PySem.W.nsIn K mainGlobals r=some none
 |_::_,h,r,hr=>(aL.mp hr).elim (λz=>z▸h.1) (PB.get h.2 r)
theorem PX.get:∀{l:List Str},PX K l->∀r∈l,∃C,PySem.W.nsIn K mainGlobals r=some (some (.ref C))/\PySem.W.excIn K C [.type "ValueError",.type "Exception",.type "BaseException",.type "object"] "ValueError.__new__"=true
 |_::_,h,r,hr=>(aL.mp hr).elim (λz=>z▸h.1) (PX.get h.2 r)
theorem BF.get:∀{l:List RF},BF tp l->∀r∈l,∀(kV doc pm:Value) (an:Option Addr) (fA ct:Value) (us:List Value),us.length=(r.N.take r.k).length->bindArgs (PySem.W.fnOf r.nm r.nm (B3 (tp r.i)) (o8 (tp r.i)) (o6 (tp r.i)) .none kV doc pm an fA ct) ⟨us,[]⟩=pure ((r.N.take r.k).zip us)
 |_::_,h,r,hr=>(aL.mp hr).elim (λz=>z▸h.1) (BF.get h.2 r)
theorem BM.get:∀{l:List RM},BM mt l->∀r∈l,∀(kV doc pm:Value) (an:Option Addr) (fA ct:Value) (us:List Value),us.length=(r.N.take r.k).length->bindArgs (PySem.W.fnOf r.nm r.qn (B3 (mt r.i r.j)) (o8 (mt r.i r.j)) (o6 (mt r.i r.j)) .none kV doc pm an fA ct) ⟨us,[]⟩=pure ((r.N.take r.k).zip us)
 |_::_,h,r,hr=>(aL.mp hr).elim (λz=>z▸h.1) (BM.get h.2 r)
end
def uU(N P:List Str)(sc:Scope):Bool:=decide (sc.kind=.function)&&!sc.isCoroutine&&!sc.isGenerator&&decide N.Nodup&&decide (N.take P.length=P)&&P.all (λx=>decide (sc.names.lookup x=some .local)||decide (sc.names.lookup x=some .cell))&&sc.names.all λy=>decide (y.2≠.free)
theorem GU{N P:List Str}{sc:Scope}(h:uU N P sc=true):gR N P sc:=by
 unfold uU at h;simp only[Bool.and_eq_true,decide_eq_true_eq,Bool.not_eq_true',List.all_eq_true,Bool.or_eq_true] at h;obtain⟨⟨⟨⟨⟨⟨h1,h2⟩,h3⟩,h4⟩,h5⟩,h6⟩,h7⟩:=h;exact⟨h1,h2,h3,h4,h5,h6,h7⟩
theorem Wi{K:PySem.W.Frag}{h₀:Heap}{mg:Str->Option Value}{x:Str}{C:Addr}{Ey:List Value}{newId:String}(X:K.In h₀)(G:h₀.Ns mainGlobals mg)(e:PySem.W.nsIn K mainGlobals x=some (some (.ref C)))(q:PySem.W.excIn K C Ey newId=true):PyProof.Rows.OwnCls x C Ey newId mg h₀:=by
 refine⟨bV X G e,?_⟩;unfold PySem.W.excIn at q;split at q
 ·rename_i dd cd sl ho;split at q
  ·rename_i C' bm k0 k1 k2 k3 n k5 hm hs;simp only[Bool.and_eq_true,beq_iff_eq,Bool.not_eq_true'] at q;obtain⟨⟨⟨⟨⟨z1,z2⟩,sP⟩,ht⟩,bR⟩,vg⟩:=q;subst z1;subst z2;obtain⟨nm,bs,mro,ns,qn,hd,sn,sub,ab,col,del⟩:=cd;dsimp only at hm sP bR vg;subst hm sP;have nc:sl=#[k0,k1,k2,k3,some (.builtin n),k5]:=by
    obtain⟨l⟩:=sl;simp only at hs;rw[hs]
   subst nc;exact⟨bm,ns,nm,qn,bs,hd,sn,sub,ab,col,dd,k0,k1,k2,k3,k5,_,X _ _ ho,.of_isNs (PySem.W.isNs_of_in X bR),PySem.W.nsMap_none_of_in X bR vg,PySem.W.tail_of_in X ht⟩
  ·cases q
 ·cases q
def R8(K:PySem.W.Frag)(x:Str):Addr:=match PySem.W.nsIn K mainGlobals x with
 |some (some (.ref C))=>C
 |_=>0
def Hj(K:PySem.W.Frag)(exc:List Str):Bool:=exc.all λx=>exc.all λy=>decide (PySem.W.exmOne K (.ref (R8 K x)) (.ref (R8 K y))=some (decide (x=y\/y="MintError")))
theorem Vn{K:PySem.W.Frag}{exc:List Str}(h:Hj K exc=true){x y:Str}{C C':Addr}(hx:exc.contains x=true)(hy:exc.contains y=true)(hC:s9 K x C)(yR:s9 K y C'):PySem.W.exmOne K (.ref C) (.ref C')=some (decide (x=y\/y="MintError")):=by
 have h1:=cg.mp h x (by simpa using hx);have h2:=aZ (cg.mp h1 y (by simpa using hy));have e1:R8 K x=C:=by unfold R8;rw[show PySem.W.nsIn K mainGlobals x=_ from hC]
 have e2:R8 K y=C':=by unfold R8;rw[show PySem.W.nsIn K mainGlobals y=_ from yR]
 rw[e1,e2] at h2;exact h2
theorem zZ{α:Type}{f:α->Nat}:∀{l:List α},(l.map f).Nodup->∀r∈l,l.find? (λx=>Nat.beq (f x) (f r))=some r
 |y::l,nd,r,hr=>by
  rw[bz,dJ] at nd;rcases aL.mp hr with rfl|hr
  ·rw[List.find?_cons_of_pos];exact Nat.beq_refl _
  ·rw[List.find?_cons_of_neg]
   ·exact zZ nd.2 r hr
   ·intro z;exact nd.1 (aU.mpr ⟨r,hr,(Nat.eq_of_beq_eq_true z).symm⟩)
theorem OT{α β:Type}{f:α->Nat}{g:β->Nat}{l:List α}{r:β}(h:g r∉l.map f):l.find? (λx=>Nat.beq (f x) (g r))=none:=by
 rw[List.find?_eq_none];intro x hx z;exact h (aU.mpr ⟨x,hx,Nat.eq_of_beq_eq_true z⟩)
section
variable{w:World}{K:PySem.W.Frag}{h₀:Heap}{mg:Str->Option Value}{c:f6}{F:List RF}{M:List RM}{tp:Nat->Stmt}{mt:Nat->Nat->Stmt}
structure jN(K:PySem.W.Frag)(c:f6)(F:List RF)(M:List RM)(tp:Nat->Stmt)(mt:Nat->Nat->Stmt):Prop where
 qF:PF tp K F
 qM:PM mt K M
 qC:PC K c.cls
 qA:PA K c.lL
 qB:PB K c.blt
 qX:PX K c.exc
 xm:Hj K c.exc=true
structure jM(c:f6)(F:List RF)(M:List RM)(tp:Nat->Stmt)(mt:Nat->Nat->Stmt):Prop where
 cf:c.fns=F.map λr=>(r.nm,r.id)
 cm:c.mV=M.map λr=>(r.nm,r.cl,r.id)
 ci:c.cls.all (λy=>M.any λr=>decide (r.cl=y.1)&&decide (r.nm="__init__")&&Nat.beq r.id y.2)=true
 nd:(F.map (·.id)++M.map (·.id)).Nodup
 sF:F.all (λr=>uU r.N (r.N.take r.k) (o6 (tp r.i))&&decide (r.m.ar=(r.N.take r.k).length)&&decide (r.m.n=r.N.length))=true
 sM:M.all (λr=>uU r.N (r.N.take r.k) (o6 (mt r.i r.j))&&decide (r.m.ar=(r.N.take r.k).length)&&decide (r.m.n=r.N.length))=true
 oF:YF tp c F
 oM:YM mt c M
 bF:BF tp F
 bM:BM mt M
theorem HC(I:jN K c F M tp mt)(X:jM c F M tp mt)(r:RF)(hr:r∈F):∃f fd,iH K c (r.d tp) r.m f fd/\PySem.W.nsIn K mainGlobals r.nm=some (some (.ref f))/\qG F M r.id=some r.m:=by
 obtain⟨f,fd,a,q⟩:=I.qF.get r hr;have s:=cg.mp X.sF r hr;simp only[Bool.and_eq_true,decide_eq_true_eq] at s;have o:=X.oF.get r hr;refine⟨f,fd,⟨q,q.binds (X.bF.get r hr),GU s.1.1,o,s.1.2,s.2⟩,a,?_⟩;unfold qG;rw[zZ (f:=(·.id)) (cM.mp X.nd).1 r hr]
theorem HD(I:jN K c F M tp mt)(X:jM c F M tp mt)(r:RM)(hr:r∈M):∃C f fd,iH K c (r.d mt) r.m f fd/\PySem.W.nsIn K mainGlobals r.cl=some (some (.ref C))/\Meth K C r.nm f/\qG F M r.id=some r.m:=by
 obtain⟨C,f,fd,a,q1,q⟩:=I.qM.get r hr;have s:=cg.mp X.sM r hr;simp only[Bool.and_eq_true,decide_eq_true_eq] at s;have o:=X.oM.get r hr;refine⟨C,f,fd,⟨q,q.binds (X.bM.get r hr),GU s.1.1,o,s.1.2,s.2⟩,a,q1,?_⟩;have nd:=cM.mp X.nd;unfold qG;rw[OT (f:=λr:RF=>r.id) (g:=λr:RM=>r.id) (r:=r) (λz=>nd.2.2 _ z _ (aU.mpr ⟨r,hr,rfl⟩) rfl),zZ (f:=λr:RM=>r.id) nd.2.1 r hr]
 rfl
theorem Ow(I:jN K c F M tp mt)(Y:jM c F M tp mt)(X:K.In h₀)(G:h₀.Ns mainGlobals mg)(con:∀x d,c.con.lookup x=some d->∃v u,mg x=some u/\RelV v u/\∀ρ H,d5 K ρ H d v)(oY:∀x kvs,c.gd.lookup x=some kvs->∃A vs,mg x=some (.ref A)/\ub K w.params A vs/\nG K kvs vs):lz w K mg c (qG F M):=by
 refine⟨λx i hx=>?_,λx i hx=>?_,λx y i C hx hC=>?_,λf y C hx hC=>?_,con,λx hx=>?_,λx hx=>?_,λx y C C' hx hy hC yR=>Vn I.xm hx hy hC yR,oY⟩
 ·have hm:=aS hx;rw[Y.cf] at hm;obtain⟨r,hr,e⟩:=aU.mp hm;cases e;obtain⟨f,fd,O,a,t⟩:=HC I Y r hr;exact⟨_,_,f,fd,t,O,bV X G a⟩
 ·have hm:=aS hx;have h1:=cg.mp Y.ci _ hm;obtain⟨r,hr,e⟩:=aT.mp h1;simp only[Bool.and_eq_true,decide_eq_true_eq] at e;obtain⟨⟨e1,e2⟩,e3⟩:=e;have e3:=Nat.eq_of_beq_eq_true e3;obtain⟨C,f,fd,O,a,q,t⟩:=HD I Y r hr;obtain⟨C',a',hc,mk,kp⟩:=I.qC.get _ hm;rw[e1] at a;cases a.symm.trans a';rw[e2] at q;rw[e3] at t;exact⟨C,_,_,f,fd,t,O,bV X G a,a,hc,⟨mk,q.at_,q.fn,kp⟩⟩
 ·rw[Y.cm] at hx;obtain⟨r,hr,e⟩:=aU.mp hx;cases e;obtain⟨C',f,fd,O,a,q,t⟩:=HD I Y r hr;cases a.symm.trans hC;exact⟨_,_,f,fd,t,O,q⟩
 ·obtain⟨C',a,q⟩:=I.qA.get _ hx;cases a.symm.trans hC;exact q
 ·exact PySem.W.mg_none_of X G (I.qB.get x (by simpa using hx))
 ·obtain⟨C,a,q⟩:=I.qX.get x (by simpa using hx);exact⟨_,bV X G a,a,λbase lF tG=>⟨_,_,_,_,Wi lF tG a q,PySem.F.excBase_ValueError⟩⟩
end
end M

namespace M
open PySem L2
set_option hygiene false
local macro_rules|`(tactic|walk_at"w1")=>`(tactic|with_reducible first|refine S0 ?_|refine uj ?_|refine vT ?_|refine Bp ?_|refine OC ?_|refine Vb ?_|refine HK ?_|refine OG ?_|refine Bo ?_|refine F3 ?_|refine xp ?_|(refine w_var (d:=?_) ?_ ?_;rotate_left;·with_unfolding_all rfl)|refine w_lit ?_|refine uF ?_|refine uE ?_|refine SM ?_|refine OF ?_|refine QD ?_|refine w_and ?_|refine w_or ?_|refine w_not ?_|refine w_ite ?_|refine wm ?_|refine OD ?_|refine uQ ?_|refine vS ?_|refine S1 ?_|refine OI ?_|refine U' ?_|refine OJ ?_|refine vU ?_|refine Bq ?_|refine SO ?_|refine SQ ?_|refine UY ?_|refine Rp ?_|refine Ro ?_|refine Rn ?_|refine Rm ?_|refine SV ?_|refine EF ?_|refine SU ?_|refine Tg ?_|refine SW ?_|refine Ta ?_|refine Tc ?_|refine Tb ?_|refine Te ?_|refine Tf ?_|refine Td ?_|refine pF ?_|refine SX ?_|refine Ej ?_|refine Eh ?_|refine Ei ?_|refine EE ?_|refine SH ?_|refine zU ?_|refine Mr ?_|refine jz ?_|refine mI ?_|refine Fl ?_|refine RB ?_|refine CT ?_|refine xC ?_|refine xA ?_|refine xB ?_|refine Cy ?_|refine CQ ?_|refine Cn ?_)
local macro_rules|`(tactic|walk_at"w2")=>`(tactic|repeat(with_reducible first|walk_at "w1"|refine Bj (by simp) ?_|refine Bi (by simp) ?_|refine n5 (a7 (by assumption)) (by with_unfolding_all rfl) ?_|refine J1 (a7 (by assumption)) ?_|refine AZ (by unfold my;decide) ?_))
local macro_rules|`(tactic|walk_at"w3")=>`(tactic|repeat(with_reducible first|walk_at "w1"|refine Bj (by simp) ?_|refine Bi (by simp) ?_|refine n5 (a7 (by assumption)) (by with_unfolding_all rfl) ?_|refine J1 (a7 (by assumption)) ?_|refine AZ (by unfold my;decide) ?_|refine And.intro (show List.length _ <= 1000 from by simp) ?_|refine B0 (by with_unfolding_all rfl) ?_|refine f9 ?_|refine p8 (by with_unfolding_all rfl) ?_))
local macro_rules|`(tactic|walk_at"")=>`(tactic|repeat(with_reducible first|walk_at "w1"|refine QE ?_|refine Va ?_|refine OE ?_|refine Eg ?_|refine UQ ?_|refine Co ?_|refine max2 ?_|refine min2 ?_|refine Tu ?_|refine mG ?_|refine LB ?_|refine DU ?_|refine Bj (by simp) ?_|refine Bi (by simp) ?_|refine n5 (a7 (by assumption)) (by with_unfolding_all rfl) ?_|refine J1 (a7 (by assumption)) ?_|refine AZ (by unfold my;decide) ?_|refine And.intro (show List.length _ <= 1000 from by simp) ?_|refine B0 (by with_unfolding_all rfl) ?_|refine f9 ?_|refine p8 (by with_unfolding_all rfl) ?_|refine And.intro (Y0 (by assumption)) ?_|refine And.intro (MO (by assumption)) ?_|refine And.intro (RK (by assumption)) ?_|refine Q5 (by decide) ?_|refine Vc (by decide) (by decide) ?_|refine xQ ?_))
set_option hygiene true
abbrev eL(a:ME):ME:=.cons a .nil
abbrev dz(a b:ME):ME:=.cons a (.cons b .nil)
abbrev fK(a b c:ME):ME:=.cons a (.cons b (.cons c .nil))
abbrev lP(a b c d:ME):ME:=.cons a (.cons b (.cons c (.cons d .nil)))
abbrev qW(a b c d e:ME):ME:=.cons a (.cons b (.cons c (.cons d (.cons e .nil))))
abbrev tF(a b c d e f:ME):ME:=.cons a (.cons b (.cons c (.cons d (.cons e (.cons f .nil)))))
abbrev Lu(a b c d e f g:ME):ME:=.cons a (.cons b (.cons c (.cons d (.cons e (.cons f (.cons g .nil))))))
abbrev du(o:PySem.CmpOp)(a b:ME):ME:=.fg (.prim (.cmp o) (.cons a (.cons b .nil)))
abbrev cK(a b:ME):ME:=.prim .ix (.cons a (.cons b .nil))
abbrev bj(a:Int):ME:=.lit (.int a)
abbrev ff(a:PySem.Str):ME:=.lit (.str a)
abbrev dg(p:Pr)(a:ME):ME:=.prim p (.cons a .nil)
abbrev bX(p:Pr)(a b:ME):ME:=.prim p (.cons a (.cons b .nil))
abbrev aN:ME:=.var 0
abbrev bf:ME:=.var 1
abbrev kF:ME:=.var 10
abbrev rW:ME:=.var 11
abbrev gX:ME:=.var 12
abbrev mX:ME:=.var 13
abbrev mW:ME:=.var 15
abbrev rV:ME:=.var 16
abbrev bp:ME:=.var 2
abbrev bJ:ME:=.var 3
abbrev cT:ME:=.var 4
abbrev dq:ME:=.var 5
abbrev eU:ME:=.var 6
abbrev fu:ME:=.var 7
abbrev ip:ME:=.var 8
abbrev lU:ME:=.var 9
def F1:ba:=⟨2,5,(.seq (.ifs (.dw (du .Lt (cK aN (bj 2)) bf) (du .Lt (cK aN (bj 1)) (dg .len (cK aN (bj 0))))) (.seq (.set 2 (cK (cK aN (bj 0)) (cK aN (bj 1)))) (.seq (.eI aN (bj 1) (bX (.bin .Add) (cK aN (bj 1)) (bj 1))) (.seq (.eI aN (bj 2) (bj 0)) (.seq (.ifs (du .GtE bp (bX (.bin .Pow) (bj 10) (bj 18))) (.seq (.eI aN (bj 2) bp) .pass) (.seq (.eI aN (bj 3) (bX (.bin .Mod) (bX (.bin .Add) (bX (.bin .Add) (bX (.bin .Mult) (cK aN (bj 3)) (bj 48271)) (bX (.bin .Mult) (bX (.bin .Mod) bp (bj 2147483629)) (bj 69621))) (bj 12345)) (bj 2147483647))) .pass)) .pass)))) .pass) (.seq (.ifs (du .GtE (cK aN (bj 2)) bf) (.seq (.set 3 (bX (.bin .Mod) (cK aN (bj 2)) bf)) (.seq (.eI aN (bj 2) (bX (.bin .FloorDiv) (cK aN (bj 2)) bf)) (.seq (.ret bJ) .pass))) .pass) (.seq (.set 4 (cK aN (bj 3))) (.seq (.eI aN (bj 3) (bX (.bin .Mod) (bX (.bin .Add) (bX (.bin .Add) (bX (.bin .Mult) (bX (.bin .Mod) (bX (.bin .Mult) cT cT) (bj 2147483629)) (bj 5)) (bX (.bin .Mult) cT (bj 16811))) (bj 2531011)) (bj 2147483647))) (.seq (.ret (bX (.bin .Mod) (bX (.bin .Add) (bX (.bin .FloorDiv) (cK aN (bj 3)) (bj 59)) (bX (.bin .Mult) (bX (.bin .Mod) (cK aN (bj 3)) (bj 8191)) (bj 31))) bf)) .pass)))))⟩
structure i5(g:G)(d:Nat):Prop where
 ex:∃(s:Nat) (p b r:Int) (xs:List Int),g[d]?=some (.lst [.ref s,.int p,.int b,.int r])/\g[s]?=some (.lst (xs.map .int))/\s<d/\0<=p/\0<=b/\0<=r/\r<2147483647
structure Gr(d:Nat)(g g':G):Prop where
 len:g.length<=g'.length
 old:∀i,i≠d->i<g.length->g'[i]?=g[i]?
theorem Gr.refl(d:Nat)(g:G):Gr d g g:=⟨aw _,λ_ _ _=>rfl⟩
theorem Gr.trans{d:Nat}{g g1 g2:G}(a:Gr d g g1)(b:Gr d g1 g2):Gr d g g2:=⟨aG a.len b.len,λi h1 h2=>(b.old i h1 (aB h2 a.len)).trans (a.old i h1 h2)⟩
theorem Gr.set(d:Nat)(g:G)(o:O):Gr d g (g.set d o):=⟨by simp,λi h1 h2=>aA (bP h1)⟩
theorem Gr.snoc(d:Nat)(g:G)(o:O):Gr d g (g++[o]):=⟨by simp,λi h1 h2=>aJ h2⟩
theorem Gr.at{d:Nat}{g g':G}(h:Gr d g g'){i:Nat}{o:O}(hi:i≠d)(e:g[i]?=some o):g'[i]?=some o:=(h.old i hi (ak.mp e).1).trans e
theorem k8{g:G}{i:Nat}{o:O}(h:g[i]?=some o):i<g.length:=(ak.mp h).1
theorem i5.lt{g:G}{d:Nat}(h:i5 g d):d<g.length:=by
 obtain⟨_,_,_,_,_,e,_⟩:=h.ex;exact k8 e
theorem i5.snoc{g:G}{d:Nat}(h:i5 g d)(o:O):i5 (g++[o]) d:=by
 obtain⟨s,p,b,r,xs,e1,e2,q⟩:=h.ex;exact⟨s,p,b,r,xs,by rw[aJ (k8 e1)];exact e1,by rw[aJ (k8 e2)];exact e2,q⟩
def i7:MS->MS
 |.seq _ b=>b
 |x=>x
theorem BA{i j:Int}(h1:-(2 ^ 64)<i)(h2:i<2 ^ 64):pD i j:=.inl ⟨h1,h2⟩
theorem Y4{i j:Int}(h1:-(2 ^ 64)<j)(h2:j<2 ^ 64):pD i j:=.inr ⟨h1,h2⟩
theorem Wv{P:fm}{d:Nat}{n:Int}{g:G}{Q:KD}{E:KX}{N:Ends}{c2:Option D}(hN:N.rt=Q)(D0:i5 g d)(hn:0<n)(lY:n<1073741824)(h:∀r g',0<=r->r<n->i5 g' d->Gr d g g'->Q (.int r) g'):wpS P (i7 F1.body) N [some (.ref d),some (.int n),c2,none,none] g E:=by
 obtain⟨s,p,b,r,xs,e1,e2,lW,hp,hb,hr,ng⟩:=D0.ex;have dj:=k8 e1;subst hN;dsimp[F1,i7];walk_at "w2";refine if2 (λc=>?_) (λc=>?_)
 ·walk_at "w2";refine Q5 hn ?_;walk_at "w2";refine vG ⟨hn,lY⟩ ?_;walk_at "w2";refine U3 e1 (by with_unfolding_all rfl) ?_;walk_at "w2";refine h _ _ (eY _ (by omega)) (dE _ hn) ⟨s,p,b / n,r,xs,?_,?_,lW,hp,Int.ediv_nonneg hb (by omega),hr,ng⟩ (Gr.set d g _)
  ·rw[aY dj];rfl
  ·rw[aA (bZ lW)];exact e2
 ·walk_at "w2";have Cz:-(2 ^ 64)<r/\r<2 ^ 64:=⟨by omega,by omega⟩
  refine Q4 (BA Cz.1 Cz.2) ?_;walk_at "w2";refine Q5 (by decide) ?_;walk_at "w2";refine Q4 (Y4 (by decide) (by decide)) ?_;walk_at "w2";refine Q4 (Y4 (by decide) (by decide)) ?_;walk_at "w2";refine Q5 (by decide) ?_;walk_at "w2";refine U3 e1 (by with_unfolding_all rfl) ?_;generalize fk:(r*r % 2147483629*5+r*16811+2531011) % 2147483647=r';have q0:0<=r':=by rw[<- fk];exact eY _ (by decide)
  have q1:r'<2147483647:=by rw[<- fk];exact dE _ (by decide)
  have Me:(g.set d (.lst [.ref s,.int p,.int b,.int r']))[d]?=some (.lst [.ref s,.int p,.int b,.int r']):=aY dj;show wpS P _ _ _ (g.set d (.lst [.ref s,.int p,.int b,.int r'])) E;walk_at "w2";refine vG ⟨by decide,by decide⟩ ?_;walk_at "w2";refine Q5 (by decide) ?_;walk_at "w2";refine Q4 (Y4 (by decide) (by decide)) ?_;walk_at "w2";refine Q5 hn ?_;walk_at "w2";refine h _ _ (eY _ (by omega)) (dE _ hn) ⟨s,p,b,r',xs,Me,?_,lW,hp,hb,q0,q1⟩ (Gr.set d g _);rw[aA (bZ lW)];exact e2
theorem f7{T:Nat->Option ba}(hT:T 4=some F1){k d:Nat}{n:Int}{g:G}{Q:KD}{E:KX}(D0:i5 g d)(hn:0<n)(lY:n<1073741824)(h:∀r g',0<=r->r<n->i5 g' d->Gr d g g'->Q (.int r) g'):b9 T (k+1) 4 [.ref d,.int n] g Q E:=by
 obtain⟨s,p,b,r,xs,e1,e2,lW,hp,hb,hr,ng⟩:=D0.ex;have dj:=k8 e1;refine call_of hT rfl ?_;have tail:∀(g':G) (c2:Option D),i5 g' d->Gr d g g'->wpS (b9 T k) (i7 F1.body) ⟨λ_ g'=>Q .bx g',Q,λ_ _=>False,λ_ _=>False⟩ [some (.ref d),some (.int n),c2,none,none] g' E :=
  λg' c2 D1 gr=>Wv rfl D1 hn lY λr g2 a b c e=>h r g2 a b c (gr.trans e)
 dsimp[F1,c8,List.replicate];walk_at "w2";refine if2 (λc=>?_) (λc=>?_)
 ·walk_at "w2";refine if2 (λc'=>?_) (λc'=>?_)
  ·walk_at "w2";have iP:p.toNat<xs.length:=by
    rw[ao] at c';omega
   have ea:fI (xs.map D.int) p=some (.int xs[p.toNat]):=by
    have:=x4 (xs:=xs.map D.int) (j:=p.toNat) (v:=.int xs[p.toNat]) (by rw[ag,ai iP];rfl)
    rwa [show((p.toNat:Nat):Int)=p by omega] at this
   refine n5 (a7 e2) ea ?_;generalize xs[p.toNat]=cell;walk_at "w2";refine U3 e1 (by with_unfolding_all rfl) ?_;have f1:(g.set d (.lst [.ref s,.int (p+1),.int b,.int r]))[d]?=some (.lst [.ref s,.int (p+1),.int b,.int r]):=aY dj;show wpS (b9 T k) _ _ _ (g.set d (.lst [.ref s,.int (p+1),.int b,.int r])) E;walk_at "w2";refine U3 f1 (by with_unfolding_all rfl) ?_;rw[List.set_set];have f2:(g.set d (.lst [.ref s,.int (p+1),.int 0,.int r]))[d]?=some (.lst [.ref s,.int (p+1),.int 0,.int r]):=aY dj;show wpS (b9 T k) _ _ _ (g.set d (.lst [.ref s,.int (p+1),.int 0,.int r])) E;walk_at "w2";refine if2 (λc2=>?_) (λc2=>?_)
   ·walk_at "w2";refine U3 f2 (by with_unfolding_all rfl) ?_;rw[List.set_set];refine tail _ _ ⟨s,p+1,cell,r,xs,aY dj,by rw[aA (bZ lW)];exact e2,lW,by omega,?_,hr,ng⟩ (Gr.set d g _);have:(10:Int) ^ (18:Int).toNat<=cell:=c2;have DP:(0:Int)<=10 ^ (18:Int).toNat:=by decide
    omega
   ·walk_at "w2";refine Q4 (Y4 (by decide) (by decide)) ?_;walk_at "w2";refine Q5 (by decide) ?_;walk_at "w2";refine Q4 (Y4 (by decide) (by decide)) ?_;walk_at "w2";refine Q5 (by decide) ?_;walk_at "w2";refine U3 f2 (by with_unfolding_all rfl) ?_;rw[List.set_set];exact tail _ _ ⟨s,p+1,0,_,xs,aY dj,by rw[aA (bZ lW)];exact e2,lW,by omega,by decide,eY _ (by decide),dE _ (by decide)⟩ (Gr.set d g _)
  ·walk_at "w1";exact tail _ _ D0 (Gr.refl _ _)
 ·walk_at "w1";walk_at "w1";exact tail _ _ D0 (Gr.refl _ _)
def AH:ba:=⟨1,1,(.seq (.ret (.dw (bX .isin aN (.lit (.ty "int"))) (.eB (bX .isin aN (.lit (.ty "bool")))))) .pass)⟩
def V8:ba:=⟨3,3,(.seq (.ret (.dw (.call 38 (eL aN)) (.chain .LtE .LtE bf aN bp))) .pass)⟩
structure NF(T:Nat->Option ba):Prop where
 nf:T 1=some V8
 is:T 38=some AH
def H9:ba:=⟨1,3,(.seq (.set 1 (bj 0)) (.seq (.cU (.one 2) (.eK aN) (.seq (.ifs (.eB (.fg (.call 1 (fK bp bf (bj 7))))) (.seq (.ret (.lit (.bl false))) .pass) .pass) (.seq (.set 1 (bX (.bin .Add) bp (bj 1))) .pass))) (.seq (.ret (.lit (.bl true))) .pass)))⟩
def vO:ba:=⟨1,1,(.seq (.ret (.prim .lst (lP (dg .list (bX (.lE false true) aN (bj 63))) (bj 0) (bj 0) (bj 29)))) .pass)⟩
def uB:ba:=⟨1,1,(.seq (.ret (.dw (bX .isin aN (.lit (.ty "int"))) (.eB (bX .isin aN (.lit (.ty "bool")))))) .pass)⟩
def C8:ba:=⟨2,2,(.seq (.ifs (du .Is bf (.lit .bx)) (.seq (.ret (bX (.cmp .Is) aN (.lit .bx))) .pass) .pass) (.seq (.ifs (.fg (bX .isin bf (.lit (.ty "bool")))) (.seq (.ret (.dw (bX .isin aN (.lit (.ty "bool"))) (bX (.cmp .Eq) aN bf))) .pass) .pass) (.seq (.ifs (.fg (bX .isin bf (.lit (.ty "int")))) (.seq (.ret (.dw (.call 6 (eL aN)) (bX (.cmp .Eq) aN bf))) .pass) .pass) (.seq (.ifs (.fg (bX .isin bf (.lit (.ty "str")))) (.seq (.ret (.dw (bX .isin aN (.lit (.ty "str"))) (bX (.cmp .Eq) aN bf))) .pass) .pass) (.seq (.ifs (.iN (du .NotEq (bX .isin bf (.lit (.ty "tuple"))) (bX .isin aN (.lit (.ty "tuple")))) (du .NotEq (bX .isin bf (.lit (.ty "list"))) (bX .isin aN (.lit (.ty "list"))))) (.seq (.ret (.lit (.bl false))) .pass) .pass) (.seq (.ifs (du .NotEq (dg .len aN) (dg .len bf)) (.seq (.ret (.lit (.bl false))) .pass) .pass) (.seq (.ret (dg .all (.comp [1,0] 4 (.one 3) (.dX (dg .len bf)) .no (.call 7 (dz (cK bf bJ) (cK aN bJ)))))) .pass)))))))⟩
theorem O8{g:G}{n:Nat}:∀ms:List Int,(ms.map D.int).mapM (rd g n)=some (ms.map PyData.int)
 |[]=>rfl
 |m::r=>by
  rw[bz,List.mapM_cons,O8 r];cases n<;>rfl
theorem lay_ints:∀ms:List Int,PyData.canLayAll0 (ms.map PyData.int)=true
 |[]=>by simp[PyData.canLayAll0]
 |m::r=>by simp[PyData.canLayAll0,PyData.canLay0,lay_ints r]
theorem Gn:∀ms ns:List Int,PyData.eqvAll (ms.map PyData.int) (ns.map PyData.int)=decide (ms=ns)
 |[],[]=>by simp[PyData.eqvAll]
 |[],_::_=>by simp[PyData.eqvAll]
 |_::_,[]=>by simp[PyData.eqvAll]
 |m::r,n::q=>by
  simp only[List.map_cons,PyData.eqvAll,PyData.eqv,Gn r q];by_cases h:m=n
  ·subst h;simp
  ·simp[h]
theorem AB{g:G}{ms:List Int}{i:Int}{k:Bool->Prop}(h:k (ms.any λm=>m==i)):oo g (.int i) (.tup (ms.map .int)) k:=by
 refine⟨_,.inr ⟨_,_,_,rfl,O8 ms,rfl,lay_ints ms,by simp[PyData.canLay0],rfl⟩,?_⟩;rw[List.any_map];exact h
theorem ZT{g:G}{a b:Nat}{ms ns:List Int}{k:Bool->Prop}(ha:d0 g a=some (ms.map .int))(hb:d0 g b=some (ns.map .int))(h:k (decide (ms=ns))):qr g (.ref a) (.ref b) k:=by
 refine⟨_,.inr (.inr (.inr ⟨.list (ms.map .int),.list (ns.map .int),?_,?_,?_,?_,rfl⟩)),?_⟩
 ·simp only[rd];rw[ha];dsimp only;rw[O8];rfl
 ·simp only[rd];rw[hb];dsimp only;rw[O8];rfl
 ·simp[PyData.canLay0,lay_ints]
 ·simp[PyData.canLay0,lay_ints]
 ·simp only[PyData.eqv,Gn];exact h
section
variable{T:Nat->Option ba}{k d:Nat}{g:G}{Q:KD}{E:KX}
theorem GF(h1:NF T){i:Int}(h:Q (.bl true) g):b9 T (k+1) 38 [.int i] g Q E:=by
 refine call_of h1.is rfl ?_;dsimp[AH,c8,List.replicate];walk_at "w2";refine fS (c:="int") (b:=true) (by decide) rfl ?_;walk_at "w2";refine fS (c:="bool") (b:=false) (by decide) rfl ?_;walk_at "w2";exact h
theorem A4(h1:NF T){i l m:Int}(h:Q (.bl (decide (l<=i)&&decide (i<=m))) g):b9 T (k+2) 1 [.int i,.int l,.int m] g Q E:=by
 refine call_of h1.nf rfl ?_;dsimp[V8,c8,List.replicate];walk_at "w2";refine GF h1 ?_;walk_at "w2";refine if2 (λc=>?_) (λc=>?_)
 ·rw[az c] at h;walk_at "w2";exact h
 ·rw[aE c] at h;exact h
def gm:Int->List Int->Bool
 |_,[]=>true
 |l,x::r=>(decide (l<=x)&&decide (x<=7))&&gm (x+1) r
theorem GI(h1:NF T)(h2:T 2=some H9){ms:List Int}(h:Q (.bl (gm 0 ms)) g):b9 T (k+3) 2 [.tup (ms.map .int)] g Q E:=by
 refine call_of h2 rfl ?_;dsimp[H9,c8,List.replicate];walk_at "w2";refine u9 (a8 T _) (sf (a8 T _) ?_);walk_at "w2";refine⟨_,rfl,_,λi Z g'=>g'=g/\∃(l:Int) (z:Option D),Z=[some (.tup (ms.map .int)),some (.int l),z]/\gm 0 ms=gm l (ms.drop i),λ_ _ _ _=>q9,⟨rfl,0,none,rfl,rfl⟩,λi x Z g' hx p=>?_,λZ g' p=>?_⟩
 ·obtain⟨rfl,l,z,rfl,e⟩:=p;rw[ag] at hx;cases em:ms[i]? with
  |none=>rw[em] at hx;cases hx
  |some m =>
   rw[em] at hx;cases hx;have hi:=(ak.mp em).1;have ed:ms.drop i=m::ms.drop (i+1):=by
    rw[eE hi]
    congr 1
    exact(ak.mp em).2
   rw[ed] at e;simp only[gm] at e;show wpS _ _ _ _ _ _;walk_at "w2";refine A4 h1 ?_;walk_at "w2";cases hc:(decide (l<=m)&&decide (m<=7)) with
   |true =>
    rw[hc,Bool.true_and] at e;show wpS _ _ _ _ _ _;walk_at "w2";exact⟨rfl,m+1,some (.int m),rfl,e⟩
   |false =>
    rw[hc,Bool.false_and] at e;rw[e] at h;show wpS _ _ _ _ _ _;walk_at "w2";exact h
 ·obtain⟨rfl,l,z,rfl,e⟩:=p;rw[List.drop_eq_nil_of_le (by simp)] at e;simp only[gm] at e;rw[e] at h;show wpS _ _ _ _ _ _;walk_at "w2";exact h
theorem Pu(h3:T 3=some vO){a:Nat}{ns:List Int}(hg:g[a]?=some (.mq (ns.map .int)))(h:∀d g',i5 g' d->g.length<=d->(∀i,i<g.length->g'[i]?=g[i]?)->Q (.ref d) g'):b9 T (k+1) 3 [.ref a] g Q E:=by
 refine call_of h3 rfl ?_;dsimp[vO,c8,List.replicate];walk_at "w2";refine GW (a05 hg) ?_;walk_at "w2";refine ER (l:=cut (ns.map D.int) none (some 63)) (a7 (by simp)) ?_;walk_at "w2";have ec:cut (ns.map D.int) none (some 63)=(cut ns none (some 63)).map D.int:=by
  unfold cut;simp[List.map_take,List.map_drop]
 refine h _ _ ⟨g.length+1,0,0,29,cut ns none (some 63),?_,?_,?_,by decide,by decide,by decide,by decide⟩ (by simp) (λi hi=>?_)
 ·simp
 ·rw[<- ec];simp
 ·simp
 ·simp[List.getElem?_append,hi,Nat.lt_of_lt_of_le hi (by omega:g.length<=g.length+1),Nat.lt_of_lt_of_le hi (by omega:g.length<=g.length+1+1)]
end
theorem EM:∀{ms:List Int} {l:Int},ms.Pairwise (· < ·)->(∀m∈ms,l<=m/\m<=7)->gm l ms=true
 |[],_,_,_=>rfl
 |m::r,l,hp,h=>by
  obtain⟨h1,h2⟩:=List.pairwise_cons.mp hp;have hm:=h m (by simp);simp only[gm];rw[az hm.1,az hm.2,EM h2 λx hx=>⟨by have:=h1 x hx;omega,(h x (by simp[hx])).2⟩]
  rfl
theorem K6{α:Type}{l:List α}{r:Int}(h0:0<=r)(h1:r<l.length):∃v,fI l r=some v/\v∈l:=by
 have hi:r.toNat<l.length:=by omega
 refine⟨l[r.toNat],?_,cc hi⟩;have:=x4 (xs:=l) (j:=r.toNat) (v:=l[r.toNat]) (ai hi)
 rwa [show((r.toNat:Nat):Int)=r by omega] at this
section
variable{T:Nat->Option ba}{k d:Nat}{g:G}{Q:KD}{E:KX}
theorem Ho(h7:T 7=some C8){a b:Bool}(h:Q (.bl (a==b)) g):b9 T (k+1) 7 [.bl a,.bl b] g Q E:=by
 refine call_of h7 rfl ?_;dsimp[C8,c8,List.replicate];walk_at "w2";walk_at "w2";refine fS (c:="bool") (b:=true) (by decide) rfl ?_;walk_at "w2";refine fS (c:="bool") (b:=true) (by decide) rfl ?_;walk_at "w2";exact h
end
def B6:ba:=⟨1,8,(.seq (.jG (.many [1,2,3,4,5]) aN) (.seq (.set 6 (.dw (.call 1 (fK bf (bj 1) (bj 99))) (.call 2 (eL bp)))) (.seq (.set 7 (.dw (.call 1 (fK bJ (bj 1) (bj 99))) (.call 2 (eL cT)))) (.seq (.ret (.dw eU (.dw fu (.call 1 (fK dq (bj 0) (bj 9999)))))) .pass))))⟩
structure a9 where
 lo:Int
 lm:List Int
 up:Int
 um:List Int
 yr:Int
def a9.d(c:a9):D:=.tup [.int c.lo,.tup (c.lm.map .int),.int c.up,.tup (c.um.map .int),.int c.yr]
def v5(c:a9):Bool:=((decide (1<=c.lo)&&decide (c.lo<=99))&&gm 0 c.lm)&&(((decide (1<=c.up)&&decide (c.up<=99))&&gm 0 c.um)&&(decide (0<=c.yr)&&decide (c.yr<=9999)))
section
variable{T:Nat->Option ba}{k d:Nat}{g:G}{Q:KD}{E:KX}
theorem Yk(h1:NF T)(h2:T 2=some H9)(qp:T 12=some B6){c:a9}(h:Q (.bl (v5 c)) g):b9 T (k+4) 12 [c.d] g Q E:=by
 refine call_of qp rfl ?_;dsimp[B6,c8,List.replicate,a9.d];walk_at "w3";refine A4 h1 ?_;have s1:∀b:Bool,b=((decide (1<=c.lo)&&decide (c.lo<=99))&&gm 0 c.lm)->wpS (b9 T (k+3)) (i7 (i7 B6.body)) ⟨λ_ g'=>Q .bx g',Q,λ_ _=>False,λ_ _=>False⟩ [some c.d,some (.int c.lo),some (.tup (c.lm.map .int)),some (.int c.up),some (.tup (c.um.map .int)),some (.int c.yr),some (.bl b),none] g E:=by
  intro b hb;dsimp[B6,i7];walk_at "w3";refine A4 h1 ?_;have s2:∀b':Bool,b'=((decide (1<=c.up)&&decide (c.up<=99))&&gm 0 c.um)->wpS (b9 T (k+3)) (i7 (i7 (i7 B6.body))) ⟨λ_ g'=>Q .bx g',Q,λ_ _=>False,λ_ _=>False⟩ [some c.d,some (.int c.lo),some (.tup (c.lm.map .int)),some (.int c.up),some (.tup (c.um.map .int)),some (.int c.yr),some (.bl b),some (.bl b')] g E:=by
   intro b' jq;dsimp[B6,i7];have e:v5 c=(b&&(b'&&(decide (0<=c.yr)&&decide (c.yr<=9999)))):=by unfold v5;rw[hb,jq]
   rw[e] at h;walk_at "w3";cases b
   ·exact mI h
   ·refine jz ?_;walk_at "w3";cases b'
    ·exact mI h
    ·refine jz ?_;walk_at "w3";exact A4 h1 h
  refine zU ?_;cases hc:(decide (1<=c.up)&&decide (c.up<=99)) with
  |false=>exact mI (s2 false (by rw[hc];rfl))
  |true =>
   refine jz ?_;walk_at "w1";walk_at "w1";walk_at "w1";walk_at "w1";exact GI h1 h2 (s2 _ (by rw[hc];rfl))
 refine zU ?_;cases hc:(decide (1<=c.lo)&&decide (c.lo<=99)) with
 |false=>exact mI (s1 false (by rw[hc];rfl))
 |true =>
  refine jz ?_;walk_at "w1";walk_at "w1";walk_at "w1";walk_at "w1";exact GI h1 h2 (s1 _ (by rw[hc];rfl))
end
def T4:ba:=⟨2,5,(.seq (.set 2 (dg .list bf)) (.seq (.set 3 (.prim .lst .nil)) (.seq (.cU (.one 4) (.dX (dg .len bf)) (.seq (.expr (.dW .append bJ (eL (.dW .pop bp (eL (.call 4 (dz aN (dg .len bp)))))))) .pass)) (.seq (.ret bJ) .pass))))⟩
theorem Ge{α:Type}:∀{l:List α} {j:Nat} (h:j<l.length),(l[j]::l.eraseIdx j).Perm l
 |a::r,0,_=>by simp
 |a::r,j+1,h=>by
  simp only[List.getElem_cons_succ,List.eraseIdx_cons_succ];exact(List.Perm.swap _ _ _).trans ((Ge (l:=r) (j:=j) (by simpa using h)).cons a)
theorem Gr.K2{d x:Nat}{g g':G}{o:O}(h:Gr d g g')(hx:g.length<=x):Gr d g (g'.set x o):=⟨by simp[h.len],λi h1 h2=>by rw[aA (by omega)];exact h.old i h1 h2⟩
theorem i5.K2{g:G}{d x:Nat}{o:O}(h:i5 g d)(hx:d<x):i5 (g.set x o) d:=by
 obtain⟨s,p,b,r,xs,e1,e2,hs,q⟩:=h.ex;exact⟨s,p,b,r,xs,by rw[aA (by omega)];exact e1,by rw[aA (by omega)];exact e2,hs,q⟩
theorem b0{g:G}{o:O}:(g++[o])[g.length]?=some o:=by simp
theorem n6{g:G}{i:Nat}{o o':O}(h:g[i]?=some o):(g++[o'])[i]?=some o:=by rw[aJ (k8 h)];exact h
theorem get_set{g:G}{i:Nat}{o o':O}(h:g[i]?=some o):(g.set i o')[i]?=some o':=aY (k8 h)
theorem d6{g:G}{i j:Nat}{o o':O}(h:g[i]?=some o)(hn:j≠i):(g.set j o')[i]?=some o:=by rw[aA hn];exact h
section
variable{T:Nat->Option ba}{k d:Nat}{g:G}{Q:KD}{E:KX}
theorem Gx(h4:T 4=some F1)(yT:T 21=some T4){a:Nat}{l:List D}(ha:g[a]?=some (.lst l))(hl:l.length<=1000)(hd:a≠d)(D0:i5 g d)(h:∀(l':List D) b g',l'.Perm l->g'[b]?=some (.lst l')->g.length<=b->i5 g' d->Gr d g g'->Q (.ref b) g'):b9 T (k+2) 21 [.ref d,.ref a] g Q E:=by
 refine call_of yT rfl ?_;dsimp[T4,c8,List.replicate];walk_at"";refine ER (a7 ha) ?_;walk_at"";have dl:=D0.lt;refine u9 (a8 T _) (W9 (a8 T _) ?_);walk_at"";have vt:(g++[O.lst l]++[O.lst []])[a]?=some (.lst l):=n6 (n6 ha);refine J1 (a7 vt) ?_;refine ⟨_,rfl,by omega,by omega,i3 0 l.length,λi Z g'=>∃ left found w,Z=[some (.ref d),some (.ref a),some (.ref g.length),some (.ref (g.length + 1)),w]/\(left ++ found).Perm l/\left.length + i=l.length/\g'[g.length]?=some (.lst left)/\g'[g.length + 1]?=some (.lst found)/\i5 g' d/\Gr d g g',
  λi Z g p=>q9,?_,λi x Z g' hx p=>?_,λZ g' p=>?_⟩
 ·refine⟨l,[],none,?_,by simp,by simp,?_,?_,(D0.snoc _).snoc _,(Gr.snoc _ _ _).trans (Gr.snoc _ _ _)⟩
  ·simp
  ·exact n6 b0
  ·have:=b0 (g:=g++[O.lst l]) (o:=O.lst []);simpa using this
 ·obtain⟨left,found,w,rfl,hp,hn,e1,e2,D1,G1⟩:=p;obtain⟨hi,rfl⟩:=x3 hx;show wpS _ _ _ _ _ _;walk_at"";refine f7 (n:=(left.length:Int)) h4 D1 (by omega) (by omega) λr g2 r0 r1 D2 G2=>?_;have f1:=G2.at (by omega) e1;have f2:=G2.at (by omega) e2;have hr:r.toNat<left.length:=by omega
  walk_at"";refine TR (j:=r.toNat) f1 (by omega) (ai hr) (by omega) ?_;walk_at"";refine P8 (d6 f2 (by omega)) ?_ ?_
  ·have:=hp.length_eq;simp at this;omega
  walk_at"";refine⟨_,_,_,rfl,?_,?_,d6 (get_set f1) (by omega),get_set (d6 f2 (by omega)),(D2.K2 (by omega)).K2 (by omega),((G1.trans G2).K2 (by omega)).K2 (by omega)⟩
  ·refine List.Perm.trans ?_ hp;have:=Ge hr;refine List.Perm.trans ?_ (List.Perm.append_right found this);simp only[List.cons_append];rw[<- List.append_assoc];exact(List.perm_append_singleton _ _)
  ·rw[List.length_eraseIdx_of_lt hr];omega
 ·obtain⟨left,found,w,rfl,hp,hn,e1,e2,D1,G1⟩:=p;show wpS _ _ _ _ _ _;walk_at"";rw[j7] at hn;have:left=[]:=dy (by omega);subst this;exact h _ _ _ (by simpa using hp) e2 (by omega) D1 G1
end
def wN:ba:=⟨1,5,(.seq (.set 1 (.prim .lst (Lu (.prim .tup .nil) (dg .tup (bj 0)) (bX .tup (bj 0) (bj 1)) (dg .tup (bj 1)) (.prim .tup (fK (bj 0) (bj 1) (bj 2))) (.prim .tup (lP (bj 0) (bj 1) (bj 2) (bj 7))) (dg .tup (bj 2))))) (.seq (.set 2 (cK bf (.call 4 (dz aN (cK (bX .tup (bj 4) (bj 7)) (dg .int (bX (.cmp .Eq) (.call 4 (dz aN (bj 4))) (bj 0)))))))) (.seq (.set 3 (cK bf (.call 4 (dz aN (bj 5))))) (.seq (.set 4 (cK (.prim .lst (tF (bj 0) (bj 0) (bj 1400) (bj 1400) (bj 1401) (bj 1))) (.call 4 (dz aN (bj 6))))) (.seq (.ret (.prim .tup (qW (bX (.bin .Add) (bj 1) (.call 4 (dz aN (bj 3)))) bp (bX (.bin .Add) (bj 1) (.call 4 (dz aN (bj 4)))) bJ cT))) .pass)))))⟩
def G0:ba:=⟨4,4,(.seq (.ifs (.iN (du .Eq (dg .len bf) (bj 0)) (.dw (du .Lt (dg .len bf) bJ) (du .Eq (.call 4 (dz aN (bj 3))) (bj 0)))) (.seq (.expr (.dW .append bf (eL bp))) (.seq (.ret (bX (.bin .Add) bp (bj 1))) .pass)) .pass) (.seq (.ifs (du .Eq (.call 4 (dz aN (bj 5))) (bj 0)) (.seq (.eI bf (.call 4 (dz aN (dg .len bf))) bp) (.seq (.ret (bX (.bin .Add) bp (bj 1))) .pass)) .pass) (.seq (.ret bp) .pass)))⟩
structure iG(c:a9):Prop where
 good:v5 c=true
 l8:c.lm.length<=8
 u8:c.um.length<=8
theorem iG.mk'{lo up yr:Int}{lm um:List Int}(h1:1<=lo)(h2:lo<=99)(h3:1<=up)(h4:up<=99)(h5:0<=yr)(h6:yr<=9999)(h7:gm 0 lm=true)(h8:gm 0 um=true)(h9:lm.length<=8)(DP:um.length<=8):iG ⟨lo,lm,up,um,yr⟩:=by
 refine⟨?_,h9,DP⟩;simp only[v5,h7,h8,decide_eq_true h1,decide_eq_true h2,decide_eq_true h3,decide_eq_true h4,decide_eq_true h5,decide_eq_true h6]
 rfl
theorem iG.inv{c:a9}(h:iG c):(1<=c.lo/\c.lo<=99)/\gm 0 c.lm=true/\(1<=c.up/\c.up<=99)/\gm 0 c.um=true/\0<=c.yr/\c.yr<=9999:=by
 have:=h.good;unfold v5 at this;simp only[Bool.and_eq_true,decide_eq_true_eq] at this;obtain⟨⟨⟨a,b⟩,e⟩,⟨⟨c',d⟩,f⟩,p,q⟩:=this;exact⟨⟨a,b⟩,e,⟨c',d⟩,f,p,q⟩
def N9:List (List Int):=[[],[0],[0,1],[1],[0,1,2],[0,1,2,7],[2]]
theorem Pf:∀ms∈N9,gm 0 ms=true/\ms.length<=8:=by decide
theorem Hr{r:Int}(h0:0<=r)(h7:r<7):∃ms,fI (N9.map λms=>D.tup (ms.map .int)) r=some (.tup (ms.map .int))/\gm 0 ms=true/\ms.length<=8:=by
 obtain⟨v,hv,hm⟩:=K6 (l:=N9.map λms=>D.tup (ms.map .int)) h0 (by simpa[N9] using h7);obtain⟨ms,h1,rfl⟩:=aU.mp hm;exact⟨ms,hv,Pf ms h1⟩
section
variable{T:Nat->Option ba}{k d:Nat}{g:G}{Q:KD}{E:KX}
theorem XJ(h4:T 4=some F1)(Lm:T 22=some wN)(D0:i5 g d)(h:∀c g',iG c->i5 g' d->Gr d g g'->Q c.d g'):b9 T (k+2) 22 [.ref d] g Q E:=by
 refine call_of Lm rfl ?_;dsimp[wN,c8,List.replicate];have dl:=D0.lt;walk_at"";have D1:=D0.snoc (.lst (N9.map λms=>D.tup (ms.map .int)));have G1:=Gr.snoc d g (.lst (N9.map λms=>D.tup (ms.map .int)));have e1:(g++[O.lst (N9.map λms=>D.tup (ms.map .int))])[g.length]?=some (.lst (N9.map λms=>D.tup (ms.map .int))):=b0;show b9 _ _ _ _ (g++[O.lst (N9.map λms=>D.tup (ms.map .int))]) _ _;generalize g++[O.lst (N9.map λms=>D.tup (ms.map .int))]=g1 at *;refine f7 h4 D1 (by decide) (by decide) λr g2 r0 r1 D2 G2=>?_;walk_at"";have e2:=G2.at (by omega) e1;have hn:∃n:Int,fI [D.int 4,D.int 7] (if decide (r=0)=true then 1 else 0)=some (.int n)/\0<n/\n<=7:=by
  by_cases hr:r=0
  ·exact⟨7,by rw[az hr];rfl,by decide,by decide⟩
  ·exact⟨4,by rw[aE hr];rfl,by decide,by decide⟩
 obtain⟨n,en,n0,n7⟩:=hn;refine p8 en ?_;walk_at"";refine f7 h4 D2 n0 (by omega) λr3 g3 gK gO D3 G3=>?_;have e3:=G3.at (by omega) e2;obtain⟨lm,el,gl,ll⟩:=Hr gK (by omega);refine n5 (a7 e3) el ?_;walk_at"";refine f7 h4 D3 (by decide) (by decide) λr4 g4 nW pZ D4 G4=>?_;have e4:=G4.at (by omega) e3;obtain⟨um,eu,gu,lu⟩:=Hr nW (by omega);refine n5 (a7 e4) eu ?_;walk_at"";have e5:(g4++[O.lst [.int 0,.int 0,.int 1400,.int 1400,.int 1401,.int 1]])[g4.length]?=some (.lst [.int 0,.int 0,.int 1400,.int 1400,.int 1401,.int 1]):=b0;refine f7 h4 (D4.snoc _) (by decide) (by decide) λr5 g5 jw jv D5 G5=>?_;have e6:=G5.at (by have:=D4.lt;omega) e5;obtain⟨v,hv,hm⟩:=K6 (l:=[D.int 0,.int 0,.int 1400,.int 1400,.int 1401,.int 1]) jw (by simpa using jv);have hy:∃y:Int,v=.int y/\0<=y/\y<=9999:=by
  simp only[List.mem_cons,List.mem_nil_iff,or_false] at hm;rcases hm with rfl|rfl|rfl|rfl|rfl|rfl<;>exact⟨_,rfl,by decide,by decide⟩
 obtain⟨y,rfl,y0,y1⟩:=hy;refine n5 (a7 e6) hv ?_;walk_at"";refine f7 h4 D5 (by decide) (by decide) λr6 g6 CC CA D6 G6=>?_;walk_at"";refine f7 h4 D6 (by decide) (by decide) λr7 g7 r70 r71 D7 G7=>?_;walk_at"";exact h ⟨1+r6,lm,1+r7,um,y⟩ _ (iG.mk' (by omega) (by omega) (by omega) (by omega) y0 y1 gl gu ll lu) D7 (G1.trans (G2.trans (G3.trans (G4.trans ((Gr.snoc _ _ _).trans (G5.trans (G6.trans G7)))))))
def AY(l:List D)(f:Int):Prop:=∃ns:List Int,l=ns.map .int/\∀n∈ns,1<=n/\n<f
theorem WB(h4:T 4=some F1)(tu:T 23=some G0){a:Nat}{l:List D}{f v:Int}(ha:g[a]?=some (.lst l))(hl:l.length<1000)(hs:AY l f)(f1:1<=f)(hd:d<a)(D0:i5 g d)(h:∀(l':List D) (f':Int) g',l'≠[]->l'.length<=l.length+1->AY l' f'->f<=f'->f'<=f+1->g'[a]?=some (.lst l')->i5 g' d->(∀i,i≠d->i≠a->i<g.length->g'[i]?=g[i]?)->g.length<=g'.length->Q (.int f') g'):b9 T (k+2) 23 [.ref d,.ref a,.int f,.int v] g Q E:=by
 refine call_of tu rfl ?_;have dl:=D0.lt;obtain⟨ns,rfl,oy⟩:=id hs;have app:∀g':G,g'[a]?=some (.lst (ns.map D.int))->i5 g' d->Gr d g g'->wpS (b9 T (k+1)) (.seq (.expr (.dW .append (.var 1) (.cons (.var 2) .nil))) (.seq (.ret (.prim (.bin .Add) (.cons (.var 2) (.cons (.lit (.int 1)) .nil)))) .pass)) ⟨λgM g1=>wpS (b9 T (k+1)) (i7 G0.body) ⟨λ_ g'=>Q .bx g',Q,λ_ _=>False,λ_ _=>False⟩ gM g1 E,Q,λ_ _=>False,λ_ _=>False⟩ [some (.ref d),some (.ref a),some (.int f),some (.int v)] g' E:=by
  intro g' e D1 G1;walk_at"";refine P8 e (by simp at hl ⊢;omega) ?_;walk_at"";refine h _ _ _ (by simp) (by simp) ⟨ns++[f],by simp,λn hn=>?_⟩ (by omega) (by omega) (get_set e) (D1.K2 hd) (λi h1 h2 h3=>?_) (by simp[G1.len])
  ·rcases bc.mp hn with z|z
   ·have:=oy n z;omega
   ·simp at z;omega
  ·rw[aA (bP h2)];exact G1.old i h1 h3
 have rest:∀g':G,g'[a]?=some (.lst (ns.map D.int))->ns≠[]->i5 g' d->Gr d g g'->wpS (b9 T (k+1)) (i7 G0.body) ⟨λ_ g'=>Q .bx g',Q,λ_ _=>False,λ_ _=>False⟩ [some (.ref d),some (.ref a),some (.int f),some (.int v)] g' E:=by
  intro g' e dH D1 G1;dsimp[G0,i7];walk_at"";refine f7 h4 D1 (by decide) (by decide) λr g2 r0 r1 D2 G2=>?_;have e2:=G2.at (by omega) e;have hlen:0<ns.length:=List.length_pos_iff.mpr dH;walk_at"";refine if2 (λc=>?_) (λc=>?_)
  ·walk_at"";rw[ao];refine f7 h4 D2 (by omega) (by simp at hl;omega) λr3 g3 gK gO D3 G3=>?_;have e3:=G3.at (by omega) e2;have hj:jx (ns.map D.int).length r3=some r3.toNat:=by
    unfold jx;rw[aK gK,aK (by rw[ao];exact gO)]
   refine U3 e3 hj ?_;walk_at"";refine h _ _ _ (by simp[dH]) (by simp) ⟨ns.set r3.toNat f,by simp,λn hn=>?_⟩ (by omega) (by omega) (get_set e3) (D3.K2 hd) (λi h1 h2 h3=>?_) (by simp[((G1.trans G2).trans G3).len])
   ·rcases List.mem_or_eq_of_mem_set hn with z|z
    ·have:=oy n z;omega
    ·omega
   ·rw[aA (bP h2)];exact((G1.trans G2).trans G3).old i h1 h3
  ·walk_at"";exact h _ _ _ (by simp[dH]) (by simp) hs (by omega) (by omega) e2 D2 (λi h1 h2 h3=>(G1.trans G2).old i h1 h3) (G1.trans G2).len
 dsimp[G0,c8,List.replicate];walk_at"";refine if2 (λc=>?_) (λc=>?_)
 ·refine jz ?_;exact app g ha D0 (Gr.refl _ _)
 ·have dH:ns≠[]:=λz=>c (by rw[z];rfl);walk_at"";refine if2 (λc2=>?_) (λc2=>?_)
  ·walk_at"";refine f7 h4 D0 (by decide) (by decide) λr g2 r0 r1 D2 G2=>?_;walk_at"";refine if2 (λc3=>?_) (λc3=>?_)
   ·exact app g2 (G2.at (by omega) ha) D2 G2
   ·walk_at "w1";exact rest g2 (G2.at (by omega) ha) dH D2 G2
  ·walk_at "w1";walk_at "w1";exact rest g ha dH D0 (Gr.refl _ _)
end
def F9:ba:=⟨3,17,(.seq (.set 3 (.prim .lst .nil)) (.seq (.set 4 (bj 1)) (.seq (.set 5 (.prim .mG .nil)) (.seq (.set 6 (cK (.prim .lst (fK (bj 0) (bj 1) (bj 1350))) (.call 4 (dz aN (bj 3))))) (.seq (.set 7 (bX (.bin .Add) (bj 1) (.call 4 (dz aN (bj 96))))) (.seq (.set 8 (bX (.bin .Add) (bj 2) (.call 4 (dz aN (bj 4))))) (.seq (.set 9 (bX .max (bj 0) (bX (.bin .Sub) (.call 4 (dz aN (bj 9))) (bj 6)))) (.seq (.set 10 (.prim .lst .nil)) (.seq (.cU (.one 11) (.dX bf) (.seq (.set 4 (.call 23 (lP aN bJ cT bp))) (.seq (.set 12 (bX .tup (cK bJ (.call 4 (dz aN (dg .len bJ)))) (bX (.bin .Add) (bj 50) (.call 4 (dz aN (bX (.bin .Add) (bj 2) bp)))))) (.seq (.cU (.one 13) (.eK gX) (.seq (.ifs (du .Eq (.call 4 (dz aN ip)) (bj 0)) (.seq (.set 14 (.call 4 (dz aN (bj 8)))) (.seq (.eI dq mX (dg .tuple (.comp [13,14,5] 5 (.one 4) (.dX (bj 8)) (.iN (du .Eq cT bf) (du .In cT (.dW .get bp (dz aN (.prim .tup .nil))))) cT))) .pass)) .pass) .pass)) (.seq (.ifs (du .Eq (.call 4 (dz aN (bj 5))) (bj 0)) (.seq (.set 6 (bX .min (bj 9999) (bX (.bin .Add) (bX (.bin .Add) eU (bj 1)) (.call 4 (dz aN (bj 9)))))) .pass) .pass) (.seq (.set 15 (.comp [9,7] 4 (.one 3) (.eK gX) .no (bX (.bin .Add) (bX (.bin .Add) (bj 1) aN) (bX (.bin .Mod) (bX (.bin .Mult) bJ bf) (bj 97))))) (.seq (.set 16 (bX (.bin .Mult) eU (dg .int (bX (.cmp .Gt) (.call 4 (dz aN (bj 4))) (bj 0))))) (.seq (.expr (.dW .append kF (eL (.prim .tup (qW (cK mW (bj 0)) (.dW .get dq (dz (cK gX (bj 0)) (.prim .tup .nil))) (cK mW (bj 1)) (.dW .get dq (dz (cK gX (bj 1)) (.prim .tup .nil))) rV))))) .pass)))))))) (.seq (.ret kF) .pass))))))))))⟩
def mD(kvs:List (Key×D)):Prop:=∀k v,t8 kvs k=some v->∃ms:List Int,v=.tup (ms.map .int)/\gm 0 ms=true/\ms.length<=8
theorem Zz(kvs:List (Key×D))(k k':Key)(v:D):t8 (putD kvs k v) k'=if k'=k then some v else t8 kvs k':=by
 unfold putD;split
 ·rename_i oK;have go:∀l:List (Key×D),t8 (l.map λkv=>if kv.1=k then(kv.1,v) else kv) k'=if k'=k then(if(l.any λkv=>decide (kv.1=k))=true then some v else none) else t8 l k':=by
   intro l
   induction l with
   |nil=>simp[t8]
   |cons p r ih =>
    obtain⟨pk,pv⟩:=p;by_cases e:pk=k
    ·subst e;by_cases e2:k'=pk
     ·subst e2;simp[t8]
     ·have:¬pk=k':=λz=>e2 z.symm;unfold t8 at ih ⊢;simp[this,e2] at ih ⊢;exact ih
    ·by_cases e2:k'=k
     ·subst e2;unfold t8 at ih ⊢;rw[List.any_cons,show decide (pk=k')=false from aE e,eQ];simp[e] at ih ⊢;exact ih
     ·unfold t8 at ih ⊢;simp only[List.map_cons,e,if_false,List.find?_cons];by_cases e3:pk=k'
      ·simp[e3,e2]
      ·simp[e3];simp[e2] at ih;simp[e2];exact ih
  rw[go,oK]
  rfl
 ·rename_i oK;unfold t8;rw[List.find?_append];by_cases e:k'=k
  ·subst e;have:kvs.find? (λkv=>decide (kv.1=k'))=none:=by
    rw[List.find?_eq_none];intro x hx hd;exact oK (aT.mpr ⟨x,hx,hd⟩)
   rw[this];simp
  ·have:¬k=k':=λz=>e z.symm;simp[this,e]
theorem YY(kvs:List (Key×D))(k:Key)(v:D):(putD kvs k v).length<=kvs.length+1:=by
 unfold putD;split<;>simp
theorem mD.put{kvs:List (Key×D)}{k:Key}{ms:List Int}(h:mD kvs)(h1:gm 0 ms=true)(h2:ms.length<=8):mD (putD kvs k (.tup (ms.map .int))):=λk' v hv=>by
 rw[Zz] at hv;split at hv
 ·cases hv;exact⟨ms,rfl,h1,h2⟩
 ·exact h k' v hv
theorem mD.get{kvs:List (Key×D)}(h:mD kvs)(k:Key):∃ms:List Int,(t8 kvs k).getD (.tup [])=.tup (ms.map .int)/\gm 0 ms=true/\ms.length<=8:=by
 cases e:t8 kvs k with
 |none=>exact⟨[],rfl,rfl,by simp⟩
 |some v=>obtain⟨ms,rfl,h1,h2⟩:=h k v e;exact⟨ms,rfl,h1,h2⟩
theorem ZW(p:Int->Bool):gm 0 (((List.range 8).map λ(n:Nat)=>(n:Int)).filter p)=true/\(((List.range 8).map λ(n:Nat)=>(n:Int)).filter p).length<=8:=by
 refine⟨EM (List.Pairwise.filter _ (by decide)) λm hm=>?_,aG (List.length_filter_le _ _) (by decide)⟩;have:=(bh.mp hm).1;revert this;revert m;intro m _ hm;simp at hm;obtain⟨a,ha,rfl⟩:=hm;omega
theorem List.VT{α:Type}{l:List α}{i:Nat}{x:α}(h:l[i]?=some x):l.set i x=l:=by
 apply cN;intro j;by_cases e:i=j
 ·subst e;rw[aY (ak.mp h).1];exact h.symm
 ·rw[aA e]
section
variable{T:Nat->Option ba}{k d:Nat}{g:G}{Q:KD}{E:KX}
def Ir:MS:=match F9.body with
 |.seq _ (.seq _ (.seq _ (.seq _ (.seq _ (.seq _ (.seq _ (.seq _ (.seq (.cU _ _ (.seq _ (.seq _ (.seq (.cU _ _ b) _)))) _))))))))=>b
 |x=>x
theorem QJ(h4:T 4=some F1){w0:Nat}{key wr:Int}{kvs:List (Key×D)}{Z:S}{N:Ends}(hw:g[w0]?=some (.ei kvs))(W:mD kvs)(hk:kvs.length<1000)(hr:0<wr)(ng:wr<1000)(hd:d<w0)(D0:i5 g d)(s0:Z[0]?=some (some (.ref d)))(s5:Z[5]?=some (some (.ref w0)))(s8:Z[8]?=some (some (.int wr)))(Jn:Z[13]?=some (some (.int key)))(sl:Z.length=17)(h:∀z gY g',g'[w0]?=some (.ei gY)->mD gY->gY.length<=kvs.length+1->i5 g' d->(∀i,i≠d->i≠w0->i<g.length->g'[i]?=g[i]?)->g.length<=g'.length->N.nx (Z.set 14 z) g'):wpS (b9 T (k+1)) Ir N Z g E:=by
 obtain⟨kd,vD⟩:∃z,Z[14]?=some z:=⟨_,ai (by omega)⟩
 dsimp[Ir,F9];refine S0 (Bo (Bq (uF (wm (S1 (w_var s0 (S1 (w_var s8 (vS ?_)))))))));refine f7 h4 D0 hr (by omega) λr g2 r0 r1 D2 G2=>?_;have dl:=D0.lt;walk_at"";refine if2 (λc=>?_) (λc=>?_)
 ·refine uj (vT (wm (S1 (w_var s0 (S1 (w_lit (vS ?_)))))));refine f7 h4 D2 (by decide) (by decide) λr3 g3 gK gO D3 G3=>?_;have e3:=(G2.trans G3).at (by omega) hw;have t0:(Z.set 14 (some (.int r3)))[0]?=some (some (.ref d)):=by rw[aA (by decide)];exact s0
  have t5:(Z.set 14 (some (.int r3)))[5]?=some (some (.ref w0)):=by rw[aA (by decide)];exact s5
  have Cp:(Z.set 14 (some (.int r3)))[13]?=some (some (.int key)):=by rw[aA (by decide)];exact Jn
  have Jh:(Z.set 14 (some (.int r3)))[14]?=some (some (.int r3)):=aY (by omega);obtain⟨ms,em,_,_⟩:=W.get (.inl key);refine S0 (HK (uE ?_));refine XH (a8 T _) (w_lit ⟨8,rfl,by decide,λi ys bU g'=>g'=g3/\ys.length<=i/\(∃z w,bU=[some (.int key),some (.int r3),some (.ref w0),z,w])/\ys=((((List.range i).map λ(n:Nat)=>(n:Int)).filter λs=>decide (s=r3)||ms.any λm=>m==s).map D.int),⟨rfl,by simp,⟨none,none,?_⟩,rfl⟩,λi ys Z g' p=>p.2.1,λi ys bU g' hi p=>?_,λys bU g' p=>?_⟩)
  ·simp[F2,Cp,Jh,t5,List.replicate]
  ·obtain⟨rfl,hl,⟨z,w,rfl⟩,e⟩:=p;have er:(List.range (i+1)).map (λ(n:Nat)=>(n:Int))=(List.range i).map (λ(n:Nat)=>(n:Int))++[(i:Int)]:=by rw[List.range_succ];simp
   have yes:(decide ((i:Int)=r3)||ms.any λm=>m==(i:Int))=true->aX (b9 T (k+1)) (.var 4) [some (.int key),some (.int r3),some (.ref w0),z,some (.int i)] g' (λy g4=>g4=g'/\(ys++[y]).length<=i+1/\(∃z' w',[some (.int key),some (.int r3),some (.ref w0),z,some (D.int i)]=[some (.int key),some (.int r3),some (.ref w0),z',w'])/\(ys++[y])=((((List.range (i+1)).map λ(n:Nat)=>(n:Int)).filter λs=>decide (s=r3)||ms.any λm=>m==s).map D.int)) ie:=λhc=>by
    walk_at"";refine⟨rfl,by simp;omega,⟨_,_,rfl⟩,?_⟩;rw[er,dD,dM,<- e];simp[hc]
   show cW _ _ _ _ _ _;walk_at"";refine if2 (λc1=>?_) (λc1=>?_)
   ·refine jz ?_;exact yes (by rw[az c1];rfl)
   ·walk_at"";refine Bf e3 (k:=.inl key) rfl ?_;rw[em];walk_at"";refine uy (AB ?_);walk_at"";cases hc:(ms.any λm=>m==(i:Int)) with
    |true =>
     refine jz ?_;exact yes (by rw[hc];simp)
    |false =>
     refine mI ?_;refine⟨rfl,by omega,⟨_,_,rfl⟩,?_⟩;rw[er,dD,dM,<- e];simp[hc,c1]
  ·obtain⟨rfl,hl,_,e⟩:=p;subst e;refine UW (a7 b0) ?_;obtain⟨f1,f2⟩:=ZW λs=>decide (s=r3)||ms.any λm=>m==s
   refine w_var t5 (w_var Cp ?_);refine EW (n6 e3) (k:=.inl key) rfl (by omega) ?_;refine h _ _ _ (get_set (n6 e3)) (W.put f1 f2) (YY _ _ _) ((D3.snoc _).K2 hd) (λi h1 h2 h3=>?_) ?_
   ·rw[aA (bP h2),aJ (aB h3 (G2.trans G3).len)];exact(G2.trans G3).old i h1 h3
   ·have:=(G2.trans G3).len;simp;omega
 ·refine F3 ?_;have e2:=G2.at (by omega) hw;have:=h kd kvs g2 e2 W (by omega) D2 (λi h1 h2 h3=>G2.old i h1 h3) G2.len
  rwa [List.VT vD] at this
end
section
variable{T:Nat->Option ba}{k d:Nat}{g:G}{Q:KD}{E:KX}
def L4:MS:=match F9.body with
 |.seq _ (.seq _ (.seq _ (.seq _ (.seq _ (.seq _ (.seq _ (.seq _ (.seq (.cU _ _ b) _))))))))=>b
 |x=>x
structure hZ(d s0 w0 f0 i:Nat)(g:G)(f y:Int):Prop where
 Cu:∃l,g[s0]?=some (.lst l)/\AY l f/\l.length<=i
 fr:1<=f/\f<=1+i
 IW:∃kvs,g[w0]?=some (.ei kvs)/\mD kvs/\kvs.length<=2*i
 found:∃cs:List a9,g[f0]?=some (.lst (cs.map a9.d))/\cs.length=i/\∀c∈cs,iG c
 year:0<=y/\y<=9999
 dr:i5 g d
theorem Yc{s0 w0 f0 i n0:Nat}{n v f y st wr sh:Int}{uP IV IU IT xn xl:Option D}(h4:T 4=some F1)(tu:T 23=some G0)(S:hZ d s0 w0 f0 i g f y)(hi:i<=100)(hv:1<=v/\v<=100)(dP:1<=st/\st<=96)(iz:0<wr/\wr<1000)(iO:0<=sh/\sh<=2)(o1:d<n0)(o2:n0<=s0)(o3:s0<w0)(o4:w0<f0){N:Ends}(h:∀f' y' gz fT kd qV qU g',hZ d s0 w0 f0 (i+1) g' f' y'->(∀j,j≠d->j<n0->g'[j]?=g[j]?)->g.length<=g'.length->N.nx [some (.ref d),some (.int n),some (.int v),some (.ref s0),some (.int f'),some (.ref w0),some (.int y'),some (.int st),some (.int wr),some (.int sh),some (.ref f0),uP,gz,fT,kd,qV,qU] g') :
  wpS (b9 T (k+2)) L4 N [some (.ref d),some (.int n),some (.int v),some (.ref s0),some (.int f),some (.ref w0),some (.int y),some (.int st),some (.int wr),some (.int sh),some (.ref f0),uP,IV,IU,IT,xn,xl] g E:=by
 obtain⟨⟨l,es,hs,hl⟩,⟨f1,f2⟩,⟨kvs,ew,W,hk⟩,⟨cs,ef,hc,hg⟩,⟨y0,y1⟩,D0⟩:=S;have lf:=k8 ef;dsimp[L4,F9];walk_at"";refine WB h4 tu es (by omega) hs f1 (by omega) D0 λl1 f' g1 dH iB Df f3 f5 fY D1 lT fQ=>?_;have DY:g1[w0]?=some (.ei kvs):=(lT w0 (by omega) (by omega) (k8 ew)).trans ew;have Ec:g1[f0]?=some (.lst (cs.map a9.d)):=(lT f0 (by omega) (by omega) lf).trans ef;walk_at"";have fG:0<l1.length:=List.length_pos_iff.mpr dH;refine f7 (n:=(l1.length:Int)) h4 D1 (by omega) (by omega) λr2 g2 gw gs D2 G2=>?_;have lq:=G2.at (by omega) fY;have DX:=G2.at (by omega) DY;have Eb:=G2.at (by omega) Ec;obtain⟨x,hx,hm⟩:=K6 (l:=l1) gw gs;obtain⟨ns,rfl,oy⟩:=id Df;obtain⟨k1,Ko,rfl⟩:=aU.mp hm;refine n5 (a7 lq) hx ?_;walk_at"";refine f7 (n:=2+v) h4 D2 (by omega) (by omega) λr3 g3 gK gO D3 G3=>?_;have zr:=G3.at (by omega) lq;have DW:=G3.at (by omega) DX;have zw:=G3.at (by omega) Eb;walk_at"";have kb1:=oy k1 Ko;have rE:∀j,j≠d->j<n0->g3[j]?=g[j]?:=λj a b=>by
  have lj:j<g.length:=by omega
  rw[G3.old j a (by have:=G2.len;(clear hi hv dP iz iO o1 hl f1 f2 hk hc y0 y1 f3 f5 gw iB fG gs gK gO kb1 a lj;omega)),G2.old j a (by omega),lT j a (by omega) lj]
 have gx:g.length<=g3.length:=by have:=G2.len;have:=G3.len;(clear hi hv dP iz iO o1 o2 o3 o4 hl f1 f2 hk hc y0 y1 lf f3 f5 gw iB fG gs gK gO kb1;omega)
 refine u9 (a8 T _) (sf (a8 T _) ?_);walk_at"";refine ⟨_,rfl,_,λj Z g'=>∃ gY fT kd,Z=[some (.ref d),some (.int n),some (.int v),some (.ref s0),some (.int f'),some (.ref w0),some (.int y),some (.int st),some (.int wr),some (.int sh),some (.ref f0),uP,some (.tup [.int k1,.int (50 + r3)]),fT,kd,xn,xl]/\g'[w0]?=some (.ei gY)/\mD gY/\gY.length <= 2 * i + j/\i5 g' d/\(∀ j,j ≠ d->j ≠ w0->j < g3.length->g'[j]?=g3[j]?)/\g3.length <= g'.length,
  λ_ _ _ _=>q9,⟨kvs,_,_,rfl,DW,W,by omega,D3,λ_ _ _ _=>rfl,aw _⟩,λj x Z g' hx p=>?_,λZ g' p=>?_⟩
 ·obtain⟨gY,fT,kd,rfl,LM,W',lH,D',xF,rS⟩:=p;have jg:∃key:Int,x=.int key/\j<2:=by
   match j,hx with
   |0,hx=>cases hx;exact⟨_,rfl,by decide⟩
   |1,hx=>cases hx;exact⟨_,rfl,by decide⟩
   |j+2,hx=>simp at hx
  obtain⟨key,rfl,hj⟩:=jg;show wpS _ _ _ _ _ _;refine QJ (k:=k+1) h4 LM W' (by(clear hv dP iz iO o1 o2 o3 o4 hl f1 f2 hk y0 y1 lf f3 f5 fQ gw iB fG gs gK gO kb1 gx rS;omega)) iz.1 iz.2 (by omega) D' rfl rfl rfl rfl rfl λz xO LD e2 W2 Kn D2' oi rR=>?_;exact⟨xO,_,_,rfl,e2,W2,by(clear hi hv dP iz iO o1 o2 o3 o4 hl f1 f2 hk y0 y1 lf f3 f5 fQ gw iB fG gs gK gO kb1 gx rS hj rR;omega),D2',λj a b c=>(oi j a b (by omega)).trans (xF j a b c),by(clear hi hv dP iz iO o1 o2 o3 o4 hl f1 f2 hk hc y0 y1 lf f3 f5 fQ gw iB fG gs gK gO kb1 gx lH hj Kn;omega)⟩
 obtain⟨rX,fT,kd,rfl,LL,W4,jB,D4,lS,gW⟩:=p;have LR:g'[s0]?=some (.lst (ns.map D.int)):=(lS s0 (by omega) (by omega) (k8 zr)).trans zr;have LY:g'[f0]?=some (.lst (cs.map a9.d)):=(lS f0 (by omega) (by omega) (k8 zw)).trans zw;have rD:∀j,j≠d->j<n0->g'[j]?=g[j]?:=λj a b=>(lS j a (by omega) (by(clear hi hv dP iz iO o1 hl f1 f2 hk hc y0 y1 f3 f5 fQ gw iB fG gs gK gO kb1 jB gW a;omega))).trans (rE j a b);clear lS rE G2 G3 fY DY Ec lq DX Eb zr DW zw lT;have jB:rX.length<=2*(i+1):=by simp at jB;(clear hi hv dP iz iO o1 o2 o3 o4 hl f1 f2 hk y0 y1 lf f3 f5 fQ gw iB fG gs gK gO kb1 gx gW;omega)
 show wpS _ _ _ _ _ _;walk_at"";refine f7 h4 D4 (by decide) (by decide) λr5 g5 jw jv D5 G5=>?_;walk_at"";have tail:∀(y':Int) (g6:G),0<=y'->y'<=9999->i5 g6 d->Gr d g' g6->wpS (b9 T (k+2)) (i7 (i7 (i7 (i7 L4)))) N [some (.ref d),some (.int n),some (.int v),some (.ref s0),some (.int f'),some (.ref w0),some (.int y'),some (.int st),some (.int wr),some (.int sh),some (.ref f0),uP,some (.tup [.int k1,.int (50+r3)]),fT,kd,xn,xl] g6 E:=by
  intro y' g6 kf ke D6 G6;have LP:=G6.at (by omega) LR;have LK:=G6.at (by omega) LL;have vB:=G6.at (by omega) LY;dsimp[L4,F9,i7];walk_at"";refine XI (a8 T _) ?_;walk_at"";refine⟨_,rfl,by simp,λj ys Z g7=>g7=g6/\(∃z w,Z=[some (.int sh),some (.int st),z,w])/\ys=([k1,50+r3].take j).map (λkey=>D.int (1+sh+key*st % 97)),⟨rfl,⟨none,none,rfl⟩,rfl⟩,λj ys Z g7 p=>?_,λj x ys Z g7 hx p=>?_,λys Z g7 p=>?_⟩
  ·obtain⟨rfl,_,rfl⟩:=p;simp;omega
  ·obtain⟨rfl,⟨z,w,rfl⟩,rfl⟩:=p;have jg:∃key:Int,x=.int key/\([k1,50+r3].take j).map (λkey=>D.int (1+sh+key*st % 97))++[D.int (1+sh+key*st % 97)]=([k1,50+r3].take (j+1)).map (λkey=>D.int (1+sh+key*st % 97)):=by
    match j,hx with
    |0,hx=>cases hx;exact⟨_,rfl,rfl⟩
    |1,hx=>cases hx;exact⟨_,rfl,rfl⟩
    |j+2,hx=>simp at hx
   obtain⟨key,rfl,he⟩:=jg;show cW _ _ _ _ _ _;walk_at"";refine Q4 (Y4 (by omega) (by omega)) ?_;walk_at"";exact⟨rfl,⟨_,_,rfl⟩,he⟩
  obtain⟨rfl,_,rfl⟩:=p;have eN:(g7++[O.lst [D.int (1+sh+k1*st % 97),D.int (1+sh+(50+r3)*st % 97)]])[g7.length]?=some (.lst [D.int (1+sh+k1*st % 97),D.int (1+sh+(50+r3)*st % 97)]):=b0;show wpS _ _ _ _ (g7++[O.lst [D.int (1+sh+k1*st % 97),D.int (1+sh+(50+r3)*st % 97)]]) _;walk_at"";refine f7 h4 (D6.snoc _) (by decide) (by decide) λr8 g8 kB kA D8 G8=>?_;have l7:=D6.lt;have eN8:=G8.at (by omega) eN;have LO:=G8.at (by omega) (n6 LP);have zq:=G8.at (by omega) (n6 LK);have Ea:=G8.at (by omega) (n6 vB);walk_at"";refine Q4 (BA (by omega) (by omega)) ?_;walk_at"";obtain⟨lm,el,gl,ll⟩:=W4.get (.inl k1);obtain⟨um,eu,gu,lu⟩:=W4.get (.inl (50+r3));refine Bf zq (k:=.inl k1) rfl ?_;rw[el];walk_at"";refine Bf zq (k:=.inl (50+r3)) rfl ?_;rw[eu];walk_at"";refine P8 Ea (by simp;omega) ?_;generalize iA:y'*(if decide (0<r8)=true then 1 else 0)=ty;have jT:0<=ty/\ty<=9999:=by
   rw[<- iA];split<;>simp<;>omega
  walk_at"";refine h f' y' _ _ _ _ _ _ ⟨⟨_,d6 LO (by omega),Df,by(clear hi hv dP iz iO o1 o2 o3 o4 f1 f2 hk y0 y1 lf f3 f5 fQ gw fG gs gK gO kb1 gx gW jB jw jv kf ke kB kA l7 ll lu iA jT;omega)⟩,⟨by omega,by(clear hi hv dP iz iO o1 o2 o3 o4 hl f1 hk y0 y1 lf fQ gw iB fG gs gK gO kb1 gx gW jB jw jv kf ke kB kA l7 ll lu iA jT;omega)⟩,⟨rX,d6 zq (by omega),W4,jB⟩,⟨cs++[⟨1+sh+k1*st % 97,lm,1+sh+(50+r3)*st % 97,um,ty⟩],?_,by simp[hc],?_⟩,⟨kf,ke⟩,D8.K2 (by omega)⟩ (λj a b=>?_) ?_
  ·rw[get_set Ea];simp[a9.d]
  ·intro c hV;rcases bc.mp hV with z|z
   ·exact hg c z
   ·simp at z;subst z;have m1:=eY (k1*st) (show(97:Int)≠0 by decide);have m2:=dE (k1*st) (show(0:Int)<97 by decide);have m3:=eY ((50+r3)*st) (show(97:Int)≠0 by decide);have m4:=dE ((50+r3)*st) (show(0:Int)<97 by decide);exact iG.mk' (by(clear hi hv dP iz o1 o2 o3 o4 hl f1 f2 hk hc y0 y1 lf f3 f5 fQ gw iB fG gs gK gO kb1 gx gW jB jw jv kf ke kB kA l7 ll lu iA jT m2 m3 m4;omega)) (by(clear hi hv dP iz o1 o2 o3 o4 hl f1 f2 hk hc y0 y1 lf f3 f5 fQ gw iB fG gs gK gO kb1 gx gW jB jw jv kf ke kB kA l7 ll lu iA jT m2 m3 m4;omega)) (by(clear hi hv dP iz o1 o2 o3 o4 hl f1 f2 hk hc y0 y1 lf f3 f5 fQ gw iB fG gs gK gO kb1 gx gW jB jw jv kf ke kB kA l7 ll lu iA jT m1 m2 m4;omega)) (by(clear hi hv dP iz o1 o2 o3 o4 hl f1 f2 hk hc y0 y1 lf f3 f5 fQ gw iB fG gs gK gO kb1 gx gW jB jw jv kf ke kB kA l7 ll lu iA jT m1 m2 m4;omega)) jT.1 jT.2 gl gu ll lu
  ·have lj:j<g'.length:=by(clear hi hv dP iz iO o1 hl f1 f2 hk hc y0 y1 f3 f5 fQ gw iB fG gs gK gO kb1 jB jw jv kf ke kB kA l7 ll lu iA jT a;omega)
   rw[aA (by(clear hi hv dP iz iO o1 hl f1 f2 hk hc y0 y1 lf f3 f5 fQ gw iB fG gs gK gO kb1 gx gW jB jw jv kf ke kB kA l7 ll lu iA jT a lj;omega)),G8.old j a (by have:=G6.len;simp;(clear hi hv dP iz iO o1 o2 o3 o4 hl f1 f2 hk hc y0 y1 lf f3 f5 fQ gw iB fG gs gK gO kb1 gx gW jB jw jv kf ke kB kA l7 ll lu iA jT a b;omega)),aJ (by have:=G6.len;(clear hi hv dP iz iO o1 o2 o3 o4 hl f1 f2 hk hc y0 y1 lf f3 f5 fQ gw iB fG gs gK gO kb1 gx gW jB jw jv kf ke kB kA l7 ll lu iA jT a b;omega)),G6.old j a lj];exact rD j a b
  ·have:=G6.len;have:=G8.len;simp at this ⊢
   (clear hi hv dP iz iO o1 o2 o3 o4 hl f1 f2 hk hc y0 y1 lf f3 f5 fQ gw iB fG gs gK gO kb1 jB jw jv kf ke kB kA l7 ll lu iA jT;omega)
 refine if2 (λc=>?_) (λc=>?_)
 ·walk_at"";refine f7 h4 D5 (by decide) (by decide) λr6 g6 CC CA D6 G6=>?_;walk_at"";generalize xU:(if y+1+r6<9999 then y+1+r6 else 9999)=y';have:0<=y'/\y'<=9999:=by rw[<- xU];split<;>omega
  exact tail y' g6 this.1 this.2 D6 (G5.trans G6)
 ·refine F3 ?_;exact tail y g5 y0 y1 D5 G5
theorem WE(h4:T 4=some F1)(tu:T 23=some G0)(Ll:T 24=some F9){n v:Int}(hn:0<=n/\n<=100)(hv:1<=v/\v<=100)(D0:i5 g d)(h:∀(cs:List a9) a g',(cs.length:Int)=n->(∀c∈cs,iG c)->g'[a]?=some (.lst (cs.map a9.d))->g.length<=a->i5 g' d->Gr d g g'->Q (.ref a) g'):b9 T (k+3) 24 [.ref d,.int n,.int v] g Q E:=by
 refine call_of Ll rfl ?_;dsimp[F9,c8,List.replicate];have dl:=D0.lt;walk_at"";have D1:i5 (g++[O.lst []]++[O.ei []]++[O.lst [.int 0,.int 1,.int 1350]]) d:=((D0.snoc _).snoc _).snoc _;have G1:Gr d g (g++[O.lst []]++[O.ei []]++[O.lst [.int 0,.int 1,.int 1350]]):=((Gr.snoc _ _ _).trans (Gr.snoc _ _ _)).trans (Gr.snoc _ _ _);have e0:(g++[O.lst []]++[O.ei []]++[O.lst [.int 0,.int 1,.int 1350]])[g.length]?=some (.lst []):=n6 (n6 b0);have e1:(g++[O.lst []]++[O.ei []]++[O.lst [.int 0,.int 1,.int 1350]])[(g++[O.lst []]).length]?=some (.ei []):=n6 b0;have e2:(g++[O.lst []]++[O.ei []]++[O.lst [.int 0,.int 1,.int 1350]])[(g++[O.lst []]++[O.ei []]).length]?=some (.lst [.int 0,.int 1,.int 1350]):=b0;have n1:(g++[O.lst []]).length=g.length+1:=by simp
 have n2:(g++[O.lst []]++[O.ei []]).length=g.length+2:=by simp
 rw[n1] at e1 ⊢;rw[n2] at e2 ⊢;generalize g++[O.lst []]++[O.ei []]++[O.lst [.int 0,.int 1,.int 1350]]=g1 at *;refine f7 h4 D1 (by decide) (by decide) λr2 g2 gw gs D2 G2=>?_;have Mg:=G2.at (by omega) e0;have lN:=G2.at (by omega) e1;have Mb:=G2.at (by omega) e2;obtain⟨x,hx,hm⟩:=K6 (l:=[D.int 0,.int 1,.int 1350]) gw (by simpa using gs);have hy:∃y:Int,x=.int y/\0<=y/\y<=9999:=by
  simp only[List.mem_cons,List.mem_nil_iff,or_false] at hm;rcases hm with rfl|rfl|rfl<;>exact⟨_,rfl,by decide,by decide⟩
 obtain⟨y,rfl,y0,y1⟩:=hy;refine n5 (a7 Mb) hx ?_;walk_at"";refine f7 h4 D2 (by decide) (by decide) λr3 g3 gK gO D3 G3=>?_;walk_at"";refine f7 h4 D3 (by decide) (by decide) λr4 g4 nW pZ D4 G4=>?_;walk_at"";refine f7 h4 D4 (by decide) (by decide) λr5 g5 jw jv D5 G5=>?_;have xg:=G3.trans (G4.trans G5);have Mf:=xg.at (by omega) Mg;have tN:=xg.at (by omega) lN;have l5:=(G1.trans (G2.trans xg)).len;have lw:=k8 tN;walk_at"";generalize iO:(if r5-6>0 then r5-6 else 0)=sh;have Cs:0<=sh/\sh<=2:=by rw[<- iO];split<;>omega
 have ph:(g5++[O.lst []])[g5.length]?=some (.lst []):=b0;refine u9 (a8 T _) (W9 (a8 T _) ?_);walk_at"";refine ⟨by omega,by omega,i3 0 n.toNat,λi Z g'=>∃ f' y' gN gz fT kd qV qU,Z=[some (.ref d),some (.int n),some (.int v),some (.ref g.length),some (.int f'),some (.ref (g.length + 1)),some (.int y'),some (.int (1 + r3)),some (.int (2 + r4)),some (.int sh),some (.ref g5.length),gN,gz,fT,kd,qV,qU]/\hZ d g.length (g.length + 1) g5.length i g' f' y'/\Gr d g g',
  λ_ _ _ _=>q9,⟨1,y,none,none,none,none,none,none,rfl,⟨⟨[],n6 Mf,⟨[],rfl,by simp⟩,by simp⟩,⟨by omega,by omega⟩,⟨[],n6 tN,(λk v hv=>by cases hv),by simp⟩,⟨[],ph,rfl,by simp⟩,⟨y0,y1⟩,D5.snoc _⟩,(G1.trans (G2.trans xg)).trans (Gr.snoc _ _ _)⟩,λi x Z g' hx p=>?_,λZ g' p=>?_⟩
 ·obtain⟨f',y',gN,gz,fT,kd,qV,qU,rfl,S,G'⟩:=p;obtain⟨hi,rfl⟩:=x3 hx;show wpS _ L4 _ _ _ _;refine Yc (n0:=g.length) h4 tu S (by omega) hv ⟨by omega,by omega⟩ ⟨by omega,by omega⟩ Cs dl (aw _) (by omega) (by omega) λf2 y2 a b c e f g2 S2 oi rR=>?_;exact⟨f2,y2,_,_,_,_,_,_,rfl,S2,⟨by have:=G'.len;(clear hn hv dl gw gs y0 y1 gK gO nW pZ jw jv l5 lw iO Cs hi;omega),λj h1 h2=>(oi j h1 h2).trans (G'.old j h1 h2)⟩⟩
 ·obtain⟨f',y',gN,gz,fT,kd,qV,qU,rfl,S,G'⟩:=p;show wpS _ _ _ _ _ _;walk_at"";obtain⟨cs,ef,hc,hg⟩:=S.found;rw[j7] at hc;exact h cs _ _ (by omega) hg ef (by omega) S.dr G'
end
def wB:ba:=⟨2,8,(.seq (.set 2 (bX .je (bj 1) (bX (.bin .Add) (bX (.bin .Add) (bX (.bin .FloorDiv) bf (bj 2)) (bX (.bin .Mod) bf (bj 2))) (bj 1)))) (.seq (.set 3 (bX (.bin .Add) bp (bX (.lE false true) (.call 21 (dz aN bp)) (bX (.bin .FloorDiv) bf (bj 2))))) (.seq (.set 4 (.call 4 (dz aN (bj 3)))) (.seq (.set 5 (.prim .lst .nil)) (.seq (.cU (.one 6) (.dX bf) (.seq (.set 7 (cK (.prim .lst (fK (bX (.bin .Add) (bj 1000) eU) (bj 0) (bX (.bin .Add) (bj 1) (bX (.bin .FloorDiv) (bX (.bin .Mult) (bj 2) eU) (bX .max (bj 1) bf))))) cT)) (.seq (.expr (.dW .append dq (eL (.prim .tup (qW (cK bJ eU) (.prim .tup .nil) (bX (.bin .Add) (bj 1) (.call 4 (dz aN (bj 9)))) (.prim .tup .nil) fu))))) .pass))) (.seq (.ret dq) .pass))))))⟩
def P9:ba:=⟨2,9,(.seq (.set 2 (.call 4 (dz aN (bX (.bin .Add) bf (bj 1))))) (.seq (.set 3 (bX (.bin .Add) (bj 1) (.call 4 (dz aN (bj 3))))) (.seq (.set 4 (.call 4 (dz aN (bj 5)))) (.seq (.ifs (du .Eq cT (bj 0)) (.seq (.ret (bX .tup (.comp [0] 3 (.one 2) (.dX bp) .no (.call 22 (eL aN))) bJ)) .pass) .pass) (.seq (.ifs (du .Eq cT (bj 4)) (.seq (.set 3 (bX (.bin .Add) (bj 1) (.call 4 (dz aN (bj 6))))) .pass) .pass) (.seq (.set 5 (.ite (du .Eq cT (bj 4)) (.call 25 (dz aN bp)) (.call 24 (fK aN bp bJ)))) (.seq (.set 5 (.comp [5] 3 (.one 2) (.eK (.call 21 (dz aN (dg .gU bp)))) .no (cK aN bp))) (.seq (.ifs (.dw (du .Eq cT (bj 1)) (du .Gt bp (bj 0))) (.seq (.set 6 (.call 4 (dz aN bp))) (.seq (.set 7 (cK dq eU)) (.seq (.set 8 (cK dq (.call 4 (dz aN bp)))) (.seq (.eI dq eU (.prim .tup (qW (cK fu (bj 0)) (cK ip (bj 1)) (cK ip (bj 2)) (cK fu (bj 3)) (cK (.prim .lst (fK (cK fu (bj 4)) (cK ip (bj 4)) (bj 9999))) (.call 4 (dz aN (bj 3))))))) .pass)))) .pass) (.seq (.ifs (du .Eq cT (bj 2)) (.seq (.set 3 (bj 1)) .pass) .pass) (.seq (.ret (bX .tup dq bJ)) .pass))))))))))⟩
theorem Hl{p:Int->Prop}:∀{l:List D},(∀x∈l,∃i:Int,x=.int i/\p i)->∃ns:List Int,l=ns.map .int/\∀i∈ns,p i
 |[],_=>⟨[],rfl,by simp⟩
 |x::r,h=>by
  obtain⟨i,rfl,hi⟩:=h x (by simp);obtain⟨ns,rfl,hn⟩:=Hl (l:=r) λy hy=>h y (by simp[hy]);exact⟨i::ns,rfl,λj hj=>(aL.mp hj).elim (λz=>z▸hi) (hn j)⟩
theorem HB{lo:Int}{n:Nat}{x:D}(h:x∈i3 lo n):∃i:Int,x=.int i/\lo<=i/\i<lo+n:=by
 unfold i3 at h;obtain⟨k,hk,rfl⟩:=aU.mp h;exact⟨_,rfl,by omega,by have:=aM.mp hk;omega⟩
theorem Vi{α:Type}{l:List α}{n:Nat}(h:n<=l.length):cut l none (some (n:Int))=l.take n:=by
 have:¬((n:Int)<0):=by omega
 unfold cut HT.dF;simp[this]
theorem OM{ns:List Int}{r:Int}(h0:0<=r)(h1:r<ns.length):∃i∈ns,fI (ns.map D.int) r=some (.int i):=by
 obtain⟨v,hv,hm⟩:=K6 (l:=ns.map D.int) h0 (by simpa using h1);obtain⟨i,hi,rfl⟩:=aU.mp hm;exact⟨i,hi,hv⟩
theorem Al{cs:List a9}{r:Int}(h0:0<=r)(h1:r<cs.length):∃c∈cs,fI (cs.map a9.d) r=some c.d:=by
 obtain⟨v,hv,hm⟩:=K6 (l:=cs.map a9.d) h0 (by simpa using h1);obtain⟨i,hi,rfl⟩:=aU.mp hm;exact⟨i,hi,hv⟩
section
variable{T:Nat->Option ba}{k d:Nat}{g:G}{Q:KD}{E:KX}
theorem Wh(h4:T 4=some F1)(yT:T 21=some T4)(Lj:T 25=some wB){n:Int}(hn:0<=n/\n<=100)(D0:i5 g d)(h:∀(cs:List a9) a g',(cs.length:Int)=n->(∀c∈cs,iG c)->g'[a]?=some (.lst (cs.map a9.d))->g.length<=a->i5 g' d->Gr d g g'->Q (.ref a) g'):b9 T (k+3) 25 [.ref d,.int n] g Q E:=by
 refine call_of Lj rfl ?_;dsimp[wB,c8,List.replicate];have dl:=D0.lt;walk_at"";refine rQ (i:=1) (j:=n / 2+n % 2+1) (by omega) ?_;walk_at"";have hh:∃hf:Nat,(n / 2+n % 2+1-1).toNat=hf/\(hf:Int)=n / 2+n % 2/\hf<=50:=⟨_,rfl,by omega,by omega⟩
 obtain⟨hf,yw,hh2,Du⟩:=hh;rw[yw];have e1:(g++[O.lst (i3 1 hf)])[g.length]?=some (.lst (i3 1 hf)):=b0;refine Gx h4 yT e1 (by rw[j7];omega) (by omega) (D0.snoc _) λl' b g2 hp e2 hb D2 G2=>?_;have lN:=G2.at (by omega) e1;walk_at"";refine GW (a7 e2) ?_;have hle:l'.length=hf:=by rw[hp.length_eq,j7]
 have hc:cut l' none (some (n / 2))=l'.take (n / 2).toNat:=by
  have:=Vi (l:=l') (n:=(n / 2).toNat) (by omega)
  rwa [show(((n / 2).toNat:Nat):Int)=n / 2 by omega] at this
 rw[hc];refine qI (n6 lN) b0 (by rw[j7,cR];omega) ?_;obtain⟨rl,er,hr⟩:=Hl (p:=λi=>1<=i/\i<=50) (l:=i3 1 hf++l'.take (n / 2).toNat) λx hx=>by
  have mY:x∈i3 1 hf:=by
   rcases bc.mp hx with z|z
   ·exact z
   ·exact hp.mem_iff.mp (List.mem_of_mem_take z)
  obtain⟨i,rfl,h1,h2⟩:=HB mY;exact⟨i,rfl,h1,by omega⟩
 have Dh:(rl.length:Int)=n:=by
  have:=congrArg List.length er;rw[bg,j7,cR,ao] at this;omega
 rw[er];have D3:=(D2.snoc (.lst (l'.take (n / 2).toNat))).snoc (.lst (rl.map D.int));have G3:=(Gr.snoc d g (.lst (i3 1 hf))).trans (G2.trans ((Gr.snoc d g2 (.lst (l'.take (n / 2).toNat))).trans (Gr.snoc d _ (.lst (rl.map D.int)))));have e3:(g2++[O.lst (l'.take (n / 2).toNat)]++[O.lst (rl.map D.int)])[(g2++[O.lst (l'.take (n / 2).toNat)]).length]?=some (.lst (rl.map D.int)):=b0;have l3:g.length+1<=(g2++[O.lst (l'.take (n / 2).toNat)]).length:=by have:=G2.len;simp at this ⊢;omega
 generalize (g2++[O.lst (l'.take (n / 2).toNat)]).length=Cw at *;generalize g2++[O.lst (l'.take (n / 2).toNat)]++[O.lst (rl.map D.int)]=g3 at *;walk_at"";refine f7 h4 D3 (by decide) (by decide) λr4 g4 nW pZ D4 G4=>?_;have e4:=G4.at (by omega) e3;walk_at"";have II:=G3.trans G4;have l4:=II.len;have e5:(g4++[O.lst []])[g4.length]?=some (.lst ([].map a9.d)):=b0;have CS:=k8 e4;refine u9 (a8 T _) (W9 (a8 T _) ?_);walk_at"";refine ⟨by omega,by omega,i3 0 n.toNat,λi Z g'=>∃ cs z6 z7,Z=[some (.ref d),some (.int n),some (.ref g.length),some (.ref Cw),some (.int r4),some (.ref g4.length),z6,z7]/\cs.length=i/\(∀ c ∈ cs,iG c)/\g'[g4.length]?=some (.lst (cs.map a9.d))/\g'[Cw]?=some (.lst (rl.map D.int))/\i5 g' d/\Gr d g g',
  λ_ _ _ _=>q9,⟨[],none,none,rfl,rfl,by simp,e5,n6 e4,D4.snoc _,II.trans (Gr.snoc _ _ _)⟩,λi x Z g' hx p=>?_,λZ g' p=>?_⟩
 ·obtain⟨cs,z6,z7,rfl,hc,hg,ef,erw,D',G'⟩:=p;obtain⟨hi,rfl⟩:=x3 hx;show wpS _ _ _ _ _ _;walk_at"";refine Q4 (BA (by decide) (by decide)) ?_;walk_at"";refine vG ⟨by split<;>omega,by split<;>omega⟩ ?_;walk_at"";obtain⟨yv,hy,xR⟩:∃yv:Int,fI [D.int (1000+(0+(i:Int))),D.int 0,D.int (1+2*(0+(i:Int)) / (if n>1 then n else 1))] r4=some (.int yv)/\0<=yv/\yv<=9999:=by
   have dv0:0<=2*(0+(i:Int)) / (if n>1 then n else 1):=Int.ediv_nonneg (by omega) (by split<;>omega);have dv1:2*(0+(i:Int)) / (if n>1 then n else 1)<=2*(0+(i:Int)):=Int.ediv_le_self _ (by omega);have:r4=0\/r4=1\/r4=2:=by omega
   rcases this with rfl|rfl|rfl
   ·exact⟨_,rfl,by omega,by(clear dl yw Du hb l3 l4 CS hc nW pZ;omega)⟩
   ·exact⟨_,rfl,by omega,by omega⟩
   ·exact⟨_,rfl,by omega,by omega⟩
  refine n5 (a7 b0) hy ?_;walk_at"";obtain⟨lo,Dq,ym⟩:=OM (ns:=rl) (r:=0+(i:Int)) (by omega) (by(clear hn dl yw Du hb l3 nW pZ l4 CS xR;omega));have lf:=k8 ef;refine And.intro (Y0 (n6 ef)) ?_;walk_at"";refine n5 (a7 (n6 erw)) ym ?_;walk_at"";refine f7 h4 (D'.snoc _) (by decide) (by decide) λr6 g6 CC CA D6 G6=>?_;have vB:=G6.at (by omega) (n6 ef);have LU:=G6.at (by omega) (n6 erw);walk_at"";refine P8 vB (by simp;omega) ?_;walk_at"";have hlb:=hr lo Dq;refine⟨cs++[⟨lo,[],1+r6,[],yv⟩],_,_,rfl,by simp[hc],?_,?_,d6 LU (by omega),D6.K2 (by omega),(G'.trans ((Gr.snoc _ _ _).trans G6)).K2 (by omega)⟩
  ·intro c hV;rcases bc.mp hV with z|z
   ·exact hg c z
   ·simp at z;subst z;exact iG.mk' (by omega) (by omega) (by omega) (by omega) xR.1 xR.2 rfl rfl (by simp) (by simp)
  ·rw[get_set vB];simp[a9.d]
 ·obtain⟨cs,z6,z7,rfl,hc,hg,ef,erw,D',G'⟩:=p;show wpS _ _ _ _ _ _;walk_at"";rw[j7] at hc;exact h cs _ _ (by omega) hg ef (by omega) D' G'
end
section
variable{T:Nat->Option ba}{k d:Nat}{g:G}{Q:KD}{E:KX}
structure LF(T:Nat->Option ba):Prop where
 pull:T 4=some F1
 order:T 21=some T4
 any:T 22=some wN
 nU:T 23=some G0
 nR:T 24=some F9
 opened:T 25=some wB
 list:T 26=some P9
theorem Xe(hT:LF T){n:Int}(hn:0<=n/\n<=99)(D0:i5 g d)(h:∀(cs:List a9) a (v:Int) g',(cs.length:Int)<=n->(∀c∈cs,iG c)->g'[a]?=some (.lst (cs.map a9.d))->g.length<=a->1<=v->v<=6->i5 g' d->Gr d g g'->Q (.tup [.ref a,.int v]) g'):b9 T (k+4) 26 [.ref d,.int n] g Q E:=by
 refine call_of hT.list rfl ?_;dsimp[P9,c8,List.replicate];have dl:=D0.lt;walk_at"";refine f7 (n:=n+1) hT.pull D0 (by omega) (by omega) λm g1 m0 m1 D1 G1=>?_;walk_at"";refine f7 hT.pull D1 (by decide) (by decide) λr2 g2 gw gs D2 G2=>?_;walk_at"";refine f7 hT.pull D2 (by decide) (by decide) λway g3 w0 w1 D3 G3=>?_;have xh:=G1.trans (G2.trans G3);have l3:=xh.len;walk_at"";refine if2 (λc=>?_) (λc=>?_)
 ·walk_at"";refine F4 (a8 T _) (W9 (a8 T _) ?_);walk_at"";refine⟨by omega,by omega,i3 0 m.toNat,λi ys Z g'=>∃cs z1 z2,ys=cs.map a9.d/\cs.length=i/\(∀c∈cs,iG c)/\Z=[some (.ref d),z1,z2]/\i5 g' d/\Gr d g g',by rw[j7];omega,λi ys Z g' p=>⟨q9,?_⟩,⟨[],none,none,rfl,rfl,by simp,rfl,D3,xh⟩,λi x ys Z g' hx p=>?_,λys Z g' p=>?_⟩
  ·obtain⟨cs,z1,z2,rfl,hc,_⟩:=p;simp[hc]
  ·obtain⟨cs,z1,z2,rfl,hc,hg,rfl,D',G'⟩:=p;show cW _ _ _ _ _ _;walk_at"";refine XJ hT.pull hT.any D' λc0 g4 gc D4 G4=>?_;refine⟨cs++[c0],_,_,by simp,by simp[hc],λc1 oI=>?_,rfl,D4,G'.trans G4⟩;rcases bc.mp oI with z|z
   ·exact hg c1 z
   ·simp at z;subst z;exact gc
  ·obtain⟨cs,z1,z2,rfl,hc,hg,rfl,D',G'⟩:=p;rw[j7] at hc;walk_at"";exact h cs _ _ _ (by omega) hg b0 G'.len (by omega) (by omega) (D'.snoc _) (G'.trans (Gr.snoc _ _ _))
 have tail:∀(v:Int) (g4:G),1<=v->v<=6->i5 g4 d->Gr d g g4->wpS (b9 T (k+3)) (i7 (i7 (i7 (i7 (i7 P9.body))))) ⟨λ_ g'=>Q .bx g',Q,λ_ _=>False,λ_ _=>False⟩ [some (.ref d),some (.int n),some (.int m),some (.int v),some (.int way),none,none,none,none] g4 E:=by
  intro v g4 v0 v1 D4 G4;dsimp[P9,i7];have after:∀(cs:List a9) a g5,(cs.length:Int)=m->(∀c∈cs,iG c)->g5[a]?=some (.lst (cs.map a9.d))->g4.length<=a->i5 g5 d->Gr d g4 g5->wpS (b9 T (k+3)) (i7 (i7 (i7 (i7 (i7 (i7 P9.body)))))) ⟨λ_ g'=>Q .bx g',Q,λ_ _=>False,λ_ _=>False⟩ [some (.ref d),some (.int n),some (.int m),some (.int v),some (.int way),some (.ref a),none,none,none] g5 E:=by
   intro cs a g5 hc hg ea la D5 G5;have IH:=G4.trans G5;have l4:=G4.len;dsimp[P9,i7];walk_at"";refine F4 (a8 T _) (jm (a8 T _) ?_);walk_at"";refine qb (by omega) (by omega) ?_;walk_at"";have e6:(g5++[O.lst (i3 0 m.toNat)])[g5.length]?=some (.lst (i3 0 m.toNat)):=b0;have l5:=D5.lt;refine Gx hT.pull hT.order e6 (by rw[j7];omega) (by omega) (D5.snoc _) λl' b g7 hp eb lb D7 G7=>?_;have LZ:=G7.at (by omega) (n6 ea);have qf:l'.length=m.toNat:=by rw[hp.length_eq,j7]
   refine⟨b,l',rfl,a7 eb,l',λi ys Z g'=>∃iE z1 z2,ys=iE.map a9.d/\iE.length=i/\(∀c∈iE,iG c)/\Z=[some (.ref a),z1,z2]/\g'=g7,by omega,λi ys Z g' p=>?_,⟨[],none,none,rfl,rfl,by simp,rfl,rfl⟩,λi x ys Z g' hx p=>?_,λys Z g' p=>?_⟩
   ·obtain⟨iE,z1,z2,rfl,hV,_,_,rfl⟩:=p;exact⟨j8 (a7 eb),by simp[hV]⟩
   ·obtain⟨iE,z1,z2,rfl,hV,mf,rfl,rfl⟩:=p;obtain⟨j,rfl,j0,j1⟩:=HB (hp.mem_iff.mp (aF hx));show cW _ _ _ _ _ _;walk_at"";obtain⟨c0,vn,e0⟩:=Al (cs:=cs) j0 (by omega);refine n5 (a7 LZ) e0 ?_;refine⟨iE++[c0],_,_,by simp,by simp[hV],λc1 oI=>?_,rfl,rfl⟩;rcases bc.mp oI with z|z
    ·exact mf c1 z
    ·simp at z;subst z;exact hg c1 vn
   ·obtain⟨iE,z1,z2,rfl,hV,mf,rfl,rfl⟩:=p;have e8:(g'++[O.lst (iE.map a9.d)])[g'.length]?=some (.lst (iE.map a9.d)):=b0;have D8:=D7.snoc (.lst (iE.map a9.d));have G8:=(IH.trans ((Gr.snoc d g5 (.lst (i3 0 m.toNat))).trans G7)).trans (Gr.snoc d g' (.lst (iE.map a9.d)));have l8:g.length<=g'.length:=(IH.trans ((Gr.snoc d g5 (.lst (i3 0 m.toNat))).trans G7)).len;have fin:∀(qv:List a9) z6 z7 z8 g9,(qv.length:Int)=m->(∀c∈qv,iG c)->g9[g'.length]?=some (.lst (qv.map a9.d))->i5 g9 d->Gr d g g9->wpS (b9 T (k+3)) (i7 (i7 (i7 (i7 (i7 (i7 (i7 (i7 P9.body)))))))) ⟨λ_ g'=>Q .bx g',Q,λ_ _=>False,λ_ _=>False⟩ [some (.ref d),some (.int n),some (.int m),some (.int v),some (.int way),some (.ref g'.length),z6,z7,z8] g9 E:=by
     intro qv z6 z7 z8 g9 kW Dv e9 D9 G9;dsimp[P9,i7];walk_at"";refine if2 (λc=>?_) (λc=>?_)
     ·walk_at"";exact h qv _ _ _ (by omega) Dv e9 l8 (by omega) (by omega) D9 G9
     ·walk_at"";exact h qv _ _ _ (by omega) Dv e9 l8 v0 v1 D9 G9
    show wpS _ _ _ _ (g'++[O.lst (iE.map a9.d)]) _;have nj:(iE.length:Int)=m:=by omega
    have vb:=D7.lt;generalize hg8:g'++[O.lst (iE.map a9.d)]=g8 at *;walk_at"";refine if2 (λc1=>?_) (λc1=>?_)
    ·walk_at"";refine if2 (λc2=>?_) (λc2=>?_)
     ·walk_at"";refine f7 (n:=m) hT.pull D8 c2 (by omega) λr g9 r0 r1 D9 G9=>?_;have e9:=G9.at (by omega) e8;obtain⟨c0,vn,e0⟩:=Al (cs:=iE) r0 (by(clear hn dl m0 m1 gw gs w0 w1 l3 c v0 v1 la l4 l5 lb qf hV l8 vb c1 c2 r0;omega));walk_at"";refine n5 (a7 e9) e0 ?_;walk_at"";refine f7 (n:=m) hT.pull D9 c2 (by omega) λr' vx uX CD IJ IG=>?_;have ko:=IG.at (by omega) e9;obtain⟨c3,vm,e3⟩:=Al (cs:=iE) uX (by(clear hn dl m0 m1 gw gs w0 w1 l3 c v0 v1 la l4 l5 lb qf hV l8 vb c1 c2 r0 r1 uX;omega));refine n5 (a7 ko) e3 ?_;dsimp only[a9.d];walk_at"";refine f7 hT.pull (IJ.snoc _) (by decide) (by decide) λr'' g11 nY nX D11 Ce=>?_;have CU:=IJ.lt;have Md:=Ce.at (by omega) (b0 (g:=vx) (o:=.lst [.int c0.yr,.int c3.yr,.int 9999]));have tO:=Ce.at (by omega) (n6 (o':=.lst [.int c0.yr,.int c3.yr,.int 9999]) ko);obtain⟨x,hx,hm⟩:=K6 (l:=[D.int c0.yr,.int c3.yr,.int 9999]) nY (by simpa using nX);obtain⟨a1,a2,a3,a4,a5,a6⟩:=(mf c0 vn).inv;obtain⟨b1,b2,b3,b4,b5,b6⟩:=(mf c3 vm).inv;have hy:∃y:Int,x=.int y/\0<=y/\y<=9999:=by
       simp only[List.mem_cons,List.mem_nil_iff,or_false] at hm;rcases hm with rfl|rfl|rfl
       ·exact⟨_,rfl,a5,a6⟩
       ·exact⟨_,rfl,b5,b6⟩
       ·exact⟨_,rfl,by decide,by decide⟩
      obtain⟨y,rfl,y0,y1⟩:=hy;refine n5 (a7 Md) hx ?_;walk_at"";have hj:jx (iE.map a9.d).length r=some r.toNat:=by
       unfold jx;rw[aK r0,aK (by rw[ao];(clear hn dl m0 m1 gw gs w0 w1 l3 c v0 v1 la l4 l5 lb qf hV l8 vb c1 c2 r0 uX CD nY nX CU a1 a3 a5 a6 b1 b3 b5 b6 y0 y1;omega))]
      refine U3 tO hj ?_;have gr:iG ⟨c0.lo,c3.lm,c3.up,c0.um,y⟩:=iG.mk' a1.1 a1.2 b3.1 b3.2 y0 y1 b2 a4 (mf c3 vm).l8 (mf c0 vn).u8;refine fin (iE.set r.toNat ⟨c0.lo,c3.lm,c3.up,c0.um,y⟩) _ _ _ _ (by simp;(clear hn dl m0 m1 gw gs w0 w1 l3 c v0 v1 la l4 l5 lb qf hV l8 vb c1 c2 r0 r1 uX CD nY nX CU a1 a3 a5 a6 b1 b3 b5 b6 y0 y1;omega)) (λc4 KG=>?_) ?_ (D11.K2 (by omega)) ((G8.trans (G9.trans (IG.trans ((Gr.snoc _ _ _).trans Ce)))).K2 l8)
      ·rcases List.mem_or_eq_of_mem_set KG with z|z
       ·exact mf c4 z
       ·rw[z];exact gr
      ·rw[get_set tO,List.map_set]
       rfl
     ·refine F3 ?_;exact fin iE _ _ _ _ nj mf e8 D8 G8
    ·exact fin iE _ _ _ _ nj mf e8 D8 G8
  walk_at"";refine if2 (λc=>?_) (λc=>?_)
  ·walk_at"";refine Wh hT.pull hT.order hT.opened ⟨m0,by omega⟩ D4 λcs a g5 hc hg ea la D5 G5=>?_;exact after cs a g5 hc hg ea la D5 G5
  ·walk_at"";refine WE hT.pull hT.nU hT.nR ⟨m0,by omega⟩ ⟨v0,by omega⟩ D4 λcs a g5 hc hg ea la D5 G5=>?_;exact after cs a g5 hc hg ea la D5 G5
 walk_at"";refine if2 (λc=>?_) (λc=>?_)
 ·walk_at"";refine f7 hT.pull D3 (by decide) (by decide) λr4 g4 nW pZ D4 G4=>?_;walk_at "w1";walk_at "w1";exact tail _ _ (by omega) (by omega) D4 (xh.trans G4)
 ·refine F3 ?_;exact tail _ _ (by omega) (by omega) D3 xh
end
def C2:ba:=⟨1,1,(.seq (.ifs (.eB (.fg (.call 1 (fK aN (bj 1) (bj 9))))) (.seq (.raise "BadAnvils" (eL (ff "there are from one to nine anvils"))) .pass) .pass) .pass)⟩
def wF:ba:=⟨2,2,(.seq (.ret (dg .all (.comp [1] 3 (.one 2) (.eK aN) .no (bX (.cmp .In) bp aN)))) .pass)⟩
def AO:ba:=⟨1,1,(.seq (.ifs (.eB (.fg (.call 12 (eL aN)))) (.seq (.raise "BadCoin" (eL (ff "it is no coin"))) .pass) .pass) .pass)⟩
def W3:ba:=⟨1,2,(.seq (.ifs (du .Gt (dg .len aN) (bj 9)) (.seq (.raise "TooMany" (eL (ff "at most nine coins are asked about at once"))) .pass) .pass) (.seq (.cU (.one 1) (.eK aN) (.seq (.expr (.call 39 (eL bf))) .pass)) .pass))⟩
def Q1:ba:=⟨1,1,(.seq (.ifs (du .NotIn aN (.lit (.tup [(.str "lower"),(.str "upper")]))) (.seq (.raise "BadSide" (eL (ff "a side is lower or upper"))) .pass) .pass) .pass)⟩
def AF:ba:=⟨1,1,(.seq (.expr (.call 40 (eL aN))) (.seq (.ret (bX .lp (.lit (.tup [(.tup [(.str "lower"),(.int 0)]),(.tup [(.str "upper"),(.int 2)])])) aN)) .pass))⟩
noncomputable abbrev IL(T:Nat->Option ba):Prop:=T 18=some W3/\T 39=some AO
noncomputable abbrev Cg(T:Nat->Option ba):Prop:=T 19=some AF/\T 40=some Q1
def wQ:ba:=⟨2,2,(.seq (.ret (bX (.cmp .Eq) (dg .len (.comp [1] 3 (.one 2) (.eK aN) (du .NotIn bp aN) bp)) (bj 0))) .pass)⟩
structure Ex(g g':G):Prop where
 len:g.length<=g'.length
 old:∀i,i<g.length->g'[i]?=g[i]?
theorem Ex.refl(g:G):Ex g g:=⟨aw _,λ_ _=>rfl⟩
theorem Ex.trans{g g1 g2:G}(a:Ex g g1)(b:Ex g1 g2):Ex g g2:=⟨aG a.len b.len,λi h=>(b.old i (aB h a.len)).trans (a.old i h)⟩
theorem Ex.snoc(g:G)(o:O):Ex g (g++[o]):=⟨by simp,λi h=>aJ h⟩
theorem Ex.at{g g':G}(h:Ex g g'){i:Nat}{o:O}(e:g[i]?=some o):g'[i]?=some o:=(h.old i (k8 e)).trans e
theorem Ex.gr{g g':G}(h:Ex g g')(d:Nat):Gr d g g':=⟨h.len,λi _ h2=>h.old i h2⟩
theorem Ex.draw{g g':G}{d:Nat}(h:Ex g g')(D0:i5 g d):i5 g' d:=by
 obtain⟨s,p,b,r,xs,e1,e2,q⟩:=D0.ex;exact⟨s,p,b,r,xs,h.at e1,h.at e2,q⟩
inductive E1(g:G):Nat->D->D->Prop
 |bx {n:Nat}:E1 g n .bx .bx
 |bl {n:Nat} (b:Bool):E1 g n (.bl b) (.bl b)
 |int {n:Nat} (i:Int):E1 g n (.int i) (.int i)
 |str {n:Nat} (x:Str):E1 g n (.str x) (.str x)
 |tup {n:Nat} {l m:List D} (hl:l.length=m.length) (h:∀(i:Nat) x y,l[i]?=some x->m[i]?=some y->E1 g n x y) (hz:m.length<=1000):E1 g (n+1) (.tup l) (.tup m)
 |lst {n a b:Nat} {l m:List D} (ha:g[a]?=some (.lst l)) (hb:g[b]?=some (.lst m)) (hl:l.length=m.length) (h:∀(i:Nat) x y,l[i]?=some x->m[i]?=some y->E1 g n x y) (hz:m.length<=1000):E1 g (n+1) (.ref a) (.ref b)
theorem E1.ex{g g':G}(e:Ex g g'){n:Nat}{x y:D}(h:E1 g n x y):E1 g' n x y:=by
 induction h with
 |bx=>exact .bx
 |bl b=>exact .bl b
 |int i=>exact .int i
 |str x=>exact .str x
 |tup hl h hz ih=>exact .tup hl ih hz
 |lst ha hb hl h hz ih=>exact .lst (e.at ha) (e.at hb) hl ih hz
section
variable{T:Nat->Option ba}{k d:Nat}{g:G}{Q:KD}{E:KX}
theorem GL(h6:T 6=some uB){i:Int}(h:Q (.bl true) g):b9 T (k+1) 6 [.int i] g Q E:=by
 refine call_of h6 rfl ?_;dsimp[uB,c8,List.replicate];walk_at"";refine fS (c:="int") (b:=true) (by decide) rfl ?_;walk_at"";refine fS (c:="bool") (b:=false) (by decide) rfl ?_;walk_at"";exact h
def Hn:MS:=match C8.body with
 |.seq _ (.seq _ (.seq _ (.seq _ (.seq _ b))))=>b
 |x=>x
theorem VW(h6:T 6=some uB)(h7:T 7=some C8):∀(n:Nat) {k:Nat} {g:G} {x y:D} {Q:KD} {E:KX},E1 g n x y->(∀g',Ex g g'->Q (.bl true) g')->b9 T (k+n+2) 7 [x,y] g Q E:=by
 have rq:∀(n:Nat),(∀{k:Nat} {g:G} {x y:D} {Q:KD} {E:KX},E1 g n x y->(∀g',Ex g g'->Q (.bl true) g')->b9 T (k+n+2) 7 [x,y] g Q E) ->
   ∀{k:Nat} {g:G} {x y:D} {l m:List D} {Q:KD} {E:KX},(∀g',Ex g g'->K0 g' x=some l)->(∀g',Ex g g'->K0 g' y=some m)->l.length=m.length->m.length<=1000->(∀(i:Nat) x y,l[i]?=some x->m[i]?=some y->E1 g n x y)->(∀g',Ex g g'->Q (.bl true) g') ->
   wpS (b9 T (k+n+2)) Hn ⟨λ_ g'=>Q .bx g',Q,λ_ _=>False,λ_ _=>False⟩ [some x,some y] g E:=by
  intro n ih k g x y l m Q E hx hy hl hz hs hQ;have len:∀(z:D) (l:List D) (g':G) (Q':KD),K0 g' z=some l->Q' (.int l.length) g'->cH .len [z] g' Q':=λz l g' Q' e q=>⟨_,_,⟨rfl,.inl ⟨z,l,rfl,e,rfl⟩⟩,q⟩
  dsimp[Hn,C8];refine uj (Bo (Bq (uF (uE (w_var rfl (len _ _ _ _ (hx g (Ex.refl g)) ?_))))));refine uE (w_var rfl (len _ _ _ _ (hy g (Ex.refl g)) ?_));refine EF ?_;rw[hl,az rfl];walk_at"";refine F4 (a8 T _) (W9 (a8 T _) ?_);refine uE (w_var rfl (len _ _ _ _ (hy g (Ex.refl g)) ?_));refine⟨_,rfl,by omega,by omega,i3 0 m.length,λi ys Z g'=>∃z w,ys=List.replicate i (.bl true)/\Z=[some y,some x,z,w]/\Ex g g',by rw[j7];exact hz,λi ys Z g' p=>⟨q9,?_⟩,⟨none,none,rfl,rfl,Ex.refl g⟩,λi z ys Z g' hz p=>?_,λys Z g' p=>?_⟩
  ·obtain⟨z,w,rfl,_⟩:=p;simp
  ·obtain⟨z,w,rfl,rfl,e⟩:=p;obtain⟨hi,rfl⟩:=x3 hz;have h1:l[i]?=some l[i]:=ai (by omega);have h2:m[i]?=some m[i]:=ai hi;have a1:fI l (0+(i:Int))=some l[i]:=by rw[eA];exact x4 h1
   have a2:fI m (0+(i:Int))=some m[i]:=by rw[eA];exact x4 h2
   show cW _ _ _ _ _ _;refine vU (jz (wm (S1 (uF (w_var rfl (w_var rfl ⟨_,_,⟨rfl,.inl ⟨_,l,_,rfl,hx g' e,a1⟩⟩,?_⟩))))));refine S1 (uF (w_var rfl (w_var rfl ⟨_,_,⟨rfl,.inl ⟨_,m,_,rfl,hy g' e,a2⟩⟩,?_⟩)));refine vS (ih ((hs i _ _ h1 h2).ex e) λg2 e2=>?_);exact⟨_,_,by rw[List.replicate_succ'],rfl,e.trans e2⟩
  ·obtain⟨z,w,rfl,rfl,e⟩:=p;refine vH (a7 b0) (v:=true) ?_ (hQ _ (e.trans (Ex.snoc _ _)));have:List.replicate (i3 0 m.length).length (D.bl true)=(List.replicate (i3 0 m.length).length true).map D.bl:=by simp
   rw[this,V3];simp
 intro n
 induction n with
 |zero =>
  intro k g x y Q E h hQ;have h0:=hQ g (Ex.refl g);cases h with
  |bx =>
   refine call_of h7 rfl ?_;dsimp[C8,c8,List.replicate];walk_at"";exact h0
  |bl b=>exact Ho h7 (by simpa using h0)
  |int i =>
   refine call_of h7 rfl ?_;dsimp[C8,c8,List.replicate];walk_at""
   try show wpS _ _ _ _ _ _
   walk_at"";refine fS (c:="bool") (b:=false) (by decide) rfl ?_;walk_at"";refine fS (c:="int") (b:=true) (by decide) rfl ?_;walk_at"";refine GL h6 ?_;walk_at"";simpa using h0
  |str x =>
   refine call_of h7 rfl ?_;dsimp[C8,c8,List.replicate];walk_at""
   try show wpS _ _ _ _ _ _
   walk_at"";refine fS (c:="bool") (b:=false) (by decide) rfl ?_;walk_at"";refine fS (c:="int") (b:=false) (by decide) rfl ?_;walk_at"";refine fS (c:="str") (b:=true) (by decide) rfl ?_;walk_at"";refine fS (c:="str") (b:=true) (by decide) rfl ?_;walk_at"";simpa using h0
 |succ n ih =>
  intro k g x y Q E h hQ;have h0:=hQ g (Ex.refl g);cases h with
  |bx =>
   refine call_of h7 rfl ?_;dsimp[C8,c8,List.replicate];walk_at"";exact h0
  |bl b=>exact Ho h7 (by simpa using h0)
  |int i =>
   refine call_of h7 rfl ?_;dsimp[C8,c8,List.replicate];walk_at""
   try show wpS _ _ _ _ _ _
   walk_at"";refine fS (c:="bool") (b:=false) (by decide) rfl ?_;walk_at"";refine fS (c:="int") (b:=true) (by decide) rfl ?_;walk_at"";refine GL h6 ?_;walk_at"";simpa using h0
  |str x =>
   refine call_of h7 rfl ?_;dsimp[C8,c8,List.replicate];walk_at""
   try show wpS _ _ _ _ _ _
   walk_at"";refine fS (c:="bool") (b:=false) (by decide) rfl ?_;walk_at"";refine fS (c:="int") (b:=false) (by decide) rfl ?_;walk_at"";refine fS (c:="str") (b:=true) (by decide) rfl ?_;walk_at"";refine fS (c:="str") (b:=true) (by decide) rfl ?_;walk_at"";simpa using h0
  |@tup _ l m hl hs hz =>
   refine call_of h7 rfl ?_;have body:=rq n ih (k:=k) (x:=.tup l) (y:=.tup m) (E:=E) (λ_ _=>rfl) (λ_ _=>rfl) hl hz hs hQ;dsimp[C8,c8,List.replicate];walk_at""
   try show wpS _ _ _ _ _ _
   walk_at"";refine fS (c:="bool") (b:=false) (by decide) rfl ?_;walk_at"";refine fS (c:="int") (b:=false) (by decide) rfl ?_;walk_at"";refine fS (c:="str") (b:=false) (by decide) rfl ?_;walk_at"";refine fS (c:="tuple") (b:=true) (by decide) rfl ?_;walk_at"";refine fS (c:="tuple") (b:=true) (by decide) rfl ?_;walk_at"";refine fj rfl ?_;walk_at"";refine fS (c:="list") (b:=false) (by decide) rfl ?_;walk_at"";refine fS (c:="list") (b:=false) (by decide) rfl ?_;walk_at"";refine fj rfl (F3 ?_);exact body
  |@lst _ a b l m ha hb hl hs hz =>
   refine call_of h7 rfl ?_;have body:=rq n ih (k:=k) (x:=.ref a) (y:=.ref b) (E:=E) (λg' e=>a7 (e.at ha)) (λg' e=>a7 (e.at hb)) hl hz hs hQ;have ta:∀c,pH g (.ref a) c=some (c=="list"):=λc=>by simp only[pH,ha]
   have tb:∀c,pH g (.ref b) c=some (c=="list"):=λc=>by simp only[pH,hb]
   dsimp[C8,c8,List.replicate];walk_at""
   try show wpS _ _ _ _ _ _
   walk_at"";refine fS (c:="bool") (b:=false) (by decide) (tb _) ?_;walk_at"";refine fS (c:="int") (b:=false) (by decide) (tb _) ?_;walk_at"";refine fS (c:="str") (b:=false) (by decide) (tb _) ?_;walk_at"";refine fS (c:="tuple") (b:=false) (by decide) (tb _) ?_;walk_at"";refine fS (c:="tuple") (b:=false) (by decide) (ta _) ?_;walk_at"";refine fj rfl ?_;walk_at"";refine fS (c:="list") (b:=true) (by decide) (tb _) ?_;walk_at"";refine fS (c:="list") (b:=true) (by decide) (ta _) ?_;walk_at"";refine fj rfl (F3 ?_);exact body
end
def iu(a b:List Int):Bool:=a.all λs=>b.any λm=>m==s
section
variable{T:Nat->Option ba}{k d:Nat}{g:G}{Q:KD}{E:KX}
theorem FL(nt:T 15=some wF){a b:List Int}(ha:a.length<=1000)(h:∀g',Ex g g'->Q (.bl (iu a b)) g'):b9 T (k+1) 15 [.tup (a.map .int),.tup (b.map .int)] g Q E:=by
 refine call_of nt rfl ?_;dsimp[wF,c8,List.replicate];walk_at"";refine F4 (a8 T _) (sf (a8 T _) ?_);walk_at"";refine⟨_,rfl,_,λi ys Z g'=>∃z w,ys=((a.take i).map λs=>b.any λm=>m==s).map D.bl/\Z=[some (.tup (b.map .int)),z,w]/\g'=g,by simpa using ha,λi ys Z g' p=>⟨q9,?_⟩,⟨none,none,rfl,rfl,rfl⟩,λi x ys Z g' hx p=>?_,λys Z g' p=>?_⟩
 ·obtain⟨z,w,rfl,_⟩:=p;simp;omega
 ·obtain⟨z,w,rfl,rfl,rfl⟩:=p;rw[ag,aa] at hx;obtain⟨s,hs,rfl⟩:=hx;show cW _ _ _ _ _ _;walk_at"";refine uy (AB ?_);refine⟨_,_,?_,rfl,rfl⟩;have hi:=(ak.mp hs)
  rw[bE,hs];simp
 ·obtain⟨z,w,rfl,rfl,rfl⟩:=p;refine vH (a7 b0) (V3 _) ?_;have e:((a.take (a.map D.int).length).map λs=>b.any λm=>m==s).all id=iu a b:=by
   rw[ao,bK];simp[iu,List.all_map]
  rw[e];exact h _ (Ex.snoc _ _)
theorem Xg(yU:T 17=some wQ){a b:List Int}(ha:a.length<=1000)(h:∀g',Ex g g'->Q (.bl (iu a b)) g'):b9 T (k+1) 17 [.tup (a.map .int),.tup (b.map .int)] g Q E:=by
 refine call_of yU rfl ?_;dsimp[wQ,c8,List.replicate];walk_at"";refine F4 (a8 T _) (sf (a8 T _) ?_);walk_at"";refine⟨_,rfl,_,λi ys Z g'=>∃z w,ys=((a.take i).filter λs=>!(b.any λm=>m==s)).map D.int/\ys.length<=i/\Z=[some (.tup (b.map .int)),z,w]/\g'=g,by simpa using ha,λi ys Z g' p=>⟨q9,?_⟩,⟨none,none,rfl,by simp,rfl,rfl⟩,λi x ys Z g' hx p=>?_,λys Z g' p=>?_⟩
 ·obtain⟨z,w,_,h1,_⟩:=p;exact h1
 ·obtain⟨z,w,e,hl,rfl,rfl⟩:=p;rw[ag,aa] at hx;obtain⟨s,hs,rfl⟩:=hx;show cW _ _ _ _ _ _;walk_at"";refine pN (AB ?_);walk_at"";cases hc:(b.any λm=>m==s) with
  |true =>
   refine mI ⟨_,_,?_,by omega,rfl,rfl⟩;rw[bE,hs,e];simp[hc]
  |false =>
   refine jz (w_var rfl ⟨_,_,?_,by simp;omega,rfl,rfl⟩);rw[bE,hs,e];simp[hc]
 ·obtain⟨z,w,e,hl,rfl,rfl⟩:=p;rw[ao,bK] at e;refine J1 (a7 b0) ?_;walk_at"";have e2:decide ((ys.length:Int)=0)=iu a b:=by
   rw[e,ao,aV,dA];unfold iu;rw[cg];constructor
   ·intro h0 s hs;have h1:(a.filter λs=>!(b.any λm=>m==s))=[]:=dy (by omega);rw[List.filter_eq_nil_iff] at h1;have:=h1 s hs;simpa using this
   ·intro h0;have h1:(a.filter λs=>!(b.any λm=>m==s))=[]:=by
     rw[List.filter_eq_nil_iff];intro s hs;simpa using h0 s hs
    rw[h1]
    rfl
  rw[e2];exact h _ (Ex.snoc _ _)
theorem QZ{g:G}{x:Str}{kb:Bool->Prop}(hx:PyData.strOk x=true)(h:kb (decide (x="lower")||decide (x="upper"))):oo g (.str x) (.tup [.str "lower",.str "upper"]) kb:=by
 refine⟨_,.inr ⟨_,[.str "lower",.str "upper"],.str x,rfl,rfl,rfl,by simp only[PyData.canLayAll0,PyData.canLay0,Bool.and_true];decide +kernel,by simp only[PyData.canLay0];exact hx,rfl⟩,?_⟩;have e:∀y:Str,PyData.eqv (.str y) (.str x)=decide (x=y):=λy=>by
  simp only[PyData.eqv];rw[aV,fb,dA];exact eq_comm
 simp only[List.any_cons,List.any_nil,Bool.or_false,e];exact h
theorem Vw(Lh:T 40=some Q1){x:Str}(ho:PyData.strOk x=true)(h1:x="lower"\/x="upper"->Q .bx g)(h3:x≠"lower"->x≠"upper"->E ⟨"BadSide"⟩ g):b9 T (k+1) 40 [.str x] g Q E:=by
 refine call_of Lh rfl ?_;dsimp[Q1,c8,List.replicate];walk_at"";refine pN (QZ ho ?_);walk_at"";by_cases e:x="lower"\/x="upper"
 ·refine fj (by rw[Bool.not_eq_false',cO,dA,dA];exact e) ?_;walk_at"";exact h1 e
 ·refine gh (by rw[Bool.not_eq_true',Bool.or_eq_false_iff,cz,cz];exact not_or.mp e) ?_;walk_at"";exact h3 (λz=>e (.inl z)) (λz=>e (.inr z))
theorem F7(jE:Cg T){x:Str}(ho:PyData.strOk x=true)(h1:x="lower"->Q (.int 0) g)(h2:x="upper"->Q (.int 2) g)(h3:x≠"lower"->x≠"upper"->E ⟨"BadSide"⟩ g):b9 T (k+2) 19 [.str x] g Q E:=by
 refine call_of jE.1 rfl ?_;dsimp[AF,c8,List.replicate];walk_at"";refine Vw jE.2 ho (λhx=>?_) h3;walk_at"";by_cases e1:x="lower"
 ·have el:O3 [.tup [.str "lower",.int 0],.tup [.str "upper",.int 2]] x=some (.int 0):=by simp[O3,e1]
  refine EL el ?_;exact h1 e1
 ·have e2:x="upper":=hx.resolve_left e1;have el:O3 [.tup [.str "lower",.int 0],.tup [.str "upper",.int 2]] x=some (.int 2):=by simp[O3,e1];simp[e2]
  refine EL el ?_;exact h2 e2
def CB(c:a9):Prop:=c.lm.length<=8/\c.um.length<=8
theorem Y6(h1:NF T)(h2:T 2=some H9)(qp:T 12=some B6)(tD:IL T){a:Nat}{cs:List a9}(ha:g[a]?=some (.lst (cs.map a9.d)))(hz:cs.length<=1000)(hm:9<cs.length->E ⟨"TooMany"⟩ g)(hb:cs.length<=9->cs.all v5=false->E ⟨"BadCoin"⟩ g)(h:cs.length<=9->cs.all v5=true->Q .bx g):b9 T (k+6) 18 [.ref a] g Q E:=by
 refine call_of tD.1 rfl ?_;dsimp[W3,c8,List.replicate];walk_at"";rw[ao];refine if2 (λc=>?_) (λc=>?_)
 ·walk_at"";exact hm (by omega)
 have h9:cs.length<=9:=by omega
 walk_at"";refine u9 (a8 T _) (jm (a8 T _) ?_);walk_at"";refine⟨a,_,rfl,a7 ha,cs.map a9.d,λi Z g'=>∃z,Z=[some (.ref a),z]/\g'=g/\(cs.take i).all v5=true,λi Z g' p=>?_,⟨none,rfl,rfl,by simp⟩,λi x Z g' hx p=>?_,λZ g' p=>?_⟩
 ·obtain⟨z,rfl,rfl,_⟩:=p;exact j8 (a7 ha)
 ·obtain⟨z,rfl,rfl,hg⟩:=p;rw[ag,aa] at hx;obtain⟨c,hc,rfl⟩:=hx;refine f9 ?_
  try show wpS _ _ _ _ _ _
  walk_at"";refine call_of tD.2 rfl ?_;dsimp[AO,c8,List.replicate];walk_at"";refine Yk h1 h2 qp ?_;walk_at"";cases e:v5 c with
  |true =>
   walk_at"";refine⟨_,rfl,rfl,?_⟩;rw[bE,hc];simp[hg,e]
  |false =>
   refine Fl ?_;walk_at"";refine hb h9 ?_;rw[List.all_eq_false];exact⟨c,aF hc,by rw[e];decide⟩
 ·obtain⟨z,rfl,rfl,hg⟩:=p;rw[ao,bK] at hg;exact h h9 hg
end
def u7(f:Int)(c:a9):Int:=if f=0 then c.lo else c.up
def pJ(f:Int)(c:a9):List Int:=if f=0 then c.lm else c.um
theorem CB.JF{c:a9}(h:CB c)(f:Int):(pJ f c).length<=1000:=by
 unfold pJ;split
 ·have:=h.1;omega
 ·have:=h.2;omega
theorem E7{f:Int}(hf:f=0\/f=2)(c:a9):fI [D.int c.lo,D.tup (c.lm.map .int),D.int c.up,D.tup (c.um.map .int),D.int c.yr] f=some (.int (u7 f c)):=by
 rcases hf with rfl|rfl<;>rfl
theorem Iy{f:Int}(hf:f=0\/f=2)(c:a9):fI [D.int c.lo,D.tup (c.lm.map .int),D.int c.up,D.tup (c.um.map .int),D.int c.yr] (f+1)=some (.tup ((pJ f c).map .int)):=by
 rcases hf with rfl|rfl<;>rfl
section
variable{T:Nat->Option ba}{k d:Nat}{g:G}{Q:KD}{E:KX}
end
section
variable{T:Nat->Option ba}{k d:Nat}{g:G}{Q:KD}{E:KX}
end
def cD:a9:=⟨0,[],0,[],0⟩
noncomputable abbrev bQ(cs:List a9)(i:Nat):a9:=cs.getD i cD
theorem u5{cs:List a9}{i:Nat}{c:a9}(h:cs[i]?=some c):bQ cs i=c:=by simp[bQ,List.getD,h]
inductive RW where
 |dN|lower|upper
def RW.s:RW->Str
 |.dN=>"coin"
 |.lower=>"lower"
 |.upper=>"upper"
structure dR where
 w:RW
 x:Int
 y:Int
def dR.d(r:dR):D:=.tup [.str r.w.s,.int r.x,.int r.y]
def meant(cs:List a9)(w:RW)(x:Int)(i:Nat):Bool:=match w with
 |.dN=>decide ((i:Int)=x)
 |.lower=>decide ((bQ cs i).lo=x)
 |.upper=>decide ((bQ cs i).up=x)
def fR(cs:List a9)(w:RW)(x:Int):List Nat:=(List.range cs.length).filter (meant cs w x)
def b7(l:List Nat):List D:=l.map λ(i:Nat)=>D.int i
def mO(l:List Nat):Nat:=(l.map (2 ^ ·)).sum
def gJ(n:Nat)(p:Nat->Bool):Nat:=mO ((List.range n).filter p)
theorem Ik(n:Nat)(p:Nat->Bool):gJ (n+1) p=gJ n p+if p n=true then 2 ^ n else 0:=by
 unfold gJ mO;rw[List.range_succ,dD,dM,List.sum_append]
 congr 1
 cases h:p n<;>simp[List.filter_cons,h]
theorem Ob(n:Nat)(p:Nat->Bool):gJ n p<2 ^ n:=by
 induction n with
 |zero=>simp[gJ,mO]
 |succ n ih =>
  rw[Ik,Nat.pow_succ];split<;>omega
theorem HJ(n:Nat)(p:Nat->Bool)(i:Nat):(gJ n p).testBit i=(decide (i<n)&&p i):=by
 induction n with
 |zero=>simp[gJ,mO]
 |succ n ih =>
  have hl:=Ob n p;rw[Ik];by_cases hp:p n=true
  ·rw[aK hp,Nat.add_comm];rcases dQ i n with h|h|h
   ·rw[Nat.testBit_two_pow_add_gt h,ih,az h,az (by omega)]
   ·subst h;rw[Nat.testBit_two_pow_add_eq,ih];simp[hp]
   ·rw[Nat.testBit_lt_two_pow (aB (show 2 ^ n+gJ n p<2 ^ (n+1) by rw[Nat.pow_succ];omega) (Nat.pow_le_pow_right (by omega) h)),aE (by omega)]
    rfl
  ·rw[aC hp,Nat.add_zero,ih];by_cases h:i=n
   ·subst h;simp[hp]
   ·rw[show decide (i<n)=decide (i<n+1) from dk.mpr (by omega)]
theorem zQ(a b:Nat):Builtin.bitAnd (a:Int) (b:Int)=((a &&& b:Nat):Int):=by
 unfold Builtin.bitAnd;rw[az (Int.natCast_nonneg a),az (Int.natCast_nonneg b)];simp
theorem Nc(a b:Nat):Builtin.bitOr (a:Int) (b:Int)=((a |||b:Nat):Int):=by
 unfold Builtin.bitOr Builtin.bitAnd;have h1:∀x:Nat,decide (0<=Builtin.bitNot (x:Int))=false:=λx=>by unfold Builtin.bitNot;exact aE (by omega)
 have h2:∀x:Nat,Builtin.bitNot (Builtin.bitNot (x:Int))=x:=λx=>by unfold Builtin.bitNot;omega
 rw[h1,h1];simp only[h2];simp
theorem Vf(a b:Nat):((a &&& b:Nat)≠0)↔∃i,a.testBit i=true/\b.testBit i=true:=by
 constructor
 ·intro h;obtain⟨i,hi⟩:=Nat.exists_testBit_of_ne_zero h;rw[Nat.testBit_and,aO] at hi;exact⟨i,hi⟩
 ·rintro⟨i,h1,h2⟩ e;have:(a &&& b).testBit i=true:=by rw[Nat.testBit_and,h1,h2];rfl
  rw[e,Nat.zero_testBit] at this;cases this
theorem wt(s n:Nat)(p:Nat->Bool):((((s &&& gJ n p:Nat):Int) != 0)=(List.range n).any λi=>s.testBit i&&p i):=by
 rw[aV,bne_iff_ne,aT];have:(((s &&& gJ n p:Nat):Int)≠0)↔((s &&& gJ n p:Nat)≠0):=by omega
 rw[this,Vf];constructor
 ·rintro⟨i,h1,h2⟩;rw[HJ,aO,bN] at h2;exact⟨i,aM.mpr h2.1,by rw[h1,h2.2];rfl⟩
 ·rintro⟨i,h1,h2⟩;rw[aO] at h2;exact⟨i,h2.1,by rw[HJ,az (aM.mp h1),h2.2];rfl⟩
def mw(a b:a9):Bool:=(decide (a.lo=b.lo)&&!iu a.lm b.lm)||(decide (a.up=b.up)&&!iu a.um b.um)
def jd(a b:a9):Bool:=decide (0<b.yr)&&decide (b.yr<a.yr)
def F0(cs:List a9)(S:Nat->Bool)(p:Nat):Bool:=(List.range cs.length).any λi=>S i&&mw (bQ cs i) (bQ cs p)
def C9(cs:List a9)(S:Nat->Bool)(p:Nat):Bool:=(List.range cs.length).any λi=>S i&&jd (bQ cs i) (bQ cs p)
def Z1(cs:List a9)(S:Nat->Bool)(p:Nat)(d:Int):Bool :=
 ((List.range cs.length).any λi=>(S i||decide (i=p))&&decide ((bQ cs i).lo=d))&&((List.range cs.length).any λi=>!S i&&decide ((bQ cs i).lo=d))
def nK(cs:List a9)(S:Nat->Bool)(p:Nat):Nat:=((n8 (cs.map a9.lo)).filter (Z1 cs S p)).length
def L7(cs:List a9)(rs:List dR)(S:Nat->Bool)(p:Nat):Bool:=rs.all λr=>!meant cs r.w r.y p||(List.range cs.length).any λi=>S i&&meant cs r.w r.x i
def fault(cs:List a9)(v:Int)(rs:List dR)(S:Nat->Bool)(p:Nat):Str :=
 if F0 cs S p=true then "wear" else if C9 cs S p=true then "year" else if v<nK cs S p then "anvil" else if L7 cs rs S p=true then "" else "rule"
def vy(x:Str):D:=if x="" then .bx else .str x
theorem XT{cs:List a9}{v:Int}{rs:List dR}{S S':Nat->Bool}{p:Nat}(h:∀i,i<cs.length->S i=S' i):fault cs v rs S p=fault cs v rs S' p:=by
 have a:∀f:Nat->Bool->Bool,((List.range cs.length).any λi=>f i (S i))=(List.range cs.length).any λi=>f i (S' i):=λf=>by
  rw[aV,aT,aT];constructor
  ·rintro⟨i,h1,h2⟩;exact⟨i,h1,by rw[<- h i (aM.mp h1)];exact h2⟩
  ·rintro⟨i,h1,h2⟩;exact⟨i,h1,by rw[h i (aM.mp h1)];exact h2⟩
 have b1:F0 cs S p=F0 cs S' p:=a λi t=>t&&mw (bQ cs i) (bQ cs p);have b2:C9 cs S p=C9 cs S' p:=a λi t=>t&&jd (bQ cs i) (bQ cs p);have b3:Z1 cs S p=Z1 cs S' p:=by
  funext d
  unfold Z1;rw[a λi t=>(t||decide (i=p))&&decide ((bQ cs i).lo=d),a λi t=>!t&&decide ((bQ cs i).lo=d)]
 have b4:L7 cs rs S p=L7 cs rs S' p:=by
  unfold L7
  congr 1
  funext r
  rw[a λi t=>t&&meant cs r.w r.x i]
 unfold fault nK;rw[b1,b2,b3,b4]
def O2:ba:=⟨2,2,(.seq (.ifs (.eB (.fg (.call 1 (fK bf (bj 0) (bX (.bin .Sub) (dg .len aN) (bj 1)))))) (.seq (.raise "NoPlace" (eL (ff "no coin has that place"))) .pass) .pass) .pass)⟩
def U7:ba:=⟨3,4,(.seq (.ifs (.eB (.fg (.call 38 (eL bp)))) (.seq (.ret (.prim .lst .nil)) .pass) .pass) (.seq (.ifs (du .Eq bf (ff "coin")) (.seq (.ret (.comp [2] 3 (.one 2) (.dX (dg .len aN)) (du .Eq bp aN) bp)) .pass) .pass) (.seq (.set 3 (.call 19 (eL bf))) (.seq (.ret (.comp [3,2] 5 (.many [3,4]) (.jy aN) (du .Eq (cK cT aN) bf) bJ)) .pass))))⟩
def Ae:ba:=⟨2,3,(.seq (.expr (.call 18 (eL aN))) (.seq (.set 2 (.call 19 (eL bf))) (.seq (.ret (.gg [2] 3 (.one 2) (.eK aN) .no (cK bp aN))) .pass)))⟩
def AG:ba:=⟨2,5,(.seq (.jG (.many [2,3,4]) bf) (.seq (.ifs (.iN (du .NotIn bp (.lit (.tup [(.str "coin"),(.str "lower"),(.str "upper")]))) (du .Eq bJ cT)) (.seq (.ret (.lit (.bl false))) .pass) .pass) (.seq (.ret (.dw (bX (.cmp .NotEq) (.call 74 (fK aN bp bJ)) (.prim .lst .nil)) (bX (.cmp .NotEq) (.call 74 (fK aN bp cT)) (.prim .lst .nil)))) .pass)))⟩
def W0:ba:=⟨2,4,(.seq (.cU (.many [2,3]) (.jy bf) (.seq (.ifs (.eB (.fg (.call 88 (dz aN bJ)))) (.seq (.raise "BadRule" (eL (.prim .jY (fK (ff "rule ") (dg .fv bp) (ff " is none for these coins"))))) .pass) .pass) .pass)) .pass)⟩
def wR:ba:=⟨1,1,(.seq (.ret (dg .sum (.comp [] 2 (.one 1) (.eK aN) .no (bX (.bin .LShift) (bj 1) bf)))) .pass)⟩
def U6:ba:=⟨2,2,(.seq (.ret (bX (.bin .BitOr) aN (bX (.bin .LShift) (bj 1) bf))) .pass)⟩
def AI:ba:=⟨2,4,(.seq (.cU (.one 2) (.eK (.lit (.tup [(.str "lower"),(.str "upper")]))) (.seq (.set 3 (.call 19 (eL bp))) (.seq (.ifs (.dw (du .Eq (cK aN bJ) (cK bf bJ)) (.eB (.fg (.call 15 (dz (cK aN (bX (.bin .Add) bJ (bj 1))) (cK bf (bX (.bin .Add) bJ (bj 1)))))))) (.seq (.ret (.lit (.bl true))) .pass) .pass) .pass))) (.seq (.ret (.lit (.bl false))) .pass))⟩
def BG:ba:=⟨2,2,(.seq (.ret (.chain .Lt .Lt (bj 0) (cK bf (bj 4)) (cK aN (bj 4)))) .pass)⟩
def V7:ba:=⟨1,1,(.seq (.ret (.comp [0] 3 (.one 2) (.eK aN) .no (.call 90 (eL (.comp [2] 4 (.many [2,3]) (.jy aN) (.fg (.call 92 (dz bJ aN))) bp))))) .pass)⟩
def T5:ba:=⟨1,1,(.seq (.ret (.comp [0] 3 (.one 2) (.eK aN) .no (.call 90 (eL (.comp [2] 4 (.many [2,3]) (.jy aN) (.fg (.call 93 (dz bJ aN))) bp))))) .pass)⟩
def AR:ba:=⟨1,1,(.seq (.ret (.comp [0] 3 (.one 2) (.eK (.call 20 (dz aN (ff "lower")))) .no (.call 90 (eL (.call 74 (fK aN (ff "lower") bp)))))) .pass)⟩
def P0:ba:=⟨2,8,(.seq (.set 2 (.comp [] 2 (.one 1) (.eK aN) .no (.prim .lst .nil))) (.seq (.cU (.many [3,4,5]) (.eK bf) (.seq (.set 6 (.call 90 (eL (.call 74 (fK aN bJ cT))))) (.seq (.cU (.one 7) (.eK (.call 74 (fK aN bJ dq))) (.seq (.ifs (du .NotIn eU (cK bp fu)) (.seq (.expr (.dW .append (cK bp fu) (eL eU))) .pass) .pass) .pass)) .pass))) (.seq (.ret bp) .pass)))⟩
def J9:ba:=⟨3,3,(.seq (.expr (.call 18 (eL aN))) (.seq (.expr (.call 42 (eL bf))) (.seq (.expr (.call 89 (dz aN bp))) .pass)))⟩
def AS:ba:=⟨3,5,(.seq (.set 3 (.call 91 (dz bf bp))) (.seq (.set 4 (bX (.bin .Sub) (dg (.fld "full") aN) bf)) (.seq (.ret (dg .len (.comp [4,3] 4 (.one 3) (.eK (dg (.fld "lower_dies") aN)) (.dw (.fg (bX (.bin .BitAnd) bJ bf)) (.fg (bX (.bin .BitAnd) bJ aN))) bJ))) .pass)))⟩
def AV:ba:=⟨3,3,(.seq (.ifs (.fg (bX (.bin .BitAnd) bf (cK (dg (.fld "worn_by_place") aN) bp))) (.seq (.ret (ff "wear")) .pass) .pass) (.seq (.ifs (.fg (bX (.bin .BitAnd) bf (cK (dg (.fld "later_by_place") aN) bp))) (.seq (.ret (ff "year")) .pass) .pass) (.seq (.ifs (du .Gt (.call 100 (fK aN bf bp)) (dg (.fld "room") aN)) (.seq (.ret (ff "anvil")) .pass) .pass) (.seq (.ifs (.eB (.fg (dg .all (.comp [1] 3 (.one 2) (.eK (cK (dg (.fld "needed_by_place") aN) bp)) .no (bX (.bin .BitAnd) aN bp))))) (.seq (.ret (ff "rule")) .pass) .pass) (.seq (.ret (.lit .bx)) .pass)))))⟩
def W5:ba:=⟨4,4,(.seq (.gp "size" ["Bounds"] aN (dg .len bf)) (.seq (.gp "full" ["Bounds"] aN (bX (.bin .Sub) (bX (.bin .LShift) (bj 1) (dg .len bf)) (bj 1))) (.seq (.gp "room" ["Bounds"] aN bp) (.seq (.gp "worn_by_place" ["Bounds"] aN (.call 94 (eL bf))) (.seq (.gp "later_by_place" ["Bounds"] aN (.call 95 (eL bf))) (.seq (.gp "lower_dies" ["Bounds"] aN (.call 96 (eL bf))) (.seq (.gp "needed_by_place" ["Bounds"] aN (.call 97 (dz bf bJ))) .pass)))))))⟩
section
variable{P:fm}{Z:S}{g:G}{Q:KD}{E:KX}{t:MT}{it c elt:ME}{d4:List Nat}{n:Nat}
theorem w6(hP:i0 P)(Sh:S->Prop)(p:Nat->Bool)(w:Nat->D){l:List D}{k:IK}(hk:∀g',Ex g g'->k.Is l g')(hl:l.length<=1000)(h0:Sh (F2 Z d4 n))(hs:∀i d Z g',l[i]?=some d->Ex g g'->Sh Z->iw t d Z λcC=>cW P c cC g' (λb g3=>b=p i/\Ex g g3/\if b=true then aX P elt cC g3 (λy g4=>y=w i/\Ex g g4/\Sh cC) ie else Sh cC) ie)(hd:∀g',Ex g g'->Q (.ref g'.length) (g'++[.lst (((List.range l.length).filter p).map w)]))(hi:∀R:IK->G->Prop,R k g->fZ P it Z g R E):aX P (.comp d4 n t it c elt) Z g Q E:=by
 refine F4 hP (hi _ ?_);refine⟨l,λi ys Z g'=>Ex g g'/\ys=((List.range i).filter p).map w/\Sh Z,hl,λi ys Z g' q=>⟨hk _ q.1,?_⟩,⟨Ex.refl _,rfl,h0⟩,λi x ys Z g' hx q=>?_,λys Z g' q=>?_⟩
 ·obtain⟨_,rfl,_⟩:=q;rw[ao];exact aG (List.length_filter_le _ _) (by simp)
 ·obtain⟨e1,rfl,sh⟩:=q;refine x6 (λcC q=>p6 hP c _ _ _ _ _ _ (λb g3 q=>?_) (λ_ _ z=>z) q) (hs i x Z g' hx e1 sh);obtain⟨rfl,e3,q⟩:=q;have ef:((List.range (i+1)).filter p).map w=((List.range i).filter p).map w++if p i=true then[w i] else[]:=by
   rw[List.range_succ,dD,dM]
   congr 1
   cases z:p i<;>simp only[List.filter_cons,z,List.filter_nil]<;>rfl
  cases hp:p i with
  |true =>
   rw[hp] at q ef;rw[aK rfl] at q ⊢;refine c5 hP elt _ _ _ _ _ _ (λy g4 q=>?_) (λ_ _ z=>z) q;obtain⟨rfl,e4,sh⟩:=q;exact⟨e4,by rw[ef];rfl,sh⟩
  |false =>
   rw[hp] at q ef;rw[aC (by decide)] at q ⊢;exact⟨e3,by rw[ef];simp,q⟩
 ·obtain⟨e1,rfl,sh⟩:=q;exact hd g' e1
theorem comp_map(hP:i0 P)(Sh:S->Prop)(w:Nat->D){l:List D}{k:IK}(hk:∀g',Ex g g'->k.Is l g')(hl:l.length<=1000)(h0:Sh (F2 Z d4 n))(hs:∀i d Z g',l[i]?=some d->Ex g g'->Sh Z->iw t d Z λcC=>aX P elt cC g' (λy g4=>y=w i/\Ex g g4/\Sh cC) ie)(hd:∀g',Ex g g'->Q (.ref g'.length) (g'++[.lst ((List.range l.length).map w)]))(hi:∀R:IK->G->Prop,R k g->fZ P it Z g R E):aX P (.comp d4 n t it .no elt) Z g Q E:=by
 refine w6 hP Sh (λ_=>true) w hk hl h0 (λi d Z g' hx e sh=>x6 (λcC q=>vU ⟨rfl,e,?_⟩) (hs i d Z g' hx e sh)) (λg' e=>?_) hi
 ·exact jz q
 ·have:=hd g' e
  rwa [show(List.range l.length).filter (λ_=>true)=List.range l.length from List.filter_eq_self.mpr λ_ _=>rfl]
theorem K3(hP:i0 P){a:Nat}{l:List D}{o:ME}(hl:d0 g a=some l)(h:∀Q:KD,Q (.ref a) g->aX P o Z g Q E):∀R:IK->G->Prop,R (.lst a) g->fZ P (.eK o) Z g R E:=λR r=>jm hP (h _ ⟨a,l,rfl,hl,r⟩)
theorem zO{a:Nat}{l:List D}{o:ME}(hl:d0 g a=some l)(h:∀Q:KD,Q (.ref a) g->aX P o Z g Q E):∀R:IK->G->Prop,R (.mr a) g->fZ P (.jy o) Z g R E:=λR r=>xQ (h _ ⟨a,l,rfl,hl,r⟩)
theorem wY(hP:i0 P){j:Nat}{o:ME}(hj:j<=1000)(h:∀Q:KD,Q (.int (j:Nat)) g->aX P o Z g Q E):∀R:IK->G->Prop,R (.fix (i3 0 j)) g->fZ P (.dX o) Z g R E:=λR r=>W9 hP (h _ ⟨j,rfl,by omega,by omega,by simpa using r⟩)
end
theorem Ao(l:List Nat):b7 l=(l.map λ(i:Nat)=>(i:Int)).map D.int:=by simp[b7]
structure gE(T:Nat->Option ba):Prop where
 nf:NF T
 h2:T 2=some H9
 qp:T 12=some B6
 tD:IL T
 jE:Cg T
 nt:T 15=some wF
 Ln:T 20=some Ae
 nr:T 74=some U7
 Lf:T 88=some AG
 Le:T 89=some W0
 qo:T 90=some wR
 mj:T 91=some U6
 Ld:T 92=some AI
 Lc:T 93=some BG
 Lb:T 94=some V7
 La:T 95=some T5
 KZ:T 96=some AR
 KY:T 97=some P0
 zi:T 100=some AS
 zh:T 101=some AV
 zc:T 113=some W5
section
variable{T:Nat->Option ba}{k d:Nat}{g g':G}{Q:KD}{E:KX}{a p:Nat}{cs:List a9}
theorem VG(h1:NF T)(yS:T 83=some O2){i:Int}{l:List D}(ha:g[a]?=some (.lst l))(h:0<=i->i<l.length->Q .bx g)(hn:¬(0<=i/\i<l.length)->E ⟨"NoPlace"⟩ g):b9 T (k+3) 83 [.ref a,.int i] g Q E:=by
 refine call_of yS rfl ?_;dsimp[O2,c8,List.replicate];walk_at"";refine A4 (k:=k) h1 ?_;walk_at"";by_cases hi:0<=i/\i<l.length
 ·rw[az hi.1,az (show i<=(l.length:Int)-1 by omega)];walk_at"";exact h hi.1 hi.2
 ·have:(decide (0<=i)&&decide (i<=(l.length:Int)-1))=false:=by
   rw[Bool.and_eq_false_iff,cz,cz];omega
  rw[this];walk_at"";exact hn hi
theorem VP(h1:NF T)(oQ:T 42=some C2){i:Int}(h:1<=i->i<=9->Q .bx g)(hn:¬(1<=i/\i<=9)->E ⟨"BadAnvils"⟩ g):b9 T (k+3) 42 [.int i] g Q E:=by
 refine call_of oQ rfl ?_;dsimp[C2,c8,List.replicate];walk_at"";refine A4 (k:=k) h1 ?_;walk_at"";by_cases hi:1<=i/\i<=9
 ·rw[az hi.1,az hi.2];walk_at"";exact h hi.1 hi.2
 ·have:(decide (1<=i)&&decide (i<=9))=false:=by
   rw[Bool.and_eq_false_iff,cz,cz];omega
  rw[this];walk_at"";exact hn hi
theorem K8(h1:NF T)(jE:Cg T)(nr:T 74=some U7){w:RW}{x:Int}(ha:g[a]?=some (.lst (cs.map a9.d)))(hz:cs.length<=1000)(h:∀g' b,Ex g g'->g.length<=b->g'[b]?=some (.lst (b7 (fR cs w x)))->Q (.ref b) g'):b9 T (k+3) 74 [.ref a,.str w.s,.int x] g Q E:=by
 refine call_of nr rfl ?_;dsimp[U7,c8,List.replicate];walk_at"";refine GF (k:=k+1) h1 ?_;walk_at"";have fld:∀f:Int,(f=0\/f=2)->(∀i c,cs[i]?=some c->meant cs w x i=decide (u7 f c=x))->aX (b9 T (k+2)) (.comp [3,2] 5 (.many [3,4]) (.jy (.var 0)) (.fg (.prim (.cmp .Eq) (.cons (.prim .ix (.cons (.var 4) (.cons (.var 0) .nil))) (.cons (.var 1) .nil)))) (.var 3)) [some (.ref a),some (.str w.s),some (.int x),some (.int f)] g Q E:=λf hf hm=>by
  refine w6 (a8 T _) (λZ=>∃z2 z3 z4,Z=[some (.int f),some (.int x),z2,z3,z4]) (meant cs w x) (λi=>.int (i:Nat)) (l:=kn (cs.map a9.d)) (λg' e=>vZ (a7 (e.at ha))) (by rw[N1];simpa using hz) ⟨none,none,none,rfl⟩ (λi d Z g' hx e sh=>?_) (λg' e=>?_) (zO (a7 ha) λQ q=>w_var (d:=.ref a) rfl q)
  ·obtain⟨z2,z3,z4,rfl⟩:=sh;obtain⟨dd,hd,rfl⟩:=wz hx;rw[ag,aa] at hd;obtain⟨c,hc,rfl⟩:=hd;refine B0 rfl ?_
   try show cW _ _ _ _ _ _
   walk_at"";refine p8 (E7 hf c) ?_;walk_at"";rw[hm i c hc];refine⟨rfl,e,?_⟩;refine if2 (λ_=>?_) (λ_=>?_)
   ·walk_at"";exact⟨rfl,e,_,_,_,rfl⟩
   ·exact⟨_,_,_,rfl⟩
  ·rw[N1,ao];exact h _ _ (e.trans (Ex.snoc _ _)) e.len b0
 cases w with
 |dN =>
  refine gh (by decide +kernel) ?_;walk_at"";refine w6 (a8 T _) (λZ=>∃z1 z2,Z=[some (.int x),z1,z2]) (meant cs .dN x) (λi=>.int (i:Nat)) (l:=i3 0 cs.length) (λg' e=>q9) (by rw[j7];exact hz) ⟨none,none,rfl⟩ (λi d Z g' hx e sh=>?_) (λg' e=>?_) (wY (a8 T _) hz λQ q=>?_)
  ·obtain⟨z2,z3,rfl⟩:=sh;obtain⟨hi,rfl⟩:=x3 hx;rw[eA];refine f9 ?_
   try show cW _ _ _ _ _ _
   walk_at"";refine⟨rfl,e,?_⟩;refine if2 (λ_=>?_) (λ_=>?_)
   ·walk_at"";exact⟨rfl,e,_,_,rfl⟩
   ·exact⟨_,_,rfl⟩
  ·rw[j7];exact h _ _ (e.trans (Ex.snoc _ _)) e.len b0
  ·walk_at"";rw[ao];exact q
 |lower =>
  refine fj (by decide +kernel) ?_;walk_at"";refine F7 (k:=k) jE (by decide +kernel) (λ_=>?_) (λz=>absurd z (by decide +kernel)) (λz=>absurd rfl z);walk_at"";exact fld 0 (.inl rfl) λi c hc=>by simp only[meant,u5 hc];rfl
 |upper =>
  refine fj (by decide +kernel) ?_;walk_at"";refine F7 (k:=k) jE (by decide +kernel) (λz=>absurd z (by decide +kernel)) (λ_=>?_) (λ_ z=>absurd rfl z);walk_at"";exact fld 2 (.inr rfl) λi c hc=>by simp only[meant,u5 hc];rfl
theorem N8(qo:T 90=some wR){l:List Nat}(ha:g[a]?=some (.lst (b7 l)))(hz:l.length<=1000)(hl:∀i∈l,i<=1000)(h:∀g',Ex g g'->Q (.int (mO l:Nat)) g'):b9 T (k+1) 90 [.ref a] g Q E:=by
 refine call_of qo rfl ?_;dsimp[wR,c8,List.replicate];walk_at"";refine comp_map (a8 T _) (λZ=>∃z0 z1,Z=[z0,z1]) (λi=>.int ((2 ^ (l.getD i 0):Nat):Int)) (l:=b7 l) (k:=.lst a) (λg' e=>j8 (a7 (e.at ha))) (by simpa[b7] using hz) ⟨none,none,rfl⟩ (λi d Z g' hx e sh=>?_) (λg' e=>?_) (K3 (a8 T _) (a7 ha) λQ q=>w_var (d:=.ref a) rfl q)
 ·obtain⟨z0,z1,rfl⟩:=sh;rw[b7,ag,aa] at hx;obtain⟨j,hj,rfl⟩:=hx;refine f9 ?_
  try show aX _ _ _ _ _ _
  walk_at"";have:=hl j (aF hj);refine Ba ⟨by omega,by omega,by decide⟩ ?_;refine⟨?_,e,_,_,rfl⟩;simp[List.getD,hj]
 ·refine Fc (ns:=(List.range l.length).map λi=>((2 ^ (l.getD i 0):Nat):Int)) (a7 (by rw[cb];simpa[b7] using b0)) ?_;have:((List.range l.length).map λi=>((2 ^ (l.getD i 0):Nat):Int)).sum=(mO l:Nat):=by
   have e2:(List.range l.length).map (λi=>((2 ^ (l.getD i 0):Nat):Int))=(l.map (2 ^ ·)).map λ(n:Nat)=>(n:Int):=by
    refine cN λi=>?_;rw[ag,ag,ag];by_cases hi:i<l.length
    ·rw[bC hi,ai hi];simp[List.getD,hi]
    ·rw[aP (by simpa using hi),aP (by omega)]
     rfl
   rw[e2];unfold mO;generalize l.map (2 ^ ·)=m
   induction m with
   |nil=>rfl
   |cons x r ih=>simp[ih]
  rw[this];exact h _ (e.trans (Ex.snoc _ _))
theorem A6(mj:T 91=some U6){s p:Nat}(hp:p<=1000)(h:Q (.int ((s |||2 ^ p:Nat):Int)) g):b9 T (k+1) 91 [.int (s:Nat),.int (p:Nat)] g Q E:=by
 refine call_of mj rfl ?_;dsimp[U6,c8,List.replicate];walk_at"";refine Ba ⟨by omega,by omega,by decide⟩ ?_;walk_at"";refine Rf ?_;have e:(1:Int)*2 ^ ((p:Nat):Int).toNat=((2 ^ p:Nat):Int):=by simp
 rw[e,Nc];exact h
end
section
variable{T:Nat->Option ba}{k d:Nat}{g g':G}{Q:KD}{E:KX}{a p:Nat}{cs:List a9}
theorem He{c:a9}(h:CB c):c.lm.length<=1000/\c.um.length<=1000:=⟨aG h.1 (by decide),aG h.2 (by decide)⟩
theorem Yo(hT:gE T){c e:a9}(hc:CB c)(h:∀g',Ex g g'->Q (.bl (mw c e)) g'):b9 T (k+3) 92 [c.d,e.d] g Q E:=by
 refine call_of hT.Ld rfl ?_;dsimp[AI,c8,List.replicate];walk_at"";refine u9 (a8 T _) (sf (a8 T _) ?_);walk_at"";refine⟨_,rfl,_,λi Z g'=>Ex g g'/\(∃z2 z3,Z=[some c.d,some e.d,z2,z3])/\(1<=i->(decide (c.lo=e.lo)&&!iu c.lm e.lm)=false)/\(2<=i->(decide (c.up=e.up)&&!iu c.um e.um)=false),λ_ _ _ _=>q9,⟨Ex.refl _,⟨none,none,rfl⟩,λz=>absurd z (by omega),λz=>absurd z (by omega)⟩,λi x Z g' hx q=>?_,λZ g' q=>?_⟩
 ·obtain⟨e1,⟨z2,z3,rfl⟩,q1,q2⟩:=q;refine f9 ?_
  try show wpS _ _ _ _ _ _
  match i,hx with
  |0,hx =>
   cases hx;walk_at"";refine F7 (k:=k) hT.jE (by decide +kernel) (λ_=>?_) (λz=>absurd z (by decide +kernel)) (λz=>absurd rfl z);walk_at"";refine p8 (l:=[.int c.lo,.tup (c.lm.map .int),.int c.up,.tup (c.um.map .int),.int c.yr]) rfl ?_;walk_at"";refine p8 (l:=[.int e.lo,.tup (e.lm.map .int),.int e.up,.tup (e.um.map .int),.int e.yr]) rfl ?_;walk_at"";refine if2 (λh1=>?_) (λh1=>?_)
   ·walk_at"";refine p8 (l:=[.int c.lo,.tup (c.lm.map .int),.int c.up,.tup (c.um.map .int),.int c.yr]) rfl ?_;walk_at"";refine p8 (l:=[.int e.lo,.tup (e.lm.map .int),.int e.up,.tup (e.um.map .int),.int e.yr]) rfl ?_;walk_at"";refine FL (k:=k+1) hT.nt (He hc).1 λg2 e2=>?_;walk_at"";cases hw:iu c.lm e.lm with
    |false =>
     walk_at"";have:mw c e=true:=by unfold mw;rw[az h1,hw];rfl
     rw[<- this];exact h _ (e1.trans e2)
    |true =>
     walk_at"";exact⟨e1.trans e2,⟨_,_,rfl⟩,λ_=>by rw[az h1];rfl,λz=>absurd z (by omega)⟩
   ·walk_at"";exact⟨e1,⟨_,_,rfl⟩,λ_=>by rw[aE h1];rfl,λz=>absurd z (by omega)⟩
  |1,hx =>
   cases hx;walk_at"";refine F7 (k:=k) hT.jE (by decide +kernel) (λz=>absurd z (by decide +kernel)) (λ_=>?_) (λ_ z=>absurd rfl z);walk_at"";refine p8 (l:=[.int c.lo,.tup (c.lm.map .int),.int c.up,.tup (c.um.map .int),.int c.yr]) rfl ?_;walk_at"";refine p8 (l:=[.int e.lo,.tup (e.lm.map .int),.int e.up,.tup (e.um.map .int),.int e.yr]) rfl ?_;walk_at"";refine if2 (λh1=>?_) (λh1=>?_)
   ·walk_at"";refine p8 (l:=[.int c.lo,.tup (c.lm.map .int),.int c.up,.tup (c.um.map .int),.int c.yr]) rfl ?_;walk_at"";refine p8 (l:=[.int e.lo,.tup (e.lm.map .int),.int e.up,.tup (e.um.map .int),.int e.yr]) rfl ?_;walk_at"";refine FL (k:=k+1) hT.nt (He hc).2 λg2 e2=>?_;walk_at"";cases hw:iu c.um e.um with
    |false =>
     walk_at"";have:mw c e=true:=by unfold mw;rw[az h1,hw];simp
     rw[<- this];exact h _ (e1.trans e2)
    |true =>
     walk_at"";exact⟨e1.trans e2,⟨_,_,rfl⟩,λ_=>q1 (by omega),λ_=>by rw[az h1];rfl⟩
   ·walk_at"";exact⟨e1,⟨_,_,rfl⟩,λ_=>q1 (by omega),λ_=>by rw[aE h1];rfl⟩
  |i+2,hx=>simp at hx
 ·obtain⟨e1,⟨z2,z3,rfl⟩,q1,q2⟩:=q
  try show wpS _ _ _ _ _ _
  walk_at"";have:mw c e=false:=by unfold mw;rw[q1 (by decide),q2 (by decide)];rfl
  rw[<- this];exact h _ e1
theorem Yt(hT:gE T){c e:a9}(h:Q (.bl (jd c e)) g):b9 T (k+1) 93 [c.d,e.d] g Q E:=by
 refine call_of hT.Lc rfl ?_;dsimp[BG,c8,List.replicate];walk_at"";refine p8 (l:=[.int e.lo,.tup (e.lm.map .int),.int e.up,.tup (e.um.map .int),.int e.yr]) rfl ?_;walk_at"";refine if2 (λh1=>?_) (λh1=>?_)
 ·walk_at"";refine p8 (l:=[.int c.lo,.tup (c.lm.map .int),.int c.up,.tup (c.um.map .int),.int c.yr]) rfl ?_;walk_at"";have:jd c e=decide (e.yr<c.yr):=by unfold jd;rw[az h1];rfl
  rw[<- this];exact h
 ·have:jd c e=false:=by unfold jd;rw[aE h1];rfl
  rw[<- this];exact h
def pV(cs:List a9)(q:a9->a9->Bool):List D:=(List.range cs.length).map λi=>.int ((gJ cs.length λj=>q (bQ cs j) (bQ cs i):Nat):Int)
theorem uu{cs:List a9}{q:Nat->Bool}:∀i∈(List.range cs.length).filter q,i<cs.length:=λi hi=>aM.mp (bh.mp hi).1
theorem F6{n:Nat}{q:Nat->Bool}:((List.range n).filter q).length<=n:=aG (List.length_filter_le _ _) (by simp)
theorem QL(hT:gE T)(ha:g[a]?=some (.lst (cs.map a9.d)))(hz:cs.length<=9)(hB:∀c∈cs,CB c)(h:∀g' b,Ex g g'->g.length<=b->g'[b]?=some (.lst (pV cs mw))->Q (.ref b) g'):b9 T (k+4) 94 [.ref a] g Q E:=by
 refine call_of hT.Lb rfl ?_;dsimp[V7,c8,List.replicate];walk_at"";refine comp_map (a8 T _) (λZ=>∃z1 z2,Z=[some (.ref a),z1,z2]) (λi=>.int ((gJ cs.length λj=>mw (bQ cs j) (bQ cs i):Nat):Int)) (l:=cs.map a9.d) (k:=.lst a) (λg' e=>j8 (a7 (e.at ha))) (by simp;omega) ⟨none,none,rfl⟩ (λi d Z g' hx e sh=>?_) (λg' e=>?_) (K3 (a8 T _) (a7 ha) λQ q=>w_var (d:=.ref a) rfl q)
 ·obtain⟨z1,z2,rfl⟩:=sh;rw[ag,aa] at hx;obtain⟨c,hc,rfl⟩:=hx;refine f9 ?_
  try show aX _ _ _ _ _ _
  walk_at"";refine w6 (a8 T _) (λZ=>∃z1 z2 z3,Z=[some c.d,z1,z2,z3]) (λj=>mw (bQ cs j) (bQ cs i)) (λi=>.int (i:Nat)) (l:=kn (cs.map a9.d)) (k:=.mr a) (λg2 e2=>vZ (a7 ((e.trans e2).at ha))) (by rw[N1];simp;omega) ⟨none,none,none,rfl⟩ (λj d Z g2 hx e2 sh=>?_) (λg2 e2=>?_) (zO (a7 (e.at ha)) λQ q=>w_var (d:=.ref a) rfl q)
  ·obtain⟨z1,z2,z3,rfl⟩:=sh;obtain⟨dd,hd,rfl⟩:=wz hx;rw[ag,aa] at hd;obtain⟨c',hV,rfl⟩:=hd;refine B0 rfl ?_
   try show cW _ _ _ _ _ _
   walk_at"";refine Yo (k:=k) hT (hB c' (aF hV)) λg3 e3=>?_;walk_at"";refine⟨by simp only[u5 hV,u5 hc],e2.trans e3,?_⟩;cases mw c' c with
   |true =>
    refine gh rfl ?_;walk_at"";exact⟨rfl,e2.trans e3,_,_,_,rfl⟩
   |false=>exact fj rfl ⟨_,_,_,rfl⟩
  ·walk_at"";refine N8 (k:=k+2) hT.qo (l:=(List.range cs.length).filter λj=>mw (bQ cs j) (bQ cs i)) (by have:=b0 (g:=g2) (o:=.lst (((List.range (kn (cs.map a9.d)).length).filter λj=>mw (bQ cs j) (bQ cs i)).map λi=>D.int (i:Nat)));rw[N1,ao] at this ⊢;exact this) (aG F6 (by omega)) (λj hj=>by have:=uu j hj;omega) λg3 e3=>?_;exact⟨rfl,(e.trans (e2.trans (Ex.snoc _ _))).trans e3,_,_,rfl⟩
 ·refine h _ _ (e.trans (Ex.snoc _ _)) e.len ?_;rw[b0,ao]
  rfl
theorem a01(hT:gE T)(ha:g[a]?=some (.lst (cs.map a9.d)))(hz:cs.length<=9)(h:∀g' b,Ex g g'->g.length<=b->g'[b]?=some (.lst (pV cs jd))->Q (.ref b) g'):b9 T (k+4) 95 [.ref a] g Q E:=by
 refine call_of hT.La rfl ?_;dsimp[T5,c8,List.replicate];walk_at"";refine comp_map (a8 T _) (λZ=>∃z1 z2,Z=[some (.ref a),z1,z2]) (λi=>.int ((gJ cs.length λj=>jd (bQ cs j) (bQ cs i):Nat):Int)) (l:=cs.map a9.d) (k:=.lst a) (λg' e=>j8 (a7 (e.at ha))) (by simp;omega) ⟨none,none,rfl⟩ (λi d Z g' hx e sh=>?_) (λg' e=>?_) (K3 (a8 T _) (a7 ha) λQ q=>w_var (d:=.ref a) rfl q)
 ·obtain⟨z1,z2,rfl⟩:=sh;rw[ag,aa] at hx;obtain⟨c,hc,rfl⟩:=hx;refine f9 ?_
  try show aX _ _ _ _ _ _
  walk_at"";refine w6 (a8 T _) (λZ=>∃z1 z2 z3,Z=[some c.d,z1,z2,z3]) (λj=>jd (bQ cs j) (bQ cs i)) (λi=>.int (i:Nat)) (l:=kn (cs.map a9.d)) (k:=.mr a) (λg2 e2=>vZ (a7 ((e.trans e2).at ha))) (by rw[N1];simp;omega) ⟨none,none,none,rfl⟩ (λj d Z g2 hx e2 sh=>?_) (λg2 e2=>?_) (zO (a7 (e.at ha)) λQ q=>w_var (d:=.ref a) rfl q)
  ·obtain⟨z1,z2,z3,rfl⟩:=sh;obtain⟨dd,hd,rfl⟩:=wz hx;rw[ag,aa] at hd;obtain⟨c',hV,rfl⟩:=hd;refine B0 rfl ?_
   try show cW _ _ _ _ _ _
   walk_at"";refine Yt (k:=k+2) hT ?_;walk_at"";refine⟨by simp only[u5 hV,u5 hc],e2,?_⟩;cases jd c' c with
   |true =>
    refine gh rfl ?_;walk_at"";exact⟨rfl,e2,_,_,_,rfl⟩
   |false=>exact fj rfl ⟨_,_,_,rfl⟩
  ·walk_at"";refine N8 (k:=k+2) hT.qo (l:=(List.range cs.length).filter λj=>jd (bQ cs j) (bQ cs i)) (by have:=b0 (g:=g2) (o:=.lst (((List.range (kn (cs.map a9.d)).length).filter λj=>jd (bQ cs j) (bQ cs i)).map λi=>D.int (i:Nat)));rw[N1,ao] at this ⊢;exact this) (aG F6 (by omega)) (λj hj=>by have:=uu j hj;omega) λg3 e3=>?_;exact⟨rfl,(e.trans (e2.trans (Ex.snoc _ _))).trans e3,_,_,rfl⟩
 ·refine h _ _ (e.trans (Ex.snoc _ _)) e.len ?_;rw[b0,ao]
  rfl
theorem QV(hT:gE T)(ha:g[a]?=some (.lst (cs.map a9.d)))(hz:cs.length<=9)(hg:cs.all v5=true)(h:Q (.ref g.length) (g++[.lst ((n8 (cs.map a9.lo)).map .int)])):b9 T (k+7) 20 [.ref a,.str "lower"] g Q E:=by
 refine call_of hT.Ln rfl ?_;dsimp[Ae,c8,List.replicate];walk_at"";refine Y6 (k:=k) hT.nf hT.h2 hT.qp hT.tD ha (by omega) (λz=>by omega) (λ_ z=>by rw[hg] at z;cases z) λ_ _=>?_;walk_at"";refine F7 (k:=k+4) hT.jE (by decide +kernel) (λ_=>?_) (λz=>absurd z (by decide +kernel)) (λz=>absurd rfl z);walk_at"";refine QF (a8 T _) (jm (a8 T _) ?_);walk_at"";refine⟨a,_,rfl,a7 ha,cs.map a9.d,λi ys Z g'=>∃z w,ys=(cs.take i).map a9.lo/\Z=[some (.int 0),z,w]/\g'=g,by simp;omega,λi ys Z g' p=>?_,⟨none,none,rfl,rfl,rfl⟩,λi c ys Z g' hx p=>?_,λys Z g' p=>?_⟩
 ·obtain⟨z,w,rfl,rfl,rfl⟩:=p;exact⟨j8 (a7 ha),by simp;omega⟩
 ·obtain⟨z,w,rfl,rfl,rfl⟩:=p;rw[ag,aa] at hx;obtain⟨c,hc,rfl⟩:=hx;show cW _ _ _ _ _ _;walk_at"";refine p8 (l:=[.int c.lo,.tup (c.lm.map .int),.int c.up,.tup (c.um.map .int),.int c.yr]) rfl ?_;refine⟨_,rfl,_,_,?_,rfl,rfl⟩;rw[bE,hc];simp
 ·obtain⟨z,w,rfl,rfl,rfl⟩:=p;rw[ao,bK];exact h
def X0(cs:List a9):List D:=(n8 (cs.map a9.lo)).map λd=>.int ((gJ cs.length (meant cs .lower d):Nat):Int)
theorem Vx(hT:gE T)(ha:g[a]?=some (.lst (cs.map a9.d)))(hz:cs.length<=9)(hg:cs.all v5=true)(h:∀g' b,Ex g g'->g.length<=b->g'[b]?=some (.lst (X0 cs))->Q (.ref b) g'):b9 T (k+8) 96 [.ref a] g Q E:=by
 refine call_of hT.KZ rfl ?_;dsimp[AR,c8,List.replicate];walk_at"";have yn:(n8 (cs.map a9.lo)).length<=9:=aG (O5 _) (by simpa using hz);unfold X0 at h;refine F4 (a8 T _) (jm (a8 T _) ?_);walk_at"";refine QV (k:=k) hT ha hz hg ?_;have e0:=Ex.snoc g (O.lst ((n8 (cs.map a9.lo)).map .int));have hb:=b0 (g:=g) (o:=O.lst ((n8 (cs.map a9.lo)).map .int));generalize n8 (cs.map a9.lo)=ds at *;generalize g++[O.lst (ds.map .int)]=g1 at *;refine⟨_,_,rfl,a7 hb,ds.map .int,λi ys Z g'=>Ex g1 g'/\ys=(ds.take i).map (λd=>.int ((gJ cs.length (meant cs .lower d):Nat):Int))/\∃z1 z2,Z=[some (.ref a),z1,z2],by simp;omega,λi ys Z g' q=>⟨j8 (a7 (q.1.at hb)),?_⟩,⟨Ex.refl _,rfl,none,none,rfl⟩,λi x ys Z g' hx q=>?_,λys Z g' q=>?_⟩
 ·obtain⟨_,rfl,_⟩:=q;simp;omega
 ·obtain⟨e1,rfl,z1,z2,rfl⟩:=q;rw[ag,aa] at hx;obtain⟨dd,hd,rfl⟩:=hx;refine f9 ?_
  try show cW _ _ _ _ _ _
  walk_at"";refine K8 (k:=k+4) hT.nf hT.jE hT.nr (w:=.lower) ((e0.trans e1).at ha) (by omega) λg2 b2 e2 _ sV=>?_;walk_at"";refine N8 (k:=k+6) hT.qo sV (aG F6 (by omega)) (λj hj=>by have:=uu j hj;omega) λg3 e3=>?_;refine⟨e1.trans (e2.trans e3),?_,_,_,rfl⟩;rw[bE,hd];simp[gJ,fR]
 ·obtain⟨e1,rfl,z1,z2,rfl⟩:=q;rw[ao,bK];exact h _ _ (e0.trans (e1.trans (Ex.snoc _ _))) (aG e0.len e1.len) b0
end
theorem U9{g:G}{a:Nat}{ms:List Int}{i:Int}{k:Bool->Prop}(ha:d0 g a=some (ms.map .int))(h:k (ms.any λm=>m==i)):oo g (.int i) (.ref a) k:=by
 refine⟨_,.inr ⟨_,_,_,ha,O8 ms,rfl,lay_ints ms,by simp[PyData.canLay0],rfl⟩,?_⟩;rw[List.any_map];exact h
theorem Ab{g:G}{a:Nat}{l:List Nat}{i:Nat}{k:Bool->Prop}(ha:g[a]?=some (.lst (b7 l)))(h:k (decide (i∈l))):oo g (.int (i:Nat)) (.ref a) k:=by
 refine U9 (ms:=l.map λ(i:Nat)=>(i:Int)) (by rw[<- Ao];exact a7 ha) ?_;have:((l.map λ(i:Nat)=>(i:Int)).any λm=>m==(i:Int))=decide (i∈l):=by
  rw[aV,aT,bN];constructor
  ·rintro⟨x,hx,e⟩;obtain⟨j,hj,rfl⟩:=aU.mp hx;rw[fb] at e;rw[show i=j by omega];exact hj
  ·exact λhi=>⟨_,aU.mpr ⟨i,hi,rfl⟩,by simp⟩
 rw[this];exact h
structure lA(g:G)(nb lo n:Nat)(B:Nat->Nat)(F:Nat->Nat->Prop):Prop where
 ex:∃as:List Nat,g[nb]?=some (.lst (as.map .ref))/\as.length=n/\as.Nodup/\(∀a∈as,lo<=a/\a≠nb)/\∀i a,as[i]?=some a->∃ms:List Nat,g[a]?=some (.lst (b7 ms))/\ms.length<=B i/\∀m,m∈ms↔F i m
theorem lA.at{g g':G}{nb lo n:Nat}{B:Nat->Nat}{F:Nat->Nat->Prop}(h:lA g nb lo n B F)(e:Ex g g'):lA g' nb lo n B F:=by
 obtain⟨as,h1,h2,h3,h4,h5⟩:=h.ex;refine⟨⟨as,e.at h1,h2,h3,h4,λi a hi=>?_⟩⟩;obtain⟨ms,m1,m2⟩:=h5 i a hi;exact⟨ms,e.at m1,m2⟩
theorem lA.imp{g:G}{nb lo n:Nat}{B B':Nat->Nat}{F F':Nat->Nat->Prop}(h:lA g nb lo n B F)(hB:∀i,i<n->B i<=B' i)(hF:∀i m,i<n->(F i m↔F' i m)):lA g nb lo n B' F' :=
 let ⟨as,h1,h2,h3,h4,h5⟩:=h.ex
 ⟨⟨as,h1,h2,h3,h4,λi a hi=>let ⟨ms,m1,m2,m3⟩:=h5 i a hi
  have gP:i<n:=by rw[<- h2];exact(ak.mp hi).1
  ⟨ms,m1,aG m2 (hB i gP),λm=>(m3 m).trans (hF i m gP)⟩⟩⟩
def qP(cs:List a9)(rs:List dR)(i m:Nat):Prop:=∃r∈rs,meant cs r.w r.y i=true/\m=gJ cs.length (meant cs r.w r.x)
def j4(rs:List dR):List D:=rs.map dR.d
theorem FD{α:Type}{l:List α}(h:l.Nodup){i j:Nat}{a:α}(hi:l[i]?=some a)(hj:l[j]?=some a):i=j:=by
 obtain⟨h1,e1⟩:=ak.mp hi;obtain⟨h2,e2⟩:=ak.mp hj;exact(List.getElem_inj h).mp (e1.trans e2.symm)
section
variable{T:Nat->Option ba}{k d:Nat}{g g':G}{Q:KD}{E:KX}{a c p:Nat}{cs:List a9}{rs:List dR}
theorem Wc(hT:gE T)(ha:g[a]?=some (.lst (cs.map a9.d)))(hz:cs.length<=9)(hc:g[c]?=some (.lst (j4 rs)))(hr:rs.length<=900)(h:∀g' b,Ex g g'->g.length<=b->lA g' b g.length cs.length (λ_=>rs.length) (qP cs rs)->Q (.ref b) g'):b9 T (k+4) 97 [.ref a,.ref c] g Q E:=by
 refine call_of hT.KY rfl ?_;dsimp[P0,c8,List.replicate];walk_at"";refine F4 (a8 T _) (jm (a8 T _) ?_);walk_at"";refine⟨a,_,rfl,a7 ha,cs.map a9.d,λi ys Z g'=>Ex g g'/\(∃as:List Nat,ys=as.map .ref/\as.length=i/\as.Nodup/\∀b∈as,g.length<=b/\g'[b]?=some (.lst []))/\∃z0 z1,Z=[z0,z1],by simp;omega,λi ys Z g' q=>⟨j8 (a7 (q.1.at ha)),?_⟩,⟨Ex.refl _,⟨[],rfl,rfl,by simp,by simp⟩,none,none,rfl⟩,λi x ys Z g' hx q=>?_,λys Z g' q=>?_⟩
 ·obtain⟨_,⟨as,rfl,rfl,_⟩,_⟩:=q;simp
 ·obtain⟨e1,⟨as,rfl,hl,nd,hA⟩,z0,z1,rfl⟩:=q;refine f9 ?_
  try show cW _ _ _ _ _ _
  walk_at"";refine⟨e1.trans (Ex.snoc _ _),⟨as++[g'.length],by simp,by simp[hl],?_,λb hb=>?_⟩,_,_,rfl⟩
  ·rw[cM];exact⟨nd,by simp,λx hx y hy=>by cases bo.mp hy;exact aR (k8 (hA x hx).2)⟩
  ·rcases bc.mp hb with hb|hb
   ·exact⟨(hA b hb).1,(Ex.snoc _ _).at (hA b hb).2⟩
   ·cases bo.mp hb;exact⟨e1.len,b0⟩
 ·obtain⟨e1,⟨as,rfl,hl,nd,hA⟩,z0,z1,rfl⟩:=q;rw[ao] at hl;walk_at"";have e2:=e1.trans (Ex.snoc g' (O.lst (as.map D.ref)));have lo:=e1.len;have N0:lA (g'++[O.lst (as.map D.ref)]) g'.length g.length cs.length (λ_=>0) (qP cs []):=⟨⟨as,b0,hl,nd,λb hb=>⟨(hA b hb).1,aR (k8 (hA b hb).2)⟩,λi b hb=>⟨[],(Ex.snoc _ _).at (hA b (aF hb)).2,by simp,λm=>⟨λz=>absurd z (by simp),λ⟨r,hr,_⟩=>absurd hr (by simp)⟩⟩⟩⟩
  generalize g'++[O.lst (as.map D.ref)]=g1 at *;generalize g'.length=nb at *;refine u9 (a8 T _) (jm (a8 T _) ?_);walk_at"";refine⟨c,_,rfl,a7 (e2.at hc),j4 rs,λi Z g'=>Ex g g'/\lA g' nb g.length cs.length (λ_=>i) (qP cs (rs.take i))/\∃z3 z4 z5 z6 z7,Z=[some (.ref a),some (.ref c),some (.ref nb),z3,z4,z5,z6,z7],λi Z g' q=>j8 (a7 (q.1.at hc)),⟨e2,N0,none,none,none,none,none,rfl⟩,λi x Z g' hx q=>?_,λZ g' q=>?_⟩
  ·obtain⟨e3,N3,z3,z4,z5,z6,z7,rfl⟩:=q;rw[j4,ag,aa] at hx;obtain⟨r,fk,rfl⟩:=hx;have hi:i<rs.length:=(ak.mp fk).1;refine B0 (l:=[.str r.w.s,.int r.x,.int r.y]) rfl ?_
   try show wpS _ _ _ _ _ _
   walk_at"";refine K8 (k:=k) hT.nf hT.jE hT.nr (e3.at ha) (by omega) λg4 b4 e4 _ KJ=>?_;walk_at"";refine N8 (k:=k+2) hT.qo KJ (aG F6 (by omega)) (λj hj=>by have:=uu j hj;omega) λg5 e5=>?_;walk_at"";have ph:=e3.trans (e4.trans e5);have N5:=N3.at (e4.trans e5);have ef:mO (fR cs r.w r.x)=gJ cs.length (meant cs r.w r.x):=rfl;rw[ef];generalize gJ cs.length (meant cs r.w r.x)=first at *
   refine u9 (a8 T _) (jm (a8 T _) ?_);walk_at"";refine K8 (k:=k) hT.nf hT.jE hT.nr (ph.at ha) (by omega) λg6 b6 e6 hb6 Dm=>?_;refine⟨b6,_,rfl,a7 Dm,b7 (fR cs r.w r.y),λj Z g'=>Ex g g'/\g'[b6]?=some (.lst (b7 (fR cs r.w r.y)))/\lA g' nb g.length cs.length (λq=>i+if q∈(fR cs r.w r.y).take j then 1 else 0) (λq m=>qP cs (rs.take i) q m\/(q∈(fR cs r.w r.y).take j/\m=first))/\(∀as:List Nat,g'[nb]?=some (.lst (as.map .ref))->b6∉as)/\∃z7,Z=[some (.ref a),some (.ref c),some (.ref nb),some (.str r.w.s),some (.int r.x),some (.int r.y),some (.int (first:Nat)),z7],λj Z g' q=>j8 (a7 q.2.1),⟨ph.trans e6,Dm,(N5.at e6).imp (λq _=>by simp) (λq m _=>by simp),?_,z7,rfl⟩,λj x Z g' hx q=>?_,λZ g' q=>?_⟩
   ·intro vV h' hm;obtain⟨qz,h1,h2,h3,h4,h5⟩:=N5.ex;have:=(e6.at h1).symm.trans h';have e':qz=vV:=by
     have h0:qz.map D.ref=vV.map D.ref:=by injection this with w;injection w
     exact(List.map_inj_right (λx y z=>by injection z)).mp h0
    subst e';obtain⟨i',gP⟩:=bL.mp hm;obtain⟨ms,m1,_⟩:=h5 i' b6 gP;have:=k8 m1;omega
   ·obtain⟨e7,p7,N7,va,z7,rfl⟩:=q;rw[b7,ag,aa] at hx;obtain⟨q,hq,rfl⟩:=hx;have Dk:q<cs.length:=uu q (aF hq);have J':q∉(fR cs r.w r.y).take j:=λz=>by
     obtain⟨j',oC⟩:=bL.mp z;have hl:j'<j:=by
      have:=(ak.mp oC).1;simp at this;omega
     rw[cv hl] at oC;have Jx:(fR cs r.w r.y).Nodup:=List.nodup_range.filter _;have:=FD Jx oC hq;omega
    have tk:(fR cs r.w r.y).take (j+1)=(fR cs r.w r.y).take j++[q]:=by rw[bE,hq];rfl
    obtain⟨ua,h1,h2,h3,h4,h5⟩:=N7.ex;have JS:q<ua.length:=by omega
    have qj:=ai JS;generalize ua[q]=aq at qj;obtain⟨ms,m1,m2,m3⟩:=h5 q aq qj;have gq:fI (ua.map D.ref) (q:Int)=some (.ref aq):=x4 (by rw[ag,qj];rfl);refine f9 ?_
    try show wpS _ _ _ _ _ _
    walk_at"";refine n5 (a7 h1) gq ?_;refine pN (Ab m1 ?_);walk_at"";by_cases iC:first∈ms
    ·refine fj (by simp[iC]) ?_;walk_at"";refine⟨e7,p7,N7.imp (λq' _=>?_) (λq' m _=>?_),va,_,rfl⟩
     ·rw[tk];simp only[List.mem_append,List.mem_singleton];by_cases z:q'∈(fR cs r.w r.y).take j
      ·simp[z]
      ·simp[z]
     ·rw[tk];simp only[List.mem_append,List.mem_singleton];constructor
      ·rintro(z|⟨z1,z2⟩)
       ·exact .inl z
       ·exact .inr ⟨.inl z1,z2⟩
      ·rintro(z|⟨z1|z1,z2⟩)
       ·exact .inl z
       ·exact .inr ⟨z1,z2⟩
       ·subst z1 z2;exact(m3 m).mp iC
    ·refine gh (by simp[iC]) ?_;walk_at"";refine n5 (a7 h1) gq ?_
     try refine⟨Y0 m1,?_⟩
     walk_at"";rw[aC J'] at m2;refine P8 m1 (by simp[b7];omega) ?_;walk_at"";have kO:=aF qj;have dH:=(h4 aq kO).2;have Kb:aq≠b6:=λz=>va ua h1 (z▸kO);have DQ:=d6 (o':=O.lst (b7 ms++[D.int (first:Nat)])) h1 dH;refine⟨⟨by simp;exact e7.len,λi' gP=>by rw[aA (by have:=(h4 aq kO).1;omega)];exact e7.old i' gP⟩,d6 p7 Kb,⟨⟨ua,DQ,h2,h3,h4,λi' b hb=>?_⟩⟩,λvV h'=>?_,_,rfl⟩
     ·by_cases vi:i'=q
      ·subst vi;have:b=aq:=by rw[qj] at hb;injection hb with z;exact z.symm
       subst this;refine⟨ms++[first],by rw[get_set m1];simp[b7],?_,λm=>?_⟩
       ·rw[tk];simp;omega
       ·rw[bc,bo,m3 m,tk];simp only[List.mem_append,List.mem_singleton];constructor
        ·rintro((z|⟨z1,z2⟩)|z)
         ·exact .inl z
         ·exact .inr ⟨.inl z1,z2⟩
         ·exact .inr ⟨.inr trivial,z⟩
        ·rintro(z|⟨z1|z1,z2⟩)
         ·exact .inl (.inl z)
         ·exact .inl (.inr ⟨z1,z2⟩)
         ·exact .inr z2
      ·have yE:aq≠b:=λz=>vi (FD h3 hb (z▸qj));obtain⟨CP,k1,k2,k3⟩:=h5 i' b hb;refine⟨CP,d6 k1 yE,?_,λm=>(k3 m).trans ?_⟩
       ·rw[tk];simpa[vi] using k2
       ·rw[tk];simp[vi]
     ·rw[DQ] at h';exact va vV (h1.trans h')
   ·obtain⟨e7,p7,N7,va,z7,rfl⟩:=q;rw[b7,ao,bK] at N7
    try show wpS _ _ _ _ _ _
    walk_at"";refine⟨e7,N7.imp (λq _=>by split<;>omega) (λq m hq=>?_),_,_,_,_,_,rfl⟩;have tk:rs.take (i+1)=rs.take i++[r]:=by rw[bE,fk];rfl
    unfold qP;rw[tk];simp only[List.mem_append,List.mem_singleton];constructor
    ·rintro(⟨r',h1,h2⟩|⟨h1,h2⟩)
     ·exact⟨r',.inl h1,h2⟩
     ·exact⟨r,.inr rfl,(bh.mp h1).2,by rw[h2];exact ef.symm⟩
    ·rintro⟨r',h1|h1,h2,h3⟩
     ·exact .inl ⟨r',h1,h2,h3⟩
     ·subst h1;exact .inr ⟨bh.mpr ⟨aM.mpr hq,h2⟩,by rw[h3];exact ef⟩
  ·obtain⟨e3,N3,z3,z4,z5,z6,z7,rfl⟩:=q;rw[j4,ao,bK] at N3
   try show wpS _ _ _ _ _ _
   walk_at"";exact h _ _ e3 lo N3
end
def l6(cs:List a9)(r:dR):Bool:=!decide (r.x=r.y)&&(!(fR cs r.w r.x).isEmpty&&!(fR cs r.w r.y).isEmpty)
theorem in_words{g:G}{w:RW}{kb:Bool->Prop}(h:kb true):oo g (.str w.s) (.tup [.str "coin",.str "lower",.str "upper"]) kb:=by
 refine⟨_,.inr ⟨_,[.str "coin",.str "lower",.str "upper"],.str w.s,rfl,rfl,rfl,by simp only[PyData.canLayAll0,PyData.canLay0,Bool.and_true];decide +kernel,by simp only[PyData.canLay0];cases w<;>decide +kernel,rfl⟩,?_⟩;have:([PyData.str "coin",PyData.str "lower",PyData.str "upper"].any λq=>PyData.eqv q (.str w.s))=true:=by
  simp only[List.any_cons,List.any_nil,PyData.eqv];cases w<;>decide +kernel
 rw[this];exact h
theorem ne_nil{g:G}{a b:Nat}{l:List Nat}{Q:KD}(ha:g[a]?=some (.lst (b7 l)))(hb:g[b]?=some (.lst []))(h:Q (.bl (!l.isEmpty)) g):cH (.cmp .NotEq) [.ref a,.ref b] g Q:=by
 refine zM (ZT (ms:=l.map λ(i:Nat)=>(i:Int)) (ns:=[]) (by rw[<- Ao];exact a7 ha) (a7 hb) ?_);have:decide ((l.map λ(i:Nat)=>(i:Int))=[])=l.isEmpty:=by cases l<;>simp
 rw[this];exact h
structure Bd(g:G)(b:Nat)(cs:List a9)(v:Int)(rs:List dR):Prop where
 ex:∃w l d nb,g[b]?=some (.ins "Bounds" [("size",.int cs.length),("full",.int ((2 ^ cs.length-1:Nat):Int)),("room",.int v),("worn_by_place",.ref w),("later_by_place",.ref l),("lower_dies",.ref d),("needed_by_place",.ref nb)]) /\
  g[w]?=some (.lst (pV cs mw))/\g[l]?=some (.lst (pV cs jd))/\g[d]?=some (.lst (X0 cs))/\lA g nb 0 cs.length (λ_=>rs.length) (qP cs rs)
theorem Bd.at{g g':G}{b:Nat}{cs:List a9}{v:Int}{rs:List dR}(h:Bd g b cs v rs)(e:Ex g g'):Bd g' b cs v rs:=by
 obtain⟨w,l,d,nb,h1,h2,h3,h4,h5⟩:=h.ex;exact⟨⟨w,l,d,nb,e.at h1,e.at h2,e.at h3,e.at h4,h5.at e⟩⟩
theorem WW{α:Type}(l:List α)(z:α)(q:α->Bool):((List.range l.length).filter λi=>q (l.getD i z)).length=(l.filter q).length:=by
 have e:l=(List.range l.length).map λi=>l.getD i z:=by
  refine cN λi=>?_;rw[ag];by_cases hi:i<l.length
  ·rw[bC hi,ai hi];simp[List.getD,hi]
  ·rw[aP (by omega),aP (by simpa using hi)]
   rfl
 conv=>rhs;rw[e,List.filter_map,ao]
 rfl
theorem HM{n:Nat}{q:Nat->Bool}{s:Nat}{S:Nat->Bool}(h:∀i,i<n->s.testBit i=S i):((Builtin.bitAnd ((gJ n q:Nat):Int) (s:Nat)) != 0)=(List.range n).any λi=>S i&&q i:=by
 rw[zQ,Nat.and_comm,wt,aV,aT,aT];constructor
 ·rintro⟨i,h1,h2⟩;exact⟨i,h1,by rw[<- h i (aM.mp h1)];exact h2⟩
 ·rintro⟨i,h1,h2⟩;exact⟨i,h1,by rw[h i (aM.mp h1)];exact h2⟩
theorem Yw{n s i:Nat}(h:s<2 ^ n)(hi:i<n):(2 ^ n-1-s).testBit i=!s.testBit i:=by
 rw[show 2 ^ n-1-s=2 ^ n-(s+1) by omega,Nat.testBit_two_pow_sub_succ h,az hi]
 rfl
theorem R9(s p i:Nat):(s |||2 ^ p).testBit i=(s.testBit i||decide (i=p)):=by
 rw[Nat.testBit_or,Nat.testBit_two_pow]
 congr 1
 exact dk.mpr eq_comm
theorem Q6{s p n:Nat}(h:s<2 ^ n)(hp:p<n):s |||2 ^ p<2 ^ n:=Nat.or_lt_two_pow h (Nat.pow_lt_pow_right (by omega) hp)
section
variable{T:Nat->Option ba}{k d:Nat}{g g':G}{Q:KD}{E:KX}{a b c:Nat}{cs:List a9}{rs:List dR}{v:Int}
theorem Yl(hT:gE T){r:dR}(ha:g[a]?=some (.lst (cs.map a9.d)))(hz:cs.length<=1000)(h:∀g',Ex g g'->Q (.bl (l6 cs r)) g'):b9 T (k+4) 88 [.ref a,r.d] g Q E:=by
 refine call_of hT.Lf rfl ?_;dsimp[AG,c8,List.replicate];walk_at"";refine B0 (l:=[.str r.w.s,.int r.x,.int r.y]) rfl ?_;walk_at"";refine pN (in_words ?_);walk_at"";refine if2 (λh1=>?_) (λh1=>?_)
 ·walk_at"";have:l6 cs r=false:=by unfold l6;rw[az h1];rfl
  rw[<- this];exact h _ (Ex.refl _)
 ·walk_at"";refine K8 (k:=k) hT.nf hT.jE hT.nr ha hz λg1 b1 e1 _ sW=>?_;walk_at"";refine ne_nil ((Ex.snoc _ _).at sW) b0 ?_;walk_at"";cases h2:(fR cs r.w r.x).isEmpty with
  |true =>
   refine fj rfl ?_;have:l6 cs r=false:=by unfold l6;rw[aE h1,h2];rfl
   rw[<- this];exact h _ (e1.trans (Ex.snoc _ _))
  |false =>
   refine gh rfl ?_;walk_at"";refine K8 (k:=k) hT.nf hT.jE hT.nr ((e1.trans (Ex.snoc _ _)).at ha) hz λg2 b2 e2 _ sV=>?_;walk_at"";refine ne_nil ((Ex.snoc _ _).at sV) b0 ?_;have:l6 cs r=!(fR cs r.w r.y).isEmpty:=by unfold l6;rw[aE h1,h2];rfl
   rw[<- this];exact h _ ((e1.trans (Ex.snoc _ _)).trans (e2.trans (Ex.snoc _ _)))
theorem VH(hT:gE T)(ha:g[a]?=some (.lst (cs.map a9.d)))(hz:cs.length<=1000)(hc:g[c]?=some (.lst (j4 rs)))(hr:rs.length<=900)(h:rs.all (l6 cs)=true->∀g',Ex g g'->Q .bx g')(hn:rs.all (l6 cs)=false->∀g',Ex g g'->E ⟨"BadRule"⟩ g'):b9 T (k+5) 89 [.ref a,.ref c] g Q E:=by
 refine call_of hT.Le rfl ?_;dsimp[W0,c8,List.replicate];walk_at"";refine u9 (a8 T _) (xQ ?_);walk_at"";refine⟨c,_,rfl,a7 hc,kn (j4 rs),λi Z g'=>Ex g g'/\(∃z2 z3,Z=[some (.ref a),some (.ref c),z2,z3])/\(rs.take i).all (l6 cs)=true,λi Z g' q=>vZ (a7 (q.1.at hc)),⟨Ex.refl _,⟨none,none,rfl⟩,rfl⟩,λi x Z g' hx q=>?_,λZ g' q=>?_⟩
 ·obtain⟨e1,⟨z2,z3,rfl⟩,q⟩:=q;obtain⟨dd,hd,rfl⟩:=wz hx;rw[j4,ag,aa] at hd;obtain⟨r,fk,rfl⟩:=hd;have tk:rs.take (i+1)=rs.take i++[r]:=by rw[bE,fk];rfl
  refine B0 rfl ?_
  try show wpS _ _ _ _ _ _
  walk_at"";refine Yl (k:=k) hT (e1.at ha) hz λg2 e2=>?_;walk_at"";cases hg:l6 cs r with
  |true =>
   walk_at"";exact⟨e1.trans e2,⟨_,_,rfl⟩,by rw[tk,List.all_append,q];simp[hg]⟩
  |false =>
   walk_at"";have hi:i<rs.length:=(ak.mp fk).1;refine Ru ?_ ?_
   ·have:(i:Int).natAbs<2 ^ 10:=by rw[Int.natAbs_natCast];omega
    rw[Int.natAbs_natCast] at this ⊢;by_cases h0:i=0
    ·subst h0;decide
    ·exact cP ((Nat.log2_lt h0).mpr this) (by decide)
   walk_at"";refine Nd rfl ?_;walk_at"";refine hn ?_ _ (e1.trans e2);rw[List.all_eq_false];exact⟨r,aF fk,by rw[hg];decide⟩
 ·obtain⟨e1,⟨z2,z3,rfl⟩,q⟩:=q;rw[N1,j4,ao,bK] at q;exact h q _ e1
theorem VF(hT:gE T)(oQ:T 42=some C2)(tq:T 98=some J9)(ha:g[a]?=some (.lst (cs.map a9.d)))(hz:cs.length<=1000)(hc:g[c]?=some (.lst (j4 rs)))(hr:rs.length<=900)(hm:9<cs.length->E ⟨"TooMany"⟩ g)(hb:cs.length<=9->cs.all v5=false->E ⟨"BadCoin"⟩ g)(hv:cs.length<=9->cs.all v5=true->¬(1<=v/\v<=9)->E ⟨"BadAnvils"⟩ g)(hw:cs.length<=9->cs.all v5=true->1<=v/\v<=9->rs.all (l6 cs)=false->∀g',Ex g g'->E ⟨"BadRule"⟩ g')(h:cs.length<=9->cs.all v5=true->1<=v/\v<=9->rs.all (l6 cs)=true->∀g',Ex g g'->Q .bx g'):b9 T (k+7) 98 [.ref a,.int v,.ref c] g Q E:=by
 refine call_of tq rfl ?_;dsimp[J9,c8,List.replicate];walk_at"";refine Y6 (k:=k) hT.nf hT.h2 hT.qp hT.tD ha hz hm hb λh9 hg=>?_;walk_at"";refine VP (k:=k+3) hT.nf oQ (λv1 v2=>?_) (hv h9 hg);walk_at"";exact VH (k:=k+1) hT ha hz hc hr (h h9 hg ⟨v1,v2⟩) (hw h9 hg ⟨v1,v2⟩)
theorem Hy{f:Str}{x:D}(fs:List (Str×D)):(j9 f x fs).length<=fs.length+1:=by
 induction fs with
 |nil=>simp[j9]
 |cons y r ih =>
  unfold j9;split<;>simp
  exact ih
theorem X4{f:Str}{x:D}{fs:List (Str×D)}{n:Nat}(h:fs.length+1<n):(j9 f x fs).length<n:=dC (Hy fs) h
theorem X3{f:Str}{x:D}{fs:List (Str×D)}{m n:Nat}(h:fs.length+(m+1)<n):(j9 f x fs).length+m<n:=by
 have:=Hy (f:=f) (x:=x) fs;omega
def f3(n:Nat)(v:Int):List (Str×D):=[("size",.int n),("full",.int ((2 ^ n-1:Nat):Int)),("room",.int v)]
theorem Y3(n:Nat)(v:Int):(f3 n v).length=3:=rfl
theorem VE(hT:gE T)(ha:g[a]?=some (.lst (cs.map a9.d)))(hz:cs.length<=9)(hg:cs.all v5=true)(hB:∀c∈cs,CB c)(hc:g[c]?=some (.lst (j4 rs)))(hr:rs.length<=900)(hb:g[b]?=some (.ins "Bounds" []))(h:∀g',g.length<=g'.length->(∀i,i<g.length->i≠b->g'[i]?=g[i]?)->Bd g' b cs v rs->Q .bx g'):b9 T (k+9) 113 [.ref b,.ref a,.int v,.ref c] g Q E:=by
 refine call_of hT.zc rfl ?_;dsimp[W5,c8,List.replicate];have rL:b≠a:=λz=>by subst z;rw[ha] at hb;cases hb
 have uZ:b≠c:=λz=>by subst z;rw[hc] at hb;cases hb
 have lb:=k8 hb;walk_at"";refine Z5 hb (by simp) (by simp) ?_;walk_at"";have qk:=d6 (o':=O.ins "Bounds" (j9 "size" (.int (cs.map a9.d).length) [])) ha rL;refine J1 (a7 qk) ?_;walk_at"";refine Ba ⟨by omega,by simp;omega,by decide⟩ ?_;walk_at"";refine Z5 (get_set hb) (by simp) (by first|(simp;done)|(refine X4 ?_;repeat (first|(rw[Y3];omega)|(simp;done)|refine X3 ?_))) ?_;rw[List.set_set];walk_at"";refine Z5 (get_set hb) (by simp) (by first|(simp;done)|(refine X4 ?_;repeat (first|(rw[Y3];omega)|(simp;done)|refine X3 ?_))) ?_;rw[List.set_set];have e0:j9 "room" (.int v) (j9 "full" (.int (1*2 ^ Int.toNat ((cs.map a9.d).length:Int)-1)) (j9 "size" (.int (cs.map a9.d).length) []))=(f3 cs.length v):=by
  have:(1*2 ^ Int.toNat ((cs.map a9.d).length:Int)-1:Int)=((2 ^ cs.length-1:Nat):Int):=by
   rw[ao,cB,Int.one_mul];have:=Nat.one_le_two_pow (n:=cs.length);rw[Int.natCast_sub this];simp
  rw[this,ao]
  rfl
 simp only[e0];have kp:∀(g1:G) (o:O),Ex (g.set b o) g1->(∀i,i<g.length->i≠b->g1[i]?=g[i]?)/\g.length<=g1.length:=λg1 o e=>⟨λi hi hn=>by rw[e.old i (by simpa using hi),aA (bP hn)],by have:=e.len;simpa using this⟩
 generalize ho:O.ins "Bounds" (f3 cs.length v)=o1;have sW:=get_set (o':=o1) hb;have qk:=d6 (o':=o1) ha rL;have oI:=d6 (o':=o1) hc uZ;have k1:=kp _ o1 (Ex.refl _);generalize g.set b o1=g1 at *;subst ho;walk_at"";refine QL (k:=k+4) hT qk hz hB λg2 w e2 hw1 hw=>?_;walk_at"";refine Z5 (e2.at sW) (by simp) (by rw[Y3];omega) ?_;have lw:w≠b:=λz=>by have:=k8 sW;omega
 have yH:=get_set (o':=O.ins "Bounds" (j9 "worn_by_place" (.ref w) (f3 cs.length v))) (e2.at sW);have JR:=d6 (o':=O.ins "Bounds" (j9 "worn_by_place" (.ref w) (f3 cs.length v))) hw lw.symm;have vq:=d6 (o':=O.ins "Bounds" (j9 "worn_by_place" (.ref w) (f3 cs.length v))) (e2.at qk) rL;have vm:=d6 (o':=O.ins "Bounds" (j9 "worn_by_place" (.ref w) (f3 cs.length v))) (e2.at oI) uZ;have k3:(∀i,i<g.length->i≠b->(g2.set b (O.ins "Bounds" (j9 "worn_by_place" (.ref w) (f3 cs.length v))))[i]?=g[i]?)/\g.length<=(g2.set b (O.ins "Bounds" (j9 "worn_by_place" (.ref w) (f3 cs.length v)))).length:=⟨λi hi hn=>by rw[aA (bP hn),e2.old i (by have:=k1.2;omega)];exact k1.1 i hi hn,by simp;have:=e2.len;have:=k1.2;omega⟩
 generalize g2.set b (O.ins "Bounds" (j9 "worn_by_place" (.ref w) (f3 cs.length v)))=g3 at *;walk_at"";refine a01 (k:=k+4) hT vq hz λg4 l e4 iB hl=>?_;walk_at"";refine Z5 (e4.at yH) (by simp) (by first|(simp;done)|(refine X4 ?_;repeat (first|(rw[Y3];omega)|(simp;done)|refine X3 ?_))) ?_;have ll:l≠b:=λz=>by have:=k8 yH;omega
 generalize ho:O.ins "Bounds" (j9 "later_by_place" (.ref l) (j9 "worn_by_place" (.ref w) (f3 cs.length v)))=o5;have yG:=get_set (o':=o5) (e4.at yH);have JQ:=d6 (o':=o5) (e4.at JR) lw.symm;have Kk:=d6 (o':=o5) hl ll.symm;have DI:=d6 (o':=o5) (e4.at vq) rL;have KC:=d6 (o':=o5) (e4.at vm) uZ;have k5:(∀i,i<g.length->i≠b->(g4.set b o5)[i]?=g[i]?)/\g.length<=(g4.set b o5).length:=⟨λi hi hn=>by rw[aA (bP hn),e4.old i (by have:=k3.2;omega)];exact k3.1 i hi hn,by simp;have:=e4.len;have:=k3.2;omega⟩
 generalize g4.set b o5=g5 at *;subst ho;walk_at"";refine Vx (k:=k) hT DI hz hg λg6 dd e6 DF hd=>?_;walk_at"";refine Z5 (e6.at yG) (by simp) (by first|(simp;done)|(refine X4 ?_;repeat (first|(rw[Y3];omega)|(simp;done)|refine X3 ?_))) ?_;have ld:dd≠b:=λz=>by have:=k8 yG;omega
 generalize ho:O.ins "Bounds" (j9 "lower_dies" (.ref dd) (j9 "later_by_place" (.ref l) (j9 "worn_by_place" (.ref w) (f3 cs.length v))))=o7;have yF:=get_set (o':=o7) (e6.at yG);have JP:=d6 (o':=o7) (e6.at JQ) lw.symm;have Kj:=d6 (o':=o7) (e6.at Kk) ll.symm;have Ky:=d6 (o':=o7) hd ld.symm;have KN:=d6 (o':=o7) (e6.at DI) rL;have KA:=d6 (o':=o7) (e6.at KC) uZ;have k7:(∀i,i<g.length->i≠b->(g6.set b o7)[i]?=g[i]?)/\g.length<=(g6.set b o7).length:=⟨λi hi hn=>by rw[aA (bP hn),e6.old i (by have:=k5.2;omega)];exact k5.1 i hi hn,by simp;have:=e6.len;have:=k5.2;omega⟩
 generalize g6.set b o7=g7 at *;subst ho;walk_at"";refine Wc (k:=k+4) hT KN hz KA hr λg8 nb e8 hn1 hn=>?_;walk_at"";refine Z5 (e8.at yF) (by simp) (by first|(simp;done)|(refine X4 ?_;repeat (first|(rw[Y3];omega)|(simp;done)|refine X3 ?_))) ?_;have lb7:=k8 yF;have ln:nb≠b:=λz=>by omega
 generalize ho:O.ins "Bounds" (j9 "needed_by_place" (.ref nb) (j9 "lower_dies" (.ref dd) (j9 "later_by_place" (.ref l) (j9 "worn_by_place" (.ref w) (f3 cs.length v)))))=o9;refine h _ (by simp;have:=e8.len;have:=k7.2;omega) (λi hi hn=>by rw[aA (bP hn),e8.old i (by have:=k7.2;omega)];exact k7.1 i hi hn) ⟨⟨w,l,dd,nb,?_,d6 (e8.at JP) lw.symm,d6 (e8.at Kj) ll.symm,d6 (e8.at Ky) ld.symm,?_⟩⟩
 ·rw[get_set (e8.at yF),<- ho]
  rfl
 ·obtain⟨as,q1,q2,q3,q4,q5⟩:=hn.ex;exact⟨⟨as,d6 q1 ln.symm,q2,q3,λx hx=>⟨by omega,(q4 x hx).2⟩,λi x hx=>let ⟨ms,m1,m2⟩:=q5 i x hx;⟨ms,d6 m1 (λz=>by have:=(q4 x (aF hx)).1;omega),m2⟩⟩⟩
end
section
variable{T:Nat->Option ba}{k d:Nat}{g g':G}{Q:KD}{E:KX}{a b c:Nat}{cs:List a9}{rs:List dR}{v:Int}
theorem VI(hT:gE T)(B:Bd g b cs v rs)(hz:cs.length<=9){s p:Nat}(hs:s<2 ^ cs.length)(hp:p<cs.length)(h:∀g',Ex g g'->Q (.int (nK cs s.testBit p:Nat)) g'):b9 T (k+2) 100 [.ref b,.int (s:Nat),.int (p:Nat)] g Q E:=by
 refine call_of hT.zi rfl ?_;dsimp[AS,c8,List.replicate];obtain⟨w,l,dd,nb,h1,h2,h3,h4,h5⟩:=B.ex;walk_at"";refine A6 (k:=k) hT.mj (by omega) ?_;walk_at"";refine T8 h1 rfl ?_;walk_at"";have e1:((2 ^ cs.length-1:Nat):Int)-(s:Nat)=((2 ^ cs.length-1-s:Nat):Int):=by omega
 rw[e1];have yn:(n8 (cs.map a9.lo)).length<=9:=aG (O5 _) (by simpa using hz);have DD:(X0 cs).length=(n8 (cs.map a9.lo)).length:=by simp[X0]
 refine w6 (a8 T _) (λZ=>∃z2 z3,Z=[some (.int ((2 ^ cs.length-1-s:Nat):Int)),some (.int ((s |||2 ^ p:Nat):Int)),z2,z3]) (λi=>Z1 cs s.testBit p ((n8 (cs.map a9.lo)).getD i 0)) (λi=>(X0 cs).getD i .bx) (l:=X0 cs) (k:=.lst dd) (λg' e=>j8 (a7 (e.at h4))) (by rw[DD];omega) ⟨none,none,rfl⟩ (λi x Z g' hx e sh=>?_) (λg' e=>?_) (K3 (a8 T _) (a7 h4) λQ q=>?_)
 ·obtain⟨z2,z3,rfl⟩:=sh;have mY:=hx;rw[X0,ag,aa] at mY;obtain⟨iD,hd,rfl⟩:=mY;have eg:(n8 (cs.map a9.lo)).getD i 0=iD:=by simp[List.getD,hd]
  refine f9 ?_
  try show cW _ _ _ _ _ _
  walk_at"";refine uc ?_;walk_at"";have b1:=HM (n:=cs.length) (q:=meant cs .lower iD) (s:=s |||2 ^ p) (S:=λi=>s.testBit i||decide (i=p)) (λi _=>R9 s p i);have b2:=HM (n:=cs.length) (q:=meant cs .lower iD) (s:=2 ^ cs.length-1-s) (S:=λi=>!s.testBit i) (λi hi=>Yw hs hi);rw[b1,eg];have hu:Z1 cs s.testBit p iD=(((List.range cs.length).any λi=>(s.testBit i||decide (i=p))&&meant cs .lower iD i)&&(List.range cs.length).any λi=>!s.testBit i&&meant cs .lower iD i):=rfl;rw[hu];cases (List.range cs.length).any λi=>(s.testBit i||decide (i=p))&&meant cs .lower iD i with
  |false =>
   refine fj rfl ?_;exact⟨rfl,e,fj rfl ⟨_,_,rfl⟩⟩
  |true =>
   refine gh rfl ?_;walk_at"";refine uc ?_;walk_at"";rw[b2,Bool.true_and];refine⟨rfl,e,?_⟩;cases (List.range cs.length).any λi=>!s.testBit i&&meant cs .lower iD i with
   |false=>exact fj rfl ⟨_,_,rfl⟩
   |true =>
    refine gh rfl ?_;walk_at"";refine⟨?_,e,_,_,rfl⟩;simp[List.getD,hx]
 ·refine J1 (a7 b0) ?_;have:(((List.range (X0 cs).length).filter λi=>Z1 cs s.testBit p ((n8 (cs.map a9.lo)).getD i 0)).map λi=>(X0 cs).getD i .bx).length=nK cs s.testBit p:=by
   rw[ao,DD,WW (n8 (cs.map a9.lo)) 0 (Z1 cs s.testBit p)]
   rfl
  rw[this];exact h _ (e.trans (Ex.snoc _ _))
 ·walk_at"";exact T8 h1 rfl q
theorem GY{q:a9->a9->Bool}{p:Nat}(hp:p<cs.length):fI (pV cs q) (p:Int)=some (.int ((gJ cs.length λj=>q (bQ cs j) (bQ cs p):Nat):Int)):=x4 (by rw[pV,ag,bC hp];rfl)
theorem HN{s n:Nat}{q:Nat->Bool}:((Builtin.bitAnd (s:Nat) ((gJ n q:Nat):Int)) != 0)=(List.range n).any λi=>s.testBit i&&q i:=by rw[zQ,wt]
theorem Vy(hT:gE T)(B:Bd g b cs v rs)(hz:cs.length<=9)(hr:rs.length<=900){s p:Nat}(hs:s<2 ^ cs.length)(hp:p<cs.length)(h:∀g',Ex g g'->Q (vy (fault cs v rs s.testBit p)) g'):b9 T (k+3) 101 [.ref b,.int (s:Nat),.int (p:Nat)] g Q E:=by
 refine call_of hT.zh rfl ?_;dsimp[AV,c8,List.replicate];obtain⟨w,l,dd,nb,h1,h2,h3,h4,h5⟩:=B.ex;walk_at"";refine T8 h1 rfl ?_;walk_at"";refine n5 (a7 h2) (GY hp) ?_;refine uc ?_;walk_at"";rw[HN];cases c1:(List.range cs.length).any λi=>s.testBit i&&mw (bQ cs i) (bQ cs p) with
 |true =>
  refine gh rfl ?_;walk_at"";have:fault cs v rs s.testBit p="wear":=by unfold fault F0;rw[aK c1]
  rw[this] at h;exact h _ (Ex.refl _)
 |false =>
 refine fj rfl ?_;walk_at"";refine T8 h1 rfl ?_;walk_at"";refine n5 (a7 h3) (GY hp) ?_;refine uc ?_;walk_at"";rw[HN];cases c2:(List.range cs.length).any λi=>s.testBit i&&jd (bQ cs i) (bQ cs p) with
 |true =>
  refine gh rfl ?_;walk_at"";have:fault cs v rs s.testBit p="year":=by unfold fault F0 C9;rw[aC (by rw[c1];decide),aK c2]
  rw[this] at h;exact h _ (Ex.refl _)
 |false =>
 refine fj rfl ?_;walk_at"";refine VI (k:=k) hT B hz hs hp λg2 e2=>?_;walk_at"";refine T8 (e2.at h1) rfl ?_;walk_at"";refine if2 (λc3=>?_) (λc3=>?_)
 ·walk_at"";have:fault cs v rs s.testBit p="anvil":=by unfold fault F0 C9;rw[aC (by rw[c1];decide),aC (by rw[c2];decide),aK c3]
  rw[this] at h;exact h _ e2
 walk_at"";obtain⟨as,q1,q2,q3,q4,q5⟩:=h5.ex;have JV:p<as.length:=by omega
 have yJ:=ai JV;generalize as[p]=ap at yJ;obtain⟨ms,m1,m2,m3⟩:=q5 p ap yJ;refine comp_map (a8 T _) (λZ=>∃z1 z2,Z=[some (.int (s:Nat)),z1,z2]) (λi=>.int ((s &&& ms.getD i 0:Nat):Int)) (l:=b7 ms) (k:=.lst ap) (λg' e=>j8 (a7 ((e2.trans e).at m1))) (by simp[b7];omega) ⟨none,none,rfl⟩ (λi x Z g' hx e sh=>?_) (λg' e=>?_) (K3 (a8 T _) (a7 (e2.at m1)) λQ q=>?_)
 ·obtain⟨z1,z2,rfl⟩:=sh;rw[b7,ag,aa] at hx;obtain⟨m,hm,rfl⟩:=hx;refine f9 ?_
  try show aX _ _ _ _ _ _
  walk_at"";refine uc ?_;refine⟨?_,e,_,_,rfl⟩;rw[zQ];simp[List.getD,hm]
 ·refine SR (ns:=(List.range (b7 ms).length).map λi=>((s &&& ms.getD i 0:Nat):Int)) (a7 (by rw[cb];exact b0)) ?_;have en:(((List.range (b7 ms).length).map λi=>((s &&& ms.getD i 0:Nat):Int)).all λn=>n != 0)=L7 cs rs s.testBit p:=by
   rw[aV,cg];unfold L7;rw[cg];constructor
   ·intro hA r hr;cases yi:meant cs r.w r.y p with
    |false=>rfl
    |true =>
     have hm:=(m3 (gJ cs.length (meant cs r.w r.x))).mpr ⟨r,hr,yi,rfl⟩;obtain⟨i,hi⟩:=bL.mp hm;have Ds:=(ak.mp hi).1;have:=hA ((s &&& gJ cs.length (meant cs r.w r.x):Nat):Int) (aU.mpr ⟨i,aM.mpr (by simpa[b7] using Ds),by simp[List.getD,hi]⟩);rw[wt] at this;exact this
   ·intro hA x hx;obtain⟨i,hi,rfl⟩:=aU.mp hx;have hi:i<ms.length:=by simpa[b7] using hi
    have hm:ms.getD i 0∈ms:=by simp[List.getD,hi]
    obtain⟨r,hr,yi,em⟩:=(m3 _).mp hm;have:=hA r hr;rw[yi,Bool.not_true,eQ] at this;rw[em,wt];exact this
  rw[en];walk_at"";cases c4:L7 cs rs s.testBit p with
  |true =>
   walk_at"";have:fault cs v rs s.testBit p="":=by unfold fault F0 C9;rw[aC (by rw[c1];decide),aC (by rw[c2];decide),aC c3,aK c4]
   rw[this] at h;exact h _ (e2.trans (e.trans (Ex.snoc _ _)))
  |false =>
   walk_at"";have:fault cs v rs s.testBit p="rule":=by unfold fault F0 C9;rw[aC (by rw[c1];decide),aC (by rw[c2];decide),aC c3,aC (by rw[c4];decide)]
   rw[this] at h;exact h _ (e2.trans (e.trans (Ex.snoc _ _)))
 ·walk_at"";refine T8 (e2.at h1) rfl ?_;walk_at"";exact n5 (a7 (e2.at q1)) (x4 (by rw[ag,yJ];rfl)) q
end
def qO:ba:=⟨2,5,(.seq (.set 2 (cK (.prim .lst (lP (ff "coin") (ff "coin") (ff "lower") (ff "upper"))) (.call 4 (dz aN (bj 4))))) (.seq (.set 3 (dg .gU (dg .len bf))) (.seq (.ifs (du .Eq bp (ff "lower")) (.seq (.set 3 (dg .sset (.comp [] 2 (.one 1) (.eK bf) .no (cK bf (bj 0))))) .pass) .pass) (.seq (.ifs (du .Eq bp (ff "upper")) (.seq (.set 3 (dg .sset (.comp [] 2 (.one 1) (.eK bf) .no (cK bf (bj 2))))) .pass) .pass) (.seq (.ifs (du .Lt (dg .len bJ) (bj 2)) (.seq (.ret (.lit .bx)) .pass) .pass) (.seq (.set 4 (.call 4 (dz aN (dg .len bJ)))) (.seq (.ret (.prim .tup (fK bp (cK bJ cT) (cK bJ (bX (.bin .Mod) (bX (.bin .Add) (bX (.bin .Add) cT (bj 1)) (.call 4 (dz aN (bX (.bin .Sub) (dg .len bJ) (bj 1))))) (dg .len bJ)))))) .pass)))))))⟩
def BH:ba:=⟨2,5,(.seq (.set 2 (.prim .lst .nil)) (.seq (.cU (.one 3) (.dX (cK (.prim .lst (tF (bj 0) (bj 0) (bj 1) (bj 1) (bj 2) (bj 4))) (.call 4 (dz aN (bj 6))))) (.seq (.set 4 (.call 105 (dz aN bf))) (.seq (.ifs (du .IsNot cT (.lit .bx)) (.seq (.expr (.dW .append bp (eL cT))) .pass) .pass) .pass))) (.seq (.ret bp) .pass)))⟩
def AJ:ba:=⟨4,8,(.seq (.jG (.many [4,5,6]) bJ) (.seq (.ifs (du .Eq cT (ff "coin")) (.seq (.ret (.iN (bX (.cmp .NotEq) bp eU) (bX (.cmp .In) dq bf))) .pass) .pass) (.seq (.set 7 (.ite (du .Eq cT (ff "lower")) (bj 0) (bj 2))) (.seq (.ret (.iN (bX (.cmp .NotEq) (cK (cK aN bp) fu) eU) (bX (.cmp .In) dq (.comp [7,0] 4 (.one 3) (.eK bf) .no (cK (cK bf bJ) aN))))) .pass))))⟩
def uq:ba:=⟨5,10,(.seq (.set 5 (cK aN cT)) (.seq (.cU (.one 6) (.eK bJ) (.seq (.cU (.one 7) (.eK (bX .lst (bj 0) (bj 2))) (.seq (.ifs (.dw (du .Eq (cK (cK aN eU) fu) (cK dq fu)) (.eB (.fg (.call 17 (dz (cK (cK aN eU) (bX (.bin .Add) fu (bj 1))) (cK dq (bX (.bin .Add) fu (bj 1)))))))) (.seq (.ret (ff "wear")) .pass) .pass) .pass)) .pass)) (.seq (.ifs (.dw (du .Gt (cK dq (bj 4)) (bj 0)) (du .Gt (dg .max (bX (.bin .Add) (dg .lst (bj 0)) (.comp [0] 3 (.one 2) (.eK bJ) .no (cK (cK aN bp) (bj 4))))) (cK dq (bj 4)))) (.seq (.ret (ff "year")) .pass) .pass) (.seq (.set 8 (bX (.bin .Add) (.comp [0] 3 (.one 2) (.eK bJ) .no (cK (cK aN bp) (bj 0))) (dg .lst (cK dq (bj 0))))) (.seq (.set 9 (.comp [3,0] 4 (.one 3) (.dX (dg .len aN)) (du .NotIn bJ aN) (cK (cK bf bJ) (bj 0)))) (.seq (.ifs (du .Gt (dg .nJ (.comp [9] 3 (.one 2) (.eK ip) (du .In bp aN) bp)) bf) (.seq (.ret (ff "anvil")) .pass) .pass) (.seq (.ifs (.eB (.fg (dg .all (.comp [3,0,4] 5 (.one 4) (.eK bp) .no (.call 107 (lP bf aN bp cT)))))) (.seq (.ret (ff "rule")) .pass) .pass) (.seq (.ret (ff "")) .pass))))))))⟩
def wa:ba:=⟨2,4,(.seq (.jG (.many [2,3]) (.call 26 (dz aN bf))) (.seq (.ret (.prim .tup (fK bp bJ (.call 106 (dz aN bp))))) .pass))⟩
structure TBR(T:Nat->Option ba):Prop where
 lf:LF T
 zg:T 105=some qO
 zf:T 106=some BH
structure pR(T:Nat->Option ba):Prop extends TBR T where
 yU:T 17=some wQ
 ze:T 107=some AJ
 zd:T 108=some uq
 oX:T 110=some wa
instance{T:Nat->Option ba}:CoeOut (pR T) (TBR T):=⟨pR.toTBR⟩
theorem we{cs:List a9}{w:RW}{x:Int}{i:Nat}(hi:i<cs.length)(h:meant cs w x i=true):(fR cs w x).isEmpty=false:=by
 cases e:fR cs w x with
 |nil =>
  have:i∈fR cs w x:=bh.mpr ⟨aM.mpr hi,h⟩;rw[e] at this;cases this
 |cons _ _=>rfl
section
variable{T:Nat->Option ba}{k d:Nat}{g g':G}{Q:KD}{E:KX}{a b c:Nat}{cs:List a9}{rs:List dR}{v:Int}
theorem AK{ns:List Int}{x:Int}:x∈n8 ns↔x∈ns:=by
 rw[(P5 ns).mem_iff,ST.AW];simp
theorem HZ(ns:List Int):(n8 ns).Nodup:=(P5 ns).nodup_iff.mpr (ST.AL _ _ (by simp))
theorem FI(hT:TBR T)(D0:i5 g d){w:RW}{L:List Int}{sL:Nat}{N:Ends}(hN:N.rt=Q)(hL:g[sL]?=some (.lst (L.map .int)))(hd:sL≠d)(nd:L.Nodup)(hl:L.length<=9)(hm:∀x∈L,(fR cs w x).isEmpty=false)(h:∀g',i5 g' d->Gr d g g'->Q .bx g'/\∀r,l6 cs r=true->Q r.d g'):wpS (b9 T (k+1)) (match qO.body with|.seq _ (.seq _ (.seq _ (.seq _ b)))=>b|x=>x) N [some (.ref d),some (.ref a),some (.str w.s),some (.ref sL),none] g E:=by
 subst hN;dsimp[qO];walk_at"";refine if2 (λh2=>?_) (λh2=>?_)
 ·walk_at"";exact(h g D0 (Gr.refl _ _)).1
 rw[ao] at h2;walk_at"";refine f7 (k:=k) hT.lf.pull D0 (by rw[ao];omega) (by rw[ao];omega) λr1 g1 h0 h1 D1 G1=>?_;rw[ao] at h1;walk_at"";obtain⟨j,rfl⟩:∃j:Nat,r1=j:=⟨r1.toNat,by omega⟩
 have hj:j<L.length:=by omega
 have gj:fI (L.map D.int) (j:Int)=some (.int L[j]):=x4 (by rw[ag,ai hj];rfl);refine n5 (a7 (G1.at hd hL)) gj ?_;walk_at"";refine J1 (a7 (G1.at hd hL)) ?_;walk_at"";refine f7 (k:=k) hT.lf.pull D1 (by rw[ao];omega) (by rw[ao];omega) λr2 g2 k0 k1 D2 G2=>?_;rw[ao] at k1;walk_at"";have oO:=(G1.trans G2).at hd hL;refine J1 (a7 oO) ?_;walk_at"";refine Q5 (by rw[ao];omega) ?_;obtain⟨j2,rfl⟩:∃j:Nat,r2=j:=⟨r2.toNat,by omega⟩
 have em:((j:Int)+1+(j2:Nat)) % ((L.map D.int).length:Nat)=(((j+1+j2) % L.length:Nat):Int):=by rw[ao,Int.natCast_emod,show((j+1+j2:Nat):Int)=(j:Int)+1+(j2:Nat) by omega]
 rw[em];have oB:(j+1+j2) % L.length<L.length:=Nat.mod_lt _ (by omega);have dH:(j+1+j2) % L.length≠j:=by
  by_cases hc:j+1+j2<L.length
  ·rw[Nat.mod_eq_of_lt hc];omega
  ·rw[Nat.mod_eq_sub_mod (by omega),Nat.mod_eq_of_lt (by omega)];omega
 generalize (j+1+j2) % L.length=j3 at *;have Lx:fI (L.map D.int) (j3:Int)=some (.int L[j3]):=x4 (by rw[ag,ai oB];rfl);refine n5 (a7 oO) Lx ?_;walk_at"";refine(h g2 D2 (G1.trans G2)).2 ⟨w,L[j],L[j3]⟩ ?_;unfold l6;rw[hm _ (cc hj),hm _ (cc oB),aE (λz=>dH ((List.getElem_inj nd).mp z).symm)]
 rfl
theorem Qe(hT:TBR T)(ha:g[a]?=some (.lst (cs.map a9.d)))(hz:cs.length<=9)(hd:d<a)(D0:i5 g d)(h:∀g',i5 g' d->Gr d g g'->Q .bx g'/\∀r,l6 cs r=true->Q r.d g'):b9 T (k+2) 105 [.ref d,.ref a] g Q E:=by
 refine call_of hT.zg rfl ?_;dsimp[qO,c8,List.replicate];walk_at"";refine f7 (k:=k) hT.lf.pull (D0.snoc _) (by decide) (by decide) λr0 g1 h0 h1 D1 G1=>?_;have Cf:=(Gr.snoc d g _).trans G1;have qk:=Cf.at (bZ hd) ha;have l1:=Cf.len;have dl:=D0.lt;have hw:∃w:RW,fI [D.str "coin",D.str "coin",D.str "lower",D.str "upper"] r0=some (.str w.s):=by
  obtain⟨j,rfl⟩:∃j:Nat,r0=j:=⟨r0.toNat,by omega⟩
  have:j=0\/j=1\/j=2\/j=3:=by omega
  rcases this with rfl|rfl|rfl|rfl
  ·exact⟨.dN,rfl⟩
  ·exact⟨.dN,rfl⟩
  ·exact⟨.lower,rfl⟩
  ·exact⟨.upper,rfl⟩
 obtain⟨w,hw⟩:=hw;walk_at"";refine n5 (a7 (G1.at (bZ dl) b0)) hw ?_;walk_at"";refine qb (by omega) (by simp;omega) ?_;walk_at"";have e2:=Ex.snoc g1 (O.lst (i3 0 (Int.toNat ((cs.map a9.d).length:Nat))));have ng:=b0 (g:=g1) (o:=O.lst (i3 0 (Int.toNat ((cs.map a9.d).length:Nat))));generalize g1++[O.lst (i3 0 (Int.toNat ((cs.map a9.d).length:Nat)))]=g2 at *;have vt:=e2.at qk;have D2:=e2.draw D1;have G2:=Cf.trans (e2.gr d);have fld:∀(f:Int) (w:RW) (N:Ends),(f=0\/f=2)->(∀i c,cs[i]?=some c->∀x,meant cs w x i=decide (u7 f c=x))->N.rt=Q->aX (b9 T (k+1)) (.prim .sset (.cons (.comp [] 2 (.one 1) (.eK (.var 1)) .no (.prim .ix (.cons (.var 1) (.cons (.lit (.int f)) .nil)))) .nil)) [some (.ref d),some (.ref a),some (.str w.s),some (.ref g1.length),none] g2 (λx g3=>wpS (b9 T (k+1)) (match qO.body with|.seq _ (.seq _ (.seq _ (.seq _ b)))=>b|x=>x) N [some (.ref d),some (.ref a),some (.str w.s),some x,none] g3 E) E:=λf w N hf hm hN=>by
  walk_at"";refine comp_map (a8 T _) (λZ=>∃z0 z1,Z=[z0,z1]) (λi=>.int (u7 f (bQ cs i))) (l:=cs.map a9.d) (k:=.lst a) (λg' e=>j8 (a7 (e.at vt))) (by simp;omega) ⟨none,none,rfl⟩ (λi x Z g' hx e sh=>?_) (λg' e=>?_) (K3 (a8 T _) (a7 vt) λQ q=>w_var (d:=.ref a) rfl q)
  ·obtain⟨z0,z1,rfl⟩:=sh;rw[ag,aa] at hx;obtain⟨c,hc,rfl⟩:=hx;refine f9 ?_
   try show aX _ _ _ _ _ _
   walk_at"";refine p8 (E7 hf c) ?_;exact⟨by rw[u5 hc],e,_,_,rfl⟩
  ·refine GP (ns:=(List.range cs.length).map λi=>u7 f (bQ cs i)) (a7 (by rw[cb];rw[b0,ao];rfl)) (by simp;omega) ?_;have e3:=(e.trans (Ex.snoc g' (O.lst ((List.range (cs.map a9.d).length).map λi=>D.int (u7 f (bQ cs i)))))).trans (Ex.snoc _ (O.lst ((n8 ((List.range cs.length).map λi=>u7 f (bQ cs i))).map .int)));have yn:(n8 ((List.range cs.length).map λi=>u7 f (bQ cs i))).length<=9:=aG (O5 _) (by simpa using hz);refine FI (k:=k) hT (e3.draw D2) hN b0 (by have:=D2.lt;have:=e.len;simp;omega) (HZ _) yn (λx hx=>?_) λg4 D4 G4=>h g4 D4 (G2.trans ((e3.gr d).trans G4));rw[AK] at hx;obtain⟨i,hi,rfl⟩:=aU.mp hx;have hi:=aM.mp hi;have hc:=ai hi;refine we hi ?_;rw[hm i _ hc,u5 hc];exact az rfl
 cases w with
 |dN =>
  refine fj (by decide +kernel) ?_;walk_at"";refine fj (by decide +kernel) ?_
  try refine F3 ?_
  have er:i3 0 (Int.toNat ((cs.map a9.d).length:Nat))=((List.range cs.length).map λ(i:Nat)=>(i:Int)).map D.int:=by
   simp[i3]
  refine FI (k:=k) hT (w:=.dN) (L:=(List.range cs.length).map λ(i:Nat)=>(i:Int)) D2 rfl (by rw[<- er];exact ng) (by omega) ?_ (by simpa using hz) (λx hx=>?_) λg4 D4 G4=>h g4 D4 (G2.trans G4)
  ·exact List.pairwise_map.mpr (List.nodup_range.imp λh e=>h (by omega))
  ·obtain⟨i,hi,rfl⟩:=aU.mp hx;exact we (aM.mp hi) (az rfl)
 |lower =>
  refine gh (by decide +kernel) ?_;refine S0 ?_;refine vT ?_;refine c5 (a8 T _) _ _ _ _ _ _ _ (λx g3 q=>?_) (λ_ _ z=>z) (fld 0 .lower ⟨λ_ g'=>Q .bx g',Q,λ_ _=>False,λ_ _=>False⟩ (.inl rfl) (λi c hc x=>by simp only[meant,u5 hc];rfl) rfl);refine uj ?_;walk_at"";refine fj (by decide +kernel) ?_
  try refine F3 ?_
  exact q
 |upper =>
  refine fj (by decide +kernel) ?_;walk_at"";refine gh (by decide +kernel) ?_;refine S0 ?_;refine vT ?_;exact fld 2 .upper _ (.inr rfl) (λi c hc x=>by simp only[meant,u5 hc];rfl) rfl
end
section
variable{T:Nat->Option ba}{k d:Nat}{g g':G}{Q:KD}{E:KX}{a b c:Nat}{cs:List a9}{rs:List dR}{v:Int}
theorem Zd(hT:TBR T)(ha:g[a]?=some (.lst (cs.map a9.d)))(hz:cs.length<=9)(hd:d<a)(D0:i5 g d)(h:∀(rs:List dR) b g',rs.length<=4->rs.all (l6 cs)=true->g'[b]?=some (.lst (j4 rs))->g.length<=b->i5 g' d->Gr d g g'->Q (.ref b) g'):b9 T (k+3) 106 [.ref d,.ref a] g Q E:=by
 refine call_of hT.zf rfl ?_;dsimp[BH,c8,List.replicate];walk_at"";have dl:=D0.lt;have e1:=Ex.snoc g (O.lst []);have DA:=b0 (g:=g) (o:=O.lst []);have D1:=D0.snoc (O.lst []);generalize g++[O.lst []]=g1 at *;refine u9 (a8 T _) (W9 (a8 T _) ?_);walk_at"";refine f7 (k:=k+1) hT.lf.pull (D1.snoc _) (by decide) (by decide) λr0 g2 h0 h1 D2 G2=>?_;have l1:=k8 DA;have hw:∃j:Nat,j<=4/\fI [D.int 0,D.int 0,D.int 1,D.int 1,D.int 2,D.int 4] r0=some (.int (j:Nat)):=by
  obtain⟨j,rfl⟩:∃j:Nat,r0=j:=⟨r0.toNat,by omega⟩
  have:j=0\/j=1\/j=2\/j=3\/j=4\/j=5:=by omega
  rcases this with rfl|rfl|rfl|rfl|rfl|rfl
  ·exact⟨0,by decide,rfl⟩
  ·exact⟨0,by decide,rfl⟩
  ·exact⟨1,by decide,rfl⟩
  ·exact⟨1,by decide,rfl⟩
  ·exact⟨2,by decide,rfl⟩
  ·exact⟨4,by decide,rfl⟩
 obtain⟨j,hj,hw⟩:=hw;refine n5 (a7 (G2.at (by omega) b0)) hw ?_;refine⟨j,rfl,by omega,by omega,_,λi Z g'=>i5 g' d/\Gr d g g'/\(∃rs:List dR,rs.length<=i/\rs.all (l6 cs)=true/\g'[g.length]?=some (.lst (j4 rs)))/\∃z3 z4,Z=[some (.ref d),some (.ref a),some (.ref g.length),z3,z4],λ_ _ _ _=>q9,⟨D2,(e1.gr d).trans ((Gr.snoc d g1 _).trans G2),⟨[],by simp,rfl,((Gr.snoc d g1 _).trans G2).at (by omega) DA⟩,none,none,rfl⟩,λi x Z g' hx q=>?_,λZ g' q=>?_⟩
 ·obtain⟨D3,G3,⟨rs,hl,hA,hF⟩,z3,z4,rfl⟩:=q;obtain⟨hi,rfl⟩:=x3 hx;have hi:i<j:=by simpa using hi
  refine f9 ?_
  try show wpS _ _ _ _ _ _
  walk_at"";have vq:=G3.at (bZ hd) ha;refine Qe (k:=k) hT vq hz hd D3 λg4 D4 G4=>⟨?_,λr hr=>?_⟩
  ·walk_at"";exact⟨D4,G3.trans G4,⟨rs,by omega,hA,G4.at (by omega) hF⟩,_,_,rfl⟩
  ·walk_at"";refine gh rfl ?_;walk_at"";have yP:=G4.at (by omega) hF
   try refine⟨Y0 yP,?_⟩
   walk_at"";refine P8 yP (by simp[j4];omega) ?_;walk_at"";refine⟨D4.K2 (by omega),(G3.trans G4).K2 (aw _),⟨rs++[r],by simp;omega,by rw[List.all_append,hA];simp[hr],?_⟩,_,_,rfl⟩;rw[get_set yP];simp[j4]
 ·obtain⟨D3,G3,⟨rs,hl,hA,hF⟩,z3,z4,rfl⟩:=q;rw[j7] at hl
  try show wpS _ _ _ _ _ _
  walk_at"";exact h rs _ _ (by simp at hl;omega) hA hF (aw _) D3 G3
theorem Zb(hT:TBR T)(oX:T 110=some wa){n:Int}(hn:0<=n/\n<=9)(D0:i5 g d)(h:∀(cs:List a9) (rs:List dR) a c (v:Int) g',(cs.length:Int)<=n->(∀c∈cs,iG c)->g'[a]?=some (.lst (cs.map a9.d))->g.length<=a->rs.length<=4->rs.all (l6 cs)=true->g'[c]?=some (.lst (j4 rs))->g.length<=c->a≠c->1<=v->v<=6->i5 g' d->Gr d g g'->Q (.tup [.ref a,.int v,.ref c]) g'):b9 T (k+5) 110 [.ref d,.int n] g Q E:=by
 refine call_of oX rfl ?_;dsimp[wa,c8,List.replicate];walk_at"";refine Xe (k:=k) hT.lf ⟨hn.1,by omega⟩ D0 λcs a v g1 hl hg ha DH v1 v2 D1 G1=>?_;refine B0 rfl ?_
 try show wpS _ _ _ _ _ _
 walk_at"";have dl:=D0.lt;refine Zd (k:=k+1) hT ha (by omega) (by omega) D1 λrs c g2 hr hR hc iT D2 G2=>?_;walk_at"";exact h cs rs a c v g2 hl hg (G2.at (by omega) ha) DH hr hR hc (aG G1.len iT) (aR (aB (k8 ha) iT)) v1 v2 D2 (G1.trans G2)
theorem OK{H:List Nat}{x:Int}:((H.map λ(i:Nat)=>(i:Int)).any λm=>m==x)=H.any λi=>decide ((i:Int)=x):=by
 rw[List.any_map]
 rfl
theorem vW{n:Nat}{H:List Nat}(hH:∀i∈H,i<n)(q:Nat->Bool):((List.range n).any λi=>decide (i∈H)&&q i)=H.any q:=by
 rw[aV,aT,aT];constructor
 ·rintro⟨i,_,h⟩;rw[aO,bN] at h;exact⟨i,h.1,h.2⟩
 ·rintro⟨i,h1,h2⟩;exact⟨i,aM.mpr (hH i h1),by rw[az h1,h2];rfl⟩
theorem L1{cs:List a9}{i:Nat}(hi:i<cs.length):fI (cs.map a9.d) (i:Int)=some (bQ cs i).d:=x4 (by rw[ag,ai hi,u5 (ai hi)];rfl)
theorem Yr(hT:pR T){hl p:Nat}{H:List Nat}{r:dR}(ha:g[a]?=some (.lst (cs.map a9.d)))(hh:g[hl]?=some (.lst (b7 H)))(hH:∀i∈H,i<cs.length)(sZ:H.length<=50)(hp:p<cs.length)(h:∀g',Ex g g'->Q (.bl (!meant cs r.w r.y p||(List.range cs.length).any λi=>decide (i∈H)&&meant cs r.w r.x i)) g'):b9 T (k+1) 107 [.ref a,.ref hl,.int (p:Nat),r.d] g Q E:=by
 refine call_of hT.ze rfl ?_;dsimp[AJ,c8,List.replicate];simp only[vW hH] at h;walk_at"";refine B0 (l:=[.str r.w.s,.int r.x,.int r.y]) rfl ?_;walk_at"";have iD:∀(w:RW) (f:Int),(f=0\/f=2)->(∀i x,meant cs w x i=decide (u7 f (bQ cs i)=x))->(∀g',Ex g g'->Q (.bl (!meant cs w r.y p||H.any λi=>meant cs w r.x i)) g')->aX (b9 T k) (.iN (.prim (.cmp .NotEq) (.cons (.prim .ix (.cons (.prim .ix (.cons (.var 0) (.cons (.var 2) .nil))) (.cons (.var 7) .nil))) (.cons (.var 6) .nil))) (.prim (.cmp .In) (.cons (.var 5) (.cons (.comp [7,0] 4 (.one 3) (.eK (.var 1)) .no (.prim .ix (.cons (.prim .ix (.cons (.var 1) (.cons (.var 3) .nil))) (.cons (.var 0) .nil)))) .nil)))) [some (.ref a),some (.ref hl),some (.int (p:Nat)),some r.d,some (.str w.s),some (.int r.x),some (.int r.y),some (.int f)] g Q E:=λw f hf hm h=>by
  walk_at"";refine n5 (a7 ha) (L1 hp) ?_;walk_at"";refine p8 (E7 hf _) ?_;walk_at"";rw[hm] at h;by_cases c1:u7 f (bQ cs p)=r.y
  ·refine fj (by rw[az c1];rfl) ?_;walk_at"";refine comp_map (a8 T _) (λZ=>∃z2 z3,Z=[some (.int f),some (.ref a),z2,z3]) (λi=>.int (u7 f (bQ cs (H.getD i 0)))) (l:=b7 H) (k:=.lst hl) (λg' e=>j8 (a7 (e.at hh))) (by simp[b7];omega) ⟨none,none,rfl⟩ (λi x Z g' hx e sh=>?_) (λg' e=>?_) (K3 (a8 T _) (a7 hh) λQ q=>w_var (d:=.ref hl) rfl q)
   ·obtain⟨z2,z3,rfl⟩:=sh;rw[b7,ag,aa] at hx;obtain⟨j,hj,rfl⟩:=hx;refine f9 ?_
    try show aX _ _ _ _ _ _
    walk_at"";refine n5 (a7 (e.at ha)) (L1 (hH j (aF hj))) ?_;walk_at"";refine p8 (E7 hf _) ?_;exact⟨by simp[List.getD,hj],e,_,_,rfl⟩
   ·refine uy (U9 (ms:=(List.range (b7 H).length).map λi=>u7 f (bQ cs (H.getD i 0))) (a7 (by rw[cb];exact b0)) ?_);have e2:(((List.range (b7 H).length).map λi=>u7 f (bQ cs (H.getD i 0))).any λm=>m==r.x)=(H.any λi=>meant cs w r.x i):=by
     rw[List.any_map,aV,aT,aT];constructor
     ·rintro⟨i,hi,h1⟩;have hi:i<H.length:=by simpa[b7] using hi
      refine⟨H[i],cc hi,?_⟩;rw[hm];simpa[List.getD,hi] using h1
     ·rintro⟨j,hj,h1⟩;obtain⟨i,hi,rfl⟩:=bG.mp hj;refine⟨i,by simpa[b7] using hi,?_⟩;rw[hm] at h1;simpa[List.getD,hi] using h1
    rw[e2];simp only[decide_eq_true c1,Bool.not_true,Bool.false_or] at h;exact h _ (e.trans (Ex.snoc _ _))
  ·refine gh (by rw[aE c1];rfl) ?_;have:=h _ (Ex.refl _);rw[aE c1] at this;exact this
 obtain⟨w,x,y⟩:=r;cases w with
 |dN =>
  refine gh (show decide (RW.dN.s="coin")=true from by decide +kernel) ?_;walk_at"";by_cases c1:((p:Nat):Int)=y
  ·refine fj (by rw[az c1];rfl) ?_;walk_at"";refine uy (U9 (ms:=H.map λ(i:Nat)=>(i:Int)) (by rw[<- Ao];exact a7 hh) ?_);rw[OK];have:=h _ (Ex.refl _);rw[show meant cs .dN y p=true from az c1] at this;exact this
  ·refine gh (by rw[aE c1];rfl) ?_;have:=h _ (Ex.refl _);rw[show meant cs .dN y p=false from aE c1] at this;exact this
 |lower =>
  refine fj (show decide (RW.lower.s="coin")=false from by decide +kernel) ?_;walk_at"";refine gh (show decide (RW.lower.s="lower")=true from by decide +kernel) ?_;refine w_lit (S0 (Bp ?_));exact iD .lower 0 (.inl rfl) (λi x=>rfl) h
 |upper =>
  refine fj (show decide (RW.upper.s="coin")=false from by decide +kernel) ?_;walk_at"";refine fj (show decide (RW.upper.s="lower")=false from by decide +kernel) ?_;refine w_lit (S0 (Bp ?_));exact iD .upper 2 (.inr rfl) (λi x=>rfl) h
end
theorem FX:∀{ns:List Int},ns≠[]->∃M∈ns,∀x∈ns,x<=M
 |[],h=>absurd rfl h
 |[x],_=>⟨x,by simp,by simp⟩
 |x::y::r,_=>by
  obtain⟨M,h1,h2⟩:=FX (ns:=y::r) (by simp);by_cases h:x<=M
  ·refine⟨M,bw _ h1,λz hz=>?_⟩;rcases aL.mp hz with rfl|hz
   ·exact h
   ·exact h2 z hz
  ·refine⟨x,by simp,λz hz=>?_⟩;rcases aL.mp hz with rfl|hz
   ·exact Int.le_refl _
   ·have:=h2 z hz;omega
theorem Ze{l m:List Int}(hl:l.Nodup)(hm:m.Nodup)(h:∀x,x∈l↔x∈m):l.length=m.length:=((List.perm_ext_iff_of_nodup hl hm).mpr h).length_eq
noncomputable abbrev iS(H:List Nat):Nat->Bool:=λi=>decide (i∈H)
def fTail(n:Nat):MS->MS
 |.seq a b=>match n with
  |0=>.seq a b
  |n+1=>fTail n b
 |x=>x
section
variable{T:Nat->Option ba}{k d:Nat}{g g':G}{Q:KD}{E:KX}{a b c hl p:Nat}{cs:List a9}{rs:List dR}{v:Int}{H:List Nat}
theorem FY(hT:pR T){N:Ends}(hN:N.rt=Q){z6 z7:Option D}(ha:g[a]?=some (.lst (cs.map a9.d)))(hz:cs.length<=9)(hc:g[c]?=some (.lst (j4 rs)))(hr:rs.length<=900)(hh:g[hl]?=some (.lst (b7 H)))(hH:∀i∈H,i<cs.length)(sZ:H.length<=50)(hp:p<cs.length)(w1:F0 cs (iS H) p=false)(w2:C9 cs (iS H) p=false)(h:∀g',Ex g g'->Q (.str (fault cs v rs (iS H) p)) g') :
  wpS (b9 T (k+1)) (fTail 3 uq.body) N [some (.ref a),some (.int v),some (.ref c),some (.ref hl),some (.int (p:Nat)),some (bQ cs p).d,z6,z7,none,none] g E:=by
 subst hN;dsimp[uq,fTail];walk_at"";refine comp_map (a8 T _) (λZ=>∃z1 z2,Z=[some (.ref a),z1,z2]) (λi=>.int (bQ cs (H.getD i 0)).lo) (l:=b7 H) (k:=.lst hl) (λg' e=>j8 (a7 (e.at hh))) (by simp[b7];omega) ⟨none,none,rfl⟩ (λi x Z g' hx e sh=>?_) (λg1 e1=>?_) (K3 (a8 T _) (a7 hh) λQ q=>w_var (d:=.ref hl) rfl q)
 ·obtain⟨z1,z2,rfl⟩:=sh;rw[b7,ag,aa] at hx;obtain⟨j,hj,rfl⟩:=hx;refine f9 ?_
  try show aX _ _ _ _ _ _
  walk_at"";refine n5 (a7 (e.at ha)) (L1 (hH j (aF hj))) ?_;walk_at"";refine p8 (E7 (.inl rfl) _) ?_;exact⟨by simp[List.getD,hj,u7],e,_,_,rfl⟩
 have e2:=e1.trans (Ex.snoc g1 (O.lst ((List.range (b7 H).length).map λi=>D.int (bQ cs (H.getD i 0)).lo)));have eh:(List.range (b7 H).length).map (λi=>D.int (bQ cs (H.getD i 0)).lo)=(H.map λi=>(bQ cs i).lo).map D.int:=by
  rw[cb];refine cN λi=>?_;rw[ag,ag];by_cases hi:i<H.length
  ·rw[bC (by simpa[b7] using hi),ai hi];simp[List.getD,hi]
  ·rw[aP (by simpa[b7] using hi),aP (by omega)]
   rfl
 rw[eh] at e2 ⊢;have h2:=b0 (g:=g1) (o:=O.lst ((H.map λi=>(bQ cs i).lo).map D.int));generalize g1++[O.lst ((H.map λi=>(bQ cs i).lo).map D.int)]=g2 at *;walk_at"";refine p8 (E7 (.inl rfl) _) ?_;walk_at"";have e3:=Ex.snoc g2 (O.lst [D.int (u7 0 (bQ cs p))]);refine qI (e3.at h2) b0 (by simp;omega) ?_;have e4:=(e2.trans e3).trans (Ex.snoc _ (O.lst ((H.map λi=>(bQ cs i).lo).map D.int++[D.int (u7 0 (bQ cs p))])));have h4:=b0 (g:=g2++[O.lst [D.int (u7 0 (bQ cs p))]]) (o:=O.lst ((H.map λi=>(bQ cs i).lo).map D.int++[D.int (u7 0 (bQ cs p))]));have LW:(H.map λi=>(bQ cs i).lo).map D.int++[D.int (u7 0 (bQ cs p))]=((H.map λi=>(bQ cs i).lo)++[(bQ cs p).lo]).map D.int:=by simp[u7]
 rw[LW] at e4 h4 ⊢;generalize yt:(H.map λi=>(bQ cs i).lo)++[(bQ cs p).lo]=fk at *;have lhr:fk.length<=51:=by rw[<- yt];simp;omega
 generalize g2++[O.lst [D.int (u7 0 (bQ cs p))]]=g3 at *;generalize g3++[O.lst (fk.map D.int)]=g4 at *;generalize g3.length=ah at *;walk_at"";refine w6 (a8 T _) (λZ=>∃z2 z3,Z=[some (.ref hl),some (.ref a),z2,z3]) (λi=>!decide (i∈H)) (λi=>.int (bQ cs i).lo) (l:=i3 0 cs.length) (λg' e=>q9) (by rw[j7];omega) ⟨none,none,rfl⟩ (λi d Z g' hx e sh=>?_) (λg5 e5=>?_) (wY (a8 T _) (by omega:cs.length<=1000) λQ q=>?_)
 ·obtain⟨z2,z3,rfl⟩:=sh;obtain⟨hi,rfl⟩:=x3 hx;rw[eA];refine f9 ?_
  try show cW _ _ _ _ _ _
  walk_at"";refine pN (Ab ((e4.trans e).at hh) ?_);walk_at"";refine⟨rfl,e,?_⟩;by_cases sJ:i∈H
  ·rw[az sJ];exact fj rfl ⟨_,_,rfl⟩
  ·rw[aE sJ];refine gh rfl ?_;walk_at"";refine n5 (a7 ((e4.trans e).at ha)) (L1 hi) ?_;walk_at"";refine p8 (E7 (.inl rfl) _) ?_;exact⟨rfl,e,_,_,rfl⟩
 rotate_left
 ·walk_at"";refine J1 (a7 (e4.at ha)) ?_;rw[ao];exact q
 have e6:=e5.trans (Ex.snoc g5 (O.lst (((List.range (i3 0 cs.length).length).filter λi=>!decide (i∈H)).map λi=>D.int (bQ cs i).lo)));have h6:=b0 (g:=g5) (o:=O.lst (((List.range (i3 0 cs.length).length).filter λi=>!decide (i∈H)).map λi=>D.int (bQ cs i).lo));have el:(((List.range (i3 0 cs.length).length).filter λi=>!decide (i∈H)).map λi=>D.int (bQ cs i).lo)=(((List.range cs.length).filter λi=>!decide (i∈H)).map λi=>(bQ cs i).lo).map D.int:=by
  rw[j7,cb]
  rfl
 rw[el] at e6 h6 ⊢;generalize dj:(((List.range cs.length).filter λi=>!decide (i∈H)).map λi=>(bQ cs i).lo)=lt' at *;generalize g5++[O.lst (lt'.map D.int)]=g6 at *;generalize g5.length=al at *;walk_at"";refine w6 (a8 T _) (λZ=>∃z1 z2,Z=[some (.ref al),z1,z2]) (λi=>decide (fk.getD i 0∈lt')) (λi=>.int (fk.getD i 0)) (l:=fk.map D.int) (k:=.lst ah) (λg' e=>j8 (a7 ((e6.trans e).at h4))) (by simp;omega) ⟨none,none,rfl⟩ (λi d Z g' hx e sh=>?_) (λg7 e7=>?_) (K3 (a8 T _) (a7 (e6.at h4)) λQ q=>w_var (d:=.ref ah) rfl q)
 ·obtain⟨z1,z2,rfl⟩:=sh;rw[ag,aa] at hx;obtain⟨x,hx,rfl⟩:=hx;have ex:fk.getD i 0=x:=by simp[List.getD,hx]
  refine f9 ?_
  try show cW _ _ _ _ _ _
  walk_at"";refine uy (U9 (a7 (e.at h6)) ?_);walk_at"";have ed:(lt'.any λm=>m==x)=decide (x∈lt'):=by
   rw[aV,aT,bN];exact⟨λ⟨y,hy,e⟩=>(fb.mp e)▸hy,λhy=>⟨x,hy,by simp⟩⟩
  rw[ed,ex];refine⟨rfl,e,?_⟩;refine if2 (λ_=>?_) (λ_=>?_)
  ·walk_at"";exact⟨rfl,e,_,_,rfl⟩
  ·exact⟨_,_,rfl⟩
 have es:((List.range (fk.map D.int).length).filter λi=>decide (fk.getD i 0∈lt')).map (λi=>D.int (fk.getD i 0))=(((List.range fk.length).filter λi=>decide (fk.getD i 0∈lt')).map λi=>fk.getD i 0).map D.int:=by
  rw[cb,ao]
  rfl
 have e8:=e7.trans (Ex.snoc g7 (O.lst (((List.range (fk.map D.int).length).filter λi=>decide (fk.getD i 0∈lt')).map λi=>D.int (fk.getD i 0))));refine MI (ns:=((List.range fk.length).filter λi=>decide (fk.getD i 0∈lt')).map λi=>fk.getD i 0) (a7 (by rw[es];exact b0)) (by rw[ao];exact dC F6 (by omega)) ?_;generalize g7++[O.lst (((List.range (fk.map D.int).length).filter λi=>decide (fk.getD i 0∈lt')).map λi=>D.int (fk.getD i 0))]=g8 at *;have en:(ST.i9 [] (((List.range fk.length).filter λi=>decide (fk.getD i 0∈lt')).map λi=>fk.getD i 0)).length=nK cs (iS H) p:=by
  unfold nK;refine Ze (ST.AL _ _ (by simp)) ((HZ _).filter _) λx=>?_;rw[ST.AW,bh,AK];unfold Z1;rw[aO,aT,aT];simp only[List.not_mem_nil,false_or,List.mem_map,List.mem_filter,List.mem_range,Bool.and_eq_true,decide_eq_true_eq,Bool.or_eq_true,Bool.not_eq_true',decide_eq_false_iff_not];constructor
  ·rintro⟨i,⟨hi,hx⟩,rfl⟩;have hm:fk.getD i 0∈fk:=by simp[List.getD,hi]
   generalize fk.getD i 0=x at *;rw[<- dj] at hx;simp only[List.mem_map,List.mem_filter,List.mem_range,Bool.not_eq_true',decide_eq_false_iff_not] at hx;rw[<- yt] at hm;obtain⟨j,⟨lZ,qg⟩,oB⟩:=hx;have vc:∃q,q<cs.length/\(q∈H\/q=p)/\(bQ cs q).lo=x:=by
    rcases bc.mp hm with hm|hm
    ·obtain⟨q,hq,e⟩:=aU.mp hm;exact⟨q,hH q hq,.inl hq,e⟩
    ·exact⟨p,hp,.inr rfl,(bo.mp hm).symm⟩
   obtain⟨q,q1,q2,q3⟩:=vc;refine⟨⟨bQ cs j,?_,oB⟩,⟨q,q1,q2,q3⟩,j,lZ,qg,oB⟩;rw[u5 (ai lZ)];exact cc lZ
  ·rintro⟨_,⟨q,q1,q2,q3⟩,j,lZ,qg,oB⟩;have hm:x∈fk:=by
    rw[<- yt];rcases q2 with q2|q2
    ·exact cZ _ (aU.mpr ⟨q,q2,q3⟩)
    ·subst q2;exact br _ (by rw[q3];simp)
   obtain⟨i,hi,e⟩:=bG.mp hm;refine⟨i,⟨hi,?_⟩,by simp[List.getD,hi,e]⟩;rw[show fk.getD i 0=x by simp[List.getD,hi,e],<- dj];simp only[List.mem_map,List.mem_filter,List.mem_range,Bool.not_eq_true',decide_eq_false_iff_not];exact⟨j,⟨lZ,qg⟩,oB⟩
 rw[en];walk_at"";have qt:=(e4.trans e6).trans e8;refine if2 (λc3=>?_) (λc3=>?_)
 ·walk_at"";have:fault cs v rs (iS H) p="anvil":=by unfold fault;rw[aC (by rw[w1];decide),aC (by rw[w2];decide),aK c3]
  rw[this] at h;exact h _ qt
 walk_at"";refine comp_map (a8 T _) (λZ=>∃z3 z4,Z=[some (.ref hl),some (.ref a),some (.int (p:Nat)),z3,z4]) (λi=>.bl (!meant cs (rs.getD i ⟨.dN,0,0⟩).w (rs.getD i ⟨.dN,0,0⟩).y p||(List.range cs.length).any λj=>decide (j∈H)&&meant cs (rs.getD i ⟨.dN,0,0⟩).w (rs.getD i ⟨.dN,0,0⟩).x j)) (l:=j4 rs) (k:=.lst c) (λg' e=>j8 (a7 ((qt.trans e).at hc))) (by simp[j4];omega) ⟨none,none,rfl⟩ (λi x Z g' hx e sh=>?_) (λg9 e9=>?_) (K3 (a8 T _) (a7 (qt.at hc)) λQ q=>w_var (d:=.ref c) rfl q)
 ·obtain⟨z3,z4,rfl⟩:=sh;rw[j4,ag,aa] at hx;obtain⟨r,ng,rfl⟩:=hx;refine f9 ?_
  try show aX _ _ _ _ _ _
  walk_at"";refine Yr (k:=k) hT ((qt.trans e).at ha) ((qt.trans e).at hh) hH sZ hp λvx ko=>?_;exact⟨by simp[List.getD,ng],e.trans ko,_,_,rfl⟩
 have eb:((List.range (j4 rs).length).map λi=>D.bl (!meant cs (rs.getD i ⟨.dN,0,0⟩).w (rs.getD i ⟨.dN,0,0⟩).y p||(List.range cs.length).any λj=>decide (j∈H)&&meant cs (rs.getD i ⟨.dN,0,0⟩).w (rs.getD i ⟨.dN,0,0⟩).x j))=(rs.map λr=>!meant cs r.w r.y p||(List.range cs.length).any λj=>decide (j∈H)&&meant cs r.w r.x j).map D.bl:=by
  rw[cb];refine cN λi=>?_;rw[ag,ag];by_cases hi:i<rs.length
  ·rw[bC (by simpa[j4] using hi),ai hi];simp[List.getD,hi]
  ·rw[aP (by simpa[j4] using hi),aP (by omega)]
   rfl
 rw[eb];refine vH (a7 b0) (V3 _) ?_;have eN:(rs.map λr=>!meant cs r.w r.y p||(List.range cs.length).any λj=>decide (j∈H)&&meant cs r.w r.x j).all id=L7 cs rs (iS H) p:=by
  rw[List.all_map]
  rfl
 rw[eN];walk_at"";have ko:=qt.trans (e9.trans (Ex.snoc g9 (O.lst ((rs.map λr=>!meant cs r.w r.y p||(List.range cs.length).any λj=>decide (j∈H)&&meant cs r.w r.x j).map D.bl))));cases c4:L7 cs rs (iS H) p with
 |true =>
  walk_at"";have:fault cs v rs (iS H) p="":=by unfold fault;rw[aC (by rw[w1];decide),aC (by rw[w2];decide),aC c3,aK c4]
  rw[this] at h;exact h _ ko
 |false =>
  walk_at"";have:fault cs v rs (iS H) p="rule":=by unfold fault;rw[aC (by rw[w1];decide),aC (by rw[w2];decide),aC c3,aC (by rw[c4];decide)]
  rw[this] at h;exact h _ ko
end
section
variable{T:Nat->Option ba}{k d:Nat}{g g':G}{Q:KD}{E:KX}{a b c hl p:Nat}{cs:List a9}{rs:List dR}{v:Int}{H:List Nat}
theorem Bb(c:a9):fI [D.int c.lo,D.tup (c.lm.map .int),D.int c.up,D.tup (c.um.map .int),D.int c.yr] 4=some (.int c.yr):=rfl
theorem QK{i:Nat}(hi:i∈H)(hH:∀i∈H,i<cs.length)(h:mw (bQ cs i) (bQ cs p)=true):fault cs v rs (iS H) p="wear":=by
 unfold fault;rw[aK];unfold F0;rw[vW hH,aT];exact⟨i,hi,h⟩
theorem a00(hT:pR T)(hB:∀c∈cs,CB c)(ha:g[a]?=some (.lst (cs.map a9.d)))(hz:cs.length<=9)(hc:g[c]?=some (.lst (j4 rs)))(hr:rs.length<=900)(hh:g[hl]?=some (.lst (b7 H)))(hH:∀i∈H,i<cs.length)(sZ:H.length<=50)(hp:p<cs.length)(h:∀g',Ex g g'->Q (.str (fault cs v rs (iS H) p)) g'):b9 T (k+2) 108 [.ref a,.int v,.ref c,.ref hl,.int (p:Nat)] g Q E:=by
 refine call_of hT.zd rfl ?_;have KW:∀i,i<cs.length->CB (bQ cs i):=λi hi=>by rw[u5 (ai hi)];exact hB _ (cc hi)
 dsimp[uq,c8,List.replicate];walk_at"";refine n5 (a7 ha) (L1 hp) ?_;walk_at"";refine u9 (a8 T _) (jm (a8 T _) ?_);walk_at"";refine⟨hl,_,rfl,a7 hh,b7 H,λt Z g'=>Ex g g'/\(∀i∈H.take t,mw (bQ cs i) (bQ cs p)=false)/\∃z6 z7,Z=[some (.ref a),some (.int v),some (.ref c),some (.ref hl),some (.int (p:Nat)),some (bQ cs p).d,z6,z7,none,none],λi Z g' q=>j8 (a7 (q.1.at hh)),⟨Ex.refl _,by simp,none,none,rfl⟩,λt x Z g' hx q=>?_,λZ g' q=>?_⟩
 ·obtain⟨e1,q,z6,z7,rfl⟩:=q;rw[b7,ag,aa] at hx;obtain⟨i,hi,rfl⟩:=hx;have sJ:=aF hi;have iC:=hH i sJ;refine f9 ?_
  try show wpS _ _ _ _ _ _
  walk_at"";refine u9 (a8 T _) (jm (a8 T _) ?_);walk_at"";have e2:=e1.trans (Ex.snoc g' (O.lst [D.int 0,D.int 2]));have h2:=b0 (g:=g') (o:=O.lst [D.int 0,D.int 2]);generalize g'++[O.lst [D.int 0,D.int 2]]=g2 at *;refine⟨_,_,rfl,a7 h2,[D.int 0,D.int 2],λj Z g3=>Ex g2 g3/\(1<=j->(decide ((bQ cs i).lo=(bQ cs p).lo)&&!iu (bQ cs i).lm (bQ cs p).lm)=false)/\(2<=j->(decide ((bQ cs i).up=(bQ cs p).up)&&!iu (bQ cs i).um (bQ cs p).um)=false)/\∃z7,Z=[some (.ref a),some (.int v),some (.ref c),some (.ref hl),some (.int (p:Nat)),some (bQ cs p).d,some (.int (i:Nat)),z7,none,none],λj Z g3 q=>j8 (a7 (q.1.at h2)),⟨Ex.refl _,λz=>absurd z (by omega),λz=>absurd z (by omega),z7,rfl⟩,λj x Z g3 hx q=>?_,λZ g3 q=>?_⟩
  ·obtain⟨e3,q1,q2,z7,rfl⟩:=q;have hf:∃f:Int,(f=0\/f=2)/\x=.int f/\(f=0↔j=0)/\j<2:=by
    match j,hx with
    |0,hx=>cases hx;exact⟨0,.inl rfl,rfl,by simp,by omega⟩
    |1,hx=>cases hx;exact⟨2,.inr rfl,rfl,by simp,by omega⟩
    |j+2,hx=>simp at hx
   obtain⟨f,hf,rfl,Dx,hj⟩:=hf;have qu:=e2.trans e3;refine f9 ?_
   try show wpS _ _ _ _ _ _
   walk_at"";refine n5 (a7 (qu.at ha)) (L1 iC) ?_;walk_at"";refine p8 (E7 hf _) ?_;walk_at"";refine p8 (E7 hf _) ?_;walk_at"";have fin:∀g4,Ex g3 g4->(decide (u7 f (bQ cs i)=u7 f (bQ cs p))&&!iu (pJ f (bQ cs i)) (pJ f (bQ cs p)))=false->(Ex g2 g4/\(1<=j+1->(decide ((bQ cs i).lo=(bQ cs p).lo)&&!iu (bQ cs i).lm (bQ cs p).lm)=false)/\(2<=j+1->(decide ((bQ cs i).up=(bQ cs p).up)&&!iu (bQ cs i).um (bQ cs p).um)=false)/\∃z7,([some (.ref a),some (.int v),some (.ref c),some (.ref hl),some (.int (p:Nat)),some (bQ cs p).d,some (.int (i:Nat)),some (.int f),none,none]:S)=[some (.ref a),some (.int v),some (.ref c),some (.ref hl),some (.int (p:Nat)),some (bQ cs p).d,some (.int (i:Nat)),z7,none,none]):=λg4 e4 hw=>by
    refine⟨e3.trans e4,λ_=>?_,λz=>?_,_,rfl⟩
    ·by_cases h0:j=0
     ·rw[Dx.mpr h0] at hw;exact hw
     ·exact q1 (by omega)
    ·have:¬f=0:=λw=>by have:=Dx.mp w;omega
     have f2:f=2:=hf.resolve_left this;rw[f2] at hw;exact hw
   refine if2 (λh1=>?_) (λh1=>?_)
   ·walk_at"";refine n5 (a7 (qu.at ha)) (L1 iC) ?_;walk_at"";refine p8 (Iy hf _) ?_;walk_at"";refine p8 (Iy hf _) ?_;walk_at"";refine Xg (k:=k) hT.yU ((KW i iC).JF f) λg4 e4=>?_;walk_at"";cases hw:iu (pJ f (bQ cs i)) (pJ f (bQ cs p)) with
    |false =>
     walk_at"";have:mw (bQ cs i) (bQ cs p)=true:=by
      unfold mw;rcases hf with rfl|rfl
      ·rw[az (show(bQ cs i).lo=(bQ cs p).lo from h1),show iu (bQ cs i).lm (bQ cs p).lm=false from hw];rfl
      ·rw[az (show(bQ cs i).up=(bQ cs p).up from h1),show iu (bQ cs i).um (bQ cs p).um=false from hw];simp
     rw[QK sJ hH this] at h;exact h _ (qu.trans e4)
    |true =>
     walk_at"";exact fin g4 e4 (by rw[hw];simp)
   ·walk_at"";exact fin g3 (Ex.refl _) (by rw[aE h1];rfl)
  ·obtain⟨e3,q1,q2,z7,rfl⟩:=q
   try show wpS _ _ _ _ _ _
   try walk_at""
   refine⟨e2.trans e3,λi' gP=>?_,_,_,rfl⟩;rw[bE,hi] at gP;rcases bc.mp gP with gP|gP
   ·exact q i' gP
   ·have:i'=i:=by simpa using gP
    subst this;unfold mw;rw[q1 (by decide),q2 (by decide)]
    rfl
 ·obtain⟨e1,q,z6,z7,rfl⟩:=q;rw[b7,ao,bK] at q;have w1:F0 cs (iS H) p=false:=by
   unfold F0;rw[vW hH,List.any_eq_false];exact λi hi=>by rw[q i hi];decide
  try show wpS _ _ _ _ _ _
  refine uj ?_;walk_at"";refine p8 (Bb _) ?_;walk_at"";have rT:C9 cs (iS H) p=(decide (0<(bQ cs p).yr)&&H.any λi=>decide ((bQ cs p).yr<(bQ cs i).yr)):=by
   unfold C9;rw[vW hH,aV,aT,aO,aT];constructor
   ·rintro⟨i,h1,h2⟩;unfold jd at h2;rw[aO] at h2;exact⟨h2.1,i,h1,h2.2⟩
   ·rintro⟨h1,i,h2,h3⟩;exact⟨i,h2,by unfold jd;rw[h1,h3];rfl⟩
  refine if2 (λc1=>?_) (λc1=>?_)
  ·walk_at"";have e2:=e1.trans (Ex.snoc g' (O.lst [D.int 0]));have h2:=b0 (g:=g') (o:=O.lst [D.int 0]);generalize g'++[O.lst [D.int 0]]=g2 at *;generalize g'.length=z0 at *;refine comp_map (a8 T _) (λZ=>∃z1 z2,Z=[some (.ref a),z1,z2]) (λi=>.int (bQ cs (H.getD i 0)).yr) (l:=b7 H) (k:=.lst hl) (λg' e=>j8 (a7 ((e2.trans e).at hh))) (by simp[b7];omega) ⟨none,none,rfl⟩ (λi x Z g' hx e sh=>?_) (λg3 e3=>?_) (K3 (a8 T _) (a7 (e2.at hh)) λQ q=>w_var (d:=.ref hl) rfl q)
   ·obtain⟨z1,z2,rfl⟩:=sh;rw[b7,ag,aa] at hx;obtain⟨j,hj,rfl⟩:=hx;refine f9 ?_
    try show aX _ _ _ _ _ _
    walk_at"";refine n5 (a7 ((e2.trans e).at ha)) (L1 (hH j (aF hj))) ?_;walk_at"";refine p8 (Bb _) ?_;exact⟨by simp[List.getD,hj],e,_,_,rfl⟩
   have ey:(List.range (b7 H).length).map (λi=>D.int (bQ cs (H.getD i 0)).yr)=(H.map λi=>(bQ cs i).yr).map D.int:=by
    rw[cb];refine cN λi=>?_;rw[ag,ag];by_cases hi:i<H.length
    ·rw[bC (by simpa[b7] using hi),ai hi];simp[List.getD,hi]
    ·rw[aP (by simpa[b7] using hi),aP (by omega)]
     rfl
   rw[ey];have e4:=e3.trans (Ex.snoc g3 (O.lst ((H.map λi=>(bQ cs i).yr).map D.int)));refine qI (e4.at h2) b0 (by simp;omega) ?_;have e5:=e4.trans (Ex.snoc _ (O.lst ([D.int 0]++(H.map λi=>(bQ cs i).yr).map D.int)));obtain⟨M,m1,m2⟩:=FX (ns:=0::H.map λi=>(bQ cs i).yr) (by simp);refine TU (ns:=0::H.map λi=>(bQ cs i).yr) (a7 b0) m1 m2 ?_;walk_at"";refine p8 (Bb _) ?_;walk_at"";have em:decide ((bQ cs p).yr<M)=C9 cs (iS H) p:=by
    rw[rT,az c1,Bool.true_and,aV,bN,aT];constructor
    ·intro hM;rcases aL.mp m1 with rfl|hm
     ·omega
     ·obtain⟨i,hi,rfl⟩:=aU.mp hm;exact⟨i,hi,az hM⟩
    ·rintro⟨i,hi,h1⟩;have:=m2 _ (bw _ (aU.mpr ⟨i,hi,rfl⟩));have:=aZ h1;omega
   rw[em];cases w2:C9 cs (iS H) p with
   |true =>
    walk_at"";have:fault cs v rs (iS H) p="year":=by unfold fault;rw[aC (by rw[w1];decide),aK w2]
    rw[this] at h;exact h _ (e2.trans e5)
   |false =>
    refine fj rfl ?_;refine F3 ?_;have pq:=e2.trans e5;exact FY (k:=k) hT rfl (pq.at ha) hz (pq.at hc) hr (pq.at hh) hH sZ hp w1 w2 λg6 e6=>h g6 (pq.trans e6)
  ·refine fj rfl ?_;refine F3 ?_;have w2:C9 cs (iS H) p=false:=by rw[rT,aE c1];rfl
   exact FY (k:=k) hT rfl (e1.at ha) hz (e1.at hc) hr (e1.at hh) hH sZ hp w1 w2 λg6 e6=>h g6 (e1.trans e6)
end
def wO:ba:=⟨3,3,(.seq (.ret (.dw (bX (.cmp .NotEq) (.call 91 (dz bf bp)) bf) (bX (.cmp .Is) (.call 101 (fK aN bf bp)) (.lit .bx)))) .pass)⟩
def AU:ba:=⟨2,2,(.seq (.ret (.comp [0,1] 4 (.one 3) (.dX (dg (.fld "size") aN)) (.fg (.call 115 (fK aN bf bJ))) bJ)) .pass)⟩
def A8(cs:List a9)(v:Int)(rs:List dR)(s p:Nat):Bool:=!s.testBit p&&decide (fault cs v rs s.testBit p="")
def k9(cs:List a9)(v:Int)(rs:List dR)(s:Nat):List Nat:=(List.range cs.length).filter (A8 cs v rs s)
theorem Rb(x:Str):O4 (vy x)=decide (x=""):=by
 unfold vy;by_cases h:x=""
 ·rw[aK h,az h];rfl
 ·rw[aC h,aE h];rfl
theorem Ui{s p:Nat}:decide (((s |||2 ^ p:Nat):Int)=(s:Nat))=s.testBit p:=by
 rw[aV,bN];constructor
 ·intro h;have h:s |||2 ^ p=s:=by omega
  have:=R9 s p p;rw[h] at this;rw[this];simp
 ·intro h;have:s |||2 ^ p=s:=Nat.eq_of_testBit_eq λi=>by
   rw[R9];by_cases hi:i=p
   ·subst hi;rw[h];rfl
   ·rw[aE hi,Bool.or_false]
  rw[this]
structure TF(T:Nat->Option ba):Prop where
 oW:T 115=some wO
 zb:T 116=some AU
section
variable{T:Nat->Option ba}{k d:Nat}{g g':G}{Q:KD}{E:KX}{a b c hl p:Nat}{cs:List a9}{rs:List dR}{v:Int}{H:List Nat}
theorem WZ(hT:gE T)(oW:T 115=some wO)(B:Bd g b cs v rs)(hz:cs.length<=9)(hr:rs.length<=900){s p:Nat}(hs:s<2 ^ cs.length)(hp:p<cs.length)(h:∀g',Ex g g'->Q (.bl (A8 cs v rs s p)) g'):b9 T (k+4) 115 [.ref b,.int (s:Nat),.int (p:Nat)] g Q E:=by
 refine call_of oW rfl ?_;dsimp[wO,c8,List.replicate];walk_at"";refine A6 (k:=k+2) hT.mj (by omega) ?_;walk_at"";rw[Ui];cases hb:s.testBit p with
 |true =>
  refine fj rfl ?_;have:A8 cs v rs s p=false:=by unfold A8;rw[hb];rfl
  rw[this] at h;exact h _ (Ex.refl _)
 |false =>
  refine gh rfl ?_;walk_at"";refine Vy (k:=k) hT B hz hr hs hp λg1 e1=>?_;walk_at"";have:A8 cs v rs s p=O4 (vy (fault cs v rs s.testBit p)):=by unfold A8;rw[hb,Rb];rfl
  rw[this] at h;exact h _ e1
theorem T7(hT:gE T)(hF:TF T)(B:Bd g b cs v rs)(hz:cs.length<=9)(hr:rs.length<=900){s:Nat}(hs:s<2 ^ cs.length)(h:∀g' l,Ex g g'->g.length<=l->g'[l]?=some (.lst (b7 (k9 cs v rs s)))->Q (.ref l) g'):b9 T (k+5) 116 [.ref b,.int (s:Nat)] g Q E:=by
 refine call_of hF.zb rfl ?_;dsimp[AU,c8,List.replicate];obtain⟨w,l,dd,nb,h1,h2,h3,h4,h5⟩:=B.ex;walk_at"";refine w6 (a8 T _) (λZ=>∃z2 z3,Z=[some (.ref b),some (.int (s:Nat)),z2,z3]) (A8 cs v rs s) (λi=>.int (i:Nat)) (l:=i3 0 cs.length) (λg' e=>q9) (by rw[j7];omega) ⟨none,none,rfl⟩ (λi d Z g' hx e sh=>?_) (λg' e=>?_) (wY (a8 T _) (by omega:cs.length<=1000) λQ q=>?_)
 ·obtain⟨z2,z3,rfl⟩:=sh;obtain⟨hi,rfl⟩:=x3 hx;rw[eA];refine f9 ?_
  try show cW _ _ _ _ _ _
  walk_at"";refine WZ (k:=k) hT hF.oW (B.at e) hz hr hs hi λg2 e2=>?_;walk_at"";refine⟨rfl,e.trans e2,?_⟩;cases A8 cs v rs s i with
  |true =>
   refine gh rfl ?_;walk_at"";exact⟨rfl,e.trans e2,_,_,rfl⟩
  |false=>exact fj rfl ⟨_,_,rfl⟩
 ·rw[j7];exact h _ _ (e.trans (Ex.snoc _ _)) e.len b0
 ·walk_at"";exact T8 h1 rfl q
end
def FG(n:Nat)(F:Nat->List Nat):Prop:=∀s p,p∈F s->p<n/\s.testBit p=false
def P6(n:Nat)(F:Nat->List Nat):Nat->Nat->List (List Nat)
 |0,s=>if s=2 ^ n-1 then[[]] else[]
 |f+1,s=>if s=2 ^ n-1 then[[]] else(F s).flatMap λp=>(P6 n F f (s |||2 ^ p)).map (p::·)
def i8(n:Nat)(F:Nat->List Nat)(s:Nat):List (List Nat):=P6 n F (2 ^ n) s
theorem ug{s p:Nat}(h:s.testBit p=false):s<s |||2 ^ p:=by
 have h1:s<=s |||2 ^ p:=Nat.left_le_or
 have h2:s |||2 ^ p≠s:=λe=>by
  have:=R9 s p p;rw[e,h] at this;simp at this
 omega
theorem C4{α β:Type}{l:List α}{f g:α->List β}(h:∀x∈l,f x=g x):l.flatMap f=l.flatMap g:=by
 induction l with
 |nil=>rfl
 |cons a r ih=>rw[cu,cu,h a (by simp),ih λx hx=>h x (by simp[hx])]
theorem Gd{n:Nat}{F:Nat->List Nat}(hF:FG n F):∀(f s:Nat),s<2 ^ n->2 ^ n-1-s<=f->P6 n F f s=P6 n F (f+1) s
 |0,s,hs,hf=>by
  have e:s=2 ^ n-1:=by omega
  simp only[P6];rw[aK e,aK e]
 |f+1,s,hs,hf=>by
  rw[P6,P6];by_cases e:s=2 ^ n-1
  ·rw[aK e,aK e]
  ·rw[aC e,aC e];refine C4 λp hp=>?_;have:=hF s p hp;rw[Gd hF f (s |||2 ^ p) (Q6 hs this.1) (by have:=ug this.2;omega)]
theorem O7{n:Nat}{F:Nat->List Nat}{s:Nat}(h:s=2 ^ n-1):i8 n F s=[[]]:=by
 unfold i8;obtain⟨m,hm⟩:∃m,2 ^ n=m+1:=⟨2 ^ n-1,by have:=Nat.one_le_two_pow (n:=n);omega⟩
 rw[hm,P6,aK h]
theorem X7{n:Nat}{F:Nat->List Nat}(hF:FG n F){s:Nat}(hs:s<2 ^ n)(h:s≠2 ^ n-1):i8 n F s=(F s).flatMap λp=>(i8 n F (s |||2 ^ p)).map (p::·):=by
 unfold i8;obtain⟨m,hm⟩:∃m,2 ^ n=m+1:=⟨2 ^ n-1,by have:=Nat.one_le_two_pow (n:=n);omega⟩
 conv=>lhs;rw[hm,P6,aC h]
 refine C4 λp hp=>?_;have:=hF s p hp;rw[hm,<- Gd hF m (s |||2 ^ p) (Q6 hs this.1) (by omega)]
theorem QH{n:Nat}{F:Nat->List Nat}(hF:FG n F){s:Nat}(hs:s<2 ^ n)(h:s≠2 ^ n-1):(i8 n F s).length=((F s).map λp=>(i8 n F (s |||2 ^ p)).length).sum:=by
 rw[X7 hF hs h,List.length_flatMap];simp[Function.comp_def]
inductive iF(F:Nat->List Nat):Nat->Prop
 |zero:iF F 0
 |step {s p:Nat} (h:iF F s) (hp:p∈F s):iF F (s |||2 ^ p)
theorem iF.lt{n:Nat}{F:Nat->List Nat}(hF:FG n F){s:Nat}(h:iF F s):s<2 ^ n:=by
 induction h with
 |zero=>exact Nat.two_pow_pos _
 |step h hp ih=>exact Q6 ih (hF _ _ hp).1
theorem C3(cs:List a9)(v:Int)(rs:List dR):FG cs.length (k9 cs v rs):=λs p hp=>by
 obtain⟨h1,h2⟩:=bh.mp hp;unfold A8 at h2;rw[aO,Bool.not_eq_true'] at h2;exact⟨aM.mp h1,h2.1⟩
theorem WX{α β:Type}{f:α->List β}{l:List α}{j:Nat}{x:α}(hx:l[j]?=some x)(m:Nat):(l.flatMap f)[((l.take j).flatMap f).length+m]?=((l.drop j).flatMap f)[m]?/\(l.drop j).flatMap f=f x++(l.drop (j+1)).flatMap f:=by
 have e:l.flatMap f=(l.take j).flatMap f++(l.drop j).flatMap f:=by rw[<- List.flatMap_append,List.take_append_drop]
 have hj:j<l.length:=(ak.mp hx).1;have ed:l.drop j=x::l.drop (j+1):=by
  rw[eE hj]
  congr 1
  exact(ak.mp hx).2
 constructor
 ·rw[e,cA (by omega)]
  congr 1
  omega
 ·rw[ed,cu]
noncomputable abbrev kN(j:Nat):Key:=.inl (j:Int)
theorem YZ{kvs:List (Key×D)}{c:Key}{x:D}:t8 (putD kvs c x) c=some x:=by
 unfold t8 putD;by_cases h:(kvs.any λkv=>decide (kv.1=c))=true
 ·rw[aK h]
  induction kvs with
  |nil=>cases h
  |cons kv r ih =>
   rw[bz,eW];by_cases hk:kv.1=c
   ·rw[aK hk];simp[hk]
   ·rw[aC hk];simp only[hk,decide_false];refine ih ?_;rw[List.any_cons,cO] at h;exact h.resolve_left (by simp[hk])
 ·rw[aC h,List.find?_append];have:kvs.find? (λkv=>decide (kv.1=c))=none:=by
   rw[List.find?_eq_none];exact λkv hk hc=>h (aT.mpr ⟨kv,hk,hc⟩)
  rw[this];simp
theorem Ww{kvs:List (Key×D)}{c c':Key}{x:D}(hn:c≠c'):t8 (putD kvs c x) c'=t8 kvs c':=by
 unfold t8 putD;by_cases h:(kvs.any λkv=>decide (kv.1=c))=true
 ·rw[aK h];clear h
  induction kvs with
  |nil=>rfl
  |cons kv r ih =>
   rw[bz,eW,eW];by_cases hk:kv.1=c
   ·rw[aK hk];have:kv.1≠c':=λz=>hn (hk.symm.trans z);simp only[this,decide_false];exact ih
   ·rw[aC hk];by_cases lH:kv.1=c'
    ·simp only[lH,decide_true]
    ·simp only[lH,decide_false];exact ih
 ·rw[aC h,List.find?_append];have:[(c,x)].find? (λkv=>decide (kv.1=c'))=none:=by simp[hn]
  rw[this];simp
theorem Y'{kvs:List (Key×D)}{c:Key}{x:D}:(putD kvs c x).length<=kvs.length+1:=by
 unfold putD;split<;>simp
theorem TK{i j:Nat}(h:i≠j):kN i≠kN j:=λz=>h (by have:(i:Int)=j:=Sum.inl.inj z;omega)
def C0:ba:=⟨1,5,(.seq (.set 1 (.prim (.iX 0) .nil)) (.seq (.set 2 (.prim .lst .nil)) (.seq (.cU (.one 3) (.dX (bX (.bin .Add) (dg (.fld "full") aN) (bj 1))) (.seq (.ifs (du .In bJ bf) (.seq (.expr (.dW .append bp (eL bJ))) (.seq (.cU (.one 4) (.eK (.call 116 (dz aN bJ))) (.seq (.expr (.dW .iY bf (eL (.call 91 (dz bJ cT))))) .pass)) .pass)) .pass) .pass)) (.seq (.ret bp) .pass))))⟩
def Ag:ba:=⟨1,3,(.seq (.set 1 (.prim .mG .nil)) (.seq (.cU (.one 2) (.lG (.call 117 (eL aN))) (.seq (.ifs (du .Eq bp (dg (.fld "full") aN)) (.seq (.eI bf bp (bj 1)) .pass) (.seq (.eI bf bp (dg .sum (.comp [2,1] 4 (.one 3) (.eK (.call 116 (dz aN bp))) .no (cK bf (.call 91 (dz aN bJ)))))) .pass)) .pass)) (.seq (.ret bf) .pass)))⟩
def wC:ba:=⟨4,7,(.seq (.set 4 (.call 116 (dz aN bp))) (.seq (.set 5 bJ) (.seq (.set 6 (bj 0)) (.seq (.iW (du .GtE dq (cK bf (.call 91 (dz bp (cK cT eU))))) (.seq (.jk 5 .kH (cK bf (.call 91 (dz bp (cK cT eU))))) (.seq (.jk 6 .iadd (bj 1)) .pass))) (.seq (.ret (bX .tup (cK cT eU) dq)) .pass)))))⟩
def M7:ba:=⟨3,7,(.seq (.set 3 (.prim .lst .nil)) (.seq (.set 4 (bj 0)) (.seq (.set 5 bp) (.seq (.iW (du .NotEq cT (dg (.fld "full") aN)) (.seq (.jG (.many [6,5]) (.call 122 (lP aN bf cT dq))) (.seq (.expr (.dW .append bJ (eL eU))) (.seq (.set 4 (.call 91 (dz cT eU))) .pass)))) (.seq (.ret bJ) .pass)))))⟩
def O1:ba:=⟨1,2,(.seq (.set 1 (.call 121 (eL aN))) (.seq (.ifs (du .Eq (cK bf (bj 0)) (bj 0)) (.seq (.ret (.lit .bx)) .pass) .pass) (.seq (.ret (.call 123 (fK aN bf (bj 0)))) .pass)))⟩
theorem Q9:∀{l m:List Nat},l.Nodup->(∀x∈l,x∈m)->l.length<=m.length
 |[],m,_,_=>cJ _
 |x::r,m,nd,h=>by
  rw[dJ] at nd;have:=Q9 (l:=r) (m:=m.erase x) nd.2 λy hy=>(List.mem_erase_of_ne λz=>nd.1 (by rw[<- z];exact hy)).mpr (h y (by simp[hy]));have hx:=h x (by simp);rw[List.length_erase_of_mem hx] at this;have:=List.length_pos_of_mem hx;simp;omega
section
variable{P:fm}{Z:S}{g:G}{Q:KD}{E:KX}{t:MT}{it elt:ME}{d4:List Nat}{n:Nat}
theorem ZQ(hP:i0 P)(h:fZ P it Z g (λk g1=>∃(l:List D) (Sh:S->Prop) (w:Nat->D),(∀g',Ex g1 g'->k.Is l g')/\l.length<=1000/\Sh (F2 Z d4 n) /\
      (∀ i d Z g',l[i]?=some d->Ex g1 g'->Sh Z->iw t d Z λcC=>aX P elt cC g' (λy g4=>y=w i/\Ex g1 g4/\Sh cC) ie)/\∀ g',Ex g1 g'->Q (.ref g'.length) (g' ++ [.lst ((List.range l.length).map w)])) E):aX P (.comp d4 n t it .no elt) Z g Q E:=by
  refine F4 hP (A5 hP it _ _ _ _ _ _ (λk g1 h=>?_) (λ_ _ z=>z) h);obtain⟨l,Sh,w,hk,hl,h0,hs,hd⟩:=h;refine⟨l,λi ys Z g'=>Ex g1 g'/\ys=(List.range i).map w/\Sh Z,hl,λi ys Z g' q=>⟨hk _ q.1,by rw[q.2.1];simp⟩,⟨Ex.refl _,rfl,h0⟩,λi x ys Z g' hx q=>?_,λys Z g' q=>?_⟩
  · obtain⟨e1,rfl,sh⟩:=q;refine x6 (λcC q=>vU (jz (c5 hP elt _ _ _ _ _ _ (λy g4 q=>?_) (λ_ _ z=>z) q))) (hs i x Z g' hx e1 sh);obtain⟨rfl,e4,sh⟩:=q;exact⟨e4,by rw[List.range_succ,dM];rfl,sh⟩
  · obtain⟨e1,rfl,sh⟩:=q;exact hd g' e1
end
def mB(g:G)(sd n:Nat)(K:List Nat):Prop:=∃S m,g[sd]?=some (.set S m)/\m=K.length/\K.Nodup/\(∀j∈K,j<2 ^ n)/\∀k:Int,S k=true↔∃j∈K,k=(j:Nat)
theorem mB.at{g g':G}{sd n:Nat}{K:List Nat}(h:mB g sd n K)(e:Ex g g'):mB g' sd n K:=let ⟨S,m,h1,h2⟩:=h;⟨S,m,e.at h1,h2⟩
theorem mB.size{g:G}{sd n:Nat}{K:List Nat}(h:mB g sd n K):K.length<=2 ^ n:=by
 obtain⟨S,m,_,_,nd,lt,_⟩:=h;have:=Q9 (m:=List.range (2 ^ n)) nd λx hx=>aM.mpr (lt x hx);simpa using this
structure TW(T:Nat->Option ba):Prop where
 mn:T 117=some C0
 za:T 121=some Ag
structure Wy(g:G)(w:Nat)(cs:List a9)(v:Int)(rs:List dR):Prop where
 ex:∃kvs,g[w]?=some (.ei kvs)/\∀s,iF (k9 cs v rs) s->t8 kvs (kN s)=some (.int ((i8 cs.length (k9 cs v rs) s).length:Nat))
theorem Wy.at{g g':G}{w:Nat}{cs:List a9}{v:Int}{rs:List dR}(h:Wy g w cs v rs)(e:Ex g g'):Wy g' w cs v rs:=let ⟨kvs,h1,h2⟩:=h.ex;⟨⟨kvs,e.at h1,h2⟩⟩
theorem Xk{l:List Nat}(hl:l.Pairwise (· > ·)){i s x:Nat}(hi:l[i]?=some s)(hx:x∈l)(h:s<x):x∈l.take i:=by
 obtain⟨j,hj,rfl⟩:=bG.mp hx;obtain⟨gP,rfl⟩:=ak.mp hi;have Kq:j<i:=by
  rcases dQ j i with z|z|z
  ·exact z
  ·subst z;omega
  ·have:=List.pairwise_iff_getElem.mp hl i j gP hj z;omega
 exact bL.mpr ⟨j,by rw[cv Kq,ai hj]⟩
theorem BS{n:Nat}(h:n<=9):1<=2 ^ n/\2 ^ n<=512:=⟨Nat.one_le_two_pow,Nat.pow_le_pow_right (by omega) h⟩
section
variable{T:Nat->Option ba}{k d:Nat}{g g':G}{Q:KD}{E:KX}{a b c r:Nat}{cs:List a9}{rs:List dR}{v:Int}
theorem Gg(hT:gE T)(hF:TF T)(mn:T 117=some C0)(B:Bd g b cs v rs)(hz:cs.length<=9)(hr:rs.length<=900)(h:∀(L:List Nat) l g',Ex g g'->g.length<=l->g'[l]?=some (.lst (b7 L))->L.Pairwise (· < ·)->(∀s,s∈L↔iF (k9 cs v rs) s)->L.length<=512->Q (.ref l) g'):b9 T (k+6) 117 [.ref b] g Q E:=by
 refine call_of mn rfl ?_;dsimp[C0,c8,List.replicate];have jh:=C3 cs v rs;generalize lI:k9 cs v rs=F at *;obtain⟨w0,l0,dd,nb,f1,f2,f3,f4,f5⟩:=B.ex;have p2:=BS hz;walk_at"";refine Pw ?_;have s1:mB (g++[O.set (λk=>decide (k=0)) 1]) g.length cs.length [0]:=⟨_,_,b0,rfl,by simp,by simp;omega,λk=>by simp⟩
 have e1:=Ex.snoc g (O.set (λk=>decide (k=0)) 1);generalize g++[O.set (λk=>decide (k=0)) 1]=g1 at *;walk_at"";have e2:=e1.trans (Ex.snoc g1 (O.lst []));have s2:=s1.at (Ex.snoc g1 (O.lst []));have t2:=b0 (g:=g1) (o:=O.lst []);have l1:g.length<g1.length:=by obtain⟨_,_,z,_⟩:=s1;exact k8 z
 generalize g1++[O.lst []]=g2 at *;generalize g1.length=tl at *;refine u9 (a8 T _) (W9 (a8 T _) ?_);walk_at"";refine T8 (e2.at f1) rfl ?_;walk_at"";have en:((2 ^ cs.length-1:Nat):Int)+1=((2 ^ cs.length:Nat):Int):=by omega
 rw[en];refine⟨by omega,by omega,i3 0 (2 ^ cs.length),λt Z g'=>Ex g g'/\(∃K,mB g' g.length cs.length K/\∀j,j∈K↔j=0\/∃s p,s<t/\iF F s/\p∈F s/\j=s |||2 ^ p)/\(∃L,g'[tl]?=some (.lst (b7 L))/\L.Pairwise (· < ·)/\(∀s,s∈L↔s<t/\iF F s)/\L.length<=t)/\∃z3 z4,Z=[some (.ref b),some (.ref g.length),some (.ref tl),z3,z4],λ_ _ _ _=>by rw[cB];exact q9,⟨e2,⟨[0],s2,λj=>by simp⟩,⟨[],t2,by simp,by simp,by simp⟩,none,none,rfl⟩,λt x Z g' hx q=>?_,λZ g' q=>?_⟩
 ·obtain⟨e3,⟨K,s3,hK⟩,⟨L,t3,pw,hL,sY⟩,z3,z4,rfl⟩:=q;obtain⟨ht,rfl⟩:=x3 hx;rw[eA];have kO:t∈K↔iF F t:=by
   rw[hK];constructor
   ·rintro(rfl|⟨s,p,_,h2,h3,rfl⟩)
    ·exact .zero
    ·exact .step h2 h3
   ·intro h;cases h with
    |zero=>exact .inl rfl
    |step h hp=>exact .inr ⟨_,_,ug (jh _ _ hp).2,h,hp,rfl⟩
  refine f9 ?_
  try show wpS _ _ _ _ _ _
  walk_at"";obtain⟨S,m,sg,sm,snd,slt,sS⟩:=id s3;refine SY sg ?_;walk_at"";have DK:S (t:Nat)=true↔iF F t:=by
   rw[sS,<- kO];exact⟨λ⟨j,hj,e⟩=>by rw[show t=j by omega];exact hj,λz=>⟨t,z,rfl⟩⟩
  cases hb:S (t:Nat) with
  |false =>
   have jn:¬iF F t:=λz=>by rw[DK.mpr z] at hb;cases hb
   refine fj rfl ?_;walk_at"";refine⟨e3,⟨K,s3,λj=>(hK j).trans ⟨?_,?_⟩⟩,⟨L,t3,pw,λs=>(hL s).trans ⟨λz=>⟨by omega,z.2⟩,λz=>⟨?_,z.2⟩⟩,by omega⟩,_,_,rfl⟩
   ·rintro(z|⟨s,p,h1,h2⟩)
    ·exact .inl z
    ·exact .inr ⟨s,p,by omega,h2⟩
   ·rintro(z|⟨s,p,h1,h2,h3⟩)
    ·exact .inl z
    ·refine .inr ⟨s,p,?_,h2,h3⟩;rcases cQ s t with y|y
     ·exact y
     ·exact absurd (show iF F t by rw[show t=s by omega];exact h2) jn
   ·rcases cQ s t with y|y
    ·exact y
    ·exact absurd (show iF F t by rw[show t=s by omega];exact z.2) jn
  |true =>
   have hR:=DK.mp hb;refine gh rfl ?_;walk_at"";refine P8 t3 (by simp[b7];omega) ?_;have Jj:tl≠g.length:=by omega
   have s4:mB (g'.set tl (.lst (b7 L++[D.int (t:Nat)]))) g.length cs.length K:=⟨S,m,d6 sg Jj,sm,snd,slt,sS⟩
   have t4:(g'.set tl (.lst (b7 L++[D.int (t:Nat)])))[tl]?=some (.lst (b7 (L++[t]))):=by rw[get_set t3];simp[b7]
   have e4:Ex g (g'.set tl (.lst (b7 L++[D.int (t:Nat)]))):=⟨by simp;exact e3.len,λi hi=>by rw[aA (by omega)];exact e3.old i hi⟩
   generalize g'.set tl (.lst (b7 L++[D.int (t:Nat)]))=g4 at *;walk_at"";refine u9 (a8 T _) (jm (a8 T _) ?_);walk_at"";refine T7 (k:=k) hT hF (B.at e4) hz hr ht λg5 fl e5 Ks h5=>?_;rw[lI] at h5;have l4:tl<g4.length:=k8 t4;refine⟨fl,_,rfl,a7 h5,b7 (F t),λj Z g'=>Ex g g'/\g'[fl]?=some (.lst (b7 (F t)))/\g'[tl]?=some (.lst (b7 (L++[t])))/\(∃K',mB g' g.length cs.length K'/\∀x,x∈K'↔x∈K\/∃p∈(F t).take j,x=t |||2 ^ p)/\∃z4,Z=[some (.ref b),some (.ref g.length),some (.ref tl),some (.int (t:Nat)),z4],λj Z g' q=>j8 (a7 q.2.1),⟨e4.trans e5,h5,e5.at t4,⟨K,s4.at e5,λx=>by simp⟩,z4,rfl⟩,λj x Z g' hx q=>?_,λZ g' q=>?_⟩
   ·obtain⟨e6,h6,t6,⟨K',s6,qm⟩,z4,rfl⟩:=q;rw[b7,ag,aa] at hx;obtain⟨p,hp,rfl⟩:=hx;have nh:=aF hp;have kK:=(jh _ _ nh)
    have tk:(F t).take (j+1)=(F t).take j++[p]:=by rw[bE,hp];rfl
    obtain⟨S6,m6,uT,Cr,rj,rm,pW⟩:=id s6;refine f9 ?_
    try show wpS _ _ _ _ _ _
    walk_at"";refine⟨Ph uT,?_⟩;walk_at"";refine A6 (k:=k+4) hT.mj (by omega) ?_;walk_at"";have hsz:=s6.size;refine MK uT (by omega) ?_;walk_at"";have dj:=Q6 ht kK.1;refine⟨⟨by simp;exact e6.len,λi hi=>by rw[aA (by omega)];exact e6.old i hi⟩,d6 h6 (by have:=e4.len;omega),d6 t6 (by omega),?_,_,rfl⟩;by_cases iC:S6 ((t |||2 ^ p:Nat):Int)=true
    ·refine⟨K',⟨_,_,get_set uT,by rw[aK iC];exact Cr,rj,rm,λk=>?_⟩,λx=>?_⟩
     ·rw[cO,bN];constructor
      ·rintro(z|z)
       ·exact(pW k).mp z
       ·subst z;exact(pW _).mp iC
      ·exact λz=>.inl ((pW k).mpr z)
     ·rw[qm x,tk];simp only[List.mem_append,List.mem_singleton];constructor
      ·rintro(z|⟨q,z1,z2⟩)
       ·exact .inl z
       ·exact .inr ⟨q,.inl z1,z2⟩
      ·rintro(z|⟨q,z1|z1,z2⟩)
       ·exact .inl z
       ·exact .inr ⟨q,z1,z2⟩
       ·subst z1 z2;obtain⟨y,y1,y2⟩:=(pW _).mp iC;rw[<- qm,show(t |||2 ^ q)=y by omega];exact y1
    ·have yg:(t |||2 ^ p)∉K':=λz=>iC ((pW _).mpr ⟨_,z,rfl⟩);refine⟨K'++[t |||2 ^ p],⟨_,_,get_set uT,by rw[aC iC];simp[Cr],?_,λy hy=>?_,λk=>?_⟩,λx=>?_⟩
     ·rw[cM];exact⟨rj,by simp,λx hx y hy=>by cases bo.mp hy;exact λz=>yg (z▸hx)⟩
     ·rcases bc.mp hy with z|z
      ·exact rm y z
      ·cases bo.mp z;exact dj
     ·rw[cO,bN,pW];simp only[List.mem_append,List.mem_singleton];constructor
      ·rintro(⟨y,y1,y2⟩|z)
       ·exact⟨y,.inl y1,y2⟩
       ·exact⟨_,.inr rfl,z⟩
      ·rintro⟨y,y1|y1,y2⟩
       ·exact .inl ⟨y,y1,y2⟩
       ·subst y1;exact .inr y2
     ·rw[bc,bo,qm x,tk];simp only[List.mem_append,List.mem_singleton];constructor
      ·rintro((z|⟨q,z1,z2⟩)|z)
       ·exact .inl z
       ·exact .inr ⟨q,.inl z1,z2⟩
       ·exact .inr ⟨p,.inr rfl,z⟩
      ·rintro(z|⟨q,z1|z1,z2⟩)
       ·exact .inl (.inl z)
       ·exact .inl (.inr ⟨q,z1,z2⟩)
       ·subst z1;exact .inr z2
   ·obtain⟨e6,h6,t6,⟨K',s6,qm⟩,z4,rfl⟩:=q;rw[b7,ao,bK] at qm
    try show wpS _ _ _ _ _ _
    walk_at"";refine⟨e6,⟨K',s6,λj=>(qm j).trans ?_⟩,⟨L++[t],t6,?_,λs=>?_,by simp;omega⟩,_,_,rfl⟩
    ·rw[hK j];constructor
     ·rintro((z|⟨s,p,h1,h2⟩)|⟨p,h1,h2⟩)
      ·exact .inl z
      ·exact .inr ⟨s,p,by omega,h2⟩
      ·exact .inr ⟨t,p,by omega,hR,h1,h2⟩
     ·rintro(z|⟨s,p,h1,h2,h3,h4⟩)
      ·exact .inl (.inl z)
      ·rcases cQ s t with y|y
       ·exact .inl (.inr ⟨s,p,y,h2,h3,h4⟩)
       ·have:s=t:=by omega
        subst this;exact .inr ⟨p,h3,h4⟩
    ·rw[List.pairwise_append];exact⟨pw,by simp,λx hx y hy=>by cases bo.mp hy;exact((hL x).mp hx).1⟩
    ·rw[bc,bo,hL s];constructor
     ·rintro(z|z)
      ·exact⟨by omega,z.2⟩
      ·subst z;exact⟨by omega,hR⟩
     ·rintro⟨z1,z2⟩;rcases cQ s t with y|y
      ·exact .inl ⟨y,z2⟩
      ·exact .inr (by omega)
 ·obtain⟨e3,⟨K,s3,hK⟩,⟨L,t3,pw,hL,sY⟩,z3,z4,rfl⟩:=q;rw[j7] at hL sY
  try show wpS _ _ _ _ _ _
  walk_at"";exact h L tl g' e3 (by omega) t3 pw (λs=>(hL s).trans ⟨λz=>z.2,λz=>⟨z.lt jh,z⟩⟩) (by omega)
theorem QI(hT:gE T)(hF:TF T)(hW:TW T)(B:Bd g b cs v rs)(hz:cs.length<=9)(hr:rs.length<=900)(h:∀w g',Ex g g'->g.length<=w->Wy g' w cs v rs->Q (.ref w) g'):b9 T (k+7) 121 [.ref b] g Q E:=by
 refine call_of hW.za rfl ?_;dsimp[Ag,c8,List.replicate];have jh:=C3 cs v rs;generalize lI:k9 cs v rs=F at *;obtain⟨w0,l0,dd,nb,f1,f2,f3,f4,f5⟩:=B.ex;have p2:=BS hz;walk_at"";have e1:=Ex.snoc g (O.ei []);have w1:=b0 (g:=g) (o:=O.ei []);generalize g++[O.ei []]=g1 at *;refine u9 (a8 T _) (JJ ?_);walk_at"";refine Gg (k:=k) hT hF hW.mn (B.at e1) hz hr λL l g2 e2 hl h2 pw hL sY=>?_;rw[lI] at hL;have lw:=k8 w1;have Jt:L.reverse.Pairwise (· > ·):=List.pairwise_reverse.mpr pw;have xP:(b7 L).length=L.length:=by simp[b7]
 refine⟨l,_,rfl,a7 h2,(b7 L).reverse,λi Z g'=>Ex g g'/\g'[l]?=some (.lst (b7 L))/\(∃kvs,g'[g.length]?=some (.ei kvs)/\kvs.length<=i/\∀s∈L.reverse.take i,t8 kvs (kN s)=some (.int ((i8 cs.length F s).length:Nat)))/\∃z2,Z=[some (.ref b),some (.ref g.length),z2],λi Z g' q=>Mv (a7 q.2.1),⟨e1.trans e2,h2,⟨[],e2.at w1,by simp,by simp⟩,none,rfl⟩,λi x Z g' hx q=>?_,λZ g' q=>?_⟩
 ·obtain⟨e3,h3,⟨kvs,w3,hk,sE⟩,z2,rfl⟩:=q;rw[b7,<- List.map_reverse,ag,aa] at hx;obtain⟨s,hs,rfl⟩:=hx;have Ds:i<L.length:=by have:=(ak.mp hs).1;simpa using this
  have De:iF F s:=(hL s).mp (List.mem_reverse.mp (aF hs));have nc:=De.lt jh;have tk:L.reverse.take (i+1)=L.reverse.take i++[s]:=by rw[bE,hs];rfl
  have fin:∀(N:Ends) g4 z2,Ex g' g4->(∀g5,(Ex g g5/\g5[l]?=some (.lst (b7 L))/\(∃kvs,g5[g.length]?=some (.ei kvs)/\kvs.length<=i+1/\∀s∈L.reverse.take (i+1),t8 kvs (kN s)=some (.int ((i8 cs.length F s).length:Nat)))/\∃z2,([some (.ref b),some (.ref g.length),z2]:S)=[some (.ref b),some (.ref g.length),z2])->N.nx [some (.ref b),some (.ref g.length),z2] g5)->V6 (.ref g.length) (.int (s:Nat)) (.int ((i8 cs.length F s).length:Nat)) g4 λg5=>N.nx [some (.ref b),some (.ref g.length),z2] g5:=λN g4 z2 e4 hN=>by
   refine EW (e4.at w3) rfl (by omega) ?_;refine hN _ ⟨⟨by simp;exact(e3.trans e4).len,λj hj=>by rw[aA (by omega)];exact(e3.trans e4).old j hj⟩,d6 (e4.at h3) (by omega),⟨_,get_set (e4.at w3),aG Y' (by omega),λs' Dg=>?_⟩,z2,rfl⟩;rw[tk] at Dg;by_cases xY:s'=s
   ·subst xY;exact YZ
   ·refine(Ww (TK (bP xY))).trans (sE s' ?_);rcases bc.mp Dg with z|z
    ·exact z
    ·exact absurd (bo.mp z) xY
  refine f9 ?_
  try show wpS _ _ _ _ _ _
  walk_at"";refine T8 (e3.at f1) rfl ?_;walk_at"";have ed:decide (((s:Nat):Int)=((2 ^ cs.length-1:Nat):Int))=decide (s=2 ^ cs.length-1):=dk.mpr (by omega);rw[ed];refine if2 (λc1=>?_) (λc1=>?_)
  ·walk_at"";have e1:(1:Int)=((i8 cs.length F s).length:Nat):=by rw[O7 c1];rfl
   rw[e1];exact fin _ _ _ (Ex.refl _) λg5 z=>⟨z.1,z.2.1,z.2.2.1,_,rfl⟩
  ·walk_at"";refine ZQ (a8 T _) (jm (a8 T _) ?_);walk_at"";refine T7 (k:=k+1) hT hF (B.at e3) hz hr nc λg4 fl e4 Ks h4=>?_;rw[lI] at h4;refine⟨fl,_,rfl,a7 h4,b7 (F s),λZ=>∃z2 z3,Z=[some (.int (s:Nat)),some (.ref g.length),z2,z3],λi=>.int ((i8 cs.length F (s |||2 ^ ((F s).getD i 0))).length:Nat),λg' e=>j8 (a7 (e.at h4)),?_,⟨none,none,rfl⟩,λj d Z g5 hx e5 sh=>?_,λg5 e5=>?_⟩
   ·have:(F s).length<=cs.length:=by rw[<- lI];exact F6
    simp[b7];omega
   ·obtain⟨z2,z3,rfl⟩:=sh;rw[b7,ag,aa] at hx;obtain⟨p,hp,rfl⟩:=hx;have nh:=aF hp;have kK:=jh _ _ nh;refine f9 ?_
    try show aX _ _ _ _ _ _
    walk_at"";refine A6 (k:=k+5) hT.mj (by omega) ?_;have hv:t8 kvs (kN (s |||2 ^ p))=some (.int ((i8 cs.length F (s |||2 ^ p)).length:Nat)):=by
     refine sE _ (Xk Jt hs (List.mem_reverse.mpr ((hL _).mpr (.step De nh))) (ug kK.2))
    refine wZ ((e4.trans e5).at w3) rfl hv ?_;exact⟨by simp[List.getD,hp],e5,_,_,rfl⟩
   ·have el:(List.range (b7 (F s)).length).map (λi=>D.int ((i8 cs.length F (s |||2 ^ ((F s).getD i 0))).length:Nat))=(((F s).map λp=>(i8 cs.length F (s |||2 ^ p)).length).map λ(n:Nat)=>(n:Int)).map D.int:=by
     refine cN λi=>?_;rw[ag,ag,ag,ag];by_cases hi:i<(F s).length
     ·rw[bC (by simpa[b7] using hi),ai hi];simp[List.getD,hi]
     ·rw[aP (by simpa[b7] using hi),aP (by omega)]
      rfl
    rw[el];refine Fc (a7 b0) ?_;have es:(((F s).map λp=>(i8 cs.length F (s |||2 ^ p)).length).map λ(n:Nat)=>(n:Int)).sum=((i8 cs.length F s).length:Nat):=by
     rw[QH jh nc c1];generalize (F s).map (λp=>(i8 cs.length F (s |||2 ^ p)).length)=m
     induction m with
     |nil=>rfl
     |cons x r ih=>simp[ih]
    rw[es];walk_at"";exact fin _ _ _ (e4.trans (e5.trans (Ex.snoc _ _))) λg6 z=>⟨z.1,z.2.1,z.2.2.1,_,rfl⟩
 ·obtain⟨e3,h3,⟨kvs,w3,hk,sE⟩,z2,rfl⟩:=q;rw[List.length_reverse,xP,List.take_of_length_le (by simp)] at sE
  try show wpS _ _ _ _ _ _
  walk_at"";refine h _ _ e3 (aw _) ⟨⟨kvs,w3,λs hs=>?_⟩⟩;rw[lI] at hs ⊢;exact sE s (List.mem_reverse.mpr ((hL s).mpr hs))
end
structure TN(T:Nat->Option ba):Prop where
 oV:T 122=some wC
 yZ:T 123=some M7
section
variable{T:Nat->Option ba}{k d:Nat}{g g':G}{Q:KD}{E:KX}{a b c r w:Nat}{cs:List a9}{rs:List dR}{v:Int}
theorem XA(hT:gE T)(hF:TF T)(oV:T 122=some wC)(B:Bd g b cs v rs)(W:Wy g w cs v rs)(hz:cs.length<=9)(hr:rs.length<=900){s m:Nat}(hs:iF (k9 cs v rs) s)(dH:s≠2 ^ cs.length-1)(hm:m<(i8 cs.length (k9 cs v rs) s).length)(h:∀(p l:Nat) g',Ex g g'->p∈k9 cs v rs s->l<(i8 cs.length (k9 cs v rs) (s |||2 ^ p)).length->(i8 cs.length (k9 cs v rs) s)[m]?=((i8 cs.length (k9 cs v rs) (s |||2 ^ p))[l]?).map (p::·)->Q (.tup [.int (p:Nat),.int (l:Nat)]) g'):b9 T (k+6) 122 [.ref b,.ref w,.int (s:Nat),.int (m:Nat)] g Q E:=by
 refine call_of oV rfl ?_;dsimp[wC,c8,List.replicate];have jh:=C3 cs v rs;have nc:=hs.lt jh;have eo:=X7 jh nc dH;walk_at"";refine T7 (k:=k) hT hF B hz hr nc λg1 ch e1 _ jJ=>?_;generalize lI:k9 cs v rs=F at *;obtain⟨kvs,w1,w2⟩:=W.ex;rw[lI] at w2;walk_at"";generalize Dy:(λp=>(i8 cs.length F (s |||2 ^ p)).map (p::·))=f at *;have tK:∀p,(f p).length=(i8 cs.length F (s |||2 ^ p)).length:=λp=>by rw[<- Dy];simp
 rw[eo] at hm;have Jw:0<(F s).length:=by
  cases hl:F s with
  |nil=>rw[hl] at hm;simp at hm
  |cons _ _=>simp
 refine HL (λmm Z g'=>Ex g1 g'/\∃j lf:Nat,Z=[some (.ref b),some (.ref w),some (.int (s:Nat)),some (.int (m:Nat)),some (.ref ch),some (.int (lf:Nat)),some (.int (j:Nat))]/\j<(F s).length/\mm=(F s).length-j/\m=(((F s).take j).flatMap f).length+lf/\lf<(((F s).drop j).flatMap f).length) _ ⟨Ex.refl _,0,m,rfl,Jw,rfl,by simp,by simpa using hm⟩ (λmm Z g' q=>?_) (a8 T _);obtain⟨e2,j,lf,rfl,hj,rfl,kM,oA⟩:=q;have hx:=ai hj;generalize (F s)[j]=p at hx;have nh:=aF hx;have kK:=jh _ _ nh;have hv:t8 kvs (kN (s |||2 ^ p))=some (.int ((f p).length:Nat)):=by rw[tK];exact w2 _ (.step hs nh)
 have zV:fI (b7 (F s)) (j:Int)=some (.int (p:Nat)):=x4 (by rw[b7,ag,hx];rfl);have sp:=WX (f:=f) hx lf;have lN:=e1.trans e2;walk_at"";refine n5 (a7 (e2.at jJ)) zV ?_;walk_at"";refine A6 (k:=k+4) hT.mj (by omega) ?_;refine wZ (lN.at w1) rfl hv ?_;walk_at"";by_cases hc:(f p).length<=lf
 ·refine gh (az (by omega)) ?_;walk_at"";refine Hd rfl ?_;walk_at"";refine n5 (a7 (e2.at jJ)) zV ?_;walk_at"";refine A6 (k:=k+4) hT.mj (by omega) ?_;refine wZ (lN.at w1) rfl hv ?_;refine Mu ?_;walk_at"";refine Hd rfl ?_;walk_at"";refine Vp ?_;have tk:(F s).take (j+1)=(F s).take j++[p]:=by rw[bE,hx];rfl
  rw[sp.2,bg] at oA;have lZ:j+1<(F s).length:=by
   rcases cQ (j+1) (F s).length with z|z
   ·exact z
   ·rw[List.drop_eq_nil_of_le z] at oA;simp at oA;omega
  refine⟨_,?_,e2,j+1,lf-(f p).length,?_,lZ,rfl,?_,by omega⟩
  ·omega
  ·have e1:((lf:Nat):Int)-((f p).length:Nat)=((lf-(f p).length:Nat):Int):=by omega
   have e2:((j:Nat):Int)+1=((j+1:Nat):Int):=by omega
   rw[e1,e2]
   rfl
  ·rw[tk,List.flatMap_append,bg,cu,List.flatMap_nil,eX];omega
 ·refine fj (aE (by omega)) ?_;walk_at"";refine n5 (a7 (e2.at jJ)) zV ?_;walk_at"";refine h p lf g' lN nh (by rw[tK] at hc;omega) ?_;rw[eo,kM,sp.1,sp.2,aJ (by omega),<- Dy];simp
theorem XZ(hT:gE T)(hF:TF T)(hN:TN T)(B:Bd g b cs v rs)(W:Wy g w cs v rs)(hz:cs.length<=9)(hr:rs.length<=900){m:Nat}{o:List Nat}(hm:(i8 cs.length (k9 cs v rs) 0)[m]?=some o)(h:∀l g',Ex g g'->g.length<=l->g'[l]?=some (.lst (b7 o))->Q (.ref l) g'):b9 T (k+7) 123 [.ref b,.ref w,.int (m:Nat)] g Q E:=by
 refine call_of hN.yZ rfl ?_;dsimp[M7,c8,List.replicate];have jh:=C3 cs v rs;obtain⟨w0,l0,dd,nb,f1,f2,f3,f4,f5⟩:=B.ex;have p2:=BS hz;walk_at"";have e1:=Ex.snoc g (O.lst []);have h1:=b0 (g:=g) (o:=O.lst []);generalize g++[O.lst []]=g1 at *;refine HL (λmm Z g'=>Ex g g'/\∃(s lf:Nat) (p:List Nat) (z6:Option D),Z=[some (.ref b),some (.ref w),some (.int (m:Nat)),some (.ref g.length),some (.int (s:Nat)),some (.int (lf:Nat)),z6]/\mm=2 ^ cs.length-s/\iF (k9 cs v rs) s/\lf<(i8 cs.length (k9 cs v rs) s).length/\some o=((i8 cs.length (k9 cs v rs) s)[lf]?).map (p++·)/\g'[g.length]?=some (.lst (b7 p))/\p.length<=s) _ ⟨e1,0,m,[],none,rfl,rfl,.zero,(ak.mp hm).1,by rw[hm];rfl,h1,by simp⟩ (λmm Z g' q=>?_) (a8 T _);obtain⟨e2,s,lf,p,z6,rfl,rfl,hs,oA,ho,hp,gb⟩:=q;have nc:=hs.lt jh;walk_at"";refine T8 (e2.at f1) rfl ?_;walk_at"";have ed:decide (((s:Nat):Int)=((2 ^ cs.length-1:Nat):Int))=decide (s=2 ^ cs.length-1):=dk.mpr (by omega);rw[ed];by_cases dH:s=2 ^ cs.length-1
 ·refine fj (by rw[az dH];rfl) ?_;walk_at"";rw[O7 dH] at oA ho;have:lf=0:=by simp at oA;omega
  subst this;have:o=p:=by simpa using ho
  subst this;exact h _ _ e2 (aw _) hp
 ·refine gh (by rw[aE dH];rfl) ?_;walk_at"";refine XA (k:=k) hT hF hN.oV (B.at e2) (W.at e2) hz hr hs dH oA λq l g3 e3 hq hl JX=>?_;refine B0 rfl ?_
  try show wpS _ _ _ _ _ _
  have Dk:=jh _ _ hq;have yb:=e3.at hp;walk_at""
  try refine⟨Y0 yb,?_⟩
  walk_at"";refine P8 yb (by simp[b7];omega) ?_;walk_at"";refine A6 (k:=k+5) hT.mj (by omega) ?_;walk_at"";have hgt:=ug Dk.2;have qu:=e2.trans e3;refine⟨_,?_,⟨by simp;exact qu.len,λi hi=>by rw[aA (by omega)];exact qu.old i hi⟩,s |||2 ^ q,l,p++[q],_,rfl,rfl,.step hs hq,hl,?_,?_,by simp;omega⟩
  ·omega
  ·rw[ho,JX];simp[Option.map_map,Function.comp_def]
  ·rw[get_set yb];simp[b7]
theorem M8(hT:gE T)(hF:TF T)(hW:TW T)(hN:TN T)(kZ:T 124=some O1)(B:Bd g b cs v rs)(hz:cs.length<=9)(hr:rs.length<=900)(h1:i8 cs.length (k9 cs v rs) 0=[]->∀g',Ex g g'->Q .bx g')(h2:∀o l g',(i8 cs.length (k9 cs v rs) 0)[0]?=some o->Ex g g'->g.length<=l->g'[l]?=some (.lst (b7 o))->Q (.ref l) g'):b9 T (k+8) 124 [.ref b] g Q E:=by
 refine call_of kZ rfl ?_;dsimp[O1,c8,List.replicate];walk_at"";refine QI (k:=k) hT hF hW B hz hr λw g1 e1 hw W=>?_;walk_at"";obtain⟨kvs,w1,w2⟩:=W.ex;refine wZ w1 rfl (w2 0 .zero) ?_;walk_at"";cases ho:i8 cs.length (k9 cs v rs) 0 with
 |nil =>
  refine gh (by simp) ?_;walk_at"";exact h1 ho _ e1
 |cons o r =>
  refine fj (by simp;omega) ?_;walk_at"";exact XZ (k:=k) hT hF hN (m:=0) (B.at e1) W hz hr (by rw[ho];rfl) λl g2 e2 hl h=>h2 o l g2 (by rw[ho];rfl) (e1.trans e2) (aG e1.len hl) h
end
def Q2:ba:=⟨3,8,(.seq (.set 3 (dg .lst (.prim .lst .nil))) (.seq (.cU (.one 4) (.dX (dg .len aN)) (.seq (.set 5 (.prim .lst .nil)) (.seq (.cU (.one 6) (.eK bJ) (.seq (.cU (.one 7) (.dX (dg .len aN)) (.seq (.ifs (.dw (du .NotIn fu eU) (du .Eq (.call 108 (qW aN bf bp eU fu)) (ff ""))) (.seq (.expr (.dW .append dq (eL (bX (.bin .Add) eU (dg .lst fu))))) .pass) .pass) .pass)) .pass)) (.seq (.set 3 dq) .pass)))) (.seq (.ret bJ) .pass)))⟩
def fO(r:List Nat):Nat:=r.foldl (λs p=>s |||2 ^ p) 0
theorem Ij(r:List Nat)(p:Nat):fO (r++[p])=fO r |||2 ^ p:=by simp[fO,List.foldl_append]
theorem E8(r:List Nat)(i:Nat):(fO r).testBit i=decide (i∈r):=by
 have:∀(r:List Nat) (s:Nat),(r.foldl (λs p=>s |||2 ^ p) s).testBit i=(s.testBit i||decide (i∈r)):=by
  intro r
  induction r with
  |nil=>intro s;simp
  |cons p r ih =>
   intro s;rw[List.foldl_cons,ih,R9,Bool.or_assoc,aV];simp
 rw[fO,this];simp
theorem Oa{n:Nat}:∀{r:List Nat},(∀i∈r,i<n)->fO r<2 ^ n:=λ{r} h=>by
 have:∀(r:List Nat) (s:Nat),(∀i∈r,i<n)->s<2 ^ n->r.foldl (λs p=>s |||2 ^ p) s<2 ^ n:=by
  intro r
  induction r with
  |nil=>intro s _ hs;exact hs
  |cons p r ih=>intro s h hs;exact ih _ (λi hi=>h i (by simp[hi])) (Q6 hs (h p (by simp)))
 exact this r 0 h (Nat.two_pow_pos _)
def p9(F:Nat->List Nat):Nat->List (List Nat)
 |0=>[[]]
 |t+1=>(p9 F t).flatMap λr=>(F (fO r)).map λp=>r++[p]
theorem K7{n:Nat}{F:Nat->List Nat}(hF:FG n F):∀{t:Nat} {r:List Nat},r∈p9 F t->r.length=t/\r.Nodup/\∀i∈r,i<n
 |0,r,h=>by
  cases bo.mp h;simp
 |t+1,r,h=>by
  obtain⟨r0,h0,h1⟩:=List.mem_flatMap.mp h;obtain⟨p,hp,rfl⟩:=aU.mp h1;obtain⟨g1,g2,g3⟩:=K7 hF h0;have kK:=hF _ _ hp;rw[E8] at kK;refine⟨by simp[g1],?_,λi hi=>?_⟩
  ·rw[cM];exact⟨g2,by simp,λx hx y hy=>by cases bo.mp hy;exact λz=>(by simpa using kK.2:p∉r0) (z▸hx)⟩
  ·rcases bc.mp hi with z|z
   ·exact g3 i z
   ·cases bo.mp z;exact kK.1
theorem Bw{n:Nat}{r:List Nat}(h:r.Nodup)(hl:r.length=n)(hr:∀i∈r,i<n){i:Nat}(hi:i<n):i∈r:=by
 refine Decidable.byContradiction λhn=>?_;have:=Q9 (l:=i::r) (m:=List.range n) (dJ.mpr ⟨hn,h⟩) λx hx=>by
  rcases aL.mp hx with rfl|hx
  ·exact aM.mpr hi
  ·exact aM.mpr (hr x hx)
 simp at this;omega
theorem Ii{n:Nat}{r:List Nat}(h:r.Nodup)(hr:∀i∈r,i<n):fO r=2 ^ n-1↔r.length=n:=by
 constructor
 ·intro e;have:∀i,i<n->i∈r:=λi hi=>by
   have:=E8 r i;rw[e,Nat.testBit_two_pow_sub_one,az hi] at this;exact aZ this.symm
  have h1:=Q9 (l:=List.range n) (m:=r) List.nodup_range λi hi=>this i (aM.mp hi);have h2:=Q9 (l:=r) (m:=List.range n) h λi hi=>aM.mpr (hr i hi);simp at h1 h2;omega
 ·intro hl;refine Nat.eq_of_testBit_eq λi=>?_;rw[E8,Nat.testBit_two_pow_sub_one];refine dk.mpr ⟨hr i,λhi=>Bw h hl hr hi⟩
theorem FH{n:Nat}{F:Nat->List Nat}(hF:FG n F):∀{t:Nat},t<=n->(p9 F t).flatMap (λr=>(i8 n F (fO r)).map (r++·))=i8 n F 0
 |0,_=>by simp[p9,fO]
 |t+1,ht=>by
  rw[<- FH hF (show t<=n by omega),p9,List.flatMap_assoc];refine C4 λr hr=>?_;obtain⟨g1,g2,g3⟩:=K7 hF hr;have dH:fO r≠2 ^ n-1:=λz=>by have:=(Ii g2 g3).mp z;omega
  rw[X7 hF (Oa g3) dH,List.map_flatMap,List.flatMap_map];refine C4 λp hp=>?_;rw[Ij,cb];refine List.map_congr_left λo _=>?_;simp
theorem Av{n:Nat}{F:Nat->List Nat}(hF:FG n F):p9 F n=i8 n F 0:=by
 rw[<- FH hF (aw n)];have:∀(l:List (List Nat)),(∀r∈l,r∈p9 F n)->l.flatMap (λr=>(i8 n F (fO r)).map (r++·))=l:=by
  intro l
  induction l with
  |nil=>intro _;rfl
  |cons r l ih =>
   intro h;obtain⟨g1,g2,g3⟩:=K7 hF (h r (by simp));rw[cu,ih λx hx=>h x (by simp[hx]),O7 ((Ii g2 g3).mpr g1)];simp
 exact(this _ λ_ h=>h).symm
theorem wA{α β:Type}{f:α->List β}{m:Nat}:∀{l:List α},(∀x∈l,(f x).length<=m)->(l.flatMap f).length<=l.length*m
 |[],_=>by simp
 |x::r,h=>by
  rw[cu,bg,cS,Nat.succ_mul];have h1:=h x (by simp);have h2:=wA (l:=r) λy hy=>h y (by simp[hy]);omega
theorem Ie{n:Nat}{F:Nat->List Nat}(hF:∀s,(F s).length<=n):∀t,(p9 F t).length<=n ^ t
 |0=>by simp[p9]
 |t+1=>by
  rw[p9,Nat.pow_succ];refine aG (wA (m:=n) λr _=>by rw[ao];exact hF _) ?_;exact Nat.mul_le_mul_right _ (Ie hF t)
structure jO(g:G)(l:Nat)(X:List (List Nat)):Prop where
 ex:∃bs:List Nat,g[l]?=some (.lst (bs.map .ref))/\bs.length=X.length/\(∀b∈bs,b≠l)/\∀(i:Nat) (o:List Nat),X[i]?=some o->∃b:Nat,bs[i]?=some b/\g[b]?=some (.lst (b7 o))
theorem jO.at{g g':G}{l:Nat}{X:List (List Nat)}(h:jO g l X)(e:Ex g g'):jO g' l X :=
 let ⟨bs,h1,h2,h3,h4⟩:=h.ex
 ⟨⟨bs,e.at h1,h2,h3,λi o hi=>let ⟨b,b1,b2⟩:=h4 i o hi;⟨b,b1,e.at b2⟩⟩⟩
theorem jO.add{g:G}{l b:Nat}{X:List (List Nat)}{o:List Nat}{m:List D}(h:jO g l X)(hm:g[l]?=some (.lst m))(hb:g[b]?=some (.lst (b7 o)))(hn:b≠l):jO (g.set l (.lst (m++[.ref b]))) l (X++[o]):=by
 obtain⟨bs,h1,h2,h3,h4⟩:=h.ex;have e:m=bs.map .ref:=by rw[h1] at hm;injection hm with z;injection z with z;exact z.symm
 refine⟨⟨bs++[b],by rw[get_set hm,e];simp,by simp[h2],λx hx=>?_,λi o' hi=>?_⟩⟩
 ·rcases bc.mp hx with z|z
  ·exact h3 x z
  ·cases bo.mp z;exact hn
 ·rcases dQ i X.length with z|z|z
  ·rw[aJ z] at hi;obtain⟨b',b1,b2⟩:=h4 i o' hi;exact⟨b',by rw[aJ (by omega)];exact b1,d6 b2 (bP (h3 b' (aF b1)))⟩
  ·subst z;have:o'=o:=by simpa using hi.symm
   subst this;exact⟨b,by rw[cA (by omega)];simp[h2],d6 hb (bP hn)⟩
  ·rw[aP (by simp;omega)] at hi;cases hi
section
variable{T:Nat->Option ba}{k d:Nat}{g g':G}{Q:KD}{E:KX}{a b c r w:Nat}{cs:List a9}{rs:List dR}{v:Int}
theorem Vs(hT:pR T)(oS:T 150=some Q2)(hB:∀c∈cs,CB c)(ha:g[a]?=some (.lst (cs.map a9.d)))(hz:cs.length<=5)(hc:g[c]?=some (.lst (j4 rs)))(hr:rs.length<=900)(h:∀l g',Ex g g'->g.length<=l->jO g' l (i8 cs.length (k9 cs v rs) 0)->Q (.ref l) g'):b9 T (k+3) 150 [.ref a,.int v,.ref c] g Q E:=by
 refine call_of oS rfl ?_;dsimp[Q2,c8,List.replicate];have jh:=C3 cs v rs;rw[<- Av jh] at h;have DO:∀s,(k9 cs v rs s).length<=cs.length:=λs=>F6;generalize lI:k9 cs v rs=F at *;have rl:∀t,t<=cs.length->(p9 F t).length<=3125:=λt ht=>by
  refine aG (Ie DO t) (aG (Nat.pow_le_pow_left hz t) ?_);exact aG (Nat.pow_le_pow_right (by omega) (show t<=5 by omega)) (by decide)
 walk_at"";have e1:=(Ex.snoc g (O.lst [])).trans (Ex.snoc _ (O.lst [D.ref g.length]));have R1:jO ((g ++ [O.lst []]) ++ [O.lst [D.ref g.length]]) (g ++ [O.lst []]).length (p9 F 0):=⟨⟨[g.length],b0,rfl,by simp,λi o hi=>by
  match i,hi with
  |0,hi=>cases hi;exact⟨g.length,rfl,(Ex.snoc _ _).at b0⟩
  | i + 1,hi=>simp [p9] at hi⟩⟩
 have l1:g.length<=(g++[O.lst []]).length:=by simp
 generalize (g++[O.lst []])++[O.lst [D.ref g.length]]=g1 at *;generalize (g++[O.lst []]).length=r0 at *;refine u9 (a8 T _) (W9 (a8 T _) ?_);walk_at"";refine J1 (a7 (e1.at ha)) ?_;refine⟨_,rfl,by omega,by simp;omega,i3 0 cs.length,λt Z g'=>Ex g g'/\∃(l:Nat) (z4 z5 z6 z7:Option D),g.length<=l/\jO g' l (p9 F t)/\Z=[some (.ref a),some (.int v),some (.ref c),some (.ref l),z4,z5,z6,z7],λ_ _ _ _=>by simp only[List.length_map,Int.toNat_natCast];exact q9,⟨e1,r0,none,none,none,none,l1,R1,rfl⟩,λt x Z g' hx q=>?_,λZ g' q=>?_⟩
 ·obtain⟨e2,l,z4,z5,z6,z7,hl,R2,rfl⟩:=q;obtain⟨ht,rfl⟩:=x3 hx;refine f9 ?_
  try show wpS _ _ _ _ _ _
  walk_at"";obtain⟨as,FN,qz,as3,VL⟩:=R2.ex;have e3:=Ex.snoc g' (O.lst []);have h3:=b0 (g:=g') (o:=O.lst []);have N3:jO (g'++[O.lst []]) g'.length []:=⟨⟨[],b0,rfl,by simp,λi o hi=>by simp at hi⟩⟩
  generalize g'++[O.lst []]=g3 at *;have ll:g.length<=g'.length:=e2.len;refine u9 (a8 T _) (jm (a8 T _) ?_);walk_at"";refine⟨l,_,rfl,a7 (e3.at FN),as.map .ref,λi Z g4=>Ex g' g4/\jO g4 g'.length (((p9 F t).take i).flatMap λr=>(F (fO r)).map λp=>r++[p])/\∃z6 z7,Z=[some (.ref a),some (.int v),some (.ref c),some (.ref l),some (.int (0+(t:Nat))),some (.ref g'.length),z6,z7],λi Z g4 q=>j8 (a7 (q.1.at FN)),⟨e3,N3,z6,z7,rfl⟩,λi x Z g4 hx q=>?_,λZ g4 q=>?_⟩
  ·obtain⟨e4,R4,z6,z7,rfl⟩:=q;rw[ag,aa] at hx;obtain⟨ra,Di,rfl⟩:=hx;have hi:i<(p9 F t).length:=by rw[<- qz];exact(ak.mp Di).1
   have vf:=ai hi;generalize (p9 F t)[i]=ro at vf;obtain⟨rb,su,jA⟩:=VL i ro vf;have:rb=ra:=by rw[Di] at su;injection su with z;exact z.symm
   subst this;obtain⟨LH,LD,LC⟩:=K7 jh (aF vf);have hS:∀j,j<cs.length->iS ro j=(fO ro).testBit j:=λj _=>(E8 ro j).symm;have Dh:rb<g'.length:=k8 jA;have Jb:(p9 F t).take (i+1)=(p9 F t).take i++[ro]:=by rw[bE,vf];rfl
   have size:(((p9 F t).take i).flatMap λr=>(F (fO r)).map λp=>r++[p]).length<=3125*5:=by
    refine aG (wA (m:=5) λr _=>by rw[ao];exact aG (DO _) hz) ?_;refine Nat.mul_le_mul_right _ ?_;rw[cR];have:=rl t (by omega);omega
   refine f9 ?_
   try show wpS _ _ _ _ _ _
   walk_at"";refine u9 (a8 T _) (W9 (a8 T _) ?_);walk_at"";have Ma:=e2.trans e4;refine J1 (a7 (Ma.at ha)) ?_;refine⟨_,rfl,by omega,by simp;omega,i3 0 cs.length,λj Z g5=>Ex g' g5/\jO g5 g'.length ((((p9 F t).take i).flatMap λr=>(F (fO r)).map λp=>r++[p])++((List.range j).filter (A8 cs v rs (fO ro))).map λp=>ro++[p])/\∃z7,Z=[some (.ref a),some (.int v),some (.ref c),some (.ref l),some (.int (0+(t:Nat))),some (.ref g'.length),some (.ref rb),z7],λ_ _ _ _=>by simp only[List.length_map,Int.toNat_natCast];exact q9,⟨e4,by simpa using R4,z7,rfl⟩,λj x Z g5 hx q=>?_,λZ g5 q=>?_⟩
   ·obtain⟨e5,R5,z7,rfl⟩:=q;obtain⟨hj,rfl⟩:=x3 hx;rw[eA];have pq:=e2.trans e5;have es:(List.range (j+1)).filter (A8 cs v rs (fO ro))=(List.range j).filter (A8 cs v rs (fO ro))++if A8 cs v rs (fO ro) j=true then[j] else[]:=by
     rw[List.range_succ,dD]
     congr 1
     cases z:A8 cs v rs (fO ro) j<;>simp only[List.filter_cons,z,List.filter_nil]<;>rfl
    have skip:A8 cs v rs (fO ro) j=false->∀g6,Ex g5 g6->jO g6 g'.length ((((p9 F t).take i).flatMap λr=>(F (fO r)).map λp=>r++[p])++((List.range (j+1)).filter (A8 cs v rs (fO ro))).map λp=>ro++[p]):=λhz g6 e6=>by
     rw[es,hz,aC (by decide),eX];exact R5.at e6
    refine f9 ?_
    try show wpS _ _ _ _ _ _
    walk_at"";refine pN (Ab (e5.at jA) ?_);walk_at"";have sT:=E8 ro j;by_cases iC:j∈ro
    ·rw[az iC];refine fj rfl ?_;walk_at"";refine⟨e5,skip ?_ _ (Ex.refl _),_,rfl⟩;unfold A8;rw[sT,az iC]
     rfl
    ·rw[aE iC];refine gh rfl ?_;walk_at"";refine a00 (k:=k) hT hB (pq.at ha) (by omega) (pq.at hc) hr (e5.at jA) LC (by omega) hj λg6 e6=>?_;rw[XT hS];walk_at"";have Dz:A8 cs v rs (fO ro) j=decide (fault cs v rs (fO ro).testBit j=""):=by unfold A8;rw[sT,aE iC];rfl
     refine if2 (λc1=>?_) (λc1=>?_)
     ·walk_at"";have R6:=R5.at e6;obtain⟨bs,b1,b2,b3,b4⟩:=R6.ex;refine⟨Y0 b1,?_⟩;walk_at"";have sj:=(e5.trans e6).at jA;have s7:=b0 (g:=g6) (o:=O.lst [D.int (j:Nat)]);refine qI ((Ex.snoc _ _).at sj) s7 (by simp[b7];omega) ?_;have e8:=(Ex.snoc g6 (O.lst [D.int (j:Nat)])).trans (Ex.snoc _ (O.lst (b7 ro++[D.int (j:Nat)])));have s8:=b0 (g:=g6++[O.lst [D.int (j:Nat)]]) (o:=O.lst (b7 ro++[D.int (j:Nat)]));have l8:g'.length<(g6++[O.lst [D.int (j:Nat)]]).length:=by have:=e5.len;have:=e6.len;simp;(clear hz hr l1 hl ht qz ll hi LH Dh size hj b2;omega)
      generalize (g6++[O.lst [D.int (j:Nat)]])++[O.lst (b7 ro++[D.int (j:Nat)])]=g8 at *;generalize (g6++[O.lst [D.int (j:Nat)]]).length=nb at *;walk_at"";have bl:bs.length<=20000:=by
       rw[b2,bg,ao];have:=@F6 j (A8 cs v rs (fO ro));omega
      refine P8 (e8.at b1) (by simp;omega) ?_;walk_at"";have Ed:=e5.trans (e6.trans e8);refine⟨⟨by simp;exact Ed.len,λq hq=>by rw[aA (by omega)];exact Ed.old q hq⟩,?_,_,rfl⟩;have:=(R6.at e8).add (e8.at b1) (b:=nb) (o:=ro++[j]) (by rw[s8];simp[b7]) (by omega);rw[es,aK (by rw[Dz];exact az c1),dM,<- List.append_assoc];exact this
     ·walk_at"";exact⟨e5.trans e6,skip (by rw[Dz];exact aE c1) _ e6,_,rfl⟩
   ·obtain⟨e5,R5,z7,rfl⟩:=q;rw[j7] at R5
    try show wpS _ _ _ _ _ _
    try walk_at""
    refine⟨e5,?_,_,_,rfl⟩;rw[Jb,List.flatMap_append];have:(List.range cs.length).filter (A8 cs v rs (fO ro))=F (fO ro):=by rw[<- lI];rfl
    rw[this] at R5;simpa using R5
  ·obtain⟨e4,R4,z6,z7,rfl⟩:=q;rw[ao,qz,bK] at R4
   try show wpS _ _ _ _ _ _
   walk_at"";exact⟨e2.trans e4,g'.length,_,_,_,_,ll,R4,rfl⟩
 ·obtain⟨e2,l,z4,z5,z6,z7,hl,R2,rfl⟩:=q;rw[j7] at R2
  try show wpS _ _ _ _ _ _
  walk_at"";exact h l g' e2 hl R2
end
def unset(n s:Nat):List Nat:=(List.range n).filter λp=>!s.testBit p
def fE(q:Nat->Nat->Bool):Nat->List Nat->Bool
 |_,[]=>true
 |s,p::r=>q s p&&fE q (s |||2 ^ p) r
theorem Gp{α β:Type}{f:α->List β}{q:α->Bool}:∀l:List α,(l.filter q).flatMap f=l.flatMap λx=>if q x=true then f x else[]
 |[]=>rfl
 |x::r=>by
  rw[cu,<- Gp r];cases h:q x
  ·rw[List.filter_cons_of_neg (by rw[h];decide),aC (by decide)]
   rfl
  ·rw[List.filter_cons_of_pos h,aK rfl,cu]
theorem Gq{α β:Type}{f:α->List β}{q:β->Bool}:∀l:List α,(l.flatMap f).filter q=l.flatMap λx=>(f x).filter q
 |[]=>rfl
 |x::r=>by rw[cu,dD,Gq r,cu]
theorem Gy{n:Nat}{F F':Nat->List Nat}{q:Nat->Nat->Bool}(hF:FG n F)(hq:∀s,F' s=(F s).filter (q s)):∀(m s:Nat),2 ^ n-s<=m->s<2 ^ n->i8 n F' s=(i8 n F s).filter (fE q s)
 |0,s,hm,hs=>by omega
 |m+1,s,hm,hs=>by
  have KS:FG n F':=λs p hp=>hF s p (bh.mp (hq s▸hp)).1;by_cases e:s=2 ^ n-1
  ·rw[O7 e,O7 e]
   rfl
  ·rw[X7 KS hs e,X7 hF hs e,hq,Gp,Gq];refine C4 λp hp=>?_;have kK:=hF s p hp;have ih:=Gy hF hq m (s |||2 ^ p) (by have:=ug kK.2;omega) (Q6 hs kK.1);rw[List.filter_map];cases Dj:q s p
   ·rw[aC (by decide)];have:(fE q s ∘ λx=>p::x)=λ_=>false:=by funext x;simp[fE,Dj]
    rw[this];simp
   ·rw[aK rfl,ih];have:(fE q s ∘ λx=>p::x)=fE q (s |||2 ^ p):=by funext x;simp[fE,Dj]
    rw[this]
theorem Ai{q:Nat->Nat->Bool}:∀(o pre:List Nat),fE q (fO pre) o=true↔∀(i p:Nat),o[i]?=some p->q (fO (pre++o.take i)) p=true
 |[],pre=>by simp[fE]
 |x::r,pre=>by
  rw[fE,<- Ij,aO,Ai r (pre++[x])];constructor
  ·rintro⟨h1,h2⟩ i p hp;cases i with
   |zero =>
    cases hp;simpa using h1
   |succ i =>
    have:=h2 i p (by simpa using hp);simpa using this
  ·intro h;refine⟨by simpa using h 0 x rfl,λi p hp=>?_⟩;have:=h (i+1) p (by simpa using hp);simpa using this
theorem Wf{a b:Nat->Nat->Bool}(h:∀s p,a s p=b s p)(s:Nat)(o:List Nat):fE a s o=fE b s o:=by rw[show a=b from funext λs=>funext λp=>h s p]
def k6(cs:List a9)(r:dR)(s p:Nat):Bool:=!meant cs r.w r.y p||(List.range cs.length).any λi=>s.testBit i&&meant cs r.w r.x i
def vL(cs:List a9)(v:Int)(s p:Nat):Bool:=!F0 cs s.testBit p&&(!C9 cs s.testBit p&&!decide (v<nK cs s.testBit p))
theorem QW(cs:List a9)(v:Int)(rs:List dR)(s p:Nat):decide (fault cs v rs s.testBit p="")=(vL cs v s p&&rs.all λr=>k6 cs r s p):=by
 have en:(rs.all λr=>k6 cs r s p)=L7 cs rs s.testBit p:=rfl;rw[en];unfold fault vL;cases F0 cs s.testBit p
 ·cases C9 cs s.testBit p
  ·by_cases h:v<nK cs s.testBit p
   ·rw[aC (by decide),aC (by decide),aK h,az h];simp only[Bool.not_true,Bool.and_false,Bool.false_and]
    decide +kernel
   ·rw[aC (by decide),aC (by decide),aC h,aE h];cases L7 cs rs s.testBit p<;>decide +kernel
  ·rw[aC (by decide),aK rfl];simp only[Bool.not_true,Bool.false_and,Bool.and_false]
   decide +kernel
 ·rw[aK rfl];simp only[Bool.not_true,Bool.false_and]
  decide +kernel
theorem FZ(cs:List a9)(v:Int)(rs:List dR)(s:Nat):k9 cs v rs s=(unset cs.length s).filter (λp=>vL cs v s p&&rs.all λr=>k6 cs r s p):=by
 unfold k9 unset;rw[List.filter_filter];refine List.filter_congr λp _=>?_;unfold A8;rw[QW,Bool.and_comm]
theorem Xq(cs:List a9)(v:Int)(rs mR:List dR):i8 cs.length (k9 cs v (rs++mR)) 0=(i8 cs.length (k9 cs v rs) 0).filter (fE (λs p=>mR.all λr=>k6 cs r s p) 0):=by
 refine Gy (C3 cs v rs) (λs=>?_) _ 0 (aw _) (Nat.two_pow_pos _);rw[FZ,FZ,List.filter_filter];refine List.filter_congr λp _=>?_;rw[List.all_append];cases vL cs v s p<;>cases (rs.all λr=>k6 cs r s p)<;>simp
theorem FE{n:Nat}{F:Nat->List Nat}(hF:FG n F){o:List Nat}(h:o∈i8 n F 0):o.length=n/\o.Nodup/\∀i∈o,i<n:=by
 rw[<- Av hF] at h;exact K7 hF h
def u6(r:dR):dR:=⟨r.w,r.y,r.x⟩
theorem Zc{cs:List a9}{r:dR}{o:List Nat}(hl:o.length=cs.length)(nd:o.Nodup)(dj:∀i∈o,i<cs.length)(hg:l6 cs r=true):fE (k6 cs (u6 r)) 0 o=!fE (k6 cs r) 0 o:=by
 have Ct:∀r:dR,fE (k6 cs r) 0 o=true↔∀(i p:Nat),o[i]?=some p->meant cs r.w r.y p=true->∃j∈o.take i,meant cs r.w r.x j=true:=λr=>by
  have:=Ai (q:=k6 cs r) o [];rw[show fO []=0 from rfl] at this;rw[this];refine forall_congr' λi=>forall_congr' λp=>?_;refine⟨λh hp hm=>?_,λh hp=>?_⟩
  ·have:=h hp;unfold k6 at this;rw[hm,Bool.not_true,eQ,aT] at this;obtain⟨j,_,hj⟩:=this;rw[aO,List.nil_append,E8,bN] at hj;exact⟨j,hj.1,hj.2⟩
  ·unfold k6;cases hm:meant cs r.w r.y p with
   |false=>rfl
   |true =>
    obtain⟨j,hj,hx⟩:=h hp hm;rw[Bool.not_true,eQ,aT];exact⟨j,aM.mpr (dj j (List.mem_of_mem_take hj)),by rw[List.nil_append,E8,az hj,hx];rfl⟩
 have Mh:∀j,¬(meant cs r.w r.x j=true/\meant cs r.w r.y j=true):=λj ⟨h1,h2⟩=>by
  have Dc:r.x≠r.y:=by
   unfold l6 at hg;rw[aO,Bool.not_eq_true',cz] at hg;exact hg.1
  unfold meant at h1 h2;cases hw:r.w<;>rw[hw] at h1 h2<;>exact Dc ((aZ h1).symm.trans (aZ h2))
 have ne:∀x,(fR cs r.w x).isEmpty=false->∃(i p:Nat),o[i]?=some p/\meant cs r.w x p=true:=λx hx=>by
  cases e:fR cs r.w x with
  |nil=>rw[e] at hx;cases hx
  |cons p _ =>
   have hp:p∈fR cs r.w x:=by rw[e];simp
   obtain⟨h1,h2⟩:=bh.mp hp;obtain⟨i,hi⟩:=bL.mp (Bw nd hl dj (aM.mp h1));exact⟨i,p,hi,h2⟩
 unfold l6 at hg;simp only[Bool.and_eq_true,Bool.not_eq_true'] at hg;obtain⟨ix,px,oE,Ke⟩:=ne r.x hg.2.1;obtain⟨iy,py,Kr,Kd⟩:=ne r.y hg.2.2;have least:∀(P:Nat->Prop) (n:Nat),P n->∃m,P m/\∀k,k<m->¬P k:=λP n hn=>by
  have:∀n,P n->∃m,P m/\∀k,k<m->¬P k:=by
   intro n
   induction n using Nat.strongRecOn with
   |_ n ih =>
    intro hn;by_cases h:∃k,k<n/\P k
    ·obtain⟨k,h1,h2⟩:=h;exact ih k h1 h2
    ·exact⟨n,hn,λk hk hp=>h ⟨k,hk,hp⟩⟩
  exact this n hn
 obtain⟨fx,⟨ax,yI,kP⟩,lx⟩:=least (λi=>∃p,o[i]?=some p/\meant cs r.w r.x p=true) ix ⟨px,oE,Ke⟩;obtain⟨fy,⟨ay,vp,oz⟩,ly⟩:=least (λi=>∃p,o[i]?=some p/\meant cs r.w r.y p=true) iy ⟨py,Kr,Kd⟩;have Dc:fx≠fy:=λz=>by
  subst z;rw[yI] at vp;cases vp;exact Mh _ ⟨kP,oz⟩
 have tk:∀{i j:Nat} {p:Nat},o[i]?=some p->i<j->p∈o.take j:=λ{i j p} h gf=>bL.mpr ⟨i,by rw[cv gf];exact h⟩;have back:∀{j p:Nat},p∈o.take j->∃i,i<j/\o[i]?=some p:=λ{j p} h=>by
  obtain⟨i,hi⟩:=bL.mp h;have gf:i<j:=by
   have:=(ak.mp hi).1;simp at this;omega
  rw[cv gf] at hi;exact⟨i,gf,hi⟩
 have k1:fE (k6 cs r) 0 o=true↔fx<fy:=by
  rw[Ct r];constructor
  ·intro h;obtain⟨j,hj,hm⟩:=h fy ay vp oz;obtain⟨i,hi,ho⟩:=back hj;rcases cQ i fx with z|z
   ·exact absurd ⟨j,ho,hm⟩ (lx i z)
   ·omega
  ·intro h i p hp hm;refine⟨ax,tk yI ?_,kP⟩;rcases cQ i fy with z|z
   ·exact absurd ⟨p,hp,hm⟩ (ly i z)
   ·omega
 have k2:fE (k6 cs (u6 r)) 0 o=true↔fy<fx:=by
  rw[Ct (u6 r)];constructor
  ·intro h;obtain⟨j,hj,hm⟩:=h fx ax yI kP;obtain⟨i,hi,ho⟩:=back hj;rcases cQ i fy with z|z
   ·exact absurd ⟨j,ho,hm⟩ (ly i z)
   ·omega
  ·intro h i p hp hm;refine⟨ay,tk vp ?_,oz⟩;rcases cQ i fx with z|z
   ·exact absurd ⟨p,hp,hm⟩ (lx i z)
   ·omega
 rw[aV,k2,Bool.not_eq_true',<- Bool.not_eq_true,k1];omega
def many(cs:List a9)(v:Int)(rs:List dR):Nat:=(i8 cs.length (k9 cs v rs) 0).length
theorem Aq(cs:List a9)(v:Int)(rs:List dR)(r:dR):many cs v (rs++[r])=((i8 cs.length (k9 cs v rs) 0).filter (fE (k6 cs r) 0)).length:=by
 unfold many;rw[Xq]
 congr 2
 funext o
 exact Wf (λs p=>by simp) 0 o
theorem V0{α:Type}{q:α->Bool}:∀l:List α,(l.filter q).length+(l.filter λx=>!q x).length=l.length
 |[]=>rfl
 |x::r=>by
  have:=V0 (q:=q) r;cases h:q x
  ·rw[List.filter_cons_of_neg (by rw[h];decide),List.filter_cons_of_pos (by rw[h];rfl)];simp;omega
  ·rw[List.filter_cons_of_pos h,List.filter_cons_of_neg (by rw[h];decide)];simp;omega
theorem VX{cs:List a9}{v:Int}{rs:List dR}{r:dR}(hg:l6 cs r=true):many cs v (rs++[r])+many cs v (rs++[u6 r])=many cs v rs:=by
 rw[Aq,Aq];have:(i8 cs.length (k9 cs v rs) 0).filter (fE (k6 cs (u6 r)) 0)=(i8 cs.length (k9 cs v rs) 0).filter λo=>!fE (k6 cs r) 0 o:=by
  refine List.filter_congr λo ho=>?_;obtain⟨h1,h2,h3⟩:=FE (C3 cs v rs) ho;exact Zc h1 h2 h3 hg
 rw[this];exact V0 _
def AE:ba:=⟨3,3,(.seq (.ifs (.eB (.fg (.call 74 (fK aN bf bp)))) (.seq (.raise "NoDie" (eL (ff "no coin is of that die"))) .pass) .pass) .pass)⟩
def O0:ba:=⟨1,2,(.seq (.set 1 (.call 117 (eL aN))) (.seq (.ifs (du .Eq (cK bf (dg (.un .USub) (bj 1))) (dg (.fld "full") aN)) (.seq (.ret (.lit .bx)) .pass) .pass) (.seq (.ret bf) .pass)))⟩
def V9:ba:=⟨3,3,(.seq (.ifs (du .Eq bf (ff "coin")) (.seq (.expr (.call 83 (dz aN bp))) .pass) (.seq (.expr (.call 75 (fK aN bf bp))) .pass)) .pass)⟩
def AQ:ba:=⟨4,4,(.seq (.ifs (du .NotIn bf (.lit (.tup [(.str "coin"),(.str "lower"),(.str "upper")]))) (.seq (.raise "BadSide" (eL (ff "asked about are coins, lower dies or upper dies"))) .pass) .pass) (.seq (.expr (.call 136 (fK aN bf bp))) (.seq (.expr (.call 136 (fK aN bf bJ))) (.seq (.ifs (du .Eq bp bJ) (.seq (.raise "SameOne" (eL (ff "two unlike ones are asked about"))) .pass) .pass) .pass))))⟩
def ur:ba:=⟨6,10,(.seq (.expr (.call 98 (fK aN bf bp))) (.seq (.expr (.call 137 (lP aN bJ cT dq))) (.seq (.set 6 (.make "Bounds" 113 (fK aN bf (bX (.bin .Add) bp (dg .lst (.prim .tup (fK bJ cT dq))))))) (.seq (.set 7 (.make "Bounds" 113 (fK aN bf (bX (.bin .Add) bp (dg .lst (.prim .tup (fK bJ dq cT))))))) (.seq (.set 8 (.call 124 (eL eU))) (.seq (.set 9 (.call 124 (eL fu))) (.seq (.ifs (.dw (du .Is ip (.lit .bx)) (du .Is lU (.lit .bx))) (.seq (.raise "NoOrder" (eL (ff "there is no order"))) .pass) .pass) (.seq (.ifs (du .Is lU (.lit .bx)) (.seq (.ret (bX .tup (ff "first") (.call 129 (eL fu)))) .pass) .pass) (.seq (.ifs (du .Is ip (.lit .bx)) (.seq (.ret (bX .tup (ff "later") (.call 129 (eL eU)))) .pass) .pass) (.seq (.ret (.prim .tup (fK (ff "either") ip lU))) .pass))))))))))⟩
def Af:ba:=⟨6,6,(.seq (.ret (cK (.call 138 (tF aN bf bp bJ cT dq)) (bj 0))) .pass)⟩
structure xf(T:Nat->Option ba):Prop where
 Lg:T 75=some AE
 yS:T 83=some O2
 kZ:T 124=some O1
 oU:T 129=some O0
 yY:T 136=some V9
 yX:T 137=some AQ
 yW:T 138=some ur
 yV:T 139=some Af
section
variable{T:Nat->Option ba}{k d:Nat}{g g':G}{Q:KD}{E:KX}{a b c r:Nat}{cs:List a9}{rs:List dR}{v:Int}
theorem Gj{K:G->Prop}(hT:gE T)(ha:g[a]?=some (.lst (cs.map a9.d)))(hz:cs.length<=9)(hg:cs.all v5=true)(hB:∀c∈cs,CB c)(hc:g[c]?=some (.lst (j4 rs)))(hr:rs.length<=900)(h:∀g',Ex g g'->Bd g' g.length cs v rs->K g'):b9 T (k+9) 113 [.ref g.length,.ref a,.int v,.ref c] (g++[.ins "Bounds" []]) (λd g2=>d=.bx/\K g2) E:=by
 have x1:=Ex.snoc g (O.ins "Bounds" []);refine VE (k:=k) hT (x1.at ha) hz hg hB (x1.at hc) hr b0 λg2 l2 o2 B2=>?_;refine⟨rfl,h g2 ⟨by simp at l2;omega,λi hi=>?_⟩ B2⟩;rw[o2 i (by simp;omega) (by omega),x1.old i hi]
def B4(cs:List a9)(w:RW)(x:Int):Bool:=!(fR cs w x).isEmpty
theorem XB{cs:List a9}{x:Int}(h:B4 cs .dN x=true):0<=x/\x<cs.length:=by
 unfold B4 at h;cases e:fR cs .dN x with
 |nil=>rw[e] at h;cases h
 |cons p _ =>
  have hp:p∈fR cs .dN x:=by rw[e];simp
  obtain⟨h1,h2⟩:=bh.mp hp;have:=aM.mp h1;have:=aZ h2;omega
theorem Y5(hT:gE T)(hF:xf T){w:RW}{x:Int}(ha:g[a]?=some (.lst (cs.map a9.d)))(hz:cs.length<=9)(ht:B4 cs w x=true)(h:∀g',Ex g g'->Q .bx g'):b9 T (k+5) 136 [.ref a,.str w.s,.int x] g Q E:=by
 refine call_of hF.yY rfl ?_;dsimp[V9,c8,List.replicate];walk_at"";have iD:w≠.dN->b9 T (k+4) 75 [.ref a,.str w.s,.int x] g (λ_ g1=>Q .bx g1) E:=λhw=>by
  refine call_of hF.Lg rfl ?_;dsimp[AE,c8,List.replicate];walk_at"";refine K8 (k:=k) hT.nf hT.jE hT.nr ha (by omega) λg1 b e1 _ hb=>?_;walk_at"";refine UR (a7 hb) ?_;have:(b7 (fR cs w x)).isEmpty=(fR cs w x).isEmpty:=by unfold b7;cases fR cs w x<;>rfl
  rw[this];have ow:(fR cs w x).isEmpty=false:=by unfold B4 at ht;simpa using ht
  rw[ow];walk_at"";exact h _ e1
 cases w with
 |dN =>
  refine gh (by decide +kernel) ?_;walk_at"";have:=XB ht;exact VG (k:=k+1) hT.nf hF.yS ha (λ_ _=>h _ (Ex.refl _)) (λz=>absurd ⟨this.1,by rw[ao];exact this.2⟩ z)
 |lower =>
  refine fj (by decide +kernel) ?_;walk_at"";exact iD (λz=>by cases z)
 |upper =>
  refine fj (by decide +kernel) ?_;walk_at"";exact iD (λz=>by cases z)
theorem Vv(hT:gE T)(hF:xf T){w:RW}{x y:Int}(ha:g[a]?=some (.lst (cs.map a9.d)))(hz:cs.length<=9)(hx:B4 cs w x=true)(hy:B4 cs w y=true)(hn:x≠y)(h:∀g',Ex g g'->Q .bx g'):b9 T (k+6) 137 [.ref a,.str w.s,.int x,.int y] g Q E:=by
 refine call_of hF.yX rfl ?_;dsimp[AQ,c8,List.replicate];walk_at"";refine pN (in_words ?_);walk_at"";refine Y5 (k:=k) hT hF ha hz hx λg1 e1=>?_;walk_at"";refine Y5 (k:=k) hT hF (e1.at ha) hz hy λg2 e2=>?_;walk_at"";refine fj (aE hn) ?_;walk_at"";exact h _ (e1.trans e2)
theorem VN(hT:gE T)(hF:TF T)(hW:T 117=some C0)(oU:T 129=some O0)(B:Bd g b cs v rs)(hz:cs.length<=9)(hr:rs.length<=900)(h:∀(L:List Nat) l g',Ex g g'->g.length<=l->g'[l]?=some (.lst (b7 L))->L.Pairwise (· < ·)->(∀s,s∈L↔iF (k9 cs v rs) s)->L.length<=512->(iF (k9 cs v rs) (2 ^ cs.length-1)->Q .bx g')/\(¬iF (k9 cs v rs) (2 ^ cs.length-1)->Q (.ref l) g')):b9 T (k+7) 129 [.ref b] g Q E:=by
 refine call_of oU rfl ?_;dsimp[O0,c8,List.replicate];obtain⟨w0,l0,dd,nb,f1,f2,f3,f4,f5⟩:=B.ex;walk_at"";refine Gg (k:=k) hT hF hW B hz hr λL l g1 e1 hl h1 pw hL sY=>?_;obtain⟨JT,ya⟩:=h L l g1 e1 hl h1 pw hL sY;have h0:0∈L:=(hL 0).mpr .zero;have JU:=List.length_pos_of_mem h0;have kQ:=ai (show L.length-1<L.length by omega);generalize ou:L[L.length-1]=z at kQ;have VD:fI (b7 L) (-1)=some (.int (z:Nat)):=by
  unfold fI jx;have il:(b7 L).length=L.length:=by simp[b7]
  rw[aC (by decide),il,aK (by(clear hz hr hl ou;omega))];show(b7 L)[(-1+(L.length:Int)).toNat]?=_;rw[show(-1+(L.length:Int)).toNat=L.length-1 by(clear hz hr hl ou;omega),b7,ag,kQ]
  rfl
 have CY:z∈L:=aF kQ;have kP:∀x∈L,x<=z:=λx hx=>by
  obtain⟨i,hi,rfl⟩:=bG.mp hx;rcases cQ i (L.length-1) with y|y
  ·have:=List.pairwise_iff_getElem.mp pw i (L.length-1) hi (by omega) y;omega
  ·have:i=L.length-1:=by(clear hz hr hl ou;omega)
   subst this;omega
 have hzl:=((hL z).mp CY).lt (C3 cs v rs);walk_at"";refine n5 (a7 h1) VD ?_;walk_at"";refine T8 (e1.at f1) rfl ?_;walk_at"";have ed:decide (((z:Nat):Int)=((2 ^ cs.length-1:Nat):Int))=decide (z=2 ^ cs.length-1):=dk.mpr (by(clear hz hr hl ou;omega));rw[ed];refine if2 (λc1=>?_) (λc1=>?_)
 ·walk_at"";exact JT (c1▸(hL z).mp CY)
 ·walk_at"";refine ya λhR=>c1 ?_;have:=kP _ ((hL _).mpr hR);omega
theorem Gs{r:dR}(h:l6 cs r=true):B4 cs r.w r.x=true/\B4 cs r.w r.y=true/\r.x≠r.y:=by
 unfold l6 at h;simp only[Bool.and_eq_true,Bool.not_eq_true',decide_eq_false_iff_not] at h;unfold B4;rw[h.2.1,h.2.2];exact⟨rfl,rfl,h.1⟩
def P4(m1 m2:Nat):Str:=if m2=0 then "first" else if m1=0 then "later" else "either"
theorem QC(hT:gE T)(oQ:T 42=some C2)(tq:T 98=some J9)(hF:TF T)(hW:TW T)(hN:TN T)(hI:xf T){r:dR}(ha:g[a]?=some (.lst (cs.map a9.d)))(hz:cs.length<=9)(hg:cs.all v5=true)(hB:∀c∈cs,CB c)(hv:1<=v/\v<=9)(hc:g[c]?=some (.lst (j4 rs)))(hr:rs.length<=800)(hR:rs.all (l6 cs)=true)(jo:l6 cs r=true)(h1:many cs v (rs++[r])=0->many cs v (rs++[u6 r])=0->∀g',Ex g g'->E ⟨"NoOrder"⟩ g')(h2:¬(many cs v (rs++[r])=0/\many cs v (rs++[u6 r])=0)->∀g',Ex g g'->Q (.str (P4 (many cs v (rs++[r])) (many cs v (rs++[u6 r])))) g'):b9 T (k+13) 139 [.ref a,.int v,.ref c,.str r.w.s,.int r.x,.int r.y] g Q E:=by
 refine call_of hI.yV rfl ?_;dsimp[Af,c8,List.replicate];walk_at"";refine call_of hI.yW rfl ?_;dsimp[ur,c8,List.replicate];walk_at"";refine VF (k:=k+4) hT oQ tq ha (by omega) hc (by omega) (λz=>by omega) (λ_ z=>by rw[hg] at z;cases z) (λ_ _ z=>absurd hv z) (λ_ _ _ z=>by rw[hR] at z;cases z) λ_ _ _ _ g1 e1=>?_;walk_at"";obtain⟨tx,ty,CI⟩:=Gs jo;refine Vv (k:=k+5) hT hI (e1.at ha) hz tx ty CI λg2 e2=>?_;have lN:=e1.trans e2;walk_at"";have s3:=Ex.snoc g2 (O.lst (j4 [r]));have sQ:∀r:dR,j4 rs++j4 [r]=j4 (rs++[r]):=λr=>by simp[j4]
 refine qI ((Ex.snoc _ _).at (lN.at hc)) b0 (by simp[j4];omega) ?_;rw[show[D.tup [D.str r.w.s,D.int r.x,D.int r.y]]=j4 [r] from rfl,sQ];walk_at"";have e4:=(Ex.snoc g2 (O.lst (j4 [r]))).trans (Ex.snoc _ (O.lst (j4 (rs++[r]))));have c4:=b0 (g:=g2++[O.lst (j4 [r])]) (o:=O.lst (j4 (rs++[r])));generalize (g2++[O.lst (j4 [r])])++[O.lst (j4 (rs++[r]))]=g4 at *;have vD:=lN.trans e4;refine Gj (k:=k+2) hT (vD.at ha) hz hg hB c4 (by simp;omega) λg5 e5 B5=>?_;have tN:=vD.trans e5;generalize g4.length=b1 at *;walk_at"";refine qI ((Ex.snoc _ _).at (tN.at hc)) b0 (by simp[j4];omega) ?_;rw[show[D.tup [D.str r.w.s,D.int r.y,D.int r.x]]=j4 [u6 r] from rfl,sQ];walk_at"";have e6:=(Ex.snoc g5 (O.lst (j4 [u6 r]))).trans (Ex.snoc _ (O.lst (j4 (rs++[u6 r]))));have c6:=b0 (g:=g5++[O.lst (j4 [u6 r])]) (o:=O.lst (j4 (rs++[u6 r])));generalize (g5++[O.lst (j4 [u6 r])])++[O.lst (j4 (rs++[u6 r]))]=g6 at *;have Ee:=tN.trans e6;refine Gj (k:=k+2) hT (Ee.at ha) hz hg hB c6 (by simp;omega) λg7 e7 B7=>?_;have Mc:=Ee.trans e7;have IM:=B5.at (e6.trans e7);generalize g6.length=b2 at *;walk_at"";have qb:(rs++[r]).length<=900:=by simp;omega
 have rQ:(rs++[u6 r]).length<=900:=by simp;omega
 have mz:∀{rs:List dR},i8 cs.length (k9 cs v rs) 0=[]↔many cs v rs=0:=λ{rs}=>by unfold many;exact fc.symm
 have nz:∀{rs:List dR} {o:List Nat},(i8 cs.length (k9 cs v rs) 0)[0]?=some o->many cs v rs≠0:=λ{rs o} h z=>by rw[mz.mpr z] at h;cases h
 generalize vh:many cs v (rs++[r])=m1 at *;generalize sC:many cs v (rs++[u6 r])=m2 at *;have rest:∀(N:Ends) (E:KX) (x y:D) g8,Ex g7 g8->((m1=0/\x=.bx)\/(m1≠0/\∃i,x=.ref i))->((m2=0/\y=.bx)\/(m2≠0/\∃i,y=.ref i))->(m1=0->m2=0->∀g',Ex g g'->E ⟨"NoOrder"⟩ g')->(¬(m1=0/\m2=0)->∀g' l,Ex g g'->l≠[]->l.head?=some (.str (P4 m1 m2))->N.rt (.tup l) g')->wpS (b9 T (k+11)) (match ur.body with|.seq _ (.seq _ (.seq _ (.seq _ (.seq _ (.seq _ b)))))=>b|x=>x) N [some (.ref a),some (.int v),some (.ref c),some (.str r.w.s),some (.int r.x),some (.int r.y),some (.ref b1),some (.ref b2),some x,some y] g8 E:=by
  intro N E x y g8 e8 hx hy h1 h2;have vC:=Mc.trans e8;dsimp[ur];have mT:∀{b mR} {Q:KD} {E:KX} {g8:G},Ex g g8->Bd g8 b cs v mR->mR.length<=900->(∀g' x,Ex g g'->Q x g')->b9 T (k+11) 129 [.ref b] g8 Q E:=λe8 B hl hN =>
   VN (k:=k+4) hT hF hW.mn hI.oU B hz hl λL l g9 e9 _ _ _ _ _=>⟨λ_=>hN _ _ (e8.trans e9),λ_=>hN _ _ (e8.trans e9)⟩
  rcases hx with⟨z1,rfl⟩|⟨z1,i1,rfl⟩
  ·rcases hy with⟨z2,rfl⟩|⟨z2,i2,rfl⟩
   ·walk_at"";exact h1 z1 z2 _ vC
   ·walk_at"";refine mT vC (IM.at e8) qb λg' x e'=>?_;walk_at"";exact h2 (λz=>z2 z.2) _ _ e' (by simp) (by unfold P4;rw[aC z2,aK z1];rfl)
  ·rcases hy with⟨z2,rfl⟩|⟨z2,i2,rfl⟩
   ·walk_at"";refine mT vC (B7.at e8) rQ λg' x e'=>?_;walk_at"";exact h2 (λz=>z1 z.1) _ _ e' (by simp) (by unfold P4;rw[aK z2];rfl)
   ·walk_at"";exact h2 (λz=>z1 z.1) _ _ vC (by simp) (by unfold P4;rw[aC z2,aC z1];rfl)
 have fin:¬(m1=0/\m2=0)->∀g' (l:List D),Ex g g'->l≠[]->l.head?=some (.str (P4 m1 m2))->aX (b9 T (k+12)) (.lit (.int 0)) [some (.ref a),some (.int v),some (.ref c),some (.str r.w.s),some (.int r.x),some (.int r.y)] g' (λy g2=>cH .ix [.tup l,y] g2 Q) E:=λdH g' l e' hl hh=>by
  walk_at"";refine p8 (d:=.str (P4 m1 m2)) (x4 (j:=0) (by cases l with|nil=>exact absurd rfl hl|cons x _=>simpa using hh)) ?_;exact h2 dH _ e'
 refine M8 (k:=k+3) hT hF hW hN hI.kZ IM hz qb (λho g8 e8=>?_) (λo i g8 ho e8 _ _=>?_)
 ·have z1:m1=0:=vh▸mz.mp ho;walk_at"";refine M8 (k:=k+3) hT hF hW hN hI.kZ (B7.at e8) hz rQ (λhU g9 e9=>?_) (λo2 i2 g9 hU e9 _ _=>?_)
  ·exact rest _ _ _ _ g9 (e8.trans e9) (.inl ⟨z1,rfl⟩) (.inl ⟨sC▸mz.mp hU,rfl⟩) h1 fin
  ·exact rest _ _ _ _ g9 (e8.trans e9) (.inl ⟨z1,rfl⟩) (.inr ⟨sC▸nz hU,_,rfl⟩) h1 fin
 ·have z1:m1≠0:=vh▸nz ho;walk_at"";refine M8 (k:=k+3) hT hF hW hN hI.kZ (B7.at e8) hz rQ (λhU g9 e9=>?_) (λo2 i2 g9 hU e9 _ _=>?_)
  ·exact rest _ _ _ _ g9 (e8.trans e9) (.inr ⟨z1,_,rfl⟩) (.inl ⟨sC▸mz.mp hU,rfl⟩) h1 fin
  ·exact rest _ _ _ _ g9 (e8.trans e9) (.inr ⟨z1,_,rfl⟩) (.inr ⟨sC▸nz hU,_,rfl⟩) h1 fin
end
def wD:ba:=⟨2,2,(.seq (.ifs (du .Eq bf (ff "coin")) (.seq (.ret (dg .gU (dg .len aN))) .pass) .pass) (.seq (.ret (dg .sset (.comp [1] 3 (.one 2) (.eK aN) .no (cK bp (.ite (du .Eq aN (ff "lower")) (bj 0) (bj 2)))))) .pass))⟩
def vP:ba:=⟨4,5,(.seq (.ifs (du .Eq bp (ff "coin")) (.seq (.ret (.dW .index bf (eL bJ))) .pass) .pass) (.seq (.set 4 (.ite (du .Eq bp (ff "lower")) (bj 0) (bj 2))) (.seq (.ret (dg .min (.comp [4,0,1,3] 6 (.one 5) (.dX (dg .len bf)) (du .Eq (cK (cK bf (cK bp dq)) aN) bJ) dq))) .pass)))⟩
theorem Yz{cs:List a9}{o:List Nat}(dj:∀i∈o,i<cs.length)(r:dR):fE (k6 cs r) 0 o=true↔∀(i p:Nat),o[i]?=some p->meant cs r.w r.y p=true->∃j∈o.take i,meant cs r.w r.x j=true:=by
 have:=Ai (q:=k6 cs r) o [];rw[show fO []=0 from rfl] at this;rw[this];refine forall_congr' λi=>forall_congr' λp=>?_;refine⟨λh hp hm=>?_,λh hp=>?_⟩
 ·have:=h hp;unfold k6 at this;rw[hm,Bool.not_true,eQ,aT] at this;obtain⟨j,_,hj⟩:=this;rw[aO,List.nil_append,E8,bN] at hj;exact⟨j,hj.1,hj.2⟩
 ·unfold k6;cases hm:meant cs r.w r.y p with
  |false=>rfl
  |true =>
   obtain⟨j,hj,hx⟩:=h hp hm;rw[Bool.not_true,eQ,aT];exact⟨j,aM.mpr (dj j (List.mem_of_mem_take hj)),by rw[List.nil_append,E8,az hj,hx];rfl⟩
def v9(cs:List a9)(w:RW)(x:Int)(o:List Nat):Nat:=o.findIdx (meant cs w x)
section
variable{cs:List a9}{w:RW}{x:Int}{o:List Nat}
theorem HG(h:∃p∈o,meant cs w x p=true):∃p,o[v9 cs w x o]?=some p/\meant cs w x p=true:=by
 have hl:o.findIdx (meant cs w x)<o.length:=List.findIdx_lt_length.mpr h;exact⟨_,ai hl,List.findIdx_getElem (w:=hl)⟩
theorem Z4{i p:Nat}(h:o[i]?=some p)(hm:meant cs w x p=true):v9 cs w x o<=i:=by
 refine Nat.not_lt.mp λdj=>?_;have:=List.not_of_lt_findIdx dj;obtain⟨hi,he⟩:=ak.mp h;rw[he,hm] at this;exact Bool.noConfusion this
theorem Wb{r:dR}(dj:∀i∈o,i<cs.length)(hy:∃p∈o,meant cs r.w r.y p=true):fE (k6 cs r) 0 o=decide (v9 cs r.w r.x o<v9 cs r.w r.y o):=by
 rw[aV,bN,Yz dj];constructor
 ·intro h;obtain⟨p,hp,hm⟩:=HG hy;obtain⟨j,hj,Kg⟩:=h _ p hp hm;obtain⟨i,hi⟩:=bL.mp hj;have gf:i<v9 cs r.w r.y o:=by
   have:=(ak.mp hi).1;simp at this;omega
  rw[cv gf] at hi;exact dC (Z4 hi Kg) gf
 ·intro h i p hp hm;have hle:=Z4 hp hm;have hx:v9 cs r.w r.x o<o.length:=by have:=(ak.mp hp).1;omega
  exact⟨o[v9 cs r.w r.x o],bL.mpr ⟨v9 cs r.w r.x o,by rw[cv (by omega)];exact ai hx⟩,List.findIdx_getElem (w:=hx)⟩
theorem Ax(nd:o.Nodup)(hl:o.length=cs.length)(dj:∀i∈o,i<cs.length)(h:B4 cs w x=true):∃p∈o,meant cs w x p=true:=by
 unfold B4 at h;cases e:fR cs w x with
 |nil=>rw[e] at h;cases h
 |cons p _ =>
  have hp:p∈fR cs w x:=by rw[e];simp
  obtain⟨h1,h2⟩:=bh.mp hp;exact⟨p,Bw nd hl dj (aM.mp h1),h2⟩
theorem Wk{r:dR}(hx:B4 cs r.w r.x=true)(hy:B4 cs r.w r.y=true)(hn:r.x≠r.y):l6 cs r=true:=by
 unfold l6;unfold B4 at hx hy;simp only[Bool.and_eq_true,Bool.not_eq_true',decide_eq_false_iff_not];simp only[Bool.not_eq_true'] at hx hy;exact⟨hn,hx,hy⟩
end
theorem Wz{n:Nat}{F:Nat->List Nat}(hF:FG n F)(nd:∀s,(F s).Nodup):∀t,t<=n->(p9 F (t+1)).length<=(p9 F t).length*(n-t):=λt ht=>by
 rw[p9];refine wA λr hr=>?_;rw[ao];obtain⟨g1,g2,g3⟩:=K7 hF hr;have:=Q9 (l:=F (fO r)++r) (m:=List.range n) (cM.mpr ⟨nd _,g2,λx hx y hy z=>?_⟩) λx hx=>?_
 ·simp at this;omega
 ·have:=(hF _ _ hx).2;rw[E8] at this;exact(by simpa using this:x∉r) (z▸hy)
 ·rcases bc.mp hx with z|z
  ·exact aM.mpr (hF _ _ z).1
  ·exact aM.mpr (g3 x z)
theorem YE{cs:List a9}{v:Int}{rs:List dR}(hz:cs.length<=5):(i8 cs.length (k9 cs v rs) 0).length<=120:=by
 rw[<- Av (C3 cs v rs)];have nd:∀s,(k9 cs v rs s).Nodup:=λs=>List.nodup_range.sublist List.filter_sublist;have R:=Wz (C3 cs v rs) nd;have h0:(p9 (k9 cs v rs) 0).length=1:=rfl;generalize cs.length=n at *;generalize k9 cs v rs=F at *;have R0:=R 0;have R1:=R 1;have R2:=R 2;have R3:=R 3;have R4:=R 4;simp only[Nat.reduceAdd,Nat.zero_add] at R0 R1 R2 R3 R4;clear R;have mul:∀{a b c d:Nat},a<=b*c->b<=d->a<=d*c:=λh1 h2=>aG h1 (Nat.mul_le_mul_right _ h2);by_cases n0:n=0
 ·subst n0;omega
 have h1:=mul (R0 (by omega)) (Nat.le_of_eq h0);by_cases n1:n=1
 ·subst n1;omega
 have h2:=mul (R1 (by omega)) h1;by_cases n2:n=2
 ·subst n2;omega
 have h3:=mul (R2 (by omega)) h2;by_cases n3:n=3
 ·subst n3;omega
 have h4:=mul (R3 (by omega)) h3;by_cases n4:n=4
 ·subst n4;omega
 have h5:=mul (R4 (by omega)) h4;obtain rfl:n=5:=by omega
 omega
section
variable{T:Nat->Option ba}{k d:Nat}{g g':G}{Q:KD}{E:KX}{a b c:Nat}{cs:List a9}{rs:List dR}{v:Int}
theorem HH(ml:T 164=some vP){w:RW}{x:Int}{o:List Nat}(ha:g[a]?=some (.lst (cs.map a9.d)))(hb:g[b]?=some (.lst (b7 o)))(dj:∀i∈o,i<cs.length)(hl:o.length<=9)(hx:∃p∈o,meant cs w x p=true)(h:∀g',Ex g g'->Q (.int (v9 cs w x o:Nat)) g'):b9 T (k+1) 164 [.ref a,.ref b,.str w.s,.int x] g Q E:=by
 refine call_of ml rfl ?_;dsimp[vP,c8,List.replicate];walk_at"";obtain⟨p0,yc,yk⟩:=HG hx;have iD:∀(f:Int),(f=0\/f=2)->(∀i c,cs[i]?=some c->meant cs w x i=decide (u7 f c=x))->aX (b9 T k) (.prim .min (.cons (.comp [4,0,1,3] 6 (.one 5) (.dX (.prim .len (.cons (.var 1) .nil))) (.fg (.prim (.cmp .Eq) (.cons (.prim .ix (.cons (.prim .ix (.cons (.var 1) (.cons (.prim .ix (.cons (.var 2) (.cons (.var 5) .nil))) .nil))) (.cons (.var 0) .nil))) (.cons (.var 3) .nil)))) (.var 5)) .nil)) [some (.ref a),some (.ref b),some (.str w.s),some (.int x),some (.int f)] g Q E:=λf hf hm=>by
  walk_at"";refine w6 (a8 T _) (λZ=>∃z4 z5,Z=[some (.int f),some (.ref a),some (.ref b),some (.int x),z4,z5]) (λi=>meant cs w x (o.getD i 0)) (λ(i:Nat)=>.int (i:Nat)) (l:=i3 0 o.length) (k:=.fix (i3 0 o.length)) (λ_ _=>q9) (by rw[j7];omega) ⟨none,none,rfl⟩ (λi d Z g' hd e sh=>?_) (λg' e=>?_) (wY (a8 T _) (by omega) λQ q=>?_)
  ·obtain⟨z4,z5,rfl⟩:=sh;obtain⟨hi,rfl⟩:=x3 hd;rw[eA];have hp:=ai hi;generalize o[i]=p at hp;have gb:=dj p (aF hp);have hc:=ai gb;generalize cs[p]=c at hc;refine f9 ?_
   try show cW _ _ _ _ _ _
   walk_at"";refine n5 (a7 (e.at hb)) (x4 (v:=.int (p:Nat)) (by rw[b7,ag,hp];rfl)) ?_;walk_at"";refine n5 (a7 (e.at ha)) (x4 (v:=c.d) (by rw[ag,hc];rfl)) ?_;walk_at"";refine p8 (E7 hf c) ?_;walk_at"";have ho:o.getD i 0=p:=by simp[List.getD,hp]
   refine⟨by rw[ho,hm p c hc],e,?_⟩;refine if2 (λ_=>?_) (λ_=>⟨_,_,rfl⟩);walk_at"";exact⟨rfl,e,_,_,rfl⟩
  ·refine TV (ns:=((List.range o.length).filter λi=>meant cs w x (o.getD i 0)).map λ(i:Nat)=>(i:Int)) (M:=(v9 cs w x o:Nat)) (a7 (by rw[b0,j7,cb];rfl)) ?_ (λy hy=>?_) (h _ (e.trans (Ex.snoc _ _)))
   ·refine aU.mpr ⟨_,bh.mpr ⟨aM.mpr (ak.mp yc).1,?_⟩,rfl⟩;rw[show o.getD (v9 cs w x o) 0=p0 by simp[List.getD,yc]];exact yk
   ·obtain⟨i,hi,rfl⟩:=aU.mp hy;obtain⟨h1,h2⟩:=bh.mp hi;have hp:=ai (aM.mp h1);generalize o[i]'(aM.mp h1)=p at hp;rw[show o.getD i 0=p by simp[List.getD,hp]] at h2;have:=Z4 hp h2;omega
  ·walk_at"";rw[show(b7 o).length=o.length by simp[b7]];exact q
 cases w with
 |dN =>
  refine gh (by decide +kernel) ?_;walk_at"";refine⟨MN (a7 hb),?_⟩;walk_at"";refine TQ (n:=v9 cs .dN x o) (a7 hb) ⟨?_,rfl,⟨.int (p0:Nat),by rw[b7,ag,yc];rfl,?_⟩,λm z hm hz=>?_⟩ (by simp[b7];omega) (h _ (Ex.refl _))
  ·rw[cg];intro z hz;obtain⟨i,_,rfl⟩:=aU.mp hz
   rfl
  ·have:(p0:Int)=x:=aZ yk;show((p0:Int)==x)=true;exact fb.mpr this
  ·rw[b7,ag,aa] at hz;obtain⟨p,hp,rfl⟩:=hz;show((p:Int)==x)=false;cases e:((p:Int)==x) with
   |false=>rfl
   |true =>
    have:=Z4 (cs:=cs) (w:=.dN) (x:=x) hp (az (fb.mp e));omega
 |lower =>
  refine fj (by decide +kernel) ?_;walk_at"";refine gh (by decide +kernel) ?_;walk_at"";exact iD 0 (.inl rfl) λi c hc=>by unfold meant;rw[u5 hc];rfl
 |upper =>
  refine fj (by decide +kernel) ?_;walk_at"";refine fj (by decide +kernel) ?_;walk_at"";exact iD 2 (.inr rfl) λi c hc=>by unfold meant;rw[u5 hc];rfl
theorem WG(oR:T 163=some wD){w:RW}(ha:g[a]?=some (.lst (cs.map a9.d)))(hz:cs.length<=9)(h:∀(L:List Int) b g',Ex g g'->g'[b]?=some (.lst (L.map .int))->L.length<=9->(∀x∈L,B4 cs w x=true)->Q (.ref b) g'):b9 T (k+1) 163 [.ref a,.str w.s] g Q E:=by
 refine call_of oR rfl ?_;dsimp[wD,c8,List.replicate];walk_at"";have iD:∀(f:Int),(f=0\/f=2)->decide (w.s="lower")=decide (f=0)->(∀i c,cs[i]?=some c->∀x,meant cs w x i=decide (u7 f c=x))->aX (b9 T k) (.prim .sset (.cons (.comp [1] 3 (.one 2) (.eK (.var 0)) .no (.prim .ix (.cons (.var 2) (.cons (.ite (.fg (.prim (.cmp .Eq) (.cons (.var 0) (.cons (.lit (.str "lower")) .nil)))) (.lit (.int 0)) (.lit (.int 2))) .nil)))) .nil)) [some (.ref a),some (.str w.s)] g Q E:=λf hf hw hm=>by
  walk_at"";refine comp_map (a8 T _) (λZ=>∃z1 z2,Z=[some (.str w.s),z1,z2]) (λi=>.int (u7 f (bQ cs i))) (l:=cs.map a9.d) (k:=.lst a) (λg' e=>j8 (a7 (e.at ha))) (by simp;omega) ⟨none,none,rfl⟩ (λi x Z g' hx e sh=>?_) (λg' e=>?_) (K3 (a8 T _) (a7 ha) λQ q=>w_var (d:=.ref a) rfl q)
  ·obtain⟨z1,z2,rfl⟩:=sh;rw[ag,aa] at hx;obtain⟨c,hc,rfl⟩:=hx;refine f9 ?_
   try show aX _ _ _ _ _ _
   walk_at"";refine if2 (λc1=>?_) (λc1=>?_)
   ·rw[az c1] at hw;have Kv:f=0:=aZ hw.symm;subst Kv;walk_at"";exact p8 (E7 hf c) ⟨by rw[u5 hc],e,z1,_,rfl⟩
   ·rw[aE c1] at hw;have Ku:f=2:=by
     rcases hf with z|z
     ·exact absurd z (of_decide_eq_false hw.symm)
     ·exact z
    subst Ku;walk_at"";exact p8 (E7 hf c) ⟨by rw[u5 hc],e,z1,_,rfl⟩
  ·refine GP (ns:=(List.range cs.length).map λi=>u7 f (bQ cs i)) (a7 (by rw[cb];rw[b0,ao];rfl)) (by simp;omega) ?_;have e3:=(e.trans (Ex.snoc g' (O.lst ((List.range (cs.map a9.d).length).map λi=>D.int (u7 f (bQ cs i)))))).trans (Ex.snoc _ (O.lst ((n8 ((List.range cs.length).map λi=>u7 f (bQ cs i))).map .int)));refine h _ _ _ e3 b0 (aG (O5 _) (by simpa using hz)) λx hx=>?_;rw[AK] at hx;obtain⟨i,hi,rfl⟩:=aU.mp hx;have hi:=aM.mp hi;have hc:=ai hi;unfold B4;rw[we hi (by rw[hm i _ hc,u5 hc];exact az rfl)]
   rfl
 cases w with
 |dN =>
  refine gh (by decide +kernel) ?_;walk_at"";refine qb (by omega) (by simp;omega) ?_;have er:i3 0 (Int.toNat ((cs.map a9.d).length:Nat))=((List.range cs.length).map λ(i:Nat)=>(i:Int)).map D.int:=by
   simp[i3]
  rw[er];refine h _ _ _ (Ex.snoc _ _) b0 (by simpa using hz) λx hx=>?_;obtain⟨i,hi,rfl⟩:=aU.mp hx;unfold B4;rw[we (w:=.dN) (x:=(i:Int)) (aM.mp hi) (az rfl)]
  rfl
 |lower =>
  refine fj (by decide +kernel) ?_;walk_at"";exact iD 0 (.inl rfl) (by decide +kernel) λi c hc x=>by unfold meant;rw[u5 hc];rfl
 |upper =>
  refine fj (by decide +kernel) ?_;walk_at"";exact iD 2 (.inr rfl) (by decide +kernel) λi c hc x=>by unfold meant;rw[u5 hc];rfl
end
def BE:ba:=⟨6,6,(.seq (.Z2 (.seq (.ret (.call 139 (tF aN bf bp bJ cT dq))) .pass) [("NoOrder",(.lit .bx))]) .pass)⟩
def pI:ba:=⟨1,14,(.seq (.set 1 (.call 3 (eL aN))) (.seq (.cU (.one 2) (.dX (bj 2)) (.seq (.jG (.many [3,4,5]) (.call 110 (dz bf (cK (bX .tup (bj 5) (bj 3)) bp)))) (.seq (.set 6 (.call 150 (fK bJ cT dq))) (.seq (.cU (.one 7) (.eK (.prim .lst (fK (ff "coin") (ff "lower") (ff "upper")))) (.seq (.set 8 (.call 163 (dz bJ fu))) (.seq (.cU (.one 9) (.eK ip) (.seq (.cU (.one 10) (.eK (.comp [9] 3 (.one 2) (.eK ip) (du .NotEq bp aN) bp)) (.seq (.set 11 (.comp [3,9,10,7] 6 (.one 5) (.eK eU) .no (bX .tup (.call 164 (lP aN dq bJ bf)) (.call 164 (lP aN dq bJ bp))))) (.seq (.set 12 (.comp [] 2 (.one 1) (.eK rW) .no (bX (.cmp .Lt) (cK bf (bj 0)) (cK bf (bj 1))))) (.seq (.set 13 (.ite (du .Eq (dg .len gX) (bj 0)) (.lit .bx) (.ite (.fg (dg .all gX)) (ff "first") (.ite (.fg (dg .any gX)) (ff "either") (ff "later"))))) (.seq (.ifs (.eB (.fg (.call 7 (dz (.call 30 (tF bJ cT dq fu lU kF)) mX)))) (.seq (.ret (.lit (.bl false))) .pass) .pass) .pass))))) .pass)) .pass))) .pass)))) (.seq (.ret (.lit (.bl true))) .pass)))⟩
structure BY(T:Nat->Option ba):Prop where
 tb:gE T
 oQ:T 42=some C2
 tq:T 98=some J9
 kh:pR T
 tf:TF T
 tw:TW T
 tn:TN T
 ti:xf T
 h3:T 3=some vO
 h6:T 6=some uB
 h7:T 7=some C8
 Lp:T 11=some pI
 Li:T 30=some BE
 oS:T 150=some Q2
 oR:T 163=some wD
 ml:T 164=some vP
def mE(m1 m2:Nat):D:=if m1=0/\m2=0 then .bx else .str (P4 m1 m2)
theorem ZA:∀(bs:List Bool),V2 (bs.map D.bl)=some (bs.any id):=by
 intro bs
 induction bs with
 |nil=>rfl
 |cons b r ih=>simp[V2,ih]
section
variable{T:Nat->Option ba}{k d:Nat}{g g':G}{Q:KD}{E:KX}{a b c:Nat}{cs:List a9}{rs:List dR}{v:Int}
theorem WT(hT:BY T){r:dR}(ha:g[a]?=some (.lst (cs.map a9.d)))(hz:cs.length<=9)(hg:cs.all v5=true)(hB:∀c∈cs,CB c)(hv:1<=v/\v<=9)(hc:g[c]?=some (.lst (j4 rs)))(hr:rs.length<=800)(hR:rs.all (l6 cs)=true)(jo:l6 cs r=true)(h:∀g',Ex g g'->Q (mE (many cs v (rs++[r])) (many cs v (rs++[u6 r]))) g'):b9 T (k+14) 30 [.ref a,.int v,.ref c,.str r.w.s,.int r.x,.int r.y] g Q E:=by
 refine call_of hT.Li rfl ?_;dsimp[BE,c8,List.replicate];walk_at"";refine QC (k:=k) hT.tb hT.oQ hT.tq hT.tf hT.tw hT.tn hT.ti ha hz hg hB hv hc hr hR jo (λz1 z2 g1 e1=>?_) (λhn g1 e1=>?_)
 ·refine Tq rfl ?_;walk_at"";have:=h _ e1;rw[mE,aK ⟨z1,z2⟩] at this;exact this
 ·have:=h _ e1;rw[mE,aC hn] at this;exact this
theorem OR{X:List (List Nat)}{r:dR}(hX:i8 cs.length (k9 cs v rs) 0=X)(jo:l6 cs r=true):mE (many cs v (rs++[r])) (many cs v (rs++[u6 r]))=if X.length=0 then .bx else .str (if(X.map (fE (k6 cs r) 0)).all id=true then "first" else if(X.map (fE (k6 cs r) 0)).any id=true then "either" else "later"):=by
 have h1:many cs v (rs++[r])=(X.filter (fE (k6 cs r) 0)).length:=by rw[Aq,hX]
 have h2:many cs v (rs++[u6 r])=(X.filter λo=>!fE (k6 cs r) 0 o).length:=by
  have p1:=VX (cs:=cs) (v:=v) (rs:=rs) jo;have p2:=V0 (q:=fE (k6 cs r) 0) X;have p3:many cs v rs=X.length:=by unfold many;rw[hX]
  omega
 have ha:(X.map (fE (k6 cs r) 0)).all id=true↔many cs v (rs++[u6 r])=0:=by
  rw[h2,fc,List.filter_eq_nil_iff];simp
 have hy:(X.map (fE (k6 cs r) 0)).any id=true↔many cs v (rs++[r])≠0:=by
  rw[h1,Ne,fc,List.filter_eq_nil_iff];simp
 have hs:X.length=0↔many cs v (rs++[r])=0/\many cs v (rs++[u6 r])=0:=by
  have p2:=V0 (q:=fE (k6 cs r) 0) X;omega
 unfold mE P4;by_cases c0:X.length=0
 ·rw[aK c0,aK (hs.mp c0)]
 ·rw[aC c0,aC λz=>c0 (hs.mpr z)]
  congr 1
  by_cases c1:many cs v (rs++[u6 r])=0
  ·rw[aK c1,aK (ha.mpr c1)]
  ·rw[aC c1,aC λz=>c1 (ha.mp z)];by_cases c2:many cs v (rs++[r])=0
   ·rw[aK c2,aC λz=>hy.mp z c2]
   ·rw[aC c2,aK (hy.mpr c2)]
theorem ZE{g:G}{m1 m2:Nat}:E1 g 0 (mE m1 m2) (mE m1 m2):=by
 unfold mE;by_cases h:m1=0/\m2=0
 ·rw[aK h];exact .bx
 ·rw[aC h];exact .str _
theorem Wj(hT:BY T){N:Ends}{r:dR}{i:Int}{l b8:Nat}{gN gz fT:Option D}{X:List (List Nat)}(hX:i8 cs.length (k9 cs v rs) 0=X)(R:jO g l X)(ha:g[a]?=some (.lst (cs.map a9.d)))(hz:cs.length<=5)(hg:cs.all v5=true)(hB:∀c∈cs,CB c)(hv:1<=v/\v<=9)(hc:g[c]?=some (.lst (j4 rs)))(hr:rs.length<=800)(hR:rs.all (l6 cs)=true)(jo:l6 cs r=true)(hN:∀g' gN gz fT,Ex g g'->N.nx [some (.ref 0),some (.ref d),some (.int i),some (.ref a),some (.int v),some (.ref c),some (.ref l),some (.str r.w.s),some (.ref b8),some (.int r.x),some (.int r.y),gN,gz,fT] g') :
  wpS (b9 T (k+14)) (match pI.body with|.seq _ (.seq (.cU _ _ (.seq _ (.seq _ (.seq (.cU _ _ (.seq _ (.seq (.cU _ _ (.seq (.cU _ _ b) _)) _))) _)))) _)=>b|x=>x) N [some (.ref 0),some (.ref d),some (.int i),some (.ref a),some (.int v),some (.ref c),some (.ref l),some (.str r.w.s),some (.ref b8),some (.int r.x),some (.int r.y),gN,gz,fT] g E:=by
 obtain⟨tx,ty,CI⟩:=Gs jo;have sx:∀(j:Nat) o,X[j]?=some o->o.length=cs.length/\o.Nodup/\∀i∈o,i<cs.length:=λj o ho=>FE (C3 cs v rs) (hX▸aF ho);have Lo:X.length<=120:=hX▸YE hz;have kX:=OR (cs:=cs) (v:=v) (rs:=rs) hX jo;obtain⟨bs,b1,b2,b3,b4⟩:=R.ex;dsimp[pI];walk_at"";refine comp_map (a8 T _) (λZ=>∃z4 z5,Z=[some (.ref a),some (.int r.x),some (.int r.y),some (.str r.w.s),z4,z5]) (λj=>.tup [.int (v9 cs r.w r.x (X.getD j []):Nat),.int (v9 cs r.w r.y (X.getD j []):Nat)]) (l:=bs.map .ref) (k:=.lst l) (λg' e=>j8 (a7 (e.at b1))) (by simp;omega) ⟨none,none,rfl⟩ (λj x Z g' hx e sh=>?_) (λg1 e1=>?_) (K3 (a8 T _) (a7 b1) λQ q=>w_var (d:=.ref l) rfl q)
 ·obtain⟨z4,z5,rfl⟩:=sh;rw[ag,aa] at hx;obtain⟨rb,su,rfl⟩:=hx;have hj:j<X.length:=by rw[<- b2];exact(ak.mp su).1
  have ho:=ai hj;generalize X[j]=o at ho;obtain⟨Jp,sk,jA⟩:=b4 j o ho;have:Jp=rb:=by rw[su] at sk;injection sk with z;exact z.symm
  subst this;obtain⟨o1,o2,o3⟩:=sx j o ho;rw[show X.getD j []=o by simp[List.getD,ho]];refine f9 ?_
  try show aX _ _ _ _ _ _
  walk_at"";refine HH (k:=k+13) hT.ml (e.at ha) (e.at jA) o3 (by omega) (Ax o2 o1 o3 tx) λg2 e2=>?_;walk_at"";refine HH (k:=k+13) hT.ml ((e.trans e2).at ha) ((e.trans e2).at jA) o3 (by omega) (Ax o2 o1 o3 ty) λg3 e3=>?_;walk_at"";exact⟨rfl,e.trans (e2.trans e3),_,_,rfl⟩
 rw[ao,b2];walk_at"";have s1:=e1.trans (Ex.snoc g1 (O.lst ((List.range X.length).map λj=>D.tup [.int (v9 cs r.w r.x (X.getD j []):Nat),.int (v9 cs r.w r.y (X.getD j []):Nat)])));have h1:=b0 (g:=g1) (o:=O.lst ((List.range X.length).map λj=>D.tup [.int (v9 cs r.w r.x (X.getD j []):Nat),.int (v9 cs r.w r.y (X.getD j []):Nat)]));generalize g1++[O.lst ((List.range X.length).map λj=>D.tup [.int (v9 cs r.w r.x (X.getD j []):Nat),.int (v9 cs r.w r.y (X.getD j []):Nat)])]=g2 at *;generalize g1.length=m1 at *;refine comp_map (a8 T _) (λZ=>∃z0 z1,Z=[z0,z1]) (λj=>.bl (decide (((v9 cs r.w r.x (X.getD j []):Nat):Int)<((v9 cs r.w r.y (X.getD j []):Nat):Int)))) (k:=.lst m1) (λg' e=>j8 (a7 (e.at h1))) (by simp;omega) ⟨none,none,rfl⟩ (λj x Z g' hx e sh=>?_) (λg3 e3=>?_) (K3 (a8 T _) (a7 h1) λQ q=>w_var (d:=.ref m1) rfl q)
 ·obtain⟨z0,z1,rfl⟩:=sh;rw[ag,aa] at hx;obtain⟨j',oC,rfl⟩:=hx;have:j'=j:=by
   have hj:=(ak.mp oC).1;rw[bC (by simpa using hj)] at oC;injection oC with z;exact z.symm
  subst this;refine f9 ?_
  try show aX _ _ _ _ _ _
  walk_at"";exact⟨rfl,e,_,_,rfl⟩
 have em:(List.range ((List.range X.length).map λj=>D.tup [.int (v9 cs r.w r.x (X.getD j []):Nat),.int (v9 cs r.w r.y (X.getD j []):Nat)]).length).map (λj=>D.bl (decide (((v9 cs r.w r.x (X.getD j []):Nat):Int)<((v9 cs r.w r.y (X.getD j []):Nat):Int))))=(X.map (fE (k6 cs r) 0)).map D.bl:=by
  rw[ao,List.length_range];refine cN λj=>?_;rw[ag,ag,ag];by_cases hj:j<X.length
  ·rw[bC hj];have ho:=ai hj;generalize X[j]=o at ho;obtain⟨o1,o2,o3⟩:=sx j o ho;rw[ho,Option.map_some,Option.map_some,Option.map_some,show X.getD j []=o by simp[List.getD,ho],Wb o3 (Ax o2 o1 o3 ty)]
   congr 2
   exact dk.mpr (by omega)
  ·rw[aP (by simpa using hj),aP (by omega)]
   rfl
 rw[em];walk_at"";have s3:=s1.trans (e3.trans (Ex.snoc g3 (O.lst ((X.map (fE (k6 cs r) 0)).map D.bl))));have h3:=b0 (g:=g3) (o:=O.lst ((X.map (fE (k6 cs r) 0)).map D.bl));generalize g3++[O.lst ((X.map (fE (k6 cs r) 0)).map D.bl)]=g4 at *;generalize g3.length=m2 at *;clear em e3 s1 h1 e1;have fin:∀(x:D),x=mE (many cs v (rs++[r])) (many cs v (rs++[u6 r]))->wpS (b9 T (k+14)) (match pI.body with|.seq _ (.seq (.cU _ _ (.seq _ (.seq _ (.seq (.cU _ _ (.seq _ (.seq (.cU _ _ (.seq (.cU _ _ (.seq _ (.seq _ (.seq _ b)))) _)) _))) _)))) _)=>b|x=>x) N [some (.ref 0),some (.ref d),some (.int i),some (.ref a),some (.int v),some (.ref c),some (.ref l),some (.str r.w.s),some (.ref b8),some (.int r.x),some (.int r.y),some (.ref m1),some (.ref m2),some x] g4 E:=λx hx=>by
  dsimp[pI];walk_at"";refine WT (k:=k) hT (s3.at ha) (by omega) hg hB hv (s3.at hc) hr hR jo λg5 e5=>?_;walk_at"";rw[hx];refine VW hT.h6 hT.h7 0 (k:=k+12) ZE λg6 e6=>?_;walk_at"";exact hN _ _ _ _ (s3.trans (e5.trans e6))
 refine J1 (a7 h3) ?_;rw[ao,ao];walk_at"";refine if2 (λc0=>?_) (λc0=>?_)
 ·refine w_lit ?_;exact fin _ (by rw[kX,aK (by omega)])
 ·rw[aC (by omega)] at kX;walk_at"";refine vH (a7 h3) (V3 _) ?_;walk_at"";cases c1:(X.map (fE (k6 cs r) 0)).all id with
  |true =>
   refine jz ?_;refine w_lit ?_;exact fin _ (by rw[kX,aK c1])
  |false =>
   walk_at"";refine SS (a7 h3) (ZA _) ?_;walk_at"";cases c2:(X.map (fE (k6 cs r) 0)).any id with
   |true =>
    refine jz ?_;refine w_lit ?_;exact fin _ (by rw[kX,aC (by rw[c1];decide),aK c2])
   |false =>
    refine mI ?_;refine w_lit ?_;exact fin _ (by rw[kX,aC (by rw[c1];decide),aC (by rw[c2];decide)])
theorem Yu(hT:BY T){ns:List Int}:b9 T (k+15) 11 [.ref 0] [.mq (ns.map .int)] (λd _=>d=.bl true) ie:=by
 refine call_of hT.Lp rfl ?_;dsimp[pI,c8,List.replicate];walk_at"";refine Pu (k:=k+13) hT.h3 (a:=0) (ns:=ns) rfl λd g D0 _ _=>?_;walk_at"";refine WM (n:=2) (by decide) (λi Z g=>i5 g d/\∃z2 z3 z4 z5 z6 z7 z8 z9 jt gN gz fT,Z=[some (.ref 0),some (.ref d),z2,z3,z4,z5,z6,z7,z8,z9,jt,gN,gz,fT]) ⟨D0,none,none,none,none,none,none,none,none,none,none,none,none,rfl⟩ (λi Z g hi p=>?_) (λZ g p=>?_)
 ·obtain⟨D1,z2,z3,z4,z5,z6,z7,z8,z9,jt,gN,gz,fT,rfl⟩:=p;have dl:=D1.lt
  try show wpS _ _ _ _ _ _
  have hm:∃m:Int,fI [D.int 5,D.int 3] (i:Nat)=some (.int m)/\(m=5\/m=3):=by
   have:i=0\/i=1:=by omega
   rcases this with rfl|rfl
   ·exact⟨5,rfl,.inl rfl⟩
   ·exact⟨3,rfl,.inr rfl⟩
  obtain⟨m,vh,sC⟩:=hm;walk_at"";refine p8 vh ?_;walk_at"";refine Zb (k:=k+9) hT.kh.toTBR hT.kh.oX ⟨by omega,by omega⟩ D1 λcs rs a c v g2 hl hG ha DH hr hR hc iT hac v1 v2 D2 G2=>?_;refine B0 rfl ?_
  try show wpS _ _ _ _ _ _
  have hz:cs.length<=5:=by omega
  have hB:∀c∈cs,CB c:=λc hc=>⟨(hG c hc).l8,(hG c hc).u8⟩
  have hg:cs.all v5=true:=cg.mpr λc hc=>(hG c hc).good;walk_at"";refine Vs (k:=k+11) (v:=v) hT.kh hT.oS hB ha hz hc (by omega) λl g3 e3 hl3 R3=>?_;have D3:=e3.draw D2;have a3:=e3.at ha;have c3:=e3.at hc;walk_at"";refine u9 (a8 T _) (jm (a8 T _) ?_);walk_at"";have e4:=Ex.snoc g3 (O.lst [D.str "coin",D.str "lower",D.str "upper"]);have h4:=b0 (g:=g3) (o:=O.lst [D.str "coin",D.str "lower",D.str "upper"]);generalize g3++[O.lst [D.str "coin",D.str "lower",D.str "upper"]]=g4 at *;refine⟨_,_,rfl,a7 h4,[RW.dN,RW.lower,RW.upper].map λw:RW=>D.str w.s,λt Z g'=>Ex g4 g'/\∃z7 z8 z9 jt gN gz fT,Z=[some (.ref 0),some (.ref d),some (.int i),some (.ref a),some (.int v),some (.ref c),some (.ref l),z7,z8,z9,jt,gN,gz,fT],λt Z g' q=>j8 (a7 (q.1.at h4)),⟨Ex.refl _,_,_,_,_,_,_,_,rfl⟩,λt x Z g5 hx q=>?_,λZ g5 q=>?_⟩
  ·obtain⟨e5,z7,z8,z9,jt,gN,gz,fT,rfl⟩:=q;rw[ag,aa] at hx;obtain⟨w,_,rfl⟩:=hx;refine f9 ?_
   try show wpS _ _ _ _ _ _
   walk_at"";have ph:=e4.trans e5;refine WG (k:=k+13) hT.oR (ph.at a3) (by omega) λL b8 g6 e6 h6 hL Dd=>?_;walk_at"";have L':=ph.trans e6;refine u9 (a8 T _) (jm (a8 T _) ?_);walk_at"";refine⟨b8,_,rfl,a7 h6,L.map .int,λt Z g'=>Ex g6 g'/\∃z9 jt gN gz fT,Z=[some (.ref 0),some (.ref d),some (.int i),some (.ref a),some (.int v),some (.ref c),some (.ref l),some (.str w.s),some (.ref b8),z9,jt,gN,gz,fT],λt Z g' q=>j8 (a7 (q.1.at h6)),⟨Ex.refl _,_,_,_,_,_,rfl⟩,λt x Z g7 hx q=>?_,λZ g7 q=>?_⟩
   ·obtain⟨e7,z9,jt,gN,gz,fT,rfl⟩:=q;rw[ag,aa] at hx;obtain⟨x,hx,rfl⟩:=hx;have tx:=Dd x (aF hx);have h7:=e7.at h6;refine f9 ?_
    try show wpS _ _ _ _ _ _
    walk_at"";refine u9 (a8 T _) (jm (a8 T _) ?_);refine w6 (a8 T _) (λZ=>∃y1 y2,Z=[some (.int x),y1,y2]) (λj=>decide (L.getD j 0≠x)) (λj=>.int (L.getD j 0)) (l:=L.map .int) (k:=.lst b8) (λg' e=>j8 (a7 (e.at h7))) (by simp;omega) ⟨none,none,rfl⟩ (λj y Z g' hy e sh=>?_) (λg8 e8=>?_) (K3 (a8 T _) (a7 h7) λQ q=>w_var (d:=.ref b8) rfl q)
    ·obtain⟨y1,y2,rfl⟩:=sh;rw[ag,aa] at hy;obtain⟨y,hy,rfl⟩:=hy;rw[show L.getD j 0=y by simp[List.getD,hy]];refine f9 ?_
     try show cW _ _ _ _ _ _
     walk_at"";rw[show(!decide (y=x))=decide (y≠x) by simp];refine⟨rfl,e,?_⟩;refine if2 (λ_=>?_) (λ_=>⟨_,_,rfl⟩);walk_at"";exact⟨rfl,e,_,_,rfl⟩
    ·have h9:=b0 (g:=g8) (o:=O.lst (((List.range (L.map D.int).length).filter λj=>decide (L.getD j 0≠x)).map λj=>D.int (L.getD j 0)));have e9:=e8.trans (Ex.snoc g8 (O.lst (((List.range (L.map D.int).length).filter λj=>decide (L.getD j 0≠x)).map λj=>D.int (L.getD j 0))));generalize g8++[O.lst (((List.range (L.map D.int).length).filter λj=>decide (L.getD j 0≠x)).map λj=>D.int (L.getD j 0))]=g9 at *;refine⟨_,_,rfl,a7 h9,_,λt Z g'=>Ex g9 g'/\∃jt gN gz fT,Z=[some (.ref 0),some (.ref d),some (.int i),some (.ref a),some (.int v),some (.ref c),some (.ref l),some (.str w.s),some (.ref b8),some (.int x),jt,gN,gz,fT],λt Z g' q=>j8 (a7 (q.1.at h9)),⟨Ex.refl _,_,_,_,_,rfl⟩,λt y Z vx hy q=>?_,λZ vx q=>?_⟩
     ·obtain⟨ko,jt,gN,gz,fT,rfl⟩:=q;rw[ag,aa] at hy;obtain⟨j,hj,rfl⟩:=hy;obtain⟨lZ,qg⟩:=bh.mp (aF hj);have Kp:j<L.length:=by simpa using aM.mp lZ
      have yp:=ai Kp;generalize L[j]=y at yp;have LV:L.getD j 0=y:=by simp[List.getD,yp]
      rw[LV] at qg ⊢;have ty:=Dd y (aF yp);have dH:x≠y:=λz=>aZ qg z.symm;have pj:=L'.trans (e7.trans (e9.trans ko));refine f9 ?_;exact Wj (k:=k) (r:=⟨w,x,y⟩) hT rfl (R3.at pj) (pj.at a3) hz hg hB ⟨v1,by omega⟩ (pj.at c3) (by omega) hR (Wk tx ty dH) λg' gN gz fT e=>⟨ko.trans e,_,_,_,_,rfl⟩
     ·obtain⟨ko,jt,gN,gz,fT,rfl⟩:=q
      try show wpS _ _ _ _ _ _
      walk_at"";exact⟨e7.trans (e9.trans ko),_,_,_,_,_,rfl⟩
   ·obtain⟨e7,z9,jt,gN,gz,fT,rfl⟩:=q
    try show wpS _ _ _ _ _ _
    walk_at"";exact⟨e5.trans (e6.trans e7),_,_,_,_,_,_,_,rfl⟩
  ·obtain⟨e5,z7,z8,z9,jt,gN,gz,fT,rfl⟩:=q
   try show wpS _ _ _ _ _ _
   walk_at"";exact⟨(e4.trans e5).draw D3,_,_,_,_,_,_,_,_,_,_,_,_,rfl⟩
 ·obtain⟨_,z2,z3,z4,z5,z6,z7,z8,z9,jt,gN,gz,fT,rfl⟩:=p
  try show wpS _ _ _ _ _ _
  walk_at""
  rfl
end
end M

namespace Lk
open PySem L2 M
def top(i:Nat):Stmt:=PySem.Challenge.pw_trussel_k26_firsts_by_all_orders.main.body.getD i (.Pass ⟨0,0,0,0⟩)
def OP:Stmt->List Stmt
 |.ClassDef (body:=b) ..=>b
 |_=>[]
def Em(i j:Nat):Stmt:=(OP (top i)).getD j (.Pass ⟨0,0,0,0⟩)
def F:List RF:=[⟨38,"is_number",["thing"],1,13,AH⟩,⟨1,"number_from",["number","least","most"],3,14,V8⟩,⟨2,"good_marks",["marks","least","spot"],1,15,H9⟩,⟨15,"within",["one","other"],2,16,wF⟩,⟨12,"good_coin",["coin","lower","lower_marks","upper","upper_marks","year","good_lower","good_upper"],1,23,B6⟩,⟨39,"check_coin",["coin"],1,24,AO⟩,⟨18,"check_coins",["coins","coin"],1,25,W3⟩,⟨83,"check_place",["coins","place"],2,26,O2⟩,⟨40,"check_side",["side"],1,27,Q1⟩,⟨19,"die_field",["side"],1,28,AF⟩,⟨74,"places_of",["coins","word","thing","field"],3,29,U7⟩,⟨75,"check_die",["coins","side","die"],3,30,AE⟩,⟨20,"dies_of",["coins","side","field"],2,31,Ae⟩,⟨42,"check_anvils",["anvils"],1,36,C2⟩,⟨88,"good_rule",["coins","rule","word","one","other"],2,37,AG⟩,⟨89,"check_rules",["coins","rules","at","rule"],2,38,W0⟩,⟨90,"stand_of",["places"],1,39,wR⟩,⟨91,"with_coin",["stand","place"],2,40,U6⟩,⟨92,"more_worn",["one","other","side","field"],2,41,AI⟩,⟨93,"later",["one","other"],2,42,BG⟩,⟨94,"worn_stands",["coins"],1,43,V7⟩,⟨95,"later_stands",["coins"],1,44,T5⟩,⟨96,"die_stands",["coins"],1,45,AR⟩,⟨97,"needed_stands",["coins","rules","needed","word","one","other","first","place"],2,46,P0⟩,⟨98,"check_asked",["coins","anvils","rules"],3,48,J9⟩,⟨100,"dies_in_use",["bounds","stand","place","struck","left"],3,49,AS⟩,⟨101,"next_fault",["bounds","stand","place"],3,50,AV⟩,⟨115,"follows",["bounds","stand","place"],3,52,wO⟩,⟨116,"followers",["bounds","stand"],2,53,AU⟩,⟨117,"reached_stands",["bounds","led_to","told","stand","place"],1,54,C0⟩,⟨121,"ways_on",["bounds","ways","stand"],1,56,Ag⟩,⟨122,"step_on",["bounds","ways","stand","number","choices","left","at"],4,57,wC⟩,⟨123,"numbered_order",["bounds","ways","number","order","stand","left","place"],3,58,M7⟩,⟨124,"first_order",["bounds","ways"],1,59,O1⟩,⟨129,"shown_paper",["bounds","stands"],1,61,O0⟩,⟨136,"check_thing",["coins","word","thing"],3,63,V9⟩,⟨137,"check_pair",["coins","word","one","other"],4,64,AQ⟩,⟨138,"why_of",["coins","anvils","rules","word","one","other","one_ahead","other_ahead","one_order","other_order"],6,65,ur⟩,⟨139,"told_of",["coins","anvils","rules","word","one","other"],6,66,Af⟩,⟨3,"_law_open",["_law_script"],1,68,vO⟩,⟨4,"_law_pull",["_law_draw","_law_total_of","_law_cell","_law_got","_law_seed"],2,69,F1⟩,⟨6,"_law_num",["_law_found"],1,70,uB⟩,⟨7,"_law_like",["_law_found","_law_due"],2,71,C8⟩,⟨21,"_law_order_of",["_law_draw","_law_numbers","_law_left","_law_found","_law_step"],2,72,T4⟩,⟨17,"_law_within",["_law_one","_law_other"],2,73,wQ⟩,⟨22,"_law_any_coin",["_law_draw","_law_menu","_law_lower","_law_upper","_law_year"],1,74,wN⟩,⟨23,"_law_seated",["_law_draw","_law_seats","_law_fresh","_law_anvils"],4,75,G0⟩,⟨24,"_law_struck",["_law_draw","_law_size","_law_anvils","_law_seats","_law_fresh","_law_worn","_law_year","_law_step","_law_wear","_law_shift","_law_found","_law_k","_law_keys","_law_key","_law_spot_here","_law_named","_law_told_year"],3,76,F9⟩,⟨25,"_law_opened",["_law_draw","_law_size","_law_dies","_law_row","_law_held","_law_found","_law_k","_law_year"],2,77,wB⟩,⟨26,"_law_list",["_law_draw","_law_most","_law_size","_law_anvils","_law_way","_law_found","_law_at","_law_coin","_law_other"],2,78,P9⟩,⟨105,"_law_rule",["_law_draw","_law_coins","_law_word","_law_some","_law_at"],2,79,qO⟩,⟨106,"_law_rules",["_law_draw","_law_coins","_law_found","_law_k","_law_rule_here"],2,80,BH⟩,⟨107,"_law_rule_kept",["_law_coins","_law_ahead","_law_place","_law_rule_here","_law_word","_law_one","_law_other","_law_at"],4,81,AJ⟩,⟨108,"_law_fault",["_law_coins","_law_anvils","_law_rules_here","_law_ahead","_law_place","_law_coin","_law_there","_law_at","_law_here","_law_later"],5,82,uq⟩,⟨150,"_law_all_orders",["_law_coins","_law_anvils","_law_rules_here","_law_rows","_law_step","_law_longer","_law_row","_law_place"],3,83,Q2⟩,⟨110,"_law_ready",["_law_draw","_law_most","_law_coins","_law_anvils"],2,84,wa⟩,⟨163,"_law_things",["_law_coins","_law_word"],2,85,wD⟩,⟨30,"_law_asked",["_law_coins","_law_anvils","_law_rules_here","_law_word","_law_one","_law_other"],6,86,BE⟩,⟨164,"_law_spot",["_law_coins","_law_row","_law_word","_law_thing","_law_at"],4,87,vP⟩,⟨11,"law",["_law_script","_law_draw","_law_turn","_law_coins","_law_anvils","_law_rules_here","_law_rows","_law_word","_law_things_here","_law_one","_law_other","_law_spots","_law_marks","_law_due"],1,88,pI⟩]
def Ms:List RM:=[⟨113,"Bounds","__init__","Bounds.__init__",["self","coins","anvils","rules"],4,47,0,W5⟩]
def con:List (Str×D):=[("LAST_SPOT",.int 7),("MOST_COINS",.int 9),("LAST_DIE",.int 99),("LAST_YEAR",.int 9999),("SIDES",.tup [(.str "lower"),(.str "upper")]),("MOST_ANVILS",.int 9),("RULE_WORDS",.tup [(.str "coin"),(.str "lower"),(.str "upper")]),("YEAR_FIELD",.int 4)]
def gd:List (Str×List D):=[("DIE_FIELDS",[.tup [.str "lower",.int 0],.tup [.str "upper",.int 2]])]
def exc:List Str:=["BadAnvils","BadCoin","BadRule","BadSide","NoDie","NoOrder","NoPlace","SameOne","TooMany"]
def c0:f6:=⟨[],[],true,F.map λr=>(r.nm,r.id),con,["len","enumerate","list","tuple","isinstance","all","range","int","bool","str","max","min","sorted","set","any","sum","reversed"],exc,gd,[("Bounds",113)],Ms.map λr=>(r.nm,r.cl,r.id),[("size","Bounds"),("full","Bounds"),("room","Bounds"),("worn_by_place","Bounds"),("later_by_place","Bounds"),("lower_dies","Bounds"),("needed_by_place","Bounds")],true,true⟩
noncomputable abbrev T:Nat->Option ba:=qG F Ms
theorem tx:jM c0 F Ms top Em:=by
 refine⟨rfl,rfl,by decide +kernel,by decide +kernel,by decide +kernel,by decide +kernel,?_,?_,?_,?_⟩
 all_goals
  repeat first
   |exact BF.nil
   |exact BM.nil
   |exact YF.nil
   |exact YM.nil
   |refine YF.cons (by kernel_rfl) ?_
   |refine YM.cons (by kernel_rfl) ?_
   |refine BF.cons (λ_ _ _ _ _ _=>(by(repeat refine Cm λ_=>?_);exact Ck rfl)) ?_
   |refine BM.cons (λ_ _ _ _ _ _=>(by(repeat refine Cm λ_=>?_);exact Ck rfl)) ?_
inductive qw:List DictEntry->List (Str×V)->Prop
 |nil:qw [] []
 |cons {h:Int} {x:Str} {t:Tok} {u:Value} {v:V} {es:List DictEntry} {vs:List (Str×V)} (r:RelV v u) (q:qw es vs):qw (⟨h,.str x t,u⟩::es) ((x,v)::vs)
theorem qw.find{es vs}(x:Str)(h:qw es vs):F8 (vs.lookup x) (findBy Value.isStrOf es.toArray x):=by
 induction h with
 |nil=>trivial
 |cons r q ih =>
  rename_i h y t u v es vs;unfold findBy at ih ⊢;rw[List.find?_toArray] at ih ⊢;rw[eW,cI];by_cases e:x=y
  ·rw[show(x==y)=true from by simp[e],show Value.isStrOf x (.str y t)=true from by simp[Value.isStrOf,e]];exact r
  ·rw[show(x==y)=false from by simpa using e,show Value.isStrOf x (.str y t)=false from by simp[Value.isStrOf];exact λz=>e (z.symm)];exact ih
theorem all_mk{l:PySem.W.OpenLaw}{w:World}{K:PySem.W.Frag}{h:Heap}{mg:Str->Option Value}{fa:Addr}{zF zE vw:Addr}{t0 t1 t2 t3 tU tT t5 tS tR tQ t7 nA ny nv nu:Tok}{zA:Array (Option Value)}{zC:Nat}{zz:Array (Option Value)}{zB:Nat}{Lw:Nat}{lh lg:Int}(X:K.In h)(G:h.Ns mainGlobals mg)(Kt:mg "law"=some (.ref fa))(I:jN K c0 F Ms top Em)(e0:PySem.W.nsIn K mainGlobals "LAST_SPOT"=some (some (Value.int 7 t0)))(e1:PySem.W.nsIn K mainGlobals "MOST_COINS"=some (some (Value.int 9 t1)))(e2:PySem.W.nsIn K mainGlobals "LAST_DIE"=some (some (Value.int 99 t2)))(e3:PySem.W.nsIn K mainGlobals "LAST_YEAR"=some (some (Value.int 9999 t3)))(e4:PySem.W.nsIn K mainGlobals "SIDES"=some (some (.ref zF)))(Mp:K.lookup zF=some ⟨.type "tuple",none,.seq #[Value.str "lower" tU,Value.str "upper" tT] zC,zA⟩)(e5:PySem.W.nsIn K mainGlobals "MOST_ANVILS"=some (some (Value.int 9 t5)))(e6:PySem.W.nsIn K mainGlobals "RULE_WORDS"=some (some (.ref zE)))(Mo:K.lookup zE=some ⟨.type "tuple",none,.seq #[Value.str "coin" tS,Value.str "lower" tR,Value.str "upper" tQ] zB,zz⟩)(e7:PySem.W.nsIn K mainGlobals "YEAR_FIELD"=some (some (Value.int 4 t7)))(g0:PySem.W.nsIn K mainGlobals "DIE_FIELDS"=some (some (.ref vw)))(Ly:K.lookup vw=some ⟨.type "dict",none,.dict #[⟨lh,Value.str "lower" nA,Value.int 0 ny⟩,⟨lg,Value.str "upper" nv,Value.int 2 nu⟩] Lw,#[]⟩)(og:lh=PyData.keyHash w.params "lower")(nZ:lg=PyData.keyHash w.params "upper")(Lv:(vw==sysModules)=false)
  : ∃fd:FuncData,(∀(s:Shared) (v:Value),BindsTo s fd ⟨[v],[]⟩ [("_law_script",v)])/\∀base:Heap,K.In base->base.Ns mainGlobals mg->gL l.prog w K mg base (ig l.prog w) 80 fa fd ["_law_script"] (mQ exc K 1 (b9 T 40 11)):=by
 have A:lz w K mg c0 T:=by
  refine Ow I tx X G (λx d hx=>?_) (λx kvs hx=>?_)
  ·have hm:=aS hx;simp only[c0,con,List.mem_cons,List.mem_nil_iff,or_false] at hm;rcases hm with z|z|z|z|z|z|z|z
   ·cases z;exact⟨(.int 7),_,bV X G e0,⟨_,rfl⟩,λ_ _=>.int _⟩
   ·cases z;exact⟨(.int 9),_,bV X G e1,⟨_,rfl⟩,λ_ _=>.int _⟩
   ·cases z;exact⟨(.int 99),_,bV X G e2,⟨_,rfl⟩,λ_ _=>.int _⟩
   ·cases z;exact⟨(.int 9999),_,bV X G e3,⟨_,rfl⟩,λ_ _=>.int _⟩
   ·cases z;exact⟨.ref zF,_,bV X G e4,rfl,λ_ _=>.tup (vs:=[.str "lower",.str "upper"]) (.inr ⟨_,_,_,Mp,rfl,rfl,rfl,(by show 2<=sizeLine;decide),.cons ⟨_,rfl⟩ (.cons ⟨_,rfl⟩ (.nil))⟩) (.cons (.str _) (.cons (.str _) (.nil)))⟩
   ·cases z;exact⟨(.int 9),_,bV X G e5,⟨_,rfl⟩,λ_ _=>.int _⟩
   ·cases z;exact⟨.ref zE,_,bV X G e6,rfl,λ_ _=>.tup (vs:=[.str "coin",.str "lower",.str "upper"]) (.inr ⟨_,_,_,Mo,rfl,rfl,rfl,(by show 3<=sizeLine;decide),.cons ⟨_,rfl⟩ (.cons ⟨_,rfl⟩ (.cons ⟨_,rfl⟩ (.nil)))⟩) (.cons (.str _) (.cons (.str _) (.cons (.str _) (.nil))))⟩
   ·cases z;exact⟨(.int 4),_,bV X G e7,⟨_,rfl⟩,λ_ _=>.int _⟩
  ·have hm:=aS hx;simp only[c0,gd,List.mem_cons,List.mem_nil_iff,or_false] at hm;have z:=hm
   ·cases z;have er:qw [⟨lh,Value.str "lower" nA,Value.int 0 ny⟩,⟨lg,Value.str "upper" nv,Value.int 2 nu⟩] [("lower",.int 0),("upper",.int 2)]:=.cons (v:=.int 0) ⟨_,rfl⟩ (.cons (v:=.int 2) ⟨_,rfl⟩ (.nil));exact⟨vw,_,bV X G g0,⟨_,_,Ly,⟨⟨_,_,rfl,og⟩,⟨⟨_,_,rfl,nZ⟩,True.intro⟩⟩,Lv,λx=>er.find x⟩,.cons (λ_ _=>.int _) (.cons (λ_ _=>.int _) (.nil))⟩
 obtain⟨f,fd,O,a,t⟩:=HC I tx _ (aF (i:=59) rfl);cases Kt.symm.trans (bV X G a);obtain⟨oc,od,kV,doc,pm,an,fA,ct,kl,rfl,lk,jW⟩:=O.fn.ex;exact⟨_,λs v=>.of_eq rfl,λbase lF tG=>Vd lF tG A 40 11 _ _ fa _ rfl O⟩
theorem walk{l:PySem.W.OpenLaw}{q:Program}{loose:List Str}{XP:(Str->Option Value)->Heap->Prop}{YP:World->Heap->Prop}{d:DefRec}{K:Params->PySem.W.Frag}(hn:l.most=some 63)(sO:d.params.defaults=[])(hY:∀(w:World) (h:Heap),YP w h->(K w.params).In h)(F:∀ (w:World) (mg:Str->Option Value) (fa:Addr) (h:Heap),(K w.params).In h->h.Ns mainGlobals mg->mg d.name=some (.ref fa) ->
   ∃ fd:FuncData,(∀ (s:Shared) (u:Value),BindsTo s fd ⟨[u],[]⟩ [("_law_script",u)])/\∀ base:Heap,(K w.params).In base->base.Ns mainGlobals mg->gL l.prog w (K w.params) mg base (ig l.prog w) 80 fa fd ["_law_script"] (mQ exc (K w.params) 1 (b9 T 40 11))) :
  PySem.W.WalkO q loose XP YP l.row.toRowW d [] (λf vs=>PySem.call f vs) :=
 L2.QG (n:=63) (k:=80) (x:="_law_script") (CX:=λw=>ig l.prog w) (sp:=λw=>mQ exc (K w.params) 1 (b9 T 40 11)) hn (by decide) sO ⟨rfl,by decide,by decide⟩ hY F (λw H a ns hl hO hS=>MD hO hS (Yu (k:=25) ⟨⟨⟨rfl,rfl⟩,rfl,rfl,⟨rfl,rfl⟩,⟨rfl,rfl⟩,rfl,rfl,rfl,rfl,rfl,rfl,rfl,rfl,rfl,rfl,rfl,rfl,rfl,rfl,rfl,rfl⟩,rfl,rfl,⟨⟨⟨rfl,rfl,rfl,rfl,rfl,rfl,rfl⟩,rfl,rfl⟩,rfl,rfl,rfl,rfl⟩,⟨rfl,rfl⟩,⟨rfl,rfl⟩,⟨rfl,rfl⟩,⟨rfl,rfl,rfl,rfl,rfl,rfl,rfl,rfl⟩,rfl,rfl,rfl,rfl,rfl,rfl,rfl,rfl⟩)) λ_ _ _ _ _ ⟨_,_,_,_,_,_,_,z⟩=>z
end Lk
open PySem PySem.W PyProof.Rows
set_option maxRecDepth 100000 in
set_option maxHeartbeats 0 in
theorem PySem.Challenge.cw_trussel_k26_firsts_by_all_orders_holds : PySem.Challenge.rw_trussel_k26_firsts_by_all_orders.Holds := by
 w_on;o_law;k_head;(case hw=>w_witness2)
 k_fill
 refine Lk.walk (l:=PySem.Challenge.rw_trussel_k26_firsts_by_all_orders) rfl rfl (fun w h Y=>PySem.W.kIn_of Y) ?F
 case F =>
  intro w mg fa h KX G hmg
  refine' Lk.all_mk KX G hmg ⟨?zz1,?zz2,?zz3,?zz4,?zz5,?zz6,?zz7⟩ ?_ ?_ ?_ ?_ ?_ ?_ ?_ ?_ ?_ ?_ ?_ ?_ ?_ ?_ ?_
  (case zz1=>repeat' first | (with_reducible show _=_;k_is) | exact M.PF.nil | apply M.PF.cons)
  (case zz2=>repeat' first | (with_reducible show _=_;k_is) | exact M.PM.nil | apply M.PM.cons)
  (case zz3=>repeat' first | (with_reducible show _=_;k_is) | exact M.PC.nil | apply M.PC.cons)
  (case zz4=>repeat' first | (with_reducible show _=_;k_is) | exact M.PA.nil | apply M.PA.cons)
  (case zz5=>repeat' first | (with_reducible show _=_;k_is) | exact M.PB.nil | apply M.PB.cons)
  (case zz6=>repeat' first | (with_reducible show _=_;first | (with_reducible show PySem.W.excIn _ _ _ _=true;k_exc) | k_is) | exact M.PX.nil | apply M.PX.cons)
  (case zz7=>kernel_rfl)
  all_goals try (with_reducible show _=_;k_is)
  all_goals try ((with_reducible show _=_);rfl)
#print axioms PySem.Challenge.cw_trussel_k26_firsts_by_all_orders_holds
