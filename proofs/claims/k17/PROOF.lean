import PyProof.Rows.All
import Wide.All
import OpenK.AllK
import Wide.FinOn
import Lean
import PyProof.EqAt
import PyProof.EqKinds
import PyProof.TupleCall
import PySem.Challenge.RW_trussel_k17_whole_time_turned_about
set_option Elab.async false
set_option linter.all false
set_option maxRecDepth 100000
set_option maxHeartbeats 4000000
def Di:=@PySem.wpAny_binaryOp_repeat_ref
def Dj:=@PyProof.Rows.tail_any
def Dk:=@PySem.W.hideAll_get
def Dm:=@List.length_pos_iff
def Dn:=@List.flatMap_append
def J':=@PySem.evalPart_none
def JZ:=@PySem.wpAny_getItem_list_slice
def Ka:=@PySem.W.of_hideAll
def Kb:=@PySem.W.kitx_tuple
def Kc:=@PySem.W.callWith_K
def Kd:=@Nat.mod_lt
def Ke:=@List.getElem?_drop
def Kf:=@List.filterMap_map
def Kg:=@Int.natCast_nonneg
def Kh:=@Int.natAbs_natCast
def Ki:=@Array.append_assoc
def aA:=@List.size_toArray
def aB:=@if_neg
def aC:=@PySem.Heap.get?_push_size
def aD:=@Nat.le_trans
def aE:=@List.mem_cons
def aF:=@decide_eq_false
def aG:=@List.getElem?_append_left
def aH:=@if_pos
def aI:=@List.mem_range
def aJ:=@Option.some.inj
def aM:=@PySem.mem_of_lookup
def aN:=@Nat.ne_of_lt
def aO:=@List.mem_map
def aP:=@List.mem_of_getElem?
def aQ:=@Bool.and_eq_true
def aS:=@List.getElem?_eq_none
def aT:=@List.mem_filter
def aU:=@List.getElem?_set_self
def aW:=@Bool.eq_iff_iff
def aX:=@PyProof.Rows.slot_tuple_getitem
def aY:=@List.map_cons
def aZ:=@of_decide_eq_true
def aa:=@PySem.wpAny_bind
def ae:=@Option.map_eq_some_iff
def ag:=@List.getElem?_eq_getElem
def ah:=@List.length_map
def ai:=@Option.bind_eq_some_iff
def aj:=@List.getElem?_eq_some_iff
def ak:=@List.getElem?_map
def ao:=@PySem.wpAny_pure
def au:=@PySem.Heap.get?_push_of_some
def av:=@Nat.le_refl
def aw:=@List.getElem?_set_ne
def ax:=@Nat.lt_of_lt_of_le
def ay:=@PySem.Heap.lt_size
def az:=@decide_eq_true
def bA:=@PySem.wpAny_mono
def bC:=@PyProof.Rows.callWith_type1
def bD:=@Ne.symm
def bE:=@List.map_map
def bI:=@List.mem_cons_of_mem
def bJ:=@List.getD_eq_getElem?_getD
def bK:=@PySem.W.mg_of
def bL:=@PySem.W.kia_one
def bP:=@Nat.ne_of_gt
def bT:=@List.replicate_succ
def bU:=@Int.toNat_natCast
def bV:=@PySem.Heap.get?_update_other
def bW:=@PySem.Heap.SameBut.update
def bX:=@PySem.wpAny_newObj_type
def bY:=@PySem.wpAny_holding
def bZ:=@decide_eq_false_iff_not
def ba:=@List.mem_singleton
def bc:=@List.length_append
def bf:=@PySem.Heap.get?_update_self
def bj:=@List.mem_append
def bp:=@Array.length_toList
def bq:=@List.all_eq_true
def br:=@Nat.lt_irrefl
def bt:=@List.mem_append_right
def bu:=@List.length_filter_le
def bw:=@PySem.Obj.data_mapFields
def bx:=@List.take_succ
def bz:=@List.any_eq_true
def cA:=@List.lookup_cons
def cB:=@List.getElem?_take_of_lt
def cE:=@Nat.zero_le
def cF:=@List.nodup_append
def cG:=@List.nodup_cons
def cH:=@Bool.or_eq_true
def cI:=@Nat.lt_trans
def cJ:=@decide_eq_decide
def cK:=@List.length_cons
def cN:=@List.getElem?_eq_none_iff
def cO:=@List.map_append
def cP:=@PySem.wpAny_Call_Name_kw
def cQ:=@decide_eq_true_eq
def cR:=@List.mem_iff_getElem
def cS:=@List.flatten_cons
def cT:=@List.flatMap_cons
def cV:=@PySem.Obj.isFreed_of_fields
def cZ:=@beq_eq_false_iff_ne
def cb:=@List.take_length
def cc:=@List.getElem_mem
def cj:=@PySem.wpAny_call_entry
def cq:=@List.getElem?_append_right
def cv:=@List.getElem?_range
def cw:=@PySem.wpAny_truthy_bool
def cx:=@PySem.wpAny_setState_of
def cy:=@List.mem_iff_getElem?
def dB:=@PySem.wpAny_typeOf
def dC:=@PySem.wpAny_passesOwn
def dD:=@List.mem_append_left
def dE:=@PySem.wpAny_standAt
def dG:=@Nat.le_of_lt
def dJ:=@List.drop_eq_getElem_cons
def dM:=@PyProof.Rows.F.plain_set_update_loop
def dN:=@List.length_reverse
def dO:=@List.filter_eq_self
def dR:=@PySem.wpAny_of_eq
def dS:=@Option.isSome_iff_exists
def dU:=@PySem.Heap.size_push
def dW:=@PySem.Around.under_plainId
def dZ:=@List.range_succ
def da:=@List.filterMap_cons
def dc:=@List.length_take
def de:=@List.getElem?_replicate
def dh:=@PySem.W.cellsFrom_some
def dj:=@Int.emod_lt_of_pos
def dk:=@Bool.false_ne_true
def dt:=@PySem.wpAny_setField
def du:=@PySem.wpAny_callSpecial?_slot
def dw:=@Array.getElem_eq_getD
def dy:=@List.ext_getElem?
def eB:=@decide_eq_true_iff
def eE:=@List.filter_append
def eL:=@PyProof.Rows.boot_list
def eM:=@Nat.lt_trichotomy
def eO:=@List.length_pos_of_mem
def eP:=@PySem.codeAny_builtin
def eT:=@PySem.tupleKind_room_in1
def eU:=@PySem.call_meets
def eZ:=@PySem.wpAny_field
def eh:=@List.find?_cons
def ei:=@Int.emod_nonneg
def fB:=@PySem.builtinLookup_eq_fast
def fG:=@PySem.wpAny_rule
def fH:=@PySem.intKind_is
def fI:=@Nat.testBit_two_pow_sub_one
def fJ:=@Nat.lt_or_ge
def fL:=@Nat.one_le_two_pow
def fM:=@Nat.lt_of_le_of_lt
def fN:=@List.pairwise_cons
def fO:=@List.mem_cons_self
def fP:=@List.length_eraseIdx_of_lt
def fQ:=@List.findSome?_eq_none_iff
def fY:=@Nat.le_succ
def fZ:=@List.reverse_cons
def fb:=@beq_iff_eq
def fc:=@Nat.lt_succ_self
def fe:=@List.mem_reverse
def fg:=@List.any_cons
def fi:=@List.eq_nil_of_length_eq_zero
def fu:=@List.append_nil
def gG:=@PySem.isSubtype_type
def gH:=@congrArg
def gI:=@PySem.F.entry_tuple_add
def gJ:=@List.nodup_range
def gK:=@List.getElem_inj
def gT:=@PySem.F.slot_tuple_add
def gU:=@List.take_of_length_le
def gW:=@List.set_set
def gX:=@List.pairwise_lt_range
def gb:=@List.append_assoc
def gg:=@PySem.codeAny_mono
def gh:=@PySem.F.args_tuple_add_2
def hV:=@PySem.wpAny_pyIter_list
def iK:=@PySem.wpAny_isInstance
def iL:=@PySem.noFill_tuple_add
def iM:=@Bool.false_and
def iX:=@PyProof.Rows.F.entry_set_update_loop
def iY:=@List.map_congr_left
def ig:=@PySem.wpAny_comprehension_free
def ij:=@PySem.F.slot_dict_get
def ik:=@Nat.eq_of_beq_eq_true
def ip:=@List.take_append_drop
def iq:=@List.length_singleton
def ir:=@List.length_replicate
def iu:=@Array.getElem?_toList
def jF:=@List.findIdx?_eq_some_iff_getElem
def jK:=@PySem.sizeLine_eq
def jL:=@Option.isSome_map
def jM:=@List.pairwise_map
def jN:=@List.find?_append
def jO:=@Int.zero_add
def jP:=@Bool.not_eq_true'
def jZ:=@List.eraseIdx_eq_take_drop_succ
def jh:=@PySem.typeLookup_type
def ji:=@PySem.F.slot_int_rmul
def jm:=@Nat.not_lt
def jn:=@List.mem_filterMap
def jo:=@List.find?_eq_none
def kM:=@PySem.seq_tuple_add
def kO:=@PySem.plainId_quiet
def kP:=@PySem.Paired.length
def kq:=@Nat.le_of_not_lt
def kr:=@List.mem_flatMap
def ku:=@List.length_drop
def lA:=@PySem.F.args_tuple_add_2
def lq:=@PySem.typeIs_int
def lr:=@Nat.two_pow_pos
def lx:=@List.of_mem_zip
def ly:=@List.foldl_cons
def lz:=@PySem.Heap.IsSliceOf.new
def mK:=@PySem.wpAny_sequenceKey
def mL:=@PySem.slot_list_getitem
def mM:=@PySem.Value.isInt_shape
def mO:=@Option.ne_none_iff_exists'
def mP:=@PySem.Obj.cls_mapFields
def mQ:=@PySem.F.entry_tuple_add
def nG:=@PyProof.Rows.slicePart_none
def nH:=@List.pairwise_iff_getElem
def nJ:=@List.mem_or_eq_of_mem_set
def nK:=@Array.getElem?_eq_getElem
def oW:=@PySem.wpAny_askSetting
def oX:=@PyProof.Rows.boot_sorted
def oY:=@List.map_take
def oZ:=@List.length_erase_of_mem
def pb:=@PySem.F.slot_tuple_mul
def pe:=@PySem.F.slot_tuple_add
def ph:=@Bool.true_and
def pj:=@Bool.false_or
def qL:=@PyProof.Rows.entry_tuple_getitem
def qN:=@PySem.F.plainAttrs_list
def qO:=@PySem.F.args_dict_get_3
def qP:=@PyProof.Rows.boot_tuple
def qQ:=@List.filter_cons_of_pos
def qR:=@List.filter_cons_of_neg
def sA:=@PySem.wpAny_execs_nil
def sC:=@PyProof.Rows.tupleItemsOf_
def sD:=@PySem.codeAny_of_tree
def sE:=@PySem.F.entry_dict_get
def sG:=@Nat.pow_succ
def sH:=@Nat.mul_comm
def sI:=@Nat.le_of_eq
def sJ:=@List.map_nil
def sN:=@List.drop_eq_nil_of_le
def sO:=@Bool.not_not
def sP:=@Array.getElem?_eq_none
def vH:=@PyProof.Rows.size_push'
def vI:=@PyProof.Rows.assignInOrder_cons
def vJ:=@PyProof.Rows.args_tuple_getitem
def vK:=@PyProof.Rows.boot_set
def vL:=@PyProof.Rows.boot_int
def vM:=@List.getElem?_reverse
def vN:=@List.findSome?_append
def vO:=@Bool.and_eq_false_iff
def yb:=@Nat.pow_le_pow_right
def yc:=@Nat.eq_of_testBit_eq
def yd:=@List.pairwise_append
def ye:=@List.mem_erase_of_ne
def yf:=@PySem.Calls.Name_function_global
structure PySem.W.Fast:Prop where(tw449952996464756970 tw2644840965627668243 tw3107614809262604243 tw12894399198361368695 tw11787525640565877750 tw9995953155073699748 tw17241083175655712620 tw3838430286343913223 tw15146195230098419696 tw7748883463233195108 tw9627769695356155500 tw13304494426486277664 tw1500539339936521712 tw16332653138208471381 tw13241686822177649862 tw17148824550497192353 tw5480985884630321446 tw15637297485253909429 tw4112835434345296556 tw14021383709325787887 tw739854178673045466 tw14224854148885384666 tw15533965451773888037 tw4941579092196698973 tw17143926121370330019 tw15366760569689861789 tw10901955859424971152 tw13895204015712707958 tw12461775488798696668 tw18388861814238464562 tw4845222200975139562 tw18214348417001553588 tw1408573127428718563 tw12903469139051903382 tw6462686662886414031 tw17593277475564324547 tw14178587155305253399 tw7606526288782650029 tw2572153162924248919 tw6958430077446627646 tw12970901901531122206 tw13415888162394154058 tw17676293242578571525 tw17480325825520937877 tw15939606412498099422 tw8792433330322922538 tw4075808421054601310 tw17690356574036188303 tw4989644939894439522 tw11827784959743906979 tw12607952322918182645 tw7925907312045209000 tw11642814745829850084 tw17126141977139280806 tw2632191216147123454 tw12138100208047027507 tw3403281203950260667 tw35128674273956359 tw5321627745113331780 tw2518756764767564881 tw12852698421448314836 tw12793027059042619681 tw10421094600429684039 tw12773422437975662745 tw13224714028548941610 tw8655396419079114161 tw10276432173687527667 tw7260877572272033883 tw1634381494008791052 tw10618221572465769942 tw464604898195268123 tw14083431964291438653 tw8126704916206951768 tw18354761343876822841 tw15730023224306529827 tw5684269086077087761 tw14196895709123886664 tw5629093178349708715 tw2553048393550780872 tw12711950247880467360 tw16509605507163875182 tw5052996533052782084 tw3316070350330210654 tw4345870156807891966 tw13116438571289374324 tw17584072190681747888 tw1747694259796744165 tw2476746902111617709 tw12361561301880781045 tw5620189135592300378 tw9063212274230876943 tw9455047823047856866 tw4287304883589601866 tw5160580572850284835 tw10380833662374356879 tw15077216584808901615 tw5448923595392489288 tw2526086947669676023 tw9714042261341480609 tw14032310242105714016 tw6887665087749418976 tw9189395401799521629 tw8633365292740876750 tw9028924063301874560 tw3144303028027007886 tw8875250053726069972 tw15630926873856926432 tw4910436483145928097 tw12401227525943305395 tw12660694263735214579 tw15507357967084865048 tw15375486903254152078 tw5608311085992212583 tw8412824154644792977 tw15563429959092992583 tw14805821875898030131 tw2839987431639231605 tw9408699203006047494 tw17164865987075331957 tw9934283876933718963 tw11654129201059546160 tw11194753326594883306 tw17183726572079531935 tw16494212685459850735 tw12582555210701917403 tw1663673954780481166 tw2611778147023020686 tw17200792819737503907 tw4988022986262072711 tw7040059026115171021 tw13403959636351485696 tw16226119194656570889 tw12954616853488579950 tw6341907560590630851 tw17853551375603887985 tw11025437310929150664 tw10875193289449448525 tw9862092981865567389 tw7722172160767720081 tw6100462078911581357 tw17888228776662558 tw17111565781572111495 tw7711014239479040889 tw15782708299519473168 tw6587335620856037528 tw4207406094190362590 tw14542009160516721889 tw9708097846473410201 tw1699628495135940896 tw10287530665201364167 tw3583284802805996487 tw12161933839614798552 tw12808663996668417700 tw14361394699948556319 tw8440507343970277187 tw18391358831079611663 tw17445736527896262263 tw8926740836430044407 tw245500693883301438 tw13704398874999451299 tw3601026855637468527 tw5380309050215402504 tw18074390622019950546 tw13991183673328983354 tw13559725983181052652 tw16339810670916807403 tw11808339943788675872 tw15689268816486421510 tw5358070834536557080 tw14896297533562159181 tw10626804832373702320 tw18257754192936244682 tw12740134891250599490 tw16026264509374620981 tw6959765447639385728 tw18031472794586677327 tw885326702262588310 tw17042432911523666018 tw3874019032684990832 tw11499172642040789295 tw846771460100273822 tw263333358874581629 tw1450977986540172144 tw13735794306979283765 tw852891495645241259 tw1834618803251907284 tw17668063319799374302 tw8774579527333766803 tw13162293848408730309 tw2531623796233672625 tw2568215182144371268 tw10907757411308348082 tw13825657840124716490 tw18066948725480210039 tw130191769469357030 tw14547420504585435160 tw15339726002303695848 tw10413454811345700870 tw18316997181863571686 tw16333182165747652814 tw708795066988859330 tw14246890275061829360 tw7827681375438978471 tw4230406808858678147 tw11300929985893350959 tw17964418681074572820 tw12062971419179770385 tw14666941057416353886 tw13658564132960703525 tw6239479351248009152 tw13429538092900504729 tw2153967206023726297 tw2031211949182450902 tw12336983596243534565 tw8593549247255541265 tw15220022335981626145 tw1062084929325297716 tw6452572877943334142 tw5211790307497620971 tw4910355816242073150 tw9736402698074416326 tw16661457167668434445 tw5457918972579676905 tw13868326695591957619 tw12951057218627441815 tw12851371939165374677 tw17626938342634590819 tw9270020497512531474 tw15107042805529278469 tw4445020972239817470 tw4325620302876177376 tw14917849804005790102 tw5304253598410713488 tw3304665123068533928 tw13135662239267787888 tw112942522835667246 tw11990003889359032244 tw5300448126901499409 tw14606038734437541104 tw3627852349754232828 tw12766806415403818667 tw7296057947027107120 tw7574840439752730645 tw6195657766294404603 tw9795139537227477349 tw15577579432952470335 tw4552907498824726177 tw8794931140982536743 tw1781097709626127483 tw6070039457279803074 tw1784180686292543598 tw15711482113053853350 tw4672872930099670742 tw17593815122861235341 tw12744669482842927683 tw16270366879966734324 tw8289931752540668545 tw3313105644837378121 tw10830554705597363882 tw6830603128587340003 tw10386574744771772667 tw5723648213333737451 tw7984345952212533881 tw4079899455016778175 tw15623084373007586902 tw9009419825680119344 tw3882649137271495278 tw2389306452827006419 tw17476789137774953490 tw3850483721331916940 tw11586378552491210371 tw5104297054553879161 tw15295935630181462559 tw3928721642953943262 tw6698922358873041877 tw2104892618314683942 tw10734475438964717186 tw16041923765230450104 tw17102841395748883324 tw928641468965798221 tw1360288036415595611 tw12675025005061146698 tw7483708605249006214 tw3919806041384688732 tw113978195785443819 tw14803787594337828580 tw8963341375261990476 tw3839858024014400623 tw12886856412137249359 tw10017899982835697089 tw16597626595546118422 tw11076383829011732910 tw13202083404183339445 tw10660487902255398467 tw15703033677714777599 tw7515961960817083852 tw4555470796150645694 tw5528672836846199640 tw8550320805420793920 tw7076294166289901355 tw1512520969119204994 tw2217802996189995851 tw13921396715206824106 tw10026078653489729118 tw10407246169317721715 tw5666548428868517641 tw7332690202123690175 tw4305090808200956984 tw11879421256141752583 tw9159978685073488892 tw137739755425736761 tw8170618149915184895 tw360497135871209631 tw8067455853908862097 tw14767490865445779510 tw6878587690442956307 tw10295701599054532296 tw9056243993614094323 tw10704826325514255263 tw16813837310741378590 tw9596661738472407619 tw5357442790368820298 tw14879934323300095700 tw14214538831040070845 tw14843565651407789745 tw2946166995647865162 tw10941894893768668911 tw1574560856752543706 tw2826803642316284558 tw17283794505674871871 tw8372115836039498687 tw13051412788503756666 tw393965628328797558 tw811089753178482230 tw4656199267015568220 tw2394819241210766217 tw16249602651751830360 tw5869958702289460968 tw769985735060253578 tw5687189016013126218 tw5194483175573574929 tw3771897525710092193 tw12180876455057051854 tw2704807001760411600 tw7794551304097935633 tw5251788903794463212 tw13966558508031547047 tw3104128767031487877 tw5201607656323474579 tw4353525703477796022 tw2888438143314930359 tw16277539806841680499 tw13765823992050127922 tw7187876457357075312 tw8192504031876327789 tw2371678324004400696 tw4666924282479973885 tw15896751884922230569 tw16545816133192605266 tw5953544249406667916 tw8098219760856141752 tw7416228790151623726 tw10935571047914731775 tw7717245603748323845 tw3557020378014135999 tw14252400962454668586 tw10458866961948102910 tw990987116935907499 tw14970646594430078101 tw1284173137878378564 tw3150028849633570663 tw10817831033271274310 tw15825613412571432639 tw3419078690755596345 tw11047578096105748688 tw1171263267676637905 tw5169117080296332124 tw14365481218427446031 tw3484601870857713110 tw14791711784199913290 tw12292383647028343120 tw11519730703006535255 tw18135539025208368887 tw8933315691810687699 tw2124987526011788217 tw12447359267901175076 tw4508136450590794878 tw11106895543493387576 tw16296185529975413324 tw14945469032106251122 tw4062233507637629203 tw7600411177925401462 tw5891006594787699893 tw9290072590030743387 tw13461810468713570131 tw6198362838170596704 tw1495951609768334295 tw12228118731321273279 tw16511072399786498992 tw12669569896645527837 tw14571751006141897865 tw3033026833700427653 tw14226494343828969107 tw6289130484446682114 tw14446008245628515424 tw5858230329391969780 tw8416493977091553923 tw3938056670591190653 tw7182694733498587541 tw8771816601808519898 tw16073481068673148067 tw16907801666691014848 tw14412385775459696787 tw18255957167521217445 tw2378835124856400377 tw10935641560074283018 tw13767443650457131953 tw3306973931250581337 tw7237412501553231824 tw5280319584691393685 tw14053990384065647653 tw18229941447982793080 tw2345605041690710988 tw3457886946438399713 tw11471833726095588354 tw2253850916952911144 tw13985914957478529350 tw7032639366208226653 tw16271390878327151347:True)
namespace L2
open PySem PySem.Spec PyProof.Rows
noncomputable abbrev Key:=Sum Int Str
noncomputable def sj:Key->Value->Bool
 |.inl k,v=>Value.isInt k v
 |.inr x,v=>Value.isStrOf x v
noncomputable def Ua(w:World):Key->Int
 |.inl k=>hashInt k
 |.inr x=>hashStr w x
theorem v7:∀{k:Key} {v:Value},sj k v=true->(∃i t,k=Sum.inl i/\v=Value.int i t)\/(∃x t,k=Sum.inr x/\v=Value.str x t)
 |.inl i,v,h=>by
  obtain⟨t,e⟩:=mM (k:=i) (v:=v) h;exact .inl ⟨i,t,rfl,e⟩
 |.inr x,v,h=>by
  obtain⟨t,e⟩:=Value.isStrOf_shape (x:=x) (v:=v) h;exact .inr ⟨x,t,rfl,e⟩
theorem Xz(i:Int)(t:Tok):sj (.inl i) (.int i t)=true:=by simp[sj,Value.isInt]
theorem XA(x:Str)(t:Tok):sj (.inr x) (.str x t)=true:=by simp[sj,Value.isStrOf]
theorem OL(a b:Int):decide ((Sum.inl a:Key)=Sum.inl b)=(a==b):=by
 by_cases e:a=b
 ·subst e;simp
 ·have h:¬(Sum.inl a:Key)=Sum.inl b:=λq=>e (Sum.inl.inj q);rw[aF h];exact(cZ.mpr e).symm
theorem OO(a b:Str):decide ((Sum.inr a:Key)=Sum.inr b)=decide (a=b):=by
 by_cases e:a=b
 ·subst e;simp
 ·have h:¬(Sum.inr a:Key)=Sum.inr b:=λq=>e (Sum.inr.inj q);rw[aF h,aF e]
theorem OM(a:Int)(b:Str):decide ((Sum.inl a:Key)=Sum.inr b)=false:=aF (λq=>nomatch q)
theorem ON(a:Str)(b:Int):decide ((Sum.inr a:Key)=Sum.inl b)=false:=aF (λq=>nomatch q)
noncomputable def p6(prog:Program)(w:World):PySem.KeyKind prog w Key where
 is:=sj
 hash:=Ua w
 inj:=λv a b ha hb=>by
  rcases v7 ha with⟨i,t,rfl,rfl⟩|⟨x,t,rfl,rfl⟩
  ·rcases v7 hb with⟨j,u,rfl,e⟩|⟨y,u,rfl,e⟩
   ·injection e with e1 _;rw[e1]
   ·exact nomatch e
  ·rcases v7 hb with⟨j,u,rfl,e⟩|⟨y,u,rfl,e⟩
   ·exact nomatch e
   ·injection e with e1 _;rw[e1]
 byValue:=λk v h=>by
  rcases v7 h with⟨i,t,rfl,rfl⟩|⟨x,t,rfl,rfl⟩<;>rfl
 pyHash:=λhv h=>by
  rcases v7 hv with⟨i,t,rfl,rfl⟩|⟨x,t,rfl,rfl⟩
  ·exact wpAny_pyHash_int h
  ·exact wpAny_pyHash_str h
 eqBool:=λhu hv h=>by
  rcases v7 hu with⟨i,t,rfl,rfl⟩|⟨x,t,rfl,rfl⟩
  ·rcases v7 hv with⟨j,u,rfl,rfl⟩|⟨y,u,rfl,rfl⟩
   ·rw[OL] at h;exact wpAny_eqBool_int h
   ·rw[OM] at h;exact SeqAt.EqAt.int_str i t y u _ _ _ _ h
  ·rcases v7 hv with⟨j,u,rfl,rfl⟩|⟨y,u,rfl,rfl⟩
   ·rw[ON] at h;exact SeqAt.EqAt.str_int x t j u _ _ _ _ h
   ·rw[OO] at h;exact wpAny_eqBool_str h
 «strs»:=λk x t v h=>by
  rcases v7 h with⟨i,u,rfl,e⟩|⟨y,u,rfl,e⟩
  ·exact nomatch e
  ·injection e with e1 _;subst e1;cases v<;>rfl
theorem Zo(prog:Program)(w:World)(i:Int)(t:Tok):(p6 prog w).is (.inl i) (.int i t)=true:=Xz i t
theorem Zp(prog:Program)(w:World)(x:Str)(t:Tok):(p6 prog w).is (.inr x) (.str x t)=true:=XA x t
end L2
namespace L2
open PySem PySem.Spec PyProof.Rows
inductive V where
 |bO|bl (b:Bool)|int (i:Int)|str (x:Str)|kl (b:Array UInt8)|qp (b:UInt64)|ref (a:Addr)|ty (n:String)
 deriving DecidableEq
noncomputable def RelV:V->Value->Prop
 |.bO,u=>u=Value.none
 |.bl b,u=>u=Value.bool b
 |.int i,u=>∃t,u=Value.int i t
 |.str x,u=>∃t,u=Value.str x t
 |.kl b,u=>∃t,u=Value.bytes b t
 |.qp b,u=>∃t,u=Value.float b t
 |.ref a,u=>u=Value.ref a
 |.ty n,u=>u=Value.type n
noncomputable abbrev Vals:List V->List Value->Prop:=Paired RelV
theorem Vals.length{xs:List V}{us:List Value}(r:Vals xs us):xs.length=us.length:=kP r
theorem Vals.get:∀{xs:List V} {us:List Value} {i:Nat} {x:V},Vals xs us->xs[i]?=some x->∃u,us[i]?=some u/\RelV x u
 |_,_,_,_,.nil,e=>by simp at e
 |_,_,0,_,.cons r _,e=>by simp at e;subst e;exact⟨_,rfl,r⟩
 |_,_,i+1,x,.cons _ t,e=>by
  obtain⟨u,h1,h2⟩:=Vals.get (i:=i) (x:=x) t (by simpa using e);exact⟨u,by simpa using h1,h2⟩
theorem Vals.set{x:V}{u:Value}(r:RelV x u):∀{xs:List V} {us:List Value} (i:Nat),Vals xs us->Vals (xs.set i x) (us.set i u)
 |_,_,_,.nil=>.nil
 |_,_,0,.cons _ t=>.cons r t
 |_,_,i+1,.cons q t=>.cons q (Vals.set r i t)
theorem Vals.append:∀{xs ys:List V} {us ws:List Value},Vals xs us->Vals ys ws->Vals (xs++ys) (us++ws)
 |_,_,_,_,.nil,s=>s
 |_,_,_,_,.cons r t,s=>.cons r (Vals.append t s)
theorem Vals.take:∀{xs:List V} {us:List Value} (n:Nat),Vals xs us->Vals (xs.take n) (us.take n)
 |_,_,0,_=>.nil
 |_,_,_+1,.nil=>.nil
 |_,_,n+1,.cons r t=>.cons r (Vals.take n t)
theorem Vals.drop:∀{xs:List V} {us:List Value} (n:Nat),Vals xs us->Vals (xs.drop n) (us.drop n)
 |_,_,0,r=>r
 |_,_,_+1,.nil=>.nil
 |_,_,n+1,.cons _ t=>Vals.drop n t
noncomputable def E9:Option V->Option Value->Prop
 |some v,some u=>RelV v u
 |none,none=>True
 |_,_=>False
noncomputable def KV{κ:Type}:List (κ×V)->List (κ×Value)->Prop:=Paired λ(p:κ×V) (q:κ×Value)=>p.1=q.1/\RelV p.2 q.2
noncomputable def kV:Key->V
 |.inl i=>.int i
 |.inr x=>.str x
inductive HO where
 |lst (xs:List V)
 |tup (xs:List V)
 |dK (kvs:List (Key×V))|dT (kvs:List (List Key×V))
 |set (S:Int->Bool) (n:Nat)
 |ins (C dx:Addr) (fs:List (Str×V))
 |own (x:Addr)
 |xd (fs:List (Str×V))
 |met (f x:Addr)
 |kS (lo hi:Int)
 |je (o:Obj) (u:HO)
 |nN (ps:Array Value)
 |ext (φ:Heap->Prop)
noncomputable abbrev Hp:=Addr->Option HO
noncomputable def upd(H:Hp)(a:Addr)(o:HO):Hp:=λb=>if b=a then some o else H b
theorem t8{H:Hp}{a:Addr}{o:HO}:upd H a o a=some o:=by unfold upd;rw[aH rfl]
theorem i3{H:Hp}{a b:Addr}{o:HO}(h:b≠a):upd H a o b=H b:=by unfold upd;rw[aB h]
theorem VM{H:Hp}{a b:Addr}{o u:HO}(h:H a=some o)(h':H b=some u)(d:o≠u):a≠b:=by
 intro e;subst e;rw[h] at h';exact d (aJ h')
theorem l9{H:Hp}{a b:Addr}{o:HO}(h:H a=some o)(h':H b=none):a≠b:=by
 intro e;subst e;rw[h] at h';cases h'
noncomputable def F0(h:Heap)(a:Addr)(items:Array Value):Prop:=∃o,h.get? a=some o/\o.cls=.type "tuple"/\(∃n,o.data=.seq items n)/\o.dict=none
theorem F0.tup{h:Heap}{a:Addr}{items:Array Value}(x:F0 h a items):IsTup h a items:=let ⟨o,e,c,d,_⟩:=x;⟨o,e,c,d⟩
theorem F0.new(h:Heap)(items:Array Value):F0 (h.push { cls:=.type "tuple",data:=.seq items }) h.objs.size items:=⟨_,aC _ rfl,rfl,⟨_,rfl⟩,rfl⟩
section
variable(P:Program)(w:World)
noncomputable def m8(H:Hp)(h:Heap)(a:Addr):HO->Prop
 |.lst xs=>xs.length<=sizeLine/\∃(aR:List Value) (n:Nat),Vals xs aR/\h.get? a=some { cls:=.type "list",data:=.seq aR.toArray n }
 |.tup xs=>xs.length<=sizeLine/\∃aR:List Value,Vals xs aR/\F0 h a aR.toArray
 |.dK kvs=>kvs.length<=sizeLine/\(a==sysModules)=false/\∃vs,KV kvs vs/\h.DictOf (p6 P w) a vs
 |.dT kvs=>kvs.length<=sizeLine/\(a==sysModules)=false/\∃xs:List (List Key×Addr×Value),
   Paired (λ(p:List Key×V) (q:List Key×Addr×Value)=>p.1=q.1/\H q.2.1=some (.tup (p.1.map kV))/\RelV p.2 q.2.2) kvs xs /\
   ∃o es ep,h.get? a=some o/\o.ExactDict/\o.data=.dict es ep/\es.toList=xs.map (entryOfKey (tupleKind (p6 P w)))/\(xs.map (·.1)).Nodup
 |.set S n=>h.SetOf (intKind P w) a S n
 |.ins C dx fs=>H dx=some (.own a)/\fs.length<=1000/\dx≠a/\h.get? a=some (PySem.W.instObj C dx) /\
   ∃mA,h.Ns1 dx mA/\(∀f,E9 (fs.lookup f) (mA f))/\PySem.Within mA (fs.map (·.1))
 |.own _=>∃o,h.get? a=some o
 |.xd fs=>∃mA,h.Ns1 a mA/\∀f,E9 (fs.lookup f) (mA f)
 |.kS lo hi=>∃t u v,h.get? a=some { cls:=.type "range",data:=.fields #[.int lo t,.int hi u,.int 1 v] }
 |.je o u=>h.get? a=some o/\m8 H h a u
 |.nN ps=>h.get? a=some { cls:=.none,data:=.fields ps }
 |.met f x=>h.get? a=some (PySem.W.methodObj (.ref f) (.ref x))
 |.ext φ=>φ h/\(∃o,h.get? a=some o)/\∀h1 h2:Heap,φ h1->(∀o,h1.get? a=some o->h2.get? a=some o)->φ h2
noncomputable def fK(H:Hp)(h:Heap):Prop:=∀a o,H a=some o->m8 P w H h a o
end
section
variable{P:Program}{w:World}{H H':Hp}{h h':Heap}{a:Addr}{o:HO}
theorem m8.lt(x:m8 P w H h a o):a<h.objs.size:=by
 cases o with
 |lst xs=>obtain⟨_,_,_,_,e⟩:=x;exact ay e
 |tup xs=>obtain⟨_,_,_,p⟩:=x;exact p.tup.lt
 |dK kvs=>obtain⟨_,_,_,_,o,_,_,e,_⟩:=x;exact ay e
 |dT kvs=>obtain⟨_,_,_,_,o,_,_,e,_⟩:=x;exact ay e
 |set S n=>obtain⟨o,_,_,_,e,_⟩:=x;exact ay e
 |ins C dx fs=>obtain⟨_,_,_,e,_⟩:=x;exact ay e
 |own y=>obtain⟨_,e⟩:=x;exact ay e
 |xd fs=>obtain⟨_,⟨_,_,_,e,_⟩,_⟩:=x;exact ay e
 |kS lo hi=>obtain⟨_,_,_,e⟩:=x;exact ay e
 |je ob u=>obtain⟨e,_⟩:=x;exact ay e
 |nN ps=>exact ay (show h.get? a=some _ from x)
 |met f y=>exact ay (show h.get? a=some _ from x)
 |ext φ=>obtain⟨_,⟨_,e⟩,_⟩:=x;exact ay e
theorem Paired.CQ{α β:Type}{F G:α->β->Prop}:∀{tQ:List α} {tP:List β},Paired F tQ tP->(∀a b,F a b->G a b)->Paired G tQ tP
 |_,_,.nil,_=>.nil
 |_,_,.cons r t,f=>.cons (f _ _ r) (Paired.CQ t f)
theorem m8.Q7(x:m8 P w H h a o)(k:∀b u,(b=a\/H b=some (.own a))->h.get? b=some u->h'.get? b=some u)(ho:∀b,H b=some (.own a)->H' b=some (.own a))(ht:∀b xs,H b=some (.tup xs)->H' b=some (.tup xs)):m8 P w H' h' a o:=by
 induction o with
 |lst xs=>obtain⟨z,aR,n,r,e⟩:=x;exact⟨z,aR,n,r,k _ _ (.inl rfl) e⟩
 |tup xs=>obtain⟨z,aR,r,ob,e,c⟩:=x;exact⟨z,aR,r,ob,k _ _ (.inl rfl) e,c⟩
 |dK kvs=>obtain⟨z,y,vs,r,ob,es,ep,e,c⟩:=x;exact⟨z,y,vs,r,ob,es,ep,k _ _ (.inl rfl) e,c⟩
 |dT kvs =>
  obtain⟨z,y,xs,r,ob,es,ep,e,c⟩:=x;exact⟨z,y,xs,Paired.CQ r λp q z=>⟨z.1,ht _ _ z.2.1,z.2.2⟩,ob,es,ep,k _ _ (.inl rfl) e,c⟩
 |set S n=>obtain⟨ob,es,ep,t,e,c⟩:=x;exact⟨ob,es,ep,t,k _ _ (.inl rfl) e,c⟩
 |ins C dx fs =>
  obtain⟨d,z,ne,e,mA,⟨od,es,ep,e2,c⟩,r⟩:=x;exact⟨ho _ d,z,ne,k _ _ (.inl rfl) e,mA,⟨od,es,ep,k _ _ (.inr d) e2,c⟩,r⟩
 |own y=>obtain⟨ob,e⟩:=x;exact⟨ob,k _ _ (.inl rfl) e⟩
 |xd fs=>obtain⟨mA,⟨od,es,ep,e,c⟩,r⟩:=x;exact⟨mA,⟨od,es,ep,k _ _ (.inl rfl) e,c⟩,r⟩
 |kS lo hi=>obtain⟨t,u,v,e⟩:=x;exact⟨t,u,v,k _ _ (.inl rfl) e⟩
 |je ob u ih=>obtain⟨e,q⟩:=x;exact⟨k _ _ (.inl rfl) e,ih q⟩
 |nN ps =>
  have e:h.get? a=some { cls:=.none,data:=.fields ps }:=x;show h'.get? a=some { cls:=.none,data:=.fields ps };exact k a _ (.inl rfl) e
 |met f y =>
  have e:h.get? a=some (PySem.W.methodObj (.ref f) (.ref y)):=x;show h'.get? a=some (PySem.W.methodObj (.ref f) (.ref y));exact k a _ (.inl rfl) e
 |ext φ=>obtain⟨p,⟨o,e⟩,st⟩:=x;exact⟨st _ _ p λo q=>k _ _ (.inl rfl) q,⟨o,k _ _ (.inl rfl) e⟩,st⟩
theorem fK.lt(x:fK P w H h)(e:H a=some o):a<h.objs.size:=(x a o e).lt
theorem fK.fresh(x:fK P w H h)(e:h.objs.size<=a):H a=none:=by
 cases q:H a with
 |none=>rfl
 |some u=>exact absurd (ax (x.lt q) e) (br _)
theorem fK.kept(x:fK P w H h)(k:∀b u,h.get? b=some u->h'.get? b=some u):fK P w H h':=λa o e =>
 (x a o e).Q7 (λb u _ q=>k b u q) (λ_ q=>q) λ_ _ q=>q
theorem fK.laid(x:fK P w H h)(k:∀b u,h.get? b=some u->h'.get? b=some u)(hp:h.objs.size<=a)(new:m8 P w (upd H a o) h' a o):fK P w (upd H a o) h':=λb u e=>by
 have hn:=x.fresh hp;by_cases hb:b=a
 ·subst hb;rw[t8] at e;cases e;exact new
 ·rw[i3 hb] at e;exact(x b u e).Q7 (λc v _ q=>k c v q) (λc q=>by rw[i3 (l9 q hn)];exact q) λc xs q=>by rw[i3 (l9 q hn)];exact q
end
noncomputable def Rd(H:Hp)(a:Addr)(u:HO):Prop:=H a=some u\/∃o,H a=some (.je o u)
theorem Rd.ok{P:Program}{w:World}{H:Hp}{h:Heap}{a:Addr}{u:HO}(r:Rd H a u)(x:fK P w H h):m8 P w H h a u:=by
 rcases r with r|⟨o,r⟩
 ·exact x a u r
 ·obtain⟨_,q⟩:=x a _ r;exact q
noncomputable def vD:Option HO->Prop
 |some (.lst _)=>True
 |some (.dK _)=>True
 |some (.dT _)=>True
 |some (.set _ _)=>True
 |some (.ins _ _ _)=>True
 |some (.ext _)=>True
 |_=>False
section
variable{P:Program}{w:World}{H:Hp}{h h':Heap}{x e:Addr}{o':HO}
theorem fK.write(ok:fK P w H h)(mu:vD (H x))(he:e=x\/H e=some (.own x))(k:∀b u,b≠e->h.get? b=some u->h'.get? b=some u)(om:∃u,h'.get? e=some u)(new:m8 P w (upd H x o') h' x o'):fK P w (upd H x o') h':=λb u q=>by
 have tJ:∀c y,H c=some (.own y)->c≠x:=λc y r z=>by subst z;rw[r] at mu;exact mu
 have yL:∀c xs,H c=some (.tup xs)->c≠x:=λc xs r z=>by subst z;rw[r] at mu;exact mu
 by_cases hb:b=x
 ·subst hb;rw[t8] at q;cases q;exact new
 ·rw[i3 hb] at q;by_cases pX:b=e
  ·have q':H b=some (.own x):=by
    rcases he with z|z
    ·exact absurd (pX.trans z) hb
    ·rw[pX];exact z
   rw[q] at q';cases q';obtain⟨v,hv⟩:=om;exact⟨v,by rw[pX];exact hv⟩
  ·refine(ok b u q).Q7 (λc v hc r=>k c v ?_ r) (λc r=>by rw[i3 (tJ c b r)];exact r) λc xs r=>by rw[i3 (yL c xs r)];exact r
   rcases hc with rfl|hc
   ·exact pX
   ·rintro rfl;rcases he with z|z
    ·exact tJ c b hc z
    ·rw[hc] at z;cases z;exact hb rfl
end
structure Un(fs ex:List Addr)(H H':Hp)(h h':Heap):Prop where
 keep:∀b o,h.get? b=some o->H b=none->b∉fs->b∉ex->h'.get? b=some o
 slot:∀b o,h.get? b=some o->H b=none->b∈fs->b∉ex->∃sl,h'.get? b=some { o with slots:=sl }
 free:∀b o,h.get? b=some o->H b=none->b∉ex->H' b=none
 there:∀b o,h.get? b=some o->b∉ex->∃o',h'.get? b=some o'
 gL:∀b xs,H b=some (.tup xs)->H' b=some (.tup xs)
 gw:∀b o u,H b=some (.je o u)->H' b=some (.je o u)
 gM:∀b ps,H b=some (.nN ps)->∃more,H' b=some (.nN (ps++more))
section
variable{fs qm ex ex':List Addr}{H H1 H2:Hp}{h h1 h2 h':Heap}{a x e:Addr}{o:HO}
theorem Un.any(u:Un fs ex H H1 h h1){b:Addr}{ob:Obj}(q:h.get? b=some ob)(n:H b=none)(hx:b∉ex):∃sl,h1.get? b=some { ob with slots:=sl }:=by
 by_cases hb:b∈fs
 ·exact u.slot b ob q n hb hx
 ·exact⟨ob.slots,u.keep b ob q n hb hx⟩
theorem Un.kept(k:∀b u,h.get? b=some u->h'.get? b=some u):Un fs ex H H h h' :=
 ⟨λb ob q _ _ _=>k b ob q,λb ob q _ _ _=>⟨ob.slots,k b ob q⟩,λ_ _ _ n _=>n,λb ob q _=>⟨ob,k b ob q⟩,λ_ _ q=>q,λ_ _ _ q=>q,λ_ ps q=>⟨#[],by rw[q];simp⟩⟩
theorem Un.refl:Un fs ex H H h h:=Un.kept λ_ _ q=>q
theorem Un.laid(k:∀b u,h.get? b=some u->h'.get? b=some u)(hp:h.objs.size<=a)(hn:H a=none):Un fs ex H (upd H a o) h h' where
 keep:=λb u q _ _ _=>k b u q
 slot:=λb u q _ _ _=>⟨u.slots,k b u q⟩
 free:=λb u q n _=>by rw[i3 (aN (ax (ay q) hp))];exact n
 there:=λb u q _=>⟨u,k b u q⟩
 gL:=λb xs q=>by rw[i3 (l9 q hn)];exact q
 gw:=λb u xs q=>by rw[i3 (l9 q hn)];exact q
 gM:=λb ps q=>⟨#[],by rw[i3 (l9 q hn),q];simp⟩
theorem Un.write(mu:vD (H x))(he:e=x\/H e=some (.own x))(k:∀b u,b≠e->h.get? b=some u->h'.get? b=some u)(om:∃u,h'.get? e=some u):Un fs ex H (upd H x o) h h':=by
 have hx:∀b,H b=none->b≠x:=λb n z=>by subst z;rw[n] at mu;exact mu
 have hb:∀b,H b=none->b≠e:=λb n z=>by
  subst z;rcases he with r|r
  ·exact hx b n r
  ·rw[n] at r;cases r
 have hm:∀b u,H b=some u->¬vD (some u)->b≠x:=λb u q nm z=>by subst z;rw[q] at mu;exact nm mu
 refine ⟨λb u q n _ _=>k b u (hb b n) q,λb u q n _ _=>⟨u.slots,k b u (hb b n) q⟩,λb u q n _=>by rw [i3 (hx b n)];exact n,λb u q _=>?_,
  λb xs q=>by rw [i3 (hm b _ q λz=>z)];exact q,λb u xs q=>by rw [i3 (hm b _ q λz=>z)];exact q,λb ps q=>⟨#[],by rw [i3 (hm b _ q λz=>z),q];simp⟩⟩
 by_cases pX:b=e
 ·subst pX;exact om
 ·exact⟨u,k b u pX q⟩
end
noncomputable def mR(h:Heap)(H:Hp):List Addr:=(List.range h.objs.size).filter λa=>(H a).isSome
noncomputable def nD(h:Heap)(H:Hp):Heap:=PySem.W.hideAll h (mR h H)
theorem Xv(h:Heap)(H:Hp):(nD h H).objs.size=h.objs.size:=PySem.W.hideAll_size _ _
theorem ZS{h:Heap}{H:Hp}{b:Addr}{o:Obj}(e:h.get? b=some o)(n:H b=none):(nD h H).get? b=some o :=
 Dk _ e λhm=>by
  have q:(H b).isSome=true:=(aT.mp hm).2;rw[n] at q;simp at q
theorem RT{h:Heap}{H:Hp}{b:Addr}{o:Obj}(e:(nD h H).get? b=some o):h.get? b=some o/\H b=none:=by
 have e':h.get? b=some o:=Ka (mR h H) e;refine⟨e',?_⟩;cases q:H b with
 |none=>rfl
 |some x =>
  have hm:b∈mR h H:=aT.mpr ⟨aI.mpr (ay e'),by simp[q]⟩;have z:(nD h H).get? b=none:=PySem.W.hideAll_none (mR h H) hm;rw[z] at e;cases e
end L2
namespace L2
open PySem PySem.Spec PyProof.Rows
structure Mod(K:PySem.W.Frag)(mg:Str->Option Value)(base:Heap):Prop where
 mE:K.In base
 glob:base.Ns mainGlobals mg
 blt:∃mb,base.Ns builtinsNs mb/\∀x:Str,x≠"__name__"->mb x=bootBuiltins x
 nolimit:base.NoLimit
structure Cx where
 prog:Program
 w:World
 K:PySem.W.Frag
 mg:Str->Option Value
 base:Heap
 A:Around
 N:List Str
 cX:Shared
 iR:Hp
 env:Env
 outer:List Env
 stack:List Env
 ex:List Addr
 fn:Str->Bool
 calm:Bool
 pn:List (Addr×Obj)
 xe:Value->Shared->Prop
noncomputable def ft(l:List Env):List Addr:=l.filterMap (·.frame)
noncomputable abbrev Cx.fs(X:Cx):List Addr:=ft X.outer
noncomputable def vz(sc:Scope)(x:Str):Prop:=sc.names.lookup x=some .local\/sc.names.lookup x=some .cell\/sc.names.lookup x=some .free
noncomputable def Loc(sc:Scope)(x:Str):Prop:=sc.names.lookup x=some .local\/sc.names.lookup x=some .cell
noncomputable def Look(env:Env)(h:Heap)(m:Str->Option Value)(x:Str)(u:Value):Prop :=
 (env.kindOf x=some .local/\m x=some u)\/((env.kindOf x=some .cell\/env.kindOf x=some .free)/\∃c,env.cells.lookup x=some c/\h.IsCell c (some u))
structure Cx.Ok(X:Cx):Prop where
 mod:Mod X.K X.mg X.base
 kind:X.env.scope.kind=.function
 glob:X.env.globals=mainGlobals
 blt:X.env.builtins=builtinsNs
 above:X.cX.heap.objs.size<=X.env.locals
 inj:∀x y c,X.env.cells.lookup x=some c->X.env.cells.lookup y=some c->x=y
 has:∀x,(X.env.kindOf x=some .cell\/X.env.kindOf x=some .free)->∃c,X.env.cells.lookup x=some c
 qw:∀x c,X.fn x=true->X.env.cells.lookup x=some c->X.cX.heap.objs.size<=c
 hd:X.calm=true->X.A.handled=none
 frames:X.A.frames=some X.stack
 qU:X.stack=X.outer\/(X.stack=X.env::X.outer/\X.env.frame=some X.env.locals)
 wG:∀b∈X.ex,b≠X.env.locals/\∀x c,X.env.cells.lookup x=some c->c≠b
 bs:∀b o,X.base.get? b=some o->X.cX.heap.get? b=some o/\X.iR b=none
 mJ:X.base.objs.size<=X.cX.heap.objs.size
 jT:∀b o,X.base.get? b=some o->b∉X.ex
 kK:∀b∈X.ex,b∉X.fs
 K9:X.cX.heap.FunFrames X.base X.outer
 nr:∀b∈X.fs,X.iR b=none
structure Inv(X:Cx)(pins:List (Addr×Obj))(Z:List (Option V))(H:Hp)(s:Shared):Prop where
 ok:X.Ok
 os:s.os=X.cX.os
 bare:AllBare s.gens
 base:Un X.fs X.ex X.iR H X.cX.heap s.heap
 loc:∃m,s.heap.Ns X.env.locals m/\∀(i:Nat) (x:Str) (v:V),X.N[i]?=some x->Z[i]?=some (some v)->vz X.env.scope x->∃u,RelV v u/\Look X.env s.heap m x u
 cell:∀x c,X.env.cells.lookup x=some c->∃v,s.heap.IsCell c v
 free:H X.env.locals=none
 eA:∀x c,X.env.cells.lookup x=some c->H c=none
 pin:∀p∈X.pn++pins,s.heap.get? p.1=some p.2/\H p.1=none/\p.1≠X.env.locals/\p.1∉X.fs/\∀v,p.2.data≠.cell v
 bG:fK X.prog X.w H s.heap
 len:Z.length=X.N.length
section
variable{X:Cx}{pins:List (Addr×Obj)}{Z:List (Option V)}{H H':Hp}{s:Shared}{h':Heap}
theorem Cx.Ok.Um(ok:X.Ok){b:Addr}{o:Obj}(e:X.base.get? b=some o):b∉X.fs:=λhb=>by
 have:=(ok.K9.mem hb).1;rw[e] at this;cases this
theorem Inv.bs(I:Inv X pins Z H s):∀b o,X.base.get? b=some o->s.heap.get? b=some o/\H b=none:=λb o e =>
 ⟨I.base.keep b o (I.ok.bs b o e).1 (I.ok.bs b o e).2 (I.ok.Um e) (I.ok.jT b o e),I.base.free b o (I.ok.bs b o e).1 (I.ok.bs b o e).2 (I.ok.jT b o e)⟩
theorem Inv.bk(I:Inv X pins Z H s):∀b o,X.base.get? b=some o->s.heap.get? b=some o:=λb o e=>(I.bs b o e).1
theorem Inv.mod(I:Inv X pins Z H s):Mod X.K X.mg X.base:=I.ok.mod
theorem Inv.gp(I:Inv X pins Z H s):X.K.In s.heap:=I.ok.mod.mE.keeps I.bk
theorem Inv.lt(I:Inv X pins Z H s):X.env.locals<s.heap.objs.size:=let ⟨_,hn,_⟩:=I.loc;hn.lt
theorem Inv.sz(I:Inv X pins Z H s):X.cX.heap.objs.size<=s.heap.objs.size:=aD I.ok.above (dG I.lt)
theorem Inv.vx(I:Inv X pins Z H s){a:Addr}(h:s.heap.objs.size<=a):a∉X.fs:=λhb=>by
 obtain⟨_,o,ho,_⟩:=I.ok.K9.mem hb;exact absurd (ax (ay ho) (aD I.sz h)) (br _)
theorem Inv.qt(I:Inv X pins Z H s):∀x c,X.env.cells.lookup x=some c->c≠X.env.locals:=λx c e z=>by
 obtain⟨v,o,ho,hd⟩:=I.cell x c e;obtain⟨m,⟨o',es,ep,lT,zB,_⟩,_⟩:=I.loc;rw[z,lT] at ho;cases ho;rw[zB] at hd;cases hd
theorem Inv.K9(I:Inv X pins Z H s):s.heap.FunFrames X.base X.outer:=by
 have all:∀(l:List Env),(∀b∈ft l,b∈X.fs)->X.cX.heap.FunFrames X.base l->s.heap.FunFrames X.base l:=by
  intro l
  induction l with
  |nil=>intro _ _;trivial
  |cons env r ih =>
   intro hs hl;obtain⟨hk,⟨L,o,hf,hn,ho,hd⟩,hr⟩:=hl;have hL:L∈X.fs:=hs L (by unfold ft;rw[da,hf];exact fO);obtain⟨sl,e⟩:=I.base.slot L o ho (I.ok.nr L hL) hL λz=>I.ok.kK L z hL;exact⟨hk,⟨L,_,hf,hn,e,hd⟩,ih (λb hb=>hs b (by unfold ft;rw[da,hf];exact bI _ hb)) hr⟩
 exact all X.outer (λ_ hb=>hb) I.ok.K9
theorem Inv.stack(I:Inv X pins Z H s):s.heap.FunFrames X.base X.stack:=by
 rcases I.ok.qU with e|⟨e,hf⟩
 ·rw[e];exact I.K9
 ·rw[e];obtain⟨m,hn,_⟩:=I.loc;refine .cons (by rw[I.ok.kind];decide) hf hn ?_ I.K9;exact Heap.get?_none_of_le (aD I.ok.mJ I.ok.above)
theorem Inv.K2(I:Inv X pins Z H s):∀b∈ft X.stack,b∈X.env.locals::X.fs:=λb hb=>by
 rcases I.ok.qU with e|⟨e,hf⟩
 ·rw[e] at hb;exact bI _ hb
 ·rw[e] at hb;unfold ft at hb;rw[da,hf] at hb;exact hb
theorem Inv.xI(I:Inv X pins Z H s):∀b∈ft X.stack,H b=none:=λb hb=>by
 rcases aE.mp (I.K2 b hb) with e|hb
 ·rw[e];exact I.free
 ·obtain⟨_,o,ho,_⟩:=I.ok.K9.mem hb;exact I.base.free b o ho (I.ok.nr b hb) λz=>I.ok.kK b z hb
theorem Inv.step{g':Array GenState}{t':Nat}{d':Drawn}{ch:List Addr}(I:Inv X pins Z H s)(kf:∀b∈ch,(b∈X.ex\/X.cX.heap.objs.size<=b)/\b≠X.env.locals/\(∀x c,X.env.cells.lookup x=some c->c≠b)/\∀p∈X.pn++pins,p.1≠b)(keep:∀b o,b≠X.env.locals->b∉X.fs->b∉ch->s.heap.get? b=some o->H b=none->h'.get? b=some o)(slot:∀b o,b≠X.env.locals->b∈X.fs->b∉ch->s.heap.get? b=some o->H b=none->∃sl,h'.get? b=some { o with slots:=sl })(free:∀b o,b∉ch->s.heap.get? b=some o->H b=none->H' b=none)(there:∀b o,b∉ch->s.heap.get? b=some o->∃o',h'.get? b=some o')(gL:∀b xs,H b=some (.tup xs)->H' b=some (.tup xs))(gw:∀b o u,H b=some (.je o u)->H' b=some (.je o u))(gM:∀b ps,H b=some (.nN ps)->∃more,H' b=some (.nN (ps++more)))(ns:∀m,s.heap.Ns X.env.locals m->h'.Ns X.env.locals m)(bG:fK X.prog X.w H' h')(hg:AllBare g') :
  Inv X pins Z H' { s with heap:=h',gens:=g',drawn:=d',toks:=t' }:=by
 have DN:∀b o,X.cX.heap.get? b=some o->b≠X.env.locals:=λb o e=>aN (ax (ay e) I.ok.above);have nT:∀b o,X.cX.heap.get? b=some o->b∉X.ex->b∉ch:=λb o e hx hb=>by
  rcases(kf b hb).1 with z|z
  ·exact hx z
  ·exact absurd (ax (ay e) z) (br _)
 have cellK:∀x c,X.env.cells.lookup x=some c->∀v,s.heap.IsCell c v->h'.IsCell c v:=λx c e v ⟨o,ho,hd⟩=>by
  have tN:c∉ch:=λz=>(kf c z).2.2.1 x c e rfl;by_cases hc:c∈X.fs
  ·obtain⟨sl,q⟩:=slot c o (I.qt x c e) hc tN ho (I.eA x c e);exact⟨_,q,hd⟩
  ·exact⟨o,keep c o (I.qt x c e) hc tN ho (I.eA x c e),hd⟩
 refine⟨I.ok,I.os,hg,⟨λb o e n hb hx=>?_,λb o e n hb hx=>?_,λb o e n hx=>?_,λb o e hx=>?_,λb xs e=>gL b xs (I.base.gL b xs e),λb o xs e=>gw b o xs (I.base.gw b o xs e),λb ps e=>?_⟩,?_,λx c e=>?_,?_,λx c e=>?_,λp hp=>?_,bG,I.len⟩
 ·exact keep b o (DN b o e) hb (nT b o e hx) (I.base.keep b o e n hb hx) (I.base.free b o e n hx)
 ·obtain⟨sl,e1⟩:=I.base.slot b o e n hb hx;obtain⟨KI,e2⟩:=slot b _ (DN b o e) hb (nT b o e hx) e1 (I.base.free b o e n hx);exact⟨KI,e2⟩
 ·obtain⟨o',e1⟩:=I.base.there b o e hx;exact free b o' (nT b o e hx) e1 (I.base.free b o e n hx)
 ·obtain⟨o',e1⟩:=I.base.there b o e hx;exact there b o' (nT b o e hx) e1
 ·obtain⟨m1,e1⟩:=I.base.gM b ps e;obtain⟨m2,e2⟩:=gM b _ e1;exact⟨m1++m2,by rw[e2,Ki]⟩
 ·obtain⟨m,hn,hl⟩:=I.loc;refine⟨m,ns m hn,λi x v e1 e2 e3=>?_⟩;obtain⟨u,r,l⟩:=hl i x v e1 e2 e3;refine⟨u,r,?_⟩;rcases l with l|⟨k,c,e,z⟩
  ·exact .inl l
  ·exact .inr ⟨k,c,e,cellK x c e _ z⟩
 ·obtain⟨v,z⟩:=I.cell x c e;exact⟨v,cellK x c e v z⟩
 ·obtain⟨m,⟨o,_,_,ho,_⟩,_⟩:=I.loc;exact free _ o (λz=>(kf _ z).2.1 rfl) ho I.free
 ·obtain⟨v,o,ho,hd⟩:=I.cell x c e;exact free c o (λz=>(kf c z).2.2.1 x c e rfl) ho (I.eA x c e)
 ·obtain⟨e,n,ne,nf,d⟩:=I.pin p hp;have tN:p.1∉ch:=λz=>(kf p.1 z).2.2.2 p hp rfl;exact⟨keep p.1 p.2 ne nf tN e n,free p.1 p.2 tN e n,ne,nf,d⟩
theorem Inv.un{t':Nat}(I:Inv X pins Z H s)(u:Un X.fs [] H H' s.heap h')(bG:fK X.prog X.w H' h'):Inv X pins Z H' { s with heap:=h',toks:=t' }:=by
 obtain⟨m,⟨o,es,ep,ho,r⟩,_⟩:=id I.loc;obtain⟨sl,hL⟩:=u.any ho I.free (by simp);exact I.step (g':=s.gens) (d':=s.drawn) (ch:=[]) (λ_ z=>nomatch z) (λb o _ hb _ e n=>u.keep b o e n hb (by simp)) (λb o _ hb _ e n=>u.slot b o e n hb (by simp)) (λb o _ e n=>u.free b o e n (by simp)) (λb o _ e=>u.there b o e (by simp)) u.gL u.gw u.gM (λm' hm=>by
  obtain⟨o',Am,An,lT,r'⟩:=hm;rw[ho] at lT;cases lT;exact ⟨_,Am,An,hL,r'⟩) bG I.bare
theorem Inv.call{g':Array GenState}{t':Nat}{d':Drawn}{ch:List Addr}(I:Inv X pins Z H s)(u:Un (ft X.stack) ch H H' s.heap h')(bG:fK X.prog X.w H' h')(hg:AllBare g')(kf:∀b∈ch,(b∈X.ex\/X.cX.heap.objs.size<=b)/\b≠X.env.locals/\(∀x c,X.env.cells.lookup x=some c->c≠b)/\∀p∈X.pn++pins,p.1≠b) :
  Inv X pins Z H' { s with heap:=h',gens:=g',drawn:=d',toks:=t' }:=by
 obtain⟨m,⟨o,es,ep,ho,r⟩,_⟩:=id I.loc;obtain⟨sl,hL⟩:=u.any ho I.free λz=>(kf _ z).2.1 rfl;exact I.step (ch:=ch) kf (λb o hL hb hc e n=>u.keep b o e n (λz=>(aE.mp (I.K2 b z)).elim hL hb) hc) (λb o _ _ hc e n=>u.any e n hc) (λb o hc e n=>u.free b o e n hc) (λb o hc e=>u.there b o e hc) u.gL u.gw u.gM (λm' hm=>by
  obtain⟨o',Am,An,lT,r'⟩:=hm;rw[ho] at lT;cases lT;exact ⟨_,Am,An,hL,r'⟩) bG hg
theorem Inv.turned{t':Nat}{it:Addr}(I:Inv X pins Z H s)(k:∀b o,b≠it->s.heap.get? b=some o->h'.get? b=some o)(hn:H it=none)(hL:it≠X.env.locals)(h1:it∈X.ex\/X.cX.heap.objs.size<=it)(h2:∀x c,X.env.cells.lookup x=some c->c≠it)(h3:∀p∈X.pn++pins,p.1≠it):Inv X pins Z H { s with heap:=h',toks:=t' }:=by
 have DM:∀b u,H b=some u->b≠it:=λb u e z=>by rw[z,hn] at e;cases e
 refine I.step (g':=s.gens) (d':=s.drawn) (ch:=[it]) (λb hb=>?_) (λb o _ _ hc e _=>k b o (λz=>hc (by simp[z])) e) (λb o _ _ hc e _=>⟨o.slots,k b o (λz=>hc (by simp[z])) e⟩) (λ_ _ _ _ n=>n)
  (λb o hc e=>⟨o,k b o (λz=>hc (by simp[z])) e⟩) (λ_ _ e=>e) (λ_ _ _ e=>e) (λb ps e=>⟨#[],by rw[e];simp⟩) (λm hm=>?_) (λb u e=>?_) I.bare
 ·have e:b=it:=by simpa using hb
  subst e;exact⟨h1,hL,h2,h3⟩
 ·obtain⟨o,es,ep,ho,r⟩:=hm;exact⟨o,es,ep,k _ o (bD hL) ho,r⟩
 ·refine(I.bG b u e).Q7 (λc v hc q=>k c v ?_ q) (λ_ q=>q) λ_ _ q=>q;rcases hc with z|z
  ·rw[z];exact DM b u e
  ·exact DM c _ z
theorem Inv.tok(I:Inv X pins Z H s)(t:Nat):Inv X pins Z H { s with toks:=t }:=I.un (h':=s.heap) (t':=t) Un.refl I.bG
theorem Inv.kept{t':Nat}(I:Inv X pins Z H s)(k:∀b u,s.heap.get? b=some u->h'.get? b=some u):Inv X pins Z H { s with heap:=h',toks:=t' }:=I.un (Un.kept k) (I.bG.kept k)
theorem Inv.laid{a:Addr}{o:HO}{t':Nat}(I:Inv X pins Z H s)(k:∀b u,s.heap.get? b=some u->h'.get? b=some u)(hp:s.heap.objs.size<=a)(new:m8 X.prog X.w (upd H a o) h' a o) :
  Inv X pins Z (upd H a o) { s with heap:=h',toks:=t' }:=I.un (Un.laid k hp (I.bG.fresh hp)) (I.bG.laid k hp new)
theorem Inv.write{x e:Addr}{o:HO}{t':Nat}(I:Inv X pins Z H s)(mu:vD (H x))(he:e=x\/H e=some (.own x))(k:∀b u,b≠e->s.heap.get? b=some u->h'.get? b=some u)(om:∃u,h'.get? e=some u)(new:m8 X.prog X.w (upd H x o) h' x o):Inv X pins Z (upd H x o) { s with heap:=h',toks:=t' }:=I.un (Un.write mu he k om) (I.bG.write mu he k om new)
theorem Inv.weak{bN:List (Option V)}(I:Inv X pins Z H s)(hl:bN.length=Z.length)(w:∀(i:Nat) v,bN[i]?=some (some v)->Z[i]?=some (some v)):Inv X pins bN H s :=
 ⟨I.ok,I.os,I.bare,I.base,let ⟨m,hn,El⟩:=I.loc;⟨m,hn,λi x v e1 e2 e3=>El i x v e1 (w i v e2) e3⟩,I.cell,I.free,I.eA,I.pin,I.bG,hl.trans I.len⟩
theorem Inv.J7{iw:List (Addr×Obj)}(I:Inv X pins Z H s)(h:∀p∈iw,s.heap.get? p.1=some p.2/\H p.1=none/\p.1≠X.env.locals/\p.1∉X.fs/\∀v,p.2.data≠.cell v):Inv X iw Z H s :=
 ⟨I.ok,I.os,I.bare,I.base,I.loc,I.cell,I.free,I.eA,λp hp=>(bj.mp hp).elim (λz=>I.pin p (dD _ z)) (h p),I.bG,I.len⟩
theorem Js{N:List Str}(hN:N.Nodup){i j:Nat}{x:Str}(a:N[i]?=some x)(b:N[j]?=some x):i=j:=by
 obtain⟨h1,e1⟩:=aj.mp a;obtain⟨h2,e2⟩:=aj.mp b;exact(gK hN).mp (e1.trans e2.symm)
theorem GW{M:Model}{A:Around}{E:Value->Shared->Prop}{i:Nat}{x:Str}{v:V}{u:Value}{Q:Unit->Shared->Prop}(I:Inv X pins Z H s)(hN:X.N.Nodup)(hi:X.N[i]?=some x)(hx:Loc X.env.scope x)(r:RelV v u)(h:∀s',Inv X pins (Z.set i (some v)) H s'->(∃a,Heap.SameBut a s.heap s'.heap/\(a=X.env.locals\/X.env.cells.lookup x=some a))->Q () s')(hf:X.fn x=true\/X.env.scope.names.lookup x=some .local:=by first|exact .inl rfl|exact .inr rfl|assumption):wpAny M A (storeName X.env x u) Q E s:=by
 obtain⟨m,hn,hl⟩:=id I.loc;have kH:(X.env.scope.kind==.class||(X.env.scope.kind==.module&&X.env.locals != X.env.globals))=false:=by rw[I.ok.kind];rfl
 have ui:i<Z.length:=by rw[I.len];exact(aj.mp hi).1
 have qt:=I.qt;have tracked:∀{a:Addr} {h':Heap},(∃o,s.heap.get? a=some o/\H a=none)->Heap.SameBut a s.heap h'->fK X.prog X.w H h':=λ{a h'} ha hs b ob e=>by
  obtain⟨_,_,lX⟩:=ha;refine(I.bG b ob e).Q7 (λc w' hc q=>(hs.2 c ?_).trans q) (λ_ q=>q) λ_ _ q=>q;rintro rfl;rcases hc with rfl|hc
  ·rw[lX] at e;cases e
  ·rw[lX] at hc;cases hc
 rcases hx with hk|hk
 ·refine wpAny_storeName_local hk hn (λh' Ma hs=>?_) kH;obtain⟨oL,_,_,ud,_⟩:=id hn;refine h _ ⟨I.ok,I.os,I.bare,⟨λb o e n hb hx=>?_,λb o e n hb hx=>?_,I.base.free,λb o e hx=>?_,I.base.gL,I.base.gw,I.base.gM⟩,⟨_,Ma,λj y v' e1 e2 e3=>?_⟩,λy c e=>?_,I.free,I.eA,λp hp=>?_,tracked ⟨oL,ud,I.free⟩ hs,by simpa using I.len⟩ ⟨_,hs,.inl rfl⟩
  ·exact(hs.2 b (aN (ax (ay e) I.ok.above))).trans (I.base.keep b o e n hb hx)
  ·obtain⟨sl,e1⟩:=I.base.slot b o e n hb hx;exact⟨sl,(hs.2 b (aN (ax (ay e) I.ok.above))).trans e1⟩
  ·obtain⟨o',e1⟩:=I.base.there b o e hx;exact⟨o',(hs.2 b (aN (ax (ay e) I.ok.above))).trans e1⟩
  ·by_cases hj:j=i
   ·subst hj;rw[hi] at e1;cases e1;rw[aU ui] at e2;cases e2;exact⟨u,r,.inl ⟨hk,by simp⟩⟩
   ·rw[aw (bD hj)] at e2;obtain⟨u',r',q⟩:=hl j y v' e1 e2 e3;refine⟨u',r',?_⟩;rcases q with⟨k,e⟩|⟨k,c,e,z⟩
    ·refine .inl ⟨k,?_⟩;have:y≠x:=λe=>hj (Js hN e1 (e▸hi));simp[this,e]
    ·exact .inr ⟨k,c,e,z.sameBut hs (qt y c e)⟩
  ·obtain⟨w',z⟩:=I.cell y c e;exact⟨w',z.sameBut hs (qt y c e)⟩
  ·obtain⟨e,n,ne,nf,d⟩:=I.pin p hp;exact⟨(hs.2 p.1 ne).trans e,n,ne,nf,d⟩
 ·have rA:X.fn x=true:=by
   rcases hf with z|z
   ·exact z
   ·rw[z] at hk;cases hk
  obtain⟨c,hc⟩:=I.ok.has x (.inl hk);obtain⟨w',z⟩:=I.cell x c hc;refine wpAny_storeName_cell I.ok.kind hk hc z (λh' jc hs=>?_);obtain⟨oc,zh,zg⟩:=id z;refine h { s with heap:=h' } ⟨I.ok,I.os,I.bare,⟨λb o e n hb hx=>?_,λb o e n hb hx=>?_,I.base.free,λb o e hx=>?_,I.base.gL,I.base.gw,I.base.gM⟩,⟨m,hn.sameBut hs (bD (qt x c hc)),λj y v' e1 e2 e3=>?_⟩,λy c' e=>?_,I.free,I.eA,λp hp=>?_,tracked ⟨oc,zh,I.eA x c hc⟩ hs,by simpa using I.len⟩ ⟨c,hs,.inr hc⟩
  ·exact(hs.2 b (aN (ax (ay e) (I.ok.qw x c rA hc)))).trans (I.base.keep b o e n hb hx)
  ·obtain⟨sl,e1⟩:=I.base.slot b o e n hb hx;exact⟨sl,(hs.2 b (aN (ax (ay e) (I.ok.qw x c rA hc)))).trans e1⟩
  ·obtain⟨o',e1⟩:=I.base.there b o e hx;exact⟨o',(hs.2 b (aN (ax (ay e) (I.ok.qw x c rA hc)))).trans e1⟩
  ·by_cases hj:j=i
   ·subst hj;rw[hi] at e1;cases e1;rw[aU ui] at e2;cases e2;exact⟨u,r,.inr ⟨.inl hk,c,hc,jc⟩⟩
   ·rw[aw (bD hj)] at e2;obtain⟨u',r',q⟩:=hl j y v' e1 e2 e3;refine⟨u',r',?_⟩;rcases q with q|⟨k,c',e,z'⟩
    ·exact .inl q
    ·refine .inr ⟨k,c',e,z'.sameBut hs ?_⟩;rintro rfl;exact hj (Js hN e1 (I.ok.inj _ _ _ e hc▸hi))
  ·by_cases rC:c'=c
   ·subst rC;exact⟨_,jc⟩
   ·obtain⟨w2,z2⟩:=I.cell y c' e;exact⟨w2,z2.sameBut hs rC⟩
  ·obtain⟨e,n,ne,nf,d⟩:=I.pin p hp;refine⟨(hs.2 p.1 ?_).trans e,n,ne,nf,d⟩;intro q;rw[q,zh] at e;have q':oc=p.2:=aJ e;exact d w' (by rw[<- q'];exact zg)
theorem Q6{M:Model}{A:Around}{E:Value->Shared->Prop}{i:Nat}{x:Str}{v:V}{u:Value}{Q:Unit->Shared->Prop}(I:Inv X pins Z H s)(hN:X.N.Nodup)(hi:X.N[i]?=some x)(hx:Loc X.env.scope x)(r:RelV v u)(h:∀s',Inv X pins (Z.set i (some v)) H s'->Q () s')(hf:X.fn x=true\/X.env.scope.names.lookup x=some .local:=by first|exact .inl rfl|exact .inr rfl|assumption):wpAny M A (storeName X.env x u) Q E s :=
 GW I hN hi hx r (λs' I' _=>h s' I') hf
theorem Inv.BP{s':Shared}{ch:List Addr}(I:Inv X pins Z H s)(ho:s'.os=s.os)(u:Un (ft X.stack) ch H H' s.heap s'.heap)(bG:fK X.prog X.w H' s'.heap)(hg:AllBare s'.gens)(kf:∀b∈ch,(b∈X.ex\/X.cX.heap.objs.size<=b)/\b≠X.env.locals/\(∀x c,X.env.cells.lookup x=some c->c≠b)/\∀p∈X.pn++pins,p.1≠b):Inv X pins Z H' s':=by
 obtain⟨h',g',d',t',o'⟩:=s';have e:o'=s.os:=ho;subst e;exact I.call (g':=g') (t':=t') (d':=d') u bG hg kf
end
noncomputable abbrev XK:=Value->Option Addr->Hp->Prop
noncomputable abbrev St:=List (Option V)
noncomputable abbrev VK:=V->Hp->Prop
noncomputable abbrev TE:=St->Hp->VK->Prop
noncomputable abbrev TT:=St->Hp->(Bool->Hp->Prop)->Prop
noncomputable abbrev TA:=St->Hp->(List V->Hp->Prop)->Prop
structure Ends where
 nx:St->Hp->Prop
 rt:VK
 bk:St->Hp->Prop:=λ_ _=>False
 ct:St->Hp->Prop:=λ_ _=>False
noncomputable abbrev TS:=Ends->St->Hp->Prop
noncomputable def EP(X:Cx)(pins:List (Addr×Obj))(Z:St)(Q:VK)(u:Value)(s':Shared):Prop:=∃v H',Inv X pins Z H' s'/\RelV v u/\Q v H'
noncomputable def TP(X:Cx)(pins:List (Addr×Obj))(Z:St)(Q:Bool->Hp->Prop)(b:Bool)(s':Shared):Prop:=∃H',Inv X pins Z H' s'/\Q b H'
noncomputable def AP(X:Cx)(pins:List (Addr×Obj))(Z:St)(Q:List V->Hp->Prop)(us:List Value)(s':Shared):Prop:=∃vs H',Inv X pins Z H' s'/\Vals vs us/\Q vs H'
noncomputable def SP(X:Cx)(pins:List (Addr×Obj))(D:Ends)(f:Flow)(s':Shared):Prop :=
 match f with
 |.next=>∃bN H',Inv X pins bN H' s'/\D.nx bN H'
 |.brk=>∃bN H',Inv X pins bN H' s'/\D.bk bN H'
 |.cont=>∃bN H',Inv X pins bN H' s'/\D.ct bN H'
 |.ret u=>∃v bN H',Inv X pins bN H' s'/\RelV v u/\D.rt v H'
noncomputable def PE(X:Cx)(e:Expr)(t:TE):Prop :=
 ∀(pins:List (Addr×Obj)) (s:Shared) (Z:St) (H:Hp) (Q:VK),Inv X pins Z H s->t Z H Q->wpAny (model X.prog X.w) X.A (eval e X.env) (EP X pins Z Q) X.xe s
noncomputable def PT(X:Cx)(e:Expr)(t:TT):Prop :=
 ∀(pins:List (Addr×Obj)) (s:Shared) (Z:St) (H:Hp) (Q:Bool->Hp->Prop),Inv X pins Z H s->t Z H Q->wpAny (model X.prog X.w) X.A (isTrue e X.env (eval e X.env)) (TP X pins Z Q) X.xe s
noncomputable def PW(X:Cx)(e:Expr)(t:TT):Prop :=
 ∀(whole:Sem Value) (pins:List (Addr×Obj)) (s:Shared) (Z:St) (H:Hp) (Q:Bool->Hp->Prop),Inv X pins Z H s->t Z H Q->wpAny (model X.prog X.w) X.A (isTrue e X.env whole) (TP X pins Z Q) X.xe s
theorem PW.pt{X:Cx}{e:Expr}{t:TT}(h:PW X e t):PT X e t:=h _
noncomputable def PA(X:Cx)(es:List Expr)(t:TA):Prop :=
 ∀(pos:Pos) (pins:List (Addr×Obj)) (s:Shared) (Z:St) (H:Hp) (Q:List V->Hp->Prop),Inv X pins Z H s->t Z H Q->wpAny (model X.prog X.w) X.A (spliced (backTo pos (starEach es X.env))) (AP X pins Z Q) X.xe s
noncomputable def PS(X:Cx)(st:Stmt)(t:TS):Prop :=
 ∀(pins:List (Addr×Obj)) (s:Shared) (Z:St) (H:Hp) (D:Ends),Inv X pins Z H s->t D Z H->wpAny (model X.prog X.w) X.A (exec st X.env) (SP X pins D) X.xe s
noncomputable def iV(X:Cx)(st:List Stmt)(t:TS):Prop :=
 ∀(pins:List (Addr×Obj)) (s:Shared) (Z:St) (H:Hp) (D:Ends),Inv X pins Z H s->t D Z H->wpAny (model X.prog X.w) X.A (execs st X.env) (SP X pins D) X.xe s
theorem cz{α:Type}{t:Sem α}{Q Q':α->Shared->Prop}{M:Model}{A:Around}{E:Value->Shared->Prop}{s:Shared}(h:wpAny M A t Q E s)(hQ:∀a s,Q a s->Q' a s):wpAny M A t Q' E s:=bA h hQ λ_ _ x=>x
end L2
namespace L2
open PySem PySem.Spec PyProof.Rows
section
variable{X:Cx}
noncomputable def UU(i:Nat):TE:=λZ H Q=>∃v,Z[i]?=some (some v)/\Q v H
noncomputable def tC(v:V):TE:=λ_ H Q=>Q v H
theorem PN{i:Nat}{x:Str}{pos:Pos}(hN:X.N[i]?=some x)(hv:vz X.env.scope x)(hd:(x==("__debug__":Str))=false:=by decide)(jX:(x==("__classdict__":Str))=false:=by decide):PE X (.Name x pos) (UU i):=by
 intro pins s Z H Q I h;obtain⟨v,e,h⟩:=h;obtain⟨m,hn,hl⟩:=I.loc;obtain⟨u,r,l⟩:=hl i x v hN e hv;have fin:EP X pins Z Q u s:=⟨v,H,I,r,h⟩
 rcases l with⟨hk,hm⟩|⟨hk,c,hc,kh⟩
 ·exact wpAny_Name (wpAny_loadName_local I.ok.kind hk hn hm fin) hd
 ·rcases hk with hk|hk
  ·exact wpAny_Name (wpAny_loadName_cell I.ok.kind hk hc kh fin) hd
  ·exact wpAny_Name (wpAny_loadName_free I.ok.kind hk hc kh fin jX) hd
theorem Py{i j pos}:PE X (.Constant (.int i) j pos) (tC (.int i)):=λ_ _ _ H _ I h=>wpAny_Constant_int ⟨.int i,H,I.tok _,⟨_,rfl⟩,h⟩
theorem VW{b j pos}:PE X (.Constant (.bool b) j pos) (tC (.bl b)):=λ_ _ _ H _ I h=>Constant_bool ⟨.bl b,H,I,rfl,h⟩
theorem PD{j pos}:PE X (.Constant .none j pos) (tC .bO):=λ_ _ _ H _ I h=>Constant_none ⟨.bO,H,I,rfl,h⟩
theorem Ii{x j pos}:PE X (.Constant (.str x) j pos) (tC (.str x)):=λ_ _ _ H _ I h=>Calls.Constant_str ⟨.str x,H,I.tok _,⟨_,rfl⟩,h⟩
noncomputable def Gl(X:Cx)(x:Str):Prop:=X.env.kindOf x=some .globalImplicit
theorem Q1{E:Value->Shared->Prop}{pins:List (Addr×Obj)}{s:Shared}{Z:St}{H:Hp}{x:Str}{u:Value}{pos:Pos}{Q:Value->Shared->Prop}(I:Inv X pins Z H s)(hg:Gl X x)(hm:X.mg x=some u)(h:Q u s)(hd:(x==("__debug__":Str))=false:=by decide):wpAny (model X.prog X.w) X.A (eval (.Name x pos) X.env) Q E s :=
 yf I.ok.kind hg (Calls.loadGlobal_global (by rw[I.ok.glob];exact I.mod.glob.keeps I.bk) hm h) hd
theorem K6{E:Value->Shared->Prop}{pins:List (Addr×Obj)}{s:Shared}{Z:St}{H:Hp}{x:Str}{u:Value}{pos:Pos}{Q:Value->Shared->Prop}(I:Inv X pins Z H s)(hg:Gl X x)(hm:X.mg x=none)(hv:bootBuiltins x=some u)(h:Q u s)(hn:x≠"__name__":=by decide)(hd:(x==("__debug__":Str))=false:=by decide):wpAny (model X.prog X.w) X.A (eval (.Name x pos) X.env) Q E s:=by
 obtain⟨mb,h1,h2⟩:=I.mod.blt;exact yf I.ok.kind hg (Calls.loadGlobal_builtin (by rw[I.ok.glob];exact I.mod.glob.keeps I.bk) hm (by rw[I.ok.blt];exact h1.keeps I.bk) ((h2 x hn).trans hv) h) hd
theorem xF{x:Str}{v:V}{u:Value}{pos:Pos}(hg:Gl X x)(hm:X.mg x=some u)(r:RelV v u)(hd:(x==("__debug__":Str))=false:=by decide):PE X (.Name x pos) (tC v) :=
 λ_ _ _ H _ I h=>Q1 I hg hm ⟨v,H,I,r,h⟩ hd
theorem Sf{x:Str}{v:V}{u:Value}{pos:Pos}(hg:Gl X x)(hm:X.mg x=none)(hv:bootBuiltins x=some u)(r:RelV v u)(hn:x≠"__name__":=by decide)(hd:(x==("__debug__":Str))=false:=by decide):PE X (.Name x pos) (tC v) :=
 λ_ _ _ H _ I h=>K6 I hg hm hv ⟨v,H,I,r,h⟩ hn hd
variable{a b:Expr}{ta tb:TE}{pos:Pos}
variable{tA vS:TT}{rest:List Expr}
noncomputable def UH(t u:TT):TT:=λZ H Q=>t Z H λc H1=>if c=true then u Z H1 Q else Q false H1
noncomputable def Kx(t u:TT):TT:=λZ H Q=>t Z H λc H1=>if c=true then Q true H1 else u Z H1 Q
noncomputable def UO(t:TT):TT:=λZ H Q=>t Z H λc H1=>Q (!c) H1
theorem Sx(ha:PT X a tA):PW X (.BoolOp .And [a] pos) tA:=by
 intro wh pins s Z H Q I h;refine isTrue_and (cz (ha pins s Z H Q I h) λc s1 e=>?_);cases c with
 |true=>exact isTrue_and_nil e
 |false=>exact e
theorem Qg(ha:PT X a tA):PW X (.BoolOp .Or [a] pos) tA:=by
 intro wh pins s Z H Q I h;refine isTrue_or (cz (ha pins s Z H Q I h) λc s1 e=>?_);cases c with
 |false=>exact isTrue_or_nil e
 |true=>exact e
theorem Qf(ha:PT X a tA)(hb:PW X (.BoolOp .And (b::rest) pos) vS):PW X (.BoolOp .And (a::b::rest) pos) (UH tA vS):=by
 intro wh pins s Z H Q I h;refine isTrue_and (cz (ha pins s Z H _ I h) λc s1 ⟨H1,I1,q1⟩=>?_);cases c with
 |true=>exact hb wh pins s1 Z H1 Q I1 q1
 |false=>exact⟨H1,I1,q1⟩
theorem We(ha:PT X a tA)(hb:PW X (.BoolOp .Or (b::rest) pos) vS):PW X (.BoolOp .Or (a::b::rest) pos) (Kx tA vS):=by
 intro wh pins s Z H Q I h;refine isTrue_or (cz (ha pins s Z H _ I h) λc s1 ⟨H1,I1,q1⟩=>?_);cases c with
 |true=>exact⟨H1,I1,q1⟩
 |false=>exact hb wh pins s1 Z H1 Q I1 q1
theorem Qe(ha:PT X a tA):PT X (.UnaryOp .Not a pos) (UO tA):=by
 intro pins s Z H Q I h;exact isTrue_not (ha pins s Z H (λc H1=>Q (!c) H1) I h)
noncomputable def NV(ta tb:TE):TE:=λZ H Q=>ta Z H λx H1=>∃c,x=.bl c/\if c=true then tb Z H1 Q else Q (.bl false) H1
noncomputable def UP(ta tb:TE):TE:=λZ H Q=>ta Z H λx H1=>∃c,x=.bl c/\if c=true then Q (.bl true) H1 else tb Z H1 Q
noncomputable def Oa(ta:TE):TE:=λZ H Q=>ta Z H λx H1=>∃c,x=.bl c/\Q (.bl (!c)) H1
theorem PJ{op}{t:TE}(h:PE X a t):PE X (.BoolOp op [a] pos) t:=λpins s Z H Q I hw=>BoolOp_one (h pins s Z H Q I hw)
theorem Pu(ha:PE X a ta)(hb:PE X (.BoolOp .And (b::rest) pos) tb):PE X (.BoolOp .And (a::b::rest) pos) (NV ta tb):=by
 intro pins s Z H Q I h;refine BoolOp_and (cz (ha pins s Z H _ I h) λv s1 ⟨x,H1,I1,r1,q1⟩=>?_);obtain⟨c,rfl,q1⟩:=q1;cases r1;refine cw ?_;cases c with
 |true=>exact hb pins s1 Z H1 Q I1 q1
 |false=>exact⟨.bl false,H1,I1,rfl,q1⟩
theorem V'(ha:PE X a ta)(hb:PE X (.BoolOp .Or (b::rest) pos) tb):PE X (.BoolOp .Or (a::b::rest) pos) (UP ta tb):=by
 intro pins s Z H Q I h;refine BoolOp_or (cz (ha pins s Z H _ I h) λv s1 ⟨x,H1,I1,r1,q1⟩=>?_);obtain⟨c,rfl,q1⟩:=q1;cases r1;refine cw ?_;cases c with
 |false=>exact hb pins s1 Z H1 Q I1 q1
 |true=>exact⟨.bl true,H1,I1,rfl,q1⟩
theorem PH(ha:PE X a ta):PE X (.UnaryOp .Not a pos) (Oa ta):=by
 intro pins s Z H Q I h;refine UnaryOp_ (cz (ha pins s Z H _ I h) λv s1 ⟨x,H1,I1,r1,q1⟩=>?_);obtain⟨c,rfl,q1⟩:=q1;cases r1;exact not_of (cw ⟨.bl (!c),H1,I1,rfl,q1⟩)
noncomputable def Ky(t:TT)(ta tb:TE):TE:=λZ H Q=>t Z H λc H1=>if c=true then ta Z H1 Q else tb Z H1 Q
theorem a37{c:Expr}(hc:PT X c tA)(ha:PE X a ta)(hb:PE X b tb):PE X (.IfExp c a b pos) (Ky tA ta tb):=by
 intro pins s Z H Q I h;refine wpAny_IfExp (cz (hc pins s Z H _ I h) λd s1 ⟨H1,I1,q1⟩=>?_);cases d with
 |true=>exact ha pins s1 Z H1 Q I1 q1
 |false=>exact hb pins s1 Z H1 Q I1 q1
end
end L2
namespace L2
open PySem PySem.Spec PyProof.Rows
noncomputable def fo(K:PySem.W.Frag)(H:Hp)(a:Addr)(xs:List V):Prop :=
 Rd H a (.lst xs) \/
  ∃(o:Obj) (aR:Array Value) (n:Nat),K.lookup a=some o/\o.cls=.type "list"/\o.dict=none/\o.data=.seq aR n/\aR.size<=sizeLine/\Vals xs aR.toList
noncomputable def gS(K:PySem.W.Frag)(H:Hp)(a:Addr)(xs:List V):Prop :=
 Rd H a (.tup xs) \/
  ∃(o:Obj) (aR:Array Value) (n:Nat),K.lookup a=some o/\o.cls=.type "tuple"/\o.data=.seq aR n/\aR.size<=sizeLine/\Vals xs aR.toList
noncomputable def Tq:Value->Option V
 |.none=>some .bO
 |.bool b=>some (.bl b)
 |.int i _=>some (.int i)
 |.str x _=>some (.str x)
 |.bytes b _=>some (.kl b)
 |.float b _=>some (.qp b)
 |.ref a=>some (.ref a)
 |.type n=>some (.ty n)
 |_=>none
theorem RelV.abs{x:V}{u:Value}(r:RelV x u):Tq u=some x:=by
 cases x with
 |bO=>cases r;rfl
 |bl _=>cases r;rfl
 |int _=>obtain⟨t,rfl⟩:=r;rfl
 |str _=>obtain⟨t,rfl⟩:=r;rfl
 |kl _=>obtain⟨t,rfl⟩:=r;rfl
 |qp _=>obtain⟨t,rfl⟩:=r;rfl
 |ref _=>cases r;rfl
 |ty _=>cases r;rfl
theorem RelV.inj{x y:V}{u:Value}(r:RelV x u)(q:RelV y u):x=y:=aJ (r.abs.symm.trans q.abs)
theorem Vals.inj:∀{xs ys:List V} {us:List Value},Vals xs us->Vals ys us->xs=ys
 |_,_,_,.nil,.nil=>rfl
 |_,_,_,.cons r t,.cons r' t'=>by rw[r.inj r',Vals.inj t t']
section
variable{X:Cx}{pins:List (Addr×Obj)}{Z:St}{H:Hp}{s:Shared}{a:Addr}{xs ys:List V}
theorem fo.of{K:PySem.W.Frag}(h:H a=some (.lst xs)):fo K H a xs:=.inl (.inl h)
theorem Inv.list(I:Inv X pins Z H s)(h:fo X.K H a xs):∃aR:List Value,Vals xs aR/\PlainL s.heap a aR.toArray/\xs.length<=sizeLine:=by
 rcases h with h|⟨o,aR,n,hk,hc,hd,hs,hz,r⟩
 ·obtain⟨z,aR,n,r,e⟩:=h.ok I.bG;exact⟨aR,r,⟨_,n,e,rfl,rfl,rfl⟩,z⟩
 ·refine⟨aR.toList,r,⟨o,n,I.gp a o hk,hc,hd,by simpa using hs⟩,?_⟩;have e:=r.length;simp only[Array.length_toList] at e;omega
theorem Inv.tuple(I:Inv X pins Z H s)(h:gS X.K H a xs):∃aR:List Value,Vals xs aR/\IsTup s.heap a aR.toArray/\xs.length<=sizeLine:=by
 rcases h with h|⟨o,aR,n,hk,hc,hs,hz,r⟩
 ·obtain⟨z,aR,r,p⟩:=h.ok I.bG;exact⟨aR,r,p.tup,z⟩
 ·refine⟨aR.toList,r,⟨o,I.gp a o hk,hc,n,by simpa using hs⟩,?_⟩;have e:=r.length;simp only[Array.length_toList] at e;omega
theorem Inv.Bk(I:Inv X pins Z H s)(h:fo X.K H a xs)(h':fo X.K H a ys):xs=ys:=by
 obtain⟨aR,r,⟨o,n,e,_,_,d⟩,_⟩:=I.list h;obtain⟨its',r',⟨o',n',e',_,_,d'⟩,_⟩:=I.list h';rw[e] at e';cases e';rw[d] at d';injection d' with d1 _;have:aR=its':=by simpa using gH Array.toList d1
 subst this;exact r.inj r'
theorem Inv.Yi(I:Inv X pins Z H s)(h:gS X.K H a xs)(h':gS X.K H a ys):xs=ys:=by
 obtain⟨aR,r,⟨o,e,_,n,d⟩,_⟩:=I.tuple h;obtain⟨its',r',⟨o',e',_,n',d'⟩,_⟩:=I.tuple h';rw[e] at e';cases e';rw[d] at d';injection d' with d1 _;have:aR=its':=by simpa using gH Array.toList d1
 subst this;exact r.inj r'
end
noncomputable abbrev Cx.Y3(X:Cx)(E:Value->Shared->Prop):Cx:={ X with xe:=E }
theorem Cx.Ok.Y3{X:Cx}(ok:X.Ok)(E:Value->Shared->Prop):(X.Y3 E).Ok :=
 ⟨ok.mod,ok.kind,ok.glob,ok.blt,ok.above,ok.inj,ok.has,ok.qw,ok.hd,ok.frames,ok.qU,ok.wG,ok.bs,ok.mJ,ok.jT,ok.kK,ok.K9,ok.nr⟩
theorem Cx.Ok.AE{X:Cx}{E:Value->Shared->Prop}(ok:(X.Y3 E).Ok):X.Ok :=
 ⟨ok.mod,ok.kind,ok.glob,ok.blt,ok.above,ok.inj,ok.has,ok.qw,ok.hd,ok.frames,ok.qU,ok.wG,ok.bs,ok.mJ,ok.jT,ok.kK,ok.K9,ok.nr⟩
section
variable{X:Cx}{pins:List (Addr×Obj)}{Z:St}{H:Hp}{s:Shared}{E:Value->Shared->Prop}
theorem Inv.Y3(I:Inv X pins Z H s)(E:Value->Shared->Prop):Inv (X.Y3 E) pins Z H s:=⟨I.ok.Y3 E,I.os,I.bare,I.base,I.loc,I.cell,I.free,I.eA,I.pin,I.bG,I.len⟩
theorem Inv.AE(I:Inv (X.Y3 E) pins Z H s):Inv X pins Z H s:=⟨I.ok.AE,I.os,I.bare,I.base,I.loc,I.cell,I.free,I.eA,I.pin,I.bG,I.len⟩
end
section
variable{X:Cx}{st:Stmt}{rest:List Stmt}{t u:TS}{e:Expr}{te:TE}{pos:Pos}
noncomputable def JL:TS:=λD Z H=>D.nx Z H
noncomputable def US(t u:TS):TS:=λD Z H=>t { D with nx:=u D } Z H
theorem Su:iV X [] JL:=λ_ _ Z H _ I h=>sA ⟨Z,H,I,h⟩
theorem a27(h1:PS X st t)(h2:iV X rest u):iV X (st::rest) (US t u):=by
 intro pins s Z H D I h;refine wpAny_execs_cons (cz (h1 pins s Z H { D with nx:=u D } I h) λf s1 q=>?_);cases f with
 |next =>
  obtain⟨bN,H',I',q⟩:=q;exact h2 pins s1 bN H' D I' q
 |ret v=>exact q
 |brk=>exact q
 |cont=>exact q
theorem Sr:PS X (.Pass pos) JL:=λ_ _ Z H _ I h=>wpAny_Pass ⟨Z,H,I,h⟩
theorem Inv.quiet{pins:List (Addr×Obj)}{Z:St}{H:Hp}{s:Shared}(I:Inv X pins Z H s):interactive X.env=false:=by simp[interactive,I.ok.kind]
noncomputable def NZ(te:TE):TS:=λD Z H=>te Z H λ_ H1=>D.nx Z H1
theorem Sq(he:PE X e te)(hs:swapsWith e none pos.line X.env=pure false:=by rfl):PS X (.Expr e pos) (NZ te):=by
 intro pins s Z H D I h;exact wpAny_Expr_any (cz (he pins s Z H _ I h) λv s1 ⟨x,H1,I1,r1,q1⟩=>⟨Z,H1,I1,q1⟩) I.quiet hs
noncomputable def UR(te:TE):TS:=λD Z H=>te Z H D.rt
theorem Qc(he:PE X e te):PS X (.Return (some e) pos) (UR te):=by
 intro pins s Z H D I h;exact wpAny_Return_some (cz (he pins s Z H _ I h) λv s1 ⟨x,H1,I1,r1,q1⟩=>⟨x,Z,H1,I1,r1,q1⟩)
noncomputable def Oc:TS:=λD _ H=>D.rt .bO H
theorem Ss:PS X (.Return none pos) Oc:=λ_ _ Z H _ I h=>wpAny_Return_none ⟨.bO,Z,H,I,rfl,h⟩
noncomputable def UM(c:TT)(t u:TS):TS:=λD Z H=>c Z H λb H1=>if b=true then t D Z H1 else u D Z H1
theorem Wd{c:Expr}{a b:List Stmt}{tc:TT}(hc:PT X c tc)(ha:iV X a t)(hb:iV X b u):PS X (.If c a b pos) (UM tc t u):=by
 intro pins s Z H D I h;refine wpAny_If (cz (hc pins s Z H _ I h) λd s1 ⟨H1,I1,q1⟩=>?_);cases d with
 |true=>exact ha pins s1 Z H1 D I1 q1
 |false=>exact hb pins s1 Z H1 D I1 q1
end
noncomputable abbrev TG:=V->St->Hp->(St->Hp->Prop)->Prop
noncomputable abbrev oP:=List V->St->Hp->(St->Hp->Prop)->Prop
noncomputable def PG(X:Cx)(target:Expr)(t:TG):Prop :=
 ∀(pins:List (Addr×Obj)) (s:Shared) (Z:St) (H:Hp) (v:V) (u:Value) (Q:St->Hp->Prop),Inv X pins Z H s->RelV v u->t v Z H Q ->
  wpAny (model X.prog X.w) X.A (assign target X.env u) (λ_ s'=>∃bN H',Inv X pins bN H' s'/\Q bN H') X.xe s
noncomputable def vC(X:Cx)(ts:List Expr)(t:oP):Prop :=
 ∀(pins:List (Addr×Obj)) (s:Shared) (Z:St) (H:Hp) (vs:List V) (us:List Value) (Q:St->Hp->Prop),Inv X pins Z H s->Vals vs us->t vs Z H Q ->
  wpAny (model X.prog X.w) X.A (assignInOrder ((assignEach ts X.env).map (·.2)) us) (λ_ s'=>∃bN H',Inv X pins bN H' s'/\Q bN H') X.xe s
noncomputable abbrev CG:=V->V->V->Hp->(Hp->Prop)->Prop
noncomputable def CD(X:Cx)(t:CG):Prop :=
 ∀(pins:List (Addr×Obj)) (s:Shared) (Z:St) (H:Hp) (o i v:V) (ov iv u:Value) (Q:Hp->Prop),Inv X pins Z H s->RelV o ov->RelV i iv->RelV v u->t o i v H Q ->
  wpAny (model X.prog X.w) X.A (setItem ov iv u) (λ_ s'=>∃H',Inv X pins Z H' s'/\Q H') X.xe s
noncomputable abbrev CV:=V->V->Hp->VK->Prop
noncomputable def JQ(X:Cx)(op:Operator)(t:CV):Prop :=
 ∀(pins:List (Addr×Obj)) (s:Shared) (Z:St) (H:Hp) (x y:V) (v u:Value) (Q:VK),Inv X pins Z H s->RelV x v->RelV y u->t x y H Q ->
  wpAny (model X.prog X.w) X.A (inplaceOp op v u) (EP X pins Z Q) X.xe s
section
variable{X:Cx}{pos:Pos}
noncomputable def si(i:Nat):TG:=λv Z H Q=>Q (Z.set i (some v)) H
theorem IS{i:Nat}{x:Str}(hN:X.N.Nodup)(hi:X.N[i]?=some x)(hx:Loc X.env.scope x)(hf:X.fn x=true\/X.env.scope.names.lookup x=some .local:=by first|exact .inl rfl|exact .inr rfl|assumption):PG X (.Name x pos) (si i):=by
 intro pins s Z H v u Q I r h;exact wpAny_assign_Name (Q6 I hN hi hx r (λs' I'=>⟨_,H,I',h⟩) hf)
noncomputable def FD:oP:=λvs Z H Q=>vs=[]/\Q Z H
noncomputable def Jv(t:TG)(u:oP):oP:=λvs Z H Q=>∃v r,vs=v::r/\t v Z H λbN H'=>u r bN H' Q
theorem Sm:vC X [] FD:=by
 intro pins s Z H vs us Q I r h;obtain⟨e,h⟩:=h;subst e;cases r;exact assignInOrder_nil ⟨Z,H,I,h⟩
theorem a34{e:Expr}{es:List Expr}{t:TG}{u:oP}(h1:PG X e t)(h2:vC X es u)(hs:(assignEach (e::es) X.env).map (·.2)=assign e X.env::(assignEach es X.env).map (·.2):=by rfl):vC X (e::es) (Jv t u):=by
 intro pins s Z H vs us Q I r h;obtain⟨v,vr,e1,h⟩:=h;subst e1;cases r with
 |cons r rr =>
  rw[hs];refine vI (cz (h1 pins s Z H _ _ _ I r h) λ_ s1 ⟨hX,H1,I1,q1⟩=>?_);exact h2 pins s1 hX H1 _ _ Q I1 rr q1
noncomputable def TU(K:PySem.W.Frag)(n:Nat)(t:oP):TG:=λv Z H Q=>∃a xs,v=.ref a/\gS K H a xs/\xs.length=n/\t xs Z H Q
theorem PU{es:List Expr}{k:Nat}{t:oP}{n:Nat}(hc:X.calm=true)(h:vC X es t)(hn:(assignEach es X.env).length=n:=by rfl)(fz:(assignEach es X.env).findIdx? (·.1)=none:=by rfl):PG X (.Tuple es k pos) (TU X.K n t):=by
 intro pins s Z H v u Q I r hw;obtain⟨a,xs,e1,hq,hl,hw⟩:=hw;subst e1;cases r;obtain⟨aR,rv,ht,hz⟩:=I.tuple hq;refine assign_Tuple_tuple (I.ok.hd hc) ht (by simp[hn,<- hl,rv.length]) fz λh' hx=>?_;have I1:Inv X pins Z H { s with heap:=h' }:=I.kept (t':=s.toks) λb o e=>hx b o (aN (ay e)) e;exact h pins _ Z H xs _ Q I1 (by simpa using rv) hw
noncomputable def TR(to ti:TE)(t:CG):TG:=λv Z H Q=>to Z H λo H1=>ti Z H1 λi H2=>t o i v H2 λH3=>Q Z H3
theorem PQ{o i:Expr}{to ti:TE}{t:CG}(ho:PE X o to)(hi:PE X i ti)(hs:CD X t)(ha:∀ v,assign (.Subscript o i pos) X.env v=(do
   let ov <- holding [v] (eval o X.env)
   let iv <- holding [v,ov] (eval i X.env)
   standAt pos
   holding [v,ov,iv] (setItem ov iv v)
   release [v,ov,iv] []):=by intro _;rfl):PG X (.Subscript o i pos) (TR to ti t):=by
 intro pins s Z H v u Q I r h;rw[ha];refine aa (bY (cz (ho pins s Z H _ I h) λov s1 ⟨x,H1,I1,r1,q1⟩=>?_));refine aa (bY (cz (hi pins s1 Z H1 _ I1 q1) λiv s2 ⟨y,H2,I2,r2,q2⟩=>?_));refine aa (dE (aa (bY (cz (hs pins s2 Z H2 x y v ov iv u _ I2 r1 r2 r q2) λ_ s3 ⟨H3,I3,q3⟩=>?_))));exact wpAny_release ⟨Z,H3,I3,q3⟩
noncomputable def uY(te:TE)(g:TG):TS:=λD Z H=>te Z H λx H1=>g x Z H1 D.nx
theorem Ik{tg e:Expr}{te:TE}{g:TG}(he:PE X e te)(hg:PG X tg g)(hs:swapsWithSole [tg] e pos.line X.env=pure false:=by rfl)(hw:swappedStores [tg] e X.env=pure none:=by rfl)(h1:(assignEach [tg] X.env).map (·.2)=[assign tg X.env]:=by rfl):PS X (.Assign [tg] e pos) (uY te g):=by
 intro pins s Z H D I h;refine wpAny_Assign_stores (cz (he pins s Z H _ I h) λv s1 ⟨x,H1,I1,r1,q1⟩=>?_) hs hw;rw[h1];exact cz (hg pins s1 Z H1 x v _ I1 r1 q1) λ_ s2 q=>q
theorem Il{i:Nat}{x:Str}{e:Expr}{te:TE}{pos':Pos}(hN:X.N.Nodup)(hi:X.N[i]?=some x)(hx:Loc X.env.scope x)(he:PE X e te)(hs:swapsWith e (some (.Name x pos')) pos.line X.env=pure false:=by rfl)(hf:X.fn x=true\/X.env.scope.names.lookup x=some .local:=by first|exact .inl rfl|exact .inr rfl|assumption) :
  PS X (.Assign [.Name x pos'] e pos) (uY te (si i)):=by
 intro pins s Z H D I h;refine wpAny_Assign_Name (cz (he pins s Z H _ I h) λv s1 ⟨y,H1,I1,r1,q1⟩=>?_) hs;exact Q6 I1 hN hi hx r1 (λs2 I2=>⟨_,H1,I2,q1⟩) hf
noncomputable def UQ(i j:Nat)(ta:TA):TS:=λD Z H=>ta Z H λvs H1=>∃v w,vs=[v,w]/\D.nx ((Z.set i (some v)).set j (some w)) H1
theorem Qb{i j:Nat}{x y:Str}{a b:Expr}{ta:TA}{px py pt:Pos}{kt k2 nS}(hc:X.calm=true)(hN:X.N.Nodup)(hi:X.N[i]?=some x)(hj:X.N[j]?=some y)(iU:i≠j)(hx:X.env.scope.names.lookup x=some .local)(hy:X.env.scope.names.lookup y=some .local)(ha:PA X [a,b] ta)(hw:swappedStores [.Tuple [.Name x px,.Name y py] kt pt] (.Tuple [a,b] k2 nS) X.env=pure (some [x,y]))(hs:swapsWithSole [.Tuple [.Name x px,.Name y py] kt pt] (.Tuple [a,b] k2 nS) pos.line X.env=pure false:=by rfl) :
  PS X (.Assign [.Tuple [.Name x px,.Name y py] kt pt] (.Tuple [a,b] k2 nS) pos) (UQ i j ta):=by
 intro pins s Z H D I h;rw[exec_Assign_arm];refine aa (dE ?_);rw[hs];refine aa (ao ?_);rw[aB (by decide)];refine aa (Tuple_ (cz (ha _ pins s Z H _ I h) λus s1 ⟨vs,H1,I1,r1,q1⟩=>?_));obtain⟨v,w,e1,q1⟩:=q1;subst e1;obtain⟨u1,u2,rfl,rv,fE⟩:∃u1 u2,us=[u1,u2]/\RelV v u1/\RelV w u2:=by
  cases r1 with
  |cons p q =>
   cases q with
   |cons p' q' =>
    cases q';exact⟨_,_,rfl,p,p'⟩
 refine bX ?_ (by show 2<=sizeLine;decide);have I2:Inv X pins Z H1 { s1 with heap:=s1.heap.push { cls:=.type "tuple",data:=.seq [u1,u2].toArray } }:=I1.kept (t':=s1.toks) λb o e=>au _ e;rw[hw];refine aa (ao ?_);show wpAny (model X.prog X.w) X.A (do rule "assign.swapped-stores";let items <- unpackItems (.ref s1.heap.objs.size) 2 none;assignInOrder [λv=>bindName X.env y v,λv=>bindName X.env x v] items.reverse;pure Flow.next) _ _ _;refine aa (fG (aa (unpackItems_tuple (items:=#[u1,u2]) (I.ok.hd hc) (IsTup.new s1.heap _) λh' nZ=>?_)));have I3:=I2.kept (h':=h') (t':=s1.toks) λb o e=>nZ b o (aN (ay e)) e;show wpAny _ _ (assignInOrder [λv=>bindName X.env y v,λv=>bindName X.env x v] [u2,u1] >>= λ_=>pure Flow.next) _ _ _;refine aa (vI (wpAny_bindName (Q6 I3 hN hj (.inl hy) fE (λs2 I4=>?_) (.inr hy))));refine vI (wpAny_bindName (Q6 I4 hN hi (.inl hx) rv (λs3 I5=>assignInOrder_nil (ao ?_)) (.inr hx)));rw[List.set_comm _ _ (bD iU)] at I5;exact⟨_,H1,I5,q1⟩
noncomputable def UI(i:Nat)(te:TE)(ti:CV):TS:=λD Z H=>∃x,Z[i]?=some (some x)/\te Z H λy H1=>ti x y H1 λz H2=>D.nx (Z.set i (some z)) H2
theorem PZ{i:Nat}{x:Str}{e:Expr}{te:TE}{op:Operator}{ti:CV}{pos':Pos}(hN:X.N.Nodup)(hi:X.N[i]?=some x)(hx:Loc X.env.scope x)(he:PE X e te)(ho:JQ X op ti)(hf:X.fn x=true\/X.env.scope.names.lookup x=some .local:=by first|exact .inl rfl|exact .inr rfl|assumption) :
  PS X (.AugAssign (.Name x pos') op e pos) (UI i te ti):=by
 intro pins s Z H D I h;obtain⟨v,e1,h⟩:=h;obtain⟨m,hn,hl⟩:=I.loc;have sX:vz X.env.scope x:=by rcases hx with k|k;exact .inl k;exact .inr (.inl k)
 obtain⟨u,r,l⟩:=hl i x v hi e1 sX;refine wpAny_AugAssign_Name ?_;have go:wpAny (model X.prog X.w) X.A (eval e X.env) (λw fS=>wpAny (model X.prog X.w) X.A (inplaceOp op u w) (λr eI=>wpAny (model X.prog X.w) X.A (storeName X.env x r) (λ_=>SP X pins D .next) X.xe eI) X.xe fS) X.xe s:=by
  refine cz (he pins s Z H _ I h) λw s1 ⟨y,H1,I1,r1,q1⟩=>?_;refine cz (ho pins s1 Z H1 v y u w _ I1 r r1 q1) λz s2 ⟨zv,H2,I2,r2,q2⟩=>?_;exact Q6 I2 hN hi hx r2 (λs3 I3=>⟨_,H2,I3,q2⟩) hf
 rcases l with⟨hk,hm⟩|⟨hk,c,hc,kh⟩
 ·exact wpAny_loadName_local I.ok.kind hk hn hm go
 ·rcases hk with hk|hk
  ·exact wpAny_loadName_cell I.ok.kind hk hc kh go
  ·rcases hx with k|k
   ·have:X.env.scope.names.lookup x=some .free:=hk;rw[k] at this;cases this
   ·have:X.env.scope.names.lookup x=some .free:=hk;rw[k] at this;cases this
end
section
variable{X:Cx}{pos:Pos}
noncomputable def QV(c:TT)(tb:TS):TS:=λD Z H=>∃W:Nat->St->Hp->Prop,(∃m,W m Z H)/\∀m Z H,W m Z H ->
 c Z H λb H1=>if b=true then ∃N:St->Hp->Prop,(∀bN H',N bN H'->∃m',m'<m/\W m' bN H')/\tb { D with nx:=N,ct:=N,bk:=D.nx } Z H1 else D.nx Z H1
theorem a28{c:Expr}{body:List Stmt}{tc:TT}{tb:TS}(hp:PassesOwn (model X.prog X.w) X.A X.env X.xe)(hc:PT X c tc)(hb:iV X body tb):PS X (.While c body [] pos) (QV tc tb):=by
 intro pins s Z H D I h;obtain⟨W,⟨m0,w0⟩,turn⟩:=h;refine wpAny_While (codeAny_whileLoop (λn s'=>∃bN H',Inv X pins bN H' s'/\W n bN H') ?_ m0 ⟨Z,H,I,w0⟩);rintro n s1 ⟨hX,H1,I1,w1⟩;refine dC hp (cz (hc pins s1 hX H1 _ I1 (turn n hX H1 w1)) λb s2 ⟨H2,I2,q2⟩=>?_);cases b with
 |true =>
  obtain⟨N,hN,q2⟩:=q2;rw[aH rfl];refine dC hp (cz (hb pins s2 hX H2 _ I2 q2) λf s3 q3=>?_);cases f with
  |next =>
   obtain⟨gY,H3,I3,n3⟩:=q3;obtain⟨m',hm,w3⟩:=hN gY H3 n3;exact⟨m',hm,gY,H3,I3,w3⟩
  |cont =>
   obtain⟨gY,H3,I3,n3⟩:=q3;obtain⟨m',hm,w3⟩:=hN gY H3 n3;exact⟨m',hm,gY,H3,I3,w3⟩
  |brk=>exact q3
  |ret v=>exact q3
 |false =>
  rw[aB dk];exact sA ⟨hX,H2,I2,q2⟩
end
structure It where
 go:Nat->Hp->Prop
 pz:Nat->Hp->V->Hp->Prop
 stop:Nat->Hp->Prop
noncomputable def C2(X:Cx)(pins:List (Addr×Obj))(H:Hp)(b:Addr):Prop :=
 H b=none/\b≠X.env.locals/\b∉X.fs/\(b∈X.ex\/X.cX.heap.objs.size<=b)/\(∀x c,X.env.cells.lookup x=some c->c≠b)/\∀p∈X.pn++pins,p.1≠b
theorem Inv.oI{X:Cx}{pins:List (Addr×Obj)}{Z:St}{H H':Hp}{s:Shared}{b:Addr}(I:Inv X pins Z H s)(hb:s.heap.objs.size<=b)(hn:H' b=none):C2 X pins H' b:=by
 refine⟨hn,bP (ax I.lt hb),I.vx hb,.inr (aD I.sz hb),λx c e z=>?_,λp hp z=>?_⟩
 ·obtain⟨v,q⟩:=I.cell x c e;exact absurd (ax q.lt (by rw[z];exact hb)) (br _)
 ·exact absurd (ax (ay (I.pin p hp).1) (by rw[z];exact hb)) (br _)
structure Turn(P:Program)(w:World)(K:PySem.W.Frag)(tg:Expr)(J:It)(fp:List Addr)(it:Addr)(tn:Nat->Heap->Prop):Prop where
 mem:it∈fp
 obj:∀i h,tn i h->∀b∈fp,∃o,h.get? b=some o/\∀v,o.data≠.cell v
 keep:∀i h h',tn i h->(∀b∈fp,∀o,h.get? b=some o->h'.get? b=some o)->tn i h'
 item:∀(X:Cx),X.prog=P->X.w=w->X.K=K->X.calm=true->∀(i:Nat) (pins:List (Addr×Obj)) (s:Shared) (Z:St) (H:Hp) (E:Value->Shared->Prop),Inv X pins Z H s->(∀b∈fp,C2 X pins H b)->tn i s.heap->J.go i H ->
  wpAny (model P w) X.A (pyNext (.ref it)) (λr s1=>∃ u,r=some u /\
   wpAny (model P w) X.A (letOwnedTupleGo tg (.ref it) u) (λ_ s2=>∃ x H',Inv X pins Z H' s2/\RelV x u/\J.pz i H x H'/\tn (i + 1) s2.heap/\∀ b ∈ fp,H' b=none) E s1) E s
 done:∀(X:Cx),X.prog=P->X.w=w->X.K=K->X.calm=true->∀(i:Nat) (pins:List (Addr×Obj)) (s:Shared) (Z:St) (H:Hp) (E:Value->Shared->Prop),Inv X pins Z H s->(∀b∈fp,C2 X pins H b)->tn i s.heap->J.stop i H ->
  wpAny (model P w) X.A (pyNext (.ref it)) (λr s1=>r=none/\Inv X pins Z H s1) E s
 self:∀(A:Around) (i:Nat) (s:Shared) (Q:Value->Shared->Prop) (E:Value->Shared->Prop),tn i s.heap->Q (.ref it) s->wpAny (model P w) A (pyIter (.ref it)) Q E s
noncomputable abbrev TI:=St->Hp->(It->Hp->Prop)->Prop
noncomputable def JR(X:Cx)(pins:List (Addr×Obj))(Z:St)(tg:Expr)(R:It->Hp->Prop)(tW:Value)(s2:Shared):Prop :=
 ∃(it:Addr) (fp:List Addr) (tn:Nat->Heap->Prop) (J:It) (H':Hp),tW=.ref it/\Inv X pins Z H' s2/\Turn X.prog X.w X.K tg J fp it tn/\tn 0 s2.heap/\(∀b∈fp,C2 X pins H' b)/\R J H'
noncomputable def PI(X:Cx)(tg iter:Expr)(wi:TI):Prop :=
 ∀(pins:List (Addr×Obj)) (s:Shared) (Z:St) (H:Hp) (R:It->Hp->Prop),Inv X pins Z H s->wi Z H R ->
  wpAny (model X.prog X.w) X.A (eval iter X.env) (λv s1=>wpAny (model X.prog X.w) X.A (pyIter v) (JR X pins Z tg R) X.xe s1) X.xe s
theorem wV{M:Model}{A:Around}{E:Value->Shared->Prop}{s:Shared}{tg:Expr}{it:Addr}{u:Value}{o:Obj}{n:String}{vs:Array Value}{Q:Unit->Shared->Prop}(ho:s.heap.get? it=some o)(hc:o.cls=.type n)(hd:o.data=.fields vs)(hn:["enumerate","zip","dict_itemiterator","dict_reverseitemiterator","odict_iterator","itertools.zip_longest","itertools.pairwise"].contains n=false)(hQ:Q () s):wpAny M A (letOwnedTupleGo tg (.ref it) u) Q E s:=by
  unfold letOwnedTupleGo;cases tg<;>first
    |exact ao hQ
    | (cases u <;> first
        |exact ao hQ
        | (refine aa (wpAny_load ho ?_)
           rw[hc,hd];show wpAny M A (if(["enumerate","zip","dict_itemiterator","dict_reverseitemiterator","odict_iterator","itertools.zip_longest","itertools.pairwise"].contains n&&vs[0]?==some (rawInt _))=true then _ else _) Q E s;rw[aB (by intro h;rw[hn,iM] at h;cases h)];exact ao hQ))
noncomputable def CZ(K:PySem.W.Frag)(a:Addr):It :=
 ⟨λi H=>∃xs x,fo K H a xs/\xs[i]?=some x,λi H x H'=>H'=H/\∀xs,fo K H a xs->xs[i]?=some x,λi H=>∃xs,fo K H a xs/\xs.length<=i⟩
noncomputable def CY(K:PySem.W.Frag)(a:Addr):It :=
 ⟨λi H=>∃xs x,gS K H a xs/\xs[i]?=some x,λi H x H'=>H'=H/\∀xs,gS K H a xs->xs[i]?=some x,λi H=>∃xs,gS K H a xs/\xs.length<=i⟩
noncomputable def vE(lo:Int)(n:Nat):It:=⟨λi _=>i<n,λi H x H'=>H'=H/\x=.int (lo+i),λi _=>n<=i⟩
theorem Yl{P:Program}{w:World}{K:PySem.W.Frag}{tg:Expr}(a it:Addr):Turn P w K tg (CZ K a) [it] it (λi h=>h.IsListIter it a i) where
 mem:=by simp
 obj:=λi h st b hb=>by
  have e:b=it:=by simpa using hb
  subst e;obtain⟨o,e,c,d⟩:=st;exact⟨o,e,λv z=>by rw[d] at z;cases z⟩
 keep:=λi h h' st k=>st.at λo e=>k it (by simp) o e
 item:=by
  intro X hP hw hK hc i pins s Z H E I hf st hg;subst hP hw hK;obtain⟨xs,x,hq,hx⟩:=hg;obtain⟨aR,rv,p,hz⟩:=I.list hq;obtain⟨u,hu,ru⟩:=rv.get hx;obtain⟨f0,f1,f2,f3,f4,f5⟩:=hf it (by simp);refine wpAny_pyNext_list_item st p.isList (x:=u) (by simpa using hu) λh' kB sb=>?_;have I1:Inv X pins Z H { s with heap:=h' }:=I.turned (t':=s.toks) (λb o hb e=>(sb.2 b hb).trans e) f0 f1 f3 f4 f5;obtain⟨o,e,c,d⟩:=id kB;exact⟨u,rfl,wV (s:={ s with heap:=h' }) e c d (by decide) ⟨x,H,I1,ru,⟨rfl,λys hy=>by rw[I.Bk hy hq];exact hx⟩,kB,λb hb=>(hf b hb).1⟩⟩
 done:=by
  intro X hP hw hK hc i pins s Z H E I hf st hg;subst hP hw hK;obtain⟨xs,hq,hx⟩:=hg;obtain⟨aR,rv,p,hz⟩:=I.list hq;obtain⟨f0,f1,f2,f3,f4,f5⟩:=hf it (by simp);have hl:=rv.length;exact wpAny_pyNext_list_end (I.ok.hd hc) st p.isList (by simp;omega) λh' eb=>⟨rfl,I.turned (t':=s.toks) (λb o hb e=>eb b o hb e) f0 f1 f3 f4 f5⟩
 self:=λ_ _ _ _ _ st h=>wpAny_pyIter_listiter st h
theorem Y'{P:Program}{w:World}{K:PySem.W.Frag}{tg:Expr}(a it:Addr):Turn P w K tg (CY K a) [it] it (λi h=>h.IsTupleIter it a i) where
 mem:=by simp
 obj:=λi h st b hb=>by
  have e:b=it:=by simpa using hb
  subst e;obtain⟨o,e,c,d⟩:=st;exact⟨o,e,λv z=>by rw[d] at z;cases z⟩
 keep:=λi h h' st k=>st.at λo e=>k it (by simp) o e
 item:=by
  intro X hP hw hK hc i pins s Z H E I hf st hg;subst hP hw hK;obtain⟨xs,x,hq,hx⟩:=hg;obtain⟨aR,rv,p,hz⟩:=I.tuple hq;obtain⟨u,hu,ru⟩:=rv.get hx;obtain⟨f0,f1,f2,f3,f4,f5⟩:=hf it (by simp);refine wpAny_pyNext_tuple_item st (show s.heap.IsTuple a aR.toArray from p) (x:=u) (by simpa using hu) λh' kB sb=>?_;have I1:Inv X pins Z H { s with heap:=h' }:=I.turned (t':=s.toks) (λb o hb e=>(sb.2 b hb).trans e) f0 f1 f3 f4 f5;obtain⟨o,e,c,d⟩:=id kB;exact⟨u,rfl,wV (s:={ s with heap:=h' }) e c d (by decide) ⟨x,H,I1,ru,⟨rfl,λys hy=>by rw[I.Yi hy hq];exact hx⟩,kB,λb hb=>(hf b hb).1⟩⟩
 done:=by
  intro X hP hw hK hc i pins s Z H E I hf st hg;subst hP hw hK;obtain⟨xs,hq,hx⟩:=hg;obtain⟨aR,rv,p,hz⟩:=I.tuple hq;obtain⟨f0,f1,f2,f3,f4,f5⟩:=hf it (by simp);have hl:=rv.length;exact wpAny_pyNext_tuple_end (I.ok.hd hc) st (show s.heap.IsTuple a aR.toArray from p) (by simp;omega) λh' eb=>⟨rfl,I.turned (t':=s.toks) (λb o hb e=>eb b o hb e) f0 f1 f3 f4 f5⟩
 self:=λ_ _ _ _ _ st h=>wpAny_pyIter_tupleiter st h
theorem YY{P:Program}{w:World}{K:PySem.W.Frag}{tg:Expr}(it:Addr)(lo:Int)(n:Nat):Turn P w K tg (vE lo n) [it] it (λi h=>IsRangeIter h it (lo+(i:Nat)*1) ((n:Int)-(i:Nat)) 1) where
 mem:=by simp
 obj:=λi h st b hb=>by
  have e:b=it:=by simpa using hb
  subst e;exact ⟨_,st,λv z=>by
   have z':Data.fields _=Data.cell v:=z;cases z'⟩
 keep:=λi h h' st k=>k it (by simp) _ st
 item:=by
  intro X hP hw hK hc i pins s Z H E I hf st hg;subst hP hw hK;obtain⟨f0,f1,f2,f3,f4,f5⟩:=hf it (by simp);have W:=Walks.range (prog:=X.prog) (w:=X.w) (I.ok.hd hc) it lo 1 n;refine W.item i s _ _ hg st λv h' tk hv kB kk=>?_;obtain⟨t,rfl⟩:=hv;have I1:Inv X pins Z H { s with heap:=h',toks:=tk }:=I.turned (λb o hb e=>kk b o (by simpa using hb) e) f0 f1 f3 f4 f5;refine⟨_,rfl,wV (s:={ s with heap:=h',toks:=tk }) (n:="range_iterator") kB rfl rfl (by decide) ⟨.int (lo+i),H,I1,⟨t,?_⟩,⟨rfl,rfl⟩,kB,λb hb=>(hf b hb).1⟩⟩;rw[Int.mul_one]
 done:=by
  intro X hP hw hK hc i pins s Z H E I hf st hg;subst hP hw hK;obtain⟨f0,f1,f2,f3,f4,f5⟩:=hf it (by simp);exact wpAny_pyNext_range_end (I.ok.hd hc) st (by have:n<=i:=hg;omega) λh' eb=>⟨rfl,I.turned (t':=s.toks) (λb o hb e=>eb b o hb e) f0 f1 f3 f4 f5⟩
 self:=λ_ _ _ _ _ st h=>wpAny_pyIter_rangeiter st h
end L2
namespace L2
open PySem PySem.Spec PyProof.Rows
section
variable{X:Cx}{tg:Expr}
theorem Ge{pins:List (Addr×Obj)}{Z:St}{H:Hp}{s:Shared}{R:It->Hp->Prop}{E:Value->Shared->Prop}{lo hi:Int}{t u v:Tok}{tk:Nat}(I:Inv X pins Z H s)(h1:-(2 ^ 62)<=lo)(h2:lo<2 ^ 62)(h3:-(2 ^ 62)<=hi)(h4:hi<2 ^ 62)(q:R (vE lo (hi-lo).toNat) H):wpAny (model X.prog X.w) X.A (pyIter (.ref s.heap.objs.size)) (JR X pins Z tg R) E { s with heap:=s.heap.push { cls:=.type "range",data:=.fields #[.int lo t,.int hi u,.int 1 v] },toks:=tk }:=by
 refine wpAny_pyIter_range (IsRange.new ..) (small_one h1 h2 h3 h4) ?_;have I1:Inv X pins Z H { s with heap:=s.heap.push { cls:=.type "range",data:=.fields #[.int lo t,.int hi u,.int 1 v] },toks:=tk }:=I.kept λb o e=>au _ e;refine ⟨(s.heap.push { cls:=.type "range",data:=.fields #[.int lo t,.int hi u,.int 1 v] }).objs.size,[(s.heap.push { cls:=.type "range",data:=.fields #[.int lo t,.int hi u,.int 1 v] }).objs.size],_,_,H,rfl,
  I1.kept (t':=tk) λb o e=>au _ e,YY _ lo (hi - lo).toNat,?_,λb hb=>?_,q⟩
 ·have e1:lo+((0:Nat):Int)*1=lo:=by simp
  have e2:(((hi-lo).toNat:Nat):Int)-((0:Nat):Int)=Builtin.Range.rangeSize lo hi 1:=by rw[rangeSize_one];split<;>omega
  show IsRangeIter _ _ (lo+((0:Nat):Int)*1) ((((hi-lo).toNat:Nat):Int)-((0:Nat):Int)) 1;rw[e1,e2];exact aC _ rfl
 ·have e:b=(s.heap.push { cls:=.type "range",data:=.fields #[.int lo t,.int hi u,.int 1 v] }).objs.size:=by simpa using hb
  subst e;exact I1.oI (av _) (I1.bG.fresh (av _))
noncomputable def Vs(ta:TA):TI:=λZ H R=>ta Z H λvs H1=>∃j:Int,vs=[.int j]/\-(2 ^ 62)<=j/\j<2 ^ 62/\R (vE 0 j.toNat) H1
noncomputable def Vt(ta:TA):TI:=λZ H R=>ta Z H λvs H1=>∃i j:Int,vs=[.int i,.int j]/\(-(2 ^ 62)<=i/\i<2 ^ 62/\-(2 ^ 62)<=j/\j<2 ^ 62)/\R (vE i (j-i).toNat) H1
theorem XT{a:Expr}{ta:TA}{p pos:Pos}(hg:Gl X "range")(hm:X.mg "range"=none)(ha:PA X [a] ta)(hs:starEach [a] X.env=[(false,eval a X.env)]:=by rfl):PI X tg (.Call (.Name "range" p) [a] [] pos) (Vs ta):=by
 intro pins s Z H R I h;refine Call_ (K6 I hg hm boot_range (bC (cz (ha pos pins s Z H _ I h) λus s1 ⟨vs,H1,I1,r1,q1⟩=>?_) hs rfl));obtain⟨j,e,q1,q2,q⟩:=q1;subst e;cases r1 with
 |cons r rr =>
  cases rr;obtain⟨t,rfl⟩:=r;exact call_range_1 (Ge I1 (by omega) (by omega) q1 q2 (by simpa using q))
theorem XU{a b:Expr}{ta:TA}{p pos:Pos}(hg:Gl X "range")(hm:X.mg "range"=none)(ha:PA X [a,b] ta)(hs:starEach [a,b] X.env=[(false,eval a X.env),(false,eval b X.env)]:=by rfl)(iH:starEach [b] X.env=[(false,eval b X.env)]:=by rfl) :
  PI X tg (.Call (.Name "range" p) [a,b] [] pos) (Vt ta):=by
 intro pins s Z H R I h;refine Call_ (K6 I hg hm boot_range (bC (cz (ha pos pins s Z H _ I h) λus s1 ⟨vs,H1,I1,r1,q1⟩=>?_) (by rw[hs,iH]) (by rw[iH];rfl)));obtain⟨i,j,e,⟨q1,q2,q3,q4⟩,q⟩:=q1;subst e;cases r1 with
 |cons r rr =>
  cases rr with
  |cons r' rr =>
   cases rr;obtain⟨t,rfl⟩:=r;obtain⟨t',rfl⟩:=r';exact call_range_2 (Ge I1 q1 q2 q3 q4 q)
noncomputable def UL(wi:TI)(g:TG)(tb:TS):TS:=λD Z H=>wi Z H λJ H1=>∃W:Nat->Nat->St->Hp->Prop,(∃m,W 0 m Z H1)/\∀i m Z H,W i m Z H ->
 (J.stop i H/\D.nx Z H)\/(J.go i H/\∃N:St->Hp->Prop,(∀bN H',N bN H'->∃m',m'<m/\W (i+1) m' bN H')/\∀x H',J.pz i H x H'->g x Z H' λcg H2=>tb { D with nx:=N,ct:=N,bk:=D.nx } cg H2)
noncomputable def W9(fp:List Addr)(h:Heap):List (Addr×Obj):=fp.filterMap λb=>(h.get? b).map λo=>(b,o)
theorem O8{fp:List Addr}{h:Heap}{b:Addr}{o:Obj}(hb:b∈fp)(e:h.get? b=some o):(b,o)∈W9 fp h:=jn.mpr ⟨b,hb,by rw[e];rfl⟩
theorem XH{fp:List Addr}{h:Heap}{p:Addr×Obj}(hp:p∈W9 fp h):p.1∈fp/\h.get? p.1=some p.2:=by
 obtain⟨b,hb,e⟩:=jn.mp hp;cases q:h.get? b with
 |none=>rw[q] at e;cases e
 |some o =>
  rw[q] at e;have e':(b,o)=p:=aJ e;subst e';exact⟨hb,q⟩
theorem Inv.pinned{pins:List (Addr×Obj)}{Z:St}{H:Hp}{s:Shared}{fp:List Addr}(I:Inv X pins Z H s)(hf:∀b∈fp,C2 X pins H b)(ho:∀b∈fp,∃o,s.heap.get? b=some o/\∀v,o.data≠.cell v):Inv X (pins++W9 fp s.heap) Z H s :=
 I.J7 λp hp=>(bj.mp hp).elim (λz=>I.pin p (bt _ z)) λz=>by
  obtain⟨hb,e⟩:=XH z;obtain⟨f0,f1,f2,_⟩:=hf p.1 hb;obtain⟨o,e',d⟩:=ho p.1 hb;rw[e] at e';cases e';exact⟨e,f0,f1,f2,d⟩
theorem Inv.Bt{pins pl:List (Addr×Obj)}{Z:St}{H:Hp}{s:Shared}(I:Inv X (pins++pl) Z H s):Inv X pins Z H s:=I.J7 λp hp=>I.pin p (bt _ (dD _ hp))
theorem Qa{iter:Expr}{body:List Stmt}{wi:TI}{g:TG}{tb:TS}{pos:Pos}(hp:PassesOwn (model X.prog X.w) X.A X.env X.xe)(hc:X.calm=true)(hi:PI X tg iter wi)(hg:PG X tg g)(hb:iV X body tb)(hs:∀x,foldedSetIterable iter X.env x=pure x:=by intro _;rfl):PS X (.For tg iter body [] pos) (UL wi g tb):=by
 intro pins s Z H D I h;refine wpAny_For (cz (hi pins s Z H _ I h) λv s1 h1=>cz h1 λtW s2 h2=>?_) hs;obtain⟨it,fp,tn,J,H2,e,I2,T,jR,f2,W,⟨m0,w0⟩,turn⟩:=h2;subst e;have pB:∀{H':Hp},(∀b∈fp,H' b=none)->∀b∈fp,C2 X pins H' b:=λhn b hb=>⟨hn b hb,(f2 b hb).2⟩
 refine codeAny_forLoop_any (λn s'=>∃i bN H',Inv X pins bN H' s'/\tn i s'.heap/\(∀b∈fp,H' b=none)/\W i n bN H') ?_ m0 ⟨0,Z,H2,I2,jR,λb hb=>(f2 b hb).1,w0⟩;rintro n s3 ⟨i,gY,H3,I3,nQ,oy,w3⟩;rcases turn i n gY H3 w3 with⟨stop,qn⟩|⟨go,N,hN,step⟩
 ·refine dC hp (cz (T.done X rfl rfl rfl hc i pins s3 gY H3 X.xe I3 (pB oy) nQ stop) λr s4 ⟨hr,I4⟩=>?_);subst hr;exact sA ⟨gY,H3,I4,qn⟩
 ·refine dC hp (cz (T.item X rfl rfl rfl hc i pins s3 gY H3 X.xe I3 (pB oy) nQ go) λr s4 ⟨u,hr,h4⟩=>?_);subst hr;refine dC hp (cz h4 λ_ s5 lQ=>?_);obtain⟨x,H5,I5,r5,y5,lF,uK⟩:=lQ;have vF:=I5.pinned (pB uK) (T.obj _ _ lF);refine dC hp (cz (hg _ s5 gY H5 x u _ vF r5 (step x H5 y5)) λ_ s6 ⟨kx,H6,I6,q6⟩=>?_);refine dC hp (cz (hb _ s6 kx H6 _ I6 q6) λf s7 q7=>?_);have again:∀{lB:St} {H7:Hp},Inv X (pins++W9 fp s5.heap) lB H7 s7->N lB H7->∃m,m<n/\∃i bN H',Inv X pins bN H' s7/\tn i s7.heap/\(∀b∈fp,H' b=none)/\W i m bN H':=λ{lB H7} I7 n7=>by
   obtain⟨m',hm,w7⟩:=hN lB H7 n7;refine⟨m',hm,i+1,lB,H7,I7.Bt,T.keep _ _ _ lF λb hb o e=>(I7.pin (b,o) (bt _ (bt _ (O8 hb e)))).1,λb hb=>?_,w7⟩;obtain⟨o,e,d⟩:=T.obj _ _ lF b hb;exact(I7.pin (b,o) (bt _ (bt _ (O8 hb e)))).2.1
  cases f with
  |next=>obtain⟨lB,H7,I7,n7⟩:=q7;exact again I7 n7
  |cont=>obtain⟨lB,H7,I7,n7⟩:=q7;exact again I7 n7
  |brk=>obtain⟨lB,H7,I7,q7⟩:=q7;exact⟨lB,H7,I7.Bt,q7⟩
  |ret v=>obtain⟨x7,lB,H7,I7,r7,q7⟩:=q7;exact⟨x7,lB,H7,I7.Bt,r7,q7⟩
end
end L2
namespace L2
open PySem PySem.Spec PyProof.Rows
noncomputable abbrev R2:=V->V->Hp->VK->Prop
noncomputable def fh(X:Cx)(f:Value->Value->Sem Value)(r:R2):Prop :=
 ∀(pins:List (Addr×Obj)) (s:Shared) (Z:St) (H:Hp) (x y:V) (v u:Value) (Q:VK),Inv X pins Z H s->RelV x v->RelV y u->r x y H Q ->
  wpAny (model X.prog X.w) X.A (f v u) (EP X pins Z Q) X.xe s
noncomputable def xX(X:Cx)(f:Value->Sem Value)(r:V->Hp->VK->Prop):Prop :=
 ∀(pins:List (Addr×Obj)) (s:Shared) (Z:St) (H:Hp) (x:V) (v:Value) (Q:VK),Inv X pins Z H s->RelV x v->r x H Q ->
  wpAny (model X.prog X.w) X.A (f v) (EP X pins Z Q) X.xe s
noncomputable def m9(X:Cx)(f:Value)(r:List V->Hp->VK->Prop):Prop :=
 ∀(pins:List (Addr×Obj)) (s:Shared) (Z:St) (H:Hp) (xs:List V) (us:List Value) (Q:VK),Inv X pins Z H s->Vals xs us->r xs H Q ->
  wpAny (model X.prog X.w) X.A (call f us) (EP X pins Z Q) X.xe s
noncomputable def To(X:Cx)(r:V->Hp->(Bool->Hp->Prop)->Prop):Prop :=
 ∀(pins:List (Addr×Obj)) (s:Shared) (Z:St) (H:Hp) (x:V) (v:Value) (Q:Bool->Hp->Prop),Inv X pins Z H s->RelV x v->r x H Q ->
  wpAny (model X.prog X.w) X.A (truthy v) (TP X pins Z Q) X.xe s
noncomputable def qT(r:R2)(ta tb:TE):TE:=λZ H Q=>ta Z H λx H1=>tb Z H1 λy H2=>r x y H2 Q
noncomputable def Kv(r:V->Hp->VK->Prop)(ta:TE):TE:=λZ H Q=>ta Z H λx H1=>r x H1 Q
noncomputable def rI(C:Int->Int->Prop)(g:Int->Int->V):R2:=λx y H Q=>∃i j,x=.int i/\y=.int j/\C i j/\Q (g i j) H
noncomputable def kT(g:Int->Int->V):R2:=λx y H Q=>∃i j,x=.int i/\y=.int j/\Q (g i j) H
noncomputable def rU(g:Int->V):V->Hp->VK->Prop:=λx H Q=>∃i,x=.int i/\Q (g i) H
section
variable{X:Cx}{a b c:Expr}{ta tb tc:TE}{pos:Pos}
theorem CJ(ha:PE X a ta)(hb:PE X b tb){pins:List (Addr×Obj)}{s:Shared}{Z:St}{H:Hp}{R:V->V->Hp->Prop}(I:Inv X pins Z H s)(h:ta Z H λx H1=>tb Z H1 λy H2=>R x y H2){Q:Value->Shared->Prop}{f:Value->Value->Sem Value}(hf:∀v u s2 x y H2,Inv X pins Z H2 s2->RelV x v->RelV y u->R x y H2->wpAny (model X.prog X.w) X.A (f v u) Q X.xe s2) :
  wpAny (model X.prog X.w) X.A (eval a X.env) (λv bQ=>wpAny (model X.prog X.w) X.A (eval b X.env) (λu fS=>wpAny (model X.prog X.w) X.A (f v u) Q X.xe fS) X.xe bQ) X.xe s:=by
 refine cz (ha pins s Z H _ I h) λv s1 ⟨x,H1,I1,r1,q1⟩=>?_;refine cz (hb pins s1 Z H1 _ I1 q1) λu s2 ⟨y,H2,I2,r2,q2⟩=>?_;exact hf v u s2 x y H2 I2 r1 r2 q2
theorem VZ{op:Operator}{r:R2}(ho:fh X (binaryOp op) r)(ha:PE X a ta)(hb:PE X b tb):PE X (.BinOp a op b pos) (qT r ta tb):=by
 intro pins s Z H Q I h;exact wpAny_BinOp (CJ ha hb I h λv u s2 x y H2 I2 rx ry q=>ho pins s2 Z H2 x y v u Q I2 rx ry q)
theorem Wa{op:UnaryOp}{r:V->Hp->VK->Prop}(ho:xX X (unaryOp op) r)(ha:PE X a ta):PE X (.UnaryOp op a pos) (Kv r ta):=by
 intro pins s Z H Q I h;exact UnaryOp_ (cz (ha pins s Z H _ I h) λv s1 ⟨x,H1,I1,r1,q1⟩=>ho pins s1 Z H1 x v Q I1 r1 q1)
theorem tF{f:Value->Value->Sem Value}{C:Int->Int->Prop}{g:Int->Int->Int}(rule:∀(i j:Int) (t u:Tok) (s:Shared) (Q:Value->Shared->Prop) (E:Value->Shared->Prop),C i j->Q (.int (g i j) s.toks) { s with toks:=s.toks+1 }->wpAny (model X.prog X.w) X.A (f (.int i t) (.int j u)) Q E s) :
  fh X f (rI C λi j=>.int (g i j)):=by
 intro pins s Z H x y v u Q I rx ry h;obtain⟨i,j,rfl,rfl,hc,q⟩:=h;obtain⟨t,rfl⟩:=rx;obtain⟨t',rfl⟩:=ry;exact rule i j t t' s _ _ hc ⟨.int (g i j),H,I.tok _,⟨_,rfl⟩,q⟩
theorem rX{f:Value->Value->Sem Value}{g:Int->Int->Int}(rule:∀(i j:Int) (t u:Tok) (s:Shared) (Q:Value->Shared->Prop) (E:Value->Shared->Prop),Q (.int (g i j) s.toks) { s with toks:=s.toks+1 }->wpAny (model X.prog X.w) X.A (f (.int i t) (.int j u)) Q E s) :
  fh X f (kT λi j=>.int (g i j)):=by
 intro pins s Z H x y v u Q I rx ry h;obtain⟨i,j,rfl,rfl,q⟩:=h;obtain⟨t,rfl⟩:=rx;obtain⟨t',rfl⟩:=ry;exact rule i j t t' s _ _ ⟨.int (g i j),H,I.tok _,⟨_,rfl⟩,q⟩
theorem xW{f:Value->Value->Sem Value}{g:Int->Int->Bool}(rule:∀(i j:Int) (t u:Tok) (s:Shared) (Q:Value->Shared->Prop) (E:Value->Shared->Prop),Q (.bool (g i j)) s->wpAny (model X.prog X.w) X.A (f (.int i t) (.int j u)) Q E s) :
  fh X f (kT λi j=>.bl (g i j)):=by
 intro pins s Z H x y v u Q I rx ry h;obtain⟨i,j,rfl,rfl,q⟩:=h;obtain⟨t,rfl⟩:=rx;obtain⟨t',rfl⟩:=ry;exact rule i j t t' s _ _ ⟨.bl (g i j),H,I,rfl,q⟩
noncomputable def CC(i j:Int):Prop:=0<j/\j<1073741824
noncomputable def ny(i j:Int):Prop:=0<=j/\j<=1000000/\i.natAbs<2 ^ 64
noncomputable def qx(i j:Int):Prop:=(-(2 ^ 64)<i/\i<2 ^ 64)\/(-(2 ^ 64)<j/\j<2 ^ 64)
theorem qx.ok{i j:Int}(h:qx i j):IntMulOk i j:=by
 rcases h with⟨h1,h2⟩|⟨h1,h2⟩
 ·exact .of_left (intBits_le_64 h1 h2)
 ·exact .of_right (intBits_le_64 h1 h2)
theorem Pc:fh X (binaryOp .Add) (kT λi j=>.int (i+j)):=rX λ_ _ _ _ _ _ _ q=>add_int q
theorem Po:fh X (binaryOp .Sub) (kT λi j=>.int (i-j)):=rX λ_ _ _ _ _ _ _ q=>sub_int q
theorem Pk:fh X (binaryOp .Mult) (rI qx λi j=>.int (i*j)):=tF λ_ _ _ _ _ _ _ hc q=>mul_int q hc.ok
theorem RX:fh X (binaryOp .FloorDiv) (rI CC λi j=>.int (i / j)):=tF λi j _ _ _ _ _ hc q=>by
 have h1:(0:Int)<j:=hc.1;have h2:j<1073741824:=hc.2;exact floordiv_int (by omega) (by rw[Int.fdiv_eq_ediv_of_nonneg i (by omega)];exact q) (.inl (PyProof.noPylong_small (by omega)))
theorem Pj:fh X (binaryOp .Mod) (rI (λ_ j=>0<j) λi j=>.int (i % j)):=tF λi j _ _ _ _ _ hc q=>by
 have h1:(0:Int)<j:=hc;exact mod_int' (by omega) (by rw[Int.fmod_eq_emod_of_nonneg i (by omega)];exact q)
theorem Pl:fh X (binaryOp .Pow) (rI ny λi j=>.int (i ^ j.toNat)):=tF λ_ _ _ _ _ _ _ hc q=>pow_int_small hc.1 hc.2.1 hc.2.2 q
theorem Pn:fh X (binaryOp .LShift) (rI ny λi j=>.int (i*2 ^ j.toNat)):=tF λ_ _ _ _ _ _ _ hc q=>lshift_int_small hc.1 hc.2.1 hc.2.2 q
theorem Pd:fh X (binaryOp .BitAnd) (kT λi j=>.int (Builtin.bitAnd i j)):=rX λ_ _ _ _ _ _ _ q=>and_int q
theorem VS:fh X (binaryOp .BitOr) (kT λi j=>.int (Builtin.bitOr i j)):=rX λ_ _ _ _ _ _ _ q=>or_int q
theorem RC:fh X (inplaceOp .Add) (kT λi j=>.int (i+j)):=rX λ_ _ _ _ _ _ _ q=>iadd_int q
theorem RD:fh X (inplaceOp .Sub) (kT λi j=>.int (i-j)):=rX λ_ _ _ _ _ _ _ q=>isub_int q
theorem Ku{f:Value->Sem Value}{g:Int->Int}(rule:∀(i:Int) (t:Tok) (s:Shared) (Q:Value->Shared->Prop) (E:Value->Shared->Prop),Q (.int (g i) s.toks) { s with toks:=s.toks+1 }->wpAny (model X.prog X.w) X.A (f (.int i t)) Q E s) :
  xX X f (rU λi=>.int (g i)):=by
 intro pins s Z H x v Q I rx h;obtain⟨i,rfl,q⟩:=h;obtain⟨t,rfl⟩:=rx;exact rule i t s _ _ ⟨.int (g i),H,I.tok _,⟨_,rfl⟩,q⟩
theorem Rb:xX X (unaryOp .USub) (rU λi=>.int (-i)):=Ku λ_ _ _ _ _ q=>neg_int q
end
noncomputable def FJ:V->V->Bool
 |.bO,.bO=>true|.bO,.int _=>true|.int _,.bO=>true|.bO,.bl _=>true|.bl _,.bO=>true|.bO,.str _=>true|.str _,.bO=>true
 |.int _,.int _=>true|.bl _,.bl _=>true|.str _,.str _=>true|.kl _,.kl _=>true
 |.int _,.str _=>true|.str _,.int _=>true|.bl _,.str _=>true|.str _,.bl _=>true
 |_,_=>false
noncomputable def KR:R2:=λx y H Q=>FJ x y=true/\Q (.bl (decide (x=y))) H
noncomputable def KQ:R2:=λx y H Q=>FJ x y=true/\Q (.bl (!decide (x=y))) H
theorem xy{i j:Int}:decide (V.int i=V.int j)=(i==j):=by
 rw[aW];simp
theorem xj{i j:Bool}:decide (V.bl i=V.bl j)=(i==j):=by
 rw[aW];simp
theorem xA{i j:Str}:decide (V.str i=V.str j)=(i==j):=by
 rw[aW];simp
theorem Iy{i j:Array UInt8}:decide (V.kl i=V.kl j)=(i.toList==j.toList):=by
 rw[aW];cases i;cases j;simp
section
variable{X:Cx}{a b c:Expr}{ta tb tc:TE}{pos:Pos}
theorem j7{pins:List (Addr×Obj)}{Z:St}{H:Hp}{s:Shared}{Q:VK}{k k':Bool}(I:Inv X pins Z H s)(q:Q (.bl k) H)(e:k=k'):EP X pins Z Q (.bool k') s:=by
 subst e;exact⟨.bl k,H,I,rfl,q⟩
theorem BW:fh X (compareOp .Eq) KR:=by
 intro pins s Z H x y v u Q I rx ry h;obtain⟨hs,q⟩:=h;cases x with
 |bO =>
  cases rx;cases y with
  |bO=>cases ry;exact PySem.EqNone.eq_none_none (j7 I q (by simp))
  |bl j=>cases ry;exact PySem.EqNone.eq_none_bool (j7 I q (by simp))
  |int j=>obtain⟨t',rfl⟩:=ry;exact PySem.EqNone.eq_none_int (j7 I q (by simp))
  |str j=>obtain⟨t',rfl⟩:=ry;exact PySem.EqNone.eq_none_str (j7 I q (by simp))
  |_=>exact absurd (show false=true from hs) Bool.false_ne_true
 |bl i =>
  cases rx;cases y with
  |bO=>cases ry;exact PySem.EqNone.eq_bool_none (j7 I q (by simp))
  |bl j=>cases ry;exact eq_bool (j7 I q xj)
  |str j=>obtain⟨t',rfl⟩:=ry;exact PySem.EqMixed.eq_bool_str (j7 I q (by simp))
  |_=>exact absurd (show false=true from hs) Bool.false_ne_true
 |int i =>
  obtain⟨t,rfl⟩:=rx;cases y with
  |bO=>cases ry;exact PySem.EqNone.eq_int_none (j7 I q (by simp))
  |int j=>obtain⟨t',rfl⟩:=ry;exact eq_int (j7 I q xy)
  |str j=>obtain⟨t',rfl⟩:=ry;exact PySem.EqMixed.eq_int_str (j7 I q (by simp))
  |_=>exact absurd (show false=true from hs) Bool.false_ne_true
 |str i =>
  obtain⟨t,rfl⟩:=rx;cases y with
  |bO=>cases ry;exact PySem.EqNone.eq_str_none (j7 I q (by simp))
  |bl j=>cases ry;exact PySem.EqMixed.eq_str_bool (j7 I q (by simp))
  |int j=>obtain⟨t',rfl⟩:=ry;exact PySem.EqMixed.eq_str_int (j7 I q (by simp))
  |str j=>obtain⟨t',rfl⟩:=ry;exact eq_str (j7 I q xA)
  |_=>exact absurd (show false=true from hs) Bool.false_ne_true
 |kl i =>
  obtain⟨t,rfl⟩:=rx;cases y with
  |kl j=>obtain⟨t',rfl⟩:=ry;exact PySem.W.eq_bytes (j7 I q Iy)
  |_=>exact absurd (show false=true from hs) Bool.false_ne_true
 |_=>cases y<;>exact absurd (show false=true from hs) dk
theorem BX:fh X (compareOp .NotEq) KQ:=by
 intro pins s Z H x y v u Q I rx ry h;obtain⟨hs,q⟩:=h;cases x with
 |bO =>
  cases rx;cases y with
  |bO=>cases ry;exact PySem.EqNone.ne_none_none (j7 I q (by simp))
  |bl j=>cases ry;exact PySem.EqNone.ne_none_bool (j7 I q (by simp))
  |int j=>obtain⟨t',rfl⟩:=ry;exact PySem.EqNone.ne_none_int (j7 I q (by simp))
  |str j=>obtain⟨t',rfl⟩:=ry;exact PySem.EqNone.ne_none_str (j7 I q (by simp))
  |_=>exact absurd (show false=true from hs) Bool.false_ne_true
 |bl i =>
  cases rx;cases y with
  |bO=>cases ry;exact PySem.EqNone.ne_bool_none (j7 I q (by simp))
  |bl j=>cases ry;exact ne_bool (j7 I q (congrArg not xj))
  |str j=>obtain⟨t',rfl⟩:=ry;exact PySem.EqMixed.ne_bool_str (j7 I q (by simp))
  |_=>exact absurd (show false=true from hs) Bool.false_ne_true
 |int i =>
  obtain⟨t,rfl⟩:=rx;cases y with
  |bO=>cases ry;exact PySem.EqNone.ne_int_none (j7 I q (by simp))
  |int j=>obtain⟨t',rfl⟩:=ry;exact ne_int (j7 I q (congrArg not xy))
  |str j=>obtain⟨t',rfl⟩:=ry;exact PySem.EqMixed.ne_int_str (j7 I q (by simp))
  |_=>exact absurd (show false=true from hs) Bool.false_ne_true
 |str i =>
  obtain⟨t,rfl⟩:=rx;cases y with
  |bO=>cases ry;exact PySem.EqNone.ne_str_none (j7 I q (by simp))
  |bl j=>cases ry;exact PySem.EqMixed.ne_str_bool (j7 I q (by simp))
  |int j=>obtain⟨t',rfl⟩:=ry;exact PySem.EqMixed.ne_str_int (j7 I q (by simp))
  |str j=>obtain⟨t',rfl⟩:=ry;exact ne_str (j7 I q (congrArg not xA))
  |_=>exact absurd (show false=true from hs) Bool.false_ne_true
 |kl i =>
  obtain⟨t,rfl⟩:=rx;cases y with
  |kl j=>obtain⟨t',rfl⟩:=ry;exact PySem.W.ne_bytes (j7 I q (congrArg not Iy))
  |_=>exact absurd (show false=true from hs) Bool.false_ne_true
 |_=>cases y<;>exact absurd (show false=true from hs) dk
theorem VR:fh X (compareOp .Lt) (kT λi j=>.bl (decide (i<j))):=xW λ_ _ _ _ _ _ _ q=>lt_int q
theorem VQ:fh X (compareOp .LtE) (kT λi j=>.bl (decide (i<=j))):=xW λ_ _ _ _ _ _ _ q=>le_int q
theorem VP:fh X (compareOp .Gt) (kT λi j=>.bl (decide (j<i))):=xW λ_ _ _ _ _ _ _ q=>gt_int q
theorem VO:fh X (compareOp .GtE) (kT λi j=>.bl (decide (j<=i))):=xW λ_ _ _ _ _ _ _ q=>ge_int q
theorem Ph:fh X (compareOp .Is) (λx y H Q=>y=.bO/\Q (.bl (decide (x=.bO))) H):=by
 intro pins s Z H x y v u Q I rx ry h;obtain⟨rfl,q⟩:=h;cases ry;refine is_none_gen (j7 I q ?_);cases x<;>first
  |(cases rx;rfl)
  |(obtain⟨t,rfl⟩:=rx;rfl)
theorem RY:fh X (compareOp .IsNot) (λx y H Q=>y=.bO/\Q (.bl (!decide (x=.bO))) H):=by
 intro pins s Z H x y v u Q I rx ry h;obtain⟨rfl,q⟩:=h;cases ry;refine isnot_none_gen (j7 I q ?_);cases x<;>first
  |(cases rx;rfl)
  |(obtain⟨t,rfl⟩:=rx;rfl)
theorem IP{op:CmpOp}{r:R2}(ho:fh X (compareOp op) r)(ha:PE X a ta)(hb:PE X b tb)(hm:behindInMarks op b=false):PE X (.Compare a [op] [b] pos) (qT r ta tb):=by
 intro pins s Z H Q I h;exact wpAny_Compare1 (CJ ha hb I h λv u s2 x y H2 I2 rx ry q=>ho pins s2 Z H2 x y v u Q I2 rx ry q) hm
noncomputable def Ce(t:TE):TT:=λZ H Q=>t Z H λx H'=>∃k,x=.bl k/\Q k H'
theorem IU{op:CmpOp}{r:R2}(ho:fh X (compareOp op) r)(ha:PE X a ta)(hb:PE X b tb)(hm:behindInMarks op b=false):PT X (.Compare a [op] [b] pos) (Ce (qT r ta tb)):=by
 intro pins s Z H Q I h;refine wpAny_isTrue_Compare1 (cz (ha pins s Z H _ I h) λv s1 ⟨x,H1,I1,r1,q1⟩=>cz (hb pins s1 Z H1 _ I1 q1) λu s2 ⟨y,H2,I2,r2,q2⟩ =>
  cz (ho pins s2 Z H2 x y v u _ I2 r1 r2 q2) λc s3 ⟨z,H3,I3,r3,k,e,q3⟩=>?_) hm
 subst e;cases r3;exact cw ⟨H3,I3,q3⟩
noncomputable def AB(r r':R2)(ta tb tc:TE):TE:=λZ H Q=>ta Z H λx H1=>tb Z H1 λy H2=>r x y H2 λz H3=>∃k,z=.bl k /\
 (if k=true then tc Z H3 λw' H4=>r' y w' H4 Q else Q (.bl false) H3)
theorem a39{op gR:CmpOp}{r r':R2}(ho:fh X (compareOp op) r)(lT:fh X (compareOp gR) r')(ha:PE X a ta)(hb:PE X b tb)(hc:PE X c tc)(hm:lastMarks [op,gR] [b,c]=false:=by with_unfolding_all rfl):PE X (.Compare a [op,gR] [b,c] pos) (AB r r' ta tb tc):=by
 intro pins s Z H Q I h;refine Compare_chain (cz (ha pins s Z H _ I h) λv s1 ⟨x,H1,I1,r1,q1⟩=>chain_link (cz (hb pins s1 Z H1 _ I1 q1) λu s2 ⟨y,H2,I2,r2,q2⟩ =>
  cz (ho pins s2 Z H2 x y v u _ I2 r1 r2 q2) λd s3 ⟨z,H3,I3,r3,k,e,q3⟩=>?_)) hm
 subst e;cases r3;refine cw ?_;cases k with
 |false=>exact ite_ff ⟨.bl false,H3,I3,rfl,q3⟩
 |true=>exact ite_tt (chain_last (cz (hc pins s3 Z H3 _ I3 q3) λw' s4 ⟨z',H4,I4,r4,q4⟩=>lT pins s4 Z H4 y z' u w' Q I4 r2 r4 q4))
theorem a26{op gR:CmpOp}{r r':R2}(ho:fh X (compareOp op) r)(lT:fh X (compareOp gR) r')(ha:PE X a ta)(hb:PE X b tb)(hc:PE X c tc)(hm:lastMarks [op,gR] [b,c]=false:=by with_unfolding_all rfl):PT X (.Compare a [op,gR] [b,c] pos) (Ce (AB r r' ta tb tc)):=by
 intro pins s Z H Q I h;refine isTrue_chain (cz (ha pins s Z H _ I h) λv s1 ⟨x,H1,I1,r1,q1⟩=>test_link (cz (hb pins s1 Z H1 _ I1 q1) λu s2 ⟨y,H2,I2,r2,q2⟩ =>
  cz (ho pins s2 Z H2 x y v u _ I2 r1 r2 q2) λd s3 ⟨z,H3,I3,r3,k,e,q3⟩=>?_)) hm
 subst e;cases r3;refine cw ?_;cases k with
 |false =>
  obtain⟨k',e',q'⟩:=q3;cases e';exact ite_ff ⟨H3,I3,q'⟩
 |true =>
  refine ite_tt (test_last (cz (hc pins s3 Z H3 _ I3 q3) λw' s4 ⟨z',H4,I4,r4,q4⟩=>cz (lT pins s4 Z H4 y z' u w' _ I4 r2 r4 q4) λd' s5 lQ=>?_));obtain⟨z2,H5,I5,r5,k2,e2,q5⟩:=lQ;subst e2;cases r5;exact cw ⟨H5,I5,q5⟩
noncomputable def CH(K:PySem.W.Frag)(x:V)(H:Hp)(k:Bool):Prop :=
 match x with
 |.bO=>k=false
 |.bl b=>k=b
 |.int i=>k=(i != 0)
 |.str y=>y.length<=sizeLine/\k=((y.length:Int) != 0)
 |.kl y=>y.size<=sizeLine/\k=((y.size:Int) != 0)
 |.ref p=>(∃xs,fo K H p xs/\k=!xs.isEmpty)\/(∃xs,gS K H p xs/\k=!xs.isEmpty)\/∃kvs,H p=some (.dK kvs)/\k=!kvs.isEmpty
 |_=>False
theorem Yy{κ:Type}{kvs:List (κ×V)}{vs:List (κ×Value)}(r:KV kvs vs):(!vs.isEmpty)=!kvs.isEmpty:=by
 cases r<;>rfl
theorem Hi{xs:List V}{aR:List Value}(r:Vals xs aR):(!aR.toArray.isEmpty)=!xs.isEmpty:=by
 cases r<;>simp
theorem S0:(sizeLine:Nat)<2 ^ 63:=by rw[jK];decide
theorem QZ:To X (λx H Q=>∃k,CH X.K x H k/\Q k H):=by
 intro pins s Z H x v Q I rx h;obtain⟨k,e,q⟩:=h;have hl:=S0;have hs:sizeLine=16777216:=jK;cases x with
 |bO =>
  cases rx;have e':k=false:=e;subst e';exact truthy_none ⟨H,I,q⟩
 |bl b =>
  cases rx;have e':k=b:=e;subst e';exact cw ⟨H,I,q⟩
 |int i =>
  obtain⟨t,rfl⟩:=rx;have e':k=(i != 0):=e;subst e';exact PySem.P.truthy_int ⟨H,I,q⟩
 |str y =>
  obtain⟨t,rfl⟩:=rx;obtain⟨hy,e'⟩:y.length<=sizeLine/\k=((y.length:Int) != 0):=e;subst e';exact PySem.P.truthy_str (by omega) ⟨H,I.tok _,q⟩
 |kl y =>
  obtain⟨t,rfl⟩:=rx;obtain⟨hy,e'⟩:y.size<=sizeLine/\k=((y.size:Int) != 0):=e;subst e';exact PySem.W.truthy_bytes (by omega) ⟨H,I.tok _,q⟩
 |ref p =>
  cases rx;have e':(∃xs,fo X.K H p xs/\k=!xs.isEmpty)\/(∃xs,gS X.K H p xs/\k=!xs.isEmpty)\/∃kvs,H p=some (.dK kvs)/\k=!kvs.isEmpty:=e;rcases e' with⟨xs,hx,e'⟩|⟨xs,hx,e'⟩|⟨kvs,hx,e'⟩
  ·subst e';obtain⟨aR,r,pl,hz⟩:=I.list hx;have hlen:=r.length;exact wpAny_truthy_list pl.isList (by simp only[List.size_toArray];omega) ⟨H,I.tok _,by rw[Hi r];exact q⟩
  ·subst e';obtain⟨aR,r,pl,hz⟩:=I.tuple hx;have hlen:=r.length;exact truthy_tuple pl (by simp only[List.size_toArray];omega) ⟨H,I.tok _,by rw[Hi r];exact q⟩
  ·subst e';obtain⟨hz,hS,vs,r,m⟩:kvs.length<=sizeLine/\(p==sysModules)=false/\∃vs,KV kvs vs/\s.heap.DictOf (p6 X.prog X.w) p vs:=I.bG p _ hx;have hlen:kvs.length=vs.length:=kP r;exact wpAny_truthy_dict hS m (by omega) ⟨H,I.tok _,by rw[Yy r];exact q⟩
 |_=>exact(show False from e).elim
theorem a25(ha:PE X a ta)(he:∀whole,isTrue a X.env whole=(do let v <- whole;standAt a.pos;holding [v] (truthy v))) :
  PT X a (λZ H Q=>ta Z H λx H'=>∃k,CH X.K x H' k/\Q k H'):=by
 intro pins s Z H Q I h;exact isTrue_plain (cz (ha pins s Z H _ I h) λv s1 ⟨x,H1,I1,r1,q1⟩=>QZ pins s1 Z H1 x v Q I1 r1 q1) (he _)
theorem YK:fh X (binaryOp .Add) (λx y H Q=>∃i j,x=.str i/\y=.str j/\i.length+j.length<=sizeLine/\Q (.str (i++j)) H):=by
 intro pins s Z H x y v u Q I rx ry h;obtain⟨i,j,rfl,rfl,hz,q⟩:=h;obtain⟨t,rfl⟩:=rx;obtain⟨t',rfl⟩:=ry;exact add_str (λt' tk=>⟨.str (i++j),H,I.tok _,⟨_,rfl⟩,q⟩) hz
theorem vals1{x:V}{us:List Value}(r:Vals [x] us):∃u,us=[u]/\RelV x u:=by
 cases r with
 |cons r1 r2=>cases r2;exact⟨_,rfl,r1⟩
theorem vals2{x y:V}{us:List Value}(r:Vals [x,y] us):∃u w',us=[u,w']/\RelV x u/\RelV y w':=by
 cases r with
 |cons r1 r2 =>
  cases r2 with
  |cons r3 r4=>cases r4;exact⟨_,_,rfl,r1,r3⟩
theorem Xh(hc:X.calm=true):m9 X (.builtin "max") (λxs H Q=>∃i j,xs=[.int i,.int j]/\Q (.int (if j>i then j else i)) H):=by
 intro pins s Z H xs us Q I r h;obtain⟨i,j,rfl,q⟩:=h;obtain⟨u,w',rfl,⟨t,rfl⟩,⟨t',rfl⟩⟩:=vals2 r;refine max_two_ints (I.ok.hd hc) λh' tk k=>⟨_,H,I.kept k,?_,q⟩
 by_cases hj:j>i
 ·rw[aH hj,aH hj];exact⟨_,rfl⟩
 ·rw[aB hj,aB hj];exact⟨_,rfl⟩
theorem Xj(hc:X.calm=true):m9 X (.builtin "min") (λxs H Q=>∃i j,xs=[.int i,.int j]/\Q (.int (if j<i then j else i)) H):=by
 intro pins s Z H xs us Q I r h;obtain⟨i,j,rfl,q⟩:=h;obtain⟨u,w',rfl,⟨t,rfl⟩,⟨t',rfl⟩⟩:=vals2 r;refine min_two_ints (I.ok.hd hc) λh' tk k=>⟨_,H,I.kept k,?_,q⟩
 by_cases hj:j<i
 ·rw[aH hj,aH hj];exact⟨_,rfl⟩
 ·rw[aB hj,aB hj];exact⟨_,rfl⟩
theorem Gz:m9 X (.type "int") (λxs H Q=>(∃i,xs=[.int i]/\Q (.int i) H)\/∃k,xs=[.bl k]/\Q (.int (if k then 1 else 0)) H):=by
 intro pins s Z H xs us Q I r h;rcases h with⟨i,rfl,q⟩|⟨k,rfl,q⟩
 ·obtain⟨u,rfl,t,rfl⟩:=vals1 r;exact call_int_int ⟨.int i,H,I,⟨_,rfl⟩,q⟩
 ·obtain⟨u,rfl,r1⟩:=vals1 r;cases r1;exact call_int_bool ⟨.int (if k then 1 else 0),H,I.tok _,⟨_,rfl⟩,q⟩
end
end L2
namespace L2
open PySem PySem.Spec PyProof.Rows
structure rS(h:Heap)(x dx C:Addr)(mA:Str->Option Value):Prop where
 obj:h.get? x=some (PySem.W.instObj C dx)
 ns:h.Ns1 dx mA
 ne:dx≠x
theorem GI{h:Heap}{dx:Addr}{mA:Str->Option Value}(n:h.Ns1 dx mA):∃od,h.get? dx=some od/\∀name,PySem.W.lookIn name od=some (mA name):=by
 obtain⟨o,es,ep,ho,hd,hk,_,hm⟩:=n;refine⟨o,ho,λname=>?_⟩;have e:=hm name;unfold nsFind findBy at e;rw[<- Array.find?_toList] at e;unfold PySem.W.lookIn;rw[hd];dsimp only;split
 ·rename_i y q;rw[q] at e;exact gH some e
 ·rename_i q;rw[q] at e;have a:es.toList.any (·.refKey)=false:=by
   rw[List.any_eq_false];intro y hy;obtain⟨z,t,jz⟩:=hk y (Array.mem_toList_iff.mp hy);simp[DictEntry.refKey,jz]
  have a':¬es.toList.any (·.refKey)=true:=by rw[a];exact dk
  rw[aB a'];exact gH some e
theorem rS.look{h:Heap}{x dx C:Addr}{mA:Str->Option Value}(I:rS h x dx C mA):∃od,PySem.W.InstAt h x (PySem.W.instObj C dx) C (some od)/\∀name,PySem.W.lookIn name od=some (mA name) :=
 let ⟨od,ho,hl⟩:=GI I.ns
 ⟨od,⟨I.obj,rfl,rfl,ho⟩,hl⟩
section
variable{prog:Program}{w:World}{A:Around}{E:Value->Shared->Prop}{s:Shared}{K:PySem.W.Frag}{x dx C f:Addr}{mA:Str->Option Value}{name:Str}{v:Value}
theorem get_map{expr:Bool}{Q:Value->Shared->Prop}(X:K.In s.heap)(I:rS s.heap x dx C mA)(hg:PySem.W.plainGet K C name=true)(hh:PySem.W.hasDictIn K C=true)(ha:PySem.W.findIn K (.ref C) name=some none)(hv:mA name=some v)(yZ:PySem.W.handedIn v=true)(h:Q v { s with toks:=s.toks+1 }) :
  wpAny (model prog w) A (getAttr (.ref x) name expr) Q E s:=by
 obtain⟨od,J,hl⟩:=I.look;exact PySem.W.get_value X J (PySem.W.plainGet_of hg).1 (PySem.W.findObj_own hh ha rfl (by rw[hl,hv])) yZ h
theorem SN{ns:List Str}{Q:Unit->Shared->Prop}(X:K.In s.heap)(I:rS s.heap x dx C mA)(hs:PySem.W.findIn K (.ref C) "__setattr__"=some (some (.builtin "object.__setattr__")))(hp:PySem.W.plainOver K C=true)(ht:PySem.W.takerIn K C name=some none)(hh:PySem.W.hasDictIn K C=true)(hw:PySem.Within mA ns)(hsz:ns.length<=sizeLine)(h:∀h',rS h' x dx C (λy=>if y=name then some v else mA y)->Heap.SameBut dx s.heap h'->Q () { s with heap:=h',toks:=s.toks+2 }) :
  wpAny (model prog w) A (setAttr (.ref x) name v) Q E s:=by
 obtain⟨od,J,hl⟩:=I.look;refine PySem.W.set_plain X J hs (PySem.W.osa_open (s:={ s with toks:=s.toks+1 }) (r:=none) X J hp ht λb=>?_);obtain⟨cd,hc,zB⟩:=PySem.W.any_some hh;have hx:s.heap.get? x=some ⟨.ref C,some dx,.plain,#[]⟩:=I.obj;refine aa (ao (aa (aa (wpAny_loadPart hx (aa (PySem.W.Looks.here (s:={ s with toks:=s.toks+1 }) (PySem.W.looks_clsIn X hc) ?_))))));rw[zB];refine ao (a:=some dx) (aa (ao (aa ?_)));refine wpAny_nsSet1 (s:={ s with toks:=s.toks+1 }) I.ns λh' oi iH=>?_;obtain⟨oD,esD,epD,LV,Mw,My⟩:=oi.count (PySem.Within.cons name v hw);refine aa (wpAny_lookBehind LV (by rw[Mw];exact pastItsLine_dict (aD My (by rw[cK];omega))) ?_);exact ao (h _ ⟨(iH.2 _ (bD I.ne)).trans I.obj,oi,I.ne⟩ iH)
theorem a49{R:Result->Shared->Prop}{vs:List Value}{kw:List (Str×Value)}(X:K.In s.heap)(hm:PySem.W.makesIn K C=true)(hi:PySem.W.findIn K (.ref C) "__init__"=some (some (.ref f)))(hf:PySem.W.typeIn K (.ref f)=some (.type "function"))(h:codeAny (model prog w) (A.under (.builtin "type.__call__" ⟨.ref C :: vs,kw⟩)) (.call (.ref f) ⟨.ref (s.heap.objs.size + 1) :: vs,kw⟩) (PySem.W.InitBack (s.heap.objs.size + 1) R)
   { s with heap:=(s.heap.push PySem.W.emptyDict).push (PySem.W.instObj C s.heap.objs.size) }) :
  codeAny (model prog w) A (.call (.ref C) ⟨vs,kw⟩) R s:=by
 obtain⟨hh,g,d,t,os⟩:=s;exact PySem.W.make_core (PySem.W.makes_of X hm) (PySem.W.looks_findIn X hi) (λself=>PySem.W.bind_fn X self hf) (.inl rfl) h
end
noncomputable def A4(f:Str)(v:V):List (Str×V)->List (Str×V)
 |[]=>[(f,v)]
 |(g,x)::r=>if g=f then(g,v)::r else(g,x)::A4 f v r
theorem Hz(f g:Str)(v:V):∀fs:List (Str×V),(A4 f v fs).lookup g=if g=f then some v else fs.lookup g
 |[]=>by
  show List.lookup g [(f,v)]=_;by_cases h:g=f
  ·have hb:(g==f)=true:=fb.mpr h;simp only[List.lookup,hb,if_pos h]
  ·have hb:(g==f)=false:=cZ.mpr h;simp only[List.lookup,hb,if_neg h]
 |(k,x)::r=>by
  have ih:=Hz f g v r;rw[show A4 f v ((k,x)::r)=(if k=f then(k,v)::r else(k,x)::A4 f v r) from rfl];by_cases hk:k=f
  ·rw[aH hk];by_cases h:g=k
   ·have hb:(g==k)=true:=fb.mpr h;simp only[List.lookup,hb,if_pos (h.trans hk)]
   ·have hb:(g==k)=false:=cZ.mpr h;simp only[List.lookup,hb,if_neg (λe:g=f=>h (e.trans hk.symm))]
  ·rw[aB hk];by_cases h:g=k
   ·have hb:(g==k)=true:=fb.mpr h;simp only[List.lookup,hb,if_neg (λe:g=f=>hk (h.symm.trans e))]
   ·have hb:(g==k)=false:=cZ.mpr h;simp only[List.lookup,hb];exact ih
theorem Bx(f:Str)(v:V):∀fs:List (Str×V),f∈(A4 f v fs).map (·.1)/\∀g,g∈fs.map (·.1)->g∈(A4 f v fs).map (·.1)
 |[]=>⟨by simp[A4],λg h=>by simp at h⟩
 |(k,x)::r=>by
  obtain⟨i1,i2⟩:=Bx f v r;rw[show A4 f v ((k,x)::r)=(if k=f then(k,v)::r else(k,x)::A4 f v r) from rfl];by_cases hk:k=f
  ·rw[aH hk];subst hk;exact⟨by simp,λg h=>by simpa using h⟩
  ·rw[aB hk];refine⟨?_,λg h=>?_⟩
   ·rw[aY];exact bI _ i1
   ·rw[aY] at h ⊢;rcases aE.mp h with e|e
    ·exact aE.mpr (.inl e)
    ·exact bI _ (i2 g e)
theorem Hy(f:Str)(v:V):∀fs:List (Str×V),(A4 f v fs).length<=fs.length+1
 |[]=>by simp[A4]
 |(k,x)::r=>by
  have ih:=Hy f v r;rw[show A4 f v ((k,x)::r)=(if k=f then(k,v)::r else(k,x)::A4 f v r) from rfl];by_cases hk:k=f
  ·rw[aH hk,cK,cK];omega
  ·rw[aB hk,cK,cK];omega
theorem E9.some_of{v:V}{o:Option Value}(r:E9 (some v) o):∃u,o=some u/\RelV v u:=by
 cases o with
 |none=>exact(show False from r).elim
 |some u=>exact⟨u,rfl,r⟩
theorem Xu{v:V}{u:Value}(r:RelV v u):PySem.W.handedIn u=true:=by
 cases v with
 |bO=>cases (show u=Value.none from r);rfl
 |bl b=>cases (show u=Value.bool b from r);rfl
 |int i=>obtain⟨t,e⟩:=(show ∃t,u=Value.int i t from r);cases e;rfl
 |str x=>obtain⟨t,e⟩:=(show ∃t,u=Value.str x t from r);cases e;rfl
 |kl b=>obtain⟨t,e⟩:=(show ∃t,u=Value.bytes b t from r);cases e;rfl
 |qp b=>obtain⟨t,e⟩:=(show ∃t,u=Value.float b t from r);cases e;rfl
 |ref a=>cases (show u=Value.ref a from r);rfl
 |ty n=>cases (show u=Value.type n from r);rfl
section
variable{P:Program}{w:World}{H H':Hp}{h h':Heap}{a C dx:Addr}{fs qm:List (Str×V)}
theorem AY(bG:fK P w H h)(e:H a=some (.ins C dx fs)):∃mA,rS h a dx C mA/\(∀f,E9 (fs.lookup f) (mA f))/\PySem.Within mA (fs.map (·.1))/\fs.length<=1000/\H dx=some (.own a):=by
 obtain⟨d,z,ne,ob,mA,n,r,q⟩:=(show m8 P w H h a (.ins C dx fs) from bG a _ e)
 exact⟨mA,⟨ob,n,ne⟩,r,q,z,d⟩
end
structure jl(K:PySem.W.Frag)(C:Addr):Prop where
 pg:PySem.W.plainGet K C Str.empty=true
 hd:PySem.W.hasDictIn K C=true
 po:PySem.W.plainOver K C=true
 sa:PySem.W.findIn K (.ref C) "__setattr__"=some (some (.builtin "object.__setattr__"))
theorem jl.get{K:PySem.W.Frag}{C:Addr}(c:jl K C)(f:Str):PySem.W.plainGet K C f=true:=c.pg
noncomputable def B6(K:PySem.W.Frag)(C:Addr)(f:Str):Prop:=PySem.W.findIn K (.ref C) f=some none
theorem B6.Oe{K:PySem.W.Frag}{C:Addr}{f:Str}(n:B6 K C f):PySem.W.takerIn K C f=some none:=by
 unfold PySem.W.takerIn;rw[show PySem.W.findIn K (.ref C) f=some none from n]
 rfl
structure Meth(K:PySem.W.Frag)(C:Addr)(m:Str)(f:Addr):Prop where
 at_:PySem.W.findIn K (.ref C) m=some (some (.ref f))
 fn:PySem.W.isFn K (.ref f)=true
 kp:PySem.W.keepIn K (.ref f)=true
section
variable{X:Cx}{pins:List (Addr×Obj)}{Z:St}{H:Hp}{s:Shared}{a C dx:Addr}{fs:List (Str×V)}{f:Str}{v:V}{A:Around}{E:Value->Shared->Prop}
theorem Yx{b:Bool}{Q:Value->Shared->Prop}(I:Inv X pins Z H s)(e:H a=some (.ins C dx fs))(c:jl X.K C)(n:B6 X.K C f)(l:fs.lookup f=some v)(h:∀u s',Inv X pins Z H s'->RelV v u->Q u s'):wpAny (model X.prog X.w) A (getAttr (.ref a) f b) Q E s:=by
 obtain⟨mA,O,r,_,_,_⟩:=AY I.bG e;obtain⟨u,hu,ru⟩:=E9.some_of (v:=v) (o:=mA f) (by rw[<- l];exact r f);exact get_map I.gp O (c.get f) c.hd n hu (Xu ru) (h u _ (I.tok _) ru)
theorem YS{y:V}{u:Value}{Q:Unit->Shared->Prop}(I:Inv X pins Z H s)(e:H a=some (.ins C dx fs))(c:jl X.K C)(n:B6 X.K C f)(hl:fs.length<1000)(ry:RelV y u)(h:∀s',Inv X pins Z (upd H a (.ins C dx (A4 f y fs))) s'->Q () s'):wpAny (model X.prog X.w) A (setAttr (.ref a) f u) Q E s:=by
 obtain⟨mA,O,r,wi,_,ho⟩:=AY I.bG e;have hz:(fs.map (·.1)).length<=sizeLine:=by rw[ah,jK];omega
 refine SN I.gp O c.sa c.po n.Oe c.hd wi hz λh' O' sb=>h _ ?_;have hd:∃o,h'.get? dx=some o:=let ⟨o,_,_,e',_⟩:=O'.ns;⟨o,e'⟩
 refine I.write (x:=a) (e:=dx) (by rw[e];exact True.intro) (.inr ho) (λb q hb z=>(sb.2 b hb).trans z) hd ?_;refine⟨by rw[i3 O.ne];exact ho,?_,O.ne,O'.obj,_,O'.ns,λg=>?_,λg hg=>?_⟩
 ·have:=Hy f y fs;omega
 ·show E9 ((A4 f y fs).lookup g) (if g=f then some u else mA g);rw[Hz];by_cases q:g=f
  ·rw[aH q,aH q];exact ry
  ·rw[aB q,aB q];exact r g
 ·by_cases q:g=f
  ·rw[q];exact(Bx f y fs).1
  ·refine(Bx f y fs).2 g (wi g λz=>hg ?_);show(if g=f then some u else mA g)=none;rw[aB q];exact z
theorem Inv.made(I:Inv X pins Z H s):Inv X pins Z (upd (upd H s.heap.objs.size (.own (s.heap.objs.size+1))) (s.heap.objs.size+1) (.ins C s.heap.objs.size []))
  { s with heap:=(s.heap.push PySem.W.emptyDict).push (PySem.W.instObj C s.heap.objs.size) }:=by
 have e1:(s.heap.push PySem.W.emptyDict).get? s.heap.objs.size=some PySem.W.emptyDict:=aC s.heap rfl;have e2:((s.heap.push PySem.W.emptyDict).push (PySem.W.instObj C s.heap.objs.size)).get? (s.heap.objs.size+1)=some (PySem.W.instObj C s.heap.objs.size):=by
  have:=aC (s.heap.push PySem.W.emptyDict) (o:=PySem.W.instObj C s.heap.objs.size) rfl
  rwa [dU] at this
 have e3:(s.heap.push PySem.W.emptyDict).Ns s.heap.objs.size (λ_=>none):=⟨PySem.W.emptyDict,#[],_,e1,rfl,(λe he=>absurd he (by simp)),λ_=>rfl⟩
 have I1:=I.laid (a:=s.heap.objs.size) (o:=.own (s.heap.objs.size+1)) (h':=s.heap.push PySem.W.emptyDict) (t':=s.toks) (λb u q=>au _ q) (av _) ⟨_,e1⟩;refine I1.laid (a:=s.heap.objs.size+1) (o:=.ins C s.heap.objs.size []) (t':=s.toks) (λb u q=>au _ q) (sI (dU _ _)) ?_;have ne:s.heap.objs.size≠s.heap.objs.size+1:=aN (fc _);refine⟨by rw[i3 ne,t8],cE _,ne,e2,λ_=>none,(Heap.Ns1.of_empty e3).at λo q=>au _ q,λ_=>True.intro,λy hy=>absurd rfl hy⟩
theorem Rp{prog:Program}{w:World}{env:Env}{e:Expr}{f:Str}{pos:Pos}{s:Shared}{Q:Value->Shared->Prop}(hb:attributeBase e f env (eval e env)=eval e env)(h:wpAny (model prog w) A (eval e env) (λo bQ=>wpAny (model prog w) A (getAttr o f true) Q E bQ) E s):wpAny (model prog w) A (eval (.Attribute e f pos) env) Q E s :=
 Attribute_any_ h (by rw[arm_eval_Attribute,hb])
end
noncomputable def UK(K:PySem.W.Frag)(ta:TE)(f:Str):TE:=λZ H Q=>ta Z H λx H1=>∃a C dx fs v,x=.ref a/\H1 a=some (.ins C dx fs)/\jl K C/\B6 K C f/\fs.lookup f=some v/\Q v H1
noncomputable def Uz(K:PySem.W.Frag)(ta tv:TE)(f:Str):TS:=λD Z H=>tv Z H λy H1=>ta Z H1 λx H2=>∃a C dx fs,x=.ref a/\H2 a=some (.ins C dx fs)/\jl K C/\B6 K C f/\fs.length<1000 /\
 D.nx Z (upd H2 a (.ins C dx (A4 f y fs)))
noncomputable def Fw(X:Cx)(op:Operator)(rd:V->V->Hp->VK->Prop):Prop :=
 ∀(pins:List (Addr×Obj)) (s:Shared) (Z:St) (H:Hp) (x y:V) (u v:Value) (Q:VK),Inv X pins Z H s->RelV x u->RelV y v->rd x y H Q->wpAny (model X.prog X.w) X.A (inplaceOp op u v) (EP X pins Z Q) X.xe s
section
variable{X:Cx}{o e value:Expr}{f:Str}{pos pos' yt:Pos}{ta tv:TE}
theorem Px(he:PE X e ta)(hb:attributeBase e f X.env (eval e X.env)=eval e X.env):PE X (.Attribute e f pos) (UK X.K ta f):=by
 intro pins s Z H Q I h;refine Rp hb (cz (he pins s Z H _ I h) λu s1 lQ=>?_);obtain⟨x,H1,I1,rx,a,C,dx,fs,v,ex,ea,c,n,l,q⟩:=lQ;subst ex;obtain rfl:u=Value.ref a:=rx;exact Yx I1 ea c n l λu' s2 I2 ru=>⟨v,H1,I2,ru,q⟩
theorem P'(ha:PE X o ta)(hv:PE X value tv)(hs:swapsWith value (some (.Attribute o f pos')) pos.line X.env=pure false):PS X (.Assign [.Attribute o f pos'] value pos) (Uz X.K ta tv f):=by
 intro pins s Z H D I h;refine plainObj_wpAny_Assign_Attribute (cz (hv pins s Z H _ I h) λu s1 ⟨y,H1,I1,ry,q⟩=>cz (ha pins s1 Z H1 _ I1 q) λov s2 lQ=>?_) hs;obtain⟨x,H2,I2,rx,a,C,dx,fs,ex,ea,c,n,l,q2⟩:=lQ;subst ex;obtain rfl:ov=Value.ref a:=rx;exact YS I2 ea c n l ry λs3 I3=>⟨Z,_,I3,q2⟩
noncomputable def Up:V->V->Hp->VK->Prop:=λx y H Q=>∃i j,x=.int i/\y=.int j/\Q (.int (i+j)) H
theorem OB:Fw X .Add Up:=by
 rintro pins s Z H x y u v Q I rx ry ⟨i,j,rfl,rfl,q⟩;obtain⟨t,rfl⟩:=(show ∃t,u=Value.int i t from rx)
 obtain⟨t',rfl⟩:=(show ∃t',v=Value.int j t' from ry)
 exact PyProof.Rows.iadd_int ⟨.int (i+j),H,I.tok _,⟨_,rfl⟩,q⟩
end
section
variable{X:Cx}{pins:List (Addr×Obj)}{Z:St}{H:Hp}{s:Shared}{A:Around}{E:Value->Shared->Prop}{Q:Value->Shared->Prop}{c:Value}{b:Bool}
inductive gB(K:PySem.W.Frag)(H:Hp):V->Value->Prop where
 |bO:gB K H .bO (.type "NoneType")
 |bl (x:Bool):gB K H (.bl x) (.type "bool")
 |int (i:Int):gB K H (.int i) (.type "int")
 |str (x:Str):gB K H (.str x) (.type "str")
 |qp (x:UInt64):gB K H (.qp x) (.type "float")
 |lst {a:Addr} {xs:List V} (e:H a=some (.lst xs)):gB K H (.ref a) (.type "list")
 |je {a:Addr} {o:Obj} {xs:List V} (e:H a=some (.je o (.lst xs))):gB K H (.ref a) (.type "list")
 |tup {a:Addr} {xs:List V} (e:H a=some (.tup xs)):gB K H (.ref a) (.type "tuple")
 |dK {a:Addr} {kvs:List (Key×V)} (e:H a=some (.dK kvs)):gB K H (.ref a) (.type "dict")
 |dT {a:Addr} {kvs:List (List Key×V)} (e:H a=some (.dT kvs)):gB K H (.ref a) (.type "dict")
 |ins {a C dx:Addr} {fs:List (Str×V)} (e:H a=some (.ins C dx fs)) (cl:jl K C) (ha:PySem.W.findIn K (.ref C) "__class__"=some (some (.builtin "object.__class__")))
   (hn:PySem.W.specialIn K (.builtin "object.__class__") "__get__"=some (some (.builtin "getset_descriptor.__get__"))) (wm:PySem.W.takesIn K (.builtin "object.__class__")=some true)
   (hm:PySem.W.mroIn K C (.type "object")=some true):gB K H (.ref a) (.ref C)
theorem Xx{x:V}{u t:Value}(I:Inv X pins Z H s)(rx:RelV x u)(ty:gB X.K H x t)(e:PySem.W.kitOne X.K t c=some b)(h:∀tk,Q (.bool b) { s with toks:=tk }) :
  wpAny (model X.prog X.w) A (call (.builtin "isinstance") [u,c]) Q E s:=by
 cases ty with
 |bO=>cases (show u=Value.none from rx);exact bL PySem.W.kitx_none I.gp True.intro e (λz=>nomatch z) h
 |bl y=>cases (show u=Value.bool y from rx);exact bL PySem.W.kitx_bool I.gp True.intro e (λz=>nomatch z) h
 |int i=>obtain⟨t,q⟩:=(show ∃t,u=Value.int i t from rx);cases q;exact bL PySem.W.kitx_int I.gp True.intro e (λz=>nomatch z) h
 |str y=>obtain⟨t,q⟩:=(show ∃t,u=Value.str y t from rx);cases q;exact bL PySem.W.kitx_str I.gp True.intro e (λz=>nomatch z) h
 |qp y=>obtain⟨t,q⟩:=(show ∃t,u=Value.float y t from rx);cases q;exact bL PySem.W.kitx_float I.gp True.intro e (λz=>nomatch z) h
 |@lst a xs ea =>
  cases (show u=Value.ref a from rx);obtain⟨_,_,n,_,h1⟩:=(show m8 X.prog X.w H s.heap a (.lst xs) from I.bG a _ ea)
  exact bL PySem.W.kitx_list I.gp ⟨_,h1,rfl⟩ e (λz=>nomatch z) h
 |@je a ob xs ea =>
  cases (show u=Value.ref a from rx);obtain⟨_,_,_,n,_,h1⟩:=(show m8 X.prog X.w H s.heap a (.je ob (.lst xs)) from I.bG a _ ea)
  exact bL PySem.W.kitx_list I.gp ⟨_,h1,rfl⟩ e (λz=>nomatch z) h
 |@tup a xs ea =>
  cases (show u=Value.ref a from rx);obtain⟨_,_,_,p⟩:=(show m8 X.prog X.w H s.heap a (.tup xs) from I.bG a _ ea)
  obtain⟨o,h1,h2,_⟩:=p;exact bL Kb I.gp ⟨o,h1,h2⟩ e (λz=>nomatch z) h
 |@dK a kvs ea =>
  cases (show u=Value.ref a from rx);obtain⟨_,_,vs,_,p⟩:=(show m8 X.prog X.w H s.heap a (.dK kvs) from I.bG a _ ea)
  obtain⟨o,es,ep,h1,h2,_⟩:=p;exact bL PySem.W.kitx_dict I.gp ⟨o,h1,h2.1⟩ e (λz=>nomatch z) h
 |@dT a kvs ea =>
  cases (show u=Value.ref a from rx);obtain⟨_,_,xs,_,o,es,ep,h1,h2,_⟩:=(show m8 X.prog X.w H s.heap a (.dT kvs) from I.bG a _ ea)
  exact bL PySem.W.kitx_dict I.gp ⟨o,h1,h2.1⟩ e (λz=>nomatch z) h
 |@ins a C dx fs ea cl ha hn wm hm =>
  cases (show u=Value.ref a from rx);obtain⟨mA,O,_⟩:=AY I.bG ea;obtain⟨od,J,_⟩:=O.look;exact bL (PySem.W.kitx_own (cl.get _) cl.hd ha hn wm hm) I.gp J e (λz=>nomatch z) h
end
end L2
namespace L2
open PySem PySem.Spec PyProof.Rows
structure v9(k:Nat)(A:Around):Prop where
 hd:A.handled=none
 dp:A.depth+3*k+5<recursionLimit
 un:A.units+16*k+200<cLine
theorem v9.mono{j k:Nat}{A:Around}(r:v9 k A)(h:j<=k):v9 j A:=⟨r.hd,by have:=r.dp;omega,by have:=r.un;omega⟩
theorem v9.deeper{k:Nat}{A:Around}(r:v9 (k+1) A)(env:Env):v9 k (A.deeper env) :=
 ⟨r.hd,by have:=r.dp;show A.depth+1+3*k+5<_;omega,by have:=r.un;show A.units+3+16*k+200<_;omega⟩
theorem YC{A:Around}{C:Addr}{us:List Value}{kw:List (Str×Value)}:(A.under (.builtin "type.__call__" ⟨.ref C::us,kw⟩)).depth=A.depth+1:=by
 first|rfl|simp[Around.under,Code.weight,Code.isCreation,Code.isGuard,Code.isCaller,Code.frames,Code.isFrame,guardIds]
theorem YD{A:Around}{C:Addr}{us:List Value}{kw:List (Str×Value)}:(A.under (.builtin "type.__call__" ⟨.ref C::us,kw⟩)).units=A.units+1:=by
 first|rfl|simp[Around.under,Code.cUnits,Code.frames,Code.isFrame]
theorem v9.make{k:Nat}{A:Around}(r:v9 (k+1) A)(C:Addr)(us:List Value)(kw:List (Str×Value)):v9 k (A.under (.builtin "type.__call__" ⟨.ref C::us,kw⟩)) :=
 ⟨r.hd,by have:=r.dp;rw[YC];omega,by have:=r.un;rw[YD];omega⟩
theorem v9.depth{k:Nat}{A:Around}(r:v9 k A):A.depth<recursionLimit:=by have:=r.dp;omega
noncomputable def FO:TA:=λ_ H Q=>Q [] H
noncomputable def NX(ta:TE)(tr:TA):TA:=λZ H Q=>ta Z H λx H1=>tr Z H1 λxs H2=>Q (x::xs) H2
section
variable{X:Cx}{e:Expr}{es:List Expr}{te:TE}{t:TA}{pos:Pos}
theorem X0:PA X [] FO:=λ_ _ _ _ H Q I h=>Calls.spliced_nil ⟨[],H,I,.nil,h⟩
theorem P8(ha:PE X e te)(hr:PA X es t)(hs:starEach (e::es) X.env=(false,eval e X.env)::starEach es X.env:=by rfl):PA X (e::es) (NX te t):=by
 intro pos pins s Z H Q I h;rw[hs];show wpAny _ _ (spliced ((false,eval e X.env)::backTo pos (starEach es X.env))) _ _ s;refine Calls.spliced_cons (cz (ha pins s Z H _ I h) λu s1 ⟨x,H1,I1,r1,q1⟩=>?_);exact cz (hr pos pins s1 Z H1 _ I1 q1) λus s2 ⟨xs,H2,I2,r2,q2⟩=>⟨x::xs,H2,I2,.cons r1 r2,q2⟩
noncomputable def UT(t:TA):TE:=λZ H Q=>t Z H λxs H1=>xs.length<=sizeLine/\∀p,H1 p=none->Q (.ref p) (upd H1 p (.tup xs))
noncomputable def UN(t:TA):TE:=λZ H Q=>t Z H λxs H1=>xs.length<=sizeLine/\∀p,H1 p=none->Q (.ref p) (upd H1 p (.lst xs))
theorem PL{x1}(h:PA X es t):PE X (.Tuple es x1 pos) (UT t):=by
 intro pins s Z H Q I hq;refine wpAny_Tuple_spliced (cz (h pos pins s Z H _ I hq) λus s1 ⟨xs,H1,I1,r,z,q⟩=>⟨by rw[<- r.length];exact z,?_⟩);have hf:H1 s1.heap.objs.size=none:=I1.bG.fresh (av _);refine⟨.ref s1.heap.objs.size,upd H1 s1.heap.objs.size (.tup xs),I1.laid (t':=s1.toks) (λb u e=>au _ e) (av _) ?_,rfl,q _ hf⟩;exact⟨z,us,r,⟨_,aC _ rfl,rfl,⟨_,rfl⟩,rfl⟩⟩
theorem Pz(h:PA X es t):PE X (.List es pos) (UN t):=by
 intro pins s Z H Q I hq;refine wpAny_List_spliced (cz (h pos pins s Z H _ I hq) λus s1 ⟨xs,H1,I1,r,z,q⟩=>⟨by rw[<- r.length];exact z,?_⟩);have hf:H1 s1.heap.objs.size=none:=I1.bG.fresh (av _);refine⟨.ref s1.heap.objs.size,upd H1 s1.heap.objs.size (.lst xs),I1.laid (t':=s1.toks) (λb u e=>au _ e) (av _) ?_,rfl,q _ hf⟩;exact⟨z,us,0,r,aC _ rfl⟩
end
noncomputable abbrev Sp:=List V->Hp->VK->XK->Prop
noncomputable abbrev mz:=List Env->Hp->Shared->XK->Value->Shared->Prop
structure qy(P:Program)(w:World)(K:PySem.W.Frag)(mg:Str->Option Value)(base:Heap)(A:Around)(outer:List Env)(s:Shared)(H:Hp):Prop where
 frames:A.frames=some outer
 mod:Mod K mg base
 bs:∀b o,base.get? b=some o->s.heap.get? b=some o/\H b=none
 mJ:base.objs.size<=s.heap.objs.size
 K9:s.heap.FunFrames base outer
 nr:∀b∈ft outer,H b=none
 bG:fK P w H s.heap
 bare:AllBare s.gens
noncomputable def CE(outer:List Env)(P:Program)(w:World)(H:Hp)(s:Shared)(Q:VK)(u:Value)(s':Shared):Prop :=
 ∃v H',s'.os=s.os/\AllBare s'.gens/\Un (ft outer) [] H H' s.heap s'.heap/\fK P w H' s'.heap/\RelV v u/\Q v H'
noncomputable def CR(CX:mz)(outer:List Env)(P:Program)(w:World)(H:Hp)(s:Shared)(Q:VK)(E:XK)(r:Result)(s':Shared):Prop :=
 match r with
 |.ok (.ret u)=>CE outer P w H s Q u s'
 |.ok _=>False
 |.error e=>CX outer H s E e s'
structure hU(P:Program)(w:World)(K:PySem.W.Frag)(mg:Str->Option Value)(base:Heap)(CX:mz)(k:Nat)(f:Addr)(fd:FuncData)(ps:List Str)(sp:Sp):Prop where
 len:∀vs H Q E,sp vs H Q E->vs.length=ps.length
 run:∀(A:Around) (outer:List Env) (s:Shared) (H:Hp) (args:Args) (us:List Value) (vs:List V) (Q:VK) (E:XK),v9 k A->qy P w K mg base A outer s H->BindsTo s fd args (ps.zip us)->Vals vs us->sp vs H Q E ->
  codeAny (model P w) A (.call (.ref f) args) (CR CX outer P w H s Q E) s
theorem qy.make{P:Program}{w:World}{K:PySem.W.Frag}{mg:Str->Option Value}{base:Heap}{A:Around}{outer:List Env}{s:Shared}{H:Hp}(e:qy P w K mg base A outer s H)(C:Addr)(us:List Value)(kw:List (Str×Value)) :
  qy P w K mg base (A.under (.builtin "type.__call__" ⟨.ref C::us,kw⟩)) outer s H:=⟨by first|exact e.frames|(simpa[Around.under,Code.envs,Code.isFrame,pushEnvs] using e.frames),e.mod,e.bs,e.mJ,e.K9,e.nr,e.bG,e.bare⟩
section
variable{X:Cx}{pins:List (Addr×Obj)}{Z:St}{H:Hp}{s s':Shared}
theorem Inv.FC(I:Inv X pins Z H s):qy X.prog X.w X.K X.mg X.base X.A X.stack s H :=
 ⟨I.ok.frames,I.ok.mod,I.bs,aD I.ok.mJ I.sz,I.stack,I.xI,I.bG,I.bare⟩
theorem Inv.after{Q:VK}{u:Value}(I:Inv X pins Z H s)(h:CE X.stack X.prog X.w H s Q u s'):EP X pins Z Q u s':=by
 obtain⟨v,H',os,bare,un,bG,r,q⟩:=h;obtain⟨hh,g,d,t,tE⟩:=s';obtain rfl:tE=s.os:=os;exact⟨v,H',I.call (h':=hh) (g':=g) (d':=d) (t':=t) (ch:=[]) un bG bare (λb z=>absurd z (by simp)),r,q⟩
end
noncomputable def NW(sp:Sp)(jD:List V)(E:XK)(t:TA):TE:=λZ H Q=>t Z H λvs H1=>sp (vs++jD) H1 Q E
noncomputable def JK(C:Addr)(sp:Sp)(jD:List V)(E:XK)(t:TA):TE:=λZ H Q=>t Z H λvs H1=>∀x dx,H1 x=none->H1 dx=none->dx≠x ->
 sp (.ref x::(vs++jD)) (upd (upd H1 dx (.own x)) x (.ins C dx [])) (λv H2=>v=.bO/\Q (.ref x) H2) E
noncomputable def Binds(K:PySem.W.Frag)(fd:FuncData)(ps:List Str)(ds:List Value):Prop :=
 ∀(s:Shared) (us:List Value),K.In s.heap->(us++ds).length=ps.length->BindsTo s fd ⟨us,[]⟩ (ps.zip (us++ds))
theorem Binds.all{K:PySem.W.Frag}{fd:FuncData}{ps:List Str}(h:∀us:List Value,us.length=ps.length->bindArgs fd ⟨us,[]⟩=pure (ps.zip us)):Binds K fd ps []:=λs us _ hl=>by
 rw[fu] at hl ⊢;exact .of_eq (h us hl)
noncomputable def Passes(CX:mz)(X:Cx)(E:XK):Prop:=∀(pins:List (Addr×Obj)) (Z:St) (H:Hp) (s:Shared) (e:Value) (s':Shared),Inv X pins Z H s->CX X.stack H s E e s'->X.xe e s'
section
variable{X:Cx}{CX:mz}{k:Nat}{f C:Addr}{fd:FuncData}{ps:List Str}{sp:Sp}{jD:List V}{ds:List Value}{E:XK}{x m:Str}{p pos apos:Pos}{e o:Expr}{es:List Expr}{ta:TE}{t:TA}
theorem Qj{pins:List (Addr×Obj)}{Z:St}{H:Hp}{s:Shared}{Q:VK}{us:List Value}{vs:List V}(F:hU X.prog X.w X.K X.mg X.base CX k f fd ps sp)(hr:v9 k X.A)(hb:Binds X.K fd ps ds)(hd:Vals jD ds)(hx:Passes CX X E)(I:Inv X pins Z H s)(r:Vals vs us)(h:sp (vs++jD) H Q E):wpAny (model X.prog X.w) X.A (call (.ref f) us) (EP X pins Z Q) X.xe s:=by
 have r2:Vals (vs++jD) (us++ds):=r.append hd;have hl:(us++ds).length=ps.length:=by rw[<- r2.length];exact F.len _ _ _ _ h
 refine wpAny_call (gg (F.run X.A X.stack s H ⟨us,[]⟩ (us++ds) (vs++jD) Q E hr I.FC (hb s us I.gp hl) r2 h) λr s' hq=>?_);cases r with
 |error e=>exact hx pins Z H s e s' I hq
 |ok fl =>
  cases fl with
  |ret u=>exact I.after hq
  |next=>exact False.elim hq
  |brk=>exact False.elim hq
  |cont=>exact False.elim hq
theorem Sg(F:hU X.prog X.w X.K X.mg X.base CX k f fd ps sp)(hr:v9 k X.A)(hg:Gl X x)(hm:X.mg x=some (.ref f))(hk:PySem.W.keepIn X.K (.ref f)=true)(hb:Binds X.K fd ps ds)(hd:Vals jD ds)(hx:Passes CX X E)(ha:PA X (e::es) t)(ic:(x==("__debug__":Str))=false:=by decide)(he:starEach (e::es) X.env=(false,eval e X.env)::starEach es X.env:=by rfl)(gE:(backTo pos (starEach es X.env)).any (·.1)=false:=by rfl) :
  PE X (.Call (.Name x p) (e::es) [] pos) (NW sp jD E t):=by
 intro pins s Z H Q I h;refine cP (Q1 I hg hm ?_ ic);refine Kc (h₀:=X.base) I.ok.mod.mE hk (cz (ha pos pins s Z H _ I h) λus s1 ⟨vs,H1,I1,r,q⟩=>⟨I1.gp,?_⟩) he gE;exact Qj F hr hb hd hx I1 r q
structure Mk(K:PySem.W.Frag)(C f:Addr):Prop where
 makes:PySem.W.makesIn K C=true
 init:PySem.W.findIn K (.ref C) "__init__"=some (some (.ref f))
 fn:PySem.W.isFn K (.ref f)=true
 kp:PySem.W.keepIn K (.ref C)=true
theorem Gh{pins:List (Addr×Obj)}{Z:St}{H:Hp}{s:Shared}{Q:VK}{us:List Value}{vs:List V}(M:Mk X.K C f)(F:hU X.prog X.w X.K X.mg X.base CX k f fd ps sp)(hr:v9 (k+1) X.A)(hb:Binds X.K fd ps ds)(hd:Vals jD ds)(hx:Passes CX X E)(I:Inv X pins Z H s)(r:Vals vs us)(h:∀x dx,H x=none->H dx=none->dx≠x->sp (.ref x::(vs++jD)) (upd (upd H dx (.own x)) x (.ins C dx [])) (λv H2=>v=.bO/\Q (.ref x) H2) E) :
  wpAny (model X.prog X.w) X.A (call (.ref C) us) (EP X pins Z Q) X.xe s:=by
 have hq:=h (s.heap.objs.size+1) s.heap.objs.size (I.bG.fresh (fY _)) (I.bG.fresh (av _)) (aN (fc _));have I2:=Inv.made (C:=C) I;have r2:Vals (V.ref (s.heap.objs.size+1)::(vs++jD)) (Value.ref (s.heap.objs.size+1)::(us++ds)):=.cons rfl (r.append hd);have hl:(Value.ref (s.heap.objs.size+1)::us++ds).length=ps.length:=by
  have e:=r2.length;rw[F.len _ _ _ _ hq] at e;exact e.symm
 refine wpAny_call (a49 (f:=f) I.gp M.makes M.init (fb.mp M.fn) (gg (F.run _ X.stack _ _ ⟨Value.ref (s.heap.objs.size + 1) :: us,[]⟩ (Value.ref (s.heap.objs.size + 1) :: (us ++ ds)) _ _ E (hr.make C us [])
  (I2.FC.make C us []) (hb _ (Value.ref (s.heap.objs.size + 1) :: us) I2.gp hl) r2 hq) λr s' lR=>?_))
 cases r with
 |error e=>exact hx pins Z _ _ e s' I2 lR
 |ok fl =>
  cases fl with
  |ret u =>
   obtain⟨v,H',I3,rv,ev,q3⟩:=I2.after lR;subst ev;exact⟨rv,⟨V.ref (s.heap.objs.size+1),H',I3,rfl,q3⟩⟩
  |next=>exact False.elim lR
  |brk=>exact False.elim lR
  |cont=>exact False.elim lR
theorem Sk(M:Mk X.K C f)(F:hU X.prog X.w X.K X.mg X.base CX k f fd ps sp)(hr:v9 (k+1) X.A)(hg:Gl X x)(hm:X.mg x=some (.ref C))(hb:Binds X.K fd ps ds)(hd:Vals jD ds)(hx:Passes CX X E)(ha:PA X (e::es) t)(ic:(x==("__debug__":Str))=false:=by decide)(he:starEach (e::es) X.env=(false,eval e X.env)::starEach es X.env:=by rfl)(gE:(backTo pos (starEach es X.env)).any (·.1)=false:=by rfl) :
  PE X (.Call (.Name x p) (e::es) [] pos) (JK C sp jD E t):=by
 intro pins s Z H Q I h;refine cP (Q1 I hg hm ?_ ic);refine Kc (h₀:=X.base) I.ok.mod.mE M.kp (cz (ha pos pins s Z H _ I h) λus s1 ⟨vs,H1,I1,r,q⟩=>⟨I1.gp,?_⟩) he gE;exact Gh M F hr hb hd hx I1 r q
theorem a36(M:Mk X.K C f)(F:hU X.prog X.w X.K X.mg X.base CX k f fd ps sp)(hr:v9 (k+1) X.A)(hg:Gl X x)(hm:X.mg x=some (.ref C))(hb:Binds X.K fd ps ds)(hd:Vals jD ds)(hx:Passes CX X E)(ic:(x==("__debug__":Str))=false:=by decide):PE X (.Call (.Name x p) [] [] pos) (JK C sp jD E FO):=by
 intro pins s Z H Q I h;refine cP (Q1 I hg hm ?_ ic);exact PySem.W.callWith_K0 I.gp M.kp (Gh (us:=[]) M F hr hb hd hx I .nil h)
end
section
variable{X:Cx}{CX:mz}{k:Nat}{f C:Addr}{fd:FuncData}{ps ks:List Str}{sp:Sp}{E:XK}{x m:Str}{p pos apos Lp:Pos}{e o:Expr}{es:List Expr}{iQ:List Keyword}{te ta:TE}{t tk:TA}{nm:Option Str}
variable{g:List Value->List Value->List Value}{gV:List V->List V->List V}
end
structure ie(N P:List Str)(sc:Scope):Prop where
 kind:sc.kind=.function
 co:sc.isCoroutine=false
 gen:sc.isGenerator=false
 nd:N.Nodup
 pre:N.take P.length=P
 par:∀x∈P,sc.names.lookup x=some .local\/sc.names.lookup x=some .cell
 lI:∀y∈sc.names,y.2≠.free
theorem Gy{kindOf:Str->Option NameKind}{x:Str}:∀{binds:List (Str×Value)} {m:Str->Option Value},(∀v,(x,v)∉binds)->bindL kindOf binds m x=m x
 |[],_,_=>rfl
 |(n,v)::r,m,h=>by
  unfold bindL;rw[Gy λw hw=>h w (bI _ hw)];split
  ·have:x≠n:=by rintro rfl;exact h v fO
   simp[this]
  ·rfl
theorem Gw{kindOf:Str->Option NameKind}{x:Str}:∀{binds:List (Str×Value)} {m:Str->Option Value},(∀v,(x,v)∉binds)->bindC kindOf binds m x=m x
 |[],_,_=>rfl
 |(n,v)::r,m,h=>by
  unfold bindC;rw[Gw λw hw=>h w (bI _ hw)];split
  ·rfl
  ·have:x≠n:=by rintro rfl;exact h v fO
   simp[this]
theorem Gx{kindOf:Str->Option NameKind}{x:Str}{v:Value}:∀{P:List Str} {vs:List Value} {i:Nat} {m:Str->Option Value},P.Nodup->P[i]?=some x->vs[i]?=some v->kindOf x=some .local ->
  bindL kindOf (P.zip vs) m x=some v
 |[],_,_,_,_,h,_,_=>by simp at h
 |_::_,[],_,_,_,_,h,_=>by simp at h
 |p::P,w::vs,0,m,nd,h1,h2,hk=>by
  simp at h1 h2;subst h1;subst h2;show bindL kindOf ((p,w)::P.zip vs) m p=_;unfold bindL;rw[Gy λv hv=>(cG.mp nd).1 (lx hv).1,aH hk];simp
 |p::P,w::vs,i+1,m,nd,h1,h2,hk=>by
  show bindL kindOf ((p,w)::P.zip vs) m x=_;unfold bindL;exact Gx (i:=i) (cG.mp nd).2 (by simpa using h1) (by simpa using h2) hk
theorem Gv{kindOf:Str->Option NameKind}{x:Str}{v:Value}:∀{P:List Str} {vs:List Value} {i:Nat} {m:Str->Option Value},P.Nodup->P[i]?=some x->vs[i]?=some v->kindOf x≠some .local ->
  bindC kindOf (P.zip vs) m x=some v
 |[],_,_,_,_,h,_,_=>by simp at h
 |_::_,[],_,_,_,_,h,_=>by simp at h
 |p::P,w::vs,0,m,nd,h1,h2,hk=>by
  simp at h1 h2;subst h1;subst h2;show bindC kindOf ((p,w)::P.zip vs) m p=_;unfold bindC;rw[Gw λv hv=>(cG.mp nd).1 (lx hv).1,aB hk];simp
 |p::P,w::vs,i+1,m,nd,h1,h2,hk=>by
  show bindC kindOf ((p,w)::P.zip vs) m x=_;unfold bindC;exact Gv (i:=i) (cG.mp nd).2 (by simpa using h1) (by simpa using h2) hk
noncomputable def start(N:List Str)(vs:List V):St:=vs.map some++List.replicate (N.length-vs.length) none
noncomputable def nB(CX:mz)(P:Program)(w:World)(K:PySem.W.Frag)(mg:Str->Option Value)(base:Heap)(N:List Str)(qual:Str)(scope:Scope)(f:Addr)(cd:Value)(A:Around)(outer:List Env)(s:Shared)(H:Hp)(E:XK):Cx where
 prog:=P
 w:=w
 K:=K
 mg:=mg
 base:=base
 A:=A.deeper (envOfC qual scope s.heap.objs.size f cd)
 N:=N
 cX:=s
 iR:=H
 env:=envOfC qual scope s.heap.objs.size f cd
 outer:=outer
 stack:=envOfC qual scope s.heap.objs.size f cd::outer
 ex:=[]
 calm:=true
 fn:=λ_=>true
 pn:=[]
 xe:=λe s'=>wpAny (model P w) (A.deeper (envOfC qual scope s.heap.objs.size f cd)) (leaving (envOfC qual scope s.heap.objs.size f cd) e) (λ_ mS=>CX outer H s E e mS) (λe' mS=>CX outer H s E e' mS) s'
theorem Bi{sc:Scope}{n:Nat}{x:Str}(h:sc.names.lookup x=some .cell):∃c,(cellsFrom n sc.names []).lookup x=some c:=by
 have q:=dh sc.names n [] (.inl h);exact dS.mp q
theorem Xw{CX:mz}{P:Program}{w:World}{K:PySem.W.Frag}{mg:Str->Option Value}{base:Heap}{N ps:List Str}{qual:Str}{scope:Scope}{f:Addr}{cd:Value}{A:Around}{outer:List Env}{s s1:Shared}{H:Hp}{E:XK}{us:List Value}{vs:List V}(S:ie N ps scope)(hd:A.handled=none)(e0:qy P w K mg base A outer s H)(hl:vs.length=ps.length)(r:Vals vs us)(x:InCallC s s.heap.objs.size (bindL (envOfC qual scope s.heap.objs.size f cd).kindOf (ps.zip us) λ_=>none) (cellsFrom (s.heap.objs.size+1) scope.names []) (bindC (envOfC qual scope s.heap.objs.size f cd).kindOf (ps.zip us) λ_=>none) s1) :
  Inv (nB CX P w K mg base N qual scope f cd A outer s H E) [] (start N vs) H s1:=by
 have gE:ps.length<=N.length:=by have:=gH List.length S.pre;rw[dc] at this;omega
 obtain⟨h1,tk,rfl,hk⟩:=x.done;have tL:∀b:Addr,b∉(nB CX P w K mg base N qual scope f cd A outer s H E).ex:=λb z=>absurd (show b∈([]:List Addr) from z) (by simp);refine ⟨⟨e0.mod,S.kind,rfl,rfl,av _,λy z c h1 h2=>?_,λy hy=>?_,λy c _ h=>?_,λ_=>hd,Around.frames_deeper e0.frames,.inr ⟨rfl,rfl⟩,λb z=>absurd z (tL b),e0.bs,e0.mJ,λb _ _=>tL b,λb z=>absurd z (tL b),e0.K9,e0.nr⟩,
  rfl,e0.bare,Un.kept hk,⟨_,x.toInCall.ns,λi y v h1 h2 h3=>?_⟩,λy c h=>⟨_,x.cell y c h⟩,e0.bG.fresh (av _),λy c h=>?_,λp hp=>absurd (show p ∈ ([]:List (Addr × Obj)) from hp) (by simp),e0.bG.kept hk,?_⟩
 ·exact name_of_addr x.apart (aM h1) (aM h2)
 ·have hy:scope.names.lookup y=some .cell\/scope.names.lookup y=some .free:=hy;rcases hy with hy|hy
  ·exact Bi hy
  ·exact absurd rfl (S.lI _ (aM hy))
 ·exact dG (x.above y c (aM h))
 ·have hi:i<vs.length:=by
   unfold start at h2;by_cases hi:i<vs.length
   ·exact hi
   ·rw[cq (by simpa using hi)] at h2;rw[de] at h2;split at h2<;>cases h2
  have ha:vs[i]?=some v:=by
   unfold start at h2;rw[aG (by simpa using hi),ak] at h2;cases e:vs[i]? with
   |none=>rw[e] at h2;cases h2
   |some a=>rw[e] at h2;cases h2;rfl
  obtain⟨u,hu,rv⟩:=r.get ha;have hp:ps[i]?=some y:=by
   rw[<- S.pre,cB (by omega)];exact h1
  have DO:ps.Nodup:=by rw[<- S.pre];exact S.nd.sublist (List.take_sublist _ _)
  refine⟨u,rv,?_⟩;rcases S.par y (aP hp) with k|k
  ·exact .inl ⟨k,Gx DO hp hu k⟩
  ·obtain⟨c,e⟩:=Bi (n:=s.heap.objs.size+1) k;refine .inr ⟨.inl k,c,e,?_⟩;have q:=x.cell y c e;rw[Gv DO hp hu (by show scope.names.lookup y≠_;rw[k];decide)] at q;exact q
 ·exact e0.bG.fresh (dG (x.above y c (aM h)))
 ·unfold start;show _=N.length;rw[bc,ah,ir];omega
theorem Vp{CX:mz}{P:Program}{w:World}{K:PySem.W.Frag}{mg:Str->Option Value}{base:Heap}{k:Nat}{f:Addr}{name qual:Str}{params:Arguments}{body:List Stmt}{scope:Scope}{dV kV doc pm fm ct oc:Value}{an od:Option Addr}{kU:Array (Option Value)}{N ps:List Str}{sp:Sp}(lk:K.lookup f=some ⟨oc,od,.func (PySem.W.fnOf name qual params body scope dV kV doc pm an fm ct),kU⟩)(jX:PySem.W.codeIn K fm qual=true)(S:ie N ps scope)(len:∀vs H Q E,sp vs H Q E->vs.length=ps.length)(uu:∀ (A:Around) (outer:List Env) (s:Shared) (H:Hp) (vs:List V) (Q:VK) (E:XK),v9 k (A.deeper (envOfC qual scope s.heap.objs.size f fm))->sp vs H Q E ->
   ∃ t,iV (nB CX P w K mg base N qual scope f fm A outer s H E) body t/\t { nx:=λ_ H'=>Q .bO H',rt:=Q } (start N vs) H) :
  hU P w K mg base CX (k+1) f (PySem.W.fnOf name qual params body scope dV kV doc pm an fm ct) ps sp:=by
 refine⟨len,λA outer s H args us vs Q E hr e0 hb r rj=>?_⟩;have hl:=len _ _ _ _ rj;have KX:K.In s.heap:=e0.mod.mE.keeps λb o e=>(e0.bs b o e).1;have lim:s.heap.NoLimit:=e0.mod.nolimit.keeps λb o e=>(e0.bs b o e).1;have uh:∀y∈ps.zip us,scope.names.lookup y.1=some .local\/(scope.names.lookup y.1=some .cell/\((cellsFrom (s.heap.objs.size+1) scope.names []).lookup y.1).isSome=true):=λ⟨n,v⟩ hy=>by
  rcases S.par n (lx hy).1 with q|q
  ·exact .inl q
  ·exact .inr ⟨q,dh _ _ _ (.inl q)⟩
 refine codeAny_call_function hr.depth (KX _ _ lk) rfl S.co S.gen rfl (PySem.W.codeRec_of KX jX) (hb _ _ _ _ ?_);refine wpAny_newFunctionEnv_cells S.kind uh λenv he s1 x=>?_;subst he;refine⟨lim.keeps x.toInCall.keep,codeAny_func ?_⟩;obtain⟨t,ht,hq⟩:=uu A outer s H vs Q E (hr.deeper _) rj;have I:Inv (nB CX P w K mg base N qual scope f fm A outer s H E) [] (start N vs) H s1:=Xw S hr.hd e0 hl r x;refine bA (ht [] s1 (start N vs) H _ I hq) (λfl s' hs=>?_) λe s' hs=>hs;have fin:∀{bN:St} {H':Hp} {v:V} {u:Value},Inv (nB CX P w K mg base N qual scope f fm A outer s H E) [] bN H' s'->RelV v u->Q v H'->CE outer P w H s Q u s' :=
  λ{bN H' v u} J rv q=>⟨v,H',J.os,J.bare,J.base,J.bG,rv,q⟩
 cases fl with
 |ret u =>
  obtain⟨v,bN,H',J,rv,q⟩:=hs;exact fin J rv q
 |next =>
  obtain⟨bN,H',J,q⟩:=hs;exact fin (v:=V.bO) (u:=Value.none) J rfl q
 |brk =>
  obtain⟨_,_,_,q⟩:=hs;exact False.elim q
 |cont =>
  obtain⟨_,_,_,q⟩:=hs;exact False.elim q
end L2
namespace L2
open PySem PySem.Spec PyProof.Rows
section
variable{X:Cx}{x:Str}{p pos:Pos}{e:Expr}{es:List Expr}{t:TA}{id T:String}{r:List V->Hp->VK->Prop}
noncomputable def yy(r:List V->Hp->VK->Prop)(t:TA):TE:=λZ H Q=>t Z H λvs H1=>r vs H1 Q
theorem Y9(hc:m9 X (.builtin id) r)(hg:Gl X x)(hm:X.mg x=none)(hv:bootBuiltins x=some (.builtin id))(ha:PA X (e::es) t)(hn:x≠"__name__":=by decide)(ic:(x==("__debug__":Str))=false:=by decide)(he:starEach (e::es) X.env=(false,eval e X.env)::starEach es X.env:=by rfl)(gE:(backTo pos (starEach es X.env)).any (·.1)=false:=by rfl):PE X (.Call (.Name x p) (e::es) [] pos) (yy r t):=by
 intro pins s Z H Q I h;refine cP (K6 I hg hm hv ?_ hn ic);exact PyProof.Rows.callWith_builtin1 (cz (ha pos pins s Z H _ I h) λus s1 ⟨vs,H1,I1,r1,q1⟩=>hc pins s1 Z H1 vs us Q I1 r1 q1) he gE
theorem N8(hc:m9 X (.type T) r)(hg:Gl X x)(hm:X.mg x=none)(hv:bootBuiltins x=some (.type T))(ha:PA X (e::es) t)(hn:x≠"__name__":=by decide)(ic:(x==("__debug__":Str))=false:=by decide)(he:starEach (e::es) X.env=(false,eval e X.env)::starEach es X.env:=by rfl)(gE:(backTo pos (starEach es X.env)).any (·.1)=false:=by rfl):PE X (.Call (.Name x p) (e::es) [] pos) (yy r t):=by
 intro pins s Z H Q I h;refine cP (K6 I hg hm hv ?_ hn ic);exact bC (cz (ha pos pins s Z H _ I h) λus s1 ⟨vs,H1,I1,r1,q1⟩=>hc pins s1 Z H1 vs us Q I1 r1 q1) he gE
end
end L2

namespace HT
open PySem PyProof.Rows
section
open PySem.SeqAt
open PySem.AutoSeq1 (wpAny_loadPart')
open PySem.MeetsSeq PySem.MeetsSeq2 PySem.MeetsSeq3
end
section
variable{prog:Program}{w:World}{A:Around}{E:Value->Shared->Prop}{s:Shared}
theorem Rq{t b:Addr}{vs ws:List Value}{Q:Value->Shared->Prop}(ht:IsTup s.heap t vs.toArray)(hb:IsTup s.heap b ws.toArray)(hv:vs≠[])(h1:ws=[]->Q (.ref t) s)(h2:ws≠[]->Q (.ref s.heap.objs.size) { s with heap:=s.heap.push { cls:=.type "tuple",data:=.seq (vs++ws).toArray } })(hsz:vs.length+ws.length<=sizeLine):wpAny (model prog w) A (binaryOp .Add (.ref t) (.ref b)) Q E s:=by
 obtain⟨⟨cls,dd,data,sl⟩,ho,hc,n,hd⟩:=id ht;obtain⟨⟨uV,oB,data2,ka⟩,jV,mf,n2,hd2⟩:=id hb;simp only at hc hd mf hd2;subst hc hd mf hd2;have e:vs.toArray++ws.toArray=(vs++ws).toArray:=by simp
 by_cases hw:ws=[]
 ·exact concat_meets ⟨_,ho,rfl⟩ ⟨_,jV,rfl⟩ iL kM gT gI (gh _ _)
   (tuple_addW1 t b vs.toArray ws.toArray n n2 dd oB sl ka (by simpa using hv) (by simp[hw])) ⟨ho,jV,h1 hw⟩
 ·refine concat_meets ⟨_,ho,rfl⟩ ⟨_,jV,rfl⟩ iL kM gT gI (gh _ _)
   (tuple_addW2 t b vs.toArray ws.toArray n n2 dd oB sl ka (by simpa using hv) (by simpa using hw) (by rw[aA,aA];exact hsz)) ⟨ho,jV,?_⟩
  rw[e];exact h2 hw
noncomputable def dn(n d:Nat):Option Int->Nat
 |none=>d
 |some v=>if v<0 then(v+(n:Int)).toNat else min v.toNat n
theorem Qk(n d:Nat)(hd:d<=n)(o:Option Int):dn n d o<=n:=by
 cases o with
 |none=>exact hd
 |some v =>
  show(if v<0 then(v+(n:Int)).toNat else min v.toNat n)<=n;by_cases hv:v<0
  ·rw[aH hv];omega
  ·rw[aB hv];exact Nat.min_le_right _ _
theorem Iw(v:Int)(n d:Nat):(if v<0 then max (v+(n:Int)) 0 else min v (n:Int))=((dn n d (some v):Nat):Int):=by
 show(if v<0 then max (v+(n:Int)) 0 else min v (n:Int))=(((if v<0 then(v+(n:Int)).toNat else min v.toNat n):Nat):Int);by_cases hv:v<0
 ·simp only[if_pos hv];omega
 ·simp only[if_neg hv];omega
theorem Ym(lo hi:Option Int)(n:Nat):Builtin.Slice.sliceAdjust lo hi 1 (n:Int)=(((dn n 0 lo:Nat):Int),((dn n n hi:Nat):Int)):=by
 have h1:¬((1:Int)<0):=by omega
 unfold Builtin.Slice.sliceAdjust;simp only[h1,if_false];refine Prod.ext ?_ ?_
 ·cases lo with
  |none=>rfl
  |some v=>exact Iw v n 0
 ·cases hi with
  |none=>rfl
  |some v=>exact Iw v n n
theorem YN(i j:Nat):Builtin.Slice.slicePlaces (i:Int) (j:Int) 1=j-i:=by
 unfold Builtin.Slice.slicePlaces;have h1:(1:Int)>0:=by omega
 simp only[h1,if_true,Int.ediv_one];split<;>omega
theorem Ho{v:Value}{o:Option Int}{Q:Option Int->Shared->Prop}(p:IsPart v o)(h:Q o s):wpAny (model prog w) A (Builtin.Slice.slicePartIndex v) Q E s:=by
 cases p with
 |none=>exact nG h
 |int i t=>exact slicePart_int h
theorem Q8{sl:Addr}{vl vu:Value}{lo hi:Option Int}{n:Nat}{Q:Int×Int×Nat->Shared->Prop}(hs:s.heap.IsSliceOf sl vl vu .none)(pl:IsPart vl lo)(pu:IsPart vu hi)(h:Q (((dn n 0 lo:Nat):Int),1,dn n n hi-dn n 0 lo) s):wpAny (model prog w) A (Builtin.Slice.sliceApplied (.ref sl) (pure (n:Int))) Q E s:=by
 obtain⟨os,kF,pU,mG⟩:=id hs;unfold Builtin.Slice.sliceApplied Builtin.Slice.sliceFields;refine aa (aa (eZ kF mG (x:=vl) rfl (aa (eZ kF mG (x:=vu) rfl (aa (eZ kF mG (x:=.none) rfl (ao ?_)))))));refine aa (nG ?_);show wpAny _ _ (if((1:Int)==0)=true then _ else _) _ _ s;rw[aB (by decide)];refine aa (Ho pl (aa (Ho pu (aa (ao ?_)))));show wpAny _ _ (match Builtin.Slice.sliceAdjust lo hi 1 (n:Int) with|(lo,hi)=>pure (lo,(1:Int),Builtin.Slice.slicePlaces lo hi 1)) _ _ s;rw[Ym lo hi n];show wpAny _ _ (pure (((dn n 0 lo:Nat):Int),(1:Int),Builtin.Slice.slicePlaces ((dn n 0 lo:Nat):Int) ((dn n n hi:Nat):Int) 1)) _ _ s;rw[YN];exact ao h
theorem a33(xs:Array Value)(i k:Nat):((List.range k).filterMap λ(m:Nat)=>xs[((i:Int)+(m:Int)*1).toNat]?).toArray=((xs.toList.drop i).take k).toArray:=by
 have e:(λ(m:Nat)=>xs[((i:Int)+(m:Int)*1).toNat]?)=λm=>xs[i+m]?:=by
  funext m
  have:((i:Int)+(m:Int)*1).toNat=i+m:=by omega
  rw[this]
 rw[e];have:=pick_run xs i k;rw[Kf] at this;have e2:((λx=>xs[x]?) ∘ λx=>i+x)=λm=>xs[i+m]?:=rfl;rw[e2] at this;rw[this]
theorem WT{t sl:Addr}{items:Array Value}{vl vu:Value}{lo hi:Option Int}{Q:Value->Shared->Prop}(ht:IsTup s.heap t items)(hs:s.heap.IsSliceOf sl vl vu .none)(pl:IsPart vl lo)(pu:IsPart vu hi)(hw:¬(dn items.size 0 lo=0/\dn items.size items.size hi=items.size))(h:Q (.ref s.heap.objs.size) { s with heap:=s.heap.push { cls:=.type "tuple",data:=.seq ((items.toList.drop (dn items.size 0 lo)).take (dn items.size items.size hi-dn items.size 0 lo)).toArray } })(hsz:items.size<=sizeLine):wpAny (model prog w) A (getItem (.ref t) (.ref sl)) Q E s:=by
 have gs:sizeOk (.seq ((items.toList.drop (dn items.size 0 lo)).take (dn items.size items.size hi-dn items.size 0 lo)).toArray):=by
  show((items.toList.drop (dn items.size 0 lo)).take (dn items.size items.size hi-dn items.size 0 lo)).toArray.size<=sizeLine;rw[aA,dc,ku,bp];omega
 have hj:dn items.size items.size hi<=items.size:=Qk _ _ (av _) hi;obtain⟨os,kF,pU,mG⟩:=id hs;have uy:s.TypeIs (.ref sl) "slice":=⟨os,kF,pU⟩
 unfold getItem
 try with_reducible refine bY ?_
 first|refine aa (ao ?_)|skip
 refine aa (mK ht.typeIs (by decide) ?_);refine aa (du (name:=Str.ofString "__getitem__") ht.typeIs aX
  (cj aX ht.typeIs qL ?_ (vJ _ _)))
 show wpAny _ _ (Builtin.Tuple.tupleItemsOf (.ref t) >>= _) _ _ s;refine aa (sC ht ?_);refine aa (dB uy ?_);rw[aH (by decide)];refine aa (Q8 hs pl pu ?_);have mF:¬((((dn items.size 0 lo:Nat):Int)==0&&(1:Int)==1&&(dn items.size items.size hi-dn items.size 0 lo)==items.size)=true):=by
  intro q;rw[aQ,aQ] at q;have q1:((dn items.size 0 lo:Nat):Int)=0:=eq_of_beq q.1.1;have q2:dn items.size items.size hi-dn items.size 0 lo=items.size:=eq_of_beq q.2;exact hw ⟨by omega,by omega⟩
 show wpAny _ _ (if(((dn items.size 0 lo:Nat):Int)==0&&(1:Int)==1&&(dn items.size items.size hi-dn items.size 0 lo)==items.size)=true then _ else _) _ _ s;rw[aB mF,a33]
 first
  |exact wpAny_bind (m:=Builtin.Tuple.tupleExact _) (wpAny_newObj_type (wpAny_pure ⟨_,rfl,wpAny_pure h⟩) gs)
  |exact wpAny_bind (m:=Builtin.Tuple.tupleExact _) (wpAny_newObj_type (wpAny_bind (wpAny_pure (wpAny_pure ⟨_,rfl,wpAny_pure h⟩))) gs)
  |exact wpAny_bind (wpAny_bind (m:=Builtin.Tuple.tupleExact _) (wpAny_newObj_type (wpAny_pure (wpAny_pure ⟨_,rfl,wpAny_pure h⟩)) gs))
  |exact wpAny_bind (wpAny_bind (m:=Builtin.Tuple.tupleExact _) (wpAny_newObj_type (wpAny_pure ⟨_,rfl,wpAny_pure h⟩) gs))
end
end HT
namespace L2
open PySem PySem.Spec PyProof.Rows
noncomputable abbrev TO:=St->Hp->(Option Int->Hp->Prop)->Prop
noncomputable def PO(X:Cx)(e:Option Expr)(t:TO):Prop :=
 ∀(pins:List (Addr×Obj)) (s:Shared) (Z:St) (H:Hp) (Q:Option Int->Hp->Prop),Inv X pins Z H s->t Z H Q ->
  wpAny (model X.prog X.w) X.A (evalPart e X.env) (λu s'=>∃o H',Inv X pins Z H' s'/\IsPart u o/\Q o H') X.xe s
noncomputable def Td:TO:=λ_ H Q=>Q none H
noncomputable def Ob(t:TE):TO:=λZ H Q=>t Z H λx H1=>∃i,x=.int i/\Q (some i) H1
section
variable{X:Cx}{e:Expr}{te:TE}{lo hi:Option Expr}{tl th:TO}{pos p2:Pos}
theorem xG:PO X none Td:=by
 intro pins s Z H Q I h;rw[J'];exact ao ⟨none,H,I,.none,h⟩
theorem IT(h:PE X e te):PO X (some e) (Ob te):=by
 intro pins s Z H Q I hw;rw[evalPart_some];refine cz (h pins s Z H _ I hw) λu s1 ⟨x,H1,I1,r1,q1⟩=>?_;obtain⟨i,rfl,q⟩:=q1;obtain⟨t,rfl⟩:=r1;exact⟨some i,H1,I1,.int i t,q⟩
noncomputable def vA(X:Cx)(r:V->Option Int->Option Int->Hp->VK->Prop):Prop :=
 ∀(pins:List (Addr×Obj)) (s:Shared) (Z:St) (H:Hp) (x:V) (v vl vu:Value) (lo hi:Option Int) (sl:Addr) (Q:VK),Inv X pins Z H s->RelV x v->s.heap.IsSliceOf sl vl vu .none->IsPart vl lo->IsPart vu hi->r x lo hi H Q ->
  ∃T id,typeLookup (.type T) "__getitem__"=pure (some (.builtin id))/\s.TypeIs v T/\wpAny (model X.prog X.w) X.A (getItem v (.ref sl)) (EP X pins Z Q) X.xe s
noncomputable def Kw(r:V->Option Int->Option Int->Hp->VK->Prop)(te:TE)(tl th:TO):TE:=λZ H Q=>te Z H λx H1=>tl Z H1 λl H2=>th Z H2 λu H3=>r x l u H3 Q
theorem Bn{r:V->Option Int->Option Int->Hp->VK->Prop}(hr:vA X r)(he:PE X e te)(hl:PO X lo tl)(hu:PO X hi th):PE X (.Subscript e (.Slice lo hi none p2) pos) (Kw r te tl th):=by
 intro pins s Z H Q I h;refine Subscript_ (cz (he pins s Z H _ I h) λv s1 ⟨x,H1,I1,r1,q1⟩=>?_);refine wpAny_Slice (cz (hl pins s1 Z H1 _ I1 q1) λvl s2 ⟨l,H2,I2,pl,q2⟩=>cz (hu pins s2 Z H2 _ I2 q2) λvu s3 ⟨u,H3,I3,pu,q3⟩=>?_);rw[J'];refine ao ?_;have I4:Inv X pins Z H3 { s3 with heap:=s3.heap.push { cls:=.type "slice",data:=.fields #[vl,vu,.none] } }:=I3.kept (t':=s3.toks) λb ob q=>au _ q;obtain⟨T,id,hT,ht,hg⟩:=hr pins { s3 with heap:=s3.heap.push { cls:=.type "slice",data:=.fields #[vl,vu,.none] } } Z H3 x v vl vu l u s3.heap.objs.size Q I4 r1 (lz ..) pl pu q3;show wpAny (model X.prog X.w) X.A (subscriptTail e (.Slice lo hi none p2) v (.ref s3.heap.objs.size)) (EP X pins Z Q) X.xe { s3 with heap:=s3.heap.push { cls:=.type "slice",data:=.fields #[vl,vu,.none] } };exact Dj (ops:=[.ref s3.heap.objs.size,v]) ht hT hg (by with_unfolding_all rfl)
noncomputable def T1(xs:List V)(lo hi:Option Int):List V:=(xs.drop (HT.dn xs.length 0 lo)).take (HT.dn xs.length xs.length hi-HT.dn xs.length 0 lo)
theorem Ht(xs:List V)(lo hi:Option Int):(T1 xs lo hi).length<=xs.length:=by
 unfold T1;rw[dc,ku];omega
noncomputable def Ux(K:PySem.W.Frag):V->Option Int->Option Int->Hp->VK->Prop:=λx lo hi H Q=>∃a xs,x=.ref a/\gS K H a xs /\
 ¬(HT.dn xs.length 0 lo=0/\HT.dn xs.length xs.length hi=xs.length)/\∀p,H p=none->Q (.ref p) (upd H p (.tup (T1 xs lo hi)))
theorem QB:vA X (Ux X.K):=by
 intro pins s Z H x v vl vu lo hi sl Q I rx hs pl pu h;obtain⟨a,xs,rfl,hx,hw,q⟩:=h;cases rx;obtain⟨aR,r,ht,hz⟩:=I.tuple hx;have hlen:aR.toArray.size=xs.length:=by rw[aA];exact r.length.symm
 refine⟨"tuple",_,aX.lookup,ht.typeIs,?_⟩;refine HT.WT ht hs pl pu (by rw[hlen];exact hw) ?_ (by rw[hlen];exact hz);rw[hlen];refine⟨.ref s.heap.objs.size,_,I.laid (t':=s.toks) (o:=.tup (T1 xs lo hi)) (λb ob q=>au _ q) (av _) ?_,rfl,q _ (I.bG.fresh (av _))⟩;exact⟨aD (Ht xs lo hi) hz,_,(r.drop (HT.dn xs.length 0 lo)).take (HT.dn xs.length xs.length hi-HT.dn xs.length 0 lo),F0.new _ _⟩
noncomputable def Wg(K:PySem.W.Frag):R2:=λx y H Q=>∃a b xs ys,x=.ref a/\y=.ref b/\gS K H a xs/\gS K H b ys/\xs≠[]/\xs.length+ys.length<=sizeLine /\
 (ys=[]->Q (.ref a) H)/\(ys≠[]->∀p,H p=none->Q (.ref p) (upd H p (.tup (xs++ys))))
theorem Vals.P9{xs:List V}{us:List Value}(r:Vals xs us):us=[]↔xs=[]:=by
 cases r with
 |nil=>simp
 |cons _ _=>simp
theorem RV:fh X (binaryOp .Add) (Wg X.K):=by
 intro pins s Z H x y v u Q I rx ry h;obtain⟨a,b,xs,ys,rfl,rfl,ha,hb,hx,hz,q1,q2⟩:=h;cases rx;cases ry;obtain⟨aR,r1,p1,_⟩:=I.tuple ha;obtain⟨lM,r2,p2,_⟩:=I.tuple hb;refine HT.Rq p1 p2 (λz=>hx (r1.P9.mp z)) (λz=>⟨.ref a,H,I,rfl,q1 (r2.P9.mp z)⟩) (λz=>?_) (by rw[<- r1.length,<- r2.length];exact hz);refine⟨.ref s.heap.objs.size,_,I.laid (t':=s.toks) (o:=.tup (xs++ys)) (λb ob q=>au _ q) (av _) ?_,rfl,q2 (λw=>z (r2.P9.mpr w)) _ (I.bG.fresh (av _))⟩;exact⟨by rw[bc];exact hz,_,r1.append r2,F0.new _ _⟩
end
end L2
namespace L2
open PySem PySem.Spec PyProof.Rows
noncomputable def ke(n:Nat)(i:Int):Option Nat:=if 0<=i then(if i<n then some i.toNat else none) else if -(n:Int)<=i then some (i+n).toNat else none
noncomputable def gz{α:Type}(xs:List α)(i:Int):Option α:=(ke xs.length i).bind λj=>xs[j]?
theorem IG{n:Nat}{i:Int}{j:Nat}(h:ke n i=some j):seqIndex? i n=some j/\j<n/\-(n:Int)<=i/\i<n:=by
 unfold ke at h;by_cases h0:0<=i
 ·rw[aH h0] at h;by_cases h1:i<n
  ·rw[aH h1] at h;have e:i.toNat=j:=aJ h;exact⟨by rw[seqIndex_of h0 h1,e],by omega,by omega,h1⟩
  ·rw[aB h1] at h;cases h
 ·rw[aB h0] at h;by_cases h1:-(n:Int)<=i
  ·rw[aH h1] at h;have e:(i+n).toNat=j:=aJ h;exact⟨by rw[seqIndex_neg (by omega) h1,e],by omega,h1,by omega⟩
  ·rw[aB h1] at h;cases h
theorem AQ{α:Type}{xs:List α}{i:Int}{v:α}(h:gz xs i=some v):∃j,seqIndex? i xs.length=some j/\xs[j]?=some v/\j<xs.length/\-(xs.length:Int)<=i/\i<xs.length:=by
 unfold gz at h;cases e:ke xs.length i with
 |none=>rw[e] at h;cases h
 |some j =>
  rw[e] at h;obtain⟨h1,h2,h3,h4⟩:=IG e;exact⟨j,h1,h,h2,h3,h4⟩
theorem J9{α:Type}{xs:List α}{j:Nat}{v:α}(h:xs[j]?=some v):gz xs (j:Int)=some v:=by
 have hj:j<xs.length:=(aj.mp h).1;have e:ke xs.length (j:Int)=some j:=by
  unfold ke;rw[aH (by omega),aH (by omega)];simp
 unfold gz;rw[e];exact h
noncomputable def AL(b:Expr):Prop:=∀o i,subscripted b false o i=operate [o,i] (getItem o i)
noncomputable def qJ(X:Cx)(r:R2):Prop :=
 ∀(value slice:Expr) (pins:List (Addr×Obj)) (s:Shared) (Z:St) (H:Hp) (x y:V) (v u:Value) (Q:VK),Inv X pins Z H s->RelV x v->RelV y u->r x y H Q ->
  subscripted slice false v u=operate [v,u] (getItem v u)->wpAny (model X.prog X.w) X.A (subscriptTail value slice v u) (EP X pins Z Q) X.xe s
noncomputable def my(X:Cx)(id:String)(r:V->List V->Hp->VK->Prop):Prop :=
 ∀(pins:List (Addr×Obj)) (s:Shared) (Z:St) (H:Hp) (x:V) (xs:List V) (v:Value) (us:List Value) (Q:VK),Inv X pins Z H s->RelV x v->Vals xs us->r x xs H Q ->
  wpAny (model X.prog X.w) X.A (call (.builtin id) (v::us)) (EP X pins Z Q) X.xe s
section
variable{X:Cx}{a b:Expr}{ta tb:TE}{pos:Pos}
theorem JB{r:R2}(hr:qJ X r)(ha:PE X a ta)(hb:PE X b tb)(hs:AL b):PE X (.Subscript a b pos) (qT r ta tb):=by
 intro pins s Z H Q I h;exact Subscript_ (CJ ha hb I h λv u s2 x y H2 I2 rx ry q=>hr a b pins s2 Z H2 x y v u Q I2 rx ry q (hs _ _))
noncomputable def Ur(K:PySem.W.Frag):R2:=λx y H Q=>∃p xs i v,x=.ref p/\y=.int i/\fo K H p xs/\gz xs i=some v/\Q v H
noncomputable def Ut(K:PySem.W.Frag):R2:=λx y H Q=>∃p xs i v,x=.ref p/\y=.int i/\gS K H p xs/\gz xs i=some v/\Q v H
noncomputable def Us:R2:=λx y H Q=>∃z i c,x=.str z/\y=.int i/\z.length<=sizeLine/\gz z.cps.toList i=some c/\Q (.str ⟨#[c]⟩) H
theorem RH:qJ X (Ur X.K):=by
 intro value slice pins s Z H x y v u Q I rx ry h hs;obtain⟨p,xs,i,z,rfl,rfl,hq,he,q⟩:=h;cases rx;obtain⟨t,rfl⟩:=ry;obtain⟨aR,r,pl,hz⟩:=I.list hq;obtain⟨j,h1,h2,h3,h4,h5⟩:=AQ he;obtain⟨w,ew,fE⟩:=r.get h2;have hl:=r.length;have hn:=S0;have fin:EP X pins Z Q w s:=⟨z,H,I,fE,q⟩
 by_cases h0:0<=i
 ·have hj:i.toNat=j:=by
   rw[seqIndex_of h0 h5] at h1;exact aJ h1
  exact item_listR pl.isList h0 (by omega) (by rw[hj];simpa using ew) fin hs
 ·have hj:(i+(aR.toArray.size:Int)).toNat=j:=by
   rw[seqIndex_neg (by omega) h4] at h1;rw[aA,<- hl];exact aJ h1
  exact subscriptTail_builtinR (x:=w) pl.isList.typeIs mL.lookup
   (wpAny_getItem_list_neg (Q:=λr s'=>r=w/\EP X pins Z Q r s') pl.isList (by omega) (by rw[aA]<;>omega) (by omega) (by rw[hj];simpa using ew) ⟨rfl,fin⟩) hs
theorem OJ:qJ X (Ut X.K):=by
 intro value slice pins s Z H x y v u Q I rx ry h hs;obtain⟨p,xs,i,z,rfl,rfl,hq,he,q⟩:=h;cases rx;obtain⟨t,rfl⟩:=ry;obtain⟨aR,r,pl,hz⟩:=I.tuple hq;obtain⟨j,h1,h2,h3,h4,h5⟩:=AQ he;obtain⟨w,ew,fE⟩:=r.get h2;have hl:=r.length;have hn:=S0;have fin:EP X pins Z Q w s:=⟨z,H,I,fE,q⟩
 exact subscriptTail_builtinR (x:=w) pl.typeIs slot_tuple_getitem.lookup
  (getItem_tuple (j:=j) (Q:=λr s'=>r=w/\EP X pins Z Q r s') pl (by omega) (by omega) (by rw[aA,<- hl];exact h1) (by simpa using ew) ⟨rfl,fin⟩) hs
theorem OI:qJ X Us:=by
 intro value slice pins s Z H x y v u Q I rx ry h hs;obtain⟨z,i,c,rfl,rfl,hz,he,q⟩:=h;obtain⟨t,rfl⟩:=rx;obtain⟨t',rfl⟩:=ry;obtain⟨j,h1,h2,h3,h4,h5⟩:=AQ he;have hl:z.cps.toList.length=z.length:=by simp[Str.length]
 rw[hl] at h1 h4 h5;have hn:=S0;exact Dj (typeIs_str s z t) slot_str_getitem.lookup (getItem_str (c:=c) (by
  have e1:decide (i < -(2 ^ 63:Int))=false:=aF (by omega);have e2:decide (i>=2 ^ 63)=false:=aF (by omega);rw [e1,e2,Bool.or_false]) (by rw [h1];simpa using h2) ⟨.str ⟨#[c]⟩,H,I.tok _,⟨_,rfl⟩,q⟩) hs
theorem YE(aR:List Value)(n j:Nat)(u:Value):Obj.mapSeq (·.setIfInBounds j u) { cls:=.type "list",data:=.seq aR.toArray n }={ cls:=.type "list",data:=.seq (aR.set j u).toArray n }:=by
 simp[Obj.mapSeq]
theorem Inv.lst{pins:List (Addr×Obj)}{Z:St}{H:Hp}{s:Shared}{p:Addr}{xs:List V}(I:Inv X pins Z H s)(h:H p=some (.lst xs)) :
  ∃(aR:List Value) (n:Nat),Vals xs aR/\s.heap.get? p=some { cls:=.type "list",data:=.seq aR.toArray n }/\xs.length<=sizeLine:=by
 obtain⟨z,aR,n,r,e⟩:=I.bG p _ h;exact⟨aR,n,r,e,z⟩
theorem Inv.OU{pins:List (Addr×Obj)}{Z:St}{H:Hp}{s:Shared}{p:Addr}{xs ys:List V}{aR its':List Value}{n n':Nat}{f:Obj->Obj}(I:Inv X pins Z H s)(h:H p=some (.lst xs))(ho:s.heap.get? p=some { cls:=.type "list",data:=.seq aR.toArray n })(hf:f { cls:=.type "list",data:=.seq aR.toArray n }={ cls:=.type "list",data:=.seq its'.toArray n' })(r:Vals ys its')(hz:ys.length<=sizeLine)(t:Nat) :
  Inv X pins Z (upd H p (.lst ys)) { s with heap:=s.heap.update p f,toks:=t }:=by
 have e:(s.heap.update p f).get? p=some { cls:=.type "list",data:=.seq its'.toArray n' }:=by
  rw[bf f ho (by rw[hf]<;>rfl),hf]
 refine I.write (x:=p) (e:=p) (by rw[h];trivial) (.inl rfl) (λb u hb q=>(bV _ _ (bD hb)).trans q) ⟨_,e⟩ ?_;exact⟨hz,its',n',r,e⟩
noncomputable def Wj:V->V->V->Hp->(Hp->Prop)->Prop:=λo i v H Q=>∃p xs k j,o=.ref p/\i=.int k/\H p=some (.lst xs)/\ke xs.length k=some j/\Q (upd H p (.lst (xs.set j v)))
theorem set_list:CD X Wj:=by
 intro pins s Z H o i v ov iv u Q I ro ri rv h;obtain⟨p,xs,k,j,rfl,rfl,hp,hj,q⟩:=h;cases ro;obtain⟨t,rfl⟩:=ri;obtain⟨aR,n,r,ho,hz⟩:=I.lst hp;obtain⟨h1,h2,h3,h4⟩:=IG hj;have hl:=r.length;have hn:=S0;have I':Inv X pins Z (upd H p (.lst (xs.set j v))) { s with heap:=s.heap.update p (Obj.mapSeq (·.setIfInBounds j u)) } :=
  I.OU hp ho (YE aR n j u) (r.set rv j) (by rw[List.length_set];exact hz) s.toks
 by_cases h0:0<=k
 ·have hk:k.toNat=j:=by
   rw[seqIndex_of h0 h4] at h1;exact aJ h1
  exact PySem.W.ki_setAt ho h0 (by omega) (by rw[aA,<- hl];exact h4) (by rw[hk];exact⟨_,I',q⟩)
 ·have hk:(k+(aR.toArray.size:Int)).toNat=j:=by
   rw[seqIndex_neg (by omega) h3] at h1;rw[aA,<- hl];exact aJ h1
  exact PySem.W.ki_setBack ho (by omega) (by rw[aA,<- hl];exact h3) (by omega) (by rw[hk];exact⟨_,I',q⟩)
theorem Wu(lo hi:Option Int)(n:Nat):(sliceBounds lo hi none n).1=((HT.dn n 0 lo:Nat):Int)/\(sliceBounds lo hi none n).2.1=((HT.dn n n hi:Nat):Int)/\(sliceBounds lo hi none n).2.2=1:=by
 refine⟨?_,?_,rfl⟩
 ·cases lo with
  |none=>simp[sliceBounds,HT.dn]
  |some i =>
   simp only[sliceBounds,HT.dn,Option.getD_none,show(1:Int)>0 by decide,if_true];by_cases h:i<0
   ·simp only[h,if_true]<;>omega
   ·simp only[h,if_false]<;>omega
 ·cases hi with
  |none=>simp[sliceBounds,HT.dn]
  |some i =>
   simp only[sliceBounds,HT.dn,Option.getD_none,show(1:Int)>0 by decide,if_true];by_cases h:i<0
   ·simp only[h,if_true]<;>omega
   ·simp only[h,if_false]<;>omega
theorem WD(aR:List Value)(lo hi:Option Int):slicePick aR.toArray lo hi none=((aR.drop (HT.dn aR.length 0 lo)).take (HT.dn aR.length aR.length hi-HT.dn aR.length 0 lo)).toArray:=by
 obtain⟨h1,h2,h3⟩:=Wu lo hi aR.toArray.size;unfold slicePick;rw[h1,h2,h3];simp only[sliceRange_one,pick_run,List.size_toArray]<;>rfl
noncomputable def Uw(K:PySem.W.Frag):V->Option Int->Option Int->Hp->VK->Prop:=λx lo hi H Q=>∃a xs,x=.ref a/\fo K H a xs/\∀p,H p=none->Q (.ref p) (upd H p (.lst (T1 xs lo hi)))
theorem SU:vA X (Uw X.K):=by
 intro pins s Z H x v vl vu lo hi sl Q I rx hs pl pu h;obtain⟨a,xs,rfl,hx,q⟩:=h;cases rx;obtain⟨aR,r,ht,hz⟩:=I.list hx;have hlen:=r.length;refine⟨"list",_,mL.lookup,ht.isList.typeIs,?_⟩;refine JZ ht.isList hs pl pu .none (by simp) ?_ (by rw[aA]<;>omega);rw[WD,<- hlen];refine⟨.ref s.heap.objs.size,_,I.laid (t':=s.toks) (o:=.lst (T1 xs lo hi)) (λb ob q=>au _ q) (av _) ?_,rfl,q _ (I.bG.fresh (av _))⟩;exact⟨aD (Ht xs lo hi) hz,_,0,(r.drop (HT.dn xs.length 0 lo)).take (HT.dn xs.length xs.length hi-HT.dn xs.length 0 lo),aC _ rfl⟩
noncomputable def EY:V->V->Bool
 |.bO,.bO=>true
 |.bl a,.bl b=>a==b
 |.bl a,.int b=>(if a then 1 else 0)==b
 |.int a,.bl b=>a==(if b then 1 else 0)
 |.int a,.int b=>a==b
 |.str a,.str b=>a==b
 |_,_=>false
theorem Zy:m9 X (.builtin "len") (λxs H Q=>∃p ys,xs=[.ref p]/\(fo X.K H p ys\/gS X.K H p ys)/\Q (.int ys.length) H):=by
 intro pins s Z H xs us Q I r h;obtain⟨p,ys,rfl,hq,q⟩:=h;obtain⟨u,rfl,rx⟩:=vals1 r;cases rx;have hn:=S0;rcases hq with hq|hq
 ·obtain⟨aR,r',pl,hz⟩:=I.list hq;have hlen:=r'.length;exact Calls.call_len_list pl.isList (by simp only[List.size_toArray]<;>omega) ⟨.int ys.length,H,I.tok _,⟨s.toks+1,by rw[aA,hlen]⟩,q⟩
 ·obtain⟨aR,r',pl,hz⟩:=I.tuple hq;have hlen:=r'.length;exact len_tuple pl (by simp only[List.size_toArray]<;>omega) ⟨.int ys.length,H,I.tok _,⟨s.toks+1,by rw[aA,hlen]⟩,q⟩
theorem Zz:m9 X (.builtin "len") (λxs H Q=>∃z,xs=[.str z]/\z.length<=sizeLine/\Q (.int z.length) H):=by
 intro pins s Z H xs us Q I r h;obtain⟨z,rfl,hz,q⟩:=h;obtain⟨u,rfl,t,rfl⟩:=vals1 r;have hn:=S0;exact len_str (by omega) ⟨.int z.length,H,I.tok _,⟨_,rfl⟩,q⟩
theorem ZA:m9 X (.type "list") (λxs H Q=>∃p ys,xs=[.ref p]/\(fo X.K H p ys\/gS X.K H p ys)/\∀l,H l=none->Q (.ref l) (upd H l (.lst ys))):=by
 intro pins s Z H xs us Q I r h;obtain⟨p,ys,rfl,hq,q⟩:=h;obtain⟨u,rfl,rx⟩:=vals1 r;cases rx;have fin:∀(aR:List Value),Vals ys aR->ys.length<=sizeLine->∀(h':Heap) (c':Nat),(∀b o',s.heap.get? b=some o'->h'.get? b=some o') ->
   h'.get? s.heap.objs.size=some { cls:=.type "list",dict:=none,data:=.seq aR.toArray c',slots:=#[] }->EP X pins Z Q (.ref s.heap.objs.size) { s with heap:=h' }:=λaR r' hz h' c' kp e =>
  ⟨.ref s.heap.objs.size,_,I.laid (t':=s.toks) kp (av _) (show m8 X.prog X.w _ h' _ (.lst ys) from⟨hz,aR,c',r',e⟩),rfl,q _ (I.bG.fresh (av _))⟩
 rcases hq with hq|hq
 ·obtain⟨aR,r',pl,hz⟩:=I.list hq;have hlen:=r'.length;obtain⟨o,ho,hc,n,hd⟩:=pl.isList;exact call_list_seq p (.inl rfl) ho hc hd (λh' c' kp e=>fin aR r' hz h' c' kp e) (by simp only[List.size_toArray]<;>omega)
 ·obtain⟨aR,r',pl,hz⟩:=I.tuple hq;have hlen:=r'.length;obtain⟨o,ho,hc,n,hd⟩:=pl;exact call_list_seq p (.inr rfl) ho hc hd (λh' c' kp e=>fin aR r' hz h' c' kp e) (by simp only[List.size_toArray]<;>omega)
theorem Ww:m9 X (.type "tuple") (λxs H Q=>∃p ys,xs=[.ref p]/\((fo X.K H p ys/\∀l,H l=none->Q (.ref l) (upd H l (.tup ys)))\/(gS X.K H p ys/\Q (.ref p) H))):=by
 intro pins s Z H xs us Q I r h;obtain⟨p,ys,rfl,h⟩:=h;obtain⟨u,rfl,rx⟩:=vals1 r;cases rx;rcases h with⟨hq,q⟩|⟨hq,q⟩
 ·obtain⟨aR,r',pl,hz⟩:=I.list hq;have hlen:=r'.length;refine call_tuple_list pl.isList (λh' kp=>?_) (by simp only[List.size_toArray]<;>omega);have I1:Inv X pins Z H { s with heap:=h' }:=I.kept (t':=s.toks) kp;have I2:Inv X pins Z (upd H h'.objs.size (.tup ys)) { s with heap:=h'.push { cls:=.type "tuple",data:=.seq aR.toArray } } :=
   I1.laid (t':=s.toks) (λb o e=>au _ e) (av _) (show m8 X.prog X.w _ _ _ (.tup ys) from⟨hz,aR,r',F0.new _ _⟩)
  exact⟨.ref h'.objs.size,_,I2,rfl,q _ (I1.bG.fresh (av _))⟩
 ·obtain⟨aR,r',pl,hz⟩:=I.tuple hq;exact call_tuple_same pl ⟨.ref p,H,I,rfl,q⟩
noncomputable def mD(K:PySem.W.Frag)(T:String)(x:V)(H:Hp):Prop:=match x with
 |.str _=>T="str"
 |.int _=>T="int"
 |.ref p=>(T="list"/\∃xs,fo K H p xs)\/(T="tuple"/\∃o,K.lookup p=some o/\o.cls=.type "tuple"/\o.dict=none) \/
   (T="dict"/\((∃kvs,H p=some (.dK kvs))\/∃kvs,H p=some (.dT kvs)))\/(T="set"/\∃S n,H p=some (.set S n))
 |_=>False
theorem Ir{pins:List (Addr×Obj)}{Z:St}{H:Hp}{s:Shared}{T:String}{x:V}{v:Value}(I:Inv X pins Z H s)(r:RelV x v)(ty:mD X.K T x H) :
  s.TypeIs v T/\∀a,v=.ref a->∃ob,s.heap.get? a=some ob/\ob.dict=none:=by
 cases x with
 |str z =>
  obtain⟨t,rfl⟩:=r;cases (show T="str" from ty);exact⟨typeIs_str s z t,λ_ e=>nomatch e⟩
 |int i =>
  obtain⟨t,rfl⟩:=r;cases (show T="int" from ty);exact⟨lq s i t,λ_ e=>nomatch e⟩
 |ref p =>
  cases r;rcases ty with⟨rfl,xs,hq⟩|⟨rfl,o,hk,hc,hd⟩|⟨rfl,hk⟩|⟨rfl,S,n,hk⟩
  ·obtain⟨aR,_,pl,_⟩:=I.list hq;refine⟨pl.isList.typeIs,λa e=>?_⟩;cases e;obtain⟨o,n,e,c,hd,_⟩:=pl;exact⟨o,e,hd⟩
  ·refine⟨⟨o,I.gp p o hk,hc⟩,λa e=>?_⟩;cases e;exact⟨o,I.gp _ o hk,hd⟩
  ·have z:∃o,s.heap.get? p=some o/\o.ExactDict:=by
    rcases hk with⟨kvs,hk⟩|⟨kvs,hk⟩
    ·obtain⟨_,_,_,_,o,_,_,e,ex,_⟩:=I.bG p _ hk;exact⟨o,e,ex⟩
    ·obtain⟨_,_,_,_,o,_,_,e,ex,_⟩:=I.bG p _ hk;exact⟨o,e,ex⟩
   obtain⟨o,e,ex⟩:=z;refine⟨⟨o,e,ex.1⟩,λa e2=>?_⟩;cases e2;exact⟨o,e,ex.2.1⟩
  ·obtain⟨o,_,_,_,e,ex,_⟩:=I.bG p _ hk;refine⟨⟨o,e,ex.1⟩,λa e2=>?_⟩;cases e2;exact⟨o,e,ex.2.1⟩
 |_=>exact False.elim ty
noncomputable def UJ(K:PySem.W.Frag)(T:String)(r:V->List V->Hp->VK->Prop)(to:TE):TE:=λZ H Q=>to Z H λx H1=>mD K T x H1/\r x [] H1 Q
noncomputable def Kz(K:PySem.W.Frag)(T:String)(r:V->List V->Hp->VK->Prop)(to:TE)(t:TA):TE:=λZ H Q=>to Z H λx H1=>mD K T x H1/\t Z H1 λxs H2=>r x xs H2 Q
variable{o e:Expr}{es:List Expr}{to:TE}{t:TA}{name:Str}{apos fA:Pos}{T id:String}{r:V->List V->Hp->VK->Prop}
theorem Pw(pa:PlainAttrs T)(slot:Slot T name id)(mX:typeOf (.builtin id)=pure (.type "method_descriptor"))(hm:my X id r)(ho:PE X o to)(iE:attributeBase o name X.env (eval o X.env)=eval o X.env:=by rfl)(iD:(apos.endLine==fA.line)=true:=by rfl):PE X (.Call (.Attribute o name apos) [] [] fA) (UJ X.K T r to):=by
 intro pins s Z H Q I h;refine wpAny_Call_method0_late iE iD (cz (ho pins s Z H _ I h) λv s1 ⟨x,H1,I1,r1,ty,q1⟩=>?_);obtain⟨h1,h2⟩:=Ir I1 r1 ty;exact⟨T,id,pa,slot,mX,h1,h2,Calls.callWith_builtin rfl (PySem.evalArgs_none (hm pins s1 Z H1 x [] v [] Q I1 r1 .nil q1))⟩
theorem VX(pa:PlainAttrs T)(slot:Slot T name id)(mX:typeOf (.builtin id)=pure (.type "method_descriptor"))(hm:my X id r)(ho:PE X o to)(ha:PA X (e::es) t)(iE:attributeBase o name X.env (eval o X.env)=eval o X.env:=by rfl)(pR:((backTo fA (starEach (e :: es) X.env)).all (λx=>!x.1) && (backToKw fA (keywordEach [] X.env)).all (λx=>x.1.isSome)
   && decide ((e :: es).length + ([]:List Keyword).length + (if ([]:List Keyword).isEmpty then 0 else 1) < 30))=true:=by rfl)(iD:(apos.endLine==fA.line)=true:=by rfl)(hs:starEach (e::es) X.env=(false,eval e X.env)::starEach es X.env:=by rfl)(fU:(backTo fA (starEach es X.env)).any (·.1)=false:=by rfl) :
  PE X (.Call (.Attribute o name apos) (e::es) [] fA) (Kz X.K T r to t):=by
 intro pins s Z H Q I h;refine wpAny_Call_method_late iE pR iD rfl (cz (ho pins s Z H _ I h) λv s1 ⟨x,H1,I1,r1,ty,q1⟩=>?_);obtain⟨h1,h2⟩:=Ir I1 r1 ty;refine⟨T,id,pa,slot,mX,h1,h2,?_⟩;have hA:=ha fA pins s1 Z H1 _ I1 q1;rw[hs] at hA ⊢;refine Calls.callWith_builtin (by show(false||(backTo fA (starEach es X.env)).any (·.1))=false;rw[fU]<;>rfl) (Calls.evalArgs_plain ?_);exact cz hA λus s2 ⟨vs,H2,I2,r2,q2⟩=>hm pins s2 Z H2 x vs v us Q I2 r1 r2 q2
end
end L2
namespace L2
open PySem PySem.Spec PyProof.Rows
noncomputable def JS(X:Cx)(id:String)(r:V->List V->Hp->VK->Prop):Prop :=
 ∀(pins:List (Addr×Obj)) (s:Shared) (Z:St) (H:Hp) (x:V) (xs:List V) (v:Value) (us:List Value) (Q:VK),Inv X pins Z H s->RelV x v->Vals xs us->r x xs H Q ->
  wpAny (model X.prog X.w) X.A (call (.builtin id) (v::us)) (EP X pins Z Q) X.xe s
theorem Vals.one{x:V}{us:List Value}(h:Vals [x] us):∃u,us=[u]/\RelV x u:=by
 cases h with
 |cons r h =>
  cases h;exact⟨_,rfl,r⟩
theorem Vals.zero:∀{us:List Value},Vals [] us->us=[]
 |_,.nil=>rfl
theorem Vals.eraseIdx:∀{xs:List V} {us:List Value} (i:Nat),Vals xs us->Vals (xs.eraseIdx i) (us.eraseIdx i)
 |_,_,_,.nil=>.nil
 |_,_,0,.cons _ t=>t
 |_,_,i+1,.cons r t=>.cons r (Vals.eraseIdx i t)
theorem Vals.reverse{xs:List V}{us:List Value}(h:Vals xs us):Vals xs.reverse us.reverse:=by
 induction h with
 |nil=>exact .nil
 |cons r t ih=>rw[fZ,fZ];exact Vals.append ih (.cons r .nil)
theorem Vals.rep{xs:List V}{us:List Value}(h:Vals xs us):∀k:Nat,Vals (List.replicate k xs).flatten (List.replicate k us).flatten
 |0=>.nil
 |k+1=>by
  rw[bT,bT,cS,cS];exact Vals.append h (Vals.rep h k)
theorem GH{α:Type}:∀(l:List α) (i:Nat),(l.eraseIdx i).length<=l.length
 |[],_=>av _
 |_::_,0=>fY _
 |_::r,i+1=>Nat.succ_le_succ (GH r i)
theorem foldl_rep(aR:List Value):∀(k:Nat) (acc:List Value),
  List.foldl (λx1 x2=>x1++x2) acc.toArray (List.replicate k aR.toArray)=(acc++(List.replicate k aR).flatten).toArray
 |0,acc=>by simp
 |k+1,acc=>by
  have e:acc.toArray++aR.toArray=(acc++aR).toArray:=by simp
  have e2:(acc++aR)++(List.replicate k aR).flatten=acc++(List.replicate (k+1) aR).flatten:=by
   rw[bT,cS,gb]
  rw[<- e2,<- foldl_rep aR k (acc++aR),<- e,bT,ly]
section
variable{X:Cx}{pins:List (Addr×Obj)}{Z:St}{H:Hp}{s:Shared}{l b:Addr}{xs ys zs:List V}
theorem Inv.rW{aR its':List Value}{n:Nat}{f:Array Value->Array Value}{t':Nat}(I:Inv X pins Z H s)(hH:H l=some (.lst xs))(e:s.heap.get? l=some { cls:=.type "list",data:=.seq aR.toArray n })(hf:f aR.toArray=its'.toArray)(hv:Vals ys its')(hz:ys.length<=sizeLine) :
  Inv X pins Z (upd H l (.lst ys)) { s with heap:=s.heap.update l (Obj.mapSeq f),toks:=t' }:=by
 have q:=PySem.IsL.update e f;rw[hf] at q;refine I.write (x:=l) (e:=l) (by rw[hH];exact trivial) (.inl rfl) (λb' u hb hu=>(bV s.heap (Obj.mapSeq f) (bD hb)).trans hu) ⟨_,q⟩ ?_;exact⟨hz,its',_,hv,q⟩
theorem Inv.FF{aR:List Value}{t':Nat}(I:Inv X pins Z H s)(hv:Vals ys aR)(hz:ys.length<=sizeLine) :
  Inv X pins Z (upd H s.heap.objs.size (.lst ys)) { s with heap:=s.heap.push { cls:=.type "list",data:=.seq aR.toArray },toks:=t' } :=
 I.laid (λ_ _ q=>au _ q) (av _) ⟨hz,aR,0,hv,aC _ rfl⟩
theorem Inv.fresh(I:Inv X pins Z H s):H s.heap.objs.size=none:=I.bG.fresh (av _)
theorem Inv.vt(I:Inv X pins Z H s)(hH:H l=some (.lst xs)):xs.length<=sizeLine/\∃(aR:List Value) (n:Nat),Vals xs aR/\xs.length=aR.length/\s.heap.get? l=some { cls:=.type "list",data:=.seq aR.toArray n }:=by
 obtain⟨z,aR,n,r,e⟩:=I.bG l _ hH;exact⟨z,aR,n,r,r.length,e⟩
theorem a42{n:Nat}(h:n<=sizeLine):Builtin.List.listTooLong n=false:=by
 unfold Builtin.List.listTooLong;exact aF (by omega)
end
section
variable{X:Cx}
noncomputable def Sy:V->List V->Hp->VK->Prop:=λx vs H Q=>∃l xs y,x=.ref l/\vs=[y]/\H l=some (.lst xs)/\xs.length<sizeLine/\Q .bO (upd H l (.lst (xs++[y])))
theorem XE:JS X "list.append" Sy:=by
 intro pins s Z H x vs v us Q I rx rv h;obtain⟨l,xs,y,rfl,rfl,hH,hz,q⟩:=h;cases rx;obtain⟨u,rfl,ru⟩:=rv.one;obtain⟨z,aR,n,r,hl,e⟩:=I.vt hH;refine eU F.slot_list_append ⟨_,e,rfl⟩ F.entry_list_append (F.args_list_append_2 _ _) (PySem.list_append l aR.toArray n u (by rw[aA];omega)) ⟨e,?_⟩;refine⟨.bO,_,I.rW (its':=aR++[u]) hH e (by simp) (r.append (.cons ru .nil)) ?_,rfl,q⟩;rw[bc,iq];omega
noncomputable def Qi:V->List V->Hp->VK->Prop:=λx vs H Q=>∃l xs i k y,x=.ref l/\vs=[.int i]/\H l=some (.lst xs)/\-(2 ^ 63)<=i/\i<2 ^ 63/\seqIndex? i xs.length=some k/\xs[k]?=some y/\Q y (upd H l (.lst (xs.eraseIdx k)))
theorem a45:JS X "list.pop" Qi:=by
 intro pins s Z H x vs v us Q I rx rv h;obtain⟨l,xs,i,k,y,rfl,rfl,hH,h1,h2,hk,hy,q⟩:=h;cases rx;obtain⟨u,rfl,ru⟩:=rv.one;obtain⟨t,rfl⟩:=ru;obtain⟨z,aR,n,r,hl,e⟩:=I.vt hH;obtain⟨w,hw,fE⟩:=r.get hy;refine eU F.slot_list_pop ⟨_,e,rfl⟩ F.entry_list_pop (F.args_list_pop_2 _ _)
  (MeetsSeq.list_pop_at l aR.toArray n i t k w (fitsIndex_both h1 h2) (by rw[aA,<- hl];exact hk) (by rw[<- iu];exact hw) (by rw[aA];omega)) ⟨e,?_⟩
 refine⟨y,_,I.rW (its':=aR.eraseIdx k) hH e ?_ (r.eraseIdx k) ?_,fE,q⟩
 ·show aR.toArray.eraseIdxIfInBounds k=(aR.eraseIdx k).toArray;rw[List.eraseIdxIfInBounds_toArray]
 ·have:=GH xs k;omega
noncomputable def Uq:R2:=λx y H Q=>∃l b xs zs,x=.ref l/\y=.ref b/\H l=some (.lst xs)/\H b=some (.lst zs)/\xs.length+zs.length<=sizeLine/\∀p,H p=none->Q (.ref p) (upd H p (.lst (xs++zs)))
theorem Pf:fh X (binaryOp .Add) Uq:=by
 intro pins s Z H x y v u Q I rx ry h;obtain⟨l,b,xs,zs,rfl,rfl,hH,hB,hz,q⟩:=h;cases rx;cases ry;obtain⟨z,aR,n,r,hl,e⟩:=I.vt hH;obtain⟨z2,lM,n2,r2,Mf,e2⟩:=I.vt hB;refine PySem.P.add_list e e2 ?_ (by rw[aA,aA];omega);have ea:aR.toArray++lM.toArray=(aR++lM).toArray:=by simp
 rw[ea];exact⟨.ref _,_,I.FF (t':=s.toks) (r.append r2) (by rw[bc];omega),rfl,q _ I.fresh⟩
noncomputable def Uu:R2:=λx y H Q=>∃l k xs,x=.ref l/\y=.int k/\H l=some (.lst xs)/\-(2 ^ 63)<=k/\k<2 ^ 63/\xs.length*k.toNat<=sizeLine /\
 ∀p,H p=none->Q (.ref p) (upd H p (.lst (List.replicate k.toNat xs).flatten))
theorem len_rep{α:Type}(xs:List α)(k:Nat):(List.replicate k xs).flatten.length=k*xs.length:=by
 induction k with
 |zero=>simp
 |succ k ih=>rw[bT,cS,bc,ih,Nat.succ_mul,Nat.add_comm]
theorem Pm:fh X (binaryOp .Mult) Uu:=by
 intro pins s Z H x y v u Q I rx ry h;obtain⟨l,k,xs,rfl,rfl,hH,h1,h2,hz,q⟩:=h;cases rx;obtain⟨t,rfl⟩:=ry;obtain⟨z,aR,n,r,hl,e⟩:=I.vt hH;have hlen:aR.toArray.size*k.toNat<=sizeLine:=by rw[aA,<- hl];exact hz
 have zC:¬aR.toArray.size*k.toNat>(2 ^ 63-1) / 8:=by
  have:(sizeLine:Nat)<=(2 ^ 63-1) / 8:=by decide
  omega
 have zz:¬(!Builtin.List.listFitsIndex k)=true:=by
  rw[fitsIndex_both h1 h2];exact dk
 have uf:¬Builtin.List.listTooLong (aR.toArray.size*k.toNat)=true:=by
  rw[a42 hlen];exact dk
 have zj:List.foldl (λx1 x2=>x1++x2) #[] (List.replicate (if aR.toArray.isEmpty=true then 0 else k.toNat) aR.toArray)=(List.replicate k.toNat aR).flatten.toArray:=by
  have f0:∀m:Nat,List.foldl (λx1 x2=>x1++x2) #[] (List.replicate m aR.toArray)=(List.replicate m aR).flatten.toArray:=λm=>by
   have:=foldl_rep aR m [];rw[List.nil_append] at this;exact this
  rw[f0];cases aR with
  |nil=>simp
  |cons a r'=>rw[if_neg (by simp)]
 refine Di (T:="list") (U:="int") (by decide) ⟨_,e,rfl⟩ (λs'=>lq s' k t) noFill_list_mul F.fills_int_mul ji repeat_list F.slot_int_index.lookup
  (eU ji (lq s k t) F.entry_int_rmul (F.args_int_rmul_2 _ _) (int___rmul___int_list k t l aR.toArray n)
   ⟨e,rfl,⟨_,e,rfl⟩,eU F.slot_list_mul ⟨_,e,rfl⟩ F.entry_list_mul (F.args_list_mul_2 _ _) (AutoListH.list___mul___list_int_3 l aR.toArray n k t zz zC uf) ⟨e,?_⟩⟩)
 rw[zj];exact⟨.ref _,_,I.FF (t':=s.toks) (r.rep k.toNat) (by rw[len_rep,sH];exact hz),rfl,q _ I.fresh⟩
end
section
variable{prog:Program}{w:World}{A:Around}{E:Value->Shared->Prop}{s:Shared}
end
section
variable{X:Cx}
end
end L2

namespace L2
open PySem PySem.Spec PyProof.Rows
section
variable{κ:Type}[DecidableEq κ]
noncomputable def K0(kvs:List (κ×V))(k:κ):Option V:=(kvs.find? λkv=>decide (kv.1=k)).map (·.2)
noncomputable def putK(kvs:List (κ×V))(k:κ)(v:V):List (κ×V) :=
 if(kvs.any λkv=>decide (kv.1=k))=true then kvs.map (λkv=>if kv.1=k then(kv.1,v) else kv) else kvs++[(k,v)]
theorem Bv{p:κ×V}{r:List (κ×V)}{k:κ}(e:p.1=k):K0 (p::r) k=some p.2:=by simp[K0,List.find?_cons,e]
theorem Bu{p:κ×V}{r:List (κ×V)}{k:κ}(e:¬p.1=k):K0 (p::r) k=K0 r k:=by simp[K0,List.find?_cons,e]
theorem Gn(k:κ):∀kvs:List (κ×V),(kvs.any λkv=>decide (kv.1=k))=(K0 kvs k).isSome
 |[]=>rfl
 |p::r=>by
  rw[fg];by_cases e:p.1=k
  ·simp only[Bv e,decide_eq_true e,Bool.true_or,Option.isSome_some]
  ·rw[Bu e,aF e,pj];exact Gn k r
theorem V8(kvs:List (κ×V))(k:κ)(v:V):(putK kvs k v).length<=kvs.length+1:=by
 unfold putK;split
 ·rw[ah];omega
 ·rw[bc,cK,List.length_nil];omega
theorem E9.O1{o:Option V}{u:Option Value}(r:E9 o u):o.isSome=u.isSome:=by
 cases o with
 |none=>cases u with
  |none=>rfl
  |some _=>exact(show False from r).elim
 |some _=>cases u with
  |none=>exact(show False from r).elim
  |some _=>rfl
theorem E9.getD{o:Option V}{u:Option Value}{d:V}{d':Value}(r:E9 o u)(rd:RelV d d'):RelV (o.getD d) (u.getD d'):=by
 cases o with
 |none=>cases u with
  |none=>exact rd
  |some _=>exact(show False from r).elim
 |some _=>cases u with
  |none=>exact(show False from r).elim
  |some _=>exact r
theorem KV.val{kvs:List (κ×V)}{vs:List (κ×Value)}(r:KV kvs vs)(k:κ):E9 (K0 kvs k) (valueAt vs k):=by
 unfold KV at r
 induction r with
 |nil=>exact True.intro
 |@cons p q ps qs h t ih =>
  obtain⟨h1,h2⟩:=h;by_cases e:p.1=k
  ·have e':q.1=k:=h1.symm.trans e;have b:valueAt (q::qs) k=some q.2:=by simp[valueAt,List.find?_cons,e']
   rw[Bv e,b];exact h2
  ·have e':¬q.1=k:=λz=>e (h1.trans z);have b:valueAt (q::qs) k=valueAt qs k:=by simp[valueAt,List.find?_cons,e']
   rw[Bu e,b];exact ih
theorem KV.any{kvs:List (κ×V)}{vs:List (κ×Value)}(r:KV kvs vs)(k:κ):(kvs.any λkv=>decide (kv.1=k))=vs.any λkv=>decide (kv.1=k):=by
 unfold KV at r
 induction r with
 |nil=>rfl
 |cons h t ih=>rw[fg,fg,ih,h.1]
theorem KV.CT{kvs:List (κ×V)}{vs:List (κ×Value)}(r:KV kvs vs)(k:κ){y:V}{u:Value}(ry:RelV y u) :
  KV (kvs.map λkv=>if kv.1=k then(kv.1,y) else kv) (vs.map λkv=>if kv.1=k then(kv.1,u) else kv):=by
 unfold KV at r ⊢
 induction r with
 |nil=>exact .nil
 |@cons p q ps qs h t ih =>
  rw[aY,aY];refine .cons ?_ ih;obtain⟨h1,h2⟩:=h;by_cases e:p.1=k
  ·rw[aH e,aH (h1.symm.trans e)];exact⟨h1,ry⟩
  ·rw[aB e,aB (λz=>e (h1.trans z))];exact⟨h1,h2⟩
theorem KV.put{kvs:List (κ×V)}{vs:List (κ×Value)}(r:KV kvs vs)(k:κ){y:V}{u:Value}(ry:RelV y u):KV (putK kvs k y) (stored vs k u):=by
 unfold putK stored;rw[r.any k];by_cases e:(vs.any λkv=>decide (kv.1=k))=true
 ·rw[aH e,aH e];exact r.CT k ry
 ·rw[aB e,aB e];exact Paired.snoc r ⟨rfl,ry⟩
theorem KV.keys{kvs:List (κ×V)}{vs:List (κ×Value)}(r:KV kvs vs):kvs.map (·.1)=vs.map (·.1):=by
 unfold KV at r
 induction r with
 |nil=>rfl
 |cons h t ih=>rw[aY,aY,ih,h.1]
theorem KV.length{kvs:List (κ×V)}{vs:List (κ×Value)}(r:KV kvs vs):kvs.length=vs.length:=kP r
end
theorem qI{P:Program}{w:World}{k:Key}{u:Value}(r:RelV (kV k) u):(p6 P w).is k u=true:=by
 cases k with
 |inl i=>obtain⟨t,e⟩:=(show ∃t,u=Value.int i t from r);subst e;exact Zo P w i t
 |inr x=>obtain⟨t,e⟩:=(show ∃t,u=Value.str x t from r);subst e;exact Zp P w x t
theorem GG{P:Program}{w:World}:∀{ks:List Key} {us:List Value},Vals (ks.map kV) us->ItemsAre (p6 P w) ks us
 |[],_,r=>by rw[sJ] at r;cases r;exact .nil
 |k::ks,_,r=>by
  rw[aY] at r;cases r with
  |cons h t=>exact .cons (qI h) (GG t)
noncomputable abbrev KT(H:Hp):List (List Key×V)->List (List Key×Addr×Value)->Prop:=Paired λp q=>p.1=q.1/\H q.2.1=some (.tup (p.1.map kV))/\RelV p.2 q.2.2
theorem KT.val{H:Hp}{kvs:List (List Key×V)}{xs:List (List Key×Addr×Value)}(r:KT H kvs xs)(k:List Key):E9 (K0 kvs k) ((atKey xs k).map (·.2)):=by
 induction r with
 |nil=>exact True.intro
 |@cons p q ps qs h t ih =>
  obtain⟨h1,_,h2⟩:=h;by_cases e:p.1=k
  ·have e':q.1=k:=h1.symm.trans e;have b:atKey (q::qs) k=some q.2:=by simp[atKey,List.find?_cons,e']
   rw[Bv e,b];exact h2
  ·have e':¬q.1=k:=λz=>e (h1.trans z);have b:atKey (q::qs) k=atKey qs k:=by simp[atKey,List.find?_cons,e']
   rw[Bu e,b];exact ih
theorem KT.CT{H:Hp}{kvs:List (List Key×V)}{xs:List (List Key×Addr×Value)}(r:KT H kvs xs)(k:List Key){y:V}{u:Value}(ry:RelV y u) :
  KT H (kvs.map λkv=>if kv.1=k then(kv.1,y) else kv) (xs.map (putAt k u)):=by
 induction r with
 |nil=>exact .nil
 |@cons p q ps qs h t ih =>
  rw[aY,aY];refine .cons ?_ ih;obtain⟨h1,h2,h3⟩:=h;unfold putAt;by_cases e:p.1=k
  ·rw[aH e,aH (h1.symm.trans e)];exact⟨h1,h2,ry⟩
  ·rw[aB e,aB (λz=>e (h1.trans z))];exact⟨h1,h2,h3⟩
theorem KT.put{H:Hp}{kvs:List (List Key×V)}{xs:List (List Key×Addr×Value)}(r:KT H kvs xs)(k:List Key){b:Addr}{y:V}{u:Value}(hb:H b=some (.tup (k.map kV)))(ry:RelV y u) :
  KT H (putK kvs k y) (storedH xs k b u):=by
 have e:(kvs.any λkv=>decide (kv.1=k))=(atKey xs k).isSome:=by
  rw[Gn,(r.val k).O1,jL]
 unfold putK storedH;rw[e];by_cases q:(atKey xs k).isSome=true
 ·rw[aH q,aH q];exact r.CT k ry
 ·rw[aB q,aB q];exact Paired.snoc r ⟨rfl,hb,ry⟩
theorem KT.keeps{H H':Hp}{kvs:List (List Key×V)}{xs:List (List Key×Addr×Value)}(r:KT H kvs xs)(ht:∀b ys,H b=some (.tup ys)->H' b=some (.tup ys)):KT H' kvs xs :=
 Paired.CQ r λ_ _ z=>⟨z.1,ht _ _ z.2.1,z.2.2⟩
section
variable{P:Program}{w:World}{H:Hp}{h:Heap}{a:Addr}
theorem JD{u:HO}(ok:fK P w H h)(e:Rd H a u):m8 P w H h a u:=e.ok ok
theorem qH{kvs:List (Key×V)}(ok:fK P w H h)(e:Rd H a (.dK kvs)):kvs.length<=sizeLine/\(a==sysModules)=false/\∃vs,KV kvs vs/\h.DictOf (p6 P w) a vs :=
 show m8 P w H h a (.dK kvs) from JD ok e
theorem Ga{kvs:List (Key×V)}(ok:fK P w H h)(e:H a=some (.dK kvs)):kvs.length<=sizeLine/\(a==sysModules)=false/\∃vs,KV kvs vs/\h.DictOf (p6 P w) a vs:=qH ok (.inl e)
theorem X6{ks:List Key}(ok:fK P w H h)(e:H a=some (.tup (ks.map kV))):(tupleKind (p6 P w)).is h ks a:=by
 obtain⟨_,aR,r,o,h1,h2,⟨n,h3⟩,_⟩:=(show m8 P w H h a (.tup (ks.map kV)) from ok a _ e)
 exact⟨o,aR.toArray,n,h1,h2,h3,by simpa using GG r⟩
theorem sf{kvs:List (List Key×V)}(ok:fK P w H h)(e:Rd H a (.dT kvs)):kvs.length<=sizeLine/\(a==sysModules)=false /\
  ∃xs,KT H kvs xs/\h.DictOfH (tupleKind (p6 P w)) a xs:=by
 obtain⟨z,y,xs,r,o,es,ep,h1,h2,h3,h4,h5⟩:=(show m8 P w H h a (.dT kvs) from JD ok e)
 refine⟨z,y,xs,r,o,es,ep,h1,h2,h3,h4,λx hx=>?_,h5⟩;have all:∀{l:List (List Key×V)} {m:List (List Key×Addr×Value)},KT H l m->∀x∈m,(tupleKind (p6 P w)).is h x.1 x.2.1:=by
  intro l m q
  induction q with
  |nil=>intro x hx;exact nomatch hx
  |@cons p q ps qs hq t ih =>
   intro x hx;rcases aE.mp hx with e|hx
   ·subst e;exact X6 ok (by rw[<- hq.1];exact hq.2.1)
   ·exact ih x hx
 exact all r x hx
theorem Vo{kvs:List (List Key×V)}(ok:fK P w H h)(e:H a=some (.dT kvs)):kvs.length<=sizeLine/\(a==sysModules)=false /\
  ∃xs,KT H kvs xs/\h.DictOfH (tupleKind (p6 P w)) a xs:=sf ok (.inl e)
end
noncomputable def O4(H:Hp)(a:Addr)(y:V)(r:Option V):Prop :=
 (∃kvs k,Rd H a (.dK kvs)/\y=kV k/\r=K0 kvs k)\/∃kvs k b,Rd H a (.dT kvs)/\y=.ref b/\H b=some (.tup (k.map kV))/\r=K0 kvs k
noncomputable def xP(H:Hp)(a:Addr)(y v:V)(H':Hp):Prop :=
 (∃kvs k,H a=some (.dK kvs)/\y=kV k/\kvs.length<sizeLine/\H'=upd H a (.dK (putK kvs k v))) \/
 ∃kvs k b,H a=some (.dT kvs)/\y=.ref b/\H b=some (.tup (k.map kV))/\kvs.length<sizeLine/\H'=upd H a (.dT (putK kvs k v))
theorem O4.k{H:Hp}{a:Addr}{kvs:List (Key×V)}{k:Key}(e:H a=some (.dK kvs)):O4 H a (kV k) (K0 kvs k):=.inl ⟨kvs,k,.inl e,rfl,rfl⟩
theorem xP.k{H:Hp}{a:Addr}{kvs:List (Key×V)}{k:Key}{v:V}(e:H a=some (.dK kvs))(hl:kvs.length<sizeLine):xP H a (kV k) v (upd H a (.dK (putK kvs k v))):=.inl ⟨kvs,k,e,rfl,hl,rfl⟩
section
variable{X:Cx}{pins:List (Addr×Obj)}{Z:St}{H:Hp}{s:Shared}{a:Addr}{y v:V}{u r:Value}{o:Option V}{A:Around}{E:Value->Shared->Prop}
theorem Inv.big(I:Inv X pins Z H s):sysModules<s.heap.objs.size:=by
 have h:mainGlobals<s.heap.objs.size:=(I.mod.glob.keeps I.bk).lt;exact cI (by decide) h
theorem Xp{Q:Value->Shared->Prop}(hu:A.units+1<cLine)(I:Inv X pins Z H s)(g:O4 H a y (some v))(ry:RelV y u)(h:∀w' s',Inv X pins Z H s'->RelV v w'->Q w' s') :
  wpAny (model X.prog X.w) A (getItem (.ref a) u) Q E s:=by
 rcases g with⟨kvs,k,e,ey,l⟩|⟨kvs,k,b,e,ey,eb,l⟩
 ·subst ey;obtain⟨z,hd,vs,rel,dd⟩:=qH I.bG e;obtain⟨w',hw,fE⟩:=E9.some_of (v:=v) (o:=valueAt vs k) (by rw[l];exact rel.val k);exact wpAny_getItem_of (qI ry) dd.mapOf hw (h w' _ (I.tok _) fE)
 ·subst ey;cases (show u=Value.ref b from ry);obtain⟨z,hd,xs,rel,dd⟩:=sf I.bG e;obtain⟨w',hw,fE⟩:=E9.some_of (v:=v) (o:=(atKey xs k).map (·.2)) (by rw[l];exact rel.val k);obtain⟨p,hp,uc⟩:=ae.mp hw;refine wpAny_getItem_heap (eT hu) (X6 I.bG eb) dd hp ?_;rw[uc];exact h w' _ (I.tok _) fE
theorem TJ{Q:Value->Shared->Prop}(hu:A.units+1<cLine)(I:Inv X pins Z H s)(g:O4 H a y o)(ry:RelV y u)(h:∀s',Inv X pins Z H s'->Q (.bool o.isSome) s') :
  wpAny (model X.prog X.w) A (compareOp .In u (.ref a)) Q E s:=by
 rcases g with⟨kvs,k,e,ey,l⟩|⟨kvs,k,b,e,ey,eb,l⟩
 ·subst ey;obtain⟨z,hd,vs,rel,dd⟩:=qH I.bG e;refine wpAny_in_of (qI ry) hd dd.mapOf ?_;rw[<- (rel.val k).O1,<- l];exact h _ (I.tok _)
 ·subst ey;cases (show u=Value.ref b from ry);obtain⟨z,hd,xs,rel,dd⟩:=sf I.bG e;refine wpAny_in_heap (eT hu) (X6 I.bG eb) hd dd ?_;have q:=(rel.val k).O1;rw[jL] at q;rw[<- q,<- l];exact h _ (I.tok _)
theorem Ru{Q:Value->Shared->Prop}(hu:A.units+1<cLine)(I:Inv X pins Z H s)(g:O4 H a y o)(ry:RelV y u)(h:∀s',Inv X pins Z H s'->Q (.bool (!o.isSome)) s') :
  wpAny (model X.prog X.w) A (compareOp .NotIn u (.ref a)) Q E s:=by
 rcases g with⟨kvs,k,e,ey,l⟩|⟨kvs,k,b,e,ey,eb,l⟩
 ·subst ey;obtain⟨z,hd,vs,rel,dd⟩:=qH I.bG e;refine wpAny_notIn_of (qI ry) hd dd.mapOf ?_;rw[<- (rel.val k).O1,<- l];exact h _ (I.tok _)
 ·subst ey;cases (show u=Value.ref b from ry);obtain⟨z,hd,xs,rel,dd⟩:=sf I.bG e;refine wpAny_notIn_heap (eT hu) (X6 I.bG eb) hd dd ?_;have q:=(rel.val k).O1;rw[jL] at q;rw[<- q,<- l];exact h _ (I.tok _)
theorem AV{h':Heap}{t':Nat}{ob:HO}(I:Inv X pins Z H s)(mu:vD (H a))(hs:Heap.SameBut a s.heap h')(he:∃q,h'.get? a=some q)(new:m8 X.prog X.w (upd H a ob) h' a ob) :
  Inv X pins Z (upd H a ob) { s with heap:=h',toks:=t' } :=
 I.write (x:=a) (e:=a) mu (.inl rfl) (λb q hb z=>(hs.2 b hb).trans z) he new
theorem HW{P:Program}{w:World}{H':Hp}{h':Heap}{kvs:List (Key×V)}{vs:List (Key×Value)}(z:kvs.length<=sizeLine)(hd:(a==sysModules)=false)(rel:KV kvs vs)(dd:h'.DictOf (p6 P w) a vs) :
  m8 P w H' h' a (.dK kvs):=⟨z,hd,vs,rel,dd⟩
theorem Xq{H':Hp}{Q:Unit->Shared->Prop}(hu:A.units+1<cLine)(I:Inv X pins Z H s)(g:xP H a y v H')(ry:RelV y u)(rv:RelV v r)(h:∀s',Inv X pins Z H' s'->Q () s') :
  wpAny (model X.prog X.w) A (setItem (.ref a) u r) Q E s:=by
 rcases g with⟨kvs,k,e,ey,l,eH⟩|⟨kvs,k,b,e,ey,eb,l,eH⟩
 ·subst ey eH;obtain⟨z,hd,vs,rel,dd⟩:=Ga I.bG e;have hz:vs.length<=sizeLine:=by rw[<- rel.length];exact z
  have hl:(putK kvs k v).length<=sizeLine:=by have:=V8 kvs k v;omega
  refine wpAny_setItem_pairs (hsz:=hz) (qI ry) dd λh' qr hs=>h _ ?_;have he:∃q,h'.get? a=some q:=let ⟨q,_,_,hq,_⟩:=qr;⟨q,hq⟩
  exact AV I (by rw[e];exact True.intro) hs he (HW hl hd (rel.put k rv) qr)
 ·subst ey eH;cases (show u=Value.ref b from ry);obtain⟨z,hd,xs,rel,dd⟩:=Vo I.bG e;have hz:xs.length<=sizeLine:=by rw[<- kP rel];exact z
  have hl:(putK kvs k v).length<=sizeLine:=by have:=V8 kvs k v;omega
  refine wpAny_setItem_heap (hsz:=hz) (eT hu) (X6 I.bG eb) dd λh' qr hs=>h _ ?_;obtain⟨q,es,ep,hq,h2,h3,h4,_,h5⟩:=qr;refine AV I (by rw[e];exact True.intro) hs ⟨q,hq⟩ ⟨hl,hd,_,(rel.put k eb rv).keeps λc ys ec=>?_,q,es,ep,hq,h2,h3,h4,h5⟩;rw[i3 (VM ec e (λz=>nomatch z))];exact ec
end
section
variable{X:Cx}{pins:List (Addr×Obj)}{Z:St}{H:Hp}{s:Shared}{a:Addr}{kvs:List (Key×V)}{k:Key}{u:Value}{A:Around}{E:Value->Shared->Prop}
theorem Vm{Q:Value->Shared->Prop}(I:Inv X pins Z H s)(e:Rd H a (.dK kvs))(h:∀t s',Inv X pins Z H s'->Q (.int kvs.length t) s'):wpAny (model X.prog X.w) A (call (.builtin "len") [.ref a]) Q E s:=by
 obtain⟨z,hd,vs,rel,dd⟩:=qH I.bG e;refine call_len_dict hd dd (by rw[<- rel.length];rw[jK] at z;omega) ?_;rw[<- rel.length];exact h _ _ (I.tok _)
end
theorem Zi{X:Cx}{pins:List (Addr×Obj)}{Z:St}{H:Hp}{s:Shared}{a:Addr}{y:V}{o:Option V}(I:Inv X pins Z H s)(g:O4 H a y o):s.TypeIs (.ref a) "dict":=by
 rcases g with⟨kvs,k,e,_,_⟩|⟨kvs,k,b,e,_,_,_⟩
 ·obtain⟨_,_,vs,_,dd⟩:=qH I.bG e;exact dd.typeIs
 ·obtain⟨_,_,xs,_,dd⟩:=sf I.bG e;exact dd.typeIs
section
variable{X:Cx}{o i e value:Expr}{pos pos' yt:Pos}{td ty tv:TE}
end
theorem Jl{P:Program}{w:World}{H:Hp}(h:Heap)(hb:sysModules<h.objs.size):m8 P w H (h.push { cls:=.type "dict",data:=.dict #[] }) h.objs.size (.dK []) :=
 ⟨cE _,cZ.mpr (bD (aN hb)),[],.nil,Heap.DictOf.new h⟩
noncomputable def QS:TE:=λ_ H Q=>∀p,H p=none->Q (.ref p) (upd H p (.dK []))
section
variable{X:Cx}{pos:Pos}
theorem a38:PE X (.Dict [] [] pos) QS:=λpins s Z H Q I h =>
 wpAny_Dict_empty ⟨.ref s.heap.objs.size,_,I.laid (a:=s.heap.objs.size) (o:=.dK []) (t':=s.toks) (λ_ _ q=>au _ q) (av _) (Jl s.heap I.big),rfl,h _ (I.bG.fresh (av _))⟩
end
noncomputable def xp:List (TE×TE)->St->Hp->(List (V×V)->Hp->Prop)->Prop
 |[],_,H,Q=>Q [] H
 |(tk,tv)::r,Z,H,Q=>tk Z H λx H1=>tv Z H1 λy H2=>xp r Z H2 λps H3=>Q ((x,y)::ps) H3
noncomputable abbrev VV:List (V×V)->List (Value×Value)->Prop:=Paired λp q=>RelV p.1 q.1/\RelV p.2 q.2
noncomputable def vB(X:Cx)(pos:Pos)(keys:List (Option Expr))(values:List Expr)(gP:List (TE×TE)):Prop :=
 ∀(pins:List (Addr×Obj)) (s:Shared) (Z:St) (H:Hp) (Q:List (V×V)->Hp->Prop),Inv X pins Z H s->xp gP Z H Q ->
  wpAny (model X.prog X.w) X.A (evalPairs (pairTrees keys values X.env pos)) (λvs s'=>∃ps H',Inv X pins Z H' s'/\VV ps vs/\Q ps H') X.xe s
theorem So{X:Cx}{pos:Pos}:vB X pos [] [] []:=λpins s Z H Q I h=>pairTrees_nil_walk ⟨[],H,I,.nil,h⟩
theorem a30{X:Cx}{pos:Pos}{k v:Expr}{ks:List (Option Expr)}{vs:List Expr}{tk tv:TE}{gP:List (TE×TE)}(hk:PE X k tk)(hv:PE X v tv)(hr:vB X pos ks vs gP) :
  vB X pos (some k::ks) (v::vs) ((tk,tv)::gP):=λpins s Z H Q I h =>
 pairTrees_cons_walk (cz (hk pins s Z H _ I h) λu s1 ⟨x,H1,I1,rx,q1⟩=>cz (hv pins s1 Z H1 _ I1 q1) λw2 s2 ⟨y,H2,I2,ry,q2⟩ =>
  cz (hr pins s2 Z H2 _ I2 q2) λws s3 ⟨ps,H3,I3,rel,q3⟩=>⟨(x,y) :: ps,H3,I3,.cons ⟨rx,ry⟩ rel,q3⟩)
noncomputable def R5(kvs more:List (Key×V)):List (Key×V):=more.foldl (λacc kv=>putK acc kv.1 kv.2) kvs
theorem KV.merge:∀{more:List (Key×V)} {rs:List (Key×Value)} {kvs:List (Key×V)} {vs:List (Key×Value)},KV more rs->KV kvs vs->KV (R5 kvs more) (merged vs rs):=by
 intro more rs kvs vs r;unfold KV at r
 induction r generalizing kvs vs with
 |nil=>intro q;exact q
 |@cons p q ps qs h t ih =>
  intro r0;have e:KV (putK kvs p.1 p.2) (stored vs q.1 q.2):=by
   have:=r0.put p.1 h.2;rw[<- h.1];exact this
  exact ih e
theorem HM:∀(more kvs:List (Key×V)),(R5 kvs more).length<=kvs.length+more.length
 |[],kvs=>by show kvs.length<=kvs.length+0;omega
 |p::r,kvs=>by
  have h1:=HM r (putK kvs p.1 p.2);have h2:=V8 kvs p.1 p.2;show(R5 (putK kvs p.1 p.2) r).length<=_;rw[cK];omega
theorem Hc{P:Program}{w:World}:∀{kvs:List (Key×V)} {ws:List (Value×Value)},VV (kvs.map λkv=>(kV kv.1,kv.2)) ws->∃rs,Carries (p6 P w) ws rs/\KV kvs rs
 |[],_,r=>by rw[sJ] at r;cases r;exact⟨[],True.intro,.nil⟩
 |p::kvs,_,r=>by
  rw[aY] at r;cases r with
  |@cons a b as bs h t =>
   obtain⟨rs,c,q⟩:=Hc (P:=P) (w:=w) t;obtain⟨b1,b2⟩:=b;exact⟨(p.1,b2)::rs,⟨qI h.1,rfl,c⟩,.cons ⟨rfl,h.2⟩ q⟩
noncomputable def NY(gP:List (TE×TE)):TE:=λZ H Q=>∀p,H p=none->xp gP Z (upd H p (.dK [])) λps H2=>H2 p=some (.dK [])/\∃kvs:List (Key×V),ps=kvs.map (λkv=>(kV kv.1,kv.2))/\kvs.length<=15/\Q (.ref p) (upd H2 p (.dK (R5 [] kvs)))
theorem Si{X:Cx}{pos:Pos}{keys:List (Option Expr)}{values:List Expr}{gP:List (TE×TE)}(h:vB X pos keys values gP)(pZ:keys.all (·.isSome)=true)(hl:keys.length=values.length)(h0:keys≠[])(oq:keys.length<=15):PE X (.Dict keys values pos) (NY gP):=by
 intro pins s Z H Q I q;have hn:=I.bG.fresh (av s.heap.objs.size);have I1:=I.laid (a:=s.heap.objs.size) (o:=.dK []) (h':=s.heap.push { cls:=.type "dict",data:=.dict #[] }) (t':=s.toks) (λ_ _ q=>au _ q) (av _) (Jl s.heap I.big);refine wpAny_Dict_walk (knd:=p6 X.prog X.w) pZ hl h0 oq (cz (h pins _ Z _ _ I1 (q _ hn)) λws s2 lQ=>?_);obtain⟨ps,H2,I2,rel,e,kvs,ep,lk,q2⟩:=lQ;subst ep;obtain⟨rs,c,rk⟩:=Hc (P:=X.prog) (w:=X.w) rel;obtain⟨z,hd,vs0,r0,dd⟩:=Ga I2.bG e;cases r0;refine⟨rs,c,dd,λh' qr hs=>⟨.ref s.heap.objs.size,_,?_,rfl,q2⟩⟩;have hz:(R5 [] kvs).length<=sizeLine:=by
  have h1:=HM kvs [];rw[List.length_nil] at h1;rw[jK];omega
 have he:∃q,h'.get? s.heap.objs.size=some q:=let ⟨q,_,_,hq,_⟩:=qr;⟨q,hq⟩
 exact AV I2 (by rw[e];exact True.intro) hs he (HW hz hd (rk.merge .nil) qr)
section
variable{X:Cx}{pins:List (Addr×Obj)}{Z:St}{H:Hp}{s:Shared}{a:Addr}{y d:V}{u r:Value}{o:Option V}{A:Around}{E:Value->Shared->Prop}
theorem Ow{Q:Value->Shared->Prop}(hu:A.units+1<cLine)(I:Inv X pins Z H s)(g:O4 H a y o)(ry:RelV y u)(rd:RelV d r)(h:∀w' s',Inv X pins Z H s'->RelV (o.getD d) w'->Q w' s') :
  wpAny (model X.prog X.w) A (call (.builtin "dict.get") [.ref a,u,r]) Q E s:=by
 rcases g with⟨kvs,k,e,ey,l⟩|⟨kvs,k,b,e,ey,eb,l⟩
 ·subst ey;obtain⟨z,hd,vs,rel,dd⟩:=qH I.bG e;refine call_meetsIn ij dd.typeIs sE (qO _ _ _) (meets_dict_get_default (p6 X.prog X.w) a (qI ry) hd r) ⟨_,dd.mapOf,h _ _ (I.tok _) ?_⟩;rw[l];exact(rel.val k).getD rd
 ·subst ey;cases (show u=Value.ref b from ry);obtain⟨z,hd,xs,rel,dd⟩:=sf I.bG e;refine call_meetsIn ij dd.typeIs sE (qO _ _ _) (meetsH_dict_get_default (tupleKind (p6 X.prog X.w)) a b hd r) ⟨eT hu,k,xs,X6 I.bG eb,dd,h _ _ (I.tok _) ?_⟩;rw[l];exact(rel.val k).getD rd
end
section
variable{X:Cx}{o e f:Expr}{apos fA:Pos}{td ty tx:TE}
end
section
variable{X:Cx}{pins:List (Addr×Obj)}{Z:St}{H:Hp}{s:Shared}{a:Addr}{kvs:List (Key×V)}{A:Around}{E:Value->Shared->Prop}
end
section
variable{X:Cx}{pins:List (Addr×Obj)}{Z:St}{H:Hp}{s:Shared}{a:Addr}{y:V}{u:Value}{A:Around}{E:Value->Shared->Prop}
end
end L2

namespace JY
open PySem PySem.W PySem.Calls PyProof.Rows
theorem WO{P:Params}{h:Heap}:∀(ns:List Int) (vs:List Value),WellAll P h vs (ns.map WData.int)->IntsAre vs ns:=by
 intro ns
 induction ns with
 |nil =>
  intro vs w;rw[sJ] at w;cases w;exact .nil
 |cons n ns ih =>
  intro vs w;rw[aY] at w;cases w with
  |cons a b =>
   cases a;exact .cons _ _ (ih _ b)
theorem Yb{l:OpenLaw}{n:Nat}(hn:l.most=some n){P:Params}{h:Heap}{args:List WData}{vals:List Value}(mZ:l.row.toRowW.claim.pre args=true)(yX:WellAll P h vals args) :
  ∃a vs ns,vals=[Value.ref a]/\args=[WData.list (ns.map WData.int)]/\h.get? a=some { cls:=.type "list",data:=.seq vs.toArray }/\IntsAre vs ns/\ns.length<=n:=by
 have wq:WShape.hasAll [] args [.list .int]=true:=(pre_splitW mZ).1;have hc:l.pre.holds [] { args:=args }=true:=(pre_splitW mZ).2;obtain⟨d,r,rfl,h1,h2⟩:=hasAllW_cons wq;obtain rfl:=hasAllW_nil h2;obtain⟨xs,rfl,h3⟩:=hasW_list h1;obtain⟨ns,rfl⟩:=items_int h3;have hlen:ns.length<=n:=by
  unfold OpenLaw.pre at hc;have h4:(WTm.not (.lt (.lit (.int (n:Int))) (.len (.arg 0)))).holds [] { args:=[.list (ns.map .int)] }=true:=by
   have h4:=(holds_andW hc).1;rw[hn] at h4;exact h4
  have h5:=condW_of h4 (w_not (w_lt w_lit (w_len_list (w_arg rfl))));rw[ah] at h5;refine kq λq=>?_;have q':(n:Int)<((ns.length:Nat):Int):=by omega
  first
   |(rw[az q'] at h5;exact absurd h5 (by decide))
   |(simp at h5;omega)
 cases yX with
 |cons w1 w2 =>
  cases w2;cases w1 with
  |list ho pZ=>exact⟨_,_,ns,rfl,rfl,ho,WO ns _ pZ,hlen⟩
theorem XX(l:OpenLaw)(args:List WData):l.row.toRowW.claim.post args (.bool true) args=true :=
 postW_of (r:=l.row.toRowW) (X:=(true==true))
  (show WShape.has [] (.bool true) .bool=true by first|rfl|decide|simp[WShape.has,WShape.arms,WShape.armsAll])
  (show(WTm.eq .res (.lit (.bool true))).value [] { args:=args,res:=some (.bool true),after:=args }=some (.bool (true==true)) from w_eq_bool (w_res rfl) w_lit) rfl
theorem Zf{l:OpenLaw}{n:Nat}{q:Program}{loose:List Str}{XP:(Str->Option Value)->Heap->Prop}{YP:World->Heap->Prop}{d:DefRec}(hn:l.most=some n)(uq:d.params.defaults=[])(call:∀ (w:World) (cX bQ:Shared) (mg mb:Str->Option Value) (fa:Addr) (o:Obj) (pm cd doc:Value) (a:Addr) (vs:List Value) (ns:List Int),
   Ground q loose [] XP w cX mg mb bQ.heap->YP w bQ.heap ->
   bQ.heap.get? fa=some o->o.data=.func (docDef d.name d.params d.body d.scope pm cd doc)->bQ.heap.CodeRec cd d.name->mg d.name=some (.ref fa) ->
   bQ.heap.get? a=some { cls:=.type "list",data:=.seq vs.toArray }->IntsAre vs ns->ns.length<=n->bQ.gens=#[] ->
   codeAny (model l.prog w) callerA (.call (.ref fa) ⟨[.ref a],[]⟩) (λr s'=>r=.ok (.ret (.bool true))/\OldK bQ.heap s'.heap/\s'.os=bQ.os/\AllBare s'.gens) bQ) :
  WalkO q loose XP YP l.row.toRowW d [] (λf vs=>PySem.call f vs):=by
 intro w cX bQ mg mb G Y fa o pm cd doc dV kV ho hd jX hD hmg hg args vals as mZ Mc hrd yX Ek;obtain rfl:dV=.none:=Dflts.none hD uq;obtain rfl:kV=.none:=Dflts.noKw hD;obtain⟨a,vs,ns,rfl,rfl,iC,hints,hlen⟩:=Yb hn mZ yX;refine enter_call (gg (call w cX bQ mg mb fa o pm cd doc a vs ns G Y ho (fd_plain hd) jX hmg iC hints hlen hg) λr s' hq=>?_);obtain⟨rfl,h2,h3,h4⟩:=hq;exact⟨.inl ⟨.bool true,.bool true,[],rfl,λ_=>rfl,.bool true,XX l _,λ_=>⟨List.Pairwise.nil,λ_ hm=>(nomatch hm)⟩⟩,h2,h3,h4⟩
section
variable{prog:Program}{w:World}{A:Around}{E:Value->Shared->Prop}{s:Shared}{K:Frag}
end
end JY
namespace L2
open PySem PySem.Spec PyProof.Rows
theorem GX:∀{vs:List Value} {ns:List Int},IntsAre vs ns->Vals (ns.map V.int) vs
 |_,_,.nil=>.nil
 |_,_,.cons n t h=>.cons ⟨t,rfl⟩ (GX h)
noncomputable def xQ(H:Hp):Prop:=∀b,H b=none\/∃o xs,H b=some (.je o (.lst xs))
theorem ZZ{P:Program}{w:World}{K:PySem.W.Frag}{mg mb:Str->Option Value}{CX:mz}{k:Nat}{fa a:Addr}{fd:FuncData}{x:Str}{sp:Sp}{bQ:Shared}{vs:List Value}{ns:List Int}(KX:K.In bQ.heap)(pP:bQ.heap.Ns mainGlobals mg)(hb:bQ.heap.Ns builtinsNs mb)(zE:∀x:Str,x≠"__name__"->mb x=bootBuiltins x)(zr:bQ.heap.NoLimit)(hg:bQ.gens=#[])(ha:bQ.heap.get? a=some { cls:=.type "list",data:=.seq vs.toArray })(hi:IntsAre vs ns)(hl:ns.length<=sizeLine)(hr:v9 k callerA)(F:∀base:Heap,K.In base->base.Ns mainGlobals mg->hU P w K mg base CX k fa fd [x] sp)(uv:∀(s:Shared) (u:Value),BindsTo s fd ⟨[u],[]⟩ [(x,u)])(rj:∀H:Hp,xQ H->fo K H a (ns.map V.int)->sp [.ref a] H (λv _=>v=.bl true) λ_ _ _=>False)(zR:∀H e s',CX [] H bQ (λ_ _ _=>False) e s'->False) :
  codeAny (model P w) callerA (.call (.ref fa) ⟨[.ref a],[]⟩) (λr s'=>r=.ok (.ret (.bool true))/\OldK bQ.heap s'.heap/\s'.os=bQ.os/\AllBare s'.gens) bQ:=by
 have rv:=GX hi;have yP:=hi.length;have core:∀H:Hp,xQ H->fo K H a (ns.map V.int)->fK P w H bQ.heap->(∀b,H b≠none->b=a)->(H a≠none->K.lookup a=none) ->
   codeAny (model P w) callerA (.call (.ref fa) ⟨[.ref a],[]⟩) (λr s'=>r=.ok (.ret (.bool true))/\OldK bQ.heap s'.heap/\s'.os=bQ.os/\AllBare s'.gens) bQ:=by
  intro H hO hS bG hA hK;have Q4:∀{b:Addr} {o:Obj},bQ.heap.get? b=some o->H b=none->(nD bQ.heap H).get? b=some o:=λe n=>ZS e n;have tL:∀{b:Addr} {o:Obj} {es:Array DictEntry} {ep:Nat},bQ.heap.get? b=some o->o.data=.dict es ep->H b=none:=λ{b o es ep} e d=>by
   cases q:H b with
   |none=>rfl
   |some u =>
    have e':b=a:=hA b (by rw[q];simp);subst e';rw[ha] at e;cases e;have d':Data.seq vs.toArray _=Data.dict es ep:=d;cases d'
  have wc:∀{b:Addr} {m:Str->Option Value},bQ.heap.Ns b m->(nD bQ.heap H).Ns b m:=λ{b m} ⟨o,es,ep,e,d,r⟩=>⟨o,es,ep,Q4 e (tL e d),d,r⟩
  have EJ:K.In (nD bQ.heap H):=λb o e=>Q4 (KX b o e) (by
   cases q:H b with
   |none=>rfl
   |some u =>
    have e':b=a:=hA b (by rw[q];simp);subst e';rw [hK (by rw [q];simp)] at e;cases e)
  have hM:Mod K mg (nD bQ.heap H):=⟨EJ,wc pP,⟨mb,wc hb,zE⟩,let ⟨mc,h1,h2⟩:=zr;⟨mc,wc h1,h2⟩⟩
  have e0:qy P w K mg (nD bQ.heap H) callerA [] bQ H:=⟨rfl,hM,λb o e=>RT e,sI (Xv _ _),trivial,λb hb=>absurd (show b∈([]:List Addr) from hb) (by simp),bG,.of_eq hg⟩
  refine gg ((F _ EJ (wc pP)).run callerA [] bQ H ⟨[.ref a],[]⟩ [.ref a] [.ref a] _ _ hr e0 (uv bQ (.ref a)) (.cons rfl .nil) (rj H hO hS)) λr s' h=>?_;cases r with
  |error e=>exact(zR H e s' h).elim
  |ok fl =>
   cases fl with
   |next=>exact False.elim h
   |brk=>exact False.elim h
   |cont=>exact False.elim h
   |ret u =>
    obtain⟨v,H',os,bare,un,zf,r',q⟩:=h;have q':v=.bl true:=q;subst q';obtain rfl:u=Value.bool true:=r';refine⟨rfl,OldK.of_keep λb o e=>?_,os,bare⟩;cases q:H b with
    |none=>exact un.keep b o e q (by intro z;exact absurd (show b∈([]:List Addr) from z) (by simp)) (by simp)
    |some u =>
     rcases hO b with z|⟨ob,xs,z⟩
     ·rw[q] at z;cases z
     ·have z2:=un.gw b ob _ z;obtain⟨e1,_⟩:=bG b _ z;obtain⟨e2,_⟩:=zf b _ z2;rw[e] at e1;cases e1;exact e2
 cases hk:K.lookup a with
 |some o =>
  have e:=KX a o hk;rw[ha] at e;cases e;refine core (λ_=>none) (λ_=>.inl rfl) (.inr ⟨_,vs.toArray,_,hk,rfl,rfl,rfl,by rw[aA,yP];exact hl,by simpa using rv⟩) (λb u z=>by have z':(none:Option HO)=some u:=z;cases z') (λb z=>absurd rfl z) λz=>absurd rfl z
 |none =>
  refine core (λb=>if b=a then some (.je { cls:=.type "list",data:=.seq vs.toArray } (.lst (ns.map V.int))) else none) (λb=>?_) (.inl (.inr ⟨{ cls:=.type "list",data:=.seq vs.toArray },aH rfl⟩)) (λb u z=>?_) (λb z=>?_) λ_=>hk
  ·by_cases hb:b=a
   ·exact .inr ⟨_,_,aH hb⟩
   ·exact .inl (aB hb)
  ·by_cases hb:b=a
   ·have z':=(aH hb).symm.trans z;cases z';subst hb;exact⟨ha,by rw[ah];exact hl,vs,_,rv,ha⟩
   ·have z':=(aB hb).symm.trans z;cases z'
  ·by_cases hb:b=a
   ·exact hb
   ·exact absurd (aB hb) z
end L2
namespace L2
open PySem PySem.Spec PyProof.Rows
theorem Th{l:PySem.W.OpenLaw}{n k:Nat}{q:Program}{loose:List Str}{XP:(Str->Option Value)->Heap->Prop}{YP:World->Heap->Prop}{d:DefRec}{K:Params->PySem.W.Frag}{CX:World->mz}{sp:World->Sp}{x:Str}(hn:l.most=some n)(oi:n<=sizeLine)(uq:d.params.defaults=[])(hr:v9 k callerA)(hY:∀(w:World) (h:Heap),YP w h->(K w.params).In h)(F:∀ (w:World) (mg:Str->Option Value) (fa:Addr) (h:Heap),(K w.params).In h->h.Ns mainGlobals mg->mg d.name=some (.ref fa) ->
   ∃fd:FuncData,(∀(s:Shared) (u:Value),BindsTo s fd ⟨[u],[]⟩ [(x,u)]) /\
    ∀ base:Heap,(K w.params).In base->base.Ns mainGlobals mg->hU l.prog w (K w.params) mg base (CX w) k fa fd [x] (sp w))(rj:∀(w:World) (H:Hp) (a:Addr) (ns:List Int),ns.length<=n->xQ H->fo (K w.params) H a (ns.map V.int)->sp w [.ref a] H (λv _=>v=.bl true) λ_ _ _=>False)(zR:∀(w:World) (H:Hp) (s:Shared) (e:Value) (s':Shared),CX w [] H s (λ_ _ _=>False) e s'->False) :
  PySem.W.WalkO q loose XP YP l.row.toRowW d [] (λf vs=>PySem.call f vs):=by
 refine JY.Zf hn uq λw cX bQ mg mb fa o pm cd doc a vs ns G Y ho hd jX hmg iC hints hlen hg=>?_;have KX:=hY w _ Y;obtain⟨fd,hb,hF⟩:=F w mg fa _ KX G.T.g hmg;exact ZZ KX G.T.g G.T.b G.T.builtins G.T.nolimit hg iC hints (aD hlen oi) hr hF hb (λH hO hS=>rj w H a ns hlen hO hS) λH e s'=>zR w H bQ e s'
end L2
namespace L2
open PySem PySem.Spec PyProof.Rows
noncomputable def B0(s:Stmt):Arguments:=match s with
 |.FunctionDef _ a _ _ _ _ _ _ _ _=>a
 |_=>{ posonlyargs:=[],args:=[],vararg:=none,kwonlyargs:=[],kw_defaults:=[],kwarg:=none,defaults:=[] }
noncomputable def p0(s:Stmt):List Stmt:=match s with
 |.FunctionDef _ _ b _ _ _ _ _ _ _=>b
 |_=>[]
noncomputable def o8(s:Stmt):Scope:=match s with
 |.FunctionDef _ _ _ _ _ _ sc _ _ _=>sc
 |_=>{ kind:=.function,names:=[],isGenerator:=false,isCoroutine:=false }
structure oS(K:PySem.W.Frag)(x qual:Str)(st:Stmt)(f:Addr)(fd:FuncData):Prop where
 ex:∃(oc:Value) (od:Option Addr) (kV doc pm:Value) (an:Option Addr) (fm ct:Value) (kU:Array (Option Value)),
  fd=PySem.W.fnOf x qual (B0 st) (p0 st) (o8 st) .none kV doc pm an fm ct/\K.lookup f=some ⟨oc,od,.func fd,kU⟩/\PySem.W.codeIn K fm qual=true
 kp:PySem.W.keepIn K (.ref f)=true
section
variable{P:Program}{w:World}{K:PySem.W.Frag}{mg:Str->Option Value}{base:Heap}
theorem oS.binds{x qual:Str}{st:Stmt}{f:Addr}{fd:FuncData}{ps:List Str}(F:oS K x qual st f fd)(h:∀(kV doc pm:Value) (an:Option Addr) (fm ct:Value) (us:List Value),us.length=ps.length->bindArgs (PySem.W.fnOf x qual (B0 st) (p0 st) (o8 st) .none kV doc pm an fm ct) ⟨us,[]⟩=pure (ps.zip us)):Binds K fd ps []:=by
 obtain⟨oc,od,kV,doc,pm,an,fm,ct,kU,rfl,lk,jX⟩:=F.ex;exact .all (h kV doc pm an fm ct)
theorem HY{x qual:Str}{st:Stmt}{f:Addr}{oc:Value}{od an:Option Addr}{kU:Array (Option Value)}{kV doc pm fm ct:Value}(l:K.lookup f=some ⟨oc,od,.func (PySem.W.fnOf x qual (B0 st) (p0 st) (o8 st) .none kV doc pm an fm ct),kU⟩)(c:PySem.W.codeIn K fm qual=true)(k:PySem.W.keepIn K (.ref f)=true):oS K x qual st f (PySem.W.fnOf x qual (B0 st) (p0 st) (o8 st) .none kV doc pm an fm ct):=⟨⟨oc,od,kV,doc,pm,an,fm,ct,kU,rfl,l,c⟩,k⟩
end
section
variable{X:Cx}
theorem Xg:m9 X (.builtin "len") (λxs H Q=>∃a kvs,xs=[V.ref a]/\H a=some (.dK kvs)/\Q (.int kvs.length) H):=by
 intro pins s Z H xs us Q I r h;obtain⟨a,kvs,rfl,ha,q⟩:=h;obtain⟨u,rfl,ru⟩:=vals1 r;cases ru;exact Vm I (.inl ha) λt s' I'=>⟨.int kvs.length,H,I',⟨t,rfl⟩,q⟩
end
section
variable{κ:Type}[DecidableEq κ]
end
end L2

namespace L2
open PySem PySem.Spec PyProof.Rows
section
variable{prog:Program}{w:World}{A:Around}{R:Result->Shared->Prop}{s:Shared}
theorem ZC{elt target iter:Expr}{ifs:List Expr}{scope:Scope}{pos:Pos}{it acc:Value}{env:Env}(I:Nat->Shared->Prop)(turn:∀ n s,I n s->wpAny (model prog w) A (pyNext it) (λr bQ=>match r with
   |none=>R (.ok .next) bQ
   | some v=>wpAny (model prog w) A (letOwnedTupleGo target it v) (λ_ bQ=>wpAny (model prog w) A (assign target env v) (λ_ fS =>
     wpAny (model prog w) A (forIn ifs true λc r=>if r=true then do let ok <- isTrue c env (eval c env);pure (ForInStep.yield ok) else pure (ForInStep.yield r)) (λok eI =>
      if ok=true then wpAny (model prog w) A (eval elt env) (λx iZ =>
       wpAny (model prog w) A (call (.builtin "list.append") [acc,x]) (λ_ lE=>∃ m,m < n/\I m lE) (λ_ _=>False) iZ) (notedBy (model prog w) A env λe s'=>R (.error e) s') eI
      else ∃ m,m < n/\I m eI) (λ_ _=>False) fS) (λ_ _=>False) bQ) (λ_ _=>False) bQ) (λ_ _=>False) s)(n:Nat)(h:I n s) :
  codeAny (model prog w) A (.compLoop (.ListComp elt [⟨target,iter,ifs,0⟩] scope pos) 0 it acc env) R s:=by
 refine codeAny_loop rfl I (λn s hI=>?_) n h;show wpAny _ A ((compTurn (.ListComp elt [⟨target,iter,ifs,0⟩] scope pos) 0 it acc env).onRaise (λx=>do noteFrame x env;theTreesLotGoes x)) _ _ s;refine wpAny_noted ?_;rw[compTurn_list];refine aa (dE (aa (bA (turn n s hI) (λr bQ h₁=>?_) λ_ _ h'=>h'.elim)));cases r with
 |none=>exact ao h₁
 |some v =>
  refine aa (bA h₁ (λ_ bQ h₁=>?_) λ_ _ h'=>h'.elim);refine aa (bA h₁ (λ_ fS iB=>aa (bA iB (λok eI lP=>?_) λ_ _ h'=>h'.elim)) λ_ _ h'=>h'.elim);cases ok with
  |false=>exact wpAny_pure ⟨rfl,lP⟩
  |true =>
   exact aa (aa (bA lP (λx iZ pN=>aa (bA pN (λ_ lE pM=>ao (ao ⟨rfl,pM⟩)) λ_ _ h'=>h'.elim)) λ_ _ h'=>h'))
end
noncomputable def ko(X:Cx)(es:List Expr)(t:TT):Prop :=
 ∀(pins:List (Addr×Obj)) (s:Shared) (Z:St) (H:Hp) (Q:Bool->Hp->Prop),Inv X pins Z H s->t Z H Q ->
  wpAny (model X.prog X.w) X.A (forIn es true λc r=>if r=true then do let ok <- isTrue c X.env (eval c X.env);pure (ForInStep.yield ok) else pure (ForInStep.yield r)) (TP X pins Z Q) X.xe s
noncomputable def UW:TT:=λ_ H Q=>Q true H
section
variable{X:Cx}
theorem Sv:ko X [] UW:=λpins s Z H Q I h=>ao ⟨H,I,h⟩
theorem Sw{c:Expr}{t:TT}(h:PT X c t):ko X [c] t:=by
 intro pins s Z H Q I q;simp only[List.forIn_cons,List.forIn_nil,if_true];exact aa (aa (bA (h pins s Z H Q I q) (λb s' hb=>ao (ao hb)) λ_ _ x=>x))
end
noncomputable def J5(scope:Scope)(cl:List (Str×Addr))(C:Addr):List (Str×Addr):=cellsFrom (C+1) scope.names []++cl
theorem E1:∀(names:List (Str×NameKind)) (n:Nat) (acc:List (Str×Addr)),cellsFrom n names acc=cellsFrom n names []++acc
 |[],_,_=>rfl
 |(y,k)::r,n,acc=>by
  unfold cellsFrom;split
  ·rw[E1 r (n+1) ((y,n)::acc),E1 r (n+1) [(y,n)],gb]
   rfl
  ·exact E1 r n acc
theorem T2{x:Str}{c:Addr}:∀{names:List (Str×NameKind)} {n:Nat},(x,c)∈cellsFrom n names []->(x,NameKind.cell)∈names
 |[],_,h=>by simp[cellsFrom] at h
 |(y,k)::r,n,h=>by
  unfold cellsFrom at h;split at h
  ·rename_i hk;rw[E1] at h;rcases bj.mp h with z|z
   ·exact bI _ (T2 z)
   ·cases ba.mp z;rw[show k=NameKind.cell from by simpa using hk];exact fO
  ·exact bI _ (T2 h)
theorem F6{α:Type}{x:Str}:∀{a b:List (Str×α)},(a++b).lookup x=(a.lookup x).or (b.lookup x)
 |[],_=>rfl
 |(y,v)::r,b=>by
  rw[List.cons_append,cA,cA];cases x==y
  ·exact F6
  ·rfl
theorem GA{scope:Scope}{cl:List (Str×Addr)}{C:Addr}{x:Str}(h:scope.names.lookup x=some .cell\/∃c,cl.lookup x=some c):∃c,(J5 scope cl C).lookup x=some c:=by
 unfold J5;rw[F6];cases e:(cellsFrom (C+1) scope.names []).lookup x with
 |some c=>exact⟨c,rfl⟩
 |none =>
  rcases h with h|h
  ·have q:=dh scope.names (C+1) [] (.inl h);rw[e] at q;cases q
  ·exact h
theorem L4{env:Env}:∀{names:List (Str×NameKind)} {x:Str},names.lookup x=some .cell ->
  (names.map λ(n,k)=>if(k==NameKind.free&&env.scope.kind==.function&&env.kindOf n==some .cell) then(n,NameKind.cell) else(n,k)).lookup x=some .cell
 |[],_,h=>by simp at h
 |(n,k)::r,x,h=>by
  have ih:=@L4 env r x;show List.lookup x ((if(k==NameKind.free&&env.scope.kind==.function&&env.kindOf n==some .cell)=true then(n,NameKind.cell) else(n,k))::_)=_;cases hx:x==n with
  |true =>
   simp only[List.lookup_cons,hx] at h;cases h;simp[List.lookup_cons,hx]
  |false =>
   simp only[List.lookup_cons,hx] at h;by_cases hc:(k==NameKind.free&&env.scope.kind==.function&&env.kindOf n==some .cell)=true
   ·rw[aH hc];simp only[List.lookup_cons,hx];exact ih h
   ·rw[aB hc];simp only[List.lookup_cons,hx];exact ih h
theorem xK{scope:Scope}{cl:List (Str×Addr)}{C:Addr}{h:Heap}(ck:CellsOk h (C+1) (cellsFrom (C+1) scope.names [])){x:Str}{c:Addr}(e:(J5 scope cl C).lookup x=some c):C<c\/cl.lookup x=some c:=by
 unfold J5 at e;rw[F6] at e;cases e2:(cellsFrom (C+1) scope.names []).lookup x with
 |some c' =>
  rw[e2] at e;cases e;exact .inl (ck.empty x c (aM e2)).2
 |none =>
  rw[e2] at e;exact .inr e
theorem HP{M:Model}{A:Around}{E:Value->Shared->Prop}{s:Shared}{scope:Scope}{globals:Addr}{cl:List (Str×Addr)}{qual:Str}{outer:Env}{Q:Env->Shared->Prop}(hQ:∀ h₁:Heap,h₁.Ns s.heap.objs.size (λ_=>none)->(∀ b o,s.heap.get? b=some o->h₁.get? b=some o)->CellsOk h₁ (s.heap.objs.size + 1) (cellsFrom (s.heap.objs.size + 1) scope.names []) ->
   Q (newEnv scope s.heap.objs.size globals (J5 scope cl s.heap.objs.size) qual none .none (some outer) builtinsNs) { s with heap:=h₁ }) :
  wpAny M A (newFunctionEnv scope globals cl [] qual none .none (some outer)) Q E s:=by
 simp only[newFunctionEnv,Option.isSome_some,if_true];refine aa (wpAny_alloc ?_);refine aa (wpAny_layCells _ (λname kind cells=>by cases Mi:kind==NameKind.cell<;>simp[Mi]) _ _ _ _ ?_);have ok:=cellsFrom_ok scope.names (s.heap.push { cls:=.type "dict",data:=.dict #[] }) (s.heap.objs.size+1) [] ⟨λ_ _ hm=>(nomatch hm),List.Pairwise.nil⟩ (by rw[dU];exact av _);rw[dU] at ok;rw[show({ s with heap:=s.heap.push { cls:=.type "dict",data:=.dict #[] } }:Shared).heap.objs.size=s.heap.objs.size+1 from dU ..];rw[List.forIn_nil];refine aa (ao (ao ?_));rw[E1];exact hQ _ ((Heap.Ns.new s.heap (.type "dict")).keeps (pushCells_keeps _ _)) (λb o e=>pushCells_keeps _ _ b o (au _ e)) ok
noncomputable def f6(X:Cx)(pins:List (Addr×Obj))(scope:Scope)(N':List Str)(cl:List (Str×Addr))(C:Addr)(s:Shared)(H:Hp)(fp:List Addr):Cx where
 prog:=X.prog
 w:=X.w
 K:=X.K
 mg:=X.mg
 base:=X.base
 A:=X.A
 N:=N'
 cX:=s
 iR:=H
 env:=compEnvC scope (J5 scope cl C) C X.env
 outer:=X.stack
 stack:=X.stack
 ex:=fp
 calm:=true
 fn:=λx=>decide (scope.names.lookup x=some .cell)
 pn:=X.pn++pins
 xe:=λ_ _=>False
structure df(X:Cx)(scope:Scope)(N':List Str)(d5:List Nat)(cl:List (Str×Addr)):Prop where
 kind:scope.kind=.function
 cells:∀y∈scope.names,y.2=.cell->scope.names.lookup y.1=some .cell
 names:∀y∈scope.names,y.2=.local->scope.names.lookup y.1=some .local
 qu:closureFor scope X.env=pure cl
 cin:∀x c,cl.lookup x=some c->X.env.cells.lookup x=some c
 uW:∀x,scope.names.lookup x=some .free->∃c,cl.lookup x=some c
 nd:N'.Nodup
 NR:∀(i j:Nat),d5[i]?=some j->∃x,N'[i]?=some x/\X.N[j]?=some x/\scope.names.lookup x=some .free/\(X.env.kindOf x=some .cell\/X.env.kindOf x=some .free)
 Aw:d5.length<=N'.length
theorem E4{env:Env}:∀{names:List (Str×NameKind)} {x:Str},names.lookup x=some .free ->
  (names.map λ(n,k)=>if(k==NameKind.free&&env.scope.kind==.function&&env.kindOf n==some .cell) then(n,NameKind.cell) else(n,k)).lookup x=some .cell \/
  (names.map λ(n,k)=>if(k==NameKind.free&&env.scope.kind==.function&&env.kindOf n==some .cell) then(n,NameKind.cell) else(n,k)).lookup x=some .free
 |[],_,h=>by simp at h
 |(n,k)::r,x,h=>by
  have ih:=@E4 env r x;show List.lookup x ((if(k==NameKind.free&&env.scope.kind==.function&&env.kindOf n==some .cell)=true then(n,NameKind.cell) else(n,k))::_)=_\/List.lookup x ((if(k==NameKind.free&&env.scope.kind==.function&&env.kindOf n==some .cell)=true then(n,NameKind.cell) else(n,k))::_)=_;cases hx:x==n with
  |true =>
   simp only[List.lookup_cons,hx] at h;cases h;by_cases hc:(NameKind.free==NameKind.free&&env.scope.kind==.function&&env.kindOf n==some .cell)=true
   ·rw[aH hc];simp[List.lookup_cons,hx]
   ·rw[aB hc];simp[List.lookup_cons,hx]
  |false =>
   simp only[List.lookup_cons,hx] at h;by_cases hc:(k==NameKind.free&&env.scope.kind==.function&&env.kindOf n==some .cell)=true
   ·rw[aH hc];simp only[List.lookup_cons,hx];exact ih h
   ·rw[aB hc];simp only[List.lookup_cons,hx];exact ih h
theorem L5{env:Env}:∀{names:List (Str×NameKind)} {x:Str},((names.map λ(n,k)=>if(k==NameKind.free&&env.scope.kind==.function&&env.kindOf n==some .cell) then(n,NameKind.cell) else(n,k)).lookup x=some .cell \/
  (names.map λ(n,k)=>if (k == NameKind.free && env.scope.kind == .function && env.kindOf n == some .cell) then (n,NameKind.cell) else (n,k)).lookup x=some .free)->names.lookup x=some .free \/ names.lookup x=some .cell
 |[],_,h=>by simp at h
 |(n,k)::r,x,h=>by
  have ih:=@L5 env r x;rw[aY] at h;cases hx:x==n with
  |true =>
   simp only[List.lookup_cons,hx];by_cases hc:(k==NameKind.free&&env.scope.kind==.function&&env.kindOf n==some .cell)=true
   ·left;simp only[Bool.and_eq_true,beq_iff_eq] at hc;rw[hc.1.1]
   ·simp only[if_neg hc,List.lookup_cons,hx] at h;rcases h with h|h
    ·exact .inr h
    ·exact .inl h
  |false =>
   simp only[List.lookup_cons,hx];by_cases hc:(k==NameKind.free&&env.scope.kind==.function&&env.kindOf n==some .cell)=true
   ·simp only[if_pos hc,List.lookup_cons,hx] at h;exact ih h
   ·simp only[if_neg hc,List.lookup_cons,hx] at h;exact ih h
noncomputable def C1(Z:St)(d5:List Nat)(n:Nat):St:=d5.map (λj=>(Z[j]?).join)++List.replicate (n-d5.length) none
section
variable{X:Cx}{pins:List (Addr×Obj)}{Z:St}{H:Hp}{s:Shared}
theorem Inv.Hf{scope:Scope}{N':List Str}{d5:List Nat}{cl:List (Str×Addr)}{C:Addr}{h1:Heap}{fp:List Addr}{tk:Nat}(I:Inv X pins Z H s)(S:df X scope N' d5 cl)(hc:X.calm=true)(hf:∀b∈fp,C2 X pins H b)(ho:∀b∈fp,∃o,s.heap.get? b=some o)(hC:s.heap.objs.size<=C)(hn:∃m,h1.Ns C m)(k:∀b o,s.heap.get? b=some o->h1.get? b=some o)(ck:CellsOk h1 (C+1) (cellsFrom (C+1) scope.names [])) :
  Inv (f6 X pins scope N' cl C s H fp) [] (C1 Z d5 N'.length) H { s with heap:=h1,toks:=tk }:=by
 obtain⟨m,hm⟩:=hn;have Mh:(relabel scope X.env).kind=.function:=S.kind;have DL:∀b o,s.heap.get? b=some o->b≠C:=λb o e z=>absurd (ay e) (by rw[z];exact jm.mpr hC);have two:∀{x:Str} {c:Addr},(J5 scope cl C).lookup x=some c->(C<c/\h1.IsCell c none/\(x,c)∈cellsFrom (C+1) scope.names [])\/(cl.lookup x=some c/\(cellsFrom (C+1) scope.names []).lookup x=none):=λ{x c} h=>by
  unfold J5 at h;rw[F6] at h;cases e:(cellsFrom (C+1) scope.names []).lookup x with
  |some c' =>
   rw[e] at h;cases h;have hm:=aM e;exact .inl ⟨(ck.empty x c hm).2,(ck.empty x c hm).1,hm⟩
  |none =>
   rw[e] at h;exact .inr ⟨h,rfl⟩
 have tG:∀{x:Str} {c:Addr},cl.lookup x=some c->c<s.heap.objs.size:=λ{x c} h=>by
  obtain⟨v,o,e,_⟩:=I.cell x c (S.cin x c h);exact ay e
 have frees:∀{x:Str},scope.names.lookup x=some .free->(J5 scope cl C).lookup x=cl.lookup x:=λ{x} h=>by
  unfold J5;rw[F6];cases e:(cellsFrom (C+1) scope.names []).lookup x with
  |some c' =>
   have:=S.cells _ (T2 (aM e)) rfl;rw[h] at this;cases this
  |none=>rfl
 refine⟨⟨I.mod,Mh,I.ok.glob,I.ok.blt,hC,?_,?_,?_,λ_=>I.ok.hd hc,I.ok.frames,.inl rfl,?_,I.bs,?_,?_,?_,I.stack,I.xI⟩,rfl,I.bare,Un.kept k,⟨m,hm,?_⟩,?_,?_,?_,?_,I.bG.kept k,?_⟩
 ·intro x y c h1 h2;rcases two h1 with⟨l1,_,q1⟩|⟨q1,_⟩<;>rcases two h2 with⟨l2,_,q2⟩|⟨q2,_⟩
  ·exact PySem.name_of_addr ck.apart q1 q2
  ·exact absurd (cI l1 (ax (tG q2) hC)) (br _)
  ·exact absurd (cI l2 (ax (tG q1) hC)) (br _)
  ·exact I.ok.inj x y c (S.cin x c q1) (S.cin y c q2)
 ·intro x hx;rcases L5 (env:=X.env) (names:=scope.names) hx with z|z
  ·obtain⟨c,hc⟩:=S.uW x z;exact⟨c,(frees z).trans hc⟩
  ·have q:=dh scope.names (C+1) [] (.inl z);obtain⟨c,hc⟩:=dS.mp q;refine⟨c,?_⟩;show(J5 scope cl C).lookup x=some c;unfold J5;rw[F6,hc]
   rfl
 ·intro x c hf h;have z:scope.names.lookup x=some .cell:=aZ hf;have q:=dh scope.names (C+1) [] (.inl z);rcases two h with⟨l,_⟩|⟨_,e⟩
  ·exact dG (fM hC l)
  ·rw[e] at q;cases q
 ·intro b hb;obtain⟨f0,f1,f2,f3,f4,f5⟩:=hf b hb;obtain⟨o,e⟩:=ho b hb;refine⟨DL b o e,λx c h=>?_⟩;rcases two h with⟨l,_⟩|⟨q,_⟩
  ·intro z;subst z;exact absurd (cI l (ax (ay e) hC)) (br _)
  ·exact f4 x c (S.cin x c q)
 ·exact aD I.ok.mJ I.sz
 ·intro b o e hb;obtain⟨f0,f1,f2,f3,f4,f5⟩:=hf b hb;rcases f3 with f3|f3
  ·exact I.ok.jT b o e f3
  ·exact absurd (ay (I.ok.bs b o e).1) (jm.mpr f3)
 ·intro b hb z;obtain⟨f0,f1,f2,f3,f4,f5⟩:=hf b hb;rcases aE.mp (I.K2 b z) with z|z
  ·exact f1 z
  ·exact f2 z
 ·intro i x v Ng h2 h3;have hi:i<d5.length:=by
   unfold C1 at h2;by_cases hi:i<d5.length
   ·exact hi
   ·rw[cq (by simpa using hi),de] at h2;split at h2<;>cases h2
  obtain⟨j,hj⟩:∃j,d5[i]?=some j:=⟨_,ag hi⟩
  have hs:Z[j]?=some (some v):=by
   unfold C1 at h2;rw[aG (by simpa using hi),ak,hj] at h2;simp only[Option.map_some] at h2;cases e:Z[j]? with
   |none=>rw[e] at h2;cases h2
   |some a=>rw[e] at h2;exact gH some (aJ h2)
  obtain⟨y,Lw,Lv,yV,Ea⟩:=S.NR i j hj;have ey:y=x:=by
   have uG:N'[i]?=some x:=Ng;rw[Lw] at uG;exact aJ uG
  subst ey;obtain⟨m0,hm0,hl⟩:=I.loc;obtain ⟨u,ru,hu⟩:=hl j y v Lv hs (by
   rcases Ea with z|z
   ·exact .inr (.inl z)
   ·exact .inr (.inr z))
  refine⟨u,ru,.inr ⟨E4 (env:=X.env) (names:=scope.names) yV,?_⟩⟩;rcases hu with⟨z,_⟩|⟨_,c,pV,mf⟩
  ·rcases Ea with z'|z'<;>(rw[z'] at z;cases z)
  ·obtain⟨c',jc⟩:=S.uW y yV;have e:=S.cin y c' jc;rw[pV] at e;cases e;obtain⟨o,e1,e2⟩:=mf;exact⟨c,(frees yV).trans jc,o,k _ _ e1,e2⟩
 ·intro x c h;rcases two h with⟨_,q,_⟩|⟨q,_⟩
  ·exact⟨none,q⟩
  ·obtain⟨v,o,e1,e2⟩:=I.cell x c (S.cin x c q);exact⟨v,o,k _ _ e1,e2⟩
 ·exact I.bG.fresh hC
 ·intro x c h;rcases two h with⟨l,_⟩|⟨q,_⟩
  ·exact I.bG.fresh (dG (fM hC l))
  ·exact I.eA x c (S.cin x c q)
 ·intro p hp;have jb:p∈X.pn++pins:=by simpa[f6] using hp
  obtain⟨p1,p2,p3,p4,p5⟩:=I.pin p jb;refine⟨k _ _ p1,p2,DL _ _ p1,λz=>?_,p5⟩;rcases aE.mp (I.K2 _ z) with z|z
  ·exact p3 z
  ·exact p4 z
 ·unfold C1;show _=N'.length;rw[bc,ah,ir];have:=S.Aw;omega
theorem Inv.Jj{scope:Scope}{N':List Str}{cl:List (Str×Addr)}{C:Addr}{fp:List Addr}{iw:List (Addr×Obj)}{bN:St}{H':Hp}{s':Shared}(I:Inv X pins Z H s)(hf:∀b∈fp,C2 X pins H b)(J:Inv (f6 X pins scope N' cl C s H fp) iw bN H' s'):Inv X pins Z H' s' :=
 I.BP (ch:=fp) J.os J.base J.bG J.bare λb hb=>by
  obtain⟨f0,f1,f2,f3,f4,f5⟩:=hf b hb;exact⟨f3,f1,f4,f5⟩
theorem Inv.Of{D:Addr}{ys:List V}{aR:List Value}{n:Nat}(I:Inv X pins Z H s)(f:C2 X pins H D)(hs:X.cX.heap.objs.size<=D)(hv:Vals ys aR)(hz:ys.length<=sizeLine)(ho:s.heap.get? D=some { cls:=.type "list",data:=.seq aR.toArray n }):Inv X pins Z (upd H D (.lst ys)) s:=by
 obtain⟨f0,f1,f2,f3,f4,f5⟩:=f;have dz:∀b o,X.cX.heap.get? b=some o->b≠D:=λb o e z=>absurd (ay e) (by rw[z];exact jm.mpr hs);have tup:∀b u,H b=some u->upd H D (.lst ys) b=some u:=λb u e=>by rw[i3 (l9 e f0)];exact e
 refine⟨I.ok,I.os,I.bare,⟨?_,?_,?_,I.base.there,?_,?_,?_⟩,I.loc,I.cell,?_,?_,?_,?_,I.len⟩
 ·exact λb o e n1 n2 n3=>I.base.keep b o e n1 n2 n3
 ·exact λb o e n1 n2 n3=>I.base.slot b o e n1 n2 n3
 ·exact λb o e n1 n2=>by rw[i3 (dz b o e)];exact I.base.free b o e n1 n2
 ·exact λb xs e=>tup _ _ (I.base.gL b xs e)
 ·exact λb o u e=>tup _ _ (I.base.gw b o u e)
 ·exact λb ps e=>by
   obtain⟨more,q⟩:=I.base.gM b ps e;exact⟨more,tup _ _ q⟩
 ·rw[i3 f1.symm];exact I.free
 ·exact λx c e=>by rw[i3 (f4 x c e)];exact I.eA x c e
 ·intro p hp;obtain⟨p1,p2,p3⟩:=I.pin p hp;exact⟨p1,by rw[i3 (f5 p hp)];exact p2,p3⟩
 ·intro a o e;by_cases ha:a=D
  ·subst ha;rw[t8] at e;cases e;exact⟨hz,aR,n,hv,ho⟩
  ·rw[i3 ha] at e;have q:=I.bG a o e;refine q.Q7 (λb u _ h=>h) (λb hb=>tup _ _ hb) (λb xs hb=>tup _ _ hb)
end
end L2

namespace L2
open PySem PySem.Spec PyProof.Rows
noncomputable def Cd(wi:TI)(d5:List Nat)(n:Nat)(g:TG)(tc:TT)(te:TE):TE:=λZ H Q=>wi Z H λJ H1=>∃W:Nat->Nat->List V->St->Hp->Prop,(∃m,W 0 m [] (C1 Z d5 n) H1)/\∀i m ys Z H,W i m ys Z H ->
 (J.stop i H/\∀p,H p=none->Q (.ref p) (upd H p (.lst ys))) \/
 (J.go i H/\ys.length < sizeLine/\∀ x H',J.pz i H x H'->g x Z H' λcg H2=>tc cg H2 λb H3 =>
  if b=true then te cg H3 λy H4=>∃ m',m' < m/\W (i + 1) m' (ys ++ [y]) cg H4 else ∃ m',m' < m/\W (i + 1) m' ys cg H3)
noncomputable abbrev L7(aR:List Value)(n:Nat):Obj:={ cls:=.type "list",data:=.seq aR.toArray n }
section
variable{X:Cx}{pins:List (Addr×Obj)}{Z:St}{H:Hp}{s:Shared}
theorem Hd{elt tg iter:Expr}{ifs:List Expr}{scope:Scope}{N':List Str}{d5:List Nat}{cl:List (Str×Addr)}{pos:Pos}{it:Addr}{fp:List Addr}{tn:Nat->Heap->Prop}{J:It}{g:TG}{tc:TT}{te:TE}{xx:Addr->Shared->Hp->Value->Shared->Prop}{RR:Value->Addr->Result->Shared->Prop}{E:Value->Shared->Prop}{W:Nat->Nat->List V->St->Hp->Prop}{m0:Nat}{Q:VK}(S:df X scope N' d5 cl)(hc:X.calm=true)(hg:∀C s H,PG (f6 X pins scope N' cl C s H fp) tg g)(ht:∀C s H,ko (f6 X pins scope N' cl C s H fp) ifs tc)(he:∀C s H,PE ((f6 X pins scope N' cl C s H fp).Y3 (xx C s H)) elt te)(I:Inv X pins Z H s)(T:Turn X.prog X.w X.K tg J fp it tn)(st:tn 0 s.heap)(hf:∀b∈fp,C2 X pins H b)(w0:W 0 m0 [] (C1 Z d5 N'.length) H)(turn:∀ i m ys Z H,W i m ys Z H->(J.stop i H/\∀ p,H p=none->Q (.ref p) (upd H p (.lst ys))) \/
   (J.go i H/\ys.length < sizeLine/\∀ x H',J.pz i H x H'->g x Z H' λcg H2=>tc cg H2 λb H3 =>
    if b=true then te cg H3 λy H4=>∃ m',m' < m/\W (i + 1) m' (ys ++ [y]) cg H4 else ∃ m',m' < m/\W (i + 1) m' ys cg H3))(zL:∀D C s' H' m,Inv X pins Z H' s'->Q (.ref D) H'->s'.heap.Ns C m->H' C=none->s.heap.objs.size<=C->RR (.ref D) C (.ok .next) s')(ML:∀D C e s',s.heap.objs.size<=C->xx C s H e s'->notedBy (model X.prog X.w) X.A (compEnvC scope (J5 scope cl C) C X.env) (λe s'=>RR (.ref D) C (.error e) s') e s') :
  wpAny (model X.prog X.w) X.A (newList []) (λacc eI=>wpAny (model X.prog X.w) X.A (newFunctionEnv scope X.env.globals cl [] X.env.qual none .none (some X.env)) (λkL iZ =>
   kL.frame=X.env.frame/\codeAny (model X.prog X.w) X.A (.compStart (.ListComp elt [⟨tg,iter,ifs,0⟩] scope pos) 0 (.ref it) acc { kL with scope:=relabel scope X.env }) (RR acc kL.locals) iZ) E eI) E s:=by
 refine bX (HP λh₁ fV fk lZ=>?_);dsimp only at fV fk lZ ⊢;generalize qb:s.heap.push { cls:=.type "list",dict:=none,data:=.seq ([]:List Value).toArray }=H2 at fV fk lZ ⊢;generalize eD:s.heap.objs.size=D at *;have hC:H2.objs.size=D+1:=by rw[<- qb,dU,eD]
 generalize eC:H2.objs.size=C at *;have uB:D≠C:=by omega
 have lt:∀b o,s.heap.get? b=some o->b<D:=λb o e=>by rw[<- eD];exact ay e
 have pJ:D<=C:=by omega
 have nT:∀b o,s.heap.get? b=some o->b≠C:=λb o e=>aN (ax (lt b o e) pJ);have lJ:∀b o,s.heap.get? b=some o->b≠D:=λb o e=>aN (lt b o e);have old:∀b o,s.heap.get? b=some o->h₁.get? b=some o:=λb o e=>fk b o (qb▸au _ e);have jY:h₁.get? D=some (L7 [] 0):=fk _ _ (by rw[<- qb,<- eD];exact aC _ rfl);have iC:∀b∈fp,∃o,s.heap.get? b=some o:=λb hb=>by
  obtain⟨o,e,_⟩:=T.obj _ _ st b hb;exact⟨o,e⟩
 have uA:D∉fp:=λhm=>by
  obtain⟨o,e⟩:=iC D hm;exact lJ D o e rfl
 have X1:Inv (f6 X pins scope N' cl C s H fp) [] (C1 Z d5 N'.length) H { s with heap:=h₁ } :=
  I.Hf S hc hf iC (by rw[eD];omega) ⟨_,fV⟩ old lZ
 have sZ:tn 0 h₁:=T.keep _ _ _ st λb _ o e=>old b o e;have Af:∀{H':Hp},(∀b∈fp,H' b=none)->∀b∈fp,C2 (f6 X pins scope N' cl C s H fp) [] H' b:=λhn b hb=>by
  obtain⟨f0,f1,f2,f3,f4,f5⟩:=hf b hb;obtain⟨o,e⟩:=iC b hb;refine⟨hn b hb,?_,?_,.inl hb,λx c q=>(xK lZ q).elim (λl z=>absurd (cI (z▸l) (ax (lt b o e) pJ)) (br _)) λq=>f4 x c (S.cin x c q),λp hp=>?_⟩
  ·exact nT b o e
  ·exact λz=>by
    rcases aE.mp (I.K2 b z) with z|z
    ·exact f1 z
    ·exact f2 z
  ·have jb:p∈X.pn++pins:=by simpa[f6] using hp
   exact f5 p jb
 have fD:∀{H':Hp},H' D=none->C2 (f6 X pins scope N' cl C s H fp) [] H' D:=λhn=>by
  refine⟨hn,uB,λz=>?_,.inr (by show s.heap.objs.size<=D;omega),λx c q=>?_,λp hp=>?_⟩
  ·exact absurd (I.vx (a:=D) (by omega)) λmF=>by
    rcases aE.mp (I.K2 D z) with z|z
    ·exact absurd I.lt (by rw[<- z,eD];exact br _)
    ·exact mF z
  ·rcases xK lZ q with l|q
   ·exact λz=>absurd (ax (z▸l) pJ) (br _)
   ·obtain⟨v,o,e,_⟩:=I.cell x c (S.cin x c q);exact lJ c o e
  ·have jb:p∈X.pn++pins:=by simpa[f6] using hp
   exact lJ _ _ (I.pin p jb).1
 have pG:∀{H':Hp} {s':Shared} {bN:St} {aR:List Value} {n:Nat},Inv (f6 X pins scope N' cl C s H fp) [] bN H' s'->H' D=none->s'.heap.get? D=some (L7 aR n) ->
   Inv (f6 X pins scope N' cl C s H fp) [(D,L7 aR n)] bN H' s':=λ{H' s' bN aR n} J0 hn e=>J0.J7 λp hp=>by
  have z:p=(D,L7 aR n):=by simpa using hp
  subst z;obtain⟨f0,f1,f2,_⟩:=fD hn;exact⟨e,f0,f1,f2,λv z=>nomatch z⟩
 have qo:∀{H':Hp} {aR:List Value} {n:Nat},(∀b∈fp,H' b=none)->∀b∈fp,C2 (f6 X pins scope N' cl C s H fp) [(D,L7 aR n)] H' b:=λ{H' aR n} hn b hb=>by
  obtain⟨f0,f1,f2,f3,f4,f5⟩:=Af hn b hb;refine⟨f0,f1,f2,f3,f4,λp hp=>?_⟩;have jb:p∈(f6 X pins scope N' cl C s H fp).pn\/p=(D,L7 aR n):=by simpa using hp
  rcases jb with z|z
  ·exact f5 p (dD _ z)
  ·subst z;exact λz=>uA (by rw[show D=b from z];exact hb)
 have loop:∀eI:Shared,eI={ s with heap:=h₁ } ->
   codeAny (model X.prog X.w) X.A (.compLoop (.ListComp elt [⟨tg,iter,ifs,0⟩] scope pos) 0 (.ref it) (.ref D) (compEnvC scope (J5 scope cl C) C X.env)) (RR (.ref D) C) eI:=by
  rintro eI rfl;refine ZC (λn s'=>∃ i ys bN H' aR nn,Inv (f6 X pins scope N' cl C s H fp) [] bN H' s'/\tn i s'.heap/\(∀ b ∈ fp,H' b=none)/\H' D=none/\Vals ys aR/\ys.length <= sizeLine /\
   s'.heap.get? D=some (L7 aR nn)/\W i n ys bN H') ?_ m0 ⟨0,[],_,H,[],0,X1,sZ,λb hb=>(hf b hb).1,I.bG.fresh (by omega),.nil,cE _,jY,w0⟩
  rintro n s3 ⟨i,ys,gY,H3,aR,nn,I3,nQ,oy,d3,v3,z3,o3,w3⟩;have vG:=pG I3 d3 o3;rcases turn i n ys gY H3 w3 with⟨stop,q⟩|⟨go,hz,step⟩
  ·refine cz (T.done (f6 X pins scope N' cl C s H fp) rfl rfl rfl rfl i _ s3 _ H3 _ vG (qo oy) nQ stop) λr s4 ⟨hr,I4⟩=>?_;subst hr;have o4:=(I4.pin (D,L7 aR nn) (by simp)).1;have J4:Inv X pins Z H3 s4:=I.Jj hf I4;have Ag:C2 X pins H3 D:=by
    refine⟨d3,bP (by rw[<- eD];exact I.lt),I.vx (by omega),.inr (by have:=I.sz;omega),λx c q=>?_,λp hp=>?_⟩
    ·obtain⟨v,o,e,_⟩:=I.cell x c q;exact lJ c o e
    ·exact lJ _ _ (I.pin p hp).1
   obtain⟨mC,zo,_⟩:=I4.loc;exact zL D C s4 (upd H3 D (.lst ys)) mC (J4.Of Ag (by have:=I.sz;omega) v3 z3 o4) (q D d3) zo (by rw[i3 uB.symm];exact I4.free) (by omega)
  ·refine cz (T.item (f6 X pins scope N' cl C s H fp) rfl rfl rfl rfl i _ s3 _ H3 _ vG (qo oy) nQ go) λr s4 ⟨u,hr,h4⟩=>?_;subst hr;refine cz h4 λ_ s5 ⟨x,H5,I5,r5,y5,lF,uK⟩=>?_;have o5:=I5.pin (D,L7 aR nn) (by simp);have vF:=I5.pinned (qo uK) (T.obj _ _ lF);refine cz (hg C s H _ s5 _ H5 x u _ vF r5 (step x H5 y5)) λ_ s6 ⟨kx,H6,I6,q6⟩=>?_;refine cz (ht C s H _ s6 kx H6 _ I6 q6) λok s7 ⟨H7,I7,q7⟩=>?_;have back:∀{sQ:St} {H8:Hp} {s8:Shared},Inv (f6 X pins scope N' cl C s H fp) ([(D,L7 aR nn)]++W9 fp s5.heap) sQ H8 s8->(∀b∈fp,H8 b=none)/\tn (i+1) s8.heap/\H8 D=none/\s8.heap.get? D=some (L7 aR nn) :=
    λ{sQ H8 s8} I8=>by
     have pf:∀b∈fp,∀o,s5.heap.get? b=some o->s8.heap.get? b=some o/\H8 b=none:=λb hb o e=>by
      have:=I8.pin (b,o) (bt _ (bt _ (O8 hb e)));exact⟨this.1,this.2.1⟩
     have pd:=I8.pin (D,L7 aR nn) (by simp);refine⟨λb hb=>?_,T.keep _ _ _ lF λb hb o e=>(pf b hb o e).1,pd.2.1,pd.1⟩;obtain⟨o,e,_⟩:=T.obj _ _ lF b hb;exact(pf b hb o e).2
   cases ok with
   |false =>
    obtain⟨m',hm,w7⟩:=q7;obtain⟨b1,b2,b3,b4⟩:=back I7;exact⟨m',hm,i+1,ys,kx,H7,aR,nn,I7.J7 λp hp=>absurd hp (by simp),b2,b1,b3,v3,z3,b4,w7⟩
   |true =>
    refine bA (he C s H _ s7 kx H7 _ (I7.Y3 _) q7) (λxv s8 lQ=>?_) λe s' hx=>ML D C e s' (by omega) hx;obtain⟨y,H8,I8,r8,m',hm,w8⟩:=lQ;have I8:=I8.AE;obtain⟨b1,b2,b3,b4⟩:=back I8;refine eU F.slot_list_append ⟨_,b4,rfl⟩ F.entry_list_append (F.args_list_append_2 _ _) (PySem.list_append D aR.toArray nn xv (by rw[aA];have:=v3.length;omega)) ⟨b4,?_⟩;have q:∃n',(s8.heap.update D (Obj.mapSeq (·.push xv))).get? D=some (L7 (aR++[xv]) n'):=by
     have q0:=PySem.IsL.update b4 (·.push xv);have e0:aR.toArray.push xv=(aR++[xv]).toArray:=by simp
     rw[e0] at q0;exact⟨_,q0⟩
    obtain⟨n',q⟩:=q;have Dd:Inv (f6 X pins scope N' cl C s H fp) [] kx H8 s8:=I8.J7 λp hp=>absurd hp (by simp);obtain⟨f0,f1,f2,f3,f4,f5⟩:=fD (H':=H8) b3;have kp:∀b o,b≠D->s8.heap.get? b=some o->(s8.heap.update D (Obj.mapSeq (·.push xv))).get? b=some o:=λb' u hb hu=>(bV s8.heap (Obj.mapSeq (·.push xv)) (bD hb)).trans hu;refine⟨m',hm,i+1,ys++[y],kx,H8,aR++[xv],n',Dd.turned (it:=D) (t':=s8.toks) kp f0 f1 f3 f4 f5,T.keep _ _ _ b2 λb hb o e=>kp b o (λz=>uA (by rw[<- z];exact hb)) e,b1,b3,v3.append (.cons r8 .nil),?_,q,w8⟩;rw[bc,iq];omega
 exact⟨rfl,codeAny_compStart_list (loop _ rfl) (T.self _ 0 _ _ _ sZ (loop _ rfl))⟩
theorem Inv.BS{C:Addr}{h':Heap}{s2:Shared}{H2:Hp}(I:Inv X pins Z H s)(hC:s2.heap.objs.size<=C)(I2:Inv X pins Z H2 s2)(hn:H C=none)(sb:Heap.SameBut C s.heap h'):Inv X pins Z H { s with heap:=h' }:=by
 have f:=I2.oI (b:=C) (H':=H) hC hn;obtain⟨f0,f1,f2,f3,f4,f5⟩:=f;exact I.turned (t':=s.toks) (λb o hb e=>sb.extBut b o hb e) f0 f1 f3 f4 f5
theorem Hh{M:Model}{A:Around}{E:Value->Shared->Prop}{s:Shared}{a:Sem Value}{b:Sem Env}{P:Env->Prop}{Q:Value->Env->Shared->Prop}(h:wpAny M A a (λx s1=>wpAny M A b (λy s2=>P y/\Q x y s2) E s1) E s):wpAny M A a (λx s1=>wpAny M A b (λy s2=>Q x y s2) E s1) E s :=
 bA h (λ_ _ h=>bA h (λ_ _ h=>h.2) λ_ _ z=>z) λ_ _ z=>z
theorem IQ{elt tg iter:Expr}{ifs:List Expr}{scope:Scope}{N':List Str}{d5:List Nat}{cl:List (Str×Addr)}{pos:Pos}{wi:TI}{g:TG}{tc:TT}{te:TE}(S:df X scope N' d5 cl)(hc:X.calm=true)(hi:PI X tg iter wi)(hg:∀pins C s H fp,PG (f6 X pins scope N' cl C s H fp) tg g)(ht:∀pins C s H fp,ko (f6 X pins scope N' cl C s H fp) ifs tc)(he:∀pins C s H fp,PE (f6 X pins scope N' cl C s H fp) elt te)(hs:∀x,foldedSetIterable iter X.env x=pure x):PE X (.ListComp elt [⟨tg,iter,ifs,0⟩] scope pos) (Cd wi d5 N'.length g tc te):=by
 intro pins s Z H Q I h;rw[eval_ListComp];refine ig (use:=none) rfl hs S.qu S.kind S.names (cz (hi pins s Z H _ I h) λxv bQ h₁=>cz h₁ λtW fS iB=>?_);obtain⟨it,fp,tn,J,H2,e,I2,T,jR,f2,W,⟨m0,w0⟩,turn⟩:=iB;subst e;refine Hh (Hd (xx:=λ_ _ _ _ _=>False) (RR:=λacc C=>compPost (model X.prog X.w) X.A X.xe none (EP X pins Z Q) acc C) S hc (λC s H=>hg pins C s H fp) (λC s H=>ht pins C s H fp) (λC s H=>he pins C s H fp) I2 T jR f2 w0 turn ?_ λ_ _ _ _ _ z=>z.elim);intro D C s' H' m I' q hn hC hsz;exact⟨m,hn,λh' sb=>⟨.ref D,H',I'.BS hsz I2 hC sb,rfl,q⟩⟩
theorem Zr{elt tg iter:Expr}{ifs:List Expr}{scope:Scope}{N':List Str}{d5:List Nat}{cl:List (Str×Addr)}{pos tj px:Pos}{wi:TI}{g:TG}{tc:TT}{te:TE}{i:Nat}{x:Str}(S:df X scope N' d5 cl)(hc:X.calm=true)(hi:PI X tg iter wi)(hg:∀pins C s H fp,PG (f6 X pins scope N' cl C s H fp) tg g)(ht:∀pins C s H fp,ko (f6 X pins scope N' cl C s H fp) ifs tc)(he:∀pins C s H fp,PE (f6 X pins scope N' cl C s H fp) elt te)(hs:∀x,foldedSetIterable iter X.env x=pure x)(hN:X.N.Nodup)(uj:X.N[i]?=some x)(hx:Loc X.env.scope x)(hf:X.fn x=true\/X.env.scope.names.lookup x=some .local) :
  PS X (.Assign [.Name x px] (.ListComp elt [⟨tg,iter,ifs,0⟩] scope pos) tj) (uY (Cd wi d5 N'.length g tc te) (si i)):=by
 intro pins s Z H D I h;have wo:∃b,swapsWith (.ListComp elt [⟨tg,iter,ifs,0⟩] scope pos) (some (.Name x px)) tj.line X.env=pure b:=⟨_,rfl⟩
 obtain⟨b,wo⟩:=wo;cases b with
 |false=>exact Il hN uj hx (IQ S hc hi hg ht he hs) wo hf pins s Z H D I h
 |true =>
  rw[exec_Assign_Name_used _ _ _ _ wo];refine aa (dE (aa ?_));show wpAny _ X.A (do let _ <- comprehension (.ListComp elt [⟨tg,iter,ifs,0⟩] scope pos) scope X.env _ (newList []) false (eval iter X.env) (some (assign (.Name x px) X.env))) _ _ s;refine aa (bA (ig (use:=some (assign (.Name x px) X.env)) (Q:=λ_ s'=>SP X pins D .next s') rfl hs S.qu S.kind S.names
   (cz (hi pins s Z H _ I h) λxv bQ h₁=>cz h₁ λtW fS iB=>?_)) (λ_ s' hq=>ao (ao hq)) λ_ _ e=>e)
  obtain⟨it,fp,tn,J,H2,e,I2,T,jR,f2,W,⟨m0,w0⟩,turn⟩:=iB;subst e;refine Hh (Hd (xx:=λ_ _ _ _ _=>False) (Q:=λv H1=>si i v Z H1 D.nx) (RR:=λacc C=>compPost (model X.prog X.w) X.A X.xe (some (assign (.Name x px) X.env)) (λ_ s'=>SP X pins D .next s') acc C) S hc (λC s H=>hg pins C s H fp) (λC s H=>ht pins C s H fp) (λC s H=>he pins C s H fp) I2 T jR f2 w0 turn ?_ λ_ _ _ _ _ z=>z.elim);intro Dl C s' H' m I' q hn hC hsz;show wpAny _ X.A (assign (.Name x px) X.env (.ref Dl)) _ _ _;refine wpAny_assign_Name (GW I' hN uj hx (v:=.ref Dl) rfl (λs3 I3 ⟨a,sb,ha⟩=>?_) hf);have MO:C≠a:=by
   obtain⟨f0,f1,f2,f3,f4,f5⟩:=I2.oI (b:=C) (H':=H') hsz hC;rcases ha with z|z
   ·rw[z];exact f1
   ·exact λz'=>f4 _ _ z z'.symm
  obtain⟨f0,f1,f2,f3,f4,f5⟩:=I2.oI (b:=C) (H':=H') hsz hC;refine⟨m,hn.sameBut sb MO,λh3 KL=>⟨_,H',I3.turned (t':=s3.toks) (λb o hb e=>KL.extBut b o hb e) f0 f1 f3 f4 f5,q⟩⟩
end
end L2

namespace HT
open PySem PyProof.Rows
section
variable{prog:Program}{w:World}{A:Around}{E:Value->Shared->Prop}{s:Shared}
theorem ZO{t b:Addr}{ws:List Value}{Q:Value->Shared->Prop}(ht:IsTup s.heap t #[])(hb:IsTup s.heap b ws.toArray)(h1:Q (.ref b) s):wpAny (model prog w) A (binaryOp .Add (.ref t) (.ref b)) Q E s:=by
 obtain⟨⟨cls,dd,data,sl⟩,ho,hc,n,hd⟩:=id ht;obtain⟨⟨uV,oB,data2,ka⟩,jV,mf,n2,hd2⟩:=id hb;simp only at hc hd mf hd2;subst hc hd mf hd2;exact concat_meets ⟨_,ho,rfl⟩ ⟨_,jV,rfl⟩ iL kM gT gI (gh _ _)
   (tuple_addW0 t b #[] ws.toArray n n2 dd oB sl ka rfl) ⟨ho,jV,h1⟩
theorem WW{t sl:Addr}{items:Array Value}{vl vu:Value}{lo hi:Option Int}{Q:Value->Shared->Prop}(ht:IsTup s.heap t items)(hs:s.heap.IsSliceOf sl vl vu .none)(pl:IsPart vl lo)(pu:IsPart vu hi)(hw:dn items.size 0 lo=0/\dn items.size items.size hi=items.size)(h:Q (.ref t) s):wpAny (model prog w) A (getItem (.ref t) (.ref sl)) Q E s:=by
 obtain⟨os,kF,pU,mG⟩:=id hs;have uy:s.TypeIs (.ref sl) "slice":=⟨os,kF,pU⟩
 unfold getItem
 try with_reducible refine bY ?_
 first|refine aa (ao ?_)|skip
 refine aa (mK ht.typeIs (by decide) ?_);refine aa (du (name:=Str.ofString "__getitem__") ht.typeIs aX
  (cj aX ht.typeIs qL ?_ (vJ _ _)))
 show wpAny _ _ (Builtin.Tuple.tupleItemsOf (.ref t) >>= _) _ _ s;refine aa (sC ht ?_);refine aa (dB uy ?_);rw[aH (by decide)];refine aa (Q8 hs pl pu ?_);have yU:((((dn items.size 0 lo:Nat):Int)==0&&(1:Int)==1&&(dn items.size items.size hi-dn items.size 0 lo)==items.size)=true):=by
  rw[hw.1,hw.2];simp
 show wpAny _ _ (if(((dn items.size 0 lo:Nat):Int)==0&&(1:Int)==1&&(dn items.size items.size hi-dn items.size 0 lo)==items.size)=true then _ else _) _ _ s;rw[aH yU];obtain⟨o,ho,hc,_⟩:=id ht;unfold Builtin.Tuple.tupleIsExact;refine aa (aa (dB ht.typeIs (ao ?_)));rw[aH (by decide)]
 first
  |exact wpAny_bind (wpAny_rule (wpAny_bind (wpAny_pure ⟨_,rfl,wpAny_pure h⟩)))
  |exact wpAny_bind (wpAny_rule (wpAny_pure ⟨_,rfl,wpAny_pure h⟩))
  |exact wpAny_bind (wpAny_rule (wpAny_bind (wpAny_pure (wpAny_pure ⟨_,rfl,wpAny_pure h⟩))))
end
end HT
namespace L2
open PySem PySem.Spec PyProof.Rows
section
variable{X:Cx}
noncomputable def Qh(K:PySem.W.Frag):R2:=λx y H Q=>∃a b xs ys,x=.ref a/\y=.ref b/\gS K H a xs/\gS K H b ys/\xs.length+ys.length<=sizeLine /\
 (xs=[]->Q (.ref b) H)/\(ys=[]->Q (.ref a) H)/\(∀p,H p=none->Q (.ref p) (upd H p (.tup (xs++ys))))
theorem a41:fh X (binaryOp .Add) (Qh X.K):=by
 intro pins s Z H x y v u Q I rx ry h;obtain⟨a,b,xs,ys,rfl,rfl,ha,hb,hz,q0,q1,q2⟩:=h;by_cases hx:xs=[]
 ·subst hx;cases rx;cases ry;obtain⟨aR,r1,p1,_⟩:=I.tuple ha;obtain⟨lM,r2,p2,_⟩:=I.tuple hb;cases r1;exact HT.ZO p1 p2 ⟨.ref b,H,I,rfl,q0 rfl⟩
 ·exact RV pins s Z H _ _ v u Q I rx ry ⟨a,b,xs,ys,rfl,rfl,ha,hb,hx,hz,q1,λ_=>q2⟩
noncomputable def Wk(K:PySem.W.Frag):V->Option Int->Option Int->Hp->VK->Prop:=λx lo hi H Q=>∃a xs,x=.ref a/\gS K H a xs /\
 (T1 xs lo hi=xs->Q (.ref a) H)/\∀p,H p=none->Q (.ref p) (upd H p (.tup (T1 xs lo hi)))
theorem SV:vA X (Wk X.K):=by
 intro pins s Z H x v vl vu lo hi sl Q I rx hs pl pu h;obtain⟨a,xs,rfl,hx,q0,q⟩:=h;by_cases hw:HT.dn xs.length 0 lo=0/\HT.dn xs.length xs.length hi=xs.length
 ·cases rx;obtain⟨aR,r,ht,hz⟩:=I.tuple hx;have hlen:aR.toArray.size=xs.length:=by rw[aA];exact r.length.symm
  refine⟨"tuple",_,aX.lookup,ht.typeIs,?_⟩;exact HT.WW ht hs pl pu (by rw[hlen];exact hw) ⟨.ref a,H,I,rfl,q0 (by unfold T1;rw[hw.1,hw.2];simp)⟩
 ·exact QB pins s Z H _ v vl vu lo hi sl Q I rx hs pl pu ⟨a,xs,rfl,hx,hw,q⟩
theorem Zg:m9 X (.builtin "isinstance") (λxs H Q=>∃x t c b,xs=[x,.ty c]/\gB X.K H x t/\PySem.W.kitOne X.K t (.type c)=some b/\Q (.bl b) H):=by
 intro pins s Z H xs us Q I r h;obtain⟨x,t,c,b,rfl,hT,hk,q⟩:=h;obtain⟨u,w',rfl,ru,fE⟩:=vals2 r;cases (show w'=Value.type c from fE);exact Xx I ru hT hk λtk=>⟨.bl b,H,I.tok tk,rfl,q⟩
theorem Xe(hc:X.calm=true):m9 X (.builtin "all") (λxs H Q=>∃(a:Addr) (bs:List Bool),xs=[.ref a]/\fo X.K H a (bs.map V.bl)/\Q (.bl (bs.all id)) H):=by
 intro pins s Z H xs us Q I r h;obtain⟨a,bs,rfl,ha,q⟩:=h;obtain⟨u,rfl,ru⟩:=vals1 r;cases ru;obtain⟨aR,rv,p,hz⟩:=I.list ha;refine call_all_walk ?_;refine hV p.isList ?_;have dz:a≠s.heap.objs.size:=by
  obtain⟨o,e,_⟩:=id p.isList;exact aN (ay e)
 have hl:=rv.length;rw[ah] at hl;refine⟨s.heap.objs.size,_,_,_,_,_,λi=>bs.getD i true,rfl,Walks.list (A:=X.A.in1) (I.ok.hd hc) _ a dz aR.toArray,⟨⟨_,aC _ rfl,rfl,rfl⟩,?_⟩,?_,λh' tk k=>?_⟩
 ·obtain⟨o,e,q1⟩:=id p.isList;exact⟨o,au _ e,q1⟩
 ·intro i v s' Q' E' hP hQ;have hv:aR[i]?=some v:=by simpa using hP
  have hi:i<bs.length:=by rw[hl];exact(aj.mp hv).1
  obtain⟨u',tZ,yC⟩:=rv.get (i:=i) (x:=V.bl bs[i]) (by rw[ak,ag hi];rfl);rw[hv] at tZ;cases tZ;cases (show v=Value.bool bs[i] from yC);refine cw ?_;have:bs.getD i true=bs[i]:=by simp[List.getD,hi]
  dsimp only at hQ;rw[this] at hQ;exact hQ
 ·have e1:(List.range aR.toArray.size).all (λi=>bs.getD i true)=bs.all id:=by
   rw[aA,<- hl];rw[aW];simp only[List.all_eq_true,List.mem_range,id];constructor
   ·intro hh x hx;obtain⟨i,hi,rfl⟩:=cR.mp hx;have:=hh i hi;simpa[List.getD,hi] using this
   ·intro hh i hi;have:=hh bs[i] (cc hi);simpa[List.getD,hi] using this
  rw[e1];exact ⟨.bl (bs.all id),H,I.kept (t':=tk) λb o e=>k b o (by
   intro hb;have:b=s.heap.objs.size:=by simpa using hb
   exact absurd (ay e) (by rw [this];exact br _)) (au _ e),rfl,q⟩
end
end L2

namespace HT
open PySem PyProof.Rows
section
variable{prog:Program}{w:World}{A:Around}{E:Value->Shared->Prop}{s:Shared}
theorem WS{sl:Addr}{n:Nat}{t:Tok}{Q:Int×Int×Nat->Shared->Prop}(hs:s.heap.IsSliceOf sl .none .none (.int (-1) t))(h:Q ((n:Int)-1,-1,n) s) :
  wpAny (model prog w) A (Builtin.Slice.sliceApplied (.ref sl) (pure (n:Int))) Q E s:=by
 obtain⟨os,kF,pU,mG⟩:=id hs;unfold Builtin.Slice.sliceApplied Builtin.Slice.sliceFields;refine aa (aa (eZ kF mG (x:=.none) rfl (aa (eZ kF mG (x:=.none) rfl (aa (eZ kF mG (x:=.int (-1) t) rfl (ao ?_)))))));refine aa (slicePart_int ?_);show wpAny _ _ (if((-1:Int)==0)=true then _ else _) _ _ s;rw[aB (by decide)];refine aa (nG (aa (nG (aa (ao ?_)))));show wpAny _ _ (match Builtin.Slice.sliceAdjust none none (-1) (n:Int) with|(lo,hi)=>pure (lo,(-1:Int),Builtin.Slice.slicePlaces lo hi (-1))) _ _ s;have e1:Builtin.Slice.sliceAdjust none none (-1) (n:Int)=((n:Int)-1,-1):=rfl;rw[e1];show wpAny _ _ (pure ((n:Int)-1,(-1:Int),Builtin.Slice.slicePlaces ((n:Int)-1) (-1) (-1))) _ _ s;have e2:Builtin.Slice.slicePlaces ((n:Int)-1) (-1) (-1)=n:=by
  unfold Builtin.Slice.slicePlaces;have h1:¬((-1:Int)>0):=by omega
  simp only[h1,if_false];have h2:(-(-1:Int))=1:=by omega
  rw[h2];simp only[Int.ediv_one];split<;>omega
 rw[e2];exact ao h
theorem Gd(xs:Array Value):((List.range xs.size).filterMap λ(m:Nat)=>xs[(((xs.size:Nat):Int)-1+(m:Int)*(-1)).toNat]?).toArray=xs.toList.reverse.toArray:=by
 congr 1
 apply dy;intro i;have e:(List.range xs.size).filterMap (λ(m:Nat)=>xs[(((xs.size:Nat):Int)-1+(m:Int)*(-1)).toNat]?)=(List.range xs.size).map λm=>xs.toList.reverse.getD m .none:=by
  have:∀(l:List Nat),(∀m∈l,m<xs.size)->l.filterMap (λ(m:Nat)=>xs[(((xs.size:Nat):Int)-1+(m:Int)*(-1)).toNat]?)=l.map λm=>xs.toList.reverse.getD m .none:=by
   intro l hl
   induction l with
   |nil=>rfl
   |cons a r ih =>
    have ha:=hl a (by simp);have e1:(((xs.size:Nat):Int)-1+(a:Int)*(-1)).toNat=xs.size-1-a:=by omega
    have e2:xs[xs.size-1-a]?=some xs[xs.size-1-a]:=by simp
    have e3:xs.toList.reverse.getD a .none=xs[xs.size-1-a]:=by
     have hl:a<xs.toList.reverse.length:=by simpa using ha
     rw[bJ,ag hl];simp[List.getElem_reverse]
    rw[da,e1,e2,aY,e3,ih λm hm=>hl m (by simp[hm])]
  exact this _ λm hm=>by simpa using hm
 rw[e];by_cases hi:i<xs.size
 ·rw[ak,cv hi];simp only[Option.map_some,List.getD_eq_getElem?_getD];rw[ag (by simpa using hi)]
  rfl
 ·rw[aS (by simpa using hi),aS (by simpa using hi)]
theorem WU{t sl:Addr}{items:Array Value}{tk:Tok}{Q:Value->Shared->Prop}(ht:IsTup s.heap t items)(hs:s.heap.IsSliceOf sl .none .none (.int (-1) tk))(h:Q (.ref s.heap.objs.size) { s with heap:=s.heap.push { cls:=.type "tuple",data:=.seq items.toList.reverse.toArray } })(hsz:items.size<=sizeLine):wpAny (model prog w) A (getItem (.ref t) (.ref sl)) Q E s:=by
 have gs:sizeOk (.seq items.toList.reverse.toArray):=by
  show items.toList.reverse.toArray.size<=sizeLine;rw[aA,dN,bp];exact hsz
 obtain⟨os,kF,pU,mG⟩:=id hs;have uy:s.TypeIs (.ref sl) "slice":=⟨os,kF,pU⟩
 unfold getItem
 try with_reducible refine bY ?_
 first|refine aa (ao ?_)|skip
 refine aa (mK ht.typeIs (by decide) ?_);refine aa (du (name:=Str.ofString "__getitem__") ht.typeIs aX
  (cj aX ht.typeIs qL ?_ (vJ _ _)))
 show wpAny _ _ (Builtin.Tuple.tupleItemsOf (.ref t) >>= _) _ _ s;refine aa (sC ht ?_);refine aa (dB uy ?_);rw[aH (by decide)];refine aa (WS hs ?_);have mF:¬((((items.size:Nat):Int)-1==0&&(-1:Int)==1&&items.size==items.size)=true):=by
  intro q;rw[aQ,aQ] at q;exact absurd q.1.2 (by decide)
 show wpAny _ _ (if(((items.size:Nat):Int)-1==0&&(-1:Int)==1&&items.size==items.size)=true then _ else _) _ _ s;rw[aB mF,Gd]
 first
  |exact wpAny_bind (m:=Builtin.Tuple.tupleExact _) (wpAny_newObj_type (wpAny_pure ⟨_,rfl,wpAny_pure h⟩) gs)
  |exact wpAny_bind (m:=Builtin.Tuple.tupleExact _) (wpAny_newObj_type (wpAny_bind (wpAny_pure (wpAny_pure ⟨_,rfl,wpAny_pure h⟩))) gs)
  |exact wpAny_bind (wpAny_bind (m:=Builtin.Tuple.tupleExact _) (wpAny_newObj_type (wpAny_pure (wpAny_pure ⟨_,rfl,wpAny_pure h⟩)) gs))
  |exact wpAny_bind (wpAny_bind (m:=Builtin.Tuple.tupleExact _) (wpAny_newObj_type (wpAny_pure ⟨_,rfl,wpAny_pure h⟩) gs))
end
end HT
namespace L2
open PySem PySem.Spec PyProof.Rows
section
variable{X:Cx}{e st:Expr}{te ts:TE}{pos p2:Pos}
theorem WE(aR:List Value):slicePick aR.toArray none none (some (-1))=aR.reverse.toArray:=by
 have h:=HT.Gd aR.toArray;unfold slicePick;have e1:(sliceBounds none none (some (-1)) aR.toArray.size).1=((aR.toArray.size:Nat):Int)-1:=rfl;have e2:(sliceBounds none none (some (-1)) aR.toArray.size).2.1=-1:=rfl;have e3:(sliceBounds none none (some (-1)) aR.toArray.size).2.2=-1:=rfl;rw[e1,e2,e3];have e4:sliceRange (((aR.toArray.size:Nat):Int)-1) (-1) (-1)=(List.range aR.toArray.size).map λ(m:Nat)=>(((aR.toArray.size:Nat):Int)-1+(m:Int)*(-1)).toNat:=by
  unfold sliceRange;have h1:¬((-1:Int)>0):=by omega
  simp only[h1,if_false];have h2:(if((aR.toArray.size:Nat):Int)-1 > -1 then(((aR.toArray.size:Nat):Int)-1-(-1)-(-1)-1) / (-(-1)) else 0).toNat=aR.toArray.size:=by
   rw[show(-(-1):Int)=1 from rfl,Int.ediv_one];split<;>omega
  rw[h2]
  congr 1
  funext m
  congr 1
  omega
 rw[e4,Kf];rw[show aR.reverse=aR.toArray.toList.reverse from rfl,<- h]
 rfl
theorem PK(he:PE X e te)(hs:PE X st ts):PE X (.Subscript e (.Slice none none (some st) p2) pos) (λZ H Q=>te Z H λx H1=>ts Z H1 λy H2=>y=.int (-1)/\∃a xs,x=.ref a/\((gS X.K H2 a xs/\∀p,H2 p=none->Q (.ref p) (upd H2 p (.tup xs.reverse)))\/(fo X.K H2 a xs/\∀p,H2 p=none->Q (.ref p) (upd H2 p (.lst xs.reverse))))):=by
 intro pins s Z H Q I h;refine Subscript_ (cz (he pins s Z H _ I h) λv s1 ⟨x,H1,I1,r1,q1⟩=>?_);refine wpAny_Slice ?_;rw[J'];refine ao ?_;refine ao ?_;rw[evalPart_some];refine cz (hs pins s1 Z H1 _ I1 q1) λu s2 ⟨y,H2,I2,r2,q2⟩=>?_;obtain⟨rfl,a,xs,rfl,q⟩:=q2;obtain⟨t,rfl⟩:=r2;cases r1;have I4:Inv X pins Z H2 { s2 with heap:=s2.heap.push { cls:=.type "slice",data:=.fields #[.none,.none,.int (-1) t] } }:=I2.kept (t':=s2.toks) λb ob q=>au _ q;show wpAny (model X.prog X.w) X.A (subscriptTail e (.Slice none none (some st) p2) (.ref a) (.ref s2.heap.objs.size)) (EP X pins Z Q) X.xe { s2 with heap:=s2.heap.push { cls:=.type "slice",data:=.fields #[.none,.none,.int (-1) t] } };rcases q with⟨hx,q⟩|⟨hx,q⟩
 ·obtain⟨aR,r,ht,hz⟩:=I4.tuple hx;have hlen:aR.toArray.size=xs.length:=by rw[aA];exact r.length.symm
  refine Dj (ops:=[.ref a,.ref s2.heap.objs.size]) ht.typeIs aX.lookup (HT.WU ht (lz ..) ?_ (by rw[hlen];exact hz)) (by with_unfolding_all rfl);have ee:aR.toArray.toList.reverse.toArray=aR.reverse.toArray:=by simp
  rw[ee];refine⟨.ref _,_,I4.laid (t':=s2.toks) (o:=.tup xs.reverse) (λb ob q=>au _ q) (av _) ?_,rfl,q _ (I4.bG.fresh (av _))⟩;exact⟨by rw[dN];exact hz,aR.reverse,r.reverse,F0.new _ _⟩
 ·obtain⟨aR,r,ht,hz⟩:=I4.list hx;have hlen:aR.toArray.size=xs.length:=by rw[aA];exact r.length.symm
  refine Dj (ops:=[.ref a,.ref s2.heap.objs.size]) ht.isList.typeIs mL.lookup (JZ ht.isList (lz ..) .none .none (.int (-1) t) (by simp) ?_ (by rw[hlen];exact hz)) (by with_unfolding_all rfl);rw[WE];refine⟨.ref _,_,I4.laid (t':=s2.toks) (o:=.lst xs.reverse) (λb ob q=>au _ q) (av _) ?_,rfl,q _ (I4.bG.fresh (av _))⟩;exact⟨by rw[dN];exact hz,_,0,r.reverse,aC _ rfl⟩
end
end L2

namespace L2
open PySem PySem.Spec PyProof.Rows
theorem m8.get{P:Program}{w:World}{H:Hp}{h:Heap}{a:Addr}:∀{o:HO},m8 P w H h a o->∃ob,h.get? a=some ob
 |.lst _,x=>by obtain⟨_,_,_,_,e⟩:=x;exact⟨_,e⟩
 |.tup _,x=>by obtain⟨_,_,_,o,e,_⟩:=x;exact⟨o,e⟩
 |.dK _,x=>by obtain⟨_,_,_,_,o,es,ep,e,_⟩:=x;exact⟨o,e⟩
 |.dT _,x=>by obtain⟨_,_,_,_,o,es,ep,e,_⟩:=x;exact⟨o,e⟩
 |.set _ _,x=>by obtain⟨o,es,ep,t,e,_⟩:=x;exact⟨o,e⟩
 |.ins _ _ _,x=>by obtain⟨_,_,_,e,_⟩:=x;exact⟨_,e⟩
 |.own _,x=>x
 |.xd _,x=>by obtain⟨mA,n,_⟩:=x;obtain⟨od,e,_⟩:=GI n;exact⟨od,e⟩
 |.kS _ _,x=>by obtain⟨_,_,_,e⟩:=x;exact⟨_,e⟩
 |.je _ _,x=>⟨_,x.1⟩
 |.nN _,x=>⟨_,x⟩
 |.met _ _,x=>⟨_,x⟩
 |.ext _,x=>x.2.1
noncomputable def BK(H':Hp)(h0:Heap)(l:List Env)(e:Value)(C:Addr)(h:Heap):Prop :=
 ∃(ea:Addr) (a0:Value) (B:Heap),e=.ref ea/\Heap.FlyingW B l ea (.ref C) a0 h/\∀b o,h.get? b=some o->b∉ft l->(H' b≠none\/∃o0,h0.get? b=some o0)->B.get? b=some o
noncomputable def iJ(P:Program)(w:World):mz:=λouter H s E e s'=>∃(C:Addr) (H':Hp),s'.os=s.os/\AllBare s'.gens/\Un (ft outer) [] H H' s.heap s'.heap/\fK P w H' s'.heap/\BK H' s.heap outer e C s'.heap/\E (.ref C) none H'
section
variable{X:Cx}{pins:List (Addr×Obj)}{Z:St}{H:Hp}{s s':Shared}{E:XK}{e:Value}
theorem Inv.flew(I:Inv X pins Z H s)(h:iJ X.prog X.w X.stack H s E e s'):∃C H',Inv X pins Z H' s'/\BK H' s.heap X.stack e C s'.heap/\E (.ref C) none H':=by
 obtain⟨C,H',ho,hb,hu,bG,fl,hE⟩:=h;exact⟨C,H',I.BP (ch:=[]) ho hu bG hb (by simp),fl,hE⟩
theorem xN(I:Inv X pins Z H s){b:Addr}(hb:b∈ft X.stack):∃o,s.heap.get? b=some o/\∀vs,o.data≠.fields vs:=(I.stack.mem hb).2
theorem BR{mH:Heap}{B:Heap}{ea C:Addr}{a0:Value}(I:Inv X pins Z H s)(fz:X.stack=X.env::X.outer)(hex:X.ex=[])(hf:X.env.frame=some X.env.locals)(nX:∀b o,s.heap.get? b=some o->b∉ft X.stack->(H b≠none\/∃o0,X.cX.heap.get? b=some o0)->B.get? b=some o)(sl:∀b∈ft X.stack,∀o,s.heap.get? b=some o->∃sl,mH.get? b=some { o with slots:=sl })(fw:Heap.FlyingW B X.outer ea (.ref C) a0 mH)(hE:E (.ref C) none H):iJ X.prog X.w X.outer X.iR X.cX E (.ref ea) { s with heap:=mH }:=by
 have pO:∀b,b∈ft X.outer->b∈ft X.stack:=λb hb=>by rw[fz];unfold ft at hb ⊢;rw[da,hf];exact bI _ hb
 have tK:∀b o,X.cX.heap.get? b=some o->b∉ft X.outer->b∉ft X.stack:=λb o e hb z=>by
  rcases aE.mp (I.K2 b z) with z|z
  ·exact absurd (ay e) (by rw[z];exact jm.mpr I.ok.above)
  ·exact hb z
 have mR:∀b u,H b=some u->b∉ft X.stack:=λb u e z=>by rw[I.xI b z] at e;cases e
 have kept:∀b o,s.heap.get? b=some o->b∉ft X.stack->(H b≠none\/∃o0,X.cX.heap.get? b=some o0)->mH.get? b=some o:=λb o e n q=>fw.1 b o (nX b o e n q);have tM:∀b,b∉X.ex:=λb=>by rw[hex];simp
 refine⟨C,H,I.os,I.bare,⟨?_,?_,?_,?_,I.base.gL,I.base.gw,I.base.gM⟩,?_,⟨ea,a0,B,rfl,fw,?_⟩,hE⟩
 ·exact λb o e n1 n2 _=>kept b o (I.base.keep b o e n1 n2 (tM b)) (tK b o e n2) (.inr ⟨o,e⟩)
 ·intro b o e n1 n2 _;obtain⟨KH,e1⟩:=I.base.slot b o e n1 n2 (tM b);obtain⟨ka,e2⟩:=sl b (pO b n2) _ e1;exact⟨ka,e2⟩
 ·exact λb o e n1 _=>I.base.free b o e n1 (tM b)
 ·intro b o e _;obtain⟨o1,e1⟩:=I.base.there b o e (tM b);by_cases hb:b∈ft X.stack
  ·obtain⟨ka,e2⟩:=sl b hb _ e1;exact⟨_,e2⟩
  ·exact⟨o1,kept b o1 e1 hb (.inr ⟨o,e⟩)⟩
 ·intro a o e;exact (I.bG a o e).Q7 (λb u hb q=>by
   have jI:∃v,H b=some v:=by
    rcases hb with rfl|hb
    ·exact⟨o,e⟩
    ·exact⟨_,hb⟩
   obtain⟨v,hv⟩:=jI;exact kept b u q (mR b v hv) (.inl (by rw [hv];simp))) (λb hb=>hb) (λb xs hb=>hb)
 ·intro b o e n q;rcases q with q|⟨o0,q⟩
  ·obtain⟨v,hv⟩:=mO.mp q;obtain⟨o1,e1⟩:=(I.bG b v hv).get;have z:=nX b o1 e1 (mR b v hv) (.inl (by rw[hv];simp));have z':=fw.1 b o1 z;have:o=o1:=by
    have e':mH.get? b=some o:=e;rw[z'] at e';exact(aJ e').symm
   subst this;exact z
  ·obtain⟨o1,e1⟩:=I.base.there b o0 q (tM b);have z:=nX b o1 e1 (tK b o0 q n) (.inr ⟨o0,q⟩);have z':=fw.1 b o1 z;have:o=o1:=by
    have e':mH.get? b=some o:=e;rw[z'] at e';exact(aJ e').symm
   subst this;exact z
theorem ZG{h0:Heap}{C:Addr}{Ex:Value->Shared->Prop}(I:Inv X pins Z H s)(fl:BK H h0 X.stack e C s.heap)(Ni:∀b o,X.cX.heap.get? b=some o->∃o',h0.get? b=some o')(fz:X.stack=X.env::X.outer)(hex:X.ex=[])(hf:X.env.frame=some X.env.locals)(hE:E (.ref C) none H):wpAny (model X.prog X.w) X.A (leaving X.env e) (λ_ mS=>iJ X.prog X.w X.outer X.iR X.cX E e mS) Ex s:=by
 obtain⟨ea,a0,B,rfl,fw,hB⟩:=fl;have fw0:=fw;rw[fz] at fw;refine wpAny_leaves_onW (by rw[I.ok.frames,fz]) hf fw λmH wF us=>?_;refine BR I fz hex hf (λb o e n q=>hB b o e n (q.imp id λ⟨o0,q⟩=>Ni b o0 q)) (λb hb o e=>?_) wF hE;obtain⟨o1,e1,nf⟩:=xN I hb;rw[e] at e1;cases e1;exact us b o e nf
theorem YB{h':Heap}{ea C:Addr}{vs:List Value}{Ex:Value->Shared->Prop}(I:Inv X pins Z H s)(hx:Heap.MadeExcOf s.heap h' ea (.ref C) vs)(fz:X.stack=X.env::X.outer)(hex:X.ex=[])(hf:X.env.frame=some X.env.locals)(hE:E (.ref C) none H):wpAny (model X.prog X.w) X.A (leaving X.env (.ref ea)) (λ_ mS=>iJ X.prog X.w X.outer X.iR X.cX E (.ref ea) mS) Ex { s with heap:=h' }:=by
 have rA:=I.stack;rw[fz] at rA;have kG:∀env∈(X.env::X.outer),∀b,env.frame=some b->b∈ft X.stack:=λenv he b hb=>by rw[fz];exact jn.mpr ⟨env,he,hb⟩
 refine wpAny_leaves_madeW (s:={ s with heap:=h' }) (base:=PySem.W.hideAll s.heap (ft X.stack)) (h:=s.heap) (by rw[I.ok.frames,fz]) hf (λb o q=>Ka _ q) (PySem.W.funFrames_hide rA kG) hx λmH t fw _ _ us=>?_;refine(show iJ X.prog X.w X.outer X.iR X.cX E (.ref ea) { s with heap:=mH } from BR I fz hex hf (λb o e n _=>Dk _ e n) (λb hb o e=>?_) fw hE);obtain⟨o1,e1,nf⟩:=xN I hb;rw[e] at e1;cases e1;exact us b o (hx.keeps b o e) nf
theorem WX{l:List Env}{H H':Hp}{h0 h h1 B:Heap}{Pg:Program}{w:World}(u:Un (ft l) [] H H' h0 h)(ok:fK Pg w H' h)(hB:∀b o,h.get? b=some o->b∉ft l->(H' b≠none\/∃o0,h0.get? b=some o0)->B.get? b=some o)(st:B.StaysIn h1)(us:h.UpToSlots h1)(Et:∀b∈ft l,H' b=none/\∃o,h.get? b=some o/\∀vs,o.data≠.fields vs):Un (ft l) [] H H' h0 h1/\fK Pg w H' h1/\∀b o,h1.get? b=some o->b∉ft l->(H' b≠none\/∃o0,h0.get? b=some o0)->B.get? b=some o:=by
 have mR:∀b u,H' b=some u->b∉ft l:=λb u e z=>by rw[(Et b z).1] at e;cases e
 have kept:∀b o,h.get? b=some o->b∉ft l->(H' b≠none\/∃o0,h0.get? b=some o0)->h1.get? b=some o:=λb o e n q=>st b o (hB b o e n q);have ET:∀b∈ft l,∀o,h.get? b=some o->∃sl,h1.get? b=some { o with slots:=sl }:=λb hb o e=>by
  obtain⟨_,o1,e1,nf⟩:=Et b hb;rw[e] at e1;cases e1;exact us b o e nf
 refine⟨⟨?_,?_,u.free,?_,u.gL,u.gw,u.gM⟩,?_,?_⟩
 ·exact λb o e n1 n2 n3=>kept b o (u.keep b o e n1 n2 n3) n2 (.inr ⟨o,e⟩)
 ·intro b o e n1 n2 n3;obtain⟨KH,e1⟩:=u.slot b o e n1 n2 n3;obtain⟨ka,e2⟩:=ET b n2 _ e1;exact⟨ka,e2⟩
 ·intro b o e n;obtain⟨o1,e1⟩:=u.there b o e n;by_cases hb:b∈ft l
  ·obtain⟨ka,e2⟩:=ET b hb _ e1;exact⟨_,e2⟩
  ·exact⟨o1,kept b o1 e1 hb (.inr ⟨o,e⟩)⟩
 ·intro a o e;exact (ok a o e).Q7 (λb u hb q=>by
   have jI:∃v,H' b=some v:=by
    rcases hb with rfl|hb
    ·exact⟨o,e⟩
    ·exact⟨_,hb⟩
   obtain⟨v,hv⟩:=jI;exact kept b u q (mR b v hv) (.inl (by rw [hv];simp))) (λb hb=>hb) (λb xs hb=>hb)
 ·intro b o e n q;have:∃o1,h.get? b=some o1:=by
   rcases q with q|⟨o0,q⟩
   ·obtain⟨v,hv⟩:=mO.mp q;exact(ok b v hv).get
   ·exact u.there b o0 q (by simp)
  obtain⟨o1,e1⟩:=this;have z:=hB b o1 e1 n q;rw[st b o1 z] at e;cases e;exact z
section
variable{s':Shared}
structure Lies(X:Cx)(H H':Hp)(s:Shared)(B:Heap)(ea C:Addr)(a0:Value)(s':Shared):Prop where
 os:s'.os=s.os
 bare:AllBare s'.gens
 un:Un (ft X.stack) [] H H' s.heap s'.heap
 bG:fK X.prog X.w H' s'.heap
 nX:∀b o,s'.heap.get? b=some o->b∉ft X.stack->(H' b≠none\/∃o0,s.heap.get? b=some o0)->B.get? b=some o
theorem Lies.inv{H':Hp}{B:Heap}{ea C:Addr}{a0:Value}(I:Inv X pins Z H s)(l:Lies X H H' s B ea C a0 s'):Inv X pins Z H' s':=I.BP (ch:=[]) l.os l.un l.bG l.bare (by simp)
theorem leave_held{H':Hp}{B:Heap}{ea C:Addr}{a0:Value}{Ex:Value->Shared->Prop}(I:Inv X pins Z H s)(l:Lies X H H' s B ea C a0 s')(hh:Heap.HeldW B X.stack ea (.ref C) a0 X.env.locals s'.heap)(fz:X.stack=X.env::X.outer)(hex:X.ex=[])(hf:X.env.frame=some X.env.locals)(hE:E (.ref C) none H'):wpAny (model X.prog X.w) X.A (leaving X.env (.ref ea)) (λ_ mS=>iJ X.prog X.w X.outer X.iR X.cX E (.ref ea) mS) Ex s':=by
 have J:=l.inv I;have zy:=hh;rw[fz] at zy;unfold leaving;refine aa (wpAny_noteFrame_againW hf zy.2.2.2 ?_);refine wpAny_landsW zy λmH fl us=>?_;obtain⟨k1,k2,⟨_,_,k3⟩,k4⟩:=fl;refine BR J fz hex hf (λb o e n q=>l.nX b o e n (q.imp id λ⟨o0,q⟩=>I.base.there b o0 q (by rw[hex];simp))) (λb hb o e=>?_) ⟨k1,k2,k3,k4⟩ hE;obtain⟨o1,e1,nf⟩:=xN J hb;rw[e] at e1;cases e1;exact us b o e nf
end
noncomputable def xr(X:Cx)(Ξ:XK):Prop:=∀(pins:List (Addr×Obj)) (Z:St) (H:Hp) (s:Shared) (h':Heap) (ea C:Addr) (vs:List Value),Inv X pins Z H s->Heap.MadeExcOf s.heap h' ea (.ref C) vs->Ξ (.ref C) none H->X.xe (.ref ea) { s with heap:=h' }
noncomputable def xh(X:Cx)(Ξ:XK):Prop:=∀(pins:List (Addr×Obj)) (Z:St) (H H':Hp) (s s':Shared) (B:Heap) (ea C:Addr) (a0:Value),Inv X pins Z H s->Lies X H H' s B ea C a0 s'->Heap.HeldW B X.stack ea (.ref C) a0 X.env.locals s'.heap->Ξ (.ref C) none H'->X.xe (.ref ea) s'
noncomputable def QT(C:Addr)(Ξ:XK)(t:TA):TS:=λ_ Z H=>t Z H λvs H1=>vs.length<=sizeLine/\Ξ (.ref C) none H1
theorem a29{x:Str}{C:Addr}{B newId fT:String}{bm:List Value}{np fA pos:Pos}{jf:Expr}{rest:List Expr}{t:TA}{Ξ:XK}(hc:X.calm=true)(O:OwnCls x C bm newId X.mg X.base)(FB:ExcBaseFacts B newId fT bm)(hg:Gl X x)(ha:PA X (jf::rest) t)(hr:xr X Ξ)(he:starEach (jf::rest) X.env=(false,eval jf X.env)::starEach rest X.env)(fU:(backTo fA (starEach rest X.env)).any (·.1)=false)(hd:(x==("__debug__":Str))=false) :
  PS X (.Raise (some (.Call (.Name x np) (jf::rest) [] fA)) none pos) (QT C Ξ t):=by
 intro pins s Z H D I h;obtain⟨tl,N,nm,q,bs,hdct,sn,sub,ab,col,dd,k0,k1,k2,k3,k5,mN,hC,hN,wt,T⟩:=O.obj;refine wpAny_Raise_call_subT (C:=C) (nm:=nm) (q:=q) (N:=N) (bs:=bs) (bm:=tl) (hdct:=hdct) (sn:=sn) (sub:=sub) (ab:=ab) (col:=col) (dd:=dd) (k0:=k0) (k1:=k1) (k2:=k2) (k3:=k3) (k5:=k5)
  FB (mN:=mN) (T.hasType FB.hasBase) (I.ok.hd hc) (by rw[he];show(false||(backTo fA (starEach rest X.env)).any (·.1))=false;rw[fU];rfl) wt (Q1 I hg O.bound ⟨rfl,?_⟩ hd)
 have h':=ha fA pins s Z H _ I h;rw[he] at h' ⊢;refine Calls.evalArgs_plain (bA h' (λvs fS iB=>?_) λ_ _ y=>y);obtain⟨ws,H1,I1,rv,hz,hE⟩:=iB;exact⟨rfl,by rw[<- rv.length];exact hz,I1.bk _ _ hC,hN.keeps I1.bk,T.keeps I1.bk,λh2 ea hm=>hr pins Z H1 fS h2 ea C vs I1 hm hE⟩
noncomputable def xb(X:Cx)(pins:List (Addr×Obj))(xe:Value->Shared->Prop):Cx:={ X with pn:=X.pn++pins,xe:=xe }
noncomputable def N9(X:Cx)(ea:Addr):Cx:={ X with A:=X.A.mark (some (.ref ea)),calm:=false,xe:=λ_ _=>False }
theorem Inv.sx{xe:Value->Shared->Prop}{iw:List (Addr×Obj)}(I:Inv (xb X pins xe) iw Z H s):Inv X pins Z H s :=
 ⟨⟨I.ok.mod,I.ok.kind,I.ok.glob,I.ok.blt,I.ok.above,I.ok.inj,I.ok.has,I.ok.qw,I.ok.hd,I.ok.frames,I.ok.qU,I.ok.wG,I.ok.bs,I.ok.mJ,I.ok.jT,I.ok.kK,I.ok.K9,I.ok.nr⟩,I.os,I.bare,I.base,I.loc,I.cell,I.free,I.eA,
  λp hp=>I.pin p (dD _ hp),I.bG,I.len⟩
theorem Inv.Iq{ea:Addr}(I:Inv X pins Z H s):Inv (N9 X ea) pins Z H s :=
 ⟨⟨I.ok.mod,I.ok.kind,I.ok.glob,I.ok.blt,I.ok.above,I.ok.inj,I.ok.has,I.ok.qw,λz=>(by cases z),I.ok.frames,I.ok.qU,I.ok.wG,I.ok.bs,I.ok.mJ,I.ok.jT,I.ok.kK,I.ok.K9,I.ok.nr⟩,I.os,I.bare,I.base,I.loc,I.cell,I.free,I.eA,I.pin,I.bG,I.len⟩
theorem Inv.X3{ea:Addr}(J:X.Ok)(I:Inv (N9 X ea) pins Z H s):Inv X pins Z H s :=
 ⟨J,I.os,I.bare,I.base,I.loc,I.cell,I.free,I.eA,I.pin,I.bG,I.len⟩
theorem SP.sx{xe:Value->Shared->Prop}{D:Ends}{f:Flow}(h:SP (xb X pins xe) [] D f s):SP X pins D f s:=by
 cases f with
 |next=>obtain⟨a,b,I,q⟩:=h;exact⟨a,b,I.sx,q⟩
 |brk=>obtain⟨a,b,I,q⟩:=h;exact⟨a,b,I.sx,q⟩
 |cont=>obtain⟨a,b,I,q⟩:=h;exact⟨a,b,I.sx,q⟩
 |ret u=>obtain⟨v,a,b,I,r,q⟩:=h;exact⟨v,a,b,I.sx,r,q⟩
theorem SP.X3{ea:Addr}{D:Ends}{f:Flow}(J:X.Ok)(h:SP (N9 X ea) pins D f s):SP X pins D f s:=by
 cases f with
 |next=>obtain⟨a,b,I,q⟩:=h;exact⟨a,b,I.X3 J,q⟩
 |brk=>obtain⟨a,b,I,q⟩:=h;exact⟨a,b,I.X3 J,q⟩
 |cont=>obtain⟨a,b,I,q⟩:=h;exact⟨a,b,I.X3 J,q⟩
 |ret u=>obtain⟨v,a,b,I,r,q⟩:=h;exact⟨v,a,b,I.X3 J,r,q⟩
noncomputable def wM(X:Cx)(D:Ends)(C:Addr)(H:Hp):List ExceptHandler->Prop
 |.ExceptHandler (some (.Name x _)) none (uX::nO) _::rest=>Gl X x/\(x==("__debug__":Str))=false/\∃C' b,X.mg x=some (.ref C')/\PySem.W.exmOne X.K (.ref C) (.ref C')=some b /\
   (if b=true then ∃t:TS,(∀ea,iV (N9 X ea) (uX::nO) t)/\t D (List.replicate X.N.length none) H else wM X D C H rest)
 |[]=>∃Ξ:XK,xh X Ξ/\Ξ (.ref C) none H
 |_=>False
end
end L2

namespace L2
open PySem PySem.Spec PyProof.Rows
section
variable{X:Cx}{pins:List (Addr×Obj)}{Z:St}{H H':Hp}{s s':Shared}{e:Value}{D:Ends}
noncomputable def xc(X:Cx)(pins:List (Addr×Obj))(D:Ends)(hs:List ExceptHandler):Value->Shared->Prop:=λe bQ =>
 wpAny (model X.prog X.w) X.A (noteFrame e X.env) (λ_ fS=>wpAny (model X.prog X.w) X.A (setFlight e none) (λ_ eI=>wpAny (model X.prog X.w) X.A (handleBy e X.env hs) (SP X pins D) X.xe eI) X.xe fS) X.xe bQ
theorem Lies.step{B h1:Heap}{ea C:Addr}{a0:Value}(I:Inv X pins Z H s)(l:Lies X H H' s B ea C a0 s')(st:B.StaysIn h1)(us:s'.heap.UpToSlots h1):Lies X H H' s B ea C a0 { s' with heap:=h1 }:=by
 have J:=l.inv I;obtain⟨u,ok,ib⟩:=WX l.un l.bG l.nX st us λb hb=>⟨J.xI b hb,xN J hb⟩
 exact⟨l.os,l.bare,u,ok,ib⟩
theorem Zl{s:Shared}{B:Heap}{l:List Env}{ea L:Addr}{cls a0:Value}{A:Around}{M:Model}{E:Value->Shared->Prop}{Q:Unit->Shared->Prop}(fw:Heap.FlyingW B l ea cls a0 s.heap)(h:∀h',Heap.HeldW B l ea cls a0 L h'->(∀b o,s.heap.get? b=some o->(∀vs,o.data≠.fields vs)->h'.get? b=some o)->Q () { s with heap:=h' }):wpAny M A (setFlight (.ref ea) (some L)) Q E s:=by
 obtain⟨f1,f2,f3,oe,vs,T,oT,ts,he,kH,hd,h1,rn,wA,hT,rB,h3⟩:=fw;have ub:3<ts.size:=(Array.getElem?_eq_some_iff.mp h3).1;have other:∀b,b≠T->(s.heap.update T (Obj.mapFields (·.setIfInBounds 3 ((some L).elim Value.none λf=>rawInt f)))).get? b=s.heap.get? b :=
  λb hb=>bV _ _ (bD hb)
 have jw:∀b o,s.heap.get? b=some o->(∀vs,o.data≠.fields vs)->b≠T:=λb o hb ue q=>by
  rw[q,hT] at hb;injection hb with hb;subst hb;exact ue ts rB
 unfold setFlight;refine aa (eZ he hd h1 ?_);rw[aH (show(Value.ref T != Value.none)=true from by simp)];refine dt hT rB ub (h _ ⟨λb o zD=>(other b λq=>by rw [q,rn] at zD;cases zD).trans (f1 b o zD),f2,
  f3.of_keeps λb o hb ue=>⟨o,(other b (jw b o hb ue)).trans hb,rfl⟩,?_⟩ λb o hb ue=>(other b (jw b o hb ue)).trans hb)
 exact⟨oe,vs,T,_,_,(other ea (bD wA)).trans he,kH,hd,h1,rn,wA,bf _ hT (cV (bw rB _)),bw rB _,by simp[ub]⟩
theorem GD{B:Heap}{ea C:Addr}{a0:Value}(hf:X.env.frame=some X.env.locals):∀(hs:List ExceptHandler) (s':Shared),Inv X pins Z H s->Lies X H H' s B ea C a0 s'->Heap.FlyingW B X.stack ea (.ref C) a0 s'.heap->wM X D C H' hs ->
  wpAny (model X.prog X.w) X.A (handleBy (.ref ea) X.env hs) (SP X pins D) X.xe s'
 |[],s',I,l,fw,t=>by
  obtain⟨Ξ,hh,hE⟩:=t;refine wpAny_handleBy_nil ?_;unfold PySem.passOn;obtain⟨f1,f2,f3,oe,vs,T,oT,ts,he,kH,hd,h1,_⟩:=id fw;refine aa (eZ he hd h1 ?_);rw[aB (by simp),hf];refine aa (Zl fw λh2 held k=>wpAny_throw ?_);have l2:=l.step I held.1 (λb o hb hn=>⟨o.slots,k b o hb hn⟩);exact hh pins Z H H' s _ B ea C a0 I l2 held hE
 |.ExceptHandler none _ _ _::_,_,_,_,_,t=>t.elim
 |.ExceptHandler (some e) nm bd pos::rest,s',I,l,fw,t=>by
  cases e
  case Name x np =>
   cases nm with
   |some y=>exact t.elim
   |none =>
    cases bd with
    |nil=>exact t.elim
    |cons uX nO =>
     obtain⟨hg,ic,C',b,hm,hx,q⟩:=t;have J:=l.inv I;have JM:Inv (N9 X ea) pins Z H' s':=J.Iq;have LT:PySem.W.Looks (model X.prog X.w) s'.heap (typeOf (.ref ea)) (.ref C):=λA Q E s2 k q=>by
      obtain⟨ob,ho,hc⟩:=fw.there;exact wpAny_typeOf_ref (k _ _ ho) (by rw[hc];exact q)
     refine wpAny_handleBy_cons (codeAny_handlers_test ?_) (by intro z;cases z);refine Q1 (X:=N9 X ea) JM hg hm ?_ ic;refine(PySem.W.exm_one (M:=model X.prog X.w) J.gp LT hx).here ?_;cases b with
     |false =>
      simp only[Bool.false_eq_true,if_false] at q;exact GD hf rest s' I l fw q
     |true =>
      simp only[if_true] at q;obtain⟨t,ht,hq⟩:=q;refine codeAny_handlers_suite ?_;refine wpAny_setFlight_noneW fw.1 fw.2.2.1 fw.2.2.2.at λh2 k1 k2 k3 k4=>?_;have l2:=l.step I k1 (λb o hb hn=>⟨o.slots,k4 b o hb hn⟩);have J2:=l2.inv I;have J3:Inv (N9 X ea) pins (List.replicate X.N.length none) H' { s' with heap:=h2 }:=(J2.weak (by rw [ir,J2.len]) λi v z=>by
       rw [de] at z;split at z <;> cases z).Iq
      refine bA (ht ea pins _ _ H' D J3 hq) (λf s2 hf=>hf.X3 I.ok) λ_ _ z=>z.elim
  all_goals exact t.elim
theorem a40{hs:List ExceptHandler}{Ξ:XK}(fz:X.stack=X.env::X.outer)(hf:X.env.frame=some X.env.locals)(hT:∀C H',Ξ (.ref C) none H'->wM X D C H' hs) :
  Passes (iJ X.prog X.w) (xb X pins (xc X pins D hs)) Ξ:=by
 intro iw Z H s e s' I0 h;have I:Inv X pins Z H s:=I0.sx;obtain⟨C,H',ho,hb,hu,bG,⟨ea,a0,B,rfl,fw,hB⟩,hE⟩:=h;have l:Lies X H H' s B ea C a0 s':=⟨ho,hb,hu,bG,hB⟩
 have fw:Heap.FlyingW B X.stack ea (.ref C) a0 s'.heap:=fw;show xc X pins D hs (.ref ea) s';unfold xc;have wF:=fw;rw[fz] at wF;refine wpAny_looks_onW (by rw[I.ok.frames,fz]) hf wF λh1 held us=>?_;have l1:=l.step I held.1 us;refine wpAny_landsW held λh2 fl Ks=>?_;have l2:=l1.step I fl.1 Ks;rw[<- fz] at fl;exact GD hf hs _ I l2 fl (hT C H' hE)
end
end L2

namespace L2
open PySem PySem.Spec PyProof.Rows
section
variable{M:Model}{A:Around}{E:Value->Shared->Prop}{env:Env}{s:Shared}
end
end L2

namespace L2
open PySem PySem.Spec PyProof.Rows
theorem HJ{B B' h h2:Heap}{C:Addr}(hB:∀b,b≠C->B'.get? b=B.get? b)(hh:∀b,b≠C->h2.get? b=h.get? b){oC:Obj}(hC:B.get? C=some oC):∀{l:List Env},h.FunFrames B l->h2.FunFrames B' l
 |[],x=>x
 |env::r,⟨x1,⟨L,o,x2,x3,x4,x5⟩,x6⟩=>by
  have hL:L≠C:=λz=>by rw[z,hC] at x3;cases x3
  exact⟨x1,⟨L,o,x2,(hB L hL).trans x3,(hh L hL).trans x4,x5⟩,HJ hB hh hC x6⟩
section
variable{X:Cx}{pins:List (Addr×Obj)}{Z:St}{H H':Hp}{s s':Shared}
theorem Lies.BS{B h2:Heap}{ea Cc C L:Addr}{a0:Value}{o o2:Obj}(l:Lies X H H' s B ea Cc a0 s')(held:Heap.HeldW B X.stack ea (.ref Cc) a0 L s'.heap)(sb:Heap.SameBut C s'.heap h2)(wC:h2.get? C=some o2)(DK:o2.isFreed=false)(hn:H C=none)(hs:s.heap.get? C=some o)(nf:C∉ft X.stack) :
  ∃B',Lies X H H' { s with heap:=s.heap.update C λ_=>o2 } B' ea Cc a0 { s' with heap:=h2 }/\Heap.HeldW B' X.stack ea (.ref Cc) a0 L h2:=by
 obtain⟨oC,eC⟩:=l.un.there C o hs (by simp);have n':H' C=none:=l.un.free C o hs hn (by simp);have hB:B.get? C=some oC:=l.nX C oC eC nf (.inr ⟨o,hs⟩);have b1:(B.update C λ_=>o2).get? C=some o2:=bf _ hB DK;have b2:∀b,b≠C->(B.update C λ_=>o2).get? b=B.get? b:=λb hb=>bV _ _ (bD hb);have s1:(s.heap.update C λ_=>o2).get? C=some o2:=bf _ hs DK;have s2:∀b,b≠C->(s.heap.update C λ_=>o2).get? b=s.heap.get? b:=λb hb=>bV _ _ (bD hb);have nh:∀b,b≠C->h2.get? b=s'.heap.get? b:=sb.2;have ne:∀{b:Addr},B.get? b=none->b≠C:=λ{b} h z=>by rw[z,hB] at h;cases h
 obtain⟨f1,f2,f3,oe,vs,T,oT,ts,he,kH,hd,h1,rn,wA,hT,rB,h3⟩:=held;refine⟨B.update C λ_=>o2,⟨l.os,l.bare,⟨λb u e n1 n2 n3=>?_,λb u e n1 n2 n3=>?_,λb u e n1 n2=>?_,λb u e n1=>?_,l.un.gL,l.un.gw,l.un.gM⟩,?_,λb u e n1 q=>?_⟩,λb u e=>?_,(b2 ea (ne f2)).trans f2,HJ b2 nh hB f3,oe,vs,T,oT,ts,(nh ea (ne f2)).trans he,kH,hd,h1,(b2 T (ne rn)).trans rn,wA,(nh T (ne rn)).trans hT,rB,h3⟩
 ·by_cases z:b=C
  ·subst z;rw[show({ s with heap:=s.heap.update b λ_=>o2 }:Shared).heap.get? b=_ from s1] at e;cases e;exact wC
  ·exact(nh b z).trans (l.un.keep b u ((s2 b z).symm.trans e) n1 n2 n3)
 ·have z:b≠C:=λz=>nf (z▸n2);obtain⟨sl,q⟩:=l.un.slot b u ((s2 b z).symm.trans e) n1 n2 n3;exact⟨sl,(nh b z).trans q⟩
 ·by_cases z:b=C
  ·subst z;exact n'
  ·exact l.un.free b u ((s2 b z).symm.trans e) n1 n2
 ·by_cases z:b=C
  ·subst z;exact⟨_,wC⟩
  ·obtain⟨w,q⟩:=l.un.there b u ((s2 b z).symm.trans e) n1;exact⟨w,(nh b z).trans q⟩
 ·intro a u e;exact (l.bG a u e).Q7 (λb w hb q=>by
   have:b≠C:=λz=>by
    rcases hb with rfl|hb
    ·rw[z,n'] at e;cases e
    ·rw[z,n'] at hb;cases hb
   exact (nh b this).trans q) (λb hb=>hb) (λb xs hb=>hb)
 ·by_cases z:b=C
  ·subst z;rw[show({ s' with heap:=h2 }:Shared).heap.get? b=_ from wC] at e;cases e;exact b1
  ·refine(b2 b z).trans (l.nX b u ((nh b z).symm.trans e) n1 ?_);rcases q with q|⟨o0,q⟩
   ·exact .inl q
   ·exact .inr ⟨o0,(s2 b z).symm.trans q⟩
 ·by_cases z:b=C
  ·subst z;rw[b1] at e;cases e;exact wC
  ·exact(nh b z).trans (f1 b u ((b2 b z).symm.trans e))
end
end L2

namespace L2
open PySem PySem.Spec PyProof.Rows
noncomputable def Dc(K:PySem.W.Frag)(a:Addr):It :=
 ⟨λi H=>∃xs x,fo K H a xs/\xs[i]?=some x,λi H v H'=>∃p x,H p=none/\v=.ref p/\(∀xs,fo K H a xs->xs[i]?=some x)/\H'=upd H p (.tup [.int i,x]),λi H=>∃xs,fo K H a xs/\xs.length<=i⟩
theorem Yk{P:Program}{w:World}{K:PySem.W.Frag}{elts:List Expr}{x1:Nat}{tp:Pos}(a e it:Addr)(Ez:e≠it):Turn P w K (.Tuple elts x1 tp) (Dc K a) [e,it] e (λi h=>(∃old,IsEnum h e it i old)/\h.IsListIter it a i) where
 mem:=by simp
 obj:=λi h st b hb=>by
  obtain⟨⟨old,h1⟩,o,h2,c,d⟩:=st;rcases aE.mp hb with z|z
  ·subst z;exact ⟨_,h1,λv z=>by
    have z':Data.fields _=Data.cell v:=z;cases z'⟩
  ·have z:b=it:=by simpa using z
   subst z;exact⟨o,h2,λv z=>by rw[d] at z;cases z⟩
 keep:=λi h h' st k=>by
  obtain⟨⟨old,h1⟩,h2⟩:=st;exact⟨⟨old,k e (by simp) _ h1⟩,h2.at λo x=>k it (by simp) o x⟩
 item:=by
  intro X hP hw hK hc i pins s Z H E I hf st hg;subst hP hw hK;obtain⟨⟨old,h1⟩,h2⟩:=st;obtain⟨xs,x,hq,hx⟩:=hg;obtain⟨aR,rv,p,hz⟩:=I.list hq;obtain⟨u,hu,ru⟩:=rv.get hx;obtain⟨e0,e1,e2,e3,e4,e5⟩:=hf e (by simp);obtain⟨f0,f1,f2,f3,f4,f5⟩:=hf it (by simp);refine wpAny_pyNext_enum_item h1 h2 p.isList (x:=u) (by simpa using hu) Ez λh' om zx ua hz' nc=>?_;refine⟨_,rfl,wpAny_letOwnedTupleGo_enum om λuE Mu iH=>?_⟩;have iH:Heap.SameBut e h' uE:=iH;have elt:e<s.heap.objs.size:=ay h1;have kp:∀b o,b≠e->b≠it->s.heap.get? b=some o->uE.get? b=some o:=λb o b1 b2 q=>(iH.2 b b1).trans (nc b o b1 b2 q);have hn:H s.heap.objs.size=none:=I.bG.fresh (av _);have yq:uE.get? s.heap.objs.size=some { cls:=.type "tuple",data:=.seq #[.int i s.toks,u] }:=(iH.2 _ (bP elt)).trans ua;have ne:∀b u',H b=some u'->b≠e/\b≠it:=λb u' q=>And.intro (λ(z:b=e)=>by rw[z,e0] at q;cases q) (λ(z:b=it)=>by rw[z,f0] at q;cases q);have bG:fK X.prog X.w (upd H s.heap.objs.size (.tup [.int i,x])) uE:=λb o q=>by
   by_cases hb:b=s.heap.objs.size
   ·subst hb;rw[t8] at q;cases q;exact⟨by show 2<=sizeLine;decide,[.int i s.toks,u],.cons ⟨_,rfl⟩ (.cons ru .nil),_,yq,rfl,⟨_,rfl⟩,rfl⟩
   ·rw[i3 hb] at q;refine(I.bG b o q).Q7 (λc v hc q'=>?_) (λc q'=>by rw[i3 (l9 q' hn)];exact q') λc ys q'=>by rw[i3 (l9 q' hn)];exact q'
    rcases hc with z|z
    ·subst z;exact kp _ _ (ne _ _ q).1 (ne _ _ q).2 q'
    ·exact kp _ _ (ne _ _ z).1 (ne _ _ z).2 q'
  have I2:Inv X pins Z (upd H s.heap.objs.size (.tup [.int i,x])) { s with heap:=uE,toks:=s.toks+1 }:=by
   refine I.step (g':=s.gens) (d':=s.drawn) (t':=s.toks+1) (ch:=[e,it]) (λb hb=>?_) (λb o _ _ hb q _=>kp b o (λz=>hb (by simp[z])) (λz=>hb (by simp[z])) q) (λb o _ _ hb q _=>⟨o.slots,kp b o (λz=>hb (by simp[z])) (λz=>hb (by simp[z])) q⟩)
    (λb o _ q n=>by rw[i3 (aN (ay q))];exact n) (λb o hb q=>⟨o,kp b o (λz=>hb (by simp[z])) (λz=>hb (by simp[z])) q⟩)
    (λb ys q=>by rw[i3 (l9 q hn)];exact q) (λb o' ys q=>by rw[i3 (l9 q hn)];exact q) (λb ps q=>⟨#[],by rw[i3 (l9 q hn),q];simp⟩) (λm hm=>?_) bG I.bare
   ·rcases aE.mp hb with z|z
    ·subst z;exact⟨e3,e1,e4,e5⟩
    ·have z:b=it:=by simpa using z
     subst z;exact⟨f3,f1,f4,f5⟩
   ·obtain⟨o,es,ep,ho,r⟩:=hm;exact⟨o,es,ep,kp _ o (bD e1) (bD f1) ho,r⟩
  refine⟨.ref s.heap.objs.size,_,I2,rfl,⟨s.heap.objs.size,x,hn,rfl,λys hy=>by rw[I.Bk hy hq];exact hx,rfl⟩,⟨⟨u,by simpa using Mu⟩,zx.at λo y=>(iH.2 it Ez.symm).trans y⟩,λb hb=>?_⟩;have jI:b<s.heap.objs.size:=by
   rcases aE.mp hb with z|z
   ·subst z;exact elt
   ·have z:b=it:=by simpa using z
    subst z;obtain⟨o,h2,_⟩:=h2;exact ay h2
  rw[i3 (aN jI)];exact(hf b hb).1
 done:=by
  intro X hP hw hK hc i pins s Z H E I hf st hg;subst hP hw hK;obtain⟨⟨old,h1⟩,h2⟩:=st;obtain⟨xs,hq,hx⟩:=hg;obtain⟨aR,rv,p,hz⟩:=I.list hq;obtain⟨f0,f1,f2,f3,f4,f5⟩:=hf it (by simp);have hl:=rv.length;exact wpAny_pyNext_enum_end (I.ok.hd hc) h1 h2 p.isList (by simp;omega) λh' eb=>⟨rfl,I.turned (t':=s.toks) (λb o hb e=>eb b o hb e) f0 f1 f3 f4 f5⟩
 self:=λ_ _ _ _ _ st h=>by
  obtain⟨⟨old,h1⟩,h2⟩:=st;exact wpAny_pyIter_enum h1 h
section
variable{X:Cx}
theorem Sn{l:Expr}{ta:TA}{p pos tp:Pos}{elts:List Expr}{x1:Nat}(hg:Gl X "enumerate")(hm:X.mg "enumerate"=none)(ha:PA X [l] ta)(hs:starEach [l] X.env=[(false,eval l X.env)]) :
  PI X (.Tuple elts x1 tp) (.Call (.Name "enumerate" p) [l] [] pos) (λZ H R=>ta Z H λvs H1=>∃a,vs=[.ref a]/\(∃xs,fo X.K H1 a xs)/\R (Dc X.K a) H1):=by
 intro pins s Z H R I h;refine Call_ (K6 I hg hm PyProof.Rows.boot_enumerate (bC (cz (ha pos pins s Z H _ I h) λus s1 ⟨vs,H1,I1,r1,q1⟩=>?_) hs rfl));obtain⟨a,e,⟨xs,hq⟩,q⟩:=q1;subst e;cases r1 with
 |cons r rr =>
  cases rr;cases r;obtain⟨aR,rv,p,hz⟩:=I1.list hq;refine call_enumerate_list p.isList λh' he hit hsz hk=>wpAny_pyIter_enum he ?_;refine⟨s1.heap.objs.size+1,[s1.heap.objs.size+1,s1.heap.objs.size],_,_,H1,rfl,I1.kept (t':=s1.toks) hk,Yk a _ _ (by simp),⟨⟨_,he⟩,hit⟩,λb hb=>?_,q⟩;have jI:s1.heap.objs.size<=b:=by
   rcases aE.mp hb with z|z
   ·rw[z];exact fY _
   ·have z:b=s1.heap.objs.size:=by simpa using z
    rw[z];exact av _
  exact I1.oI jI (I1.bG.fresh jI)
theorem VY{e:Expr}{t:TE}{pos:Pos}(he:PE X e t):PE X (.FormattedValue e (-1) none pos) (λZ H Q=>t Z H λx H1=>(∃i,x=.int i/\i.natAbs.log2<1920/\Q (.str (toString i)) H1)\/∃y,x=.str y/\y.length<=sizeLine/\Q (.str y) H1):=by
 intro pins s Z H Q I h;refine wpAny_FormattedValue_plain (cz (he pins s Z H _ I h) λv s1 ⟨x,H1,I1,r1,q1⟩=>?_);rcases q1 with⟨i,rfl,hd,q⟩|⟨y,rfl,hy,q⟩
 ·obtain⟨t,rfl⟩:=r1;exact wpAny_formatField_int hd ⟨.str _,H1,I1.tok _,⟨_,rfl⟩,q⟩
 ·obtain⟨t,rfl⟩:=r1;exact wpAny_formatField_str ⟨.str _,H1,I1,⟨_,rfl⟩,q⟩ ⟨.str _,H1,I1.tok _,⟨_,rfl⟩,q⟩ hy
inductive sy(X:Cx):List Expr->List TE->Prop
 |nil:sy X [] []
 |cons {e:Expr} {t:TE} {es:List Expr} {ts:List TE} (h:PE X e t) (r:sy X es ts):sy X (e::es) (t::ts)
noncomputable def xa:List TE->St->Hp->Str->(Str->Hp->Prop)->Prop
 |[],_,H,acc,Q=>Q acc H
 |t::ts,Z,H,acc,Q=>t Z H λx H1=>∃y,x=.str y/\(acc++y).length<=sizeLine/\xa ts Z H1 (acc++y) Q
theorem Jp{pins:List (Addr×Obj)}{Z:St}{Q:Str->Hp->Prop}:∀{es:List Expr} {ts:List TE},sy X es ts->∀{s:Shared} {H:Hp} {acc:Str},Inv X pins Z H s->xa ts Z H acc Q ->
  Joins (model X.prog X.w) X.A X.xe (evalEach es X.env) acc (λout s1=>∃H1,Inv X pins Z H1 s1/\Q out H1) s
 |_,_,.nil,s,H,acc,I,h=>⟨H,I,h⟩
 |_,_,.cons he r,s,H,acc,I,h=>by
  rw[arm_evalEach_cons];refine cz (he pins s Z H _ I h) λv s1 ⟨x,H1,I1,r1,y,ey,hy,q1⟩=>?_;subst ey;obtain⟨t,rfl⟩:=r1;exact⟨y,t,rfl,hy,Jp r I1 q1⟩
theorem GZ{M:Model}{A:Around}{E:Value->Shared->Prop}{Q Q':Str->Shared->Prop}(hq:∀x s,Q x s->Q' x s):∀{l:List (Sem Value)} {acc:Str} {s:Shared},Joins M A E l acc Q s->Joins M A E l acc Q' s
 |[],acc,s,h=>hq _ _ h
 |x::r,acc,s,h=>cz h λv s1 ⟨y,t,e,hz,h1⟩=>⟨y,t,e,hz,GZ hq h1⟩
theorem Sj{kA kz:Expr}{rest:List Expr}{ts:List TE}{pos:Pos}(h:sy X (kA::kz::rest) ts):PE X (.JoinedStr (kA::kz::rest) pos) (λZ H Q=>xa ts Z H Str.empty λout H1=>out.length<=sizeLine/\Q (.str out) H1):=by
 intro pins s Z H Q I hw;refine wpAny_JoinedStr (GZ (λx s1 ⟨H1,I1,hl,q⟩=>⟨hl,.str x,H1,I1.tok _,⟨_,rfl⟩,q⟩) (Jp h I hw))
theorem Yz{lo:Int}{acc:Array Value}{n:Nat}(h:ItemsOf (λi v=>∃t,v=.int (lo+i*1) t) acc n):Vals ((List.range n).map λ(k:Nat)=>V.int (lo+k)) acc.toList:=by
 have hl:acc.toList.length=n:=by
  have:=h.1;simpa using this
 have go:∀(m:Nat) (l:List Value),l.length<=n->m+l.length=n->(∀i v,l[i]?=some v->∃t,v=Value.int (lo+((m+i:Nat):Int)) t)->Vals ((List.range' m l.length).map λ(k:Nat)=>V.int (lo+k)) l:=by
  intro m l
  induction l generalizing m with
  |nil=>intro _ _ _;exact .nil
  |cons x r ih =>
   intro h1 h2 h3;simp only[List.length_cons,List.range'_succ,List.map_cons];refine .cons ?_ (ih (m+1) (by simp at h1;omega) (by simp at h2;omega) λi v hv=>?_)
   ·obtain⟨t,e⟩:=h3 0 x rfl;exact⟨t,by rw[e];simp⟩
   ·obtain⟨t,e⟩:=h3 (i+1) v (by simpa using hv);exact⟨t,by rw[e,show m+(i+1)=m+1+i by omega]⟩
 have:=go 0 acc.toList (by omega) (by omega) λi v hv=>?_
 ·rw[hl,<- List.range_eq_range'] at this;exact this
 ·have hi:i<n:=by
   have:=(aj.mp hv).1;omega
  have:acc[i]?=some v:=by rw[<- iu];exact hv
  obtain⟨t,e⟩:=h.2 i v this;refine⟨t,?_⟩;rw[e];simp
theorem HK(hc:X.calm=true):m9 X (.type "list") (λxs H Q=>∃a lo hi,xs=[.ref a]/\H a=some (.kS lo hi)/\(-(2 ^ 62)<=lo/\lo<2 ^ 62/\-(2 ^ 62)<=hi/\hi<2 ^ 62/\hi-lo<=100000)/\∀p,H p=none->Q (.ref p) (upd H p (.lst ((List.range (hi-lo).toNat).map λ(k:Nat)=>V.int (lo+k))))):=by
 intro pins s Z H xs us Q I r h;obtain⟨a,lo,hi,rfl,ha,⟨h1,h2,h3,h4,h5⟩,q⟩:=h;obtain⟨t,u,v,ho⟩:=I.bG a _ ha;cases r with
 |cons r rr =>
 cases rr;cases r;have hn:Builtin.Range.rangeSize lo hi 1=((hi-lo).toNat:Nat):=by rw[rangeSize_one];split<;>omega
 refine call_list_range (n:=(hi-lo).toNat) (I.ok.hd hc) ho (small_one h1 h2 h3 h4) hn (by omega) λh' lD acc c hk hS jA=>?_;have hp:H s.heap.objs.size=none:=I.bG.fresh (av _);refine⟨.ref _,_,I.laid (a:=s.heap.objs.size) (o:=.lst ((List.range (hi-lo).toNat).map λ(k:Nat)=>V.int (lo+k))) (t':=lD) hk (av _) ⟨?_,acc.toList,c,Yz jA,by simpa using hS⟩,rfl,q _ hp⟩;rw[ah,List.length_range];have:(hi-lo).toNat<=100000:=by omega
 exact aD this (by decide)
theorem XQ{a:Expr}{ta:TA}{p pos:Pos}(hg:Gl X "range")(hm:X.mg "range"=none)(ha:PA X [a] ta)(hs:starEach [a] X.env=[(false,eval a X.env)]):PE X (.Call (.Name "range" p) [a] [] pos) (λZ H Q=>ta Z H λvs H1=>∃j:Int,vs=[.int j]/\∀q,H1 q=none->Q (.ref q) (upd H1 q (.kS 0 j))):=by
 intro pins s Z H Q I h;refine cP (K6 I hg hm boot_range (bC (cz (ha pos pins s Z H _ I h) λus s1 ⟨vs,H1,I1,r1,q1⟩=>?_) hs rfl));obtain⟨j,e,q⟩:=q1;subst e;cases r1 with
 |cons r rr =>
  cases rr;obtain⟨t,rfl⟩:=r;exact call_range_1 ⟨.ref s1.heap.objs.size,_,I1.laid (a:=s1.heap.objs.size) (o:=.kS 0 j) (λb o e=>au _ e) (av _) ⟨_,_,_,aC _ rfl⟩,rfl,q _ (I1.bG.fresh (av _))⟩
theorem XR{a b:Expr}{ta:TA}{p pos:Pos}(hg:Gl X "range")(hm:X.mg "range"=none)(ha:PA X [a,b] ta)(hs:starEach [a,b] X.env=[(false,eval a X.env),(false,eval b X.env)])(iH:starEach [b] X.env=[(false,eval b X.env)]):PE X (.Call (.Name "range" p) [a,b] [] pos) (λZ H Q=>ta Z H λvs H1=>∃i j:Int,vs=[.int i,.int j]/\∀q,H1 q=none->Q (.ref q) (upd H1 q (.kS i j))):=by
 intro pins s Z H Q I h;refine cP (K6 I hg hm boot_range (bC (cz (ha pos pins s Z H _ I h) λus s1 ⟨vs,H1,I1,r1,q1⟩=>?_) (by rw[hs,iH]) (by rw[iH];rfl)));obtain⟨i,j,e,q⟩:=q1;subst e;cases r1 with
 |cons r rr =>
  cases rr with
  |cons r' rr =>
   cases rr;obtain⟨t,rfl⟩:=r;obtain⟨t',rfl⟩:=r';exact call_range_2 ⟨.ref s1.heap.objs.size,_,I1.laid (a:=s1.heap.objs.size) (o:=.kS i j) (λb o e=>au _ e) (av _) ⟨_,_,_,aC _ rfl⟩,rfl,q _ (I1.bG.fresh (av _))⟩
noncomputable def vc(K:PySem.W.Frag)(P:Params)(a:Addr)(kvs:List (Str×V)):Prop :=
 ∃es n,K.lookup a=some ⟨.type "dict",none,.dict es n,#[]⟩/\PySem.W.KeysLit P es.toList/\(a==sysModules)=false/\∀x,E9 (kvs.lookup x) (findBy Value.isStrOf es x)
theorem Ih{kvs:List (Str×V)}(neg:Bool):fh X (compareOp (if neg then .NotIn else .In)) (λx y H Q=>∃a z,y=.ref a/\vc X.K X.w.params a kvs/\x=.str z/\Q (.bl (xor neg (kvs.lookup z).isSome)) H):=by
 intro pins s Z H x y v u Q I rx ry h;obtain⟨a,z,rfl,⟨es,n,hl,hk,lo,hf⟩,rfl,q⟩:=h;obtain⟨t,rfl⟩:=rx;cases ry;have hm:=PySem.W.mapOf_K (prog:=X.prog) (w:=X.w) I.gp hl hk;have e:=hf z;have ee:(findBy Value.isStrOf es z).isSome=(kvs.lookup z).isSome:=by
  cases h1:kvs.lookup z<;>cases h2:findBy Value.isStrOf es z<;>rw[h1,h2] at e<;>first|rfl|exact e.elim
 cases neg
 ·exact wpAny_in_of (strKind_is X.prog X.w z t) lo hm ⟨.bl _,H,I.tok _,by rw[ee];rfl,by simpa using q⟩
 ·exact wpAny_notIn_of (strKind_is X.prog X.w z t) lo hm ⟨.bl _,H,I.tok _,by rw[ee];rfl,by simpa using q⟩
theorem Vz{kvs:List (Str×V)}:qJ X (λx y H Q=>∃a z v,x=.ref a/\vc X.K X.w.params a kvs/\y=.str z/\kvs.lookup z=some v/\Q v H):=by
 intro value slice pins s Z H x y v u Q I rx ry h hs;obtain⟨a,z,d,rfl,⟨es,n,hl,hk,lo,hf⟩,rfl,hz,q⟩:=h;cases rx;obtain⟨t,rfl⟩:=ry;have hm:=PySem.W.mapOf_K (prog:=X.prog) (w:=X.w) I.gp hl hk;have e:=hf z;rw[hz] at e;cases h2:findBy Value.isStrOf es z with
 |none=>rw[h2] at e;exact e.elim
 |some r =>
  rw[h2] at e;exact Dj hm.typeIs slot_dict_getitem.lookup (wpAny_getItem_of (strKind_is X.prog X.w z t) hm h2 ⟨d,H,I.tok _,e,q⟩) hs
theorem RG(hu:X.A.units+1<cLine):qJ X (λx y H Q=>∃a v,x=.ref a/\O4 H a y (some v)/\Q v H):=by
 intro value slice pins s Z H x y v u Q I rx ry h hs;obtain⟨a,d,rfl,g,q⟩:=h;cases rx;exact Dj (Zi I g) slot_dict_getitem.lookup (Xp hu I g ry λw' s3 I3 fE=>⟨d,H,I3,fE,q⟩) hs
end
end L2

namespace ST
open PySem PyProof.Rows
noncomputable abbrev jJ(xs:Array Nat):Prop:=xs.toList.Pairwise (· < ·)
theorem jJ.lt{xs:Array Nat}(h:jJ xs){i k:Nat}(uk:i<k)(hk:k<xs.size):xs.getD i 0<xs.getD k 0:=by
 have:=nH.mp h i k (by simpa using cI uk hk) (by simpa using hk) uk;simp only[Array.getElem_toList] at this;rw[<- dw (h:=cI uk hk),<- dw (h:=hk)];exact this
theorem jJ.le{xs:Array Nat}(h:jJ xs){i k:Nat}(uk:i<=k)(hk:k<xs.size):xs.getD i 0<=xs.getD k 0:=by
 rcases Nat.eq_or_lt_of_le uk with e|e
 ·rw[e];exact av _
 ·exact dG (h.lt e hk)
theorem AX{xs:Array Nat}{j:Nat}(h:jJ xs):∀(fuel lo hi:Nat),hi-lo<=fuel->lo<=hi->hi<=xs.size->(∀i,i<lo->xs.getD i 0<j)->(∀i,hi<=i->i<xs.size->j<=xs.getD i 0) ->
  SetTable.below.go xs j fuel lo hi<=xs.size/\(∀i,i<SetTable.below.go xs j fuel lo hi->xs.getD i 0<j)/\∀i,SetTable.below.go xs j fuel lo hi<=i->i<xs.size->j<=xs.getD i 0
 |0,lo,hi,h1,h2,h3,h4,h5=>by
  unfold SetTable.below.go;have:lo=hi:=by omega
  subst this;exact⟨h3,h4,h5⟩
 |fuel+1,lo,hi,h1,h2,h3,h4,h5=>by
  unfold SetTable.below.go;split
  ·rename_i hl;have hm:(lo+hi) / 2<xs.size:=by omega
   have em:xs.getD ((lo+hi) / 2) j=xs.getD ((lo+hi) / 2) 0:=by simp[Array.getD,hm]
   dsimp only;rw[em];by_cases hc:xs.getD ((lo+hi) / 2) 0<j
   ·rw[aH hc];exact AX h fuel _ hi (by omega) (by omega) h3 (λi jA=>fM (h.le (by omega) hm) hc) h5
   ·rw[aB hc];exact AX h fuel lo _ (by omega) (by omega) (by omega) h4 λi jA hs=>aD (kq hc) (h.le jA hs)
  ·have:lo=hi:=by omega
   subst this;exact⟨h3,h4,h5⟩
theorem P5{xs:Array Nat}(j:Nat)(h:jJ xs):SetTable.below xs j<=xs.size/\(∀i,i<SetTable.below xs j->xs.getD i 0<j)/\∀i,SetTable.below xs j<=i->i<xs.size->j<=xs.getD i 0 :=
 AX h _ 0 _ (by omega) (by omega) (av _) (λi hi=>absurd hi (Nat.not_lt_zero _)) λi h1 h2=>absurd h2 (by omega)
theorem below_at{xs:Array Nat}(h:jJ xs){i:Nat}(hi:i<xs.size):SetTable.below xs (xs.getD i 0)=i:=by
 obtain⟨h1,h2,h3⟩:=P5 (xs.getD i 0) h;rcases eM (SetTable.below xs (xs.getD i 0)) i with z|z|z
 ·exact absurd (h3 _ (av _) (by omega)) (Nat.not_le_of_lt (h.lt z hi))
 ·exact z
 ·exact absurd (h2 i z) (br _)
theorem Yq{xs:Array Nat}(h:jJ xs){i:Nat}(hi:i<xs.size):SetTable.below xs (xs.getD i 0+1)=i+1:=by
 obtain⟨h1,h2,h3⟩:=P5 (xs.getD i 0+1) h;rcases eM (SetTable.below xs (xs.getD i 0+1)) (i+1) with z|z|z
 ·have:=h3 i (by omega) hi;omega
 ·exact z
 ·have:=h2 (i+1) z;have:=h.lt (fc i) (k:=i+1) (by omega);omega
theorem Yr{xs:Array Nat}(h:jJ xs):SetTable.below xs 0=0:=by
 obtain⟨_,h2,_⟩:=P5 0 h;rcases Nat.eq_zero_or_pos (SetTable.below xs 0) with z|z
 ·exact z
 ·exact absurd (h2 0 z) (Nat.not_lt_zero _)
theorem getD_mem{xs:Array Nat}{i:Nat}(hi:i<xs.size):xs[i]?=some (xs.getD i 0):=by simp[Array.getD,hi]
theorem YU{t:SetTable}{j:Nat}(h:jJ t.place)(hs:t.slot j=.empty):j∉t.place.toList:=by
 intro hm;obtain⟨i,hi,e⟩:=cR.mp hm;have jA:i<t.place.size:=by simpa using hi
 have ej:t.place.getD i 0=j:=by rw[<- dw (h:=jA)];simpa using e
 have hb:=below_at h jA;rw[ej] at hb;unfold SetTable.slot at hs;dsimp only at hs;rw[hb,getD_mem jA,ej] at hs;simp at hs
theorem YQ{xs:Array Nat}{j:Nat}(h:jJ xs)(hj:j∉xs.toList):jJ (SetTable.insertAt xs (SetTable.below xs j) j):=by
 obtain⟨h1,h2,h3⟩:=P5 j h;show(SetTable.insertAt xs (SetTable.below xs j) j).toList.Pairwise (· < ·);rw[SetTable.toList_insertAt,yd];have tk:∀a∈xs.toList.take (SetTable.below xs j),a<j:=λa ha=>by
  obtain⟨i,hi,e⟩:=cR.mp ha;rw[dc] at hi;rw[List.getElem_take] at e;have hs:i<xs.size:=by simp at hi;omega
  have:=h2 i (by omega);rw[<- dw (h:=hs)] at this;simp at e;omega
 have dp:∀b∈xs.toList.drop (SetTable.below xs j),j<b:=λb hb=>by
  obtain⟨i,hi,e⟩:=cR.mp hb;rw[ku] at hi;rw[List.getElem_drop] at e;have hs:SetTable.below xs j+i<xs.size:=by simp at hi;omega
  have:=h3 (SetTable.below xs j+i) (by omega) hs;rw[<- dw (h:=hs)] at this;have dz:b≠j:=λz=>hj (by rw[<- z];exact List.mem_of_mem_drop hb);simp at e;omega
 refine⟨h.take,fN.mpr ⟨dp,h.drop⟩,λa ha b hb=>?_⟩;have kI:=tk a ha;rcases aE.mp hb with z|z
 ·omega
 ·have:=dp b z;omega
theorem Ya(n:Nat):jJ (Array.range n):=by
 show(Array.range n).toList.Pairwise (· < ·);rw[Array.toList_range];exact gX
structure Well(L:Bool)(t:SetTable):Prop where
 vY:jJ t.place
 Ap:t.dummies=#[]
 led:t.led=L
theorem a43{t:SetTable}(hd:t.dummies=#[])(j:Nat):t.slot j≠.dummy:=by
 unfold SetTable.slot;dsimp only;split
 ·intro z;cases z
 ·rw[hd];split
  ·rename_i z;simp[SetTable.has] at z
  ·intro z;cases z
theorem HC{t:SetTable}(hd:t.dummies=#[]){hashAt:Nat->Int}{h:Int}:∀(fuel:Nat) (p:SetTable.Probe) {j:Nat} {dm:Option Nat},p.dummy=none->SetTable.probe.go t hashAt h fuel p=some (.empty j dm)->t.slot j=.empty/\dm=none
 |0,p,j,dm,_,e=>by simp[SetTable.probe.go] at e
 |fuel+1,p,j,dm,hp,e=>by
  unfold SetTable.probe.go at e;have ad:∀q:SetTable.Probe,q.dummy=none->(t.advance q).dummy=none:=λq hq=>by
   unfold SetTable.advance;split
   ·exact hq
   ·exact hq
  split at e
  ·rename_i hs;cases e;exact⟨hs,hp⟩
  ·rename_i hs;exact absurd hs (a43 hd _)
  ·split at e
   ·cases e
   ·exact HC hd fuel _ (ad p hp) e
theorem Xs{t:SetTable}(hd:t.dummies=#[]){h:Int}{j:Nat}{wd:Bool}(e:t.freeSlot h=some (j,wd)):t.slot j=.empty/\wd=false:=by
 unfold SetTable.freeSlot at e;split at e
 ·rename_i j' dm hp;obtain⟨h1,h2⟩:=HC hd _ _ rfl hp;subst h2;cases e;exact⟨h1,rfl⟩
 ·cases e
theorem K3{L:Bool}{t:SetTable}(h:Well L t)(n:Nat):Well L (t.standIn n):=⟨Ya n,rfl,h.led⟩
theorem Zm{L:Bool}{t:SetTable}{es:Array (Int×Value)}{h:Int}{x:Value}(hw:Well L t):Well L (layNew t es h x).2.1/\(layNew t es h x).2.2.1=false:=by
 unfold layNew;split
 ·rename_i slot wd e;obtain⟨h1,h2⟩:=Xs hw.Ap e;refine⟨?_,h2⟩;have hd:SetTable.has t.dummies slot=false:=by rw[hw.Ap];simp[SetTable.has]
  have w2:Well L (t.put slot).1:=⟨YQ hw.vY (YU hw.vY h1),by simp only[SetTable.put,hd];exact hw.Ap,hw.led⟩
  dsimp only;unfold SetTable.orStandIn;split
  ·exact w2
  ·exact K3 w2 _
 ·exact⟨K3 hw _,rfl⟩
theorem XB{L:Bool}{mask finger moves:Nat}{led plain:Bool}{hashes:Array Int}{t:SetTable}{o:Array Nat}(hl:led=L)(e:SetTable.laid mask finger moves led plain hashes=some (t,o)):Well L t:=by
 unfold SetTable.laid at e;cases ho:SetTable.layClean mask hashes with
 |none=>rw[ho] at e;cases e
 |some owner =>
  rw[ho] at e;simp only[Option.bind_eq_bind,Option.bind_some,Option.pure_def,Option.some.injEq,Prod.mk.injEq] at e;obtain⟨rfl,_⟩:=e;refine⟨?_,rfl,hl⟩;show(List.map _ _).toArray.toList.Pairwise (· < ·);rw[List.toList_toArray];have sub:((List.range (mask+1)).filterMap λj=>(owner.getD j none).map (j,·)).map (·.1) |>.Sublist (List.range (mask+1)):=by
   generalize List.range (mask+1)=l
   induction l with
   |nil=>simp
   |cons a r ih =>
    rw[da];cases owner.getD a none with
    |none=>exact ih.cons a
    |some k=>exact ih.cons_cons a
  exact List.Pairwise.sublist sub gX
theorem WB{L:Bool}{t:SetTable}{es:Array (Int×Value)}{n:Nat}(hw:Well L t):Well L (relayAll t es n).2.1:=by
 unfold relayAll;split
 ·rename_i t' order e;dsimp only;split
  ·exact XB hw.led e
  ·exact K3 hw _
 ·exact K3 hw _
end ST

namespace ST
open PySem PyProof.Rows
noncomputable def toI:Value->Int
 |.int k _=>k
 |_=>0
noncomputable def Led(w:World):Bool:=!(w.params.followText "set-order")
section
variable{prog:Program}{w:World}
noncomputable def u5(prog:Program)(w:World)(h:Heap)(a:Addr)(ks:List Int):Prop :=
 ∃o es ep t,h.get? a=some o/\o.ExactSet/\o.data=.set es ep t/\ElemsOf (intKind prog w) es.toList/\(es.toList.map λe=>toI e.2).Perm ks/\ks.Nodup/\es.size<scanBound/\t.fits es.size=true/\Well (Led w) t
theorem u5.at{h h':Heap}{a:Addr}{ks:List Int}(x:u5 prog w h a ks)(k:∀o,h.get? a=some o->h'.get? a=some o):u5 prog w h' a ks:=by
 obtain⟨o,es,ep,t,e,r⟩:=x;exact⟨o,es,ep,t,k o e,r⟩
theorem Iz{e:Int×Value}{es:List (Int×Value)}(h:ElemsOf (intKind prog w) es)(he:e∈es):∃tk,e.2=.int (toI e.2) tk/\e.1=(intKind prog w).hash (toI e.2):=by
 obtain⟨⟨k,h1,h2⟩,_⟩:=h e he;obtain⟨t,ht⟩:=mM (k:=k) (v:=e.2) h1;refine⟨t,by rw[ht];rfl,?_⟩;rw[h2,ht]
 rfl
theorem HX{e:Int×Value}{es:List (Int×Value)}(h:ElemsOf (intKind prog w) es)(he:e∈es)(k:Int):(intKind prog w).is k e.2=decide (toI e.2=k):=by
 obtain⟨t,ht,_⟩:=Iz h he;show Value.isInt k e.2=_;rw[ht];generalize toI e.2=m;show Value.isInt k (.int m t)=decide (m=k);by_cases z:m=k
 ·subst z;simp[Value.isInt]
 ·rw[aF z];cases hv:Value.isInt k (.int m t) with
  |false=>rfl
  |true =>
   obtain⟨t',e'⟩:=mM hv;cases e';exact absurd rfl z
theorem u5.mem{a:Addr}{es:List (Int×Value)}{ks:List Int}(h:ElemsOf (intKind prog w) es)(hp:(es.map λe=>toI e.2).Perm ks)(k:Int):(es.findIdx? λe=>(intKind prog w).is k e.2).isSome=decide (k∈ks):=by
 rw[aW,eB,<- hp.mem_iff,aO,dS];constructor
 ·rintro⟨i,hi⟩;obtain⟨h1,h2,_⟩:=jF.mp hi;have hm:=cc h1;rw[HX h hm] at h2;exact⟨_,hm,aZ h2⟩
 ·rintro⟨e,he,rfl⟩;cases hf:es.findIdx? λe'=>(intKind prog w).is (toI e.2) e'.2 with
  |some i=>exact⟨i,rfl⟩
  |none =>
   have:=List.findIdx?_eq_none_iff.mp hf e he;rw[HX h he] at this;simp at this
variable{A:Around}{E:Value->Shared->Prop}{s:Shared}
noncomputable def C7(ks:List Int)(k:Int):List Int:=if k∈ks then ks else ks++[k]
theorem ZK(ks:List Int)(k:Int):(C7 ks k).length<=ks.length+1:=by unfold C7;split<;>simp
theorem FU{a:Addr}{ks:List Int}{k:Int}{tk:Tok}{Q:Bool->Shared->Prop}(hS:u5 prog w s.heap a ks)(hr:ks.length+1<scanBound)(h:∀h' b,Heap.SameBut a s.heap h'->u5 prog w h' a (C7 ks k)->Q b { s with heap:=h' }):wpAny (model prog w) A (setAddHashed a (.int k tk) ((intKind prog w).hash k)) Q E s:=by
 obtain⟨o,es,ep,t,ho,hx,hd,pS,hp,hn,hb,hf,hw⟩:=hS;have hlen:es.size=ks.length:=by rw[<- hp.length_eq];simp
 have jz:(intKind prog w).is k (.int k tk)=true:=fH _ _ _ _;have gv:∀(b:Bool) (s1:Shared) (Q':Unit->Shared->Prop),Q' () s1->wpAny (model prog w) A (match b with|true=>rule "set.scan.the-table-gave-way"|false=>pure ()) Q' E s1:=λb s1 Q' q=>by
  cases b
  ·exact ao q
  ·exact fG q
 unfold setAddHashed setAddHashedIn;refine bY (aa (cx ho hd hf ?_));dsimp only;rw[byScan_of rfl hb pS,aH rfl];unfold setAddByScan;refine aa (aa (fG (aa (wpAny_setScan_of jz ho hd hf pS ?_))));have hm:=u5.mem (a:=a) pS hp k;cases kY:es.toList.findIdx? (λe=>(intKind prog w).is k e.2) with
 |some j =>
  rw[kY] at hm;have hk:k∈ks:=by simpa using hm.symm
  refine ao (ao ?_);have e0:s={ s with heap:=s.heap }:=rfl;rw[e0];refine h s.heap _ (Heap.SameBut.refl a s.heap) ?_;unfold C7;rw[aH hk];exact⟨o,es,ep,t,ho,hx,hd,pS,hp,hn,hb,hf,hw⟩
 |none =>
  rw[kY] at hm;have hk:k∉ks:=by simpa using hm.symm
  dsimp only;have p1:=layNew_perm t es ((intKind prog w).hash k) (.int k tk);have f1:=layNew_fits t es ((intKind prog w).hash k) (.int k tk);obtain⟨w1,yo⟩:=Zm (es:=es) (h:=(intKind prog w).hash k) (x:=.int k tk) hw;generalize layNew t es ((intKind prog w).hash k) (.int k tk)=R1 at p1 f1 w1 yo ⊢;obtain⟨fW,t1,wd,Np⟩:=R1;dsimp only at p1 f1 w1 yo ⊢;subst yo;rw[Array.toList_push] at p1;have Fb:ElemsOf (intKind prog w) fW.toList:=(pS.push jz rfl).perm p1;have sz1:fW.size=es.size+1:=by rw[<- bp,p1.length_eq];simp
  have k1:(fW.toList.map λe=>toI e.2).Perm (C7 ks k):=by
   unfold C7;rw[aB hk];refine(p1.map _).trans ?_;rw[cO];exact hp.append_right _
  have n1:(C7 ks k).Nodup:=by
   unfold C7;rw[aB hk,cF];exact⟨hn,by simp,λx hx y hy=>by simp at hy;subst hy;exact λz=>hk (z▸hx)⟩
  refine aa (gv _ _ _ ?_);have fin:∀ (t2:SetTable),t2.fits fW.size=true->Well (Led w) t2->wpAny (model prog w) A (do
    storeSet a fW t2
    if(!false&&t2.tooFull)=true then do
      (match(relayAll t2 fW (SetTable.grown fW.size)).2.2 with|true=>rule "set.scan.the-table-gave-way"|false=>pure ())
      storeSet a (relayAll t2 fW (SetTable.grown fW.size)).1 (relayAll t2 fW (SetTable.grown fW.size)).2.1
      pure (some true)
     else pure (some true)) (λr s'=>wpAny (model prog w) A (match r with | some added=>pure added | none=>setAddHashedIn a (.int k tk) ((intKind prog w).hash k) 99999) Q E s') E s:=λt2 f2 w2=>by
   have g1:(s.heap.update a (Obj.putSet fW t2)).get? a=some { o with data:=.set fW (ep+1) t2 }:=by
    have:=bf (Obj.putSet fW t2) ho (by rw[putSet_of fW t2 hd];rfl);rw[putSet_of fW t2 hd] at this;exact this
   refine aa (wpAny_storeSet_of ho hd ?_ (fits_of_scanBound (by omega)));have DA:=bW s.heap a (Obj.putSet fW t2);split
   ·have p2:=relayAll_perm t2 fW (SetTable.grown fW.size);have f3:=relayAll_fits t2 fW (SetTable.grown fW.size);have w3:=WB (es:=fW) (n:=SetTable.grown fW.size) w2;generalize relayAll t2 fW (SetTable.grown fW.size)=R2 at p2 f3 w3 ⊢;obtain⟨mq,t3,gv2⟩:=R2;dsimp only at p2 f3 w3 ⊢;have sz2:mq.size=fW.size:=by rw[<- bp,p2.length_eq,bp]
    refine aa (gv _ _ _ ?_);refine aa (wpAny_storeSet_of g1 rfl ?_ (fits_of_scanBound (by omega)));refine ao (ao (h _ _ (DA.trans (bW _ a _)) ?_));have g2:((s.heap.update a (Obj.putSet fW t2)).update a (Obj.putSet mq t3)).get? a=some { o with data:=.set mq (ep+1+1) t3 }:=by
     have:=bf (Obj.putSet mq t3) g1 (by rw[putSet_of mq t3 rfl];rfl);rw[putSet_of mq t3 rfl] at this;exact this
    exact⟨_,mq,_,t3,g2,hx,rfl,Fb.perm p2,(p2.map _).trans k1,n1,by omega,f3,w3⟩
   ·exact ao (ao (h _ _ DA ⟨_,fW,_,t2,g1,hx,rfl,Fb,k1,n1,by omega,f1 |> λ_=>f2,w2⟩))
  split
  ·refine aa (dR (hashByValue_scannable 8 rfl) ?_);exact fin _ f1 w1
  ·refine aa (ao ?_);exact fin _ f1 w1
end
end ST

namespace ST
open PySem PyProof.Rows
theorem ZD:entryFor table "set.__iter__"=some Builtin.«frozenset.__iter__» :=
 entryFor_alias (id':="frozenset.__iter__") (by kernel_rfl) rfl (by decide +kernel) (by kernel_rfl)
theorem B8:Slot "set_iterator" "__next__" "set_iterator.__next__" :=
 .of (owner:="set_iterator") (n:="__next__") (by rw[jh,fB];kernel_rfl) (by decide +kernel) (by decide +kernel) (by decide +kernel)
  (by first|exact .inl (by decide +kernel)|exact .inr (by decide +kernel)) (by rw[gG];kernel_rfl)
theorem Hu:entryFor table "set_iterator.__next__"=some Builtin.«set_iterator.__next__»:=entryFor_of_tree (by kernel_rfl)
theorem HF(a:Value):argsOk "set_iterator.__next__" ⟨[a],[]⟩:=by
 unfold argsOk
 kernel_rfl
theorem HI:Slot "set_iterator" "__iter__" "set_iterator.__iter__" :=
 .of (owner:="set_iterator") (n:="__iter__") (by rw[jh,fB];kernel_rfl) (by decide +kernel) (by decide +kernel) (by decide +kernel)
  (by first|exact .inl (by decide +kernel)|exact .inr (by decide +kernel)) (by rw[gG];kernel_rfl)
theorem Zj:entryFor table "set_iterator.__iter__"=some Builtin.«dict_keyiterator.__iter__» :=
 entryFor_alias (id':="dict_keyiterator.__iter__") (by kernel_rfl) rfl (by decide +kernel) (by kernel_rfl)
theorem Zw(a:Value):argsOk "set_iterator.__iter__" ⟨[a],[]⟩:=by
 unfold argsOk
 kernel_rfl
end ST

namespace ST
open PySem PyProof.Rows
inductive Rd|text|plain|drawn
structure Lies(h:Heap)(a:Addr)(es:Array (Int×Value))(ep:Nat)(t:SetTable):Prop where
 at_:∃o,h.get? a=some o/\o.cls=.type "set"/\o.data=.set es ep t
 fit:t.fits es.size=true
theorem Lies.at{h h':Heap}{a:Addr}{es:Array (Int×Value)}{ep:Nat}{t:SetTable}(x:Lies h a es ep t)(k:∀o,h.get? a=some o->h'.get? a=some o):Lies h' a es ep t :=
 ⟨let ⟨o,e,r⟩:=x.at_;⟨o,k o e,r⟩,x.fit⟩
noncomputable def C8(h:Heap)(I a:Addr)(f:Value)(i n ep:Nat):Prop:=∃o,h.get? I=some o/\o.cls=.type "set_iterator"/\o.data=.fields #[f,rawInt i,.ref a,rawInt n,rawInt ep]
theorem C8.at{h h':Heap}{I a:Addr}{f:Value}{i n ep:Nat}(x:C8 h I a f i n ep)(k:∀o,h.get? I=some o->h'.get? I=some o):C8 h' I a f i n ep:=let ⟨o,e,r⟩:=x;⟨o,k o e,r⟩
theorem C8.ty{s:Shared}{I a:Addr}{f:Value}{i n ep:Nat}(x:C8 s.heap I a f i n ep):s.TypeIs (.ref I) "set_iterator":=let ⟨o,e,c,_⟩:=x;⟨o,e,c⟩
noncomputable def vg(w:World)(a:Addr)(es:Array (Int×Value))(ep:Nat)(pl:List Nat):Rd->List Value
 |.text=>(pickOrder (w.params.setOrder a ep) es).toList.map (·.2)
 |.plain=>es.toList.map (·.2)
 |.drawn=>pl.map λj=>(es.getD j (0,.none)).2
noncomputable def slotAt(t:SetTable):Nat->Nat
 |0=>0
 |i+1=>t.place.getD i 0+1
noncomputable def M3(h:Heap)(t:SetTable)(b:Addr)(pl:List Nat)(i:Nat)(f:Value):Rd->Prop
 |.text=>∃k:Nat,f=rawInt k
 |.plain=>f=rawInt (slotAt t i)
 |.drawn=>f=.ref b/\∃o e,h.get? b=some o/\o.cls=.type "tuple"/\o.data=.seq (pl.map λj=>rawInt (j:Nat)).toArray e
noncomputable def rT(w:World)(es:Array (Int×Value))(t:SetTable)(pl:List Nat):Rd->Prop
 |.text=>w.params.followText "set-order"=true
 |.plain=>w.params.followText "set-order"=false/\(t.plain=true\/es.size<=1)/\Well true t
 |.drawn=>w.params.followText "set-order"=false/\pl.Perm (List.range es.size)
section
variable{prog:Program}{w:World}{A:Around}{E:Value->Shared->Prop}{s:Shared}{a:Addr}{es:Array (Int×Value)}{ep:Nat}{t:SetTable}
theorem vi{Q:Bool->Shared->Prop}(h:Q (w.params.followText "set-order") s):wpAny (model prog w) A setsByText Q E s:=by
 unfold setsByText;exact aa (oW (ao h))
theorem GN(hL:Lies s.heap a es ep t)(ht:w.params.followText "set-order"=true){sl g:Nat}{Q:Option (Value×Nat)->Shared->Prop}(h:Q (((pickOrder (w.params.setOrder a ep) es)[g]?).map λe=>(e.2,sl)) s) :
  wpAny (model prog w) A (setNext a sl g ep) Q E s:=by
 obtain⟨o,ho,_,hd⟩:=hL.at_;unfold setNext;refine aa (cx ho hd hL.fit ?_);refine aa (vi ?_);rw[ht,aH rfl,aB (by simp)];unfold setWalk;refine aa (aa (cx ho hd hL.fit ?_));refine aa (vi ?_);rw[ht,aH rfl];exact aa (oW (ao (ao h)))
theorem Hk(hL:Lies s.heap a es ep t)(ht:w.params.followText "set-order"=false)(hp:t.plain=true\/es.size<=1)(hl:t.led=true){sl g:Nat}{Q:Option (Value×Nat)->Shared->Prop}(h:Q (match es[SetTable.below t.place sl]?,t.place[SetTable.below t.place sl]? with|some (_,x),some j=>some (x,j+1)|_,_=>none) s):wpAny (model prog w) A (setNext a sl g ep) Q E s:=by
 obtain⟨o,ho,_,hd⟩:=hL.at_;unfold setNext;refine aa (cx ho hd hL.fit ?_);refine aa (vi ?_);rw[ht,aB (by decide)];show wpAny _ _ (if(!t.plain&&decide (es.size>1))=true then _ else _) _ _ _;rw[aB (by rcases hp with e|e<;>simp[e])];refine aa (dR (a:=()) ?_ (ao h));show((if(!t.led&&!es.isEmpty)=true then unsupported "set:maker-not-led" else pure ()):Sem Unit)=pure ();rw[hl]
 rfl
theorem YJ(hL:Lies s.heap a es ep t){j:Nat}(hj:j<es.size){Q:Value->Shared->Prop}(h:Q (es.getD j (0,.none)).2 s):wpAny (model prog w) A (setNextDrawn a j ep) Q E s:=by
 obtain⟨o,ho,_,hd⟩:=hL.at_;unfold setNextDrawn;refine aa (cx ho hd hL.fit ?_);dsimp only;rw[aB (by simp)];have e:es[j]?=some (es.getD j (0,.none)):=by simp[Array.getD,hj]
 rw[e];exact ao h
end
end ST

namespace ST
open PySem PyProof.Rows
section
variable{prog:Program}{w:World}{A:Around}{E:Value->Shared->Prop}{s:Shared}{a I b:Addr}{es:Array (Int×Value)}{ep:Nat}{t:SetTable}{pl:List Nat}
theorem Gm(hL:Lies s.heap a es ep t):t.place.size=es.size:=by
 have:=hL.fit;unfold SetTable.fits at this;simp at this;exact this.1
theorem Hb(hw:jJ t.place){i:Nat}(hi:i<=t.place.size):SetTable.below t.place (slotAt t i)=i:=by
 cases i with
 |zero=>exact Yr hw
 |succ i=>exact Yq hw (by omega)
theorem entries{Q:Array (Int×Value)->Shared->Prop}(hL:Lies s.heap a es ep t)(h:Q es s):wpAny (model prog w) A (setEntries a) Q E s:=by
 obtain⟨o,ho,_,hd⟩:=hL.at_;unfold setEntries;exact aa (cx ho hd hL.fit (ao h))
theorem TM{f f':Value}{i n:Nat}{h:Heap}(hi:C8 h I a f i n ep){x:Value}(hx:x=rawInt ((i:Int)+1)):C8 ((h.update I (Obj.mapFields (·.setIfInBounds 0 f'))).update I (Obj.mapFields (·.setIfInBounds 1 x))) I a f' (i+1) n ep:=by
 obtain⟨o,ho,hc,hd⟩:=hi;have h1:=bf (Obj.mapFields (·.setIfInBounds 0 f')) ho (cV (bw hd _));have d1:(Obj.mapFields (·.setIfInBounds 0 f') o).data=.fields #[f',rawInt i,.ref a,rawInt n,rawInt ep]:=by rw[bw hd];simp
 have h2:=bf (Obj.mapFields (·.setIfInBounds 1 x)) h1 (cV (bw d1 _));refine⟨_,h2,(mP ..).trans ((mP ..).trans hc),?_⟩;rw[bw d1];subst hx;simp[rawInt]
theorem TL{f:Value}{i n:Nat}{h:Heap}(hi:C8 h I a f i n ep){x:Value}(hx:x=rawInt ((i:Int)+1)):C8 (h.update I (Obj.mapFields (·.setIfInBounds 1 x))) I a f (i+1) n ep:=by
 obtain⟨o,ho,hc,hd⟩:=hi;have h2:=bf (Obj.mapFields (·.setIfInBounds 1 x)) ho (cV (bw hd _));refine⟨_,h2,(mP ..).trans hc,?_⟩;rw[bw hd];subst hx;simp[rawInt]
theorem FK{α:Type}{f f' x:Value}{i n:Nat}{m:Sem α}{Q':α->Shared->Prop}(hi:C8 s.heap I a f i n ep)(hx:x=rawInt ((i:Int)+1))(h:∀h',C8 h' I a f' (i+1) n ep->Heap.SameBut I s.heap h'->wpAny (model prog w) A m Q' E { s with heap:=h' }) :
  wpAny (model prog w) A (do setField (.ref I) 0 f';setField (.ref I) 1 x;m) Q' E s:=by
 obtain⟨o,ho,hc,hd⟩:=id hi;refine aa (dt ho hd (by simp) ?_);have h1:=bf (Obj.mapFields (·.setIfInBounds 0 f')) ho (cV (bw hd _));have d1:(Obj.mapFields (·.setIfInBounds 0 f') o).data=.fields #[f',rawInt i,.ref a,rawInt n,rawInt ep]:=by rw[bw hd];simp
 refine aa (dt (s:={ s with heap:=_ }) h1 d1 (by simp) ?_);exact h _ (TM hi hx) ((bW ..).trans (bW ..))
theorem UA{α:Type}{f x:Value}{i n:Nat}{m:Sem α}{Q':α->Shared->Prop}(hi:C8 s.heap I a f i n ep)(hx:x=rawInt ((i:Int)+1))(h:∀h',C8 h' I a f (i+1) n ep->Heap.SameBut I s.heap h'->wpAny (model prog w) A m Q' E { s with heap:=h' }) :
  wpAny (model prog w) A (do setField (.ref I) 1 x;m) Q' E s:=by
 obtain⟨o,ho,hc,hd⟩:=id hi;refine aa (dt ho hd (by simp) ?_);exact h _ (TL hi hx) (bW ..)
theorem Bo{α:Type}(next:Nat->Nat)(xs:Array α):(pickOrder next xs).toList.Perm xs.toList:=by
 have go:∀(fuel k:Nat) (left:List α) (out:Array α),fuel=left.length->(pickOrder.go next fuel k left out).toList.Perm (out.toList++left):=by
  intro fuel
  induction fuel with
  |zero =>
   intro k left out e;have:left=[]:=fi e.symm;subst this;simp[pickOrder.go]
  |succ n ih =>
   intro k left out e;have et:next k % left.length<left.length:=Kd _ (by omega)
   unfold pickOrder.go;rw[ag et];refine(ih _ _ _ (by rw[fP et];omega)).trans ?_;rw[Array.toList_push,gb];refine List.Perm.append_left _ ?_;have:left.Perm (left[next k % left.length]::left.eraseIdx (next k % left.length)):=by
    rw[jZ]
    conv=>lhs;rw[<- ip (next k % left.length) left,dJ et]
    exact List.perm_middle
   exact this.symm
 have:=go xs.size 0 xs.toList #[] (by simp);simpa[pickOrder] using this
theorem next_item{r:Rd}{i:Nat}{f:Value}{Q:Option Value->Shared->Prop}(hL:Lies s.heap a es ep t)(hr:rT w es t pl r)(hi:C8 s.heap I a f i es.size ep)(hf:M3 s.heap t b pl i f r)(dz:b≠I)(et:i<es.size)(h:∀v h' f',(vg w a es ep pl r)[i]?=some v->C8 h' I a f' (i+1) es.size ep->M3 h' t b pl (i+1) f' r->Heap.SameBut I s.heap h'->Q (some v) { s with heap:=h' }):wpAny (model prog w) A (pyNext (.ref I)) Q E s:=by
 obtain⟨o,ho,hc,hd⟩:=id hi;unfold pyNext;refine aa (wpAny_attempt (du (name:=Str.ofString "__next__") hi.ty B8 (cj B8 hi.ty Hu ?_ (HF _))));unfold Builtin.«set_iterator.__next__»;refine aa (ao ?_);refine aa (wpAny_fieldsOf ho hd ?_);dsimp only[rawInt];refine aa (entries hL ?_);rw[aB (by simp)];rw[bU,bU];cases r with
 |text =>
  obtain⟨k,rfl⟩:=hf;dsimp only[rawInt];refine aa (GN hL hr ?_);have hl:i<(pickOrder (w.params.setOrder a ep) es).size:=by
   have:=(Bo (w.params.setOrder a ep) es).length_eq;simp at this;omega
  rw[nK hl];refine FK hi rfl λh' h1 h2=>ao ⟨_,rfl,ao (h _ _ _ ?_ h1 ⟨_,rfl⟩ h2)⟩;show((pickOrder (w.params.setOrder a ep) es).toList.map (·.2))[i]?=_;simp[hl]
 |plain =>
  obtain⟨r1,r2,r3⟩:=hr;have hs:=Gm hL;obtain rfl:=hf;dsimp only[rawInt];rw[bU];refine aa (Hk hL r1 r2 r3.led ?_);rw[Hb r3.vY (by omega),nK et,getD_mem (by omega)];refine FK hi rfl λh' h1 h2=>ao ⟨_,rfl,ao (h _ _ _ ?_ h1 rfl h2)⟩;show(es.toList.map (·.2))[i]?=_;simp[et]
 |drawn =>
  obtain⟨r1,r2⟩:=hr;obtain⟨rfl,ob,e,hb,ED,rD⟩:=hf;have gE:i<pl.length:=by rw[r2.length_eq];simpa using et
  dsimp only;refine aa (wpAny_seqItems hb rD ?_);have hj:pl[i]<es.size:=by
   have:=r2.mem_iff.mp (cc gE);simpa using this
  have e1:(pl.map λj=>rawInt (j:Nat)).toArray[i]?=some (rawInt (pl[i]:Nat)):=by simp[gE]
  dsimp only;rw[e1];dsimp only[rawInt];rw[bU];refine aa (YJ hL hj ?_);refine UA hi rfl λh' h1 h2=>ao ⟨_,rfl,ao (h _ _ _ ?_ h1 ⟨rfl,ob,e,by rw[h2.2 b dz];exact hb,ED,rD⟩ h2)⟩;show(pl.map λj=>(es.getD j (0,.none)).2)[i]?=_;simp[gE]
theorem Br{Q:Option Value->Shared->Prop}{I:Addr}{h0:Heap}(hh:A.handled=none)(Nh:Heap.ExtBut I h0 s.heap)(h:∀h',Heap.ExtBut I h0 h'->Q none { s with heap:=h' }) :
  wpAny (model prog w) A.in1 (newExc (.type "StopIteration") [] >>= λe=>(raiseNew e:Sem Fin)) (λfin s'=>∃v,fin=Fin.done (Flow.ret v)/\wpAny (model prog w) A (pure (some v)) Q E s')
   (λe s'=>wpAny (model prog w) A (do
     let x <- isInstance e (Value.type "StopIteration")
     if x=true then pure none else throw e) Q E s') s:=by
 refine aa ?_;simp only[newExc,newTuple];refine aa (bX ?_ (by size_fits));refine aa (m:=firstArgMember _ _) (dR (a:=Value.none) (by first|rfl|(simp only[firstArgMember];rfl)) ?_);refine bX ?_ (by size_fits);simp only[raiseNew];refine aa (wpAny_handled ?_);rw[show A.in1.handled=none from hh];refine aa (ao (wpAny_throw ?_));refine aa (iK (T:="StopIteration") (b:=true) ⟨_,aC _ rfl,rfl⟩ isSubtype_stop ?_);exact ao (h _ ((Nh.push _).push _))
theorem next_end{r:Rd}{f:Value}{Q:Option Value->Shared->Prop}(hh:A.handled=none)(hL:Lies s.heap a es ep t)(hr:rT w es t pl r)(hi:C8 s.heap I a f es.size es.size ep)(hf:M3 s.heap t b pl es.size f r)(dz:b≠I)(h:∀h',Heap.ExtBut I s.heap h'->Q none { s with heap:=h' }):wpAny (model prog w) A (pyNext (.ref I)) Q E s:=by
 obtain⟨o,ho,hc,hd⟩:=id hi;unfold pyNext;refine aa (wpAny_attempt (du (name:=Str.ofString "__next__") hi.ty B8 (cj B8 hi.ty Hu ?_ (HF _))));unfold Builtin.«set_iterator.__next__»;refine aa (ao ?_);refine aa (wpAny_fieldsOf ho hd ?_);dsimp only[rawInt];refine aa (entries hL ?_);rw[aB (by simp)];rw[bU,bU];cases r with
 |text =>
  obtain⟨k,rfl⟩:=hf;dsimp only[rawInt];refine aa (GN hL hr ?_);have hl:(pickOrder (w.params.setOrder a ep) es).size<=es.size:=by
   have:=(Bo (w.params.setOrder a ep) es).length_eq;simp at this;omega
  rw[sP hl];refine aa (dt ho hd (by simp) ?_);exact Br (s:={ s with heap:=_ }) hh (bW ..).extBut h
 |plain =>
  obtain⟨r1,r2,r3⟩:=hr;have hs:=Gm hL;obtain rfl:=hf;dsimp only[rawInt];rw[bU];refine aa (Hk hL r1 r2 r3.led ?_);rw[Hb r3.vY (by omega),sP (av _)];refine aa (dt ho hd (by simp) ?_);exact Br (s:={ s with heap:=_ }) hh (bW ..).extBut h
 |drawn =>
  obtain⟨r1,r2⟩:=hr;obtain⟨rfl,ob,e,hb,ED,rD⟩:=hf;have gE:pl.length=es.size:=by rw[r2.length_eq];simp
  dsimp only;refine aa (wpAny_seqItems hb rD ?_);have e1:(pl.map λj=>rawInt (j:Nat)).toArray[es.size]?=none:=by simp[gE]
  dsimp only;rw[e1];dsimp only[rawInt];refine aa (dt ho hd (by simp) ?_);have h1:=bf (Obj.mapFields (·.setIfInBounds 0 (Value.int 0 0))) ho (cV (bw hd _));refine aa (dt (s:={ s with heap:=_ }) h1 (bw hd _) (by simp) ?_);exact Br (s:={ s with heap:=_ }) hh ((bW ..).trans (bW ..)).extBut h
end
end ST

namespace ST
open PySem PyProof.Rows
section
variable{prog:Program}{w:World}{A:Around}{E:Value->Shared->Prop}{s:Shared}{a I b:Addr}{es:Array (Int×Value)}{ep:Nat}{t:SetTable}{pl:List Nat}
theorem XS{α:Type}{l:List α}{k:Nat}(et:k<l.length):(l[k]::l.eraseIdx k).Perm l:=by
 rw[jZ]
 conv=>rhs;rw[<- ip k l,dJ et]
 exact List.perm_middle.symm
theorem Hg{α:Type}:∀(n:Nat) (xs:List α) (s:Shared) (Q:List α->Shared->Prop),n=xs.length->(∀ys d,ys.Perm xs->Q ys { s with drawn:=d })->wpAny (model prog w) A (drawOrder n xs) Q E s
 |0,xs,s,Q,e,h=>by
  have:xs=[]:=fi e.symm;subst this;exact ao (h [] s.drawn (List.Perm.refl _))
 |n+1,[],s,Q,e,h=>by simp at e
 |n+1,x::xs,s,Q,e,h=>by
  unfold drawOrder;refine aa ?_;intro Γ p hΓ;refine⟨by simp,?_⟩;generalize (model prog w).w.draws .order (s.drawn.get .order)=k;have et:k % (x::xs).length<(x::xs).length:=Kd _ (by simp);have go:wpAny (model prog w) A (match (x :: xs)[k % (x :: xs).length]? with
   |some y=>do
    let ys <- drawOrder n ((x::xs).eraseIdx (k % (x::xs).length))
    pure (y::ys)
   | none=>unsupported "internal:drawOrder") Q E { s with drawn:=s.drawn.bump .order }:=by
   rw[ag et];refine aa (Hg n _ _ _ (by rw[fP et];simp at e ⊢;omega) λys d hp=>ao ?_);exact h _ d ((List.Perm.cons _ hp).trans (XS et))
  exact go
theorem Jt{r:Rd}(hr:rT w es t pl r):(vg w a es ep pl r).Perm (es.toList.map (·.2)):=by
 cases r with
 |text=>exact(Bo _ es).map _
 |plain=>exact List.Perm.refl _
 |drawn =>
  refine(hr.2.map _).trans ?_;have:(List.range es.size).map (λj=>(es.getD j (0,.none)).2)=es.toList.map (·.2):=by
   apply List.ext_getElem
   ·simp
   ·intro i h1 h2;simp at h1;simp[Array.getD,h1]
  rw[this]
theorem Lies.ty(hL:Lies s.heap a es ep t):s.TypeIs (.ref a) "set":=let ⟨o,e,c,_⟩:=hL.at_;⟨o,e,c⟩
theorem a09(hL:Lies s.heap a es ep t)(hw:Well (Led w) t)(hz:es.size<=10000){Q:Value->Shared->Prop}(h:∀r pl b f I h' d',rT w es t pl r->C8 h' I a f 0 es.size ep->M3 h' t b pl 0 f r->b≠I->(b=a\/s.heap.objs.size<=b)->(∀c o,s.heap.get? c=some o->h'.get? c=some o)->s.heap.objs.size<=I->s.heap.objs.size<=h'.objs.size->Q (.ref I) { s with heap:=h',drawn:=d' }) :
  wpAny (model prog w) A (pyIter (.ref a)) Q E s:=by
 obtain⟨o,ho,zh,hd⟩:=hL.at_;refine wpAny_pyIter_slot hL.ty F.slot_set_iter (cj F.slot_set_iter hL.ty ZD ?_ (F.args_set_iter_1 _));unfold Builtin.«frozenset.__iter__»;refine aa (ao ?_);unfold Builtin.Frozenset.sizeOf;refine aa (aa (entries hL (ao ?_)));unfold setDrawn;refine aa (aa (cx ho hd hL.fit ?_));refine aa (vi (ao ?_));have et:=ay ho;have fin:∀(r:Rd) (f:Value) (b:Addr) (pl:List Nat) (h1:Heap) (d1:Drawn),rT w es t pl r->(∀h',(∀c o,h1.get? c=some o->h'.get? c=some o)->M3 h' t b pl 0 f r)->b<h1.objs.size->(b=a\/s.heap.objs.size<=b)->(∀c o,s.heap.get? c=some o->h1.get? c=some o)->s.heap.objs.size<=h1.objs.size ->
   wpAny (model prog w) A.in1 (do
    let e <- setEpoch a
    ret (<- newFields "set_iterator" [f,rawInt 0,.ref a,rawInt es.size,rawInt e])) (λfin s'=>∃ v,fin=Fin.done (Flow.ret v)/\∃ T' r,s'.TypeIs v T'/\typeLookup (.type T') "__next__"=pure (some r)/\Q v s') E { s with heap:=h1,drawn:=d1 }:=λr f b pl h1 d1 hr hf hb zF he hsz=>by
  have rG:Lies h1 a es ep t:=hL.at λo e=>he a o e;obtain⟨o1,LW,_,EC⟩:=rG.at_;unfold setEpoch;refine aa (aa (cx (s:={ s with heap:=h1,drawn:=d1 }) LW EC rG.fit (ao ?_)));refine aa (bX (ao ⟨_,rfl,"set_iterator",_,⟨_,aC _ rfl,rfl⟩,B8.lookup,?_⟩));refine h r pl b f h1.objs.size _ d1 hr ⟨_,aC _ rfl,rfl,rfl⟩ (hf _ λc o e=>au _ e) (aN hb) zF (λc o e=>au _ (he c o e)) hsz (by rw[vH];exact Nat.le_succ_of_le hsz)
 have e0:s={ s with heap:=s.heap,drawn:=s.drawn }:=rfl;cases hT:w.params.followText "set-order" with
 |true =>
  dsimp only[Bool.not_true,Bool.false_and];rw[aB (by simp)];refine aa (ao ?_);rw[e0];exact fin .text (rawInt 0) a [] s.heap s.drawn hT (λh' _=>⟨0,rfl⟩) et (.inl rfl) (λc o e=>e) (av _)
 |false =>
  show wpAny _ _ (if(!false&&(!t.plain&&decide (es.size>1)))=true then _ else _ ) _ _ _;by_cases hp:t.plain=true\/es.size<=1
  ·rw[aB (by rcases hp with e|e<;>simp[e])];refine aa (ao ?_);rw[e0];refine fin .plain (rawInt 0) a [] s.heap s.drawn ⟨hT,hp,?_⟩ (λh' _=>rfl) et (.inl rfl) (λc o e=>e) (av _);have:Led w=true:=by unfold Led;rw[hT];rfl
   rw[<- this];exact hw
  ·have h1:t.plain=false:=by cases hq:t.plain with|true=>exact absurd (.inl hq) hp|false=>rfl
   have h2:¬es.size<=1:=λz=>hp (.inr z);rw[aH (by simp[h1];omega)];refine aa (Hg _ _ _ _ (List.length_range).symm λys d hy=>?_);have hl:ys.length=es.size:=by rw[hy.length_eq];simp
   refine aa (bX ?_ (by show(List.map _ ys).toArray.size<=sizeLine;rw[aA,ah,hl];exact aD hz (by decide)));refine fin .drawn (.ref s.heap.objs.size) s.heap.objs.size ys _ d ⟨hT,hy⟩ (λh' hk=>⟨rfl,_,_,hk _ _ (aC _ rfl),rfl,rfl⟩) (by rw[vH];exact fc _) (.inr (av _)) (λc o e=>au _ e) (by rw[vH];exact fY _)
theorem Yd(hh:A.handled=none){r:Rd}(hr:rT w es t pl r)(dz:b≠I)(LZ:a≠I) :
  Walks prog w A I [I,a,b] [I] es.size (λi v=>(vg w a es ep pl r)[i]?=some v) (λi h=>Lies h a es ep t/\∃f,C8 h I a f i es.size ep/\M3 h t b pl i f r) where
 sub:=λc hc=>by simp at hc;simp[hc]
 frame:=λi h h' st hk=>by
  obtain⟨hL,f,hi,hf⟩:=st;refine⟨hL.at λo e=>hk a (by simp) o e,f,hi.at λo e=>hk I (by simp) o e,?_⟩;cases r with
  |text=>exact hf
  |plain=>exact hf
  |drawn =>
   obtain⟨e1,o,e,h1,h2⟩:=hf;exact⟨e1,o,e,hk b (by simp) o h1,h2⟩
 item:=λi s Q E hi st hQ=>by
  obtain⟨hL,f,hI,hf⟩:=st;exact next_item hL hr hI hf dz hi λv h' f' hv h1 h2 h3=>hQ v h' s.toks hv ⟨hL.at λo e=>by rw[h3.2 a LZ];exact e,f',h1,h2⟩ λc o hc e=>h3.extBut c o (λz=>hc (by simp[z])) e
 done:=λs Q E st hQ=>by
  obtain⟨hL,f,hI,hf⟩:=st;exact next_end hh hL hr hI hf dz λh' he=>hQ h' s.toks λc o hc e=>he c o (λz=>hc (by simp[z])) e
 self:=λi s Q E st hQ=>by
  obtain⟨hL,f,hI,hf⟩:=st;refine wpAny_pyIter_slot hI.ty HI (cj HI hI.ty Zj ?_ (Zw _));exact aa (ao (ao ⟨_,rfl,"set_iterator",_,hI.ty,B8.lookup,hQ⟩))
end
end ST

namespace ST
open PySem PyProof.Rows
theorem ZH:typeLookup (.type "set") "__len__"=pure (some (.builtin "set.__len__")):=by rw[jh,fB];kernel_rfl
section
variable{prog:Program}{w:World}{A:Around}{E:Value->Shared->Prop}{s:Shared}{a I b:Addr}{es:Array (Int×Value)}{ep:Nat}{t:SetTable}{pl:List Nat}
theorem Zt(hh:A.handled=none)(hL:Lies s.heap a es ep t)(hw:Well (Led w) t)(hz:es.size<=10000){Q:List Value->Shared->Prop}(h:∀(vs:List Value) h' d' lD,vs.Perm (es.toList.map (·.2))->(∀c o,s.heap.get? c=some o->h'.get? c=some o)->s.heap.objs.size<=h'.objs.size->s.toks<=lD->Q vs { s with heap:=h',drawn:=d',toks:=lD }) :
  wpAny (model prog w) A (collect (.ref a)) Q E s:=by
 have et:a<s.heap.objs.size:=let ⟨o,ho,_⟩:=hL.at_;ay ho
 unfold collect;refine aa (wpAny_runValue (eP F.entry_proto_collect ?_));rw[dW F.plain_proto_collect _];show wpAny _ A.in1 (newList [] >>= λl=>again (.builtin "list.__iadd__" ⟨[l,.ref a],[]⟩)) _ _ s;refine aa (bX ?_);refine ao ⟨kO F.plain_list_iadd _,eP F.entry_list_iadd ?_⟩;rw[dW F.plain_list_iadd _];have rG:Lies (s.heap.push { cls:=.type "list",data:=.seq ([]:List Value).toArray }) a es ep t:=hL.at λo e=>au _ e;have MJ:(s.heap.push { cls:=.type "list",data:=.seq ([]:List Value).toArray }).get? s.heap.objs.size=some { cls:=.type "list",data:=.seq ([]:List Value).toArray }:=aC _ rfl;have dz:s.heap.objs.size≠a:=bP et;have h1:Builtin.List.listSameRef (.ref s.heap.objs.size) (.ref a)=false:=by simp[Builtin.List.listSameRef,dz]
 show wpAny _ A.in1 (Builtin.List.listExtendWith (.ref s.heap.objs.size) (.ref a) (.ref s.heap.objs.size)) _ _ _;unfold Builtin.List.listExtendWith;refine aa (dB (Lies.ty (s:={ s with heap:=_ }) rG) ?_);rw[aB (by rw[h1];decide)];refine aa (a09 (s:={ s with heap:=_ }) rG hw hz λr pl b f I h2 d2 hr hI hf hb MC he zP h2z=>?_);have qa:Lies h2 a es ep t:=rG.at λo e=>he a o e;have uz:=he _ _ MJ;refine aa (bY ?_);unfold Builtin.List.listLengthHint;refine aa (wpAny_specialOf (Lies.ty (s:={ s with heap:=h2,drawn:=d2 }) qa) ZH ?_);generalize Ep:("set.__len__":String)=Ls;dsimp only;rw[show splitId Ls=some ("set","__len__") from by subst Ep;decide +kernel];dsimp only;refine aa (iK (b:=true) (Lies.ty (s:={ s with heap:=h2,drawn:=d2 }) qa) (by rw[gG];kernel_rfl) ?_);rw[aB (by decide)];subst Ep;rw[aH (by decide +kernel)];refine aa (dB (Lies.ty (s:={ s with heap:=h2,drawn:=d2 }) qa) ?_);refine ao ?_;rw[aH (by decide +kernel)];refine aa (fG ?_);refine aa ?_;show wpAny _ A.in1 (updateSeq s.heap.objs.size (·.push .none) >>= λ_=>updateSeq s.heap.objs.size (·.pop)) _ _ _;refine aa (wpAny_updateSeq (s:={ s with heap:=h2,drawn:=d2 }) uz rfl ?_);have EH:=bf (Obj.mapSeq (·.push Value.none)) uz rfl;refine wpAny_updateSeq (s:={ s with heap:=_,drawn:=d2 }) EH rfl ?_;have MI:=bf (Obj.mapSeq (·.pop)) EH rfl;have DI:∀c o,c≠s.heap.objs.size->h2.get? c=some o->((h2.update s.heap.objs.size (Obj.mapSeq (·.push Value.none))).update s.heap.objs.size (Obj.mapSeq (·.pop))).get? c=some o :=
  λc o hc e=>(bV _ _ (bD hc)).trans ((bV _ _ (bD hc)).trans e)
 have rg:s.heap.objs.size<(s.heap.push { cls:=.type "list",data:=.seq ([]:List Value).toArray }).objs.size:=by rw[vH];exact fc _
 have hSI:I≠s.heap.objs.size:=bP (ax rg zP);have hSb:b≠s.heap.objs.size:=by
  rcases MC with z|z
  ·rw[z];exact bD dz
  ·exact bP (ax rg z)
 have W:=(Yd (prog:=prog) (w:=w) (A:=A.in1) (a:=a) (b:=b) (I:=I) (es:=es) (ep:=ep) (t:=t) (pl:=pl) hh hr hb (aN (ax (cI et rg) zP))).toS;have st:Lies h2 a es ep t/\∃f,C8 h2 I a f 0 es.size ep/\M3 h2 t b pl 0 f r:=⟨qa,f,hI,hf⟩
 have jR:=W.frame 0 ({ s with heap:=h2,drawn:=d2 }:Shared) _ s.toks st (av _) λc hc o e=>DI c o (λz=>by simp at hc;rcases hc with y|y|y<;>simp_all) e;refine ao ⟨kO F.plain_extend_loop _,codeAny_extend_loopS W (aD hz (by decide)) _ (λz=>by simp at z;rcases z with y|y|y<;>simp_all) _ es.size 0 _ _ _ rfl (cE _) jR MI (ItemsOf.nil _) λs' vm c' hm mh jY=>?_⟩;show wpAny _ A (load s.heap.objs.size >>= _) _ _ s';refine aa (wpAny_load mh ?_);refine ao ?_;have eS:s'={ s with heap:=s'.heap,drawn:=d2,toks:=s'.toks }:=by
  obtain⟨jb,g',d',lD,tE⟩:=s';have m1:g'=s.gens:=hm.gens;have m2:d'=d2:=hm.drawn;have m3:tE=s.os:=hm.os;subst m1;subst m2;subst m3
  rfl
 have eo:vm.toList=vg w a es ep pl r:=by
  have l1:(vg w a es ep pl r).length=es.size:=by rw[(Jt hr).length_eq];simp
  apply List.ext_getElem
  ·rw[l1];simpa using jY.1
  ·intro i h1 h2;have:=jY.2 i vm.toList[i] (by simp at h1 ⊢);dsimp only at this;rw[ag h2] at this;exact(aJ this).symm
 rw[eo,eS];refine h _ _ d2 s'.toks (Jt hr) (λc o e=>?_) (dG (ay mh)) hm.toks;have hc:c<s.heap.objs.size:=ay e;have n1:c≠s.heap.objs.size:=aN hc;have n2:c≠I:=aN (ax (cI hc rg) zP);exact hm.heap c o (by simp[n1,n2]) (DI c o n1 (he c o (au _ e)))
theorem YW{ks:List Int}(hh:A.handled=none)(hS:u5 prog w s.heap a ks)(h64:ks.length<64){Q:Value->Shared->Prop}(h:∀(S:Addr) (vs:List Value) (ns:List Int) e h' d' lD,IntsAre vs ns->ns.Perm ks->ns.Pairwise (·<=·)->h'.get? S=some (seqObj "list" vs.toArray e)->s.heap.objs.size<=S->(∀c o,s.heap.get? c=some o->h'.get? c=some o)->s.toks<=lD->Q (.ref S) { s with heap:=h',drawn:=d',toks:=lD }) :
  wpAny (model prog w) A (call (.builtin "sorted") [.ref a]) Q E s:=by
 obtain⟨o,es,ep,t,ho,hx,hd,pS,hp,hn,hb,hf,hw⟩:=hS;have hL:Lies s.heap a es ep t:=⟨⟨o,ho,hx.1,hd⟩,hf⟩
 have hz:es.size=ks.length:=by rw[<- hp.length_eq];simp
 refine Calls.call_function_entry kind_sorted plain_sorted entry_sorted (args_sorted1 _) ?_;unfold Builtin.«sorted»;refine aa (m:=checkCount "sorted" 1 1 _) (ao ?_);refine aa (Zt (A:=A.in1) hh hL hw (by omega) λvs h1 d1 yu hv he rg wm=>?_);have hI:IntsAre vs (vs.map toI):=by
  have all:∀v∈vs,∃tk,v=.int (toI v) tk:=λv yZ=>by
   obtain⟨e,zA,rfl⟩:=aO.mp (hv.mem_iff.mp yZ);obtain⟨tk,h1,_⟩:=Iz pS zA;exact⟨tk,h1⟩
  clear hv
  induction vs with
  |nil=>exact .nil
  |cons v r ih =>
   obtain⟨tk,e⟩:=all v (by simp);have:=IntsAre.cons (toI v) tk (ih λu hu=>all u (by simp[hu]));rw[<- e] at this;exact this
 have hk:(vs.map toI).Perm ks:=by
  refine(hv.map toI).trans ?_;rw[bE];exact hp
 have hl:vs.length<64:=by rw[hv.length_eq];simp;omega
 refine aa (wpAny_newList (s:={ s with heap:=h1,drawn:=d1,toks:=yu }) ?_);have ud:(h1.push (seqObj "list" vs.toArray 0)).get? h1.objs.size=some (seqObj "list" vs.toArray 0):=aC _ rfl;refine aa (bY (cj (s:={ s with heap:=h1.push (seqObj "list" vs.toArray 0),drawn:=d1,toks:=yu }) slot_list_sort ⟨_,ud,rfl⟩ entry_list_sort (list_sort_tree ud hI hl λout yM a1 a2 a3=>⟨_,rfl,?_⟩) (args_list_sort _)));obtain⟨e,zA⟩:=sortedHeap_at (vs:=vs) (out:=out) ud;refine ao ⟨_,rfl,h h1.objs.size out.toList yM e _ d1 yu a1 (a2.trans hk) a3 zA rg (λc o' e'=>?_) wm⟩;have hc:=ay (he c o' e');rw[sortedHeap_old (aN hc) (by rw[vH];exact Nat.lt_succ_of_lt hc)];exact au _ (he c o' e')
end
end ST

namespace ST
open PySem PyProof.Rows
noncomputable def j9(ks xs:List Int):List Int:=xs.foldl C7 ks
theorem L3:∀(xs ks:List Int),(j9 ks xs).length<=ks.length+xs.length
 |[],ks=>by simp[j9]
 |x::xs,ks=>by
  have:=L3 xs (C7 ks x);have h2:=ZK ks x;show(j9 (C7 ks x) xs).length<=_;simp only[List.length_cons];omega
theorem Hj:∀(xs ks:List Int) (k:Int),k∈j9 ks xs↔k∈ks\/k∈xs
 |[],ks,k=>by simp[j9]
 |x::xs,ks,k=>by
  show k∈j9 (C7 ks x) xs↔_;rw[Hj xs];unfold C7;split
  ·rename_i h;constructor
   ·rintro(a|a)
    ·exact .inl a
    ·exact .inr (by simp[a])
   ·rintro(a|a)
    ·exact .inl a
    ·rcases aE.mp a with rfl|b
     ·exact .inl h
     ·exact .inr b
  ·simp[or_assoc]
theorem GL:∀(xs ks:List Int),ks.Nodup->(j9 ks xs).Nodup
 |[],ks,h=>h
 |x::xs,ks,h=>by
  show(j9 (C7 ks x) xs).Nodup;refine GL xs _ ?_;unfold C7;split
  ·exact h
  ·rename_i hk;rw[cF];exact⟨h,by simp,λa ha b hb=>by simp at hb;subst hb;exact λz=>hk (z▸ha)⟩
section
variable{prog:Program}{w:World}{A:Around}{E:Value->Shared->Prop}{s:Shared}{a:Addr}
theorem Yw:Well (Led w) (SetTable.fresh 0 0 (Led w)):=⟨by simp[jJ,SetTable.fresh],rfl,rfl⟩
theorem GB{h:Heap}(e:h.get? a=some { cls:=.type "set",dict:=none,data:=.set #[] 0 (.fresh 0 0 (Led w)) }):u5 prog w h a [] :=
 ⟨_,#[],0,_,e,⟨rfl,rfl,rfl⟩,rfl,(by intro e he;simp at he),by simp,by simp,by decide,by rfl,Yw⟩
theorem WY{R:Result->Shared->Prop}{I:Addr}{fp wr:List Addr}{G:Array GenState->Array GenState->Prop}{n:Nat}{P:Nat->Value->Prop}{St:Nat->Shared->Prop}(W:WalksS prog w A.in1 I fp wr G n P St)(EG:a∉fp){ns:List Int}(hn:n=ns.length)(hv:∀i v,P i v->∃tk,v=.int (ns.getD i 0) tk)(hb:n+1<scanBound):∀(k i:Nat) (s:Shared),i+k=n->St i s->u5 prog w s.heap a (j9 [] (ns.take i)) ->
   (∀s',Moved (a::wr) G s s'->u5 prog w s'.heap a (j9 [] ns)->R (.ok (.ret .none)) s')->codeAny (model prog w) A (.builtin "set.update.loop" ⟨[.ref a,.ref I],[]⟩) R s:=by
 have hw:a∉wr:=λh=>EG (W.sub _ h);have sY:∀b∈wr,b∈a::wr:=λb hb=>by simp[hb]
 intro k
 induction k with
 |zero =>
  intro i s e st hS hR;obtain rfl:i=n:=by omega
  refine eP iX ?_;rw[dW dM _];unfold Builtin.«set.update.loop»;refine aa (W.done s _ _ st λs' m=>ao (hR s' (m.mono sY) (u5.at ?_ λo e=>m.heap a o hw e)));rw[hn,cb] at hS;exact hS
 |succ k ih =>
  intro i s e st hS hR;have et:i<ns.length:=by omega
  refine eP iX ?_;rw[dW dM _];unfold Builtin.«set.update.loop»;refine aa (W.item i s _ _ (by omega) st λv s' hP kB m=>?_);obtain⟨tk,rfl⟩:=hv i v hP;have mh:=u5.at hS λo e=>m.heap a o hw e;have hl:=L3 (ns.take i) [];rw[dc] at hl;simp only[List.length_nil] at hl;refine aa (bY ?_);unfold setAdd;refine bY (aa ((intKind prog w).pyHash (k:=ns.getD i 0) (fH _ _ _ _) ?_));refine FU (s:={ s' with toks:=s'.toks+1 }) mh (by omega) λh' bb sb uz=>?_;have e2:C7 (j9 [] (ns.take i)) (ns.getD i 0)=j9 [] (ns.take (i+1)):=by
   unfold j9;rw[bx,List.foldl_append,ag et];simp[List.getD,et]
  rw[e2] at uz;refine ao ⟨kO dM _,ih (i+1) _ (by omega) (W.frame _ s' _ _ kB (fY _) λb hb o e=>by rw[sb.2 b λz=>EG (z▸hb)];exact e) uz λs2 m2 h2=>?_⟩;exact hR s2 (Moved.trans W.gtrans ((m.mono sY).then_heap (fY _) λb o hb e=>by rw[sb.2 b λz=>hb (by rw[z];simp)];exact e) m2) h2
end
end ST

namespace ST
open PySem PyProof.Rows
section
variable{prog:Program}{w:World}{A:Around}{E:Value->Shared->Prop}{s:Shared}{a:Addr}
noncomputable abbrev w9(w:World):Obj:={ cls:=.type "set",dict:=none,data:=.set #[] 0 (.fresh 0 0 (Led w)) }
theorem IM{Q:Value->Shared->Prop}(h:Q (.ref s.heap.objs.size) { s with heap:=s.heap.push (w9 w) }):wpAny (model prog w) A (newSet (.type "set")) Q E s:=by
 unfold newSet;refine aa (vi ?_);exact bX h (cE _)
theorem ZQ(x:Value){Q:Value->Shared->Prop}(h:Q (.ref s.heap.objs.size) { s with heap:=s.heap.push (w9 w) }):codeAny (model prog w) A (.call (.builtin "set.__new__") ⟨[.type "set",x],[]⟩) (wants Q E) s:=by
 refine sD (?_:wpAny _ A.in1 (do
  checkBuiltinCall "set.__new__" ⟨[.type "set",x],[]⟩
  again (.builtin "set.__new__" ⟨[.type "set",x],[]⟩)) _ _ s)
 refine aa (dR (F.newCall_set_1 x) (ao ⟨kO F.plain_set_new _,?_⟩));refine eP F.entry_set_new ?_;rw[dW F.plain_set_new _];unfold Builtin.«set.__new__»;have sub:=sub_set_self;refine aa (m:=Builtin.Frozenset.newClass "set" _) ?_;unfold Builtin.Frozenset.newClass;dsimp only;refine aa (dR (a:=true) (by first|rfl|(simp[isType];rfl)) ?_);rw[aB (by decide)];refine aa (dR sub ?_);rw[aB (by decide)];refine ao ?_;exact aa (IM (ao h))
theorem M0{vs:List Value}{ns:List Int}(h:IntsAre vs ns):vs.length=ns.length:=by
 induction h with
 |nil=>rfl
 |cons n t r ih=>simp[ih]
noncomputable def vp(h:Heap)(l:Addr)(items:Array Value):Prop:=h.IsList l items\/h.IsTuple l items
theorem vp.lt{h:Heap}{l:Addr}{items:Array Value}(x:vp h l items):l<h.objs.size:=by
 rcases x with⟨_,e,_⟩|⟨_,e,_⟩<;>exact ay e
theorem ZV{l:Addr}{items:Array Value}{ns:List Int}{Q:Fin->Shared->Prop}(hh:A.handled=none)(hS:s.heap.get? a=some (w9 w))(hl:vp s.heap l items)(hi:IntsAre items.toList ns)(hb:items.size+1<scanBound)(dz:a≠l)(h:∀h' tk,u5 prog w h' a (j9 [] ns)->(∀b o,b≠a->s.heap.get? b=some o->h'.get? b=some o)->s.toks<=tk->wpAny (model prog w) A (ret .none) Q E { s with heap:=h',toks:=tk }) :
  wpAny (model prog w) A (Builtin.«set.__init__» ⟨[.ref a,.ref l],[]⟩) Q E s:=by
 have hT:s.TypeIs (.ref a) "set":=⟨_,hS,rfl⟩
 have hLi:Lies s.heap a #[] 0 (SetTable.fresh 0 0 (Led w)):=⟨⟨_,hS,rfl,rfl⟩,rfl⟩
 have et:=hl.lt;have Ej:l≠s.heap.objs.size:=aN et;unfold Builtin.«set.__init__» noKeywords;dsimp only;refine aa (dR (a:=()) rfl ?_);have nm:∀{Q':String->Shared->Prop},(∀x,Q' x s)->wpAny (model prog w) A (typeNameOfCut 200 (.ref a)) Q' E s:=λ{Q'} q=>by
  unfold typeNameOfCut shownTypeOf;refine aa (aa (dB hT ?_));rw[aB (by decide)];refine ao (dR (a:="set") ?_ (q _));unfold typeNameCut;dsimp only
  first|(unfold typeName;rw[find?_eq_fast];kernel_rfl)|kernel_rfl
 refine aa (nm λx=>?_);refine aa (m:=checkCount _ 0 1 _) (ao ?_);refine aa (m:=Builtin.Frozenset.addrOf _) (ao ?_);unfold setUsed;refine aa (aa (cx hS rfl rfl (ao ?_)));rw[aB (by show ¬((SetTable.fill (SetTable.fresh 0 0 (Led w)) != 0)=true);unfold SetTable.fill;simp[SetTable.fresh])];unfold Builtin.Frozenset.updateFrom Builtin.Frozenset.isAnySet;obtain⟨c,rC,zK,it,hit,Em,St,W,fz⟩:∃c:String,(c="list"\/c="tuple")/\s.TypeIs (.ref l) c/\∃it:Obj,(∀Q':Value->Shared->Prop,Q' (.ref s.heap.objs.size) { s with heap:=s.heap.push it }->wpAny (model prog w) A (pyIter (.ref l)) Q' E s) /\
   (∀b o,s.heap.get? b=some o->(s.heap.push it).get? b=some o)/\∃St:Nat->Shared->Prop,WalksS prog w A.in1 s.heap.objs.size [s.heap.objs.size,l] [s.heap.objs.size] (λa b=>b=a) items.size (λi v=>items[i]?=some v) St/\St 0 { s with heap:=s.heap.push it }:=by
  rcases hl with hl|hl
  ·obtain⟨o,ho,hc,_⟩:=id hl;exact⟨"list",.inl rfl,⟨o,ho,hc⟩,_,λQ' q=>hV hl q,λb o e=>au _ e,_,(Walks.list (A:=A.in1) hh _ l Ej items).toS,⟨⟨_,aC _ rfl,rfl,rfl⟩,hl.push _⟩⟩
  ·obtain⟨o,ho,hc,_⟩:=id hl;exact⟨"tuple",.inr rfl,⟨o,ho,hc⟩,_,λQ' q=>wpAny_pyIter_tuple hl q,λb o e=>au _ e,_,(Walks.tuple (A:=A.in1) hh _ l Ej items).toS,⟨⟨_,aC _ rfl,rfl,rfl⟩,hl.push _⟩⟩
 refine aa (aa (aa (iK (b:=false) zK (by rcases rC with rfl|rfl<;>(rw[gG];kernel_rfl)) ?_)));show wpAny (model prog w) A (isInstance (Value.ref l) (Value.type "frozenset")) _ _ _;refine iK (b:=false) zK (by rcases rC with rfl|rfl<;>(rw[gG];kernel_rfl)) ?_;rw[aB (by decide)];refine aa (dB zK ?_);rw[aB (by rcases rC with rfl|rfl<;>decide)];refine aa (hit _ ?_);refine aa (wpAny_runValue ?_);have MG:a<s.heap.objs.size:=ay hS;have hsz:items.size=ns.length:=by rw[<- bp];exact M0 hi
 refine WY (a:=a) (ns:=ns) W (by simp only[List.mem_cons,List.not_mem_nil,or_false,not_or];exact⟨aN MG,dz⟩) hsz (λi v hv=>IntsAre.int_at hi i v (by rw[iu];exact hv)) hb items.size 0 _ (by omega)
  fz (GB (Em _ _ hS)) λs' m mh=>?_
 have eS:s'={ s with heap:=s'.heap,toks:=s'.toks }:=by
  obtain⟨jb,g',d',lD,tE⟩:=s';have m1:g'=s.gens:=m.gens;have m2:d'=s.drawn:=m.drawn;have m3:tE=s.os:=m.os;subst m1;subst m2;subst m3
  rfl
 rw[eS];refine ao (h _ _ mh (λb o hb e=>?_) m.toks);exact m.heap b o (by simp only[List.mem_cons,List.not_mem_nil,or_false,not_or];exact⟨hb,aN (ay e)⟩) (Em _ _ e)
theorem ZN{l:Addr}{items:Array Value}{ns:List Int}{Q:Value->Shared->Prop}(hh:A.handled=none)(hl:vp s.heap l items)(hi:IntsAre items.toList ns)(hb:items.size+1<scanBound)(h:∀h' tk,u5 prog w h' s.heap.objs.size (j9 [] ns)->(∀b o,s.heap.get? b=some o->h'.get? b=some o)->s.toks<=tk->Q (.ref s.heap.objs.size) { s with heap:=h',toks:=tk }) :
  wpAny (model prog w) A (call (.type "set") [.ref l]) Q E s:=by
 have cs:=F.called_set;obtain⟨_,_,y1⟩:=cs.mro;have y2:=cs.made;have y3:=cs.sub;have y4:=cs.notType;have y5:=cs.canCreate;have y6:=F.typeCall_set_1 (.ref l);refine wpAny_call (sD (?_:wpAny _ _ (callAny (.type "set") _) _ _ _));refine ao ⟨Code.quiet_builtin _ (by decide +kernel),eP F.entry_type_call ?_⟩;rw[Around.under_plain (weight_type_call_type "set" [.ref l] []) rfl]
 repeat (any_goals (first|assumption|wp_step))
 refine gg (ZQ (.ref l) (E:=E) (Q:=λv s1=>v=.ref s.heap.objs.size/\s1={ s with heap:=s.heap.push (w9 w) }) ⟨rfl,rfl⟩) ?_;rintro(e|fl) s1 hr
 ·exact hr
 cases fl with
 |next=>exact hr
 |brk=>exact hr
 |cont=>exact hr
 |ret v =>
 obtain⟨rfl,rfl⟩:=hr;have hS:(s.heap.push (w9 w)).get? s.heap.objs.size=some (w9 w):=aC _ rfl;have hT:Shared.TypeIs { s with heap:=s.heap.push (w9 w) } (.ref s.heap.objs.size) "set":=⟨_,hS,rfl⟩
 have y7:=cs.init.lookup;have y8:=cs.init.bind (.ref s.heap.objs.size)
 repeat (any_goals (first|assumption|wp_step))
 refine gg (codeAny_call_builtin (R:=wants (λv s2=>v=.none/\∃h' tk,s2={ s with heap:=h',toks:=tk }/\u5 prog w h' s.heap.objs.size (j9 [] ns)/\(∀b o,s.heap.get? b=some o->h'.get? b=some o)/\s.toks<=tk) E) cs.init.plain F.entry_set_init (check_set_init_1 hT ?_)) ?_
 ·have zt:vp (s.heap.push (w9 w)) l items:=hl.imp (·.push _) (·.push _);have Mb:=hl.lt;refine ZV (s:={ s with heap:=s.heap.push (w9 w) }) (by simp[hh]) hS zt hi hb (bP Mb) λh' tk h1 h2 h3=>ao ⟨rfl,h',tk,rfl,h1,λb o e=>h2 b o (aN (ay e)) (au _ e),h3⟩
 ·rintro(e|fl) s2 hr
  ·exact hr
  cases fl with
  |next=>exact hr
  |brk=>exact hr
  |cont=>exact hr
  |ret v =>
  obtain⟨rfl,h',tk,rfl,h1,h2,h3⟩:=hr
  repeat (any_goals (first|assumption|wp_step))
  exact h _ _ h1 h2 h3
end
end ST

namespace L2
open PySem PySem.Spec PyProof.Rows
noncomputable def qE(X:Cx)(a:Addr)(ks:List Int):HO:=.ext λh=>ST.u5 X.prog X.w h a ks
noncomputable def n9(ns:List Int):List Int:=(ST.j9 [] ns).mergeSort (λa b=>decide (a<=b))
theorem GQ:∀{a b:List Int},a.Perm b->a.Pairwise (·<=·)->b.Pairwise (·<=·)->a=b
 |[],b,h,_,_=>by rw[List.nil_perm.mp h]
 |x::a,[],h,_,_=>absurd h.length_eq (by simp)
 |x::a,y::b,h,h1,h2=>by
  rw[fN] at h1 h2;have e:x=y:=by
   have m1:=h.mem_iff (a:=y);have m2:=h.mem_iff (a:=x);simp only[List.mem_cons,true_or,true_iff,iff_true] at m1 m2;rcases m1 with z|z
   ·exact z.symm
   ·rcases m2 with z'|z'
    ·exact z'
    ·have:=h1.1 y z;have:=h2.1 x z';omega
  subst e;rw[GQ (h.cons_inv) h1.2 h2.2]
theorem YV(ns:List Int):(n9 ns).Pairwise (·<=·):=by
 have:=List.pairwise_mergeSort (le:=λa b:Int=>decide (a<=b)) (λa b c h1 h2=>by simp at *;omega) (λa b=>by simp;omega) (ST.j9 [] ns);exact this.imp λh=>by simpa using h
theorem O6(ns:List Int):(n9 ns).Perm (ST.j9 [] ns):=List.mergeSort_perm _ _
theorem T6(ns:List Int):(n9 ns).length<=ns.length:=by
 rw[(O6 ns).length_eq];have:=ST.L3 ns [];simpa using this
section
variable{X:Cx}{pins:List (Addr×Obj)}{Z:St}{H:Hp}{s:Shared}
theorem Inv.draw(I:Inv X pins Z H s)(d:Drawn):Inv X pins Z H { s with drawn:=d } :=
 I.step (g':=s.gens) (t':=s.toks) (d':=d) (ch:=[]) (by simp) (λb o _ _ _ e _=>e) (λb o _ _ _ e _=>⟨o.slots,e⟩) (λb o _ _ e=>e) (λb o _ e=>⟨o,e⟩) (λ_ _ e=>e) (λ_ _ _ e=>e) (λb ps e=>⟨#[],by simp[e]⟩) (λm hm=>hm) I.bG I.bare
theorem Ja{h:Heap}{H:Hp}{a:Addr}{ks:List Int}(x:ST.u5 X.prog X.w h a ks):m8 X.prog X.w H h a (qE X a ks) :=
 ⟨x,let ⟨o,_,_,_,e,_⟩:=x;⟨o,e⟩,λh1 h2 y k=>y.at k⟩
theorem Hq:∀{ns:List Int} {vs:List Value},IntsAre vs ns->Vals (ns.map V.int) vs
 |_,_,.nil=>.nil
 |_,_,.cons n t r=>.cons ⟨t,rfl⟩ (Hq r)
theorem K8:∀{ns:List Int} {vs:List Value},Vals (ns.map V.int) vs->IntsAre vs ns
 |[],_,h=>by cases h;exact .nil
 |n::ns,_,h=>by
  cases h with
  |cons r rr =>
   obtain⟨t,rfl⟩:=r;exact .cons n t (K8 rr)
theorem HG(hc:X.calm=true):m9 X (.type "set") (λxs H Q=>∃a ns,xs=[.ref a]/\fo X.K H a (ns.map V.int)/\ns.length<60/\∀p,H p=none->Q (.ref p) (upd H p (qE X p (ST.j9 [] ns)))):=by
 intro pins s Z H xs us Q I r h;obtain⟨a,ns,rfl,hq,hl,q⟩:=h;cases r with
 |cons r rr =>
 cases rr;cases r;obtain⟨aR,rv,p,hz⟩:=I.list hq;have hI:=K8 rv;have hlen:=ST.M0 hI;refine ST.ZN (ns:=ns) (I.ok.hd hc) (.inl p.isList) (by simpa using hI) (by rw[aA,hlen];exact ax (Nat.succ_lt_succ hl) (by decide)) λh' tk hS hk _=>?_;exact⟨.ref _,_,I.laid (a:=s.heap.objs.size) (t':=tk) hk (av _) (Ja hS),rfl,q _ (I.bG.fresh (av _))⟩
theorem V0(hc:X.calm=true):m9 X (.builtin "sorted") (λxs H Q=>∃a ns,xs=[.ref a]/\H a=some (qE X a (ST.j9 [] ns))/\ns.length<60/\∀p,H p=none->Q (.ref p) (upd H p (.lst ((n9 ns).map V.int)))):=by
 intro pins s Z H xs us Q I r h;obtain⟨a,ns,rfl,ha,hl,q⟩:=h;cases r with
 |cons r rr =>
 cases rr;cases r;have hS:ST.u5 X.prog X.w s.heap a (ST.j9 [] ns):=(I.bG a _ ha).1;have hn:=ST.L3 ns [];simp only[List.length_nil] at hn;refine ST.YW (I.ok.hd hc) hS (by omega) λS vs yM e h' d' lD h1 h2 h3 h4 h5 h6 _=>?_;have e1:yM=n9 ns:=GQ (h2.trans (O6 ns).symm) h3 (YV ns);subst e1;have hz:=T6 ns;exact⟨.ref S,_,(I.laid (a:=S) (o:=.lst ((n9 ns).map V.int)) (t':=lD) h6 h5 ⟨by rw[ah];exact aD hz (aD (dG hl) (by decide)),vs,e,Hq h1,h4⟩).draw d',rfl,q S (I.bG.fresh h5)⟩
end
end L2

namespace ST
open PySem PyProof.Rows
theorem ZM{prog:Program}{w:World}{A:Around}{E:Value->Shared->Prop}{s:Shared}{a:Addr}{ks:List Int}{k:Int}{tk:Tok}{Q:Value->Shared->Prop}(hS:u5 prog w s.heap a ks)(hr:ks.length+1<scanBound)(h:∀h',Heap.SameBut a s.heap h'->u5 prog w h' a (C7 ks k)->Q .none { s with heap:=h',toks:=s.toks+1 }):wpAny (model prog w) A (call (.builtin "set.add") [.ref a,.int k tk]) Q E s:=by
 have hT:s.TypeIs (.ref a) "set":=let ⟨o,_,_,_,e,x,_⟩:=hS;⟨o,e,x.1⟩
 refine cj F.slot_set_add hT F.entry_set_add ?_ (F.args_set_add_2 _ _);have go:∀(Q':Fin->Shared->Prop),(∀h',Heap.SameBut a s.heap h'->u5 prog w h' a (C7 ks k)->wpAny (model prog w) A.in1 (ret .none) Q' E { s with heap:=h',toks:=s.toks+1 })->wpAny (model prog w) A.in1 (do let _ <- setAdd a (.int k tk);ret .none) Q' E s:=λQ' q=>by
  unfold setAdd;refine aa (bY (aa ((intKind prog w).pyHash (k:=k) (fH _ _ _ _) ?_)));exact FU (s:={ s with toks:=s.toks+1 }) hS hr λh' b sb S2=>q h' sb S2
 unfold Builtin.«set.add» Builtin.Frozenset.oneOther;simp only[List.isEmpty_nil,bind_assoc];unfold Builtin.Frozenset.addrOf;refine aa (ao ?_)
 try dsimp only
 refine aa (ao ?_)
 try dsimp only
 exact go _ λh' sb S2=>ao ⟨_,rfl,h h' sb S2⟩
end ST
namespace L2
open PySem PySem.Spec PyProof.Rows
section
variable{prog:Program}{w:World}{A:Around}{R:Result->Shared->Prop}{s:Shared}
theorem YZ(elt target iter:Expr)(ifs:List Expr)(scope:Scope)(pos:Pos)(it acc:Value)(env:Env):compTurn (.SetComp elt [⟨target,iter,ifs,0⟩] scope pos) 0 it acc env=(do
      standAt iter.pos
      match <- pyNext it with
      |none=>pure (.done .next)
      |some v =>
        letOwnedTupleGo target it v
        assign target env v
        let mut ok:=true
        for c in ifs do if ok then ok <- isTrue c env (eval c env)
        if ok then(do let x <- eval elt env;standAt elt.pos;let _ <- call (.builtin "set.add") [acc,x])
        again (.compLoop (.SetComp elt [⟨target,iter,ifs,0⟩] scope pos) 0 it acc env)):=by rfl
theorem WC{elt target iter:Expr}{ifs:List Expr}{scope:Scope}{pos:Pos}{it acc:Value}{env:Env}(I:Nat->Shared->Prop)(turn:∀ n s,I n s->wpAny (model prog w) A (pyNext it) (λr bQ=>match r with
   |none=>R (.ok .next) bQ
   | some v=>wpAny (model prog w) A (letOwnedTupleGo target it v) (λ_ bQ=>wpAny (model prog w) A (assign target env v) (λ_ fS =>
     wpAny (model prog w) A (forIn ifs true λc r=>if r=true then do let ok <- isTrue c env (eval c env);pure (ForInStep.yield ok) else pure (ForInStep.yield r)) (λok eI =>
      if ok=true then wpAny (model prog w) A (eval elt env) (λx iZ =>
       wpAny (model prog w) A (call (.builtin "set.add") [acc,x]) (λ_ lE=>∃ m,m < n/\I m lE) (λ_ _=>False) iZ) (λ_ _=>False) eI
      else ∃ m,m < n/\I m eI) (λ_ _=>False) fS) (λ_ _=>False) bQ) (λ_ _=>False) bQ) (λ_ _=>False) s)(n:Nat)(h:I n s) :
  codeAny (model prog w) A (.compLoop (.SetComp elt [⟨target,iter,ifs,0⟩] scope pos) 0 it acc env) R s:=by
 refine codeAny_loop rfl I (λn s hI=>?_) n h;show wpAny _ A ((compTurn (.SetComp elt [⟨target,iter,ifs,0⟩] scope pos) 0 it acc env).onRaise (λx=>do noteFrame x env;theTreesLotGoes x)) _ _ s;refine wpAny_noted ?_;rw[YZ];refine aa (dE (aa (bA (turn n s hI) (λr bQ h₁=>?_) λ_ _ h'=>h'.elim)));cases r with
 |none=>exact ao h₁
 |some v =>
  refine aa (bA h₁ (λ_ bQ h₁=>?_) λ_ _ h'=>h'.elim);refine aa (bA h₁ (λ_ fS iB=>aa (bA iB (λok eI lP=>?_) λ_ _ h'=>h'.elim)) λ_ _ h'=>h'.elim);cases ok with
  |false=>exact wpAny_pure ⟨rfl,lP⟩
  |true =>
   exact aa (aa (bA lP (λx iZ pN=>aa (dE (aa (bA pN (λ_ lE pM=>ao (ao ⟨rfl,pM⟩)) λ_ _ h'=>h'.elim)))) λ_ _ h'=>h'.elim))
theorem YR{elt target iter:Expr}{ifs:List Expr}{scope:Scope}{pos:Pos}{it acc:Value}{env:Env}(h0:codeAny (model prog w) A (.compLoop (.SetComp elt [⟨target,iter,ifs,0⟩] scope pos) 0 it acc env) R s)(h:wpAny (model prog w) A (pyIter it) (λDW s'=>codeAny (model prog w) A (.compLoop (.SetComp elt [⟨target,iter,ifs,0⟩] scope pos) 0 DW acc env) R s') (notedBy (model prog w) A env λx s'=>R (.error x) s') s) :
  codeAny (model prog w) A (.compStart (.SetComp elt [⟨target,iter,ifs,0⟩] scope pos) 0 it acc env) R s:=by
 refine sD (?_:wpAny _ _ ((compStart (.SetComp elt [⟨target,iter,ifs,0⟩] scope pos) 0 it acc env).onRaise (λx=>do noteFrame x env;standAt theWindowsPlace)) _ _ s);refine wpAny_notedAt ?_;unfold compStart;refine aa (oW (wpAny_ite ?_));split
 ·first
   |exact ao ⟨rfl,h0⟩
   |exact aa (ao (ao ⟨rfl,h0⟩))
 ·refine aa (fG ?_);exact aa (dE (aa (bA h (λDW s' h'=>ao ⟨rfl,h'⟩) λ_ _ x=>x)))
end
noncomputable def Cp(o:Obj):Prop:=∀v,o.data≠.cell v
noncomputable def QU(X:Cx)(wi:TI)(d5:List Nat)(n:Nat)(g:TG)(tc:TT)(te:TE):TE:=λZ H Q=>wi Z H λJ H1=>∃W:Nat->Nat->List Int->St->Hp->Prop,(∃m,W 0 m [] (C1 Z d5 n) H1)/\∀i m ys Z H,W i m ys Z H ->
 (J.stop i H/\∀p,H p=none->Q (.ref p) (upd H p (qE X p (ST.j9 [] ys)))) \/
 (J.go i H/\ys.length < 60/\∀ x H',J.pz i H x H'->g x Z H' λcg H2=>tc cg H2 λb H3 =>
  if b=true then te cg H3 λy H4=>∃ k,y=.int k/\∃ m',m' < m/\W (i + 1) m' (ys ++ [k]) cg H4 else ∃ m',m' < m/\W (i + 1) m' ys cg H3)
section
variable{X:Cx}{pins:List (Addr×Obj)}{Z:St}{H:Hp}{s:Shared}
theorem Inv.QX{D:Addr}{φ:Heap->Prop}(I:Inv X pins Z H s)(f:C2 X pins H D)(hs:X.cX.heap.objs.size<=D)(ho:m8 X.prog X.w (upd H D (.ext φ)) s.heap D (.ext φ)):Inv X pins Z (upd H D (.ext φ)) s:=by
 obtain⟨f0,f1,f2,f3,f4,f5⟩:=f;have dz:∀b o,X.cX.heap.get? b=some o->b≠D:=λb o e z=>absurd (ay e) (by rw[z];exact jm.mpr hs);have tup:∀b u,H b=some u->upd H D (.ext φ) b=some u:=λb u e=>by rw[i3 (l9 e f0)];exact e
 refine⟨I.ok,I.os,I.bare,⟨?_,?_,?_,I.base.there,?_,?_,?_⟩,I.loc,I.cell,?_,?_,?_,?_,I.len⟩
 ·exact λb o e n1 n2 n3=>I.base.keep b o e n1 n2 n3
 ·exact λb o e n1 n2 n3=>I.base.slot b o e n1 n2 n3
 ·exact λb o e n1 n2=>by rw[i3 (dz b o e)];exact I.base.free b o e n1 n2
 ·exact λb xs e=>tup _ _ (I.base.gL b xs e)
 ·exact λb o u e=>tup _ _ (I.base.gw b o u e)
 ·exact λb ps e=>by
   obtain⟨more,q⟩:=I.base.gM b ps e;exact⟨more,tup _ _ q⟩
 ·rw[i3 f1.symm];exact I.free
 ·exact λx c e=>by rw[i3 (f4 x c e)];exact I.eA x c e
 ·intro p hp;obtain⟨p1,p2,p3⟩:=I.pin p hp;exact⟨p1,by rw[i3 (f5 p hp)];exact p2,p3⟩
 ·intro a o e;by_cases ha:a=D
  ·subst ha;rw[t8] at e;cases e;exact ho
  ·rw[i3 ha] at e;have q:=I.bG a o e;refine q.Q7 (λb u _ h=>h) (λb hb=>tup _ _ hb) (λb xs hb=>tup _ _ hb)
theorem Zs{elt tg iter:Expr}{ifs:List Expr}{scope:Scope}{N':List Str}{d5:List Nat}{cl:List (Str×Addr)}{pos:Pos}{it:Addr}{fp:List Addr}{tn:Nat->Heap->Prop}{J:It}{g:TG}{tc:TT}{te:TE}{RR:Value->Addr->Result->Shared->Prop}{E:Value->Shared->Prop}{W:Nat->Nat->List Int->St->Hp->Prop}{m0:Nat}{Q:VK}(S:df X scope N' d5 cl)(hc:X.calm=true)(hg:∀C s H,PG (f6 X pins scope N' cl C s H fp) tg g)(ht:∀C s H,ko (f6 X pins scope N' cl C s H fp) ifs tc)(he:∀C s H,PE (f6 X pins scope N' cl C s H fp) elt te)(I:Inv X pins Z H s)(T:Turn X.prog X.w X.K tg J fp it tn)(st:tn 0 s.heap)(hf:∀b∈fp,C2 X pins H b)(w0:W 0 m0 [] (C1 Z d5 N'.length) H)(turn:∀ i m ys Z H,W i m ys Z H->(J.stop i H/\∀ p,H p=none->Q (.ref p) (upd H p (qE X p (ST.j9 [] ys)))) \/
   (J.go i H/\ys.length < 60/\∀ x H',J.pz i H x H'->g x Z H' λcg H2=>tc cg H2 λb H3 =>
    if b=true then te cg H3 λy H4=>∃ k,y=.int k/\∃ m',m' < m/\W (i + 1) m' (ys ++ [k]) cg H4 else ∃ m',m' < m/\W (i + 1) m' ys cg H3))(zL:∀D C s' H' m,Inv X pins Z H' s'->Q (.ref D) H'->s'.heap.Ns C m->H' C=none->s.heap.objs.size<=C->RR (.ref D) C (.ok .next) s') :
  wpAny (model X.prog X.w) X.A (newSet (.type "set")) (λacc eI=>wpAny (model X.prog X.w) X.A (newFunctionEnv scope X.env.globals cl [] X.env.qual none .none (some X.env)) (λkL iZ =>
   codeAny (model X.prog X.w) X.A (.compStart (.SetComp elt [⟨tg,iter,ifs,0⟩] scope pos) 0 (.ref it) acc { kL with scope:=relabel scope X.env }) (RR acc kL.locals) iZ) E eI) E s:=by
 refine ST.IM (HP λh₁ fV fk lZ=>?_);dsimp only at fV fk lZ ⊢;generalize qb:s.heap.push (ST.w9 X.w)=H2 at fV fk lZ ⊢;generalize eD:s.heap.objs.size=D at *;have hC:H2.objs.size=D+1:=by rw[<- qb,dU,eD]
 generalize eC:H2.objs.size=C at *;have uB:D≠C:=by omega
 have lt:∀b o,s.heap.get? b=some o->b<D:=λb o e=>by rw[<- eD];exact ay e
 have pJ:D<=C:=by omega
 have nT:∀b o,s.heap.get? b=some o->b≠C:=λb o e=>aN (ax (lt b o e) pJ);have lJ:∀b o,s.heap.get? b=some o->b≠D:=λb o e=>aN (lt b o e);have old:∀b o,s.heap.get? b=some o->h₁.get? b=some o:=λb o e=>fk b o (qb▸au _ e);have jY:h₁.get? D=some (ST.w9 X.w):=fk _ _ (by rw[<- qb,<- eD];exact aC _ rfl);have iC:∀b∈fp,∃o,s.heap.get? b=some o:=λb hb=>by
  obtain⟨o,e,_⟩:=T.obj _ _ st b hb;exact⟨o,e⟩
 have uA:D∉fp:=λhm=>by
  obtain⟨o,e⟩:=iC D hm;exact lJ D o e rfl
 have X1:Inv (f6 X pins scope N' cl C s H fp) [] (C1 Z d5 N'.length) H { s with heap:=h₁ } :=
  I.Hf S hc hf iC (by rw[eD];omega) ⟨_,fV⟩ old lZ
 have sZ:tn 0 h₁:=T.keep _ _ _ st λb _ o e=>old b o e;have Af:∀{H':Hp},(∀b∈fp,H' b=none)->∀b∈fp,C2 (f6 X pins scope N' cl C s H fp) [] H' b:=λhn b hb=>by
  obtain⟨f0,f1,f2,f3,f4,f5⟩:=hf b hb;obtain⟨o,e⟩:=iC b hb;refine⟨hn b hb,?_,?_,.inl hb,λx c q=>(xK lZ q).elim (λl z=>absurd (cI (z▸l) (ax (lt b o e) pJ)) (br _)) λq=>f4 x c (S.cin x c q),λp hp=>?_⟩
  ·exact nT b o e
  ·exact λz=>by
    rcases aE.mp (I.K2 b z) with z|z
    ·exact f1 z
    ·exact f2 z
  ·have jb:p∈X.pn++pins:=by simpa[f6] using hp
   exact f5 p jb
 have fD:∀{H':Hp},H' D=none->C2 (f6 X pins scope N' cl C s H fp) [] H' D:=λhn=>by
  refine⟨hn,uB,λz=>?_,.inr (by show s.heap.objs.size<=D;omega),λx c q=>?_,λp hp=>?_⟩
  ·exact absurd (I.vx (a:=D) (by omega)) λmF=>by
    rcases aE.mp (I.K2 D z) with z|z
    ·exact absurd I.lt (by rw[<- z,eD];exact br _)
    ·exact mF z
  ·rcases xK lZ q with l|q
   ·exact λz=>absurd (ax (z▸l) pJ) (br _)
   ·obtain⟨v,o,e,_⟩:=I.cell x c (S.cin x c q);exact lJ c o e
  ·have jb:p∈X.pn++pins:=by simpa[f6] using hp
   exact lJ _ _ (I.pin p jb).1
 have pG:∀{H':Hp} {s':Shared} {bN:St} {oD:Obj},Cp oD->Inv (f6 X pins scope N' cl C s H fp) [] bN H' s'->H' D=none->s'.heap.get? D=some oD ->
   Inv (f6 X pins scope N' cl C s H fp) [(D,oD)] bN H' s':=λ{H' s' bN oD} jW J0 hn e=>J0.J7 λp hp=>by
  have z:p=(D,oD):=by simpa using hp
  subst z;obtain⟨f0,f1,f2,_⟩:=fD hn;exact⟨e,f0,f1,f2,jW⟩
 have qo:∀{H':Hp} {oD:Obj},(∀b∈fp,H' b=none)->∀b∈fp,C2 (f6 X pins scope N' cl C s H fp) [(D,oD)] H' b:=λ{H' oD} hn b hb=>by
  obtain⟨f0,f1,f2,f3,f4,f5⟩:=Af hn b hb;refine⟨f0,f1,f2,f3,f4,λp hp=>?_⟩;have jb:p∈(f6 X pins scope N' cl C s H fp).pn\/p=(D,oD):=by simpa using hp
  rcases jb with z|z
  ·exact f5 p (dD _ z)
  ·subst z;exact λz=>uA (by rw[show D=b from z];exact hb)
 have loop:∀eI:Shared,eI={ s with heap:=h₁ } ->
   codeAny (model X.prog X.w) X.A (.compLoop (.SetComp elt [⟨tg,iter,ifs,0⟩] scope pos) 0 (.ref it) (.ref D) (compEnvC scope (J5 scope cl C) C X.env)) (RR (.ref D) C) eI:=by
  rintro eI rfl;refine WC (λn s'=>∃ (i:Nat) (ys:List Int) (bN:St) (H':Hp) (oD:Obj),Inv (f6 X pins scope N' cl C s H fp) [] bN H' s'/\tn i s'.heap/\(∀ b ∈ fp,H' b=none)/\H' D=none/\ys.length <= 60/\Cp oD /\
   s'.heap.get? D=some oD/\ST.u5 X.prog X.w s'.heap D (ST.j9 [] ys)/\W i n ys bN H') ?_ m0 ⟨0,[],_,H,ST.w9 X.w,X1,sZ,λb hb=>(hf b hb).1,I.bG.fresh (by omega),cE _,(λv (z:Data.set _ _ _=_)=>by cases z),jY,ST.GB jY,w0⟩
  rintro n s3 ⟨i,ys,gY,H3,oD,I3,nQ,oy,d3,z3,c3,o3,S3,w3⟩;have vG:=pG c3 I3 d3 o3;rcases turn i n ys gY H3 w3 with⟨stop,q⟩|⟨go,hz,step⟩
  ·refine cz (T.done (f6 X pins scope N' cl C s H fp) rfl rfl rfl rfl i _ s3 _ H3 _ vG (qo oy) nQ stop) λr s4 ⟨hr,I4⟩=>?_;subst hr;have o4:=(I4.pin (D,oD) (by simp)).1;have J4:Inv X pins Z H3 s4:=I.Jj hf I4;have Ag:C2 X pins H3 D:=by
    refine⟨d3,bP (by rw[<- eD];exact I.lt),I.vx (by omega),.inr (by have:=I.sz;omega),λx c q=>?_,λp hp=>?_⟩
    ·obtain⟨v,o,e,_⟩:=I.cell x c q;exact lJ c o e
    ·exact lJ _ _ (I.pin p hp).1
   obtain⟨mC,zo,_⟩:=I4.loc;exact zL D C s4 (upd H3 D (qE X D (ST.j9 [] ys))) mC (J4.QX Ag (by have:=I.sz;omega) (Ja (S3.at λo e=>by rw[o3] at e;cases e;exact o4))) (q D d3) zo (by rw[i3 uB.symm];exact I4.free) (by omega)
  ·refine cz (T.item (f6 X pins scope N' cl C s H fp) rfl rfl rfl rfl i _ s3 _ H3 _ vG (qo oy) nQ go) λr s4 ⟨u,hr,h4⟩=>?_;subst hr;refine cz h4 λ_ s5 ⟨x,H5,I5,r5,y5,lF,uK⟩=>?_;have o5:=I5.pin (D,oD) (by simp);have vF:=I5.pinned (qo uK) (T.obj _ _ lF);refine cz (hg C s H _ s5 _ H5 x u _ vF r5 (step x H5 y5)) λ_ s6 ⟨kx,H6,I6,q6⟩=>?_;refine cz (ht C s H _ s6 kx H6 _ I6 q6) λok s7 ⟨H7,I7,q7⟩=>?_;have back:∀{sQ:St} {H8:Hp} {s8:Shared},Inv (f6 X pins scope N' cl C s H fp) ([(D,oD)]++W9 fp s5.heap) sQ H8 s8->(∀b∈fp,H8 b=none)/\tn (i+1) s8.heap/\H8 D=none/\s8.heap.get? D=some oD :=
    λ{sQ H8 s8} I8=>by
     have pf:∀b∈fp,∀o,s5.heap.get? b=some o->s8.heap.get? b=some o/\H8 b=none:=λb hb o e=>by
      have:=I8.pin (b,o) (bt _ (bt _ (O8 hb e)));exact⟨this.1,this.2.1⟩
     have pd:=I8.pin (D,oD) (by simp);refine⟨λb hb=>?_,T.keep _ _ _ lF λb hb o e=>(pf b hb o e).1,pd.2.1,pd.1⟩;obtain⟨o,e,_⟩:=T.obj _ _ lF b hb;exact(pf b hb o e).2
   cases ok with
   |false =>
    obtain⟨m',hm,w7⟩:=q7;obtain⟨b1,b2,b3,b4⟩:=back I7;exact⟨m',hm,i+1,ys,kx,H7,oD,I7.J7 λp hp=>absurd hp (by simp),b2,b1,b3,z3,c3,b4,S3.at λo e=>by rw[o3] at e;cases e;exact b4,w7⟩
   |true =>
    refine cz (he C s H _ s7 kx H7 _ I7 q7) λxv s8 ⟨y,H8,I8,r8,kk,ey,m',hm,w8⟩=>?_;subst ey;obtain⟨tk,rfl⟩:=r8;obtain⟨b1,b2,b3,b4⟩:=back I8;have S8:ST.u5 X.prog X.w s8.heap D (ST.j9 [] ys):=S3.at λo e=>by rw[o3] at e;cases e;exact b4
    have yQ:=ST.L3 ys [];simp only[List.length_nil] at yQ;refine ST.ZM S8 (ax (by omega:_<62) (by decide)) λh' sb S9=>?_;have e9:ST.C7 (ST.j9 [] ys) kk=ST.j9 [] (ys++[kk]):=by unfold ST.j9;rw[List.foldl_append];rfl
    rw[e9] at S9;obtain⟨o9,es9,ep9,t9,g9,x9,d9,r9⟩:=id S9;have c9:Cp o9:=λv z=>by rw[d9] at z;cases z
    have Dd:Inv (f6 X pins scope N' cl C s H fp) [] kx H8 s8:=I8.J7 λp hp=>absurd hp (by simp);obtain⟨f0,f1,f2,f3,f4,f5⟩:=fD (H':=H8) b3;have kp:∀b o,b≠D->s8.heap.get? b=some o->h'.get? b=some o:=λb' u hb hu=>by rw[sb.2 b' hb];exact hu
    refine⟨m',hm,i+1,ys++[kk],kx,H8,o9,Dd.turned (it:=D) (t':=s8.toks+1) kp f0 f1 f3 f4 f5,T.keep _ _ _ b2 λb hb o e=>kp b o (λz=>uA (by rw[<- z];exact hb)) e,b1,b3,?_,c9,g9,S9,w8⟩;rw[bc,iq];omega
 exact YR (loop _ rfl) (T.self _ 0 _ _ _ sZ (loop _ rfl))
theorem a35{elt tg iter:Expr}{ifs:List Expr}{scope:Scope}{N':List Str}{d5:List Nat}{cl:List (Str×Addr)}{pos:Pos}{wi:TI}{g:TG}{tc:TT}{te:TE}(S:df X scope N' d5 cl)(hc:X.calm=true)(hi:PI X tg iter wi)(hg:∀pins C s H fp,PG (f6 X pins scope N' cl C s H fp) tg g)(ht:∀pins C s H fp,ko (f6 X pins scope N' cl C s H fp) ifs tc)(he:∀pins C s H fp,PE (f6 X pins scope N' cl C s H fp) elt te)(hs:∀x,foldedSetIterable iter X.env x=pure x):PE X (.SetComp elt [⟨tg,iter,ifs,0⟩] scope pos) (QU X wi d5 N'.length g tc te):=by
 intro pins s Z H Q I h;rw[arm_eval_SetComp];refine ig (use:=none) rfl hs S.qu S.kind S.names (cz (hi pins s Z H _ I h) λxv bQ h₁=>cz h₁ λtW fS iB=>?_);obtain⟨it,fp,tn,J,H2,e,I2,T,jR,f2,W,⟨m0,w0⟩,turn⟩:=iB;subst e;refine Zs (RR:=λacc C=>compPost (model X.prog X.w) X.A X.xe none (EP X pins Z Q) acc C) S hc (λC s H=>hg pins C s H fp) (λC s H=>ht pins C s H fp) (λC s H=>he pins C s H fp) I2 T jR f2 w0 turn ?_;intro D C s' H' m I' q hn hC hsz;exact⟨m,hn,λh' sb=>⟨.ref D,H',I'.BS hsz I2 hC sb,rfl,q⟩⟩
end
end L2

namespace HT
open PySem PyProof.Rows Builtin
theorem WR:fillsNumberSlot (.type "tuple") "mul"=pure false :=
 PySem.fillsNumberSlot_seq (id:="tuple.__mul__") (r:=some (.builtin "tuple.__rmul__")) pb.lookup (by decide +kernel) F.slot_tuple_rmul.lookup (by decide +kernel)
theorem Wt:seqRepeat? (.type "tuple")=pure (some (.builtin "tuple.__mul__")):=by
 unfold seqRepeat?;rw[PySem.seqSlot_of (T:="tuple") (name:="__mul__") (id:="tuple.__mul__") pb.lookup (by decide +kernel),PySem.seqSlot_of (T:="tuple") (name:="__rmul__") (id:="tuple.__rmul__") F.slot_tuple_rmul.lookup (by decide +kernel)]
 rfl
theorem WL(a:Int)(t:Tok)(l:Addr)(items:Array Value)(n:Nat)(dd:Option Addr)(sl:Array (Option Value)) :
  Meets (Builtin.«int.__rmul__» ⟨[.int a t,.ref l],[]⟩) (λ_ R s=>s.heap.get? l=some { cls:=.type "tuple",dict:=dd,data:=.seq items n,slots:=sl }/\R (.ok (.ret Value.notImplemented)) s) :=
 .of_wp λprog w A R s h=>by obtain⟨hp,g,d,tk,os⟩:=s;obtain⟨hl,h⟩:=h;wp_walk;exact⟨_,rfl,h⟩
theorem WM(t:Value)(c:Value):Builtin.«tuple.__mul__» ⟨[t,c],[]⟩=(do
 let n <- asIndex c
 if n < -(2 ^ 63)||n>=2 ^ 63 then
  rule "tuple.repeat.overflow";raiseError "OverflowError" s!"cannot fit '{<- typeNameOf c}' into an index-sized integer"
 let xs <- Builtin.Tuple.tupleItemsOf t
 if xs.isEmpty||n==1 then
  if <- Builtin.Tuple.tupleIsExact t then rule "tuple.repeat.same-object";return <- ret t
 if n<=0||xs.isEmpty then return <- ret (<- Builtin.Tuple.tupleExact #[])
 if xs.size*n>(2 ^ 63-1) / 8 then rule "tuple.repeat.no-memory";raiseNew (<- newExc (.type "MemoryError") [])
 if Builtin.Tuple.tupleTooMany (xs.size*n) then unsupported "tuple.__mul__:memory"
 ret (<- Builtin.Tuple.tupleExact ((List.replicate n.toNat xs).foldl (· ++ ·) #[]))):=rfl
section
variable{prog:Program}{w:World}{A:Around}{E:Value->Shared->Prop}{s:Shared}
theorem Yu(aR:List Value):∀(m:Nat) (acc:Array Value),List.foldl (λx1 x2=>x1++x2) acc (List.replicate m aR.toArray)=acc++(List.replicate m aR).flatten.toArray:=by
 intro m
 induction m with
 |zero=>intro acc;simp
 |succ m ih=>intro acc;rw[bT,ly,ih,bT,cS];simp
theorem Yj{a:Addr}{aR:List Value}{n:Int}{t:Tok}{Q:Value->Shared->Prop}(ht:IsTup s.heap a aR.toArray)(dz:aR≠[])(h1:1<=n)(h2:n<2 ^ 62)(hz:aR.length*n.toNat<=sizeLine)(q1:n=1->Q (.ref a) s)(q2:Q (.ref s.heap.objs.size) { s with heap:=s.heap.push { cls:=.type "tuple",data:=.seq (List.replicate n.toNat aR).flatten.toArray } }):wpAny (model prog w) A (binaryOp .Mult (.ref a) (.int n t)) Q E s:=by
 obtain⟨o,ho,hc,k,hd⟩:=id ht;obtain⟨cls,dict,data,slots⟩:=o;dsimp only at hc hd;subst hc hd;have he:aR.toArray.isEmpty=false:=by cases aR<;>first|exact absurd rfl dz|rfl
 refine Di (T:="tuple") (U:="int") (by decide) ht.typeIs (λs'=>lq s' n t) WR F.fills_int_mul ji Wt F.slot_int_index.lookup
  (eU ji (lq s n t) F.entry_int_rmul (F.args_int_rmul_2 _ _) (WL n t a aR.toArray k dict slots) ⟨ho,rfl,ht.typeIs,?_⟩)
 refine cj pb ht.typeIs F.entry_tuple_mul ?_ (F.args_tuple_mul_2 _ _);rw[WM];refine aa (dR (show asIndex (.int n t)=pure n from rfl) ?_);dsimp only;rw[aB (by simp only[Bool.or_eq_true,decide_eq_true_eq];omega)];refine aa (sC ht ?_);have big:¬((aR.toArray.size:Int)*n>(2 ^ 63-1) / 8):=by
  rw[aA];have:((aR.length*n.toNat:Nat):Int)=(aR.length:Int)*n:=by rw[Int.natCast_mul];rw[show((n.toNat:Nat):Int)=n by omega]
  rw[<- this];have hs:sizeLine<2 ^ 59:=by decide
  omega
 have many:¬(Builtin.Tuple.tupleTooMany ((aR.toArray.size:Int)*n)=true):=by
  unfold Builtin.Tuple.tupleTooMany;rw[aA,eB];have:((aR.length*n.toNat:Nat):Int)=(aR.length:Int)*n:=by rw[Int.natCast_mul];rw[show((n.toNat:Nat):Int)=n by omega]
  rw[<- this];omega
 have hsz:sizeOk (.seq (List.replicate n.toNat aR).flatten.toArray):=by
  show(List.replicate n.toNat aR).flatten.toArray.size<=sizeLine;simp only[List.size_toArray,List.length_flatten,List.map_replicate,List.sum_replicate_nat];rw[sH];exact hz
 by_cases e1:n=1
 ·subst e1;rw[aH (by rw[he];rfl)];unfold Builtin.Tuple.tupleIsExact;refine aa (aa (dB ht.typeIs (ao ?_)));rw[aH (by decide)]
  first
   |exact aa (fG (aa (ao ⟨_,rfl,ao (q1 rfl)⟩)))
   |exact aa (fG (ao ⟨_,rfl,(q1 rfl)⟩))
   |exact aa (fG (ao ⟨_,rfl,ao (q1 rfl)⟩))
 ·rw[aB (by rw[he];simpa using e1)];rw[aB (by rw[he];simp;omega),aB big,aB many];rw[show List.foldl (λx1 x2=>x1++x2) #[] (List.replicate n.toNat aR.toArray)=(List.replicate n.toNat aR).flatten.toArray by rw[Yu];simp]
  first
   |exact aa (m:=Builtin.Tuple.tupleExact _) (bX (ao ⟨_,rfl,q2⟩) hsz)
   |exact aa (m:=Builtin.Tuple.tupleExact _) (bX (ao ⟨_,rfl,ao q2⟩) hsz)
end
end HT
namespace L2
open PySem PySem.Spec PyProof.Rows
section
variable{X:Cx}
noncomputable def Wi(K:PySem.W.Frag):R2:=λx y H Q=>∃(a:Addr) (n:Int) (xs:List V),x=.ref a/\y=.int n/\gS K H a xs/\xs≠[]/\1<=n/\n<2 ^ 62/\xs.length*n.toNat<=sizeLine /\
 (n=1->Q (.ref a) H)/\(∀p,H p=none->Q (.ref p) (upd H p (.tup (List.replicate n.toNat xs).flatten)))
theorem RZ:fh X (binaryOp .Mult) (Wi X.K):=by
 intro pins s Z H x y v u Q I rx ry h;obtain⟨a,n,xs,rfl,rfl,ha,dz,h1,h2,hz,q1,q2⟩:=h;cases rx;obtain⟨tk,rfl⟩:=ry;obtain⟨aR,r,p,_⟩:=I.tuple ha;refine HT.Yj p (λz=>dz (r.P9.mp z)) h1 h2 (by rw[<- r.length];exact hz) (λe=>⟨.ref a,H,I,rfl,q1 e⟩) ?_;refine⟨.ref s.heap.objs.size,_,I.laid (t':=s.toks) (o:=.tup (List.replicate n.toNat xs).flatten) (λb ob q=>au _ q) (av _) ?_,rfl,q2 _ (I.bG.fresh (av _))⟩;exact⟨by rw[len_rep,sH];exact hz,_,r.rep _,F0.new _ _⟩
noncomputable def RI(sep:Str)(ys:List Str):Nat:=ys.foldl (λn y=>n+y.length+sep.length) 0
end
end L2

namespace HT
open PySem PyProof.Rows Builtin PySem.SeqAt
section
variable{prog:Program}{w:World}{A:Around}{E:Value->Shared->Prop}{s:Shared}
theorem XG:typeLookup (.type "tuple") (dunderI "add")=pure none:=by
 show typeLookup (.type "tuple") "__iadd__"=pure none;rw[jh,fB];kernel_rfl
theorem ZT{t b:Addr}{vs ws:List Value}{Q:Value->Shared->Prop}(ht:IsTup s.heap t vs.toArray)(hb:IsTup s.heap b ws.toArray)(h0:vs=[]->Q (.ref b) s)(h1:ws=[]->Q (.ref t) s)(h2:Q (.ref s.heap.objs.size) { s with heap:=s.heap.push { cls:=.type "tuple",data:=.seq (vs++ws).toArray } })(hsz:vs.length+ws.length<=sizeLine):wpAny (model prog w) A (inplaceOp .Add (.ref t) (.ref b)) Q E s:=by
 obtain⟨⟨cls,dd,data,sl⟩,ho,hc,n,hd⟩:=id ht;obtain⟨⟨uV,oB,data2,ka⟩,jV,mf,n2,hd2⟩:=id hb;simp only at hc hd mf hd2;subst hc hd mf hd2;have e:vs.toArray++ws.toArray=(vs++ws).toArray:=by simp
 refine wpAny_inplaceOp_concat (T:="tuple") ⟨_,ho,rfl⟩ ⟨_,jV,rfl⟩ XG iL kM ?_;by_cases hv:vs=[]
 ·subst hv;exact eU pe ⟨_,ho,rfl⟩ mQ (lA _ _) (tuple_addW0 t b #[] ws.toArray n n2 dd oB sl ka rfl) ⟨ho,jV,h0 rfl⟩
 by_cases hw:ws=[]
 ·exact eU pe ⟨_,ho,rfl⟩ mQ (lA _ _) (tuple_addW1 t b vs.toArray ws.toArray n n2 dd oB sl ka (by simpa using hv) (by simp[hw])) ⟨ho,jV,h1 hw⟩
 ·refine eU pe ⟨_,ho,rfl⟩ mQ (lA _ _) (tuple_addW2 t b vs.toArray ws.toArray n n2 dd oB sl ka (by simpa using hv) (by simpa using hw) (by rw[aA,aA];exact hsz)) ⟨ho,jV,?_⟩;rw[e];exact h2
end
end HT
namespace L2
open PySem PySem.Spec PyProof.Rows
section
variable{X:Cx}
noncomputable def CI(K:PySem.W.Frag)(H:Hp)(a:Addr)(xs:List V):Prop :=
 H a=some (.tup xs)\/∃(o:Obj) (aR:Array Value) (n:Nat),K.lookup a=some o/\o.cls=.type "tuple"/\o.dict=none/\o.data=.seq aR n/\aR.size<=sizeLine/\Vals xs aR.toList
theorem CI.sq{K:PySem.W.Frag}{H:Hp}{a:Addr}{xs:List V}(h:CI K H a xs):gS K H a xs:=by
 rcases h with h|⟨o,aR,n,h1,h2,_,h3,h4,h5⟩
 ·exact .inl (.inl h)
 ·exact .inr ⟨o,aR,n,h1,h2,h3,h4,h5⟩
noncomputable def Wh(K:PySem.W.Frag):V->V->Hp->VK->Prop:=λx y H Q=>(∃i j,x=.int i/\y=.int j/\Q (.int (i+j)) H) \/
 ∃a b xs ys,x=.ref a/\y=.ref b/\gS K H a xs/\gS K H b ys/\xs.length+ys.length<=sizeLine/\(xs=[]->Q (.ref b) H)/\(ys=[]->Q (.ref a) H)/\(∀p,H p=none->Q (.ref p) (upd H p (.tup (xs++ys))))
theorem RA:Fw X .Add (Wh X.K):=by
 rintro pins s Z H x y u v Q I rx ry h;rcases h with h|⟨a,b,xs,ys,rfl,rfl,ha,hb,hz,q0,q1,q2⟩
 ·exact OB pins s Z H x y u v Q I rx ry h
 ·cases rx;cases ry;obtain⟨aR,r1,p1,_⟩:=I.tuple ha;obtain⟨lM,r2,p2,_⟩:=I.tuple hb;refine HT.ZT p1 p2 (λz=>⟨.ref b,H,I,rfl,q0 (r1.P9.mp z)⟩) (λz=>⟨.ref a,H,I,rfl,q1 (r2.P9.mp z)⟩) ?_ (by rw[<- r1.length,<- r2.length];exact hz);refine⟨.ref s.heap.objs.size,_,I.laid (t':=s.toks) (o:=.tup (xs++ys)) (λb ob q=>au _ q) (av _) ?_,rfl,q2 _ (I.bG.fresh (av _))⟩;exact⟨by rw[bc];exact hz,_,r1.append r2,F0.new _ _⟩
end
end L2

namespace ST
open PySem PyProof.Rows
noncomputable def Spot(k:Int):Prop:=0<=k/\k<8
structure Own(mask:Nat)(owner:Array (Option Nat))(pre:List Int):Prop where
 sz:owner.size=mask+1
 fwd:∀(i:Nat) (k:Int),pre[i]?=some k->owner[k.toNat]?=some (some i)
 bwd:∀(j i:Nat),owner[j]?=some (some i)->pre[i]?=some (j:Int)
end ST

namespace ST
open PySem PyProof.Rows
section
variable{prog:Program}{w:World}{A:Around}{E:Value->Shared->Prop}{s:Shared}{a:Addr}
noncomputable def Tn(prog:Program)(w:World)(h:Heap)(a:Addr)(ks:List Int):Prop :=
 ∃o es ep t,h.get? a=some o/\o.ExactSet/\o.data=.set es ep t/\ElemsOf (intKind prog w) es.toList/\(es.toList.map λe=>toI e.2).Perm ks/\ks.Nodup/\es.size<scanBound/\t.fits es.size=true/\Well (Led w) t/\(ks=[]->7<=t.mask)
theorem u5.toV{h:Heap}{ks:List Int}(x:u5 prog w h a ks)(hn:ks≠[]):Tn prog w h a ks:=by
 obtain⟨o,es,ep,t,h1,h2,h3,h4,h5,h6,h7,h8,h9⟩:=x;exact⟨o,es,ep,t,h1,h2,h3,h4,h5,h6,h7,h8,h9,λz=>absurd z hn⟩
theorem u5.same{h:Heap}{ks us:List Int}(x:u5 prog w h a ks)(hp:ks.Perm us):u5 prog w h a us:=by
 obtain⟨o,es,ep,t,h1,h2,h3,h4,h5,h6,h7⟩:=x;exact⟨o,es,ep,t,h1,h2,h3,h4,h5.trans hp,hp.nodup_iff.mp h6,h7⟩
theorem above:∀n,n<300->7<SetTable.sizeAbove n/\n<SetTable.sizeAbove n/\SetTable.sizeAbove n<=sizeLine:=by decide +kernel
end
end ST
namespace L2
open PySem PySem.Spec PyProof.Rows
variable{X:Cx}
end L2

namespace ST
open PySem PyProof.Rows
section
variable{prog:Program}{w:World}{A:Around}{E:Value->Shared->Prop}{s:Shared}{a:Addr}{ep:Nat}{K:Type}[DecidableEq K]{knd:PySem.KeyKind prog w K}{kvs:List (K×Value)}
end
end ST
namespace L2
open PySem PySem.Spec PyProof.Rows
section
variable{X:Cx}
end
end L2

namespace L2
open PySem PySem.Spec PyProof.Rows
section
variable{X:Cx}
theorem W0{aR:List Value}{ns:List Int}(hi:IntsAre aR ns):∃xs,aR.toArray=intItems xs/\ns=xs.toList.map (·.1):=by
 obtain⟨xs,e⟩:=hi.allInts.items;exact⟨xs,e,by rw[<- hi.numsOf,<- nums_intItems,<- e]⟩
theorem Xl(hc:X.calm=true):m9 X (.builtin "sum") (λxs H Q=>∃a,∃ns:List Int,xs=[.ref a]/\fo X.K H a (ns.map V.int)/\Q (.int ns.sum) H):=by
 intro pins s Z H xs us Q I r h;obtain⟨a,ns,rfl,ha,q⟩:=h;obtain⟨u,rfl,ru⟩:=vals1 r;cases ru;obtain⟨aR,rv,p,hz⟩:=I.list ha;obtain⟨xs,e,en⟩:=W0 (K8 rv);refine sum_intListG (xs:=xs) (I.ok.hd hc) (by rw[<- e];exact p.isList) λh' tk t' k=>⟨.int ns.sum,H,I.kept k,⟨t',?_⟩,q⟩
 rw[preSum_eq,gU (by simp),en]
theorem Xi(hc:X.calm=true):m9 X (.builtin "max") (λxs H Q=>∃a,∃(ns:List Int) (M:Int),xs=[.ref a]/\fo X.K H a (ns.map V.int)/\M∈ns/\(∀x∈ns,x<=M)/\Q (.int M) H):=by
 intro pins s Z H xs us Q I r h;obtain⟨a,ns,M,rfl,ha,hm,hM,q⟩:=h;obtain⟨u,rfl,ru⟩:=vals1 r;cases ru;obtain⟨aR,rv,p,hz⟩:=I.list ha;obtain⟨xs,e,en⟩:=W0 (K8 rv);have hsz:0<xs.size:=by
  have:=eO hm;rw[en,ah,bp] at this;exact this
 refine max_intList (xs:=xs) (I.ok.hd hc) (by rw[<- e];exact p.isList) hsz λv h' tk hv k=>?_;obtain⟨t,rfl⟩:=intItems_at hv;obtain⟨h1,h2⟩:=argBest_gt (numAt xs) (xs.size-1);generalize argBest (λi j=>decide (numAt xs i>numAt xs j)) (xs.size-1)=j0 at *;have m1:numAt xs j0∈ns:=by rw[en,numAt_eq];exact getD_mem (by rw[ah,bp];omega)
 have m2:M<=numAt xs j0:=by
  rw[en] at hm;obtain⟨j,hj,rfl⟩:=mem_getD hm;rw[ah,bp] at hj;rw[<- numAt_eq];exact h2 j (by omega)
 have e2:numAt xs j0=M:=Int.le_antisymm (hM _ m1) m2;exact⟨.int M,H,I.kept k,⟨t,by rw[e2]⟩,q⟩
theorem Xk(hc:X.calm=true):m9 X (.builtin "min") (λxs H Q=>∃a,∃(ns:List Int) (M:Int),xs=[.ref a]/\fo X.K H a (ns.map V.int)/\M∈ns/\(∀x∈ns,M<=x)/\Q (.int M) H):=by
 intro pins s Z H xs us Q I r h;obtain⟨a,ns,M,rfl,ha,hm,hM,q⟩:=h;obtain⟨u,rfl,ru⟩:=vals1 r;cases ru;obtain⟨aR,rv,p,hz⟩:=I.list ha;obtain⟨xs,e,en⟩:=W0 (K8 rv);have hsz:0<xs.size:=by
  have:=eO hm;rw[en,ah,bp] at this;exact this
 refine min_intList (xs:=xs) (I.ok.hd hc) (by rw[<- e];exact p.isList) hsz λv h' tk hv k=>?_;obtain⟨t,rfl⟩:=intItems_at hv;obtain⟨h1,h2⟩:=argBest_lt (numAt xs) (xs.size-1);generalize argBest (λi j=>decide (numAt xs i<numAt xs j)) (xs.size-1)=j0 at *;have m1:numAt xs j0∈ns:=by rw[en,numAt_eq];exact getD_mem (by rw[ah,bp];omega)
 have m2:numAt xs j0<=M:=by
  rw[en] at hm;obtain⟨j,hj,rfl⟩:=mem_getD hm;rw[ah,bp] at hj;rw[<- numAt_eq];exact h2 j (by omega)
 have e2:numAt xs j0=M:=Int.le_antisymm m2 (hM _ m1);exact⟨.int M,H,I.kept k,⟨t,by rw[e2]⟩,q⟩
theorem Xf(hc:X.calm=true):m9 X (.builtin "all") (λxs H Q=>∃(a:Addr) (ns:List Int),xs=[.ref a]/\fo X.K H a (ns.map V.int)/\Q (.bl (ns.all λn=>n != 0)) H):=by
 intro pins s Z H xs us Q I r h;obtain⟨a,ns,rfl,ha,q⟩:=h;obtain⟨u,rfl,ru⟩:=vals1 r;cases ru;obtain⟨aR,rv,p,hz⟩:=I.list ha;refine call_all_walk ?_;refine hV p.isList ?_;have dz:a≠s.heap.objs.size:=by
  obtain⟨o,e,_⟩:=id p.isList;exact aN (ay e)
 have hl:=rv.length;rw[ah] at hl;refine⟨s.heap.objs.size,_,_,_,_,_,λi=>ns.getD i 1 != 0,rfl,Walks.list (A:=X.A.in1) (I.ok.hd hc) _ a dz aR.toArray,⟨⟨_,aC _ rfl,rfl,rfl⟩,?_⟩,?_,λh' tk k=>?_⟩
 ·obtain⟨o,e,q1⟩:=id p.isList;exact⟨o,au _ e,q1⟩
 ·intro i v s' Q' E' hP hQ;have hv:aR[i]?=some v:=by simpa using hP
  have hi:i<ns.length:=by rw[hl];exact(aj.mp hv).1
  obtain⟨u',tZ,yC⟩:=rv.get (i:=i) (x:=V.int ns[i]) (by rw[ak,ag hi];rfl);rw[hv] at tZ;cases tZ;obtain⟨t,rfl⟩:=yC;refine truthy_int ?_;have:ns.getD i 1=ns[i]:=by simp[List.getD,hi]
  dsimp only at hQ;rw[this] at hQ;exact hQ
 ·have e1:(List.range aR.toArray.size).all (λi=>ns.getD i 1 != 0)=ns.all λn=>n != 0:=by
   rw[aA,<- hl];rw[aW];simp only[List.all_eq_true,List.mem_range];constructor
   ·intro hh x hx;obtain⟨i,hi,rfl⟩:=cR.mp hx;have:=hh i hi;simpa[List.getD,hi] using this
   ·intro hh i hi;have:=hh ns[i] (cc hi);simpa[List.getD,hi] using this
  rw[e1];exact ⟨.bl _,H,I.kept (t':=tk) λb o e=>k b o (by
   intro hb;have:b=s.heap.objs.size:=by simpa using hb
   exact absurd (ay e) (by rw [this];exact br _)) (au _ e),rfl,q⟩
theorem Wv:m9 X (.builtin "len") (λxs H Q=>∃a,∃ks:List Int,xs=[.ref a]/\H a=some (qE X a ks)/\Q (.int ks.length) H):=by
 intro pins s Z H xs us Q I r h;obtain⟨a,ks,rfl,ha,q⟩:=h;obtain⟨u,rfl,ru⟩:=vals1 r;cases ru;have hS:ST.u5 X.prog X.w s.heap a ks:=(I.bG a _ ha).1;obtain⟨o,es,ep,t,e,ex,ed,_,hp,nd,hz,hf,_⟩:=hS;have hl:es.size=ks.length:=by have:=hp.length_eq;simpa using this
 refine call_len_set e ex ed hf (by have:scanBound<2 ^ 62:=(by decide);omega) ⟨.int ks.length,H,I.tok _,⟨_,by rw[hl]⟩,q⟩
end
end L2

namespace L2
open PySem PySem.Spec PyProof.Rows
section
variable{X:Cx}
theorem Sl{i:Int}{j:Nat}{p pos:Pos}(lY:PySem.W.kdsCode X.K X.env.code=true):PE X (.Set [.Constant (.int i) j p] 0 pos) (λZ H Q=>∀q,H q=none->Q (.ref q) (upd H q (.set (λk=>decide (k=i)) 1))):=by
 intro pins s Z H Q I h;rw[arm_eval_Set];refine aa (dE ?_);refine aa (PySem.W.kds_main I.gp lY λb=>?_);rw[PySem.W.kds_star _ (by rfl),bE];refine PySem.W.kds_core (ts:=(evalEach [Expr.Constant (.int i) j p] X.env).map λt=>do let v <- t;standAt pos;pure v) (by rfl) (by rfl) (by show 1<=30;decide) (by rw[bE];rfl) λled=>?_;refine PySem.W.kds_all pos _ _ _ ?_;show wpAny _ _ (eval (.Constant (.int i) j p) X.env) _ _ _;refine wpAny_Constant_int ?_;refine PySem.W.kds_fill_cons ?_;have MK:(s.heap.push { cls:=.type "set",dict:=none,data:=.set #[] 0 (.fresh 0 0 led) }).SetOf (intKind X.prog X.w) s.heap.objs.size (λ_=>false) 0:=(setObjOf_fresh led).setOf (aC _ rfl) (by decide);unfold setAdd;refine bY (aa ((intKind X.prog X.w).pyHash (k:=i) (fH _ _ _ _) ?_));refine wpAny_setAddHashed_of (knd:=intKind X.prog X.w) (fH _ _ _ _) rfl MK (by decide) λh' zc mh=>?_;refine PySem.W.kds_fill_nil (by rfl) ?_;have kp:∀b u,s.heap.get? b=some u->h'.get? b=some u:=λb u e=>(zc.2 b (aN (ay e))).trans (au _ e);exact⟨.ref s.heap.objs.size,_,I.laid (a:=s.heap.objs.size) (o:=.set (λk=>decide (k=i)) 1) kp (av _) (by show Heap.SetOf _ _ _ _ _;simpa using mh),rfl,h _ (I.bG.fresh (av _))⟩
theorem XJ:fh X (compareOp .In) (λx y H Q=>∃i a S n,x=.int i/\y=.ref a/\H a=some (.set S n)/\Q (.bl (S i)) H):=by
 intro pins s Z H x y v u Q I rx ry h;obtain⟨i,a,S,n,rfl,rfl,ha,q⟩:=h;obtain⟨t,rfl⟩:=rx;cases ry;exact wpAny_inSet_of (knd:=intKind X.prog X.w) (k:=i) (fH _ _ _ _) rfl (I.bG a _ ha) ⟨.bl (S i),H,I.tok _,rfl,q⟩
theorem ZJ:fh X (compareOp .NotIn) (λx y H Q=>∃i a S n,x=.int i/\y=.ref a/\H a=some (.set S n)/\Q (.bl (!S i)) H):=by
 intro pins s Z H x y v u Q I rx ry h;obtain⟨i,a,S,n,rfl,rfl,ha,q⟩:=h;obtain⟨t,rfl⟩:=rx;cases ry;exact wpAny_notInSet_of (knd:=intKind X.prog X.w) (k:=i) (fH _ _ _ _) rfl (I.bG a _ ha) ⟨.bl (!S i),H,I.tok _,rfl,q⟩
theorem YI:my X "set.add" (λx xs H Q=>∃a i S n,x=.ref a/\xs=[.int i]/\H a=some (.set S n)/\n+1<4096/\Q .bO (upd H a (.set (λk=>S k||decide (k=i)) (if S i then n else n+1)))):=by
 intro pins s Z H x vs v us Q I rx rv h;obtain⟨a,i,S,n,rfl,rfl,ha,hn,q⟩:=h;cases rx;obtain⟨u,rfl,t,rfl⟩:=rv.one;refine call_set_add (knd:=intKind X.prog X.w) (k:=i) (fH _ _ _ _) rfl (I.bG a _ ha) (show n+1<scanBound from hn) λh' zc mh=>?_;obtain⟨o,es,ep,tb,ho,_⟩:=id mh;exact⟨.bO,_,I.write (x:=a) (e:=a) (o:=.set (λk=>S k||decide (k=i)) (if S i then n else n+1)) (by rw[ha];trivial) (.inl rfl) (λb u hb e=>(zc.2 b hb).trans e) ⟨o,ho⟩ mh,rfl,q⟩
noncomputable def CW(K:PySem.W.Frag)(a:Addr)(n:Nat):It :=
 ⟨λi H=>∃xs x,fo K H a xs/\xs.length=n/\i<n/\xs[n-1-i]?=some x,λi H x H'=>H'=H/\∀xs,fo K H a xs->xs[n-1-i]?=some x,λi H=>n<=i⟩
theorem a02{P:Program}{w:World}{K:PySem.W.Frag}{tg:Expr}(a it:Addr)(n:Nat):Turn P w K tg (CW K a n) [it] it (λi h=>i<=n/\h.IsRevIter it a ((n:Int)-1-(i:Nat))) where
 mem:=by simp
 obj:=λi h st b hb=>by
  have e:b=it:=by simpa using hb
  subst e;obtain⟨o,e,c,d⟩:=st.2;exact⟨o,e,λv z=>by rw[d] at z;cases z⟩
 keep:=λi h h' st k=>⟨st.1,st.2.at λo e=>k it (by simp) o e⟩
 item:=by
  intro X hP hw hK hc i pins s Z H E I hf st hg;subst hP hw hK;obtain⟨xs,x,hq,hn,hi,hx⟩:=hg;obtain⟨aR,rv,p,hz⟩:=I.list hq;obtain⟨u,hu,ru⟩:=rv.get hx;obtain⟨f0,f1,f2,f3,f4,f5⟩:=hf it (by simp);have jR:=st.2;rw[show(n:Int)-1-(i:Nat)=((n-1-i:Nat):Int) by omega] at jR;refine wpAny_pyNext_rev_item jR p.isList (x:=u) (by simpa using hu) λh' kB sb=>?_;have I1:Inv X pins Z H { s with heap:=h' }:=I.turned (t':=s.toks) (λb o hb e=>(sb.2 b hb).trans e) f0 f1 f3 f4 f5;obtain⟨o,e,c,d⟩:=id kB;refine⟨u,rfl,wV (s:={ s with heap:=h' }) e c d (by decide) ⟨x,H,I1,ru,⟨rfl,λys hy=>by rw[I.Bk hy hq];exact hx⟩,⟨by omega,?_⟩,λb hb=>(hf b hb).1⟩⟩;rw[show(n:Int)-1-((i+1:Nat):Int)=((n-1-i:Nat):Int)-1 by omega];exact kB
 done:=by
  intro X hP hw hK hc i pins s Z H E I hf st hg;subst hP hw hK;obtain⟨f0,f1,f2,f3,f4,f5⟩:=hf it (by simp);have jR:=st.2;have:n<=i:=hg;rw[show(n:Int)-1-(i:Nat)=-1 by have:=st.1;omega] at jR;exact wpAny_pyNext_rev_end (I.ok.hd hc) jR λh' eb=>⟨rfl,I.turned (t':=s.toks) (λb o hb e=>eb b o hb e) f0 f1 f3 f4 f5⟩
 self:=λ_ _ _ _ _ st h=>wpAny_pyIter_revIter st.2 h
theorem boot_reversed:bootBuiltins "reversed"=some (.type "reversed"):=by decide +kernel
theorem PV{tg l:Expr}{ta:TA}{p pos:Pos}(hg:Gl X "reversed")(hm:X.mg "reversed"=none)(ha:PA X [l] ta)(hs:starEach [l] X.env=[(false,eval l X.env)]) :
  PI X tg (.Call (.Name "reversed" p) [l] [] pos) (λZ H R=>ta Z H λvs H1=>∃a xs,vs=[.ref a]/\fo X.K H1 a xs/\R (CW X.K a xs.length) H1):=by
 intro pins s Z H R I h;refine Call_ (K6 I hg hm boot_reversed (bC (cz (ha pos pins s Z H _ I h) λus s1 ⟨vs,H1,I1,r1,q1⟩=>?_) hs rfl));obtain⟨a,xs,e,hq,q⟩:=q1;subst e;cases r1 with
 |cons r rr =>
  cases rr;cases r;obtain⟨aR,rv,p,hz⟩:=I1.list hq;refine call_reversed_list p.isList ?_;have hl:=rv.length;have hit:(s1.heap.push (revObj a ((aR.toArray.size:Int)-1))).IsRevIter s1.heap.objs.size a ((xs.length:Int)-1-((0:Nat):Int)):=⟨_,aC _ rfl,rfl,by simp[revObj,hl]⟩
  refine wpAny_pyIter_revIter hit ?_;refine⟨s1.heap.objs.size,[s1.heap.objs.size],_,_,H1,rfl,I1.kept (t':=s1.toks) λb o e=>au _ e,a02 a _ xs.length,⟨cE _,hit⟩,λb hb=>?_,q⟩;have e:b=s1.heap.objs.size:=by simpa using hb
  subst e;exact I1.oI (av _) (I1.bG.fresh (av _))
end
end L2

namespace ST
open PySem PyProof.Rows
section
variable{prog:Program}{w:World}{A:Around}{E:Value->Shared->Prop}{s:Shared}{a:Addr}
end
end ST
namespace L2
open PySem PyProof.Rows
noncomputable def Wq(ns:List Int):List Int:=ns.mergeSort (λa b=>decide (a<=b))
section
variable{X:Cx}
end
end L2

namespace M
open PySem L2
inductive D where
 |bO|bl (b:Bool)|int (i:Int)|str (x:Str)|ty (n:String)|ref (i:Nat)|tup (l:List D)
inductive O where
 |lst (l:List D)|nk (l:List D)
 |dF (kvs:List (Key×D))
 |ins (c:Str) (fs:List (Str×D))
 |set (S:Int->Bool) (n:Nat)
noncomputable def O.mut:O->Bool
 |.nk _=>false
 |_=>true
noncomputable def V9:D->Option Key
 |.int i=>some (.inl i)
 |.str x=>some (.inr x)
 |_=>none
noncomputable def s9(kvs:List (Key×D))(k:Key):Option D:=(kvs.find? λkv=>decide (kv.1=k)).map (·.2)
noncomputable def putD(kvs:List (Key×D))(k:Key)(v:D):List (Key×D) :=
 if(kvs.any λkv=>decide (kv.1=k))=true then kvs.map (λkv=>if kv.1=k then(kv.1,v) else kv) else kvs++[(k,v)]
noncomputable def k9(f:Str)(v:D):List (Str×D)->List (Str×D)
 |[]=>[(f,v)]
 |(g,x)::r=>if g=f then(g,v)::r else(g,x)::k9 f v r
noncomputable def N1:List D->Str->Option D
 |.tup [.str y,v]::r,x=>if x=y then some v else N1 r x
 |_::_,_=>none
 |[],_=>none
noncomputable def U9:List D->Option Str
 |[]=>some Str.empty
 |.str x::r=>(U9 r).map λy=>x++y
 |_=>none
structure Xn where
 cls:Str
noncomputable abbrev G:=List O
noncomputable abbrev S:=List (Option D)
noncomputable abbrev KD:=D->G->Prop
noncomputable abbrev KX:=Xn->G->Prop
noncomputable abbrev iG:KX:=λ_ _=>False
noncomputable def Cv:Option O->Option (List D)
 |some (.lst l)=>some l
 |some (.nk l)=>some l
 |_=>none
noncomputable abbrev d7(g:G)(a:Nat):Option (List D):=Cv g[a]?
noncomputable def rd(g:G):Nat->D->Option PyData
 |_,.bO=>some .none
 |_,.bl b=>some (.bool b)
 |_,.int i=>some (.int i)
 |_,.str x=>some (.str x)
 |_,.ty _=>none
 |0,.ref _=>none
 |0,.tup _=>none
 |n+1,.ref a=>match d7 g a with
  |some l=>(l.mapM (rd g n)).map .list
  |none=>none
 |n+1,.tup l=>(l.mapM (rd g n)).map .tuple
noncomputable def KO(g:G)(l:List D):Option (List PyData):=l.mapM (rd g 6)
noncomputable def S4(g:G):D->Option (List D)
 |.tup l=>some l
 |.ref a=>d7 g a
 |_=>none
noncomputable def K7:D->Bool
 |.bO=>true
 |_=>false
noncomputable def cut{α:Type}(xs:List α)(lo hi:Option Int):List α:=(xs.drop (HT.dn xs.length 0 lo)).take (HT.dn xs.length xs.length hi-HT.dn xs.length 0 lo)
noncomputable def CM(g:G)(x:D)(c:String):Option Bool:=match x with
 |.bO=>some (c=="NoneType")
 |.bl _=>some (c=="bool"||c=="int")
 |.int _=>some (c=="int")
 |.str _=>some (c=="str")
 |.tup _=>some (c=="tuple")
 |.ref a=>match g[a]? with
  |some (.lst _)=>some (c=="list")
  |_=>none
 |.ty _=>none
noncomputable def k8(lo:Int)(n:Nat):List D:=(List.range n).map λ(k:Nat)=>.int (lo+k)
noncomputable def V1:List D->Option Bool
 |[]=>some true
 |.bl b::r=>(V1 r).map λc=>b&&c
 |_=>none
inductive Pr where
 |bin (op:Operator)|un (op:UnaryOp)|cmp (op:CmpOp)
 |ix|lG (lo hi:Bool)|rev|tup|lst|nC
 |len|list|tuple|isin|all|max|min|int|str|iT|jy|sset|KC|uP
 |EO|uI|mn|fv|kJ|fld (f:Str)
 |append|pop|get|index|join|iadd|clear|yI|extend|any|tm|sum|rW|lN|ju|jt (i:Int)
noncomputable abbrev DR:=List D->G->D->G->Prop
noncomputable def WG:Operator->Int->Int->Int->Prop
 |.Add,i,j,r=>r=i+j
 |.Sub,i,j,r=>r=i-j
 |.Mult,i,j,r=>qx i j/\r=i*j
 |.FloorDiv,i,j,r=>CC i j/\r=i / j
 |.Mod,i,j,r=>0<j/\r=i % j
 |.Pow,i,j,r=>ny i j/\r=i ^ j.toNat
 |.LShift,i,j,r=>ny i j/\r=i*2 ^ j.toNat
 |.BitAnd,i,j,r=>r=Builtin.bitAnd i j
 |.BitOr,i,j,r=>r=Builtin.bitOr i j
 |_,_,_,_=>False
noncomputable def Tu(op:Operator):DR:=λxs g d g' =>
 (∃i j r,xs=[.int i,.int j]/\WG op i j r/\d=.int r/\g'=g) \/
 (op=.Add/\((∃ l m,xs=[.tup l,.tup m]/\l.length + m.length <= 100000/\d=.tup (l ++ m)/\g'=g) \/
  (∃a b l m,xs=[.ref a,.ref b]/\g[a]?=some (.lst l)/\g[b]?=some (.lst m)/\l.length+m.length<=100000/\d=.ref g.length/\g'=g++[.lst (l++m)]) \/
  (∃ x y,xs=[.str x,.str y]/\x.length + y.length <= 100000/\d=.str (x ++ y)/\g'=g))) \/
 (op=.Mult/\((∃ a l n,xs=[.ref a,.int n]/\g[a]?=some (.lst l)/\-(2 ^ 62) <= n/\n < 2 ^ 62/\l.length * n.toNat <= 100000/\d=.ref g.length/\g'=g ++ [.lst (List.replicate n.toNat l).flatten]) \/
  (∃ l n,xs=[.tup l,.int n]/\l ≠ []/\1 <= n/\n < 2 ^ 62/\l.length * n.toNat <= 100000/\d=.tup (List.replicate n.toNat l).flatten/\g'=g)))
noncomputable def Kt(op:UnaryOp):DR:=λxs g d g'=>op=.USub/\∃i,xs=[.int i]/\d=.int (-i)/\g'=g
noncomputable def uM(g:G)(x y:D)(b:Bool):Prop :=
 (∃i j,x=.int i/\y=.int j/\b=decide (i=j))\/(∃i j,x=.bl i/\y=.bl j/\b=(i==j))\/(∃i j,x=.str i/\y=.str j/\b=decide (i=j)) \/
 ∃p q,rd g 6 x=some p/\rd g 6 y=some q/\p.canLay0=true/\q.canLay0=true/\b=PyData.eqv p q
noncomputable def inR(g:G)(x y:D)(b:Bool):Prop :=
 (∃a kvs c,y=.ref a/\g[a]?=some (.dF kvs)/\V9 x=some c/\b=(s9 kvs c).isSome) \/
 ∃l ps p,S4 g y=some l/\KO g l=some ps/\rd g 6 x=some p/\PyData.canLayAll0 ps=true/\p.canLay0=true/\b=(ps.any λq=>PyData.eqv q p)
noncomputable def FL(g:G)(x y:D)(b:Bool):Prop:=∃a S n i,y=.ref a/\g[a]?=some (.set S n)/\x=.int i/\b=S i
noncomputable def FA(g:G)(x y:D)(b:Bool):CmpOp->Prop
 |.Eq=>uM g x y b
 |.NotEq=>uM g x y (!b)
 |.In=>inR g x y b\/FL g x y b
 |.NotIn=>inR g x y (!b)\/FL g x y (!b)
 |.Lt=>∃i j,x=.int i/\y=.int j/\b=decide (i<j)
 |.LtE=>∃i j,x=.int i/\y=.int j/\b=decide (i<=j)
 |.Gt=>∃i j,x=.int i/\y=.int j/\b=decide (j<i)
 |.GtE=>∃i j,x=.int i/\y=.int j/\b=decide (j<=i)
 |.Is=>y=.bO/\b=K7 x
 |.IsNot=>y=.bO/\b=!K7 x
noncomputable def TH(op:CmpOp):DR:=λxs g d g'=>∃x y b,xs=[x,y]/\FA g x y b op/\d=.bl b/\g'=g
noncomputable def FQ(g:G)(x:D)(b:Bool):Prop :=
 (x=.bO/\b=false)\/x=.bl b\/(∃i,x=.int i/\b=(i != 0))\/(∃l,x=.tup l/\b=!l.isEmpty)\/∃a l,x=.ref a/\d7 g a=some l/\b=!l.isEmpty
noncomputable def Lq:DR:=λxs g d g'=>g'=g/\((∃x l i,xs=[x,.int i]/\S4 g x=some l/\gz l i=some d)\/(∃a kvs y c,xs=[.ref a,y]/\g[a]?=some (.dF kvs)/\V9 y=some c/\s9 kvs c=some d) \/
 ∃ x i c,xs=[.str x,.int i]/\x.length <= 100000/\gz x.cps.toList i=some c/\d=.str ⟨#[c]⟩)
noncomputable def tB(x:D)(lo hi:Option Int)(g:G)(d:D)(g':G):Prop:=(∃l,x=.tup l/\d=.tup (cut l lo hi)/\g'=g)\/∃a l,x=.ref a/\d7 g a=some l/\d=.ref g.length/\g'=g++[.lst (cut l lo hi)]
noncomputable def UC:Bool->Bool->DR
 |false,false,xs,g,d,g'=>∃x,xs=[x]/\tB x none none g d g'
 |true,false,xs,g,d,g'=>∃x i,xs=[x,.int i]/\tB x (some i) none g d g'
 |false,true,xs,g,d,g'=>∃x j,xs=[x,.int j]/\tB x none (some j) g d g'
 |true,true,xs,g,d,g'=>∃x i j,xs=[x,.int i,.int j]/\tB x (some i) (some j) g d g'
noncomputable def Uy:DR:=λxs g d g'=>(∃l,xs=[.tup l]/\d=.tup l.reverse/\g'=g)\/∃a l,xs=[.ref a]/\d7 g a=some l/\d=.ref g.length/\g'=g++[.lst l.reverse]
noncomputable def UZ:DR:=λxs g d g'=>xs.length<=1000/\d=.tup xs/\g'=g
noncomputable def Uc:DR:=λxs g d g'=>xs.length<=1000/\d=.ref g.length/\g'=g++[.lst xs]
noncomputable def vq:List D->List (Key×D)->Option (List (Key×D))
 |[],kvs=>some kvs
 |k::v::r,kvs=>(V9 k).bind λc=>vq r (putD kvs c v)
 |_,_=>none
noncomputable def Vn:DR:=λxs g d g'=>xs=[]/\d=.ref g.length/\g'=g++[.dF []]
noncomputable def Ub:DR:=λxs g d g'=>g'=g/\((∃x l,xs=[x]/\S4 g x=some l/\d=.int l.length)\/(∃a kvs,xs=[.ref a]/\g[a]?=some (.dF kvs)/\d=.int kvs.length)\/∃x,xs=[.str x]/\x.length<=100000/\d=.int x.length)
noncomputable def VG:DR:=λxs g d g'=>∃x l,xs=[x]/\S4 g x=some l/\d=.ref g.length/\g'=g++[.lst l]
noncomputable def Ra:DR:=λxs g d g'=>∃x l,xs=[x]/\S4 g x=some l/\d=.tup l/\g'=g
noncomputable def Vx:DR:=λxs g d g'=>∃x c b,xs=[x,.ty c]/\c∈["int","bool","str","tuple","list"]/\CM g x c=some b/\d=.bl b/\g'=g
noncomputable def allR:DR:=λxs g d g'=>∃a l b,xs=[.ref a]/\d7 g a=some l/\(V1 l=some b\/∃ns:List Int,l=ns.map .int/\b=ns.all λn=>n != 0)/\d=.bl b/\g'=g
noncomputable def FV:List D->Option Bool
 |[]=>some false
 |.bl b::r=>(FV r).map λc=>b||c
 |_=>none
noncomputable def anyR:DR:=λxs g d g'=>∃a l b,xs=[.ref a]/\d7 g a=some l/\FV l=some b/\d=.bl b/\g'=g
noncomputable def QC:DR:=λxs g d g'=>False\/∃ns:List Int,xs=[.tup (ns.map .int)]/\ns.length<60/\d=.ref g.length/\g'=g++[.lst ((Wq ns).map .int)]
noncomputable def Ud:DR:=λxs g d g'=>g'=g/\((∃i j,xs=[.int i,.int j]/\d=.int (if j>i then j else i))\/∃a,∃(ns:List Int) (M:Int),xs=[.ref a]/\d7 g a=some (ns.map .int)/\M∈ns/\(∀x∈ns,x<=M)/\d=.int M)
noncomputable def Ue:DR:=λxs g d g'=>g'=g/\((∃i j,xs=[.int i,.int j]/\d=.int (if j<i then j else i))\/∃a,∃(ns:List Int) (M:Int),xs=[.ref a]/\d7 g a=some (ns.map .int)/\M∈ns/\(∀x∈ns,M<=x)/\d=.int M)
noncomputable def Wm:DR:=λxs g d g'=>∃a i S n,xs=[.ref a,.int i]/\g[a]?=some (.set S n)/\n+1<4096/\d=.bO/\g'=g.set a (.set (λk=>S k||decide (k=i)) (if S i then n else n+1))
noncomputable def Ql(i:Int):DR:=λxs g d g'=>xs=[]/\d=.ref g.length/\g'=g++[.set (λk=>decide (k=i)) 1]
noncomputable def UE:DR:=λxs g d g'=>∃a,∃ns:List Int,xs=[.ref a]/\d7 g a=some (ns.map .int)/\d=.int ns.sum/\g'=g
noncomputable def VH:DR:=λxs g d g'=>∃a,∃ns:List Int,xs=[.ref a]/\d7 g a=some (ns.map .int)/\ns.length<60/\d=.int (ST.j9 [] ns).length/\g'=g
noncomputable def Vy:DR:=λxs g d g'=>∃i j,xs=[.int i,.int j]/\d=.int (i-j)/\g'=g
noncomputable def TZ:DR:=λxs g d g'=>g'=g/\((∃i,xs=[.int i]/\d=.int i)\/∃b,xs=[.bl b]/\d=.int (if b then 1 else 0))
noncomputable def UD:DR:=λxs g d g'=>(∃i,xs=[.int i]/\i.natAbs.log2<1920/\d=.str (toString i)/\g'=g)\/∃x,xs=[.str x]/\d=.str x/\g'=g
noncomputable def OS:DR:=λxs g d g'=>∃j,xs=[.int j]/\-(2 ^ 62)<=j/\j<=100000/\d=.ref g.length/\g'=g++[.lst (k8 0 j.toNat)]
noncomputable def OT:DR:=λxs g d g'=>∃i j,xs=[.int i,.int j]/\(-(2 ^ 62)<=i/\i<2 ^ 62/\-(2 ^ 62)<=j/\j<2 ^ 62/\j-i<=100000)/\d=.ref g.length/\g'=g++[.lst (k8 i (j-i).toNat)]
noncomputable def Wr:DR:=λxs g d g'=>∃a ns,xs=[.ref a]/\d7 g a=some (ns.map .int)/\ns.length<60/\d=.ref g.length/\g'=g++[.lst ((n9 ns).map .int)]
noncomputable def UG:DR:=λxs g d g'=>∃ns ms:List Int,xs=[.tup (ns.map .int),.tup (ms.map .int)]/\(∀k∈ns,ST.Spot k)/\(∀k∈ms,ST.Spot k)/\ns.length+ms.length<50/\d=.ref g.length/\g'=g++[.lst ((n9 (ns++ms)).map .int)]
noncomputable def CL(neg:Bool):DR:=λxs g d g'=>∃kvs x,xs=[.tup kvs,.str x]/\d=.bl (xor neg (N1 kvs x).isSome)/\g'=g
noncomputable def Vr:DR:=λxs g d g'=>∃kvs x,xs=[.tup kvs,.str x]/\N1 kvs x=some d/\g'=g
noncomputable def Nt:DR:=λxs g d g'=>g'=g/\((∃i,xs=[.int i]/\i.natAbs.log2<1920/\d=.str (toString i))\/∃x,xs=[.str x]/\x.length<=2000/\d=.str x)
noncomputable def Vq:DR:=λxs g d g'=>∃x,U9 xs=some x/\d=.str x/\g'=g
noncomputable def TQ(f:Str):DR:=λxs g d g'=>∃a c fs,xs=[.ref a]/\g[a]?=some (.ins c fs)/\fs.lookup f=some d/\g'=g
noncomputable def appendR:DR:=λxs g d g'=>∃a y l,xs=[.ref a,y]/\g[a]?=some (.lst l)/\l.length<100000/\d=.bO/\g'=g.set a (.lst (l++[y]))
noncomputable def Uo:DR:=λxs g d g'=>∃a i l k,xs=[.ref a,.int i]/\g[a]?=some (.lst l)/\-(2 ^ 63)<=i/\i<2 ^ 63/\seqIndex? i l.length=some k/\l[k]?=some d/\g'=g.set a (.lst (l.eraseIdx k))
noncomputable def TV:DR:=λxs g d g'=>∃a y z kvs c,xs=[.ref a,y,z]/\g[a]?=some (.dF kvs)/\V9 y=some c/\d=(s9 kvs c).getD z/\g'=g
noncomputable def Ju:D->Bool
 |.bO=>true
 |.bl _=>true
 |.int _=>true
 |.str _=>true
 |_=>false
noncomputable def toV:D->V
 |.bl b=>.bl b
 |.int i=>.int i
 |.str x=>.str x
 |_=>.bO
noncomputable def Om(l:List D)(y:D)(n:Nat):Prop:=l.all Ju=true/\Ju y=true/\(∃z,l[n]?=some z/\EY (toV z) (toV y)=true)/\∀(m:Nat) z,m<n->l[m]?=some z->EY (toV z) (toV y)=false
noncomputable def OC:DR:=λxs g d g'=>∃x y l n,xs=[x,y]/\S4 g x=some l/\Om l y n/\l.length<=100000/\d=.int n/\g'=g
noncomputable def joinR:DR:=λxs g d g'=>∃sep a ys,xs=[.str sep,.ref a]/\d7 g a=some (ys.map .str)/\RI sep ys<=100000/\d=.str (Builtin.Str.glued sep ys)/\g'=g
noncomputable def Vu:DR:=λxs g d g'=>(∃i j,xs=[.int i,.int j]/\d=.int (i+j)/\g'=g)\/∃l m,xs=[.tup l,.tup m]/\l.length+m.length<=100000/\d=.tup (l++m)/\g'=g
noncomputable def Ov:DR:=λxs g d g'=>∃a l,xs=[.ref a]/\g[a]?=some (.lst l)/\d=.bO/\g'=g.set a (.lst [])
noncomputable def Wc:DR:=λxs g d g'=>∃a l,xs=[.ref a]/\g[a]?=some (.lst (l++[d]))/\g'=g.set a (.lst l)
noncomputable def Rv:DR:=λxs g d g'=>∃a b l m,xs=[.ref a,.ref b]/\g[a]?=some (.lst l)/\g[b]?=some (.lst m)/\l.length+m.length<=100000/\d=.bO/\g'=g.set a (.lst (l++m))
noncomputable def Ox:DR:=λxs g d g'=>∃a kvs,xs=[.ref a]/\g[a]?=some (.dF kvs)/\d=.ref g.length/\g'=g++[.dF kvs]
noncomputable def PR:Pr->DR
 |.clear=>Ov
 |.any=>anyR
 |.sum=>UE
 |.ju=>Wm
 |.jt i=>Ql i
 |.rW=>VH
 |.lN=>Vy
 |.tm=>QC
 |.extend=>Rv
 |.yI=>Wc
 |.uP=>Ox
 |.bin op=>Tu op
 |.un op=>Kt op
 |.cmp op=>TH op
 |.ix=>Lq
 |.lG a b=>UC a b
 |.rev=>Uy
 |.tup=>UZ
 |.lst=>Uc
 |.nC=>Vn
 |.len=>Ub
 |.list=>VG
 |.tuple=>Ra
 |.isin=>Vx
 |.all=>allR
 |.max=>Ud
 |.min=>Ue
 |.int=>TZ
 |.str=>UD
 |.iT=>OS
 |.jy=>OT
 |.sset=>Wr
 |.KC=>UG
 |.EO=>CL false
 |.uI=>CL true
 |.mn=>Vr
 |.fv=>Nt
 |.kJ=>Vq
 |.fld f=>TQ f
 |.append=>appendR
 |.pop=>Uo
 |.get=>TV
 |.index=>OC
 |.join=>joinR
 |.iadd=>Vu
noncomputable def cL(p:Pr)(xs:List D)(g:G)(Q:KD):Prop:=∃d g',PR p xs g d g'/\Q d g'
noncomputable def uN(g:G)(x y:D)(k:Bool->Prop):Prop:=∃b,uM g x y b/\k b
noncomputable def pL(g:G)(x y:D)(k:Bool->Prop):Prop:=∃b,inR g x y b/\k b
noncomputable def oN(g:G)(x:D)(k:Bool->Prop):Prop:=∃b,FQ g x b/\k b
noncomputable def UB(x y v:D)(g g':G):Prop:=(∃a i l j,x=.ref a/\y=.int i/\g[a]?=some (.lst l)/\ke l.length i=some j/\g'=g.set a (.lst (l.set j v))) \/
 ∃a kvs c,x=.ref a/\g[a]?=some (.dF kvs)/\V9 y=some c/\kvs.length<100000/\g'=g.set a (.dF (putD kvs c v))
noncomputable def V2(x y v:D)(g:G)(k:G->Prop):Prop:=∃g',UB x y v g g'/\k g'
noncomputable def JG(f:Str)(cs:List Str)(x v:D)(g g':G):Prop:=∃a c fs,x=.ref a/\g[a]?=some (.ins c fs)/\c∈cs/\fs.length<100/\g'=g.set a (.ins c (k9 f v fs))
noncomputable def vh(f:Str)(cs:List Str)(x v:D)(g:G)(k:G->Prop):Prop:=∃g',JG f cs x v g g'/\k g'
noncomputable def kW:Pr->D->G->Prop
 |.get,x,g=>∃a kvs,x=.ref a/\g[a]?=some (.dF kvs)
 |.join,x,g=>∃y,x=.str y
 |.ju,x,g=>∃a S n,x=.ref a/\g[a]?=some (.set S n)
 |.index,x,g=>(∃l,x=.tup l)\/∃a l,x=.ref a/\d7 g a=some l
 |_,x,g=>∃a l,x=.ref a/\d7 g a=some l
inductive IK where
 |fix (l:List D)|lst (a:Nat)|nt (a:Nat)|qY (a n:Nat)
noncomputable def IK.at:IK->Nat->G->Option (Option D)
 |.fix l,i,_=>some l[i]?
 |.lst a,i,g=>match d7 g a with
  |some l=>some l[i]?
  |none=>none
 |.nt a,i,g=>match d7 g a with
  |some l=>some (l[i]?.map λd=>.tup [.int i,d])
  |none=>none
 |.qY a n,i,g=>match d7 g a with
  |some l=>if l.length=n then some (if i<n then l[n-1-i]? else none) else none
  |none=>none
inductive MT where
 |one (i:Nat)|many (is:List Nat)
noncomputable def E0:List Nat->List D->S->Option S
 |[],[],Z=>some Z
 |i::is,d::ds,Z=>E0 is ds (Z.set i (some d))
 |_,_,_=>none
noncomputable def iS(t:MT)(x:D)(Z:S)(k:S->Prop):Prop:=match t with
 |.one i=>k (Z.set i (some x))
 |.many is=>∃l bN,x=.tup l/\E0 is l Z=some bN/\k bN
set_option genInjectivity false in
set_option genSizeOf false in
inductive ME where
 |var (i:Nat)|lit (d:D)
 |nil|cons (a b:ME)|prim (p:Pr) (es:ME)|eF (p:Pr) (o es:ME)|oE (es:ME)
 |chain (o1 o2:CmpOp) (a b c:ME)
 |dQ (a b:ME)|jG (a b:ME)|dH (a:ME)|ite (c a b:ME)
 |call (f:Nat) (es:ME)|make (c:Str) (f:Nat) (es:ME)|jx (m:Str) (cs:List (Str×Nat)) (o es:ME)
 |comp (d5:List Nat) (n:Nat) (tg:MT) (it cond elt:ME)|gi (d5:List Nat) (n:Nat) (tg:MT) (it cond elt:ME)|jv (d5:List Nat) (n:Nat) (tg:MT) (it cond elt:ME)
 |fj (e:ME)|eY (a:ME)|jU (a b:ME)|jH (e:ME)|mV (e:ME)|fy (e:ME)|no
noncomputable abbrev eR:=Nat->List D->G->KD->KX->Prop
noncomputable def C6(Z:S)(d5:List Nat)(n:Nat):S:=d5.map (λj=>(Z[j]?).join)++List.replicate (n-d5.length) none
noncomputable def turns(k:IK)(Z:S)(g:G)(fin:S->G->Prop)(turn:D->(S->G->Prop)->S->G->Prop):Prop :=
 ∃W:Nat->Nat->S->G->Prop,(∃m,W 0 m Z g)/\∀i m Z g,W i m Z g->(k.at i g=some none/\fin Z g)\/∃x,k.at i g=some (some x)/\∃N2:S->G->Prop,(∀bN g',N2 bN g'->∃m',m'<m/\W (i+1) m' bN g')/\turn x N2 Z g
noncomputable def xq(k:IK)(Z:S)(g:G)(fin:List D->G->Prop)(turn:D->(Option D->S->G->Prop)->S->G->Prop):Prop :=
 ∃W:Nat->Nat->List D->S->G->Prop,(∃m,W 0 m [] Z g)/\∀i m ys Z g,W i m ys Z g->(k.at i g=some none/\fin ys g) \/
  ∃x,k.at i g=some (some x)/\ys.length<100000/\turn x (λy bN g'=>∃m',m'<m/\W (i+1) m' (ys++y.toList) bN g') Z g
noncomputable def AD(k:IK)(Z:S)(g:G)(fin:List Int->G->Prop)(turn:D->(Option Int->S->G->Prop)->S->G->Prop):Prop :=
 ∃W:Nat->Nat->List Int->S->G->Prop,(∃m,W 0 m [] Z g)/\∀i m ys Z g,W i m ys Z g->(k.at i g=some none/\ys.length<60/\fin ys g) \/
  ∃x,k.at i g=some (some x)/\ys.length<60/\turn x (λy bN g'=>∃m',m'<m/\W (i+1) m' (ys++y.toList) bN g') Z g
mutual
noncomputable def aK(P:eR):ME->S->G->KD->KX->Prop
 |.var i,Z,g,Q,_=>∃d,Z[i]?=some (some d)/\Q d g
 |.lit d,_,g,Q,_=>Q d g
 |.prim p es,Z,g,Q,E=>cW P es Z g (λxs g1=>cL p xs g1 Q) E
 |.eF p o es,Z,g,Q,E=>aK P o Z g (λx g1=>kW p x g1/\cW P es Z g1 (λxs g2=>cL p (x::xs) g2 Q) E) E
 |.oE es,Z,g,Q,E=>cW P es Z (g++[.dF []]) (λxs g1=>∃kvs,vq xs []=some kvs/\xs.length<=30/\g1[g.length]?=some (.dF [])/\Q (.ref g.length) (g1.set g.length (.dF kvs))) E
 |.chain o1 o2 a b c,Z,g,Q,E=>aK P a Z g (λx g1=>aK P b Z g1 (λy g2=>cL (.cmp o1) [x,y] g2 λz g3=>∃t,z=.bl t/\if t=true then aK P c Z g3 (λw g4=>cL (.cmp o2) [y,w] g4 Q) E else Q (.bl false) g3) E) E
 |.dQ a b,Z,g,Q,E=>aK P a Z g (λx g1=>∃t,x=.bl t/\if t=true then aK P b Z g1 Q E else Q (.bl false) g1) E
 |.jG a b,Z,g,Q,E=>aK P a Z g (λx g1=>∃t,x=.bl t/\if t=true then Q (.bl true) g1 else aK P b Z g1 Q E) E
 |.dH a,Z,g,Q,E=>aK P a Z g (λx g1=>∃t,x=.bl t/\Q (.bl (!t)) g1) E
 |.ite c a b,Z,g,Q,E=>cC P c Z g (λt g1=>if t=true then aK P a Z g1 Q E else aK P b Z g1 Q E) E
 |.call f es,Z,g,Q,E=>cW P es Z g (λxs g1=>P f xs g1 Q E) E
 |.make c f es,Z,g,Q,E=>cW P es Z g (λxs g1=>P f (.ref g1.length::xs) (g1++[.ins c []]) (λd g2=>d=.bO/\Q (.ref g1.length) g2) E) E
 |.jx m cs o es,Z,g,Q,E=>aK P o Z g (λx g1=>∃a c fs f,x=.ref a/\g1[a]?=some (.ins c fs)/\fs.lookup m=none/\cs.lookup c=some f/\cW P es Z g1 (λxs g2=>P f (x::xs) g2 Q E) E) E
 |.comp d5 n tg it cond elt,Z,g,Q,E=>eG P it Z g (λk g1=>xq k (C6 Z d5 n) g1 (λys g=>Q (.ref g.length) (g++[.lst ys])) λx N Z g=>iS tg x Z λcg=>cC P cond cg g (λb g3=>if b=true then aK P elt cg g3 (λy g4=>N (some y) cg g4) iG else N none cg g3) iG) E
 |.jv d5 n tg it cond elt,Z,g,Q,E=>eG P it Z g (λk g1=>xq k (C6 Z d5 n) g1 (λys g=>Q (.ref g.length) (g++[.lst ys])) λx N Z g=>iS tg x Z λcg=>cC P cond cg g (λb g3=>if b=true then aK P elt cg g3 (λy g4=>N (some y) cg g4) E else N none cg g3) iG) E
 |.gi d5 n tg it cond elt,Z,g,Q,E=>eG P it Z g (λk g1=>AD k (C6 Z d5 n) g1 (λys g=>Q (.ref g.length) (g++[.lst ((n9 ys).map .int)])) λx N Z g=>iS tg x Z λcg=>cC P cond cg g (λb g3=>if b=true then aK P elt cg g3 (λy g4=>∃j,y=.int j/\N (some j) cg g4) iG else N none cg g3) iG) E
 |_,_,_,_,_=>False
noncomputable def cW(P:eR):ME->S->G->(List D->G->Prop)->KX->Prop
 |.nil,_,g,Q,_=>Q [] g
 |.cons a b,Z,g,Q,E=>aK P a Z g (λx g1=>cW P b Z g1 (λxs g2=>Q (x::xs) g2) E) E
 |_,_,_,_,_=>False
noncomputable def cC(P:eR):ME->S->G->(Bool->G->Prop)->KX->Prop
 |.dQ a b,Z,g,Q,E=>cC P a Z g (λt g1=>if t=true then cC P b Z g1 Q E else Q false g1) E
 |.jG a b,Z,g,Q,E=>cC P a Z g (λt g1=>if t=true then Q true g1 else cC P b Z g1 Q E) E
 |.dH a,Z,g,Q,E=>cC P a Z g (λt g1=>Q (!t) g1) E
 |.no,_,g,Q,_=>Q true g
 |.fy e,Z,g,Q,E=>aK P e Z g (λx g1=>oN g1 x λb=>Q b g1) E
 |_,_,_,_,_=>False
noncomputable def eG(P:eR):ME->S->G->(IK->G->Prop)->KX->Prop
 |.fj e,Z,g,R,E=>aK P e Z g (λx g1=>(∃l,x=.tup l/\R (.fix l) g1)\/∃a l,x=.ref a/\d7 g1 a=some l/\R (.lst a) g1) E
 |.eY a,Z,g,R,E=>aK P a Z g (λx g1=>∃j:Int,x=.int j/\-(2 ^ 62)<=j/\j<2 ^ 62/\R (.fix (k8 0 j.toNat)) g1) E
 |.jU a b,Z,g,R,E=>aK P a Z g (λx g1=>aK P b Z g1 (λy g2=>∃i j:Int,x=.int i/\y=.int j/\(-(2 ^ 62)<=i/\i<2 ^ 62/\-(2 ^ 62)<=j/\j<2 ^ 62)/\R (.fix (k8 i (j-i).toNat)) g2) E) E
 |.jH e,Z,g,R,E=>aK P e Z g (λx g1=>∃a l,x=.ref a/\d7 g1 a=some l/\R (.nt a) g1) E
 |.mV e,Z,g,R,E=>aK P e Z g (λx g1=>∃a l,x=.ref a/\d7 g1 a=some l/\R (.qY a l.length) g1) E
 |_,_,_,_,_=>False
end
set_option genInjectivity false in
set_option genSizeOf false in
inductive MS where
 |pass|seq (a b:MS)|expr (e:ME)|set (i:Nat) (e:ME)|kR (t:MT) (e:ME)|dP (o i v:ME)|gN (f:Str) (cs:List Str) (o v:ME)
 |va (f:Str) (cs:List Str) (o v:ME)|jg (i:Nat) (p:Pr) (v:ME)|vT (o1 i1 o2 i2 e:ME)
 |ifs (c:ME) (a b:MS)|dI (t:MT) (it:ME) (b:MS)|jr (c:ME) (b:MS)|ret (e:ME)|pD|brk|cont
 |raise (x:Str) (es:ME)|CU (b:MS) (hs:List (Str×ME))
structure Ends where
 nx:S->G->Prop
 rt:KD
 bk:S->G->Prop:=λ_ _=>False
 ct:S->G->Prop:=λ_ _=>False
noncomputable def sW(P:eR)(N:Ends)(Z:S)(E:KX):List (Str×ME)->KX
 |[],x,g=>E x g
 |(y,e)::r,x,g=>if x.cls=y\/y="MintError" then aK P e Z g N.rt iG else sW P N Z E r x g
noncomputable def wpS(P:eR):MS->Ends->S->G->KX->Prop
 |.pass,N,Z,g,_=>N.nx Z g
 |.seq a b,N,Z,g,E=>wpS P a { N with nx:=λhX g1=>wpS P b N hX g1 E } Z g E
 |.expr e,N,Z,g,E=>aK P e Z g (λ_ g1=>N.nx Z g1) E
 |.set i e,N,Z,g,E=>aK P e Z g (λx g1=>N.nx (Z.set i (some x)) g1) E
 |.kR t e,N,Z,g,E=>aK P e Z g (λx g1=>iS t x Z λhX=>N.nx hX g1) E
 |.dP o i v,N,Z,g,E=>aK P v Z g (λx g1=>aK P o Z g1 (λy g2=>aK P i Z g2 (λz g3=>V2 y z x g3 λg4=>N.nx Z g4) E) E) E
 |.gN f cs o v,N,Z,g,E=>aK P v Z g (λx g1=>aK P o Z g1 (λy g2=>vh f cs y x g2 λg3=>N.nx Z g3) E) E
 |.va f cs o v,N,Z,g,E=>aK P o Z g (λy g1=>∃a c fs x,y=.ref a/\g1[a]?=some (.ins c fs)/\c∈cs/\fs.lookup f=some x/\aK P v Z g1 (λz g3=>cL .iadd [x,z] g3 λw g4=>∃qm,g4[a]?=some (.ins c qm)/\qm.length<100/\N.nx Z (g4.set a (.ins c (k9 f w qm)))) E) E
 |.vT o1 i1 o2 i2 e,N,Z,g,E=>aK P e Z g (λx g1=>∃u v,x=.tup [u,v]/\aK P o1 Z g1 (λy1 g2=>aK P i1 Z g2 (λz1 g3=>V2 y1 z1 u g3 λg4=>aK P o2 Z g4 (λy2 g5=>aK P i2 Z g5 (λz2 g6=>V2 y2 z2 v g6 λg7=>N.nx Z g7) E) E) E) E) E
 |.jg i p v,N,Z,g,E=>∃x,Z[i]?=some (some x)/\aK P v Z g (λz g1=>cL p [x,z] g1 λw g2=>N.nx (Z.set i (some w)) g2) E
 |.ifs c a b,N,Z,g,E=>cC P c Z g (λt g1=>if t=true then wpS P a N Z g1 E else wpS P b N Z g1 E) E
 |.dI t it b,N,Z,g,E=>eG P it Z g (λk g1=>turns k Z g1 N.nx λx N2 Z g=>iS t x Z λcg=>wpS P b { N with nx:=N2,ct:=N2,bk:=N.nx } cg g E) E
 |.jr c b,N,Z,g,E=>∃W:Nat->S->G->Prop,(∃m,W m Z g)/\∀m Z g,W m Z g->cC P c Z g (λt g1=>if t=true then ∃N2:S->G->Prop,(∀bN g',N2 bN g'->∃m',m'<m/\W m' bN g')/\wpS P b { N with nx:=N2,ct:=N2,bk:=N.nx } Z g1 E else N.nx Z g1) E
 |.ret e,N,Z,g,E=>aK P e Z g N.rt E
 |.pD,N,_,g,_=>N.rt .bO g
 |.brk,N,Z,g,_=>N.bk Z g
 |.cont,N,Z,g,_=>N.ct Z g
 |.raise x es,_,Z,g,E=>cW P es Z g (λvs g1=>vs.length<=1000/\E ⟨x⟩ g1) E
 |.CU b hs,N,Z,g,E=>wpS P b N Z g (sW P N (Z.map λ_=>none) E hs)
structure aV where
 ar:Nat
 n:Nat
 body:MS
noncomputable def d8(m:aV)(ds:List D):S:=ds.map some++List.replicate (m.n-ds.length) none
noncomputable def d4(T:Nat->Option aV):Nat->eR
 |0,_,_,_,_,_=>False
 |k+1,f,ds,g,Q,E=>∃m,T f=some m/\ds.length=m.ar/\wpS (d4 T k) m.body ⟨λ_ g'=>Q .bO g',Q,λ_ _=>False,λ_ _=>False⟩ (d8 m ds) g E
end M

namespace M
open PySem L2
theorem u3{p xs}{g:G}{Q Q':KD}(h:∀d g,Q d g->Q' d g)(q:cL p xs g Q):cL p xs g Q':=by
 obtain⟨d,g',a,b⟩:=q;exact⟨d,g',a,h _ _ b⟩
theorem Yh{x}{g:G}{k k':Bool->Prop}(h:∀b,k b->k' b)(q:oN g x k):oN g x k':=by
 obtain⟨b,a,z⟩:=q;exact⟨b,a,h _ z⟩
theorem T8{x y v}{g:G}{k k':G->Prop}(h:∀g,k g->k' g)(q:V2 x y v g k):V2 x y v g k':=by
 obtain⟨b,a,z⟩:=q;exact⟨b,a,h _ z⟩
theorem YT{f cs x v}{g:G}{k k':G->Prop}(h:∀g,k g->k' g)(q:vh f cs x v g k):vh f cs x v g k':=by
 obtain⟨b,a,z⟩:=q;exact⟨b,a,h _ z⟩
theorem u7{t x Z}{k k':S->Prop}(h:∀Z,k Z->k' Z)(q:iS t x Z k):iS t x Z k':=by
 cases t with
 |one i=>exact h _ q
 |many is=>obtain⟨l,bN,a,b,c⟩:=q;exact⟨l,bN,a,b,h _ c⟩
theorem Za{k Z g}{fin jC:S->G->Prop}{turn gO:D->(S->G->Prop)->S->G->Prop}(h:∀Z g,fin Z g->jC Z g)(h2:∀x N Z g,turn x N Z g->gO x N Z g)(q:turns k Z g fin turn):turns k Z g jC gO:=by
 obtain⟨W,w0,q⟩:=q;refine⟨W,w0,λi m Z g w=>?_⟩;rcases q i m Z g w with⟨a,b⟩|⟨x,a,N2,b,c⟩
 ·exact .inl ⟨a,h _ _ b⟩
 ·exact .inr ⟨x,a,N2,b,h2 _ _ _ _ c⟩
theorem HE{k Z g}{fin jC:List D->G->Prop}{turn gO:D->(Option D->S->G->Prop)->S->G->Prop}(h:∀ys g,fin ys g->jC ys g)(h2:∀x N Z g,turn x N Z g->gO x N Z g)(q:xq k Z g fin turn):xq k Z g jC gO:=by
 obtain⟨W,w0,q⟩:=q;refine⟨W,w0,λi m ys Z g w=>?_⟩;rcases q i m ys Z g w with⟨a,b⟩|⟨x,a,b,c⟩
 ·exact .inl ⟨a,h _ _ b⟩
 ·exact .inr ⟨x,a,b,h2 _ _ _ _ c⟩
theorem Zv{k Z g}{fin jC:List Int->G->Prop}{turn gO:D->(Option Int->S->G->Prop)->S->G->Prop}(h:∀ys g,fin ys g->jC ys g)(h2:∀x N Z g,turn x N Z g->gO x N Z g)(q:AD k Z g fin turn):AD k Z g jC gO:=by
 obtain⟨W,w0,q⟩:=q;refine⟨W,w0,λi m ys Z g w=>?_⟩;rcases q i m ys Z g w with⟨a,b,c⟩|⟨x,a,b,c⟩
 ·exact .inl ⟨a,b,h _ _ c⟩
 ·exact .inr ⟨x,a,b,h2 _ _ _ _ c⟩
theorem E7{t:Bool}{A B A' B':Prop}(h1:A->A')(h2:B->B')(q:if t=true then A else B):if t=true then A' else B':=by
 cases t
 ·exact h2 q
 ·exact h1 q
noncomputable def i7(P:eR):Prop:=∀f xs g Q Q' E E',(∀d g,Q d g->Q' d g)->(∀x g,E x g->E' x g)->P f xs g Q E->P f xs g Q' E'
mutual
theorem c6{P:eR}(hP:i7 P):∀(e:ME) (Z:S) (g:G) (Q Q':KD) (E E':KX),(∀d g,Q d g->Q' d g)->(∀x g,E x g->E' x g)->aK P e Z g Q E->aK P e Z g Q' E'
 |.var i,Z,g,Q,Q',E,E',h,hx,q=>by
  rw[aK] at q ⊢;obtain⟨d,a,b⟩:=q;exact⟨d,a,h _ _ b⟩
 |.lit d,Z,g,Q,Q',E,E',h,hx,q=>by rw[aK] at q ⊢;exact h _ _ q
 |.prim p es,Z,g,Q,Q',E,E',h,hx,q=>by
  rw[aK] at q ⊢;exact w6 hP es _ _ _ _ _ _ (λxs g1 q=>u3 h q) hx q
 |.eF p o es,Z,g,Q,Q',E,E',h,hx,q=>by
  rw[aK] at q ⊢;exact c6 hP o _ _ _ _ _ _ (λx g1 q=>⟨q.1,w6 hP es _ _ _ _ _ _ (λxs g2 q=>u3 h q) hx q.2⟩) hx q
 |.oE es,Z,g,Q,Q',E,E',h,hx,q=>by
  rw[aK] at q ⊢;exact w6 hP es _ _ _ _ _ _ (λxs g1 ⟨kvs,a,b,c,d⟩=>⟨kvs,a,b,c,h _ _ d⟩) hx q
 |.chain o1 o2 a b c,Z,g,Q,Q',E,E',h,hx,q=>by
  rw[aK] at q ⊢;refine c6 hP a _ _ _ _ _ _ (λx g1 q=>c6 hP b _ _ _ _ _ _ (λy g2 q=>u3 (λz g3 q=>?_) q) hx q) hx q;obtain⟨t,e,q⟩:=q;exact⟨t,e,E7 (λq=>c6 hP c _ _ _ _ _ _ (λw g4 q=>u3 h q) hx q) (h _ _) q⟩
 |.dQ a b,Z,g,Q,Q',E,E',h,hx,q=>by
  rw[aK] at q ⊢;refine c6 hP a _ _ _ _ _ _ (λx g1 q=>?_) hx q;obtain⟨t,e,q⟩:=q;exact⟨t,e,E7 (λq=>c6 hP b _ _ _ _ _ _ h hx q) (h _ _) q⟩
 |.jG a b,Z,g,Q,Q',E,E',h,hx,q=>by
  rw[aK] at q ⊢;refine c6 hP a _ _ _ _ _ _ (λx g1 q=>?_) hx q;obtain⟨t,e,q⟩:=q;exact⟨t,e,E7 (h _ _) (λq=>c6 hP b _ _ _ _ _ _ h hx q) q⟩
 |.dH a,Z,g,Q,Q',E,E',h,hx,q=>by
  rw[aK] at q ⊢;refine c6 hP a _ _ _ _ _ _ (λx g1 q=>?_) hx q;obtain⟨t,e,q⟩:=q;exact⟨t,e,h _ _ q⟩
 |.ite c a b,Z,g,Q,Q',E,E',h,hx,q=>by
  rw[aK] at q ⊢;exact o6 hP c _ _ _ _ _ _ (λt g1 q=>E7 (λq=>c6 hP a _ _ _ _ _ _ h hx q) (λq=>c6 hP b _ _ _ _ _ _ h hx q) q) hx q
 |.call f es,Z,g,Q,Q',E,E',h,hx,q=>by
  rw[aK] at q ⊢;exact w6 hP es _ _ _ _ _ _ (λxs g1 q=>hP _ _ _ _ _ _ _ h hx q) hx q
 |.make c f es,Z,g,Q,Q',E,E',h,hx,q=>by
  rw[aK] at q ⊢;exact w6 hP es _ _ _ _ _ _ (λxs g1 q=>hP _ _ _ _ _ _ _ (λd g2 q=>⟨q.1,h _ _ q.2⟩) hx q) hx q
 |.jx m cs o es,Z,g,Q,Q',E,E',h,hx,q=>by
  rw[aK] at q ⊢;refine c6 hP o _ _ _ _ _ _ (λx g1 q=>?_) hx q;obtain⟨a,c,fs,f,q1,q2,q3,q4,q⟩:=q;exact⟨a,c,fs,f,q1,q2,q3,q4,w6 hP es _ _ _ _ _ _ (λxs g2 q=>hP _ _ _ _ _ _ _ h hx q) hx q⟩
 |.comp d5 n tg it cond elt,Z,g,Q,Q',E,E',h,hx,q=>by
  rw[aK] at q ⊢;exact w5 hP it _ _ _ _ _ _ (λk g1 q=>HE (λys g q=>h _ _ q) (λ_ _ _ _ q=>q) q) hx q
 |.jv d5 n tg it cond elt,Z,g,Q,Q',E,E',h,hx,q=>by
  rw[aK] at q ⊢;exact w5 hP it _ _ _ _ _ _ (λk g1 q=>HE (λys g q=>h _ _ q) (λx N Z g q=>u7 (λcg q=>o6 hP cond _ _ _ _ _ _ (λb g3 q=>by
   cases b
   ·exact q
   ·exact c6 hP elt _ _ _ _ _ _ (λ_ _ z=>z) hx q) (λ_ _ z=>z) q) q) q) hx q
 |.gi d5 n tg it cond elt,Z,g,Q,Q',E,E',h,hx,q=>by
  rw[aK] at q ⊢;exact w5 hP it _ _ _ _ _ _ (λk g1 q=>Zv (λys g q=>h _ _ q) (λ_ _ _ _ q=>q) q) hx q
 |.nil,Z,g,Q,Q',E,E',h,hx,q=>(show False from q).elim
 |.cons _ _,Z,g,Q,Q',E,E',h,hx,q=>(show False from q).elim
 |.fj _,Z,g,Q,Q',E,E',h,hx,q=>(show False from q).elim
 |.eY _,Z,g,Q,Q',E,E',h,hx,q=>(show False from q).elim
 |.jU _ _,Z,g,Q,Q',E,E',h,hx,q=>(show False from q).elim
 |.jH _,Z,g,Q,Q',E,E',h,hx,q|.mV _,Z,g,Q,Q',E,E',h,hx,q=>(show False from q).elim
 |.fy _,Z,g,Q,Q',E,E',h,hx,q=>(show False from q).elim
 |.no,Z,g,Q,Q',E,E',h,hx,q=>(show False from q).elim
theorem w6{P:eR}(hP:i7 P):∀(e:ME) (Z:S) (g:G) (Q Q':List D->G->Prop) (E E':KX),(∀d g,Q d g->Q' d g)->(∀x g,E x g->E' x g)->cW P e Z g Q E->cW P e Z g Q' E'
 |.nil,Z,g,Q,Q',E,E',h,hx,q=>by rw[cW] at q ⊢;exact h _ _ q
 |.cons a b,Z,g,Q,Q',E,E',h,hx,q=>by
  rw[cW] at q ⊢;exact c6 hP a _ _ _ _ _ _ (λx g1 q=>w6 hP b _ _ _ _ _ _ (λxs g2 q=>h _ _ q) hx q) hx q
 |.var _,Z,g,Q,Q',E,E',h,hx,q|.lit _,Z,g,Q,Q',E,E',h,hx,q|.prim _ _,Z,g,Q,Q',E,E',h,hx,q|.eF _ _ _,Z,g,Q,Q',E,E',h,hx,q|.oE _,Z,g,Q,Q',E,E',h,hx,q|.chain _ _ _ _ _,Z,g,Q,Q',E,E',h,hx,q|.dQ _ _,Z,g,Q,Q',E,E',h,hx,q|.jG _ _,Z,g,Q,Q',E,E',h,hx,q|.dH _,Z,g,Q,Q',E,E',h,hx,q|.ite _ _ _,Z,g,Q,Q',E,E',h,hx,q|.call _ _,Z,g,Q,Q',E,E',h,hx,q
 |.make _ _ _,Z,g,Q,Q',E,E',h,hx,q|.jx _ _ _ _,Z,g,Q,Q',E,E',h,hx,q|.comp _ _ _ _ _ _,Z,g,Q,Q',E,E',h,hx,q|.gi _ _ _ _ _ _,Z,g,Q,Q',E,E',h,hx,q|.jv _ _ _ _ _ _,Z,g,Q,Q',E,E',h,hx,q|.fj _,Z,g,Q,Q',E,E',h,hx,q|.eY _,Z,g,Q,Q',E,E',h,hx,q|.jU _ _,Z,g,Q,Q',E,E',h,hx,q|.jH _,Z,g,Q,Q',E,E',h,hx,q|.mV _,Z,g,Q,Q',E,E',h,hx,q|.fy _,Z,g,Q,Q',E,E',h,hx,q|.no,Z,g,Q,Q',E,E',h,hx,q=>(show False from q).elim
theorem o6{P:eR}(hP:i7 P):∀(e:ME) (Z:S) (g:G) (Q Q':Bool->G->Prop) (E E':KX),(∀d g,Q d g->Q' d g)->(∀x g,E x g->E' x g)->cC P e Z g Q E->cC P e Z g Q' E'
 |.dQ a b,Z,g,Q,Q',E,E',h,hx,q=>by
  rw[cC] at q ⊢;exact o6 hP a _ _ _ _ _ _ (λt g1 q=>E7 (λq=>o6 hP b _ _ _ _ _ _ h hx q) (h _ _) q) hx q
 |.jG a b,Z,g,Q,Q',E,E',h,hx,q=>by
  rw[cC] at q ⊢;exact o6 hP a _ _ _ _ _ _ (λt g1 q=>E7 (h _ _) (λq=>o6 hP b _ _ _ _ _ _ h hx q) q) hx q
 |.dH a,Z,g,Q,Q',E,E',h,hx,q=>by rw[cC] at q ⊢;exact o6 hP a _ _ _ _ _ _ (λt g1 q=>h _ _ q) hx q
 |.no,Z,g,Q,Q',E,E',h,hx,q=>by rw[cC] at q ⊢;exact h _ _ q
 |.fy e,Z,g,Q,Q',E,E',h,hx,q=>by rw[cC] at q ⊢;exact c6 hP e _ _ _ _ _ _ (λx g1 q=>Yh (λb q=>h _ _ q) q) hx q
 |.var _,Z,g,Q,Q',E,E',h,hx,q|.lit _,Z,g,Q,Q',E,E',h,hx,q|.prim _ _,Z,g,Q,Q',E,E',h,hx,q|.eF _ _ _,Z,g,Q,Q',E,E',h,hx,q|.oE _,Z,g,Q,Q',E,E',h,hx,q|.chain _ _ _ _ _,Z,g,Q,Q',E,E',h,hx,q|.ite _ _ _,Z,g,Q,Q',E,E',h,hx,q|.call _ _,Z,g,Q,Q',E,E',h,hx,q|.nil,Z,g,Q,Q',E,E',h,hx,q|.cons _ _,Z,g,Q,Q',E,E',h,hx,q
 |.make _ _ _,Z,g,Q,Q',E,E',h,hx,q|.jx _ _ _ _,Z,g,Q,Q',E,E',h,hx,q|.comp _ _ _ _ _ _,Z,g,Q,Q',E,E',h,hx,q|.gi _ _ _ _ _ _,Z,g,Q,Q',E,E',h,hx,q|.jv _ _ _ _ _ _,Z,g,Q,Q',E,E',h,hx,q|.fj _,Z,g,Q,Q',E,E',h,hx,q|.eY _,Z,g,Q,Q',E,E',h,hx,q|.jU _ _,Z,g,Q,Q',E,E',h,hx,q|.jH _,Z,g,Q,Q',E,E',h,hx,q|.mV _,Z,g,Q,Q',E,E',h,hx,q=>(show False from q).elim
theorem w5{P:eR}(hP:i7 P):∀(e:ME) (Z:S) (g:G) (Q Q':IK->G->Prop) (E E':KX),(∀d g,Q d g->Q' d g)->(∀x g,E x g->E' x g)->eG P e Z g Q E->eG P e Z g Q' E'
 |.fj e,Z,g,Q,Q',E,E',h,hx,q=>by
  rw[eG] at q ⊢;exact c6 hP e _ _ _ _ _ _ (λx g1 q=>q.imp (λ⟨l,a,b⟩=>⟨l,a,h _ _ b⟩) λ⟨i,l,a,b,c⟩=>⟨i,l,a,b,h _ _ c⟩) hx q
 |.eY a,Z,g,Q,Q',E,E',h,hx,q=>by
  rw[eG] at q ⊢;exact c6 hP a _ _ _ _ _ _ (λx g1 ⟨j,a,b,c,d⟩=>⟨j,a,b,c,h _ _ d⟩) hx q
 |.jU a b,Z,g,Q,Q',E,E',h,hx,q=>by
  rw[eG] at q ⊢;exact c6 hP a _ _ _ _ _ _ (λx g1 q=>c6 hP b _ _ _ _ _ _ (λy g2 ⟨i,j,a,b,c,d⟩=>⟨i,j,a,b,c,h _ _ d⟩) hx q) hx q
 |.jH e,Z,g,Q,Q',E,E',h,hx,q=>by
  rw[eG] at q ⊢;exact c6 hP e _ _ _ _ _ _ (λx g1 ⟨i,l,a,b,c⟩=>⟨i,l,a,b,h _ _ c⟩) hx q
 |.mV e,Z,g,Q,Q',E,E',h,hx,q=>by
  rw[eG] at q ⊢;exact c6 hP e _ _ _ _ _ _ (λx g1 ⟨i,l,a,b,c⟩=>⟨i,l,a,b,h _ _ c⟩) hx q
 |.var _,Z,g,Q,Q',E,E',h,hx,q|.lit _,Z,g,Q,Q',E,E',h,hx,q|.prim _ _,Z,g,Q,Q',E,E',h,hx,q|.eF _ _ _,Z,g,Q,Q',E,E',h,hx,q|.oE _,Z,g,Q,Q',E,E',h,hx,q|.chain _ _ _ _ _,Z,g,Q,Q',E,E',h,hx,q|.ite _ _ _,Z,g,Q,Q',E,E',h,hx,q|.call _ _,Z,g,Q,Q',E,E',h,hx,q|.nil,Z,g,Q,Q',E,E',h,hx,q|.cons _ _,Z,g,Q,Q',E,E',h,hx,q
 |.dQ _ _,Z,g,Q,Q',E,E',h,hx,q|.jG _ _,Z,g,Q,Q',E,E',h,hx,q|.dH _,Z,g,Q,Q',E,E',h,hx,q|.fy _,Z,g,Q,Q',E,E',h,hx,q|.no,Z,g,Q,Q',E,E',h,hx,q
 |.make _ _ _,Z,g,Q,Q',E,E',h,hx,q|.jx _ _ _ _,Z,g,Q,Q',E,E',h,hx,q|.comp _ _ _ _ _ _,Z,g,Q,Q',E,E',h,hx,q|.gi _ _ _ _ _ _,Z,g,Q,Q',E,E',h,hx,q|.jv _ _ _ _ _ _,Z,g,Q,Q',E,E',h,hx,q=>(show False from q).elim
end
structure Ends.le(N N':Ends):Prop where
 nx:∀Z g,N.nx Z g->N'.nx Z g
 rt:∀d g,N.rt d g->N'.rt d g
 bk:∀Z g,N.bk Z g->N'.bk Z g
 ct:∀Z g,N.ct Z g->N'.ct Z g
theorem Gu{P:eR}(hP:i7 P){N N':Ends}{E E':KX}(h:N.le N')(hx:∀x g,E x g->E' x g){Z:S}:∀(hs:List (Str×ME)) x g,sW P N Z E hs x g->sW P N' Z E' hs x g
 |[],x,g,q=>hx x g q
 |(y,e)::r,x,g,q=>by
  unfold sW at q ⊢;split
  ·rename_i hh;rw[aH hh] at q;exact c6 hP e _ _ _ _ _ _ h.rt (λ_ _ z=>z) q
  ·rename_i hh;rw[aB hh] at q;exact Gu hP h hx r x g q
theorem wpS_mono{P:eR}(hP:i7 P):∀(s:MS) (N N':Ends) (Z:S) (g:G) (E E':KX),N.le N'->(∀x g,E x g->E' x g)->wpS P s N Z g E->wpS P s N' Z g E'
 |.pass,N,N',Z,g,E,E',h,hx,q=>h.nx _ _ q
 |.seq a b,N,N',Z,g,E,E',h,hx,q=>wpS_mono hP a { N with nx:=λhX g1=>wpS P b N hX g1 E } { N' with nx:=λhX g1=>wpS P b N' hX g1 E' } _ _ _ _ ⟨λhX g1 q=>wpS_mono hP b _ _ _ _ _ _ h hx q,h.rt,h.bk,h.ct⟩ hx q
 |.expr e,N,N',Z,g,E,E',h,hx,q=>c6 hP e _ _ _ _ _ _ (λx g1 q=>h.nx _ _ q) hx q
 |.set i e,N,N',Z,g,E,E',h,hx,q=>c6 hP e _ _ _ _ _ _ (λx g1 q=>h.nx _ _ q) hx q
 |.kR t e,N,N',Z,g,E,E',h,hx,q=>c6 hP e _ _ _ _ _ _ (λx g1 q=>u7 (λZ q=>h.nx _ _ q) q) hx q
 |.dP o i v,N,N',Z,g,E,E',h,hx,q=>c6 hP v _ _ _ _ _ _ (λx g1 q=>c6 hP o _ _ _ _ _ _ (λy g2 q=>c6 hP i _ _ _ _ _ _ (λz g3 q=>T8 (λg q=>h.nx _ _ q) q) hx q) hx q) hx q
 |.gN f cs o v,N,N',Z,g,E,E',h,hx,q=>c6 hP v _ _ _ _ _ _ (λx g1 q=>c6 hP o _ _ _ _ _ _ (λy g2 q=>YT (λg q=>h.nx _ _ q) q) hx q) hx q
 | .va f cs o v,N,N',Z,g,E,E',h,hx,q=>c6 hP o _ _ _ _ _ _ (λy g1 q=>by
   obtain⟨a,c,fs,x,q1,q2,q3,q4,q⟩:=q;exact ⟨a,c,fs,x,q1,q2,q3,q4,c6 hP v _ _ _ _ _ _ (λz g3 q=>u3 (λw g4 q=>by
    obtain⟨qm,k1,k2,k3⟩:=q;exact ⟨qm,k1,k2,h.nx _ _ k3⟩) q) hx q⟩) hx q
 |.vT o1 i1 o2 i2 e,N,N',Z,g,E,E',h,hx,q=>c6 hP e _ _ _ _ _ _ (λx g1 q=>let ⟨u,v,q1,q⟩:=q;⟨u,v,q1,c6 hP o1 _ _ _ _ _ _ (λy g2 q=>c6 hP i1 _ _ _ _ _ _ (λz g3 q=>T8 (λg4 q=>c6 hP o2 _ _ _ _ _ _ (λy g5 q=>c6 hP i2 _ _ _ _ _ _ (λz g6 q=>T8 (λg q=>h.nx _ _ q) q) hx q) hx q) q) hx q) hx q⟩) hx q
 |.jg i p v,N,N',Z,g,E,E',h,hx,q=>let ⟨x,q1,q⟩:=q;⟨x,q1,c6 hP v _ _ _ _ _ _ (λz g1 q=>u3 (λw g2 q=>h.nx _ _ q) q) hx q⟩
 |.ifs c a b,N,N',Z,g,E,E',h,hx,q=>o6 hP c _ _ _ _ _ _ (λt g1 q=>E7 (λq=>wpS_mono hP a _ _ _ _ _ _ h hx q) (λq=>wpS_mono hP b _ _ _ _ _ _ h hx q) q) hx q
 |.dI t it b,N,N',Z,g,E,E',h,hx,q=>w5 hP it _ _ _ _ _ _ (λk g1 q=>Za h.nx (λx N2 Z g q=>u7 (λcg q=>wpS_mono hP b { N with nx:=N2,ct:=N2,bk:=N.nx } { N' with nx:=N2,ct:=N2,bk:=N'.nx } _ _ _ _ ⟨λ_ _ z=>z,h.rt,h.nx,λ_ _ z=>z⟩ hx q) q) q) hx q
 |.jr c b,N,N',Z,g,E,E',h,hx,q=>by
  obtain⟨W,w0,q⟩:=q;refine⟨W,w0,λm Z g w=>o6 hP c _ _ _ _ _ _ (λt g1 q=>E7 (λq=>?_) (h.nx _ _) q) hx (q m Z g w)⟩;obtain⟨N2,a,q⟩:=q;exact⟨N2,a,wpS_mono hP b { N with nx:=N2,ct:=N2,bk:=N.nx } { N' with nx:=N2,ct:=N2,bk:=N'.nx } _ _ _ _ ⟨λ_ _ z=>z,h.rt,h.nx,λ_ _ z=>z⟩ hx q⟩
 |.ret e,N,N',Z,g,E,E',h,hx,q=>c6 hP e _ _ _ _ _ _ h.rt hx q
 |.pD,N,N',Z,g,E,E',h,hx,q=>h.rt _ _ q
 |.brk,N,N',Z,g,E,E',h,hx,q=>h.bk _ _ q
 |.cont,N,N',Z,g,E,E',h,hx,q=>h.ct _ _ q
 |.raise x es,N,N',Z,g,E,E',h,hx,q=>w6 hP es _ _ _ _ _ _ (λvs g1 q=>⟨q.1,hx _ _ q.2⟩) hx q
 |.CU b hs,N,N',Z,g,E,E',h,hx,q=>wpS_mono hP b _ _ _ _ _ _ h (λx g q=>Gu hP h hx hs x g q) q
theorem b0(T:Nat->Option aV):∀k,i7 (d4 T k)
 |0=>λf xs g Q Q' E E' h hx q=>q.elim
 |k+1=>λf xs g Q Q' E E' h hx q=>by
  obtain⟨m,a,b,q⟩:=q;exact⟨m,a,b,wpS_mono (b0 T k) m.body ⟨λ_ g'=>Q .bO g',Q,λ_ _=>False,λ_ _=>False⟩ _ _ _ _ _ ⟨λ_ _ z=>h _ _ z,h,λ_ _ z=>z,λ_ _ z=>z⟩ hx q⟩
end M

namespace M
open PySem L2
noncomputable def TupAt(K:PySem.W.Frag)(H:Hp)(a:Addr)(vs:List V):Prop :=
 H a=some (.tup vs)\/∃(o:Obj) (aR:Array Value) (n:Nat),K.lookup a=some o/\o.cls=.type "tuple"/\o.dict=none/\o.data=.seq aR n/\aR.size<=sizeLine/\Vals vs aR.toList
theorem TupAt.d{K:PySem.W.Frag}{H:Hp}{a:Addr}{vs:List V}(h:TupAt K H a vs):CI K H a vs:=h
theorem TupAt.sq{K:PySem.W.Frag}{H:Hp}{a:Addr}{vs:List V}(h:TupAt K H a vs):gS K H a vs:=h.d.sq
mutual
inductive f7(K:PySem.W.Frag)(ρ:List Addr)(H:Hp):D->V->Prop
 |bO:f7 K ρ H .bO .bO
 |bl (b:Bool):f7 K ρ H (.bl b) (.bl b)
 |int (i:Int):f7 K ρ H (.int i) (.int i)
 |str (x:Str):f7 K ρ H (.str x) (.str x)
 |ty (n:String):f7 K ρ H (.ty n) (.ty n)
 |ref {i:Nat} {a:Addr} (h:ρ[i]?=some a):f7 K ρ H (.ref i) (.ref a)
 |tup {l:List D} {a:Addr} {vs:List V} (h:TupAt K H a vs) (r:c8 K ρ H l vs):f7 K ρ H (.tup l) (.ref a)
inductive c8(K:PySem.W.Frag)(ρ:List Addr)(H:Hp):List D->List V->Prop
 |nil:c8 K ρ H [] []
 |cons {d:D} {v:V} {ds:List D} {vs:List V} (h:f7 K ρ H d v) (r:c8 K ρ H ds vs):c8 K ρ H (d::ds) (v::vs)
end
structure Ext(ρ:List Addr)(H:Hp)(bB:List Addr)(H':Hp):Prop where
 pre:∃more,bB=ρ++more
 tup:∀a xs,H a=some (.tup xs)->H' a=some (.tup xs)
theorem Ext.refl(ρ:List Addr)(H:Hp):Ext ρ H ρ H:=⟨⟨[],by simp⟩,λ_ _ h=>h⟩
theorem Ext.trans{ρ H bH H1 dX H2}(a:Ext ρ H bH H1)(b:Ext bH H1 dX H2):Ext ρ H dX H2:=by
 obtain⟨⟨m,rfl⟩,t⟩:=a;obtain⟨⟨m',rfl⟩,t'⟩:=b;exact⟨⟨m++m',by simp⟩,λx xs h=>t' _ _ (t _ _ h)⟩
theorem Ext.get{ρ H bB H'}(e:Ext ρ H bB H'){i:Nat}{a:Addr}(h:ρ[i]?=some a):bB[i]?=some a:=by
 obtain⟨⟨m,rfl⟩,_⟩:=e;rw[aG (aj.mp h).1];exact h
theorem TupAt.ext{K ρ H bB H'}(e:Ext ρ H bB H'){a:Addr}{vs:List V}(h:TupAt K H a vs):TupAt K H' a vs:=h.elim (λz=>.inl (e.tup _ _ z)) .inr
mutual
theorem f7.ext{K ρ H bB H'}(e:Ext ρ H bB H'):∀{d v},f7 K ρ H d v->f7 K bB H' d v
 |_,_,.bO=>.bO
 |_,_,.bl b=>.bl b
 |_,_,.int i=>.int i
 |_,_,.str x=>.str x
 |_,_,.ty n=>.ty n
 |_,_,.ref h=>.ref (e.get h)
 |_,_,.tup h r=>.tup (h.ext e) (c8.ext e r)
theorem c8.ext{K ρ H bB H'}(e:Ext ρ H bB H'):∀{ds vs},c8 K ρ H ds vs->c8 K bB H' ds vs
 |_,_,.nil=>.nil
 |_,_,.cons h r=>.cons (f7.ext e h) (c8.ext e r)
end
theorem c8.length{K ρ H}:∀{ds vs},c8 K ρ H ds vs->ds.length=vs.length
 |_,_,.nil=>rfl
 |_,_,.cons _ r=>by simp[c8.length r]
theorem c8.get{K ρ H}:∀{ds vs} {i:Nat} {d:D},c8 K ρ H ds vs->ds[i]?=some d->∃v,vs[i]?=some v/\f7 K ρ H d v
 |_,_,_,_,.nil,h=>by simp at h
 |_,_,0,_,.cons h _,e=>by simp at e;subst e;exact⟨_,rfl,h⟩
 |_,_,i+1,d,.cons _ r,e=>by
  obtain⟨v,h1,h2⟩:=c8.get (i:=i) (d:=d) r (by simpa using e);exact⟨v,by simpa using h1,h2⟩
theorem c8.set{K ρ H}{d:D}{v:V}(h:f7 K ρ H d v):∀{ds vs} (i:Nat),c8 K ρ H ds vs->c8 K ρ H (ds.set i d) (vs.set i v)
 |_,_,_,.nil=>.nil
 |_,_,0,.cons _ r=>.cons h r
 |_,_,i+1,.cons q r=>.cons q (c8.set h i r)
theorem c8.append{K ρ H}:∀{ds es:List D} {vs ws:List V},c8 K ρ H ds vs->c8 K ρ H es ws->c8 K ρ H (ds++es) (vs++ws)
 |_,_,_,_,.nil,s=>s
 |_,_,_,_,.cons h r,s=>.cons h (c8.append r s)
theorem c8.rep{K ρ H}{ds:List D}{vs:List V}(r:c8 K ρ H ds vs):∀n,c8 K ρ H (List.replicate n ds).flatten (List.replicate n vs).flatten
 |0=>.nil
 |n+1=>by
  rw[bT,bT,cS,cS];exact c8.append r (c8.rep r n)
theorem c8.erase{K ρ H}:∀{ds:List D} {vs:List V} (i:Nat),c8 K ρ H ds vs->c8 K ρ H (ds.eraseIdx i) (vs.eraseIdx i)
 |_,_,_,.nil=>.nil
 |_,_,0,.cons _ r=>r
 |_,_,i+1,.cons q r=>.cons q (c8.erase i r)
theorem c8.take{K ρ H}:∀{ds:List D} {vs:List V} (n:Nat),c8 K ρ H ds vs->c8 K ρ H (ds.take n) (vs.take n)
 |_,_,0,_=>.nil
 |_,_,_+1,.nil=>.nil
 |_,_,n+1,.cons h r=>.cons h (c8.take n r)
theorem c8.drop{K ρ H}:∀{ds:List D} {vs:List V} (n:Nat),c8 K ρ H ds vs->c8 K ρ H (ds.drop n) (vs.drop n)
 |_,_,0,r=>r
 |_,_,_+1,.nil=>.nil
 |_,_,n+1,.cons _ r=>c8.drop n r
theorem c8.reverse{K ρ H}:∀{ds:List D} {vs:List V},c8 K ρ H ds vs->c8 K ρ H ds.reverse vs.reverse
 |_,_,.nil=>.nil
 |_,_,.cons h r=>by
  rw[fZ,fZ];exact c8.append (c8.reverse r) (.cons h .nil)
theorem c8.cut{K ρ H}{ds:List D}{vs:List V}(r:c8 K ρ H ds vs)(lo hi:Option Int):c8 K ρ H (M.cut ds lo hi) (T1 vs lo hi):=by
 unfold M.cut T1;rw[r.length];exact(r.drop _).take _
theorem c8.ints{K ρ H}:∀{ns:List Int} {vs:List V},c8 K ρ H (ns.map D.int) vs->vs=ns.map V.int
 |[],_,.nil=>rfl
 |_::_,_,.cons h r=>by cases h;rw[c8.ints r];rfl
theorem c8.ofInts{K ρ H}:∀(ns:List Int),c8 K ρ H (ns.map D.int) (ns.map V.int)
 |[]=>.nil
 |n::r=>.cons (.int n) (c8.ofInts r)
noncomputable def rZ(K:PySem.W.Frag)(H:Hp)(a:Addr)(vs:List V):Prop :=
 (∃o,H a=some (.je o (.lst vs)))\/∃(o:Obj) (aR:Array Value) (n:Nat),K.lookup a=some o/\o.cls=.type "list"/\o.dict=none/\o.data=.seq aR n/\aR.size<=sizeLine/\Vals vs aR.toList
theorem rZ.sq{K:PySem.W.Frag}{H:Hp}{a:Addr}{vs:List V}(h:rZ K H a vs):fo K H a vs:=h.elim (λ⟨o,z⟩=>.inl (.inr ⟨o,z⟩)) .inr
inductive i8{α:Type}(K:PySem.W.Frag)(ρ:List Addr)(H:Hp):List (α×D)->List (α×V)->Prop
 |nil:i8 K ρ H [] []
 |cons {k:α} {d:D} {v:V} {ds:List (α×D)} {vs:List (α×V)} (h:f7 K ρ H d v) (r:i8 K ρ H ds vs):i8 K ρ H ((k,d)::ds) ((k,v)::vs)
theorem i8.ext{α:Type}{K ρ H bB H'}(e:Ext ρ H bB H'){ds:List (α×D)}{vs:List (α×V)}(h:i8 K ρ H ds vs):i8 K bB H' ds vs:=by
 induction h with
 |nil=>exact .nil
 |cons h r ih=>exact .cons (h.ext e) ih
theorem i8.length{α:Type}{K ρ H}{ds:List (α×D)}{vs:List (α×V)}(h:i8 K ρ H ds vs):ds.length=vs.length:=by
 induction h with
 |nil=>rfl
 |cons h r ih=>simp[ih]
noncomputable def qG(K:PySem.W.Frag)(ρ:List Addr)(H:Hp):Option D->Option V->Prop
 |some d,some v=>f7 K ρ H d v
 |none,none=>True
 |_,_=>False
theorem i8.val{K ρ H}:∀{ds vs} (k:Key),i8 K ρ H ds vs->qG K ρ H (s9 ds k) (K0 vs k)
 |_,_,k,.nil=>trivial
 |_,_,k,.cons (k:=k') h r=>by
  unfold s9 K0;rw[eh,eh];by_cases e:k'=k
  ·simp only[e,decide_true];exact h
  ·simp only[e,decide_false];exact i8.val k r
theorem i8.FW{K ρ H}:∀{ds vs} (k:Key),i8 K ρ H ds vs->(ds.any λkv=>decide (kv.1=k))=(vs.any λkv=>decide (kv.1=k))
 |_,_,k,.nil=>rfl
 |_,_,k,.cons h r=>by simp only[List.any_cons,i8.FW k r]
theorem i8.snoc{K ρ H}{k:Key}{d:D}{v:V}(h:f7 K ρ H d v):∀{ds vs},i8 K ρ H ds vs->i8 K ρ H (ds++[(k,d)]) (vs++[(k,v)])
 |_,_,.nil=>.cons h .nil
 |_,_,.cons q r=>.cons q (i8.snoc h r)
theorem i8.Cz{K ρ H}{k:Key}{d:D}{v:V}(h:f7 K ρ H d v):∀{ds vs},i8 K ρ H ds vs->i8 K ρ H (ds.map λkv=>if kv.1=k then(kv.1,d) else kv) (vs.map λkv=>if kv.1=k then(kv.1,v) else kv)
 |_,_,.nil=>.nil
 |_,_,.cons (k:=k') q r=>by
  simp only[List.map_cons];by_cases e:k'=k
  ·rw[aH e,aH e];exact .cons h (i8.Cz h r)
  ·rw[aB e,aB e];exact .cons q (i8.Cz h r)
theorem i8.put{K ρ H}{k:Key}{d:D}{v:V}(h:f7 K ρ H d v){ds vs}(r:i8 K ρ H ds vs):i8 K ρ H (putD ds k d) (putK vs k v):=by
 unfold putD putK;rw[r.FW k];split
 ·exact r.Cz h
 ·exact r.snoc h
noncomputable abbrev u4(K:PySem.W.Frag)(x:Str)(C:Addr):Prop:=PySem.W.nsIn K mainGlobals x=some (some (.ref C))
theorem i8.look{K ρ H}{ds:List (Str×D)}{vs:List (Str×V)}(f:Str)(h:i8 K ρ H ds vs):qG K ρ H (ds.lookup f) (vs.lookup f):=by
 induction h with
 |nil=>trivial
 |cons h r ih =>
  rename_i k d v ds vs;rw[cA,cA];cases f==k
  ·exact ih
  ·exact h
theorem i8.A4{K ρ H}{f:Str}{d:D}{v:V}(h:f7 K ρ H d v){ds:List (Str×D)}{vs:List (Str×V)}(r:i8 K ρ H ds vs):i8 K ρ H (k9 f d ds) (L2.A4 f v vs):=by
 induction r with
 |nil=>exact .cons h .nil
 |cons q r ih =>
  unfold k9 L2.A4;split
  ·exact .cons h r
  ·exact .cons q ih
theorem Hn{f:Str}{d:D}{p:Str->Prop}(hf:p f):∀{ds:List (Str×D)},(∀x∈ds,p x.1)->∀x∈k9 f d ds,p x.1
 |[],_,x,hx=>by
  have:x=(f,d):=by simpa[k9] using hx
  rw[this];exact hf
 |(k,e)::r,h,x,hx=>by
  unfold k9 at hx;split at hx
  ·rcases aE.mp hx with z|z
   ·rw[z];exact h (k,e) (by simp)
   ·exact h x (by simp[z])
  ·rcases aE.mp hx with z|z
   ·rw[z];exact h (k,e) (by simp)
   ·exact Hn hf (λy hy=>h y (by simp[hy])) x z
noncomputable def OH(K:PySem.W.Frag)(ρ:List Addr)(H:Hp):O->HO->Prop
 |.lst l,.lst vs=>c8 K ρ H l vs
 |.dF kvs,.dK vs=>i8 K ρ H kvs vs
 |.set S n,.set S' n'=>S=S'/\n=n'
 |.ins c fs,.ins C _ vs=>u4 K c C/\jl K C/\i8 K ρ H fs vs/\∀x∈fs,B6 K C x.1
 |_,_=>False
theorem OH.ext{K ρ H bB H'}(e:Ext ρ H bB H'){o:O}{u:HO}(h:OH K ρ H o u):OH K bB H' o u:=by
 cases o<;>cases u<;>first|exact h.elim|exact c8.ext e h|exact i8.ext e h|exact⟨h.1,h.2.1,h.2.2.1.ext e,h.2.2.2⟩|exact h
theorem OH.sv{K ρ H}{o:O}{xs:List V}(h:OH K ρ H o (.tup xs)):False:=by cases o<;>exact h
theorem OH.VN{K ρ H}{o:O}{ob:Obj}{u:HO}(h:OH K ρ H o (.je ob u)):False:=by cases o<;>exact h
noncomputable def G0(K:PySem.W.Frag)(ρ:List Addr)(H:Hp)(o:O)(a:Addr):Prop:=match o with
 |.nk l=>∃vs,rZ K H a vs/\c8 K ρ H l vs
 |o=>∃u,H a=some u/\OH K ρ H o u
theorem G0.of{K ρ H}{o:O}{a:Addr}{u:HO}(hu:H a=some u)(h:OH K ρ H o u):G0 K ρ H o a:=by
 cases o<;>first|exact⟨u,hu,h⟩|(cases u<;>exact h.elim)
theorem G0.inv{K ρ H}{o:O}{a:Addr}(m:o.mut=true)(h:G0 K ρ H o a):∃u,H a=some u/\OH K ρ H o u:=by
 cases o<;>first|exact h|cases m
theorem G0.lst{K ρ H}{l:List D}{a:Addr}(h:G0 K ρ H (.lst l) a):∃vs,H a=some (.lst vs)/\c8 K ρ H l vs:=by
 obtain⟨u,h1,h2⟩:=h;cases u<;>first|exact⟨_,h1,h2⟩|exact h2.elim
theorem G0.dF{K ρ H}{l:List (Key×D)}{a:Addr}(h:G0 K ρ H (.dF l) a):∃vs,H a=some (.dK vs)/\i8 K ρ H l vs:=by
 obtain⟨u,h1,h2⟩:=h;cases u<;>first|exact⟨_,h1,h2⟩|exact h2.elim
theorem G0.set{K ρ H}{S:Int->Bool}{n:Nat}{a:Addr}(h:G0 K ρ H (.set S n) a):H a=some (.set S n):=by
 obtain⟨u,h1,h2⟩:=h;cases u<;>first|(obtain⟨rfl,rfl⟩:=(show _/\_ from h2);exact h1)|exact h2.elim
theorem G0.ins{K ρ H}{c:Str}{fs:List (Str×D)}{a:Addr}(h:G0 K ρ H (.ins c fs) a):∃C dx vs,H a=some (.ins C dx vs)/\u4 K c C/\jl K C/\i8 K ρ H fs vs/\∀x∈fs,B6 K C x.1:=by
 obtain⟨u,h1,h2⟩:=h;cases u<;>first|exact⟨_,_,_,h1,h2⟩|exact h2.elim
structure Rl(K:PySem.W.Frag)(ρ:List Addr)(g:G)(H:Hp):Prop where
 len:ρ.length=g.length
 obj:∀(i:Nat) o a,g[i]?=some o->ρ[i]?=some a->G0 K ρ H o a
 nd:∀(i j:Nat) o o' a,g[i]?=some o->g[j]?=some o'->o.mut=true->o'.mut=true->ρ[i]?=some a->ρ[j]?=some a->i=j
section
variable{K:PySem.W.Frag}{ρ:List Addr}{g:G}{H:Hp}
theorem Rl.lst(R:Rl K ρ g H){i:Nat}{l:List D}{a:Addr}(h:g[i]?=some (.lst l))(ha:ρ[i]?=some a):∃vs,H a=some (.lst vs)/\c8 K ρ H l vs:=(R.obj _ _ _ h ha).lst
theorem Rl.dF(R:Rl K ρ g H){i:Nat}{l:List (Key×D)}{a:Addr}(h:g[i]?=some (.dF l))(ha:ρ[i]?=some a):∃vs,H a=some (.dK vs)/\i8 K ρ H l vs:=(R.obj _ _ _ h ha).dF
theorem Rl.set(R:Rl K ρ g H){i:Nat}{S:Int->Bool}{n:Nat}{a:Addr}(h:g[i]?=some (.set S n))(ha:ρ[i]?=some a):H a=some (.set S n):=(R.obj _ _ _ h ha).set
theorem Rl.ins(R:Rl K ρ g H){i:Nat}{c:Str}{fs:List (Str×D)}{a:Addr}(h:g[i]?=some (.ins c fs))(ha:ρ[i]?=some a):∃C dx vs,H a=some (.ins C dx vs)/\u4 K c C/\jl K C/\i8 K ρ H fs vs/\∀x∈fs,B6 K C x.1:=(R.obj _ _ _ h ha).ins
theorem Rl.items(R:Rl K ρ g H){i:Nat}{l:List D}{a:Addr}(h:d7 g i=some l)(ha:ρ[i]?=some a):∃vs,fo K H a vs/\c8 K ρ H l vs:=by
 cases e:g[i]? with
 |none=>rw[d7,e] at h;cases h
 |some o =>
  rw[d7,e] at h;have q:=R.obj _ _ _ e ha;cases o with
  |lst m=>cases h;obtain⟨vs,z,r⟩:=q.lst;exact⟨vs,fo.of z,r⟩
  |nk m=>cases h;obtain⟨vs,z,r⟩:=q;exact⟨vs,z.sq,r⟩
  |_=>cases h
theorem A7{p:Addr}{o:HO}(hp:H p=none):Ext ρ H ρ (upd H p o):=⟨⟨[],by simp⟩,λa xs h=>by rw[i3 (l9 h hp)];exact h⟩
theorem rZ.upd{p a:Addr}{o:HO}{vs:List V}(h:rZ K H a vs)(hp:∀ob u,H p≠some (.je ob u)):rZ K (upd H p o) a vs:=by
 rcases h with⟨ob,z⟩|z
 ·refine .inl ⟨ob,?_⟩;rw[i3 ?_]
  ·exact z
  ·intro e;subst e;exact hp _ _ z
 ·exact .inr z
theorem G0.upd{p a:Addr}{o:O}{u:HO}{bB:List Addr}(h:G0 K ρ H o a)(dz:o.mut=true->a≠p)(hp:∀ob u,H p≠some (.je ob u))(e:Ext ρ H bB (L2.upd H p u)):G0 K bB (L2.upd H p u) o a:=by
 cases hm:o.mut with
 |true =>
  obtain⟨u',h1,h2⟩:=h.inv hm;exact .of (by rw[i3 (dz hm)];exact h1) (h2.ext e)
 |false =>
  cases o<;>first|cases hm|skip
  obtain⟨vs,z,r⟩:=h;exact⟨vs,z.upd hp,r.ext e⟩
theorem Rl.grow{p:Addr}{o:HO}(R:Rl K ρ g H)(hp:H p=none):Rl K ρ g (upd H p o):=by
 have e:Ext ρ H ρ (upd H p o):=A7 hp;refine⟨R.len,λi ob a h1 h2=>?_,R.nd⟩;have q:=R.obj _ _ _ h1 h2;refine q.upd (λhm=>?_) (λob u z=>by rw[hp] at z;cases z) e;obtain⟨u,h1,_⟩:=q.inv hm;exact l9 h1 hp
theorem Rl.C4(R:Rl K ρ g H)(p:Addr):(ρ++[p])[g.length]?=some p:=by rw[<- R.len];simp
theorem M1{p:Addr}{o:HO}(hp:H p=none):Ext ρ H (ρ++[p]) (upd H p o):=⟨⟨[p],rfl⟩,(A7 (ρ:=ρ) hp).tup⟩
theorem Rl.new{p:Addr}{o:O}{u:HO}(R:Rl K ρ g H)(hp:H p=none)(r:OH K ρ H o u):Rl K (ρ++[p]) (g++[o]) (upd H p u):=by
 have e:Ext ρ H (ρ++[p]) (upd H p u):=M1 hp;have old:∀{i:Nat} {ob:O} {a:Addr},g[i]?=some ob->(ρ++[p])[i]?=some a->ρ[i]?=some a:=λ{i ob a} h1 h2=>by
  rw[aG (by rw[R.len];exact(aj.mp h1).1)] at h2;exact h2
 have split:∀{i:Nat} {ob:O},(g++[o])[i]?=some ob->g[i]?=some ob\/(i=g.length/\ob=o):=λ{i ob} h=>by
  rcases eM i g.length with q|q|q
  ·rw[aG q] at h;exact .inl h
  ·subst q;simp at h;exact .inr ⟨rfl,h.symm⟩
  ·rw[aS (by simp;omega)] at h;cases h
 refine⟨by simp[R.len],λi ob a h1 h2=>?_,λi j o1 o2 a h1 h2 m1 m2 h3 h4=>?_⟩
 ·rcases split h1 with q|⟨rfl,rfl⟩
  ·have z:=R.obj _ _ _ q (old q h2);refine z.upd (λhm=>?_) (λob u z=>by rw[hp] at z;cases z) e;obtain⟨u,h1,_⟩:=z.inv hm;exact l9 h1 hp
  ·rw[R.C4] at h2;cases h2;exact .of t8 (r.ext e)
 ·have nq:∀{i:Nat} {o:O} {a:Addr},g[i]?=some o->o.mut=true->ρ[i]?=some a->a≠p:=λ{i o a} h1 hm h2=>by
   obtain⟨u,z,_⟩:=(R.obj _ _ _ h1 h2).inv hm;exact l9 z hp
  rcases split h1 with q|⟨rfl,_⟩
  ·rcases split h2 with q'|⟨rfl,_⟩
   ·exact R.nd _ _ _ _ _ q q' m1 m2 (old q h3) (old q' h4)
   ·rw[R.C4] at h4;cases h4;exact absurd rfl (nq q m1 (old q h3))
  ·rcases split h2 with q'|⟨rfl,_⟩
   ·rw[R.C4] at h3;cases h3;exact absurd rfl (nq q' m2 (old q' h4))
   ·rfl
theorem Rl.alloc{p:Addr}{l:List D}{vs:List V}(R:Rl K ρ g H)(hp:H p=none)(r:c8 K ρ H l vs):Rl K (ρ++[p]) (g++[.lst l]) (upd H p (.lst vs)):=R.new hp r
theorem Rl.put{i:Nat}{a:Addr}{o o':O}{u:HO}(R:Rl K ρ g H)(h:g[i]?=some o)(hm:o.mut=true)(ha:ρ[i]?=some a)(r:OH K ρ H o' u) :
  Rl K ρ (g.set i o') (upd H a u)/\Ext ρ H ρ (upd H a u):=by
 obtain⟨u0,z0,DJ⟩:=(R.obj _ _ _ h ha).inv hm;have e:Ext ρ H ρ (upd H a u):=⟨⟨[],by simp⟩,λb xs q=>by rw[i3];exact q;intro z;subst z;rw[z0] at q;cases q;exact DJ.sv⟩
 refine⟨⟨by simp[R.len],λj ob b h1 h2=>?_,λj k o1 o2 b h1 h2 m1 m2 h3 h4=>?_⟩,e⟩
 ·by_cases iU:i=j
  ·subst iU;rw[ha] at h2;cases h2;have hi:i<g.length:=(aj.mp h).1;rw[aU hi] at h1;cases h1;exact .of t8 (r.ext e)
  ·rw[aw iU] at h1;refine(R.obj _ _ _ h1 h2).upd (λrq ez=>?_) (λob u z=>by rw[z0] at z;cases z;exact DJ.VN) e;subst ez;exact iU (R.nd _ _ _ _ _ h h1 hm rq ha h2)
 ·have back:∀{j:Nat} {m:O},(g.set i o')[j]?=some m->m.mut=true->∃m',g[j]?=some m'/\m'.mut=true:=λ{j m} q rq=>by
   by_cases iU:i=j
   ·subst iU;exact⟨o,h,hm⟩
   ·rw[aw iU] at q;exact⟨m,q,rq⟩
  obtain⟨_,q1,n1⟩:=back h1 m1;obtain⟨_,q2,n2⟩:=back h2 m2;exact R.nd _ _ _ _ _ q1 q2 n1 n2 h3 h4
theorem Rl.write{i:Nat}{a:Addr}{l l':List D}{vs:List V}(R:Rl K ρ g H)(h:g[i]?=some (.lst l))(ha:ρ[i]?=some a)(r:c8 K ρ H l' vs) :
  Rl K ρ (g.set i (.lst l')) (upd H a (.lst vs))/\Ext ρ H ρ (upd H a (.lst vs)):=R.put h rfl ha r
end
structure n8(K:PySem.W.Frag)(ρ:List Addr)(H:Hp)(Z:S)(bR:St):Prop where
 len:Z.length=bR.length
 val:∀(i:Nat) d,Z[i]?=some (some d)->∃v,bR[i]?=some (some v)/\f7 K ρ H d v
section
variable{K:PySem.W.Frag}{ρ bB:List Addr}{H H':Hp}
theorem n8.ext{Z bR}(e:Ext ρ H bB H')(r:n8 K ρ H Z bR):n8 K bB H' Z bR:=⟨r.len,λi d h=>let ⟨v,a,b⟩:=r.val i d h;⟨v,a,b.ext e⟩⟩
theorem n8.set{Z bR d v}(r:n8 K ρ H Z bR)(i:Nat)(h:f7 K ρ H d v):n8 K ρ H (Z.set i (some d)) (bR.set i (some v)):=by
 refine⟨by simp[r.len],λj e q=>?_⟩;by_cases iU:i=j
 ·subst iU;have hi:i<Z.length:=by
   have:=(aj.mp q).1;simpa using this
  rw[aU hi] at q;cases q;exact⟨v,by rw[aU (by rw[<- r.len];exact hi)],h⟩
 ·rw[aw iU] at q ⊢;exact r.val j e q
theorem n8.start{ds vs}{n:Nat}(r:c8 K ρ H ds vs):n8 K ρ H (ds.map some++List.replicate (n-ds.length) none) (vs.map some++List.replicate (n-vs.length) none):=by
 refine⟨by simp[r.length],λi d h=>?_⟩;by_cases hi:i<ds.length
 ·rw[aG (by simpa using hi),ak] at h;cases e:ds[i]? with
  |none=>rw[e] at h;cases h
  |some x =>
   rw[e] at h;cases h;obtain⟨v,h1,h2⟩:=r.get e;refine⟨v,?_,h2⟩;rw[aG (by rw[ah,<- r.length];exact hi),ak,h1]
   rfl
 ·rw[cq (by simpa using hi),de] at h;split at h<;>cases h
theorem n8.d5{Z bR}(r:n8 K ρ H Z bR)(d5:List Nat)(n:Nat):n8 K ρ H (C6 Z d5 n) (C1 bR d5 n):=by
 refine⟨by simp[C6,C1],λi d h=>?_⟩;unfold C6 at h;unfold C1;by_cases hi:i<d5.length
 ·rw[aG (by simpa using hi),ak,ag hi] at h;rw[aG (by simpa using hi),ak,ag hi];simp only[Option.map_some] at h ⊢;cases e:Z[d5[i]]? with
  |none=>rw[e] at h;cases h
  |some x =>
   rw[e] at h;have hx:x=some d:=aJ h;subst hx;obtain⟨v,h1,h2⟩:=r.val _ _ e;exact⟨v,by rw[h1];rfl,h2⟩
 ·rw[cq (by simpa using hi),de] at h;split at h<;>cases h
end
end M

namespace M
open PySem L2 PySem.Spec PyProof.Rows
noncomputable def LQ(K:PySem.W.Frag)(ρ:List Addr)(H:Hp)(Q:VK):KD:=λd g'=>∀bB H' v,Ext ρ H bB H'->Rl K bB g' H'->f7 K bB H' d v->Q v H'
theorem LQ.ext{K ρ H bH H1 Q d g}(e:Ext ρ H bH H1)(h:LQ K ρ H Q d g):LQ K bH H1 Q d g:=λbB H' v e' R r=>h bB H' v (e.trans e') R r
theorem LQ.now{K ρ H Q d g v}(h:LQ K ρ H Q d g)(R:Rl K ρ g H)(r:f7 K ρ H d v):Q v H:=h ρ H v (.refl _ _) R r
theorem LQ.new{K ρ H Q}{g:G}{l:List D}{vs:List V}{p:Addr}(h:LQ K ρ H Q (.ref g.length) (g++[.lst l]))(R:Rl K ρ g H)(hp:H p=none)(r:c8 K ρ H l vs):Q (.ref p) (upd H p (.lst vs)) :=
 h (ρ++[p]) _ _ (M1 hp) (R.alloc hp r) (.ref (R.C4 p))
theorem LQ.tup{K ρ H Q}{g:G}{l:List D}{vs:List V}{p:Addr}(h:LQ K ρ H Q (.tup l) g)(R:Rl K ρ g H)(hp:H p=none)(r:c8 K ρ H l vs):Q (.ref p) (upd H p (.tup vs)) :=
 h ρ _ _ (A7 hp) (R.grow hp) (.tup (.inl t8) (r.ext (A7 hp)))
noncomputable def r2(K:PySem.W.Frag)(p:Pr):R2:=λx y H Q=>∃d e g ρ,Rl K ρ g H/\f7 K ρ H d x/\f7 K ρ H e y/\cL p [d,e] g (LQ K ρ H Q)
noncomputable def r1(K:PySem.W.Frag)(p:Pr):V->Hp->VK->Prop:=λx H Q=>∃d g ρ,Rl K ρ g H/\f7 K ρ H d x/\cL p [d] g (LQ K ρ H Q)
noncomputable def rN(K:PySem.W.Frag)(p:Pr):List V->Hp->VK->Prop:=λxs H Q=>∃ds g ρ,Rl K ρ g H/\c8 K ρ H ds xs/\cL p ds g (LQ K ρ H Q)
theorem m7{n:Nat}(h:n<=100000):n<=sizeLine:=aD h (by decide)
theorem AZ{n:Nat}(h:n<100000):n<sizeLine:=ax h (by decide)
theorem f7.i6{K ρ H i v}(h:f7 K ρ H (.int i) v):v=.int i:=by cases h;rfl
theorem f7.C9{K ρ H i v}(h:f7 K ρ H (.str i) v):v=.str i:=by cases h;rfl
theorem f7.L1{K ρ H i v}(h:f7 K ρ H (.bl i) v):v=.bl i:=by cases h;rfl
theorem f7.xl{K ρ H v}(h:f7 K ρ H .bO v):v=.bO:=by cases h;rfl
theorem f7.Og{K ρ H n v}(h:f7 K ρ H (.ty n) v):v=.ty n:=by cases h;rfl
theorem f7.j8{K ρ H i v}(h:f7 K ρ H (.ref i) v):∃a,v=.ref a/\ρ[i]?=some a:=by cases h;exact⟨_,rfl,by assumption⟩
theorem f7.I9{K ρ H l v}(h:f7 K ρ H (.tup l) v):∃a vs,v=.ref a/\TupAt K H a vs/\c8 K ρ H l vs:=by cases h;exact⟨_,_,rfl,by assumption,by assumption⟩
theorem c8.one{K ρ H d vs}(h:c8 K ρ H [d] vs):∃v,vs=[v]/\f7 K ρ H d v:=by
 cases h with
 |cons r rr=>cases rr;exact⟨_,rfl,r⟩
theorem c8.two{K ρ H d e vs}(h:c8 K ρ H [d,e] vs):∃v w,vs=[v,w]/\f7 K ρ H d v/\f7 K ρ H e w:=by
 cases h with
 |cons r rr=>obtain⟨w,rfl,q⟩:=rr.one;exact⟨_,_,rfl,r,q⟩
theorem A3{a b c d:D}(h:[a,b]=[c,d]):a=c/\b=d:=by cases h;exact⟨rfl,rfl⟩
section
variable{X:Cx}
theorem Pe(op:Operator):fh X (binaryOp op) (r2 X.K (.bin op)):=by
 intro pins s Z H x y v u Q I rx ry h;obtain⟨d,e,g,ρ,R,rd,re,d',g',h,q⟩:=h;rcases h with⟨i,j,r,ex,ha,rfl,rfl⟩|⟨rfl,h⟩|⟨rfl,h⟩
 ·obtain⟨rfl,rfl⟩:=A3 ex;obtain rfl:=rd.i6;obtain rfl:=re.i6;have fin:=q.now R (.int r);cases op<;>first|exact(show False from ha).elim|skip
  ·cases ha;exact Pc pins s Z H _ _ v u Q I rx ry ⟨i,j,rfl,rfl,fin⟩
  ·cases ha;exact Po pins s Z H _ _ v u Q I rx ry ⟨i,j,rfl,rfl,fin⟩
  ·obtain⟨hc,rfl⟩:=ha;exact Pk pins s Z H _ _ v u Q I rx ry ⟨i,j,rfl,rfl,hc,fin⟩
  ·obtain⟨hc,rfl⟩:=ha;exact Pj pins s Z H _ _ v u Q I rx ry ⟨i,j,rfl,rfl,hc,fin⟩
  ·obtain⟨hc,rfl⟩:=ha;exact Pl pins s Z H _ _ v u Q I rx ry ⟨i,j,rfl,rfl,hc,fin⟩
  ·obtain⟨hc,rfl⟩:=ha;exact Pn pins s Z H _ _ v u Q I rx ry ⟨i,j,rfl,rfl,hc,fin⟩
  ·cases ha;exact VS pins s Z H _ _ v u Q I rx ry ⟨i,j,rfl,rfl,fin⟩
  ·cases ha;exact Pd pins s Z H _ _ v u Q I rx ry ⟨i,j,rfl,rfl,fin⟩
  ·obtain⟨hc,rfl⟩:=ha;exact RX pins s Z H _ _ v u Q I rx ry ⟨i,j,rfl,rfl,hc,fin⟩
 ·rcases h with⟨l,m,ex,hz,rfl,rfl⟩|⟨a,b,l,m,ex,ha,hb,hz,rfl,rfl⟩|⟨x',y',ex,hz,rfl,rfl⟩
  ·obtain⟨rfl,rfl⟩:=A3 ex;obtain⟨a,vs,rfl,ta,rs⟩:=rd.I9;obtain⟨b,ws,rfl,tb,rt⟩:=re.I9;refine a41 pins s Z H _ _ v u Q I rx ry ⟨a,b,vs,ws,rfl,rfl,ta.sq,tb.sq,?_,λz=>?_,λz=>?_,λp hp=>q.tup R hp (rs.append rt)⟩
   ·rw[<- rs.length,<- rt.length];exact m7 hz
   ·subst z;cases rs;exact q.now R (.tup tb rt)
   ·subst z;cases rt;rw[fu] at q;exact q.now R (.tup ta rs)
  ·obtain⟨rfl,rfl⟩:=A3 ex;obtain⟨a',rfl,ra⟩:=rd.j8;obtain⟨b',rfl,rb⟩:=re.j8;obtain⟨vs,z1,rs⟩:=R.lst ha ra;obtain⟨ws,z2,rt⟩:=R.lst hb rb;exact Pf pins s Z H _ _ v u Q I rx ry ⟨_,_,vs,ws,rfl,rfl,z1,z2,by rw[<- rs.length,<- rt.length];exact m7 hz,λp hp=>q.new R hp (rs.append rt)⟩
  ·obtain⟨rfl,rfl⟩:=A3 ex;obtain rfl:=rd.C9;obtain rfl:=re.C9;exact YK pins s Z H _ _ v u Q I rx ry ⟨_,_,rfl,rfl,m7 hz,q.now R (.str _)⟩
 ·rcases h with⟨a,l,n,ex,ha,h1,h2,hz,rfl,rfl⟩|⟨l,n,ex,dz,h1,h2,hz,rfl,rfl⟩
  rotate_left
  ·obtain⟨rfl,rfl⟩:=A3 ex;obtain⟨a',vs,rfl,ta,rs⟩:=rd.I9;obtain rfl:=re.i6;refine RZ pins s Z H _ _ v u Q I rx ry ⟨_,_,vs,rfl,rfl,ta.sq,λz=>?_,h1,h2,by rw[<- rs.length];exact m7 hz,λz=>?_,λp hp=>q.tup R hp (rs.rep _)⟩
   ·subst z;cases rs;exact dz rfl
   ·subst z;have:(List.replicate (Int.toNat 1) l).flatten=l:=by simp
    rw[this] at q;exact q.now R (.tup ta rs)
  obtain⟨rfl,rfl⟩:=A3 ex;obtain⟨a',rfl,ra⟩:=rd.j8;obtain rfl:=re.i6;obtain⟨vs,z1,rs⟩:=R.lst ha ra;exact Pm pins s Z H _ _ v u Q I rx ry ⟨_,_,vs,rfl,rfl,z1,by omega,by omega,by rw[<- rs.length];exact m7 hz,λp hp=>q.new R hp (rs.rep _)⟩
theorem VT(op:UnaryOp):xX X (unaryOp op) (r1 X.K (.un op)):=by
 intro pins s Z H x v Q I rx h;obtain⟨d,g,ρ,R,rd,d',g',⟨rfl,i,ex,rfl,rfl⟩,q⟩:=h;cases ex;obtain rfl:=rd.i6;exact Rb pins s Z H _ v Q I rx ⟨_,rfl,q.now R (.int _)⟩
section
variable{ρ:List Addr}{g:G}{H:Hp}{pins:List (Addr×Obj)}{Z:L2.St}{s:Shared}
theorem HD(I:Inv X pins Z H s)(R:Rl X.K ρ g H)(n:Nat)(ih:∀{d:D} {v:V} {u:Value} {p:PyData},rd g n d=some p->f7 X.K ρ H d v->RelV v u->∃as,Reads s.heap u p as/\p.depth<=n){l:List D}:∀{vs:List V} {us:List Value} {ps:List PyData},l.mapM (rd g n)=some ps->c8 X.K ρ H l vs->Vals vs us->∃as,ReadsAll s.heap us ps as/\PyData.depthAll ps<=n:=by
 induction l with
 |nil =>
  intro vs us ps h rs rv;cases rs;cases rv;simp at h;subst h;exact⟨_,.nil,cE _⟩
 |cons d l il =>
  intro vs us ps h rs rv;cases rs with
  |cons gQ rs =>
   cases rv with
   |cons ru rv =>
    rw[List.mapM_cons] at h;cases e:rd g n d with
    |none=>rw[e] at h;cases h
    |some p =>
     rw[e] at h;cases e2:l.mapM (rd g n) with
     |none=>rw[e2] at h;cases h
     |some qs =>
      rw[e2] at h;cases h;obtain⟨as,q1,d1⟩:=ih e gQ ru;obtain⟨bs,q2,d2⟩:=il e2 rs rv;refine⟨_,.cons q1 q2,?_⟩;simp only[PyData.depthAll];omega
theorem R0(I:Inv X pins Z H s)(R:Rl X.K ρ g H)(n:Nat):∀{d:D} {v:V} {u:Value} {p:PyData},rd g n d=some p->f7 X.K ρ H d v->RelV v u->∃as,Reads s.heap u p as/\p.depth<=n:=by
 induction n with
 |zero =>
  intro d v u p h r ru;cases r with
  |bO=>simp only[rd] at h;cases h;cases ru;exact⟨_,.none,Nat.zero_le _⟩
  |bl b=>simp only[rd] at h;cases h;cases ru;exact⟨_,.bool b,Nat.zero_le _⟩
  |int i=>simp only[rd] at h;cases h;obtain⟨t,rfl⟩:=ru;exact⟨_,.int i t,Nat.zero_le _⟩
  |str x=>simp only[rd] at h;cases h;obtain⟨t,rfl⟩:=ru;exact⟨_,.str x t,Nat.zero_le _⟩
  |_=>simp only[rd] at h;cases h
 |succ n ih =>
  intro d v u p h r ru;cases r with
  |bO=>simp only[rd] at h;cases h;cases ru;exact⟨_,.none,Nat.zero_le _⟩
  |bl b=>simp only[rd] at h;cases h;cases ru;exact⟨_,.bool b,Nat.zero_le _⟩
  |int i=>simp only[rd] at h;cases h;obtain⟨t,rfl⟩:=ru;exact⟨_,.int i t,Nat.zero_le _⟩
  |str x=>simp only[rd] at h;cases h;obtain⟨t,rfl⟩:=ru;exact⟨_,.str x t,Nat.zero_le _⟩
  |ty x=>simp only[rd] at h;cases h
  |ref ha =>
   rename_i i a;simp only[rd] at h;cases e:d7 g i with
   |none=>rw[e] at h;cases h
   |some l =>
    rw[e] at h;dsimp only at h;cases e2:l.mapM (rd g n) with
    |none=>rw[e2] at h;cases h
    |some ps =>
     rw[e2] at h;cases h;cases ru;obtain⟨vs,hq,rs⟩:=R.items e ha;obtain⟨aR,rv,p,hz⟩:=I.list hq;obtain⟨as,q,hd⟩:=HD I R n ih e2 rs rv;obtain⟨o,ho,hc,k,pT⟩:=p.isList;refine⟨_,.list ho hc pT (by simpa using q),?_⟩;simp only[PyData.depth];omega
  |tup ht rs =>
   rename_i l a vs;simp only[rd] at h;cases e2:l.mapM (rd g n) with
   |none=>rw[e2] at h;cases h
   |some ps =>
    rw[e2] at h;cases h;cases ru;obtain⟨aR,rv,pt,hz⟩:=I.tuple ht.sq;obtain⟨as,q,hd⟩:=HD I R n ih e2 rs rv;obtain⟨o,ho,hc,k,pT⟩:=id pt;refine⟨_,.tuple ho hc pT (by simpa using q),?_⟩;simp only[PyData.depth];omega
end
end
section
variable{X:Cx}
theorem xw{α:Type}[BEq α][LawfulBEq α][DecidableEq α](a b:α):decide (a=b)=(a==b):=by
 by_cases e:a=b
 ·subst e;simp
 ·rw[aF e];exact(cZ.mpr e).symm
theorem X5{K ρ H}{d:D}{v:V}{c:Key}(h:V9 d=some c)(r:f7 K ρ H d v):v=kV c:=by
 cases r<;>first|(cases h;rfl)|cases h
theorem qG.some{K ρ H}{o:Option V}{d:D}(h:qG K ρ H (some d) o):∃v,o=some v/\f7 K ρ H d v:=by
 cases o with
 |none=>exact h.elim
 |some v=>exact⟨v,rfl,h⟩
theorem qG.isSome{K ρ H}{o:Option V}{d:Option D}(h:qG K ρ H d o):d.isSome=o.isSome:=by
 cases o<;>cases d<;>first|rfl|exact h.elim
theorem Gb{pins:List (Addr×Obj)}{s:Shared}{Z:L2.St}{H:Hp}{ρ:List Addr}{g:G}{d e:D}{x y:V}{v u:Value}{b:Bool}{Q:VK}(hu:X.A.units+100<cLine)(I:Inv X pins Z H s)(rx:RelV x v)(ry:RelV y u)(R:Rl X.K ρ g H)(gQ:f7 X.K ρ H d x)(re:f7 X.K ρ H e y)(h:uM g d e b)(neg:Bool)(q:Q (.bl (xor neg b)) H):wpAny (model X.prog X.w) X.A (compareOp (if neg then .NotEq else .Eq) v u) (EP X pins Z Q) X.xe s:=by
 rcases h with⟨i,j,rfl,rfl,rfl⟩|⟨i,j,rfl,rfl,rfl⟩|⟨i,j,rfl,rfl,rfl⟩|⟨p,p',h1,h2,c1,c2,rfl⟩
 ·obtain rfl:=gQ.i6;obtain rfl:=re.i6;cases neg
  ·exact BW pins s Z H _ _ v u Q I rx ry ⟨rfl,by rw[xy];simpa[xw] using q⟩
  ·exact BX pins s Z H _ _ v u Q I rx ry ⟨rfl,by rw[xy];simpa[xw] using q⟩
 ·obtain rfl:=gQ.L1;obtain rfl:=re.L1;cases neg
  ·exact BW pins s Z H _ _ v u Q I rx ry ⟨rfl,by rw[xj];simpa using q⟩
  ·exact BX pins s Z H _ _ v u Q I rx ry ⟨rfl,by rw[xj];simpa using q⟩
 ·obtain rfl:=gQ.C9;obtain rfl:=re.C9;cases neg
  ·exact BW pins s Z H _ _ v u Q I rx ry ⟨rfl,by rw[xA];simpa[xw] using q⟩
  ·exact BX pins s Z H _ _ v u Q I rx ry ⟨rfl,by rw[xA];simpa[xw] using q⟩
 ·obtain⟨as,q1,d1⟩:=R0 I R 6 h1 gQ rx;obtain⟨bs,q2,d2⟩:=R0 I R 6 h2 re ry;have hr:X.A.units+min p.depth p'.depth<cLine:=by omega
  cases neg
  ·exact SeqAt.compareEq_reads q1 q2 c1 c2 hr ⟨.bl _,H,I,rfl,by simpa using q⟩
  ·exact SeqAt.compareNe_reads q1 q2 c1 c2 hr ⟨.bl _,H,I,rfl,by simpa using q⟩
theorem in_of{pins:List (Addr×Obj)}{s:Shared}{Z:L2.St}{H:Hp}{ρ:List Addr}{g:G}{d e:D}{x y:V}{v u:Value}{b:Bool}{Q:VK}(hu:X.A.units+100<cLine)(I:Inv X pins Z H s)(rx:RelV x v)(ry:RelV y u)(R:Rl X.K ρ g H)(gQ:f7 X.K ρ H d x)(re:f7 X.K ρ H e y)(h:inR g d e b)(neg:Bool)(q:Q (.bl (xor neg b)) H):wpAny (model X.prog X.w) X.A (compareOp (if neg then .NotIn else .In) v u) (EP X pins Z Q) X.xe s:=by
 rcases h with⟨a,kvs,c,rfl,ha,hc,rfl⟩|⟨l,ps,p,h0,h1,h2,c1,c2,rfl⟩
 ·obtain⟨a',rfl,ra⟩:=re.j8;obtain⟨vs,z,rs⟩:=R.dF ha ra;have:=X5 hc gQ;subst this;cases ry;rw[(rs.val c).isSome] at q;cases neg
  ·exact TJ (by omega) I (O4.k z) rx λs' I'=>⟨.bl _,H,I',rfl,by simpa using q⟩
  ·exact Ru (by omega) I (O4.k z) rx λs' I'=>⟨.bl _,H,I',rfl,by simpa using q⟩
 ·obtain⟨as,q1,d1⟩:=R0 I R 6 h2 gQ rx;cases e with
  |tup m =>
   cases h0;have h3:rd g 7 (.tup l)=some (.tuple ps):=by simp only[rd];rw[show l.mapM (rd g 6)=some ps from h1];rfl
   obtain⟨bs,q2,d2⟩:=R0 I R 7 h3 re ry;have hr:X.A.units+1+min (PyData.depthAll ps) p.depth<cLine:=by omega
   cases neg
   ·exact SeqAt.in_tuple_reads q2 q1 c1 c2 hr ⟨.bl _,H,I,rfl,by simpa using q⟩
   ·exact SeqAt.notIn_tuple_reads q2 q1 c1 c2 hr ⟨.bl _,H,I,rfl,by simpa using q⟩
  |ref a =>
   have h3:rd g 7 (.ref a)=some (.list ps):=by
    simp only[rd];rw[show d7 g a=some l from h0];dsimp only;rw[show l.mapM (rd g 6)=some ps from h1]
    rfl
   obtain⟨bs,q2,d2⟩:=R0 I R 7 h3 re ry;have hr:X.A.units+1+min (PyData.depthAll ps) p.depth<cLine:=by omega
   cases neg
   ·exact SeqAt.in_list_reads q2 q1 c1 c2 hr ⟨.bl _,H,I,rfl,by simpa using q⟩
   ·exact SeqAt.notIn_list_reads q2 q1 c1 c2 hr ⟨.bl _,H,I,rfl,by simpa using q⟩
  |_=>cases h0
theorem X2(hu:X.A.units+100<cLine)(op:CmpOp):fh X (compareOp op) (r2 X.K (.cmp op)):=by
 intro pins s Z H x y v u Q I rx ry h;obtain⟨d,e,g,ρ,R,gQ,re,d',g',⟨x',y',b,ex,h,rfl,rfl⟩,q⟩:=h;obtain⟨rfl,rfl⟩:=A3 ex;have fin:=q.now R (.bl b);have mW:∀{P:Int->Int->Bool},(∃i j,d=.int i/\e=.int j/\b=P i j)->∃i j,x=.int i/\y=.int j/\b=P i j:=λhh=>by
  obtain⟨i,j,z1,z2,z3⟩:=hh;exact⟨i,j,(z1▸gQ).i6,(z2▸re).i6,z3⟩
 cases op
 ·exact Gb hu I rx ry R gQ re h false (by simpa using fin)
 ·exact Gb hu I rx ry R gQ re h true (by simpa using fin)
 ·obtain⟨i,j,e1,e2,e3⟩:=mW (P:=λi j=>decide (i<j)) h;exact VR pins s Z H _ _ v u Q I rx ry ⟨i,j,e1,e2,by subst e3;exact fin⟩
 ·obtain⟨i,j,e1,e2,e3⟩:=mW (P:=λi j=>decide (i<=j)) h;exact VQ pins s Z H _ _ v u Q I rx ry ⟨i,j,e1,e2,by subst e3;exact fin⟩
 ·obtain⟨i,j,e1,e2,e3⟩:=mW (P:=λi j=>decide (j<i)) h;exact VP pins s Z H _ _ v u Q I rx ry ⟨i,j,e1,e2,by subst e3;exact fin⟩
 ·obtain⟨i,j,e1,e2,e3⟩:=mW (P:=λi j=>decide (j<=i)) h;exact VO pins s Z H _ _ v u Q I rx ry ⟨i,j,e1,e2,by subst e3;exact fin⟩
 ·obtain⟨rfl,rfl⟩:=(show _/\_ from h)
  obtain rfl:=re.xl;refine Ph pins s Z H _ _ v u Q I rx ry ⟨rfl,?_⟩;have e:K7 d=decide (x=V.bO):=by cases gQ<;>simp[K7]
  rw[<- e];exact fin
 ·obtain⟨rfl,rfl⟩:=(show _/\_ from h)
  obtain rfl:=re.xl;refine RY pins s Z H _ _ v u Q I rx ry ⟨rfl,?_⟩;have e:K7 d=decide (x=V.bO):=by cases gQ<;>simp[K7]
  rw[<- e];exact fin
 ·rcases h with h|⟨a,S,n,i,rfl,ha,rfl,rfl⟩
  ·exact in_of hu I rx ry R gQ re h false (by simpa using fin)
  ·obtain⟨a',rfl,ra⟩:=re.j8;obtain rfl:=gQ.i6;exact XJ pins s Z H _ _ v u Q I rx ry ⟨i,a',S,n,rfl,rfl,R.set ha ra,fin⟩
 ·rcases h with h|⟨a,S,n,i,rfl,ha,rfl,hb⟩
  ·exact in_of hu I rx ry R gQ re h true (by simpa using fin)
  ·obtain⟨a',rfl,ra⟩:=re.j8;obtain rfl:=gQ.i6;exact ZJ pins s Z H _ _ v u Q I rx ry ⟨i,a',S,n,rfl,rfl,R.set ha ra,by rw[<- hb,sO];exact fin⟩
theorem empty_eq{K ρ H}{l:List D}{vs:List V}(r:c8 K ρ H l vs):l.isEmpty=vs.isEmpty:=by cases r<;>rfl
theorem QY{K:PySem.W.Frag}{ρ:List Addr}{g:G}{H:Hp}{d:D}{x:V}{b:Bool}(R:Rl K ρ g H)(r:f7 K ρ H d x)(h:FQ g d b):CH K x H b:=by
 rcases h with⟨rfl,rfl⟩|rfl|⟨i,rfl,rfl⟩|⟨l,rfl,rfl⟩|⟨a,l,rfl,hl,rfl⟩
 ·obtain rfl:=r.xl;rfl
 ·obtain rfl:=r.L1;rfl
 ·obtain rfl:=r.i6;rfl
 ·obtain⟨a,vs,rfl,ht,rs⟩:=r.I9;exact .inr (.inl ⟨_,ht.sq,by rw[empty_eq rs]⟩)
 ·obtain⟨a',rfl,ha⟩:=r.j8;obtain⟨vs,hq,rs⟩:=R.items hl ha;exact .inl ⟨_,hq,by rw[empty_eq rs]⟩
theorem Rn{K ρ H}{l:List D}{vs:List V}{i:Int}{d:D}(r:c8 K ρ H l vs)(h:gz l i=some d):∃v,gz vs i=some v/\f7 K ρ H d v:=by
 unfold gz at h ⊢;rw[<- r.length];cases e:ke l.length i with
 |none=>rw[e] at h;cases h
 |some j =>
  rw[e] at h;exact r.get h
theorem xo{K ρ H}{g:G}{x:D}{v:V}{l:List D}(R:Rl K ρ g H)(r:f7 K ρ H x v)(h:S4 g x=some l):∃a vs,v=.ref a/\c8 K ρ H l vs/\((∃i,x=.ref i/\ρ[i]?=some a)/\fo K H a vs\/x=.tup l/\TupAt K H a vs):=by
 cases r with
 |tup ht rs=>cases h;exact⟨_,_,rfl,rs,.inr ⟨rfl,ht⟩⟩
 |ref ha=>obtain⟨vs,hq,rs⟩:=R.items h ha;exact⟨_,_,rfl,rs,.inl ⟨⟨_,rfl,ha⟩,hq⟩⟩
 |_=>cases h
theorem VA(hu:X.A.units+100<cLine):qJ X (r2 X.K .ix):=by
 intro value slice pins s Z H x y v u Q I rx ry h hs;obtain⟨d,e,g,ρ,R,gQ,re,d',g',⟨rfl,h⟩,q⟩:=h;rcases h with⟨x',l,i,ex,hl,ha⟩|⟨a,kvs,y',c,ex,ha,hc,hv⟩|⟨x',i,c,ex,h0,h1,rfl⟩
 ·obtain⟨rfl,rfl⟩:=A3 ex;obtain rfl:=re.i6;obtain⟨a,vs,rfl,rs,h⟩:=xo R gQ hl;obtain⟨w,hw,fE⟩:=Rn rs ha;rcases h with⟨_,hq⟩|⟨_,ht⟩
  ·exact RH value slice pins s Z H _ _ v u Q I rx ry ⟨_,_,i,w,rfl,rfl,hq,hw,q.now R fE⟩ hs
  ·exact OJ value slice pins s Z H _ _ v u Q I rx ry ⟨_,_,i,w,rfl,rfl,ht.sq,hw,q.now R fE⟩ hs
 ·obtain⟨rfl,rfl⟩:=A3 ex;obtain⟨a',rfl,ra⟩:=gQ.j8;obtain⟨vs,z,rs⟩:=R.dF ha ra;have:=X5 hc re;subst this;have q2:=rs.val c;rw[hv] at q2;obtain⟨w,hw,fE⟩:=q2.some;exact RG (by omega) value slice pins s Z H _ _ v u Q I rx ry ⟨_,w,rfl,by have:=O4.k (k:=c) z;rw[hw] at this;exact this,q.now R fE⟩ hs
 ·obtain⟨rfl,rfl⟩:=A3 ex;obtain rfl:=gQ.C9;obtain rfl:=re.i6;exact OI value slice pins s Z H _ _ v u Q I rx ry ⟨x',i,c,rfl,rfl,m7 h0,h1,q.now R (.str _)⟩ hs
end
end M

namespace M
open PySem L2 PySem.Spec PyProof.Rows
section
variable{X:Cx}
noncomputable def KP(K:PySem.W.Frag):V->Option Int->Option Int->Hp->VK->Prop:=λx lo hi H Q=>∃d g ρ d' g',Rl K ρ g H/\f7 K ρ H d x/\tB d lo hi g d' g'/\LQ K ρ H Q d' g'
theorem Ca:vA X (KP X.K):=by
 intro pins s Z H x v vl vu lo hi sl Q I rx hs pl pu h;obtain⟨d,g,ρ,d',g',R,gQ,h,q⟩:=h;rcases h with⟨l,rfl,rfl,rfl⟩|⟨a,l,rfl,hl,rfl,rfl⟩
 ·obtain⟨a,vs,rfl,ht,rs⟩:=gQ.I9;refine SV pins s Z H _ v vl vu lo hi sl Q I rx hs pl pu ⟨_,_,rfl,ht.sq,λz=>?_,λp hp=>q.tup R hp (rs.cut lo hi)⟩;refine q.now R (.tup ht ?_);have:=rs.cut lo hi;rw[z] at this;exact this
 ·obtain⟨a',rfl,ha⟩:=gQ.j8;obtain⟨vs,hq,rs⟩:=R.items hl ha;exact SU pins s Z H _ v vl vu lo hi sl Q I rx hs pl pu ⟨_,_,rfl,hq,λp hp=>q.new R hp (rs.cut lo hi)⟩
noncomputable def Uv(K:PySem.W.Frag):V->V->V->Hp->(Hp->Prop)->Prop:=λo i v H Q=>∃Aq di dv g ρ,Rl K ρ g H/\f7 K ρ H Aq o/\f7 K ρ H di i/\f7 K ρ H dv v/\V2 Aq di dv g (λg'=>∀bB H',Ext ρ H bB H'->Rl K bB g' H'->Q H')
theorem Qx(hu:X.A.units+100<cLine):CD X (Uv X.K):=by
 intro pins s Z H o i v ov iv u Q I ro ri rv h;obtain⟨Aq,di,dv,g,ρ,R,r1,r2,r3,g',h,q⟩:=h;rcases h with⟨a,i',l,j,rfl,rfl,hl,hj,rfl⟩|⟨a,kvs,c,rfl,ha,hc,hz,rfl⟩
 ·obtain⟨a',rfl,ha⟩:=r1.j8;obtain rfl:=r2.i6;obtain⟨vs,z,rs⟩:=R.lst hl ha;obtain⟨R',e'⟩:=R.write hl ha (rs.set r3 j);exact set_list pins s Z H _ _ _ ov iv u Q I ro ri rv ⟨_,vs,_,j,rfl,rfl,z,by rw[<- rs.length];exact hj,q ρ _ e' R'⟩
 ·obtain⟨a',rfl,ra⟩:=r1.j8;obtain⟨vs,z,rs⟩:=R.dF ha ra;have:=X5 hc r2;subst this;obtain⟨R',e'⟩:=R.put (o':=.dF (putD kvs c dv)) (u:=.dK (putK vs c v)) ha rfl ra (rs.put r3);cases ro;exact Xq (by omega) I (xP.k z (by rw[<- rs.length];exact AZ hz)) ri rv λs' I'=>⟨_,I',q ρ _ e' R'⟩
theorem OQ:m9 X (.builtin "len") (rN X.K .len):=by
 intro pins s Z H xs us Q I r h;obtain⟨ds,g,ρ,R,rs,d',g',⟨rfl,h⟩,q⟩:=h;rcases h with⟨x,l,rfl,hl,rfl⟩|⟨a,kvs,rfl,ha,rfl⟩|⟨x,rfl,hz,rfl⟩
 ·obtain⟨v,rfl,rv⟩:=rs.one;obtain⟨a,vs,rfl,rl,h⟩:=xo R rv hl;refine Zy pins s Z H _ us Q I r ⟨_,_,rfl,?_,by rw[<- rl.length];exact q.now R (.int _)⟩;exact h.imp (λz=>z.2) (λz=>z.2.sq)
 ·obtain⟨v,rfl,rv⟩:=rs.one;obtain⟨a',rfl,ra⟩:=rv.j8;obtain⟨vs,z,rk⟩:=R.dF ha ra;exact Xg pins s Z H _ us Q I r ⟨_,_,rfl,z,by rw[<- rk.length];exact q.now R (.int _)⟩
 ·obtain⟨v,rfl,rv⟩:=rs.one;obtain rfl:=rv.C9;exact Zz pins s Z H _ us Q I r ⟨_,rfl,m7 hz,q.now R (.int _)⟩
theorem RJ:m9 X (.type "list") (rN X.K .list):=by
 intro pins s Z H xs us Q I r h;obtain⟨ds,g,ρ,R,rs,d',g',⟨x,l,rfl,hl,rfl,rfl⟩,q⟩:=h;obtain⟨v,rfl,rv⟩:=rs.one;obtain⟨a,vs,rfl,rl,h⟩:=xo R rv hl;exact ZA pins s Z H _ us Q I r ⟨_,_,rfl,h.imp (λz=>z.2) (λz=>z.2.sq),λp hp=>q.new R hp rl⟩
theorem a03:m9 X (.type "tuple") (rN X.K .tuple):=by
 intro pins s Z H xs us Q I r h;obtain⟨ds,g,ρ,R,rs,d',g',⟨x,l,rfl,hl,rfl,rfl⟩,q⟩:=h;obtain⟨v,rfl,rv⟩:=rs.one;obtain⟨a,vs,rfl,rl,h⟩:=xo R rv hl;refine Ww pins s Z H _ us Q I r ⟨a,vs,rfl,?_⟩;exact h.imp (λz=>⟨z.2,λp hp=>q.tup R hp rl⟩) (λz=>⟨z.2.sq,q.now R (.tup z.2 rl)⟩)
theorem RE:m9 X (.builtin "isinstance") (rN X.K .isin):=by
 intro pins s Z H xs us Q I r h;obtain⟨ds,g,ρ,R,rs,d',g',⟨x,c,b,rfl,hc,hb,rfl,rfl⟩,q⟩:=h;obtain⟨v,w,rfl,r1,r2⟩:=rs.two;obtain rfl:=r2.Og;have fin:=q.now R (.bl b);have go:∀(t:Value) (v:V),gB X.K H v t->PySem.W.kitOne X.K t (.type c)=some b->Vals [v,V.ty c] us->wpAny (model X.prog X.w) X.A (call (.builtin "isinstance") us) (EP X pins Z Q) X.xe s :=
  λt v ht hk r=>Zg pins s Z H _ us Q I r ⟨v,t,c,b,rfl,ht,hk,fin⟩
 simp only[List.mem_cons,List.mem_nil_iff,or_false] at hc;cases r1 with
 |bO=>refine go _ _ .bO ?_ r;cases hb;rcases hc with rfl|rfl|rfl|rfl|rfl<;>rfl
 |bl y=>refine go _ _ (.bl y) ?_ r;cases hb;rcases hc with rfl|rfl|rfl|rfl|rfl<;>rfl
 |int y=>refine go _ _ (.int y) ?_ r;cases hb;rcases hc with rfl|rfl|rfl|rfl|rfl<;>rfl
 |str y=>refine go _ _ (.str y) ?_ r;cases hb;rcases hc with rfl|rfl|rfl|rfl|rfl<;>rfl
 |ty _=>cases hb
 |tup ht rs =>
  cases hb;rcases ht with ht|ht
  ·refine go _ _ (.tup ht) ?_ r;rcases hc with rfl|rfl|rfl|rfl|rfl<;>rfl
  ·obtain⟨o,aR,n,lk,jW,_⟩:=ht;obtain⟨u,w',rfl,ru,fE⟩:=vals2 r;cases (show w'=Value.type c from fE);cases ru;have hk:PySem.W.kitOne X.K (.type "tuple") (.type c)=some (c=="tuple"):=by rcases hc with rfl|rfl|rfl|rfl|rfl<;>rfl
   exact bL Kb I.gp ⟨o,I.gp _ _ lk,jW⟩ hk (λz=>nomatch z) λtk=>⟨.bl _,H,I.tok tk,rfl,fin⟩
 |@ref i a ha =>
  have uw:∃m,g'[i]?=some (.lst m)/\b=(c=="list"):=by
   simp only[CM] at hb;split at hb
   ·exact⟨_,by assumption,(aJ hb).symm⟩
   ·cases hb
  obtain⟨m,e,rfl⟩:=uw;obtain⟨vs,z,_⟩:=R.lst e ha;refine go _ _ (.lst z) ?_ r;rcases hc with rfl|rfl|rfl|rfl|rfl<;>rfl
theorem Yn:∀{l:List D} {b:Bool},V1 l=some b->∃bs:List Bool,l=bs.map D.bl/\b=bs.all id:=by
 intro l
 induction l with
 |nil=>intro b h;cases h;exact⟨[],rfl,rfl⟩
 |cons d r ih =>
  intro b h;cases d<;>first|(cases h;done)|skip
  rename_i c;simp only[V1] at h;cases e:V1 r with
  |none=>rw[e] at h;cases h
  |some b' =>
   rw[e] at h;cases h;obtain⟨bs,rfl,rfl⟩:=ih e;exact⟨c::bs,rfl,by simp⟩
theorem c8.QN{K ρ H}:∀{bs:List Bool} {vs:List V},c8 K ρ H (bs.map D.bl) vs->vs=bs.map V.bl:=by
 intro bs
 induction bs with
 |nil=>intro vs h;cases h;rfl
 |cons b r ih =>
  intro vs h;cases h with
  |cons h rr=>rw[ih rr,h.L1];rfl
theorem Ot(hc:X.calm=true):m9 X (.builtin "all") (rN X.K .all):=by
 intro pins s Z H xs us Q I r h;obtain⟨ds,g,ρ,R,rs,d',g',⟨a,l,b,rfl,hl,hb,rfl,rfl⟩,q⟩:=h;obtain⟨v,rfl,rv⟩:=rs.one;obtain⟨a',rfl,ra⟩:=rv.j8;obtain⟨vs,hq,rs⟩:=R.items hl ra;rcases hb with hb|⟨ns,rfl,rfl⟩
 rotate_left
 ·have:=rs.ints;subst this;exact Xf hc pins s Z H _ us Q I r ⟨_,ns,rfl,hq,q.now R (.bl _)⟩
 obtain⟨bs,rfl,rfl⟩:=Yn hb;have:=rs.QN;subst this;exact Xe hc pins s Z H _ us Q I r ⟨_,bs,rfl,hq,q.now R (.bl _)⟩
theorem i8.keys{α:Type}{K ρ H}{ds:List (α×D)}{vs:List (α×V)}(h:i8 K ρ H ds vs):ds.map (·.1)=vs.map (·.1):=by
 induction h with
 |nil=>rfl
 |cons _ _ ih=>rw[aY,aY,ih]
theorem OW(hc:X.calm=true):m9 X (.builtin "max") (rN X.K .max):=by
 intro pins s Z H xs us Q I r h;obtain⟨ds,g,ρ,R,rs,d',g',⟨rfl,⟨i,j,rfl,rfl⟩|⟨a,ns,M,rfl,hl,h1,h2,rfl⟩⟩,q⟩:=h
 rotate_left
 ·obtain⟨v,rfl,rv⟩:=rs.one;obtain⟨a',rfl,ra⟩:=rv.j8;obtain⟨vs,hq,rs⟩:=R.items hl ra;have:=rs.ints;subst this;exact Xi hc pins s Z H _ us Q I r ⟨_,ns,M,rfl,hq,h1,h2,q.now R (.int _)⟩
 obtain⟨v,w,rfl,r1,r2⟩:=rs.two;obtain rfl:=r1.i6;obtain rfl:=r2.i6;exact Xh hc pins s Z H _ us Q I r ⟨i,j,rfl,q.now R (.int _)⟩
theorem OX(hc:X.calm=true):m9 X (.builtin "min") (rN X.K .min):=by
 intro pins s Z H xs us Q I r h;obtain⟨ds,g,ρ,R,rs,d',g',⟨rfl,⟨i,j,rfl,rfl⟩|⟨a,ns,M,rfl,hl,h1,h2,rfl⟩⟩,q⟩:=h
 rotate_left
 ·obtain⟨v,rfl,rv⟩:=rs.one;obtain⟨a',rfl,ra⟩:=rv.j8;obtain⟨vs,hq,rs⟩:=R.items hl ra;have:=rs.ints;subst this;exact Xk hc pins s Z H _ us Q I r ⟨_,ns,M,rfl,hq,h1,h2,q.now R (.int _)⟩
 obtain⟨v,w,rfl,r1,r2⟩:=rs.two;obtain rfl:=r1.i6;obtain rfl:=r2.i6;exact Xj hc pins s Z H _ us Q I r ⟨i,j,rfl,q.now R (.int _)⟩
theorem QL(hc:X.calm=true):m9 X (.builtin "sum") (rN X.K .sum):=by
 intro pins s Z H xs us Q I r h;obtain⟨ds,g,ρ,R,rs,d',g',⟨a,ns,rfl,hl,rfl,rfl⟩,q⟩:=h;obtain⟨v,rfl,rv⟩:=rs.one;obtain⟨a',rfl,ra⟩:=rv.j8;obtain⟨vs,hq,rs⟩:=R.items hl ra;have:=rs.ints;subst this;exact Xl hc pins s Z H _ us Q I r ⟨_,ns,rfl,hq,q.now R (.int _)⟩
theorem OE:m9 X (.type "int") (rN X.K .int):=by
 intro pins s Z H xs us Q I r h;obtain⟨ds,g,ρ,R,rs,d',g',⟨rfl,h⟩,q⟩:=h;rcases h with⟨i,rfl,rfl⟩|⟨b,rfl,rfl⟩
 ·obtain⟨v,rfl,rv⟩:=rs.one;obtain rfl:=rv.i6;exact Gz pins s Z H _ us Q I r (.inl ⟨i,rfl,q.now R (.int _)⟩)
 ·obtain⟨v,rfl,rv⟩:=rs.one;obtain rfl:=rv.L1;exact Gz pins s Z H _ us Q I r (.inr ⟨b,rfl,q.now R (.int _)⟩)
noncomputable def rM(K:PySem.W.Frag)(p:Pr):V->List V->Hp->VK->Prop:=λx xs H Q=>∃d ds g ρ,Rl K ρ g H/\f7 K ρ H d x/\c8 K ρ H ds xs/\cL p (d::ds) g (LQ K ρ H Q)
theorem xJ{a b:D}{l m:List D}(h:a::l=b::m):a=b/\l=m:=by cases h;exact⟨rfl,rfl⟩
theorem Xb:my X "list.append" (rM X.K .append):=by
 intro pins s Z H x xs v us Q I rx r h;obtain⟨d,ds,g,ρ,R,rd,rs,d',g',⟨a,y,l,ex,ha,hz,rfl,rfl⟩,q⟩:=h;obtain⟨rfl,rfl⟩:=xJ ex;obtain⟨a',rfl,ra⟩:=rd.j8;obtain⟨w,rfl,fE⟩:=rs.one;obtain⟨vs,z1,rv⟩:=R.lst ha ra;obtain⟨R2,e2⟩:=R.write ha ra (rv.append (.cons fE .nil));exact XE pins s Z H _ _ v us Q I rx r ⟨_,vs,_,rfl,rfl,z1,by rw[<- rv.length];exact AZ hz,q ρ _ _ e2 R2 .bO⟩
theorem OA(hu:X.A.units+100<cLine):my X "dict.get" (rM X.K .get):=by
 intro pins s Z H x xs v us Q I rx r h;obtain⟨d,ds,g,ρ,R,rd,rs,d',g',⟨a,y,z,kvs,c,ex,ha,hc,rfl,rfl⟩,q⟩:=h;obtain⟨rfl,rfl⟩:=xJ ex;obtain⟨a',rfl,ra⟩:=rd.j8;obtain⟨w1,w2,rfl,r1,r2⟩:=rs.two;obtain⟨vs,z1,rv⟩:=R.dF ha ra;have:=X5 hc r1;subst this;obtain⟨u1,u2,rfl,p1,p2⟩:=vals2 r;cases rx;refine Ow (by omega) I (O4.k z1) p1 p2 λw' s4 I4 fE=>⟨_,H,I4,fE,q.now R ?_⟩
 have q:=rv.val c;cases e1:s9 kvs c with
 |none =>
  rw[e1] at q;cases e2:K0 vs c with
  |none=>exact r2
  |some w=>rw[e2] at q;exact q.elim
 |some d' =>
  rw[e1] at q;obtain⟨w,hw,q⟩:=q.some;rw[hw];exact q
theorem a32:my X "list.pop" (rM X.K .pop):=by
 intro pins s Z H x xs v us Q I rx r h;obtain⟨d,ds,g,ρ,R,rd,rs,y,g',⟨a,i,l,k,ex,ha,h1,h2,hk,hy,rfl⟩,q⟩:=h;obtain⟨rfl,rfl⟩:=xJ ex;obtain⟨a',rfl,ra⟩:=rd.j8;obtain⟨w,rfl,fE⟩:=rs.one;obtain rfl:=fE.i6;obtain⟨vs,z1,rv⟩:=R.lst ha ra;obtain⟨w,hw,fE⟩:=rv.get hy;obtain⟨R2,e2⟩:=R.write ha ra (rv.erase k);exact a45 pins s Z H _ _ v us Q I rx r ⟨_,vs,i,k,w,rfl,rfl,z1,h1,h2,by rw[<- rv.length];exact hk,hw,q ρ _ _ e2 R2 (fE.ext e2)⟩
theorem c8.strs{K ρ H}:∀{ys:List Str} {vs:List V},c8 K ρ H (ys.map D.str) vs->vs=ys.map V.str
 |[],_,.nil=>rfl
 |_::_,_,.cons h r=>by cases h;rw[c8.strs r];rfl
theorem ty_list{d:D}{v:V}{g:G}{ρ:List Addr}{H:Hp}(R:Rl X.K ρ g H)(r:f7 X.K ρ H d v)(h:∃a l,d=.ref a/\d7 g a=some l):mD X.K "list" v H:=by
 obtain⟨a,l,rfl,hl⟩:=h;obtain⟨a',rfl,ra⟩:=r.j8;obtain⟨vs,hq,_⟩:=R.items hl ra;exact .inl ⟨rfl,vs,hq⟩
theorem SA:my X "set.add" (rM X.K .ju):=by
 intro pins s Z H x xs v us Q I rx r h;obtain⟨d,ds,g,ρ,R,rd,rs,d',g',⟨a,i,S,n,ex,ha,hn,rfl,rfl⟩,q⟩:=h;obtain⟨rfl,rfl⟩:=xJ ex;obtain⟨a',rfl,ra⟩:=rd.j8;obtain⟨w,rfl,fE⟩:=rs.one;obtain rfl:=fE.i6;obtain⟨R2,e2⟩:=R.put (o':=.set (λk=>S k||decide (k=i)) (if S i then n else n+1)) (u:=.set (λk=>S k||decide (k=i)) (if S i then n else n+1)) ha rfl ra ⟨rfl,rfl⟩;exact YI pins s Z H _ _ v us Q I rx r ⟨_,i,S,n,rfl,rfl,R.set ha ra,hn,q ρ _ _ e2 R2 .bO⟩
theorem ty_set{d:D}{v:V}{g:G}{ρ:List Addr}{H:Hp}(R:Rl X.K ρ g H)(r:f7 X.K ρ H d v)(h:kW .ju d g):mD X.K "set" v H:=by
 obtain⟨a,S,n,rfl,hl⟩:=h;obtain⟨a',rfl,ra⟩:=r.j8;exact .inr (.inr (.inr ⟨rfl,S,n,R.set hl ra⟩))
theorem ty_dict{d:D}{v:V}{g:G}{ρ:List Addr}{H:Hp}(R:Rl X.K ρ g H)(r:f7 X.K ρ H d v)(h:kW .get d g):mD X.K "dict" v H:=by
 obtain⟨a,l,rfl,hl⟩:=h;obtain⟨a',rfl,ra⟩:=r.j8;obtain⟨vs,hq,_⟩:=R.dF hl ra;exact .inr (.inr (.inl ⟨rfl,.inl ⟨vs,hq⟩⟩))
end
end M

namespace M
open PySem L2 PySem.Spec PyProof.Rows
noncomputable abbrev gA:=List Str×XK
noncomputable def LX(K:PySem.W.Frag)(ρ:List Addr)(H:Hp)(Ξ:gA):KX:=λx g'=>∀bB H' C,Ext ρ H bB H'->Rl K bB g' H'->x.cls∈Ξ.1->u4 K x.cls C->Ξ.2 (.ref C) none H'
theorem LX.ext{K:PySem.W.Frag}{ρ bH:List Addr}{H H1:Hp}{Ξ:gA}(e:Ext ρ H bH H1){x:Xn}{g:G}(h:LX K ρ H Ξ x g):LX K bH H1 Ξ x g:=λbB H' C e' R hm c=>h bB H' C (e.trans e') R hm c
noncomputable abbrev oO(ex:List Str):gA:=(ex,λ_ _ _=>False)
noncomputable def LE(K:PySem.W.Frag)(Ξ:gA)(t:S->G->KD->KX->Prop):TE:=λbR H Q=>∃Z g ρ,n8 K ρ H Z bR/\Rl K ρ g H/\t Z g (LQ K ρ H Q) (LX K ρ H Ξ)
noncomputable def LT(K:PySem.W.Frag)(Ξ:gA)(t:S->G->(Bool->G->Prop)->KX->Prop):TT:=λbR H Q=>∃Z g ρ,n8 K ρ H Z bR/\Rl K ρ g H/\t Z g (λb g'=>∀bB H',Ext ρ H bB H'->Rl K bB g' H'->Q b H') (LX K ρ H Ξ)
noncomputable def LA(K:PySem.W.Frag)(Ξ:gA)(t:S->G->(List D->G->Prop)->KX->Prop):TA:=λbR H Q=>∃Z g ρ,n8 K ρ H Z bR/\Rl K ρ g H/\t Z g (λds g'=>∀bB H' vs,Ext ρ H bB H'->Rl K bB g' H'->c8 K bB H' ds vs->Q vs H') (LX K ρ H Ξ)
noncomputable def W6(K:PySem.W.Frag)(fC:List Addr)(H0:Hp)(k:IK)(J:It):Prop:=∀ρ g H,Ext fC H0 ρ H->Rl K ρ g H->∀i,(k.at i g=some none->J.stop i H) /\
 ∀d,k.at i g=some (some d)->J.go i H/\∀v H',J.pz i H v H'->Ext ρ H ρ H'/\Rl K ρ g H'/\f7 K ρ H' d v
noncomputable def LI(K:PySem.W.Frag)(Ξ:gA)(t:S->G->(IK->G->Prop)->KX->Prop):TI:=λbR H R=>∃Z g ρ,n8 K ρ H Z bR/\Rl K ρ g H/\t Z g (λk g'=>∀bB H' J,Ext ρ H bB H'->Rl K bB g' H'->W6 K bB H' k J->R J H') (LX K ρ H Ξ)
noncomputable def LG(K:PySem.W.Frag)(t:MT):TG:=λv bR H Q=>∃d Z g ρ,n8 K ρ H Z bR/\Rl K ρ g H/\f7 K ρ H d v/\iS t d Z (λbN=>∀cU,n8 K ρ H bN cU->Q cU H)
noncomputable def LN(K:PySem.W.Frag)(ρ:List Addr)(H:Hp)(N:L2.Ends):Ends where
 nx:=λbN g'=>∀bB H' cU,Ext ρ H bB H'->Rl K bB g' H'->n8 K bB H' bN cU->N.nx cU H'
 rt:=LQ K ρ H N.rt
 bk:=λbN g'=>∀bB H' cU,Ext ρ H bB H'->Rl K bB g' H'->n8 K bB H' bN cU->N.bk cU H'
 ct:=λbN g'=>∀bB H' cU,Ext ρ H bB H'->Rl K bB g' H'->n8 K bB H' bN cU->N.ct cU H'
noncomputable def LS(K:PySem.W.Frag)(Ξ:gA)(t:Ends->S->G->KX->Prop):TS:=λN bR H=>∃Z g ρ,n8 K ρ H Z bR/\Rl K ρ g H/\t (LN K ρ H N) Z g (LX K ρ H Ξ)
end M
namespace L2
open PySem PySem.Spec PyProof.Rows
section
variable{X:Cx}{e:Expr}
theorem PE.imp{t t':TE}(h:PE X e t)(i:∀Z H Q,t' Z H Q->t Z H Q):PE X e t':=λpins s Z H Q I q=>h pins s Z H Q I (i Z H Q q)
theorem PT.imp{t t':TT}(h:PT X e t)(i:∀Z H Q,t' Z H Q->t Z H Q):PT X e t':=λpins s Z H Q I q=>h pins s Z H Q I (i Z H Q q)
theorem PW.imp{t t':TT}(h:PW X e t)(i:∀Z H Q,t' Z H Q->t Z H Q):PW X e t':=λw pins s Z H Q I q=>h w pins s Z H Q I (i Z H Q q)
theorem PA.imp{es:List Expr}{t t':TA}(h:PA X es t)(i:∀Z H Q,t' Z H Q->t Z H Q):PA X es t':=λp pins s Z H Q I q=>h p pins s Z H Q I (i Z H Q q)
theorem ko.imp{es:List Expr}{t t':TT}(h:ko X es t)(i:∀Z H Q,t' Z H Q->t Z H Q):ko X es t':=λpins s Z H Q I q=>h pins s Z H Q I (i Z H Q q)
theorem PI.imp{tg:Expr}{t t':TI}(h:PI X tg e t)(i:∀Z H Q,t' Z H Q->t Z H Q):PI X tg e t':=λpins s Z H Q I q=>h pins s Z H Q I (i Z H Q q)
theorem PG.imp{t t':TG}(h:PG X e t)(i:∀v Z H Q,t' v Z H Q->t v Z H Q):PG X e t':=λpins s Z H v u Q I r q=>h pins s Z H v u Q I r (i v Z H Q q)
theorem PS.imp{st:Stmt}{t t':TS}(h:PS X st t)(i:∀N Z H,t' N Z H->t N Z H):PS X st t':=λpins s Z H N I q=>h pins s Z H N I (i N Z H q)
theorem iV.imp{st:List Stmt}{t t':TS}(h:iV X st t)(i:∀N Z H,t' N Z H->t N Z H):iV X st t':=λpins s Z H N I q=>h pins s Z H N I (i N Z H q)
end
end L2
namespace M
open PySem L2 PySem.Spec PyProof.Rows
section
variable{K:PySem.W.Frag}{Ξ:gA}{P:eR}(hP:i7 P){ρ fC:List Addr}{H H0:Hp}{Z:S}{bR:L2.St}{g:G}{m:ME}
include hP
theorem eV{Q0:KD}{Q:VK}(s:n8 K ρ H Z bR)(R:Rl K ρ g H)(e0:Ext fC H0 ρ H)(h:aK P m Z g Q0 (LX K fC H0 Ξ))(k:∀x g1 bH H1 v1,Ext ρ H bH H1->Rl K bH g1 H1->f7 K bH H1 x v1->Q0 x g1->Q v1 H1):LE K Ξ (aK P m) bR H Q :=
 ⟨Z,g,ρ,s,R,c6 hP m _ _ _ _ _ _ (λx g1 h bH H1 v1 e1 R1 r1=>k x g1 bH H1 v1 e1 R1 r1 h) (λ_ _ z=>LX.ext e0 z) h⟩
theorem js{Q0:List D->G->Prop}{Q:List V->Hp->Prop}(s:n8 K ρ H Z bR)(R:Rl K ρ g H)(e0:Ext fC H0 ρ H)(h:cW P m Z g Q0 (LX K fC H0 Ξ))(k:∀x g1 bH H1 v1,Ext ρ H bH H1->Rl K bH g1 H1->c8 K bH H1 x v1->Q0 x g1->Q v1 H1):LA K Ξ (cW P m) bR H Q :=
 ⟨Z,g,ρ,s,R,w6 hP m _ _ _ _ _ _ (λx g1 h bH H1 v1 e1 R1 r1=>k x g1 bH H1 v1 e1 R1 r1 h) (λ_ _ z=>LX.ext e0 z) h⟩
theorem nM{Q0:Bool->G->Prop}{Q:Bool->Hp->Prop}(s:n8 K ρ H Z bR)(R:Rl K ρ g H)(e0:Ext fC H0 ρ H)(h:cC P m Z g Q0 (LX K fC H0 Ξ))(k:∀t g1 bH H1,Ext ρ H bH H1->Rl K bH g1 H1->Q0 t g1->Q t H1):LT K Ξ (cC P m) bR H Q :=
 ⟨Z,g,ρ,s,R,o6 hP m _ _ _ _ _ _ (λt g1 h bH H1 e1 R1=>k t g1 bH H1 e1 R1 h) (λ_ _ z=>LX.ext e0 z) h⟩
theorem qS{ms:MS}{N:L2.Ends}{N0:Ends}(s:n8 K ρ H Z bR)(R:Rl K ρ g H)(e0:Ext fC H0 ρ H)(h:wpS P ms N0 Z g (LX K fC H0 Ξ))(k:N0.le (LN K ρ H N)):LS K Ξ (wpS P ms) N bR H :=
 ⟨Z,g,ρ,s,R,wpS_mono hP ms _ _ _ _ _ _ k (λ_ _ z=>LX.ext e0 z) h⟩
end
theorem c8.kS{K ρ H}(lo:Int)(n:Nat):c8 K ρ H (k8 lo n) ((List.range n).map λ(k:Nat)=>V.int (lo+k)):=by
 unfold k8;have:∀l:List Nat,c8 K ρ H (l.map λ(k:Nat)=>D.int (lo+k)) (l.map λ(k:Nat)=>V.int (lo+k)):=by
  intro l
  induction l with
  |nil=>exact .nil
  |cons x r ih=>exact .cons (.int _) ih
 exact this _
section
variable{X:Cx}{Ξ:gA}{P:eR}(hP:i7 P){a b c e:Expr}{ma mb mc:ME}{pos:Pos}{p:Pr}
include hP
theorem Az(h:PE X e (qT (r2 X.K p) (LE X.K Ξ (aK P ma)) (LE X.K Ξ (aK P mb)))):PE X e (LE X.K Ξ (aK P (.prim p (.cons ma (.cons mb .nil))))) :=
 h.imp λbR H Q ⟨Z,g,ρ,s,R,h⟩=>by
  simp only[aK,cW] at h;exact eV hP s R (.refl _ _) h λx g1 bH H1 v1 e1 R1 r1 h=>eV hP (s.ext e1) R1 e1 h λy g2 dX H2 v2 e2 R2 r2 h =>
   ⟨x,y,g2,dX,R2,r1.ext e2,r2,u3 (λd g' h=>h.ext (e1.trans e2)) h⟩
theorem QJ{op:CmpOp}(h:PT X e (Ce (qT (r2 X.K (.cmp op)) (LE X.K Ξ (aK P ma)) (LE X.K Ξ (aK P mb))))):PT X e (LT X.K Ξ (cC P (.fy (.prim (.cmp op) (.cons ma (.cons mb .nil)))))) :=
 h.imp λbR H Q ⟨Z,g,ρ,s,R,h⟩=>by
  simp only[cC,aK,cW] at h;refine eV hP s R (.refl _ _) h λx g1 bH H1 v1 e1 R1 r1 h=>eV hP (s.ext e1) R1 e1 h λy g2 dX H2 v2 e2 R2 r2 h=>?_;obtain⟨d',g',h,q⟩:=h;obtain⟨x',y',t,ex,hc,rfl,rfl⟩:=id h;refine⟨x,y,g',dX,R2,r1.ext e2,r2,_,_,h,λbB H' v e' R' r'=>?_⟩;obtain⟨t',ht,q⟩:=q;rcases ht with⟨z,_⟩|z|⟨i,z,_⟩|⟨l,z,_⟩|⟨a,l,z,_⟩<;>cases z
  exact⟨_,r'.L1,q bB H' (e1.trans (e2.trans e')) R'⟩
theorem JE{op:UnaryOp}(ha:PE X a (LE X.K Ξ (aK P ma))):PE X (.UnaryOp op a pos) (LE X.K Ξ (aK P (.prim (.un op) (.cons ma .nil)))) :=
 (Wa (VT op) ha).imp λbR H Q ⟨Z,g,ρ,s,R,h⟩=>by
  simp only[aK,cW] at h;exact eV hP s R (.refl _ _) h λx g1 bH H1 v1 e1 R1 r1 h=>⟨x,g1,bH,R1,r1,u3 (λd g' h=>h.ext e1) h⟩
theorem Ji{op gR:CmpOp}:∀bR H Q,LE X.K Ξ (aK P (.chain op gR ma mb mc)) bR H Q->AB (r2 X.K (.cmp op)) (r2 X.K (.cmp gR)) (LE X.K Ξ (aK P ma)) (LE X.K Ξ (aK P mb)) (LE X.K Ξ (aK P mc)) bR H Q:=λbR H Q ⟨Z,g,ρ,s,R,h⟩=>by
 simp only[aK] at h;refine eV hP s R (.refl _ _) h λx g1 bH H1 v1 e1 R1 r1 h=>eV hP (s.ext e1) R1 e1 h λy g2 dX H2 v2 e2 R2 r2 h=>?_;refine⟨x,y,g2,dX,R2,r1.ext e2,r2,u3 (λd g3 h iN H3 v3 e3 R3 r3=>?_) h⟩;obtain⟨t,rfl,h⟩:=h;obtain rfl:=r3.L1;refine⟨t,rfl,?_⟩;cases t
 ·exact h iN H3 _ (e1.trans (e2.trans e3)) R3 (.bl _)
 ·exact eV hP (s.ext (e1.trans (e2.trans e3))) R3 (e1.trans (e2.trans e3)) h λz g4 pq H4 v4 e4 R4 r4 h =>
   ⟨y,z,g4,pq,R4,r2.ext (e3.trans e4),r4,u3 (λd g' h=>h.ext (e1.trans (e2.trans (e3.trans e4)))) h⟩
theorem a18{op gR:CmpOp}(hu:X.A.units+100<cLine)(ha:PE X a (LE X.K Ξ (aK P ma)))(hb:PE X b (LE X.K Ξ (aK P mb)))(hc:PE X c (LE X.K Ξ (aK P mc)))(hm:lastMarks [op,gR] [b,c]=false) :
  PE X (.Compare a [op,gR] [b,c] pos) (LE X.K Ξ (aK P (.chain op gR ma mb mc))):=(a39 (X2 hu op) (X2 hu gR) ha hb hc hm).imp (Ji hP)
theorem ZP{op gR:CmpOp}{Z:S}{g:G}{Q:Bool->G->Prop}{E:KX}(h:cC P (.fy (.chain op gR ma mb mc)) Z g Q E):aK P (.chain op gR ma mb mc) Z g (λd g'=>∃t,d=.bl t/\Q t g') E:=by
 have one:∀{o:CmpOp} {xs:List D} {g:G},cL (.cmp o) xs g (λd g1=>oN g1 d λb=>Q b g1)->cL (.cmp o) xs g λd g'=>∃t,d=.bl t/\Q t g':=by
  intro o xs g h;obtain⟨d',g',h,t',ht,q⟩:=h;obtain⟨x',y',t,ex,hc,rfl,rfl⟩:=id h;refine⟨_,_,h,t',?_,q⟩;rcases ht with⟨z,_⟩|z|⟨i,z,_⟩|⟨l,z,_⟩|⟨a,l,z,_⟩<;>first|exact z|cases z
 simp only[cC,aK] at h ⊢;refine c6 hP ma _ _ _ _ _ _ (λx g1 h=>c6 hP mb _ _ _ _ _ _ (λy g2 h=>u3 (λz g3 h=>?_) h) (λ_ _ z=>z) h) (λ_ _ z=>z) h;obtain⟨t,rfl,h⟩:=h;refine⟨t,rfl,?_⟩;cases t
 ·obtain⟨b,hb,q⟩:=(show oN g3 (.bl false) λb=>Q b g3 from h)
  rcases hb with⟨z,_⟩|z|⟨i,z,_⟩|⟨l,z,_⟩|⟨a,l,z,_⟩<;>first|(cases z;exact⟨_,rfl,q⟩)|cases z
 ·exact c6 hP mc _ _ _ _ _ _ (λw g4 h=>one h) (λ_ _ z=>z) h
theorem a08{op gR:CmpOp}(hu:X.A.units+100<cLine)(ha:PE X a (LE X.K Ξ (aK P ma)))(hb:PE X b (LE X.K Ξ (aK P mb)))(hc:PE X c (LE X.K Ξ (aK P mc)))(hm:lastMarks [op,gR] [b,c]=false) :
  PT X (.Compare a [op,gR] [b,c] pos) (LT X.K Ξ (cC P (.fy (.chain op gR ma mb mc)))) :=
 (a26 (X2 hu op) (X2 hu gR) ha hb hc hm).imp λbR H Q ⟨Z,g,ρ,s,R,h⟩ =>
  Ji hP bR H _ (eV hP s R (.refl _ _) (ZP hP h) λx g1 bH H1 v1 e1 R1 r1 h=>by
   obtain⟨t,rfl,h⟩:=h;exact ⟨t,r1.L1,h bH H1 e1 R1⟩)
theorem Qm{rest:List Expr}(ha:PE X a (LE X.K Ξ (aK P ma)))(hb:PE X (.BoolOp .And (b::rest) pos) (LE X.K Ξ (aK P mb))):PE X (.BoolOp .And (a::b::rest) pos) (LE X.K Ξ (aK P (.dQ ma mb))) :=
 (Pu ha hb).imp λbR H Q ⟨Z,g,ρ,s,R,h⟩=>by
  simp only[aK] at h;refine eV hP s R (.refl _ _) h λx g1 bH H1 v1 e1 R1 r1 h=>?_;obtain⟨t,rfl,h⟩:=h;refine⟨t,r1.L1,?_⟩;cases t
  ·exact h bH H1 _ e1 R1 (.bl _)
  ·exact eV hP (s.ext e1) R1 e1 h λy g2 dX H2 v2 e2 R2 r2 h=>h dX H2 v2 (e1.trans e2) R2 r2
theorem Wo{rest:List Expr}(ha:PE X a (LE X.K Ξ (aK P ma)))(hb:PE X (.BoolOp .Or (b::rest) pos) (LE X.K Ξ (aK P mb))):PE X (.BoolOp .Or (a::b::rest) pos) (LE X.K Ξ (aK P (.jG ma mb))) :=
 (V' ha hb).imp λbR H Q ⟨Z,g,ρ,s,R,h⟩=>by
  simp only[aK] at h;refine eV hP s R (.refl _ _) h λx g1 bH H1 v1 e1 R1 r1 h=>?_;obtain⟨t,rfl,h⟩:=h;refine⟨t,r1.L1,?_⟩;cases t
  ·exact eV hP (s.ext e1) R1 e1 h λy g2 dX H2 v2 e2 R2 r2 h=>h dX H2 v2 (e1.trans e2) R2 r2
  ·exact h bH H1 _ e1 R1 (.bl _)
theorem Qt(ha:PE X a (LE X.K Ξ (aK P ma))):PE X (.UnaryOp .Not a pos) (LE X.K Ξ (aK P (.dH ma))) :=
 (PH ha).imp λbR H Q ⟨Z,g,ρ,s,R,h⟩=>by
  simp only[aK] at h;refine eV hP s R (.refl _ _) h λx g1 bH H1 v1 e1 R1 r1 h=>?_;obtain⟨t,rfl,h⟩:=h;exact⟨t,r1.L1,h bH H1 _ e1 R1 (.bl _)⟩
theorem Qr(hc:PT X c (LT X.K Ξ (cC P mc)))(ha:PE X a (LE X.K Ξ (aK P ma)))(hb:PE X b (LE X.K Ξ (aK P mb))):PE X (.IfExp c a b pos) (LE X.K Ξ (aK P (.ite mc ma mb))) :=
 (a37 hc ha hb).imp λbR H Q ⟨Z,g,ρ,s,R,h⟩=>by
  simp only[aK] at h;refine nM hP s R (.refl _ _) h λt g1 bH H1 e1 R1 h=>?_;cases t
  ·exact eV hP (s.ext e1) R1 e1 h λy g2 dX H2 v2 e2 R2 r2 h=>h dX H2 v2 (e1.trans e2) R2 r2
  ·exact eV hP (s.ext e1) R1 e1 h λy g2 dX H2 v2 e2 R2 r2 h=>h dX H2 v2 (e1.trans e2) R2 r2
theorem Qv{es:List Expr}{gC:ME}{k:Nat}(h:PA X es (LA X.K Ξ (cW P gC))):PE X (.Tuple es k pos) (LE X.K Ξ (aK P (.prim .tup gC))) :=
 (PL h).imp λbR H Q ⟨Z,g,ρ,s,R,h⟩=>by
  simp only[aK] at h;refine js hP s R (.refl _ _) h λds g1 bH H1 vs e1 R1 r1 h=>?_;obtain⟨d',g',⟨hz,rfl,rfl⟩,q⟩:=h;exact⟨by rw[<- r1.length];exact m7 (aD hz (by decide)),λp hp=>(q.ext e1).tup R1 hp r1⟩
theorem Qs{es:List Expr}{gC:ME}(h:PA X es (LA X.K Ξ (cW P gC))):PE X (.List es pos) (LE X.K Ξ (aK P (.prim .lst gC))) :=
 (Pz h).imp λbR H Q ⟨Z,g,ρ,s,R,h⟩=>by
  simp only[aK] at h;refine js hP s R (.refl _ _) h λds g1 bH H1 vs e1 R1 r1 h=>?_;obtain⟨d',g',⟨hz,rfl,rfl⟩,q⟩:=h;exact⟨by rw[<- r1.length];exact m7 (aD hz (by decide)),λp hp=>(q.ext e1).new R1 hp r1⟩
theorem K4:PA X [] (LA X.K Ξ (cW P .nil)) :=
 (X0 (X:=X)).imp λbR H Q ⟨Z,g,ρ,s,R,h⟩=>by
  simp only[cW] at h;exact h ρ H [] (.refl _ _) R .nil
theorem C0{es:List Expr}{gC:ME}(ha:PE X a (LE X.K Ξ (aK P ma)))(h:PA X es (LA X.K Ξ (cW P gC)))(hs:starEach (a::es) X.env=(false,eval a X.env)::starEach es X.env):PA X (a::es) (LA X.K Ξ (cW P (.cons ma gC))) :=
 (P8 ha h hs).imp λbR H Q ⟨Z,g,ρ,s,R,h⟩=>by
  simp only[cW] at h;exact eV hP s R (.refl _ _) h λx g1 bH H1 v1 e1 R1 r1 h=>js hP (s.ext e1) R1 e1 h λxs g2 dX H2 vs e2 R2 r2 h=>h dX H2 _ (e1.trans e2) R2 (.cons (r1.ext e2) r2)
theorem a12{p2:Pos}(ha:PE X a (LE X.K Ξ (aK P ma))):PE X (.Subscript a (.Slice none none none p2) pos) (LE X.K Ξ (aK P (.prim (.lG false false) (.cons ma .nil)))) :=
 (Bn Ca ha xG xG).imp λbR H Q ⟨Z,g,ρ,s,R,h⟩=>by
  simp only[aK,cW] at h;refine eV hP s R (.refl _ _) h λx g1 bH H1 v1 e1 R1 r1 h=>?_;obtain⟨d',g',⟨x',ex,h⟩,q⟩:=h;cases ex;exact⟨x,g1,bH,d',g',R1,r1,h,q.ext e1⟩
theorem a10{p2:Pos}(ha:PE X a (LE X.K Ξ (aK P ma)))(hb:PE X b (LE X.K Ξ (aK P mb))):PE X (.Subscript a (.Slice (some b) none none p2) pos) (LE X.K Ξ (aK P (.prim (.lG true false) (.cons ma (.cons mb .nil))))) :=
 (Bn Ca ha (IT hb) xG).imp λbR H Q ⟨Z,g,ρ,s,R,h⟩=>by
  simp only[aK,cW] at h;refine eV hP s R (.refl _ _) h λx g1 bH H1 v1 e1 R1 r1 h=>eV hP (s.ext e1) R1 e1 h λy g2 dX H2 v2 e2 R2 r2 h=>?_;obtain⟨d',g',⟨x',i,ex,h⟩,q⟩:=h;cases ex;exact⟨i,r2.i6,x,g2,dX,d',g',R2,r1.ext e2,h,q.ext (e1.trans e2)⟩
theorem a11{p2:Pos}(ha:PE X a (LE X.K Ξ (aK P ma)))(hb:PE X b (LE X.K Ξ (aK P mb))):PE X (.Subscript a (.Slice none (some b) none p2) pos) (LE X.K Ξ (aK P (.prim (.lG false true) (.cons ma (.cons mb .nil))))) :=
 (Bn Ca ha xG (IT hb)).imp λbR H Q ⟨Z,g,ρ,s,R,h⟩=>by
  simp only[aK,cW] at h;refine eV hP s R (.refl _ _) h λx g1 bH H1 v1 e1 R1 r1 h=>eV hP (s.ext e1) R1 e1 h λy g2 dX H2 v2 e2 R2 r2 h=>?_;obtain⟨d',g',⟨x',i,ex,h⟩,q⟩:=h;cases ex;exact⟨i,r2.i6,x,g2,dX,d',g',R2,r1.ext e2,h,q.ext (e1.trans e2)⟩
theorem QK(ha:PE X a (LE X.K Ξ (aK P ma)))(he:∀whole,isTrue a X.env whole=(do let v <- whole;standAt a.pos;holding [v] (truthy v))):PT X a (LT X.K Ξ (cC P (.fy ma))) :=
 (a25 ha he).imp λbR H Q ⟨Z,g,ρ,s,R,h⟩=>by
  simp only[cC] at h;refine eV hP s R (.refl _ _) h λx g1 bH H1 v1 e1 R1 r1 h=>?_;obtain⟨b,h1,h2⟩:=h;exact⟨b,QY R1 r1 h1,h2 bH H1 e1 R1⟩
theorem QI(ha:PT X a (LT X.K Ξ (cC P ma))):PT X (.UnaryOp .Not a pos) (LT X.K Ξ (cC P (.dH ma))) :=
 (Qe ha).imp λbR H Q ⟨Z,g,ρ,s,R,h⟩=>by
  simp only[cC] at h;exact nM hP s R (.refl _ _) h λt g1 bH H1 e1 R1 h=>h bH H1 e1 R1
theorem QM{rest:List Expr}(ha:PT X a (LT X.K Ξ (cC P ma)))(hb:PW X (.BoolOp .And (b::rest) pos) (LT X.K Ξ (cC P mb))):PW X (.BoolOp .And (a::b::rest) pos) (LT X.K Ξ (cC P (.dQ ma mb))) :=
 (Qf ha hb).imp λbR H Q ⟨Z,g,ρ,s,R,h⟩=>by
  simp only[cC] at h;refine nM hP s R (.refl _ _) h λt g1 bH H1 e1 R1 h=>?_;cases t
  ·exact h bH H1 e1 R1
  ·exact nM hP (s.ext e1) R1 e1 h λt g2 dX H2 e2 R2 h=>h dX H2 (e1.trans e2) R2
theorem NS{rest:List Expr}(ha:PT X a (LT X.K Ξ (cC P ma)))(hb:PW X (.BoolOp .Or (b::rest) pos) (LT X.K Ξ (cC P mb))):PW X (.BoolOp .Or (a::b::rest) pos) (LT X.K Ξ (cC P (.jG ma mb))) :=
 (We ha hb).imp λbR H Q ⟨Z,g,ρ,s,R,h⟩=>by
  simp only[cC] at h;refine nM hP s R (.refl _ _) h λt g1 bH H1 e1 R1 h=>?_;cases t
  ·exact nM hP (s.ext e1) R1 e1 h λt g2 dX H2 e2 R2 h=>h dX H2 (e1.trans e2) R2
  ·exact h bH H1 e1 R1
theorem SY:ko X [] (LT X.K Ξ (cC P .no)) :=
 (Sv (X:=X)).imp λbR H Q ⟨Z,g,ρ,s,R,h⟩=>by
  simp only[cC] at h;exact h ρ H (.refl _ _) R
theorem Qn{x:Str}{v:Value}{es:List Expr}{gC:ME}{q:Pos}(hv:(∃id,v=.builtin id)\/∃T,v=.type T)(hc:m9 X v (rN X.K p))(hg:Gl X x)(hm:X.mg x=none)(hb:bootBuiltins x=some v)(ha:PA X (e::es) (LA X.K Ξ (cW P gC)))(hn:x≠"__name__")(hd:(x==("__debug__":Str))=false)(fz:starEach (e::es) X.env=(false,eval e X.env)::starEach es X.env)(gE:(backTo pos (starEach es X.env)).any (·.1)=false):PE X (.Call (.Name x q) (e::es) [] pos) (LE X.K Ξ (aK P (.prim p gC))):=by
 have base:PE X (.Call (.Name x q) (e::es) [] pos) (yy (rN X.K p) (LA X.K Ξ (cW P gC))):=by
  rcases hv with⟨id,rfl⟩|⟨T,rfl⟩
  ·exact Y9 hc hg hm hb ha hn hd fz gE
  ·exact N8 hc hg hm hb ha hn hd fz gE
 refine base.imp λbR H Q ⟨Z,g,ρ,s,R,h⟩=>?_;simp only[aK] at h;exact js hP s R (.refl _ _) h λxs g1 bH H1 vs e1 R1 r1 h=>⟨xs,g1,bH,R1,r1,u3 (λd g' h=>h.ext e1) h⟩
theorem SJ{o:Expr}{es:List Expr}{mo gC:ME}{T:String}{name:Str}{id:String}{apos:Pos}(pa:PlainAttrs T)(slot:Slot T name id)(mX:typeOf (.builtin id)=pure (.type "method_descriptor"))(hm:my X id (rM X.K p))(hk:∀{d:D} {v:V} {g:G} {ρ:List Addr} {H:Hp},Rl X.K ρ g H->f7 X.K ρ H d v->kW p d g->mD X.K T v H)(ho:PE X o (LE X.K Ξ (aK P mo)))(ha:PA X (e::es) (LA X.K Ξ (cW P gC)))(iE:attributeBase o name X.env (eval o X.env)=eval o X.env)(pR:((backTo pos (starEach (e::es) X.env)).all (λx=>!x.1)&&(backToKw pos (keywordEach [] X.env)).all (λx=>x.1.isSome)&&decide ((e::es).length+([]:List Keyword).length+(if([]:List Keyword).isEmpty then 0 else 1)<30))=true)(iD:(apos.endLine==pos.line)=true)(hs:starEach (e::es) X.env=(false,eval e X.env)::starEach es X.env)(fU:(backTo pos (starEach es X.env)).any (·.1)=false) :
  PE X (.Call (.Attribute o name apos) (e::es) [] pos) (LE X.K Ξ (aK P (.eF p mo gC))) :=
 (VX pa slot mX hm ho ha iE pR iD hs fU).imp λbR H Q ⟨Z,g,ρ,s,R,h⟩=>by
  simp only[aK] at h;exact eV hP s R (.refl _ _) h λx g1 bH H1 v1 e1 R1 r1 h=>⟨hk R1 r1 h.1,js hP (s.ext e1) R1 e1 h.2 λxs g2 dX H2 ws e2 R2 r2 h =>
   ⟨x,xs,g2,dX,R2,r1.ext e2,r2,u3 (λd g' h=>h.ext (e1.trans e2)) h⟩⟩
theorem a14{o:Expr}{mo:ME}{T:String}{name:Str}{id:String}{apos:Pos}(pa:PlainAttrs T)(slot:Slot T name id)(mX:typeOf (.builtin id)=pure (.type "method_descriptor"))(hm:my X id (rM X.K p))(hk:∀{d:D} {v:V} {g:G} {ρ:List Addr} {H:Hp},Rl X.K ρ g H->f7 X.K ρ H d v->kW p d g->mD X.K T v H)(ho:PE X o (LE X.K Ξ (aK P mo)))(iE:attributeBase o name X.env (eval o X.env)=eval o X.env)(iD:(apos.endLine==pos.line)=true) :
  PE X (.Call (.Attribute o name apos) [] [] pos) (LE X.K Ξ (aK P (.eF p mo .nil))) :=
 (Pw pa slot mX hm ho iE iD).imp λbR H Q ⟨Z,g,ρ,s,R,h⟩=>by
  simp only[aK,cW] at h;exact eV hP s R (.refl _ _) h λx g1 bH H1 v1 e1 R1 r1 h=>⟨hk R1 r1 h.1,x,[],g1,bH,R1,r1,.nil,u3 (λd g' h=>h.ext e1) h.2⟩
theorem a17{q p2 ja:Pos}(hc:X.calm=true)(ha:PE X a (LE X.K Ξ (aK P ma)))(lW:Gl X "list")(lU:X.mg "list"=none)(hg:Gl X "range")(hm:X.mg "range"=none)(hs:starEach [a] X.env=[(false,eval a X.env)]) :
  PE X (.Call (.Name "list" p2) [.Call (.Name "range" q) [a] [] pos] [] ja) (LE X.K Ξ (aK P (.prim .iT (.cons ma .nil)))) :=
 (N8 (HK hc) lW lU (by first|exact eL|decide +kernel) (P8 (XQ hg hm (C0 hP ha (K4 hP) (by rw[hs];rfl)) hs) X0)).imp λbR H Q ⟨Z,g,ρ,s,R,h⟩=>by
  simp only[aK] at h;refine js hP s R (.refl _ _) h λxs g1 bH H1 vs e1 R1 r1 h=>?_;obtain⟨d',g',⟨j,rfl,h1,h2,rfl,rfl⟩,q⟩:=h;obtain⟨v,rfl,rv⟩:=r1.one;obtain rfl:=rv.i6;refine⟨j,rfl,λq' hq=>⟨q',0,j,rfl,t8,⟨by omega,by omega,h1,by omega,by omega⟩,λp hp=>?_⟩⟩;rw[show(j-0).toNat=j.toNat by omega];exact(q.ext (e1.trans (A7 hq))).new (R1.grow hq) hp (c8.kS 0 _)
theorem a16{q p2 ja:Pos}(hc:X.calm=true)(ha:PE X a (LE X.K Ξ (aK P ma)))(hb:PE X b (LE X.K Ξ (aK P mb)))(lW:Gl X "list")(lU:X.mg "list"=none)(hg:Gl X "range")(hm:X.mg "range"=none)(hs:starEach [a,b] X.env=[(false,eval a X.env),(false,eval b X.env)])(iH:starEach [b] X.env=[(false,eval b X.env)]) :
  PE X (.Call (.Name "list" p2) [.Call (.Name "range" q) [a,b] [] pos] [] ja) (LE X.K Ξ (aK P (.prim .jy (.cons ma (.cons mb .nil))))) :=
 (N8 (HK hc) lW lU (by first|exact eL|decide +kernel) (P8 (XR hg hm (C0 hP ha (C0 hP hb (K4 hP) (by rw[iH];rfl)) (by rw[hs,iH])) hs iH) X0)).imp λbR H Q ⟨Z,g,ρ,s,R,h⟩=>by
  simp only[aK] at h;refine js hP s R (.refl _ _) h λxs g1 bH H1 vs e1 R1 r1 h=>?_;obtain⟨d',g',⟨i,j,rfl,hb,rfl,rfl⟩,q⟩:=h;obtain⟨v,w,rfl,rv,fE⟩:=r1.two;obtain rfl:=rv.i6;obtain rfl:=fE.i6;exact⟨i,j,rfl,λq' hq=>⟨q',i,j,rfl,t8,hb,λp hp=>(q.ext (e1.trans (A7 hq))).new (R1.grow hq) hp (c8.kS i _)⟩⟩
theorem SM{q p2 ja:Pos}(hc:X.calm=true)(ha:PE X a (LE X.K Ξ (aK P ma)))(lW:Gl X "sorted")(lU:X.mg "sorted"=none)(hg:Gl X "set")(hm:X.mg "set"=none)(hs:starEach [a] X.env=[(false,eval a X.env)]) :
  PE X (.Call (.Name "sorted" p2) [.Call (.Name "set" q) [a] [] pos] [] ja) (LE X.K Ξ (aK P (.prim .sset (.cons ma .nil)))) :=
 (Y9 (V0 hc) lW lU (by first|exact oX|decide +kernel) (P8 (N8 (HG hc) hg hm (by first|exact vK|decide +kernel) (C0 hP ha (K4 hP) (by rw[hs];rfl)) (by decide) (by decide) (by rw[hs];rfl) rfl) X0)).imp λbR H Q ⟨Z,g,ρ,s,R,h⟩=>by
  simp only[aK] at h;refine js hP s R (.refl _ _) h λxs g1 bH H1 vs e1 R1 r1 h=>?_;obtain⟨d',g',⟨i,ns,rfl,hl,hz,rfl,rfl⟩,q⟩:=h;obtain⟨v,rfl,rv⟩:=r1.one;obtain⟨a',rfl,ra⟩:=rv.j8;obtain⟨ws,hq,rs⟩:=R1.items hl ra;obtain rfl:=rs.ints;refine⟨_,ns,rfl,hq,hz,λq' lR=>⟨q',ns,rfl,t8,hz,λp hp=>?_⟩⟩;exact(q.ext (e1.trans (A7 lR))).new (R1.grow lR) hp (c8.ofInts _)
theorem SH{q p2 ja:Pos}(hc:X.calm=true)(ha:PE X a (LE X.K Ξ (aK P ma)))(lW:Gl X "len")(lU:X.mg "len"=none)(hg:Gl X "set")(hm:X.mg "set"=none)(hs:starEach [a] X.env=[(false,eval a X.env)]) :
  PE X (.Call (.Name "len" p2) [.Call (.Name "set" q) [a] [] pos] [] ja) (LE X.K Ξ (aK P (.prim .rW (.cons ma .nil)))) :=
 (Y9 Wv lW lU PySem.boot_len (P8 (N8 (HG hc) hg hm (by first|exact vK|decide +kernel) (C0 hP ha (K4 hP) (by rw[hs];rfl)) (by decide) (by decide) (by rw[hs];rfl) rfl) X0)).imp λbR H Q ⟨Z,g,ρ,s,R,h⟩=>by
  simp only[aK] at h;refine js hP s R (.refl _ _) h λxs g1 bH H1 vs e1 R1 r1 h=>?_;obtain⟨d',g',⟨i,ns,rfl,hl,hz,rfl,rfl⟩,q⟩:=h;obtain⟨v,rfl,rv⟩:=r1.one;obtain⟨a',rfl,ra⟩:=rv.j8;obtain⟨ws,hq,rs⟩:=R1.items hl ra;obtain rfl:=rs.ints;refine⟨_,ns,rfl,hq,hz,λq' lR=>⟨q',_,rfl,t8,?_⟩⟩;exact(q.ext (e1.trans (A7 lR))).now (R1.grow lR) (.int _)
theorem SK{i:Int}{j:Nat}{q:Pos}(lY:PySem.W.kdsCode X.K X.env.code=true):PE X (.Set [.Constant (.int i) j q] 0 pos) (LE X.K Ξ (aK P (.prim (.jt i) .nil))) :=
 (Sl lY).imp λbR H Q ⟨Z,g,ρ,s,R,h⟩=>by
  simp only[aK,cW] at h;obtain⟨d',g',⟨_,rfl,rfl⟩,q⟩:=h;exact λp hp=>q (ρ++[p]) _ _ (M1 hp) (R.new hp (o:=.set (λk=>decide (k=i)) 1) (u:=.set (λk=>decide (k=i)) 1) ⟨rfl,rfl⟩) (.ref (R.C4 p))
theorem Qp{f:Str}(ha:PE X a (LE X.K Ξ (aK P ma)))(hb:attributeBase a f X.env (eval a X.env)=eval a X.env):PE X (.Attribute a f pos) (LE X.K Ξ (aK P (.prim (.fld f) (.cons ma .nil)))) :=
 (Px ha hb).imp λbR H Q ⟨Z,g,ρ,s,R,h⟩=>by
  simp only[aK,cW] at h;refine eV hP s R (.refl _ _) h λx g1 bH H1 v1 e1 R1 r1 h=>?_;obtain⟨d',g',⟨i,c,fs,ex,hi,hf,rfl⟩,q⟩:=h;cases ex;obtain⟨a',rfl,ra⟩:=r1.j8;obtain⟨C,dx,vs,hH,_,hC,rk,na⟩:=R1.ins hi ra;have lk:=rk.look f;rw[hf] at lk;obtain⟨v,hv,rv⟩:=lk.some;exact⟨a',C,dx,vs,v,rfl,hH,hC,na _ (aM hf),hv,q bH H1 v e1 R1 rv⟩
end
section
variable{X:Cx}{Ξ:gA}{P:eR}{a b c:Expr}{ma mb mc:ME}{pos:Pos}
theorem Qw{i:Nat}{x:Str}(hN:X.N[i]?=some x)(hv:vz X.env.scope x)(hd:(x==("__debug__":Str))=false)(jX:(x==("__classdict__":Str))=false):PE X (.Name x pos) (LE X.K Ξ (aK P (.var i))) :=
 (PN hN hv hd jX).imp λbR H Q ⟨Z,g,ρ,s,R,h⟩=>by
  simp only[aK] at h;obtain⟨d,e,h⟩:=h;obtain⟨v,h1,h2⟩:=s.val _ _ e;exact⟨v,h1,h.now R h2⟩
theorem Q9{e:Expr}{d:D}{v:V}(h:PE X e (tC v))(r:∀ρ H,f7 X.K ρ H d v):PE X e (LE X.K Ξ (aK P (.lit d))) :=
 h.imp λbR H Q ⟨Z,g,ρ,s,R,h⟩=>by
  simp only[aK] at h;exact LQ.now h R (r ρ H)
theorem SE:PE X (.Dict [] [] pos) (LE X.K Ξ (aK P (.prim .nC .nil))) :=
 (a38 (X:=X)).imp λbR H Q ⟨Z,g,ρ,s,R,h⟩ p hp=>by
  simp only[aK,cW] at h;obtain⟨d',g',⟨_,rfl,rfl⟩,q⟩:=h;exact q (ρ++[p]) _ _ (M1 hp) (R.new hp (o:=.dF []) (u:=.dK []) i8.nil) (.ref (R.C4 p))
end
end M

namespace L2
open PySem PySem.Spec PyProof.Rows
section
variable{X:Cx}{m:Str}{pos apos:Pos}{e o:Expr}{es:List Expr}{ta:TE}{t:TA}
end
end L2
namespace M
open PySem L2 PySem.Spec PyProof.Rows
inductive oG(K:PySem.W.Frag):List D->List (Str×V)->Prop
 |nil:oG K [] []
 |cons {x:Str} {d:D} {v:V} {ds:List D} {vs:List (Str×V)} (h:∀ρ H,f7 K ρ H d v) (r:oG K ds vs):oG K (.tup [.str x,d]::ds) ((x,v)::vs)
theorem oG.look{K:PySem.W.Frag}{ρ:List Addr}{H:Hp}{ds vs}(x:Str)(h:oG K ds vs):qG K ρ H (N1 ds x) (vs.lookup x):=by
 induction h with
 |nil=>trivial
 |cons h r ih =>
  rename_i y d v ds vs;unfold N1;rw[cA];by_cases e:x=y
  ·rw[aH e,show(x==y)=true from by simp[e]];exact h ρ H
  ·rw[aB e,show(x==y)=false from by simpa using e];exact ih
noncomputable def wL(X:Cx)(x:Str)(kvs:List D):Prop:=∃A vs,X.mg x=some (.ref A)/\vc X.K X.w.params A vs/\oG X.K kvs vs
noncomputable def wU(neg:Bool):Pr:=if neg then .uI else .EO
theorem ID{neg:Bool}:PR (wU neg)=CL neg:=by cases neg<;>rfl
theorem Ye(a b c:Str):a++b++c=a++(b++c):=by
 cases a;cases b;cases c;show Str.mk _=Str.mk _;exact gH Str.mk (Ki ..)
theorem SX(x:Str):x++Str.empty=x:=by cases x;show Str.mk _=_;simp[Str.empty]
theorem RS(x:Str):Str.empty++x=x:=by cases x;show Str.mk _=_;simp[Str.empty]
section
variable{X:Cx}{Ξ:gA}{P:eR}(hP:i7 P){a b c:Expr}{ma mb mc:ME}{pos:Pos}
include hP
theorem Qq{x:Str}{p:Pos}{kvs:List D}{neg:Bool}(hg:Gl X x)(hd:(x==("__debug__":Str))=false)(hG:wL X x kvs)(ha:PE X a (LE X.K Ξ (aK P ma)))(hm:behindInMarks (if neg then .NotIn else .In) (.Name x p)=false) :
  PE X (.Compare a [if neg then .NotIn else .In] [.Name x p] pos) (LE X.K Ξ (aK P (.prim (wU neg) (.cons (.lit (.tup kvs)) (.cons ma .nil))))):=by
 obtain⟨A,vs,hmg,hk,gr⟩:=hG;refine(IP (Ih (kvs:=vs) neg) ha (xF (v:=.ref A) hg hmg rfl hd) hm).imp λbR H Q ⟨Z,g,ρ,s,R,h⟩=>?_;simp only[aK,cW] at h;refine eV hP s R (.refl _ _) h λd g1 bH H1 v1 e1 R1 r1 h=>?_;obtain⟨d',g',h,q⟩:=h;rw[ID] at h;obtain⟨iz,z,ex,rfl,rfl⟩:=h;cases ex;obtain rfl:=r1.C9;refine⟨A,z,rfl,hk,rfl,?_⟩;rw[<- (gr.look (ρ:=bH) (H:=H1) z).isSome];exact q bH H1 _ e1 R1 (.bl _)
theorem QG{x:Str}{p:Pos}{kvs:List D}{neg:Bool}(hg:Gl X x)(hd:(x==("__debug__":Str))=false)(hG:wL X x kvs)(ha:PE X a (LE X.K Ξ (aK P ma)))(hm:behindInMarks (if neg then .NotIn else .In) (.Name x p)=false) :
  PT X (.Compare a [if neg then .NotIn else .In] [.Name x p] pos) (LT X.K Ξ (cC P (.fy (.prim (wU neg) (.cons (.lit (.tup kvs)) (.cons ma .nil)))))):=by
 obtain⟨A,vs,hmg,hk,gr⟩:=hG;refine(IU (Ih (kvs:=vs) neg) ha (xF (v:=.ref A) hg hmg rfl hd) hm).imp λbR H Q ⟨Z,g,ρ,s,R,h⟩=>?_;simp only[cC,aK,cW] at h;refine eV hP s R (.refl _ _) h λd g1 bH H1 v1 e1 R1 r1 h=>?_;obtain⟨d',g',h,t,ht,q⟩:=h;rw[ID] at h;obtain⟨iz,z,ex,rfl,rfl⟩:=h;cases ex;obtain rfl:=r1.C9;refine⟨A,z,rfl,hk,rfl,t,?_,q bH H1 e1 R1⟩;rw[<- (gr.look (ρ:=bH) (H:=H1) z).isSome];rcases ht with⟨z,_⟩|z|⟨i,z,_⟩|⟨l,z,_⟩|⟨a,l,z,_⟩<;>cases z
 rfl
theorem SG{x:Str}{p:Pos}{kvs:List D}(hg:Gl X x)(hd:(x==("__debug__":Str))=false)(hG:wL X x kvs)(ha:PE X a (LE X.K Ξ (aK P ma)))(hs:AL a):PE X (.Subscript (.Name x p) a pos) (LE X.K Ξ (aK P (.prim .mn (.cons (.lit (.tup kvs)) (.cons ma .nil))))):=by
 obtain⟨A,vs,hmg,hk,gr⟩:=hG;refine(JB (Vz (kvs:=vs)) (xF (v:=.ref A) hg hmg rfl hd) ha hs).imp λbR H Q ⟨Z,g,ρ,s,R,h⟩=>?_;simp only[aK,cW] at h;refine eV hP s R (.refl _ _) h λd g1 bH H1 v1 e1 R1 r1 h=>?_;obtain⟨d',g',⟨iz,z,ex,hz,rfl⟩,q⟩:=h;cases ex;obtain rfl:=r1.C9;have lk:=gr.look (ρ:=bH) (H:=H1) z;rw[hz] at lk;obtain⟨w,hw,lk⟩:=lk.some;exact⟨A,z,w,rfl,hk,rfl,hw,q bH H1 _ e1 R1 lk⟩
theorem Wn(ha:PE X a (LE X.K Ξ (aK P ma))):PE X (.FormattedValue a (-1) none pos) (LE X.K Ξ (aK P (.prim .fv (.cons ma .nil)))) :=
 (VY ha).imp λbR H Q ⟨Z,g,ρ,s,R,h⟩=>by
  simp only[aK,cW] at h;refine eV hP s R (.refl _ _) h λd g1 bH H1 v1 e1 R1 r1 h=>?_;obtain⟨d',g',⟨rfl,h⟩,q⟩:=h;rcases h with⟨i,ex,h1,rfl⟩|⟨z,ex,h1,rfl⟩
  ·cases ex;exact .inl ⟨i,r1.i6,h1,q bH H1 _ e1 R1 (.str _)⟩
  ·cases ex;exact .inr ⟨z,r1.C9,m7 (by omega),q bH H1 _ e1 R1 (.str _)⟩
omit hP in
inductive lh(X:Cx)(Ξ:gA)(P:eR):List Expr->ME->List TE->Prop
 |nil:lh X Ξ P [] .nil []
 |lit {x:Str} {j:Nat} {p:Pos} {es:List Expr} {ms:ME} {ts:List TE} (hx:x.length<=2000) (r:lh X Ξ P es ms ts):lh X Ξ P (.Constant (.str x) j p::es) (.cons (.lit (.str x)) ms) (LE X.K Ξ (aK P (.lit (.str x)))::ts)
 |val {e:Expr} {m:ME} {p:Pos} {es:List Expr} {ms:ME} {ts:List TE} (he:PE X e (LE X.K Ξ (aK P m))) (r:lh X Ξ P es ms ts):lh X Ξ P (.FormattedValue e (-1) none p::es) (.cons (.prim .fv (.cons m .nil)) ms) (LE X.K Ξ (aK P (.prim .fv (.cons m .nil)))::ts)
theorem lh.KY{es ms ts}(h:lh X Ξ P es ms ts):sy X es ts:=by
 induction h with
 |nil=>exact .nil
 |lit hx r ih=>exact .cons (Q9 Ii λ_ _=>.str _) ih
 |val he r ih=>exact .cons (Wn hP he) ih
theorem lh.join{bR:L2.St}{Q:Str->Hp->Prop}{es ms ts}(hf:lh X Ξ P es ms ts):∀{Z:S} {g:G} {ρ:List Addr} {H:Hp} {acc:Str},acc.length+2000*es.length<=100000->n8 X.K ρ H Z bR->Rl X.K ρ g H ->
  cW P ms Z g (λds g1=>∃x,U9 ds=some x/\∀bB H',Ext ρ H bB H'->Rl X.K bB g1 H'->Q (acc++x) H') (LX X.K ρ H Ξ)->xa ts bR H acc (λout H1=>out.length<=sizeLine/\Q out H1):=by
 have tl:∀{acc y:Str} {ρ:List Addr} {H:Hp} {bH:List Addr} {H1:Hp} {ds:List D} {g1:G},Ext ρ H bH H1->(∃x,U9 (.str y::ds)=some x/\∀bB H',Ext ρ H bB H'->Rl X.K bB g1 H'->Q (acc++x) H')->∃x,U9 ds=some x/\∀bB H',Ext bH H1 bB H'->Rl X.K bB g1 H'->Q (acc++y++x) H':=by
  intro acc y ρ H bH H1 ds g1 e1 h;obtain⟨x,hx,h⟩:=h;simp only[U9] at hx;cases hj:U9 ds with
  |none=>rw[hj] at hx;cases hx
  |some x' =>
   rw[hj] at hx;cases hx;refine⟨x',rfl,λbB H' e' R'=>?_⟩;rw[Ye];exact h bB H' (e1.trans e') R'
 induction hf with
 |nil =>
  intro Z g ρ H acc ha s R h;simp only[cW] at h;obtain⟨x,hx,h⟩:=h;cases hx;rw[SX] at h;exact⟨m7 (by simpa using ha),h ρ H (.refl _ _) R⟩
 |lit hx r ih =>
  rename_i y j p es ms ts;intro Z g ρ H acc ha s R h;simp only[cW,aK] at h;refine⟨Z,g,ρ,s,R,?_⟩;simp only[aK];intro bH H1 v1 e1 R1 r1;obtain rfl:=r1.C9;have hl:(acc++y).length<=acc.length+2000:=by rw[strLen_append];omega
  simp only[List.length_cons] at ha;exact⟨y,rfl,m7 (by omega),ih (by omega) (s.ext e1) R1 (w6 hP _ _ _ _ _ _ _ (λds g1 h=>tl e1 h) (λ_ _ z=>LX.ext e1 z) h)⟩
 |val he r ih =>
  rename_i e m p es ms ts;intro Z g ρ H acc ha s R h;simp only[cW,aK] at h;refine⟨Z,g,ρ,s,R,?_⟩;simp only[aK,cW];simp only[List.length_cons] at ha;refine c6 hP m _ _ _ _ _ _ (λd g1 h=>?_) (λ_ _ z=>z) h;obtain⟨d',g',⟨rfl,h⟩,q⟩:=h;have hy:∃y,d'=.str y/\y.length<=2000:=by
   rcases h with⟨i,ex,h1,rfl⟩|⟨z,ex,h1,rfl⟩
   ·exact⟨_,rfl,by rw[PySem.ofString_length];have:=int_text_length_le (k:=1920) (by decide) h1;omega⟩
   ·exact⟨z,rfl,h1⟩
  obtain⟨y,rfl,hy⟩:=hy;refine⟨_,_,⟨rfl,h⟩,λbH H1 v1 e1 R1 r1=>?_⟩;obtain rfl:=r1.C9;have hl:(acc++y).length<=acc.length+2000:=by rw[strLen_append];omega
  exact⟨y,rfl,m7 (by omega),ih (by omega) (s.ext e1) R1 (w6 hP _ _ _ _ _ _ _ (λds g1 h=>tl e1 h) (λ_ _ z=>LX.ext e1 z) q)⟩
theorem SF{kA kz:Expr}{rest:List Expr}{ms:ME}{ts:List TE}(h:lh X Ξ P (kA::kz::rest) ms ts)(hl:(kA::kz::rest).length<=40):PE X (.JoinedStr (kA::kz::rest) pos) (LE X.K Ξ (aK P (.prim .kJ ms))) :=
 (Sj (h.KY hP)).imp λbR H Q ⟨Z,g,ρ,s,R,hw⟩=>by
  simp only[aK] at hw;refine lh.join hP h (Q:=λout H1=>Q (.str out) H1) (acc:=Str.empty) ?_ s R (w6 hP ms _ _ _ _ _ _ (λds g1 hw=>?_) (λ_ _ z=>z) hw)
  ·have:Str.empty.length=0:=rfl;omega
  ·obtain⟨d',g',⟨x,hx,rfl,rfl⟩,q⟩:=hw;refine⟨x,hx,λbB H' e' R'=>?_⟩;rw[RS];exact q bB H' _ e' R' (.str _)
omit hP in
noncomputable def nR(ex:List Str)(K:PySem.W.Frag)(n:Nat)(t:List D->G->KD->KX->Prop):Sp:=λvs H Q E=>vs.length=n/\∃ds g ρ,c8 K ρ H ds vs/\Rl K ρ g H/\t ds g (LQ K ρ H Q) (LX K ρ H (ex,E))
omit hP in
noncomputable def oU(X:Cx)(P:eR)(ex:List Str)(k f:Nat)(fa:Addr)(fd:FuncData)(ps:List Str):Prop :=
 hU X.prog X.w X.K X.mg X.base (iJ X.prog X.w) k fa fd ps (nR ex X.K ps.length (P f))/\Binds X.K fd ps []/\∀ds g Q E,P f ds g Q E->ds.length=ps.length
theorem JH{k f:Nat}{fa:Addr}{fd:FuncData}{ps:List Str}(F:oU X P Ξ.1 k f fa fd ps){ρ fC:List Addr}{H H0:Hp}{g:G}{xs:List D}{vs:List V}{Q0:KD}{Q:VK}(e0:Ext fC H0 ρ H)(R:Rl X.K ρ g H)(r:c8 X.K ρ H xs vs)(h:P f xs g Q0 (LX X.K fC H0 Ξ))(k:∀d g',Q0 d g'->LQ X.K ρ H Q d g'):nR Ξ.1 X.K ps.length (P f) (vs++[]) H Q Ξ.2:=by
 rw[fu];exact⟨by rw[<- r.length];exact F.2.2 _ _ _ _ h,xs,g,ρ,r,R,hP _ _ _ _ _ _ _ k (λ_ _ z=>LX.ext e0 z) h⟩
theorem SD{k f:Nat}{x:Str}{fa:Addr}{fd:FuncData}{ps:List Str}{es:List Expr}{e:Expr}{gC:ME}{p:Pos}(hx:Passes (iJ X.prog X.w) X Ξ.2)(F:oU X P Ξ.1 k f fa fd ps)(hr:v9 k X.A)(hg:Gl X x)(hm:X.mg x=some (.ref fa))(hk:PySem.W.keepIn X.K (.ref fa)=true)(ha:PA X (e::es) (LA X.K Ξ (cW P gC)))(hd:(x==("__debug__":Str))=false)(fz:starEach (e::es) X.env=(false,eval e X.env)::starEach es X.env)(gE:(backTo pos (starEach es X.env)).any (·.1)=false):PE X (.Call (.Name x p) (e::es) [] pos) (LE X.K Ξ (aK P (.call f gC))) :=
 (Sg F.1 hr hg hm hk F.2.1 .nil hx ha hd fz gE).imp λbR H Q ⟨Z,g,ρ,s,R,h⟩=>by
  simp only[aK] at h;exact js hP s R (.refl _ _) h λxs g1 bH H1 vs e1 R1 r1 h=>JH hP F e1 R1 r1 h λd g' h=>h.ext e1
theorem IH{c:Str}{f k:Nat}{C fa:Addr}{fd:FuncData}{ps:List Str}(F:oU X P Ξ.1 k f fa fd ps)(hC:u4 X.K c C)(hc:jl X.K C){ρ fC:List Addr}{H H0:Hp}{g1:G}{xs:List D}{vs:List V}{Q:VK}(e0:Ext fC H0 ρ H)(R:Rl X.K ρ g1 H)(r:c8 X.K ρ H xs vs)(h:P f (.ref g1.length::xs) (g1++[.ins c []]) (λd g2=>d=.bO/\LQ X.K fC H0 Q (.ref g1.length) g2) (LX X.K fC H0 Ξ)):∀x dx,H x=none->H dx=none->dx≠x->nR Ξ.1 X.K ps.length (P f) (.ref x::(vs++[])) (upd (upd H dx (.own x)) x (.ins C dx [])) (λv H2=>v=.bO/\Q (.ref x) H2) Ξ.2:=by
 intro x dx hx EA dz;have nY:upd H dx (.own x) x=none:=by rw[i3 (bD dz)];exact hx
 have R2:=R.grow (o:=.own x) EA;have e2:Ext ρ H ρ (upd H dx (.own x)):=A7 EA;have R3:=R2.new (o:=.ins c []) (u:=.ins C dx []) nY ⟨hC,hc,.nil,λx hx=>absurd hx (by simp)⟩;have e3:Ext ρ (upd H dx (.own x)) (ρ++[x]) (upd (upd H dx (.own x)) x (.ins C dx [])):=M1 nY;have:=JH hP F (e0.trans (e2.trans e3)) R3 (.cons (.ref (R.C4 x)) (r.ext (e2.trans e3))) h (Q:=λv H2=>v=.bO/\Q (.ref x) H2) λd g' q bB H' v e' R' r'=>by
  obtain⟨rfl,q⟩:=q;exact⟨r'.xl,q bB H' _ (e0.trans (e2.trans (e3.trans e'))) R' (.ref (e'.get (R.C4 x)))⟩
 exact this
theorem SI{k f:Nat}{x:Str}{C fa:Addr}{fd:FuncData}{ps:List Str}{es:List Expr}{e:Expr}{gC:ME}{p:Pos}(hx:Passes (iJ X.prog X.w) X Ξ.2)(F:oU X P Ξ.1 k f fa fd ps)(M:Mk X.K C fa)(hC:u4 X.K x C)(hc:jl X.K C)(hr:v9 (k+1) X.A)(hg:Gl X x)(hm:X.mg x=some (.ref C))(ha:PA X (e::es) (LA X.K Ξ (cW P gC)))(hd:(x==("__debug__":Str))=false)(fz:starEach (e::es) X.env=(false,eval e X.env)::starEach es X.env)(gE:(backTo pos (starEach es X.env)).any (·.1)=false):PE X (.Call (.Name x p) (e::es) [] pos) (LE X.K Ξ (aK P (.make x f gC))) :=
 (Sk M F.1 hr hg hm F.2.1 .nil hx ha hd fz gE).imp λbR H Q ⟨Z,g,ρ,s,R,h⟩=>by
  simp only[aK] at h;exact js hP s R (.refl _ _) h λxs g1 bH H1 vs e1 R1 r1 h=>IH hP F hC hc e1 R1 r1 h
theorem a15{k f:Nat}{x:Str}{C fa:Addr}{fd:FuncData}{ps:List Str}{p:Pos}(hx:Passes (iJ X.prog X.w) X Ξ.2)(F:oU X P Ξ.1 k f fa fd ps)(M:Mk X.K C fa)(hC:u4 X.K x C)(hc:jl X.K C)(hr:v9 (k+1) X.A)(hg:Gl X x)(hm:X.mg x=some (.ref C))(hd:(x==("__debug__":Str))=false):PE X (.Call (.Name x p) [] [] pos) (LE X.K Ξ (aK P (.make x f .nil))) :=
 (a36 M F.1 hr hg hm F.2.1 .nil hx hd).imp λbR H Q ⟨Z,g,ρ,s,R,h⟩=>by
  simp only[aK,cW] at h;exact IH hP F hC hc (.refl _ _) R .nil h
end
end M

namespace M
open PySem L2 PySem.Spec PyProof.Rows
inductive jE(K:PySem.W.Frag)(ρ:List Addr)(H:Hp):List D->List (V×V)->Prop
 |nil:jE K ρ H [] []
 |cons {k d:D} {x y:V} {ds:List D} {ps:List (V×V)} (h1:f7 K ρ H k x) (h2:f7 K ρ H d y) (r:jE K ρ H ds ps):jE K ρ H (k::d::ds) ((x,y)::ps)
theorem Oy{K ρ H}{xs:List D}{ps:List (V×V)}(r:jE K ρ H xs ps):∀{acc kvs:List (Key×D)} {accV:List (Key×V)},vq xs acc=some kvs->i8 K ρ H acc accV->∃more:List (Key×V),ps=more.map (λkv=>(kV kv.1,kv.2))/\2*more.length=xs.length/\i8 K ρ H kvs (R5 accV more):=by
 induction r with
 |nil =>
  intro acc kvs accV h ra;cases h;exact⟨[],rfl,rfl,ra⟩
 |cons h1 h2 r ih =>
  rename_i k d x y ds ps;intro acc kvs accV h ra;simp only[vq] at h;cases hk:V9 k with
  |none=>rw[hk] at h;cases h
  |some c =>
   rw[hk] at h;obtain⟨more,e1,e2,r2⟩:=ih (show vq ds (putD acc c d)=some kvs from h) (ra.put h2);have ex:=X5 hk h1;subst ex;refine⟨(c,y)::more,by rw[aY,<- e1],by simp only[List.length_cons];omega,r2⟩
section
variable{X:Cx}{Ξ:gA}{P:eR}(hP:i7 P){pos:Pos}
inductive lp(X:Cx)(Ξ:gA)(P:eR):List (Option Expr)->List Expr->ME->List (TE×TE)->Prop
 |nil:lp X Ξ P [] [] .nil []
 |cons {k v:Expr} {ks:List (Option Expr)} {vs:List Expr} {mk mv ms:ME} {gP:List (TE×TE)} (hk:PE X k (LE X.K Ξ (aK P mk))) (hv:PE X v (LE X.K Ξ (aK P mv))) (r:lp X Ξ P ks vs ms gP) :
   lp X Ξ P (some k::ks) (v::vs) (.cons mk (.cons mv ms)) ((LE X.K Ξ (aK P mk),LE X.K Ξ (aK P mv))::gP)
theorem lp.KW{ks vs ms gP}(h:lp X Ξ P ks vs ms gP):vB X pos ks vs gP:=by
 induction h with
 |nil=>exact So
 |cons hk hv r ih=>exact a30 hk hv ih
theorem lp.len{ks vs ms gP}(h:lp X Ξ P ks vs ms gP):ks.all (·.isSome)=true/\ks.length=vs.length:=by
 induction h with
 |nil=>exact⟨rfl,rfl⟩
 |cons hk hv r ih=>exact⟨by simpa using ih.1,by simp[ih.2]⟩
include hP
theorem lp.pairs{ks vs ms gP}(hd:lp X Ξ P ks vs ms gP):∀{bR:L2.St} {Z:S} {g:G} {ρ fC:List Addr} {H H0:Hp} {Qd:List D->G->Prop} {Q:List (V×V)->Hp->Prop},n8 X.K ρ H Z bR->Rl X.K ρ g H->Ext fC H0 ρ H->cW P ms Z g Qd (LX X.K fC H0 Ξ) ->
  (∀ds g' bB H' ps,Ext ρ H bB H'->Rl X.K bB g' H'->jE X.K bB H' ds ps->Qd ds g'->Q ps H')->xp gP bR H Q:=by
 induction hd with
 |nil =>
  intro bR Z g ρ fC H H0 Qd Q s R e0 h k;simp only[cW] at h;exact k [] g ρ H [] (.refl _ _) R .nil h
 |cons hk hv r ih =>
  intro bR Z g ρ fC H H0 Qd Q s R e0 h k;simp only[cW] at h;refine eV hP s R e0 h λx g1 bH H1 v1 e1 R1 r1 h=>eV hP (s.ext e1) R1 (e0.trans e1) h λy g2 dX H2 v2 e2 R2 r2 h=>?_;refine ih (s.ext (e1.trans e2)) R2 (e0.trans (e1.trans e2)) h λds g' bB H' ps e' R' rp hq=>?_;exact k _ g' bB H' _ (e1.trans (e2.trans e')) R' (.cons (r1.ext (e2.trans e')) (r2.ext e') rp) hq
theorem Qo{ks:List (Option Expr)}{vs:List Expr}{ms:ME}{gP:List (TE×TE)}(hd:lp X Ξ P ks vs ms gP)(h0:ks≠[])(oq:ks.length<=15):PE X (.Dict ks vs pos) (LE X.K Ξ (aK P (.oE ms))) :=
 (Si hd.KW hd.len.1 hd.len.2 h0 oq).imp λbR H Q ⟨Z,g,ρ,s,R,h⟩ p hp=>by
  simp only[aK] at h;have e1:Ext ρ H (ρ++[p]) (upd H p (.dK [])):=M1 hp;refine lp.pairs hP hd (s.ext e1) (R.new hp (o:=.dF []) (u:=.dK []) i8.nil) e1 h λds g2 dX H2 ps e2 R2 rp hq=>?_;obtain⟨kvs,hk,hz,hg,q⟩:=hq;have uc:dX[g.length]?=some p:=e2.get (R.C4 p);obtain⟨vs',hv,rv⟩:=R2.dF hg uc;cases rv;obtain⟨more,em,hl,rk⟩:=Oy rp hk (accV:=[]) .nil;refine⟨hv,more,em,by omega,?_⟩;obtain⟨R3,e3⟩:=R2.put (o':=.dF kvs) (u:=.dK (R5 [] more)) hg rfl uc rk;exact q dX _ _ (e1.trans (e2.trans e3)) R3 (.ref uc)
end
end M

namespace M
open PySem L2 PySem.Spec PyProof.Rows
theorem VE{K:PySem.W.Frag}{fC:List Addr}{H0:Hp}{a:Addr}{l:List D}{vs:List V}(ht:TupAt K H0 a vs)(rs:c8 K fC H0 l vs):W6 K fC H0 (.fix l) (CY K a):=by
 intro ρ g H e R i;have ua:=ht.ext e;have DC:=rs.ext e;refine⟨λh=>⟨vs,ua.sq,?_⟩,λd h=>?_⟩
 ·simp only[IK.at] at h;have:=cN.mp (aJ h);rw[<- DC.length];exact this
 ·simp only[IK.at] at h;obtain⟨v,hv,rv⟩:=DC.get (aJ h);refine⟨⟨vs,v,ua.sq,hv⟩,λw H' y=>?_⟩;obtain⟨rfl,y⟩:=y;have:=y vs ua.sq;rw[hv] at this;cases this;exact⟨.refl _ _,R,rv⟩
theorem VC{K:PySem.W.Frag}{fC:List Addr}{H0:Hp}{a:Addr}{j:Nat}(ha:fC[j]?=some a):W6 K fC H0 (.lst j) (CZ K a):=by
 intro ρ g H e R i;have kI:=e.get ha;refine⟨λh=>?_,λd h=>?_⟩
 ·simp only[IK.at] at h;cases el:d7 g j with
  |none=>rw[el] at h;cases h
  |some l =>
   rw[el] at h;obtain⟨vs,hq,rs⟩:=R.items el kI;refine⟨vs,hq,?_⟩;have:=cN.mp (aJ h);rw[<- rs.length];exact this
 ·simp only[IK.at] at h;cases el:d7 g j with
  |none=>rw[el] at h;cases h
  |some l =>
   rw[el] at h;obtain⟨vs,hq,rs⟩:=R.items el kI;obtain⟨v,hv,rv⟩:=rs.get (aJ h);refine⟨⟨vs,v,hq,hv⟩,λw H' y=>?_⟩;obtain⟨rfl,y⟩:=y;have:=y vs hq;rw[hv] at this;cases this;exact⟨.refl _ _,R,rv⟩
theorem Jy{K:PySem.W.Frag}{fC:List Addr}{H0:Hp}{lo:Int}{n:Nat}:W6 K fC H0 (.fix (k8 lo n)) (vE lo n):=by
 unfold k8;intro ρ g H e R i;refine⟨λh=>?_,λd h=>?_⟩
 ·simp only[IK.at] at h;have:=cN.mp (aJ h);show n<=i;simpa using this
 ·simp only[IK.at] at h;have h:=aJ h;have hi:i<n:=by
   have:=(aj.mp h).1;simpa using this
  rw[ak,cv hi] at h;cases h;refine⟨hi,λw H' y=>?_⟩;obtain⟨rfl,rfl⟩:=y;exact⟨.refl _ _,R,.int _⟩
theorem VD{K:PySem.W.Frag}{fC:List Addr}{H0:Hp}{a:Addr}{j n:Nat}(ha:fC[j]?=some a):W6 K fC H0 (.qY j n) (CW K a n):=by
 intro ρ g H e R i;have kI:=e.get ha;refine⟨λh=>?_,λd h=>?_⟩
 ·simp only[IK.at] at h;cases el:d7 g j with
  |none=>rw[el] at h;cases h
  |some l =>
   rw[el] at h;dsimp only at h;by_cases hl:l.length=n
   ·rw[aH hl] at h;have h:=aJ h;by_cases hi:i<n
    ·rw[aH hi] at h;have:=cN.mp h;omega
    ·exact kq hi
   ·rw[aB hl] at h;cases h
 ·simp only[IK.at] at h;cases el:d7 g j with
  |none=>rw[el] at h;cases h
  |some l =>
   rw[el] at h;dsimp only at h;by_cases hl:l.length=n
   ·rw[aH hl] at h;have h:=aJ h;by_cases hi:i<n
    ·rw[aH hi] at h;obtain⟨vs,hq,rs⟩:=R.items el kI;obtain⟨v,hv,rv⟩:=rs.get h;refine⟨⟨vs,v,hq,by rw[<- rs.length];exact hl,hi,hv⟩,λw H' y=>?_⟩;obtain⟨rfl,y⟩:=y;have:=y vs hq;rw[hv] at this;cases this;exact⟨.refl _ _,R,rv⟩
    ·rw[aB hi] at h;cases h
   ·rw[aB hl] at h;cases h
theorem VB{K:PySem.W.Frag}{fC:List Addr}{H0:Hp}{a:Addr}{j:Nat}(ha:fC[j]?=some a):W6 K fC H0 (.nt j) (Dc K a):=by
 intro ρ g H e R i;have kI:=e.get ha;refine⟨λh=>?_,λd h=>?_⟩
 ·simp only[IK.at] at h;cases el:d7 g j with
  |none=>rw[el] at h;cases h
  |some l =>
   rw[el] at h;obtain⟨vs,hq,rs⟩:=R.items el kI;refine⟨vs,hq,?_⟩;have h:=aJ h;rw[Option.map_eq_none_iff] at h;have:=cN.mp h;rw[<- rs.length];exact this
 ·simp only[IK.at] at h;cases el:d7 g j with
  |none=>rw[el] at h;cases h
  |some l =>
   rw[el] at h;obtain⟨vs,hq,rs⟩:=R.items el kI;have h:=aJ h;rw[ae] at h;obtain⟨d',hd,rfl⟩:=h;obtain⟨v,hv,rv⟩:=rs.get hd;refine⟨⟨vs,v,hq,hv⟩,λw H' y=>?_⟩;obtain⟨p,x,hp,rfl,y,rfl⟩:=y;have:=y vs hq;rw[hv] at this;cases this;exact⟨A7 hp,R.grow hp,.tup (.inl t8) (.cons (.int _) (.cons (rv.ext (A7 hp)) .nil))⟩
end M
namespace L2
open PySem PySem.Spec PyProof.Rows
theorem PY{X:Cx}{tg l:Expr}{tl:TE}(hl:PE X l tl):PI X tg l (λZ H R=>tl Z H λx H1=>(∃a,x=.ref a/\(∃xs,fo X.K H1 a xs)/\R (CZ X.K a) H1)\/(∃a,x=.ref a/\(∃xs,gS X.K H1 a xs)/\R (CY X.K a) H1)):=by
 intro pins s Z H R I h;refine cz (hl pins s Z H _ I h) λv s1 ⟨x,H1,I1,r1,q1⟩=>?_;rcases q1 with⟨a,e,⟨xs,hq⟩,q⟩|⟨a,e,⟨xs,hq⟩,q⟩
 ·subst e;cases r1;obtain⟨aR,rv,p,hz⟩:=I1.list hq;refine hV p.isList ?_;refine⟨s1.heap.objs.size,[s1.heap.objs.size],_,_,H1,rfl,I1.kept (t':=s1.toks) λb o e=>au _ e,Yl a _,⟨_,aC _ rfl,rfl,rfl⟩,λb hb=>?_,q⟩;have e:b=s1.heap.objs.size:=by simpa using hb
  subst e;exact I1.oI (av _) (I1.bG.fresh (av _))
 ·subst e;cases r1;obtain⟨aR,rv,p,hz⟩:=I1.tuple hq;refine wpAny_pyIter_tuple (show s1.heap.IsTuple a aR.toArray from p) ?_;refine⟨s1.heap.objs.size,[s1.heap.objs.size],_,_,H1,rfl,I1.kept (t':=s1.toks) λb o e=>au _ e,Y' a _,⟨_,aC _ rfl,rfl,rfl⟩,λb hb=>?_,q⟩;have e:b=s1.heap.objs.size:=by simpa using hb
  subst e;exact I1.oI (av _) (I1.bG.fresh (av _))
end L2
namespace M
open PySem L2 PySem.Spec PyProof.Rows
section
variable{X:Cx}{Ξ:gA}{P:eR}(hP:i7 P){a b c tg:Expr}{ma mb mc:ME}{pos p:Pos}
include hP
theorem QA(ha:PE X a (LE X.K Ξ (aK P ma))):PI X tg a (LI X.K Ξ (eG P (.fj ma))) :=
 (PY ha).imp λbR H R ⟨Z,g,ρ,s,Rr,h⟩=>by
  simp only[eG] at h;refine eV hP s Rr (.refl _ _) h λx g1 bH H1 v1 e1 R1 r1 h=>?_;rcases h with⟨l,rfl,h⟩|⟨i,l,rfl,hl,h⟩
  ·obtain⟨a',vs,rfl,ht,rs⟩:=r1.I9;exact .inr ⟨_,rfl,⟨_,ht.sq⟩,h bH H1 _ e1 R1 (VE ht rs)⟩
  ·obtain⟨a',rfl,kI⟩:=r1.j8;obtain⟨vs,hq,rs⟩:=R1.items hl kI;exact .inl ⟨_,rfl,⟨_,hq⟩,h bH H1 _ e1 R1 (VC kI)⟩
theorem SQ{elts:List Expr}{x1:Nat}{tp:Pos}(ha:PE X a (LE X.K Ξ (aK P ma)))(hg:Gl X "enumerate")(hm:X.mg "enumerate"=none)(hs:starEach [a] X.env=[(false,eval a X.env)]):PI X (.Tuple elts x1 tp) (.Call (.Name "enumerate" p) [a] [] pos) (LI X.K Ξ (eG P (.jH ma))) :=
 (Sn hg hm (C0 hP ha (K4 hP) (by rw[hs];rfl)) hs).imp λbR H R ⟨Z,g,ρ,s,Rr,h⟩=>by
  simp only[eG] at h;refine js hP (m:=.cons ma .nil) s Rr (.refl _ _) (Q0:=λxs g1=>∃a l,xs=[.ref a]/\d7 g1 a=some l/\∀bB H' J,Ext ρ H bB H'->Rl X.K bB g1 H'->W6 X.K bB H' (.nt a) J->R J H') ?_ λxs g1 bH H1 vs e1 R1 r1 h=>?_
  ·simp only[cW];exact c6 hP ma _ _ _ _ _ _ (λx g1 ⟨i,l,e,hl,h⟩=>⟨i,l,by rw[e],hl,h⟩) (λ_ _ z=>z) h
  ·obtain⟨j,l,rfl,hl,h⟩:=h;obtain⟨v,rfl,rv⟩:=r1.one;obtain⟨a',rfl,ra⟩:=rv.j8;obtain⟨vs,hq,rs⟩:=R1.items hl ra;exact⟨_,rfl,⟨_,hq⟩,h bH H1 _ e1 R1 (VB ra)⟩
theorem Qz(ha:PE X a (LE X.K Ξ (aK P ma)))(hg:Gl X "reversed")(hm:X.mg "reversed"=none)(hs:starEach [a] X.env=[(false,eval a X.env)]):PI X tg (.Call (.Name "reversed" p) [a] [] pos) (LI X.K Ξ (eG P (.mV ma))) :=
 (PV hg hm (C0 hP ha (K4 hP) (by rw[hs];rfl)) hs).imp λbR H R ⟨Z,g,ρ,s,Rr,h⟩=>by
  simp only[eG] at h;refine js hP (m:=.cons ma .nil) s Rr (.refl _ _) (Q0:=λxs g1=>∃a l,xs=[.ref a]/\d7 g1 a=some l/\∀bB H' J,Ext ρ H bB H'->Rl X.K bB g1 H'->W6 X.K bB H' (.qY a l.length) J->R J H') ?_ λxs g1 bH H1 vs e1 R1 r1 h=>?_
  ·simp only[cW];exact c6 hP ma _ _ _ _ _ _ (λx g1 ⟨i,l,e,hl,h⟩=>⟨i,l,by rw[e],hl,h⟩) (λ_ _ z=>z) h
  ·obtain⟨j,l,rfl,hl,h⟩:=h;obtain⟨v,rfl,rv⟩:=r1.one;obtain⟨a',rfl,ra⟩:=rv.j8;obtain⟨vs,hq,rs⟩:=R1.items hl ra;exact⟨_,vs,rfl,hq,h bH H1 _ e1 R1 (by rw[rs.length];exact VD ra)⟩
theorem SR(ha:PE X a (LE X.K Ξ (aK P ma)))(hg:Gl X "range")(hm:X.mg "range"=none)(hs:starEach [a] X.env=[(false,eval a X.env)]):PI X tg (.Call (.Name "range" p) [a] [] pos) (LI X.K Ξ (eG P (.eY ma))) :=
 (XT hg hm (C0 hP ha (K4 hP) (by rw[hs];rfl)) hs).imp λbR H R ⟨Z,g,ρ,s,Rr,h⟩=>by
  simp only[eG] at h;refine js hP (m:=.cons ma .nil) s Rr (.refl _ _) (Q0:=λxs g1=>∃j:Int,xs=[.int j]/\-(2 ^ 62)<=j/\j<2 ^ 62/\∀bB H' J,Ext ρ H bB H'->Rl X.K bB g1 H'->W6 X.K bB H' (.fix (k8 0 j.toNat)) J->R J H') ?_ λxs g1 bH H1 vs e1 R1 r1 h=>?_
  ·simp only[cW];exact c6 hP ma _ _ _ _ _ _ (λx g1 ⟨j,e,h1,h2,h⟩=>⟨j,by rw[e],h1,h2,h⟩) (λ_ _ z=>z) h
  ·obtain⟨j,rfl,h1,h2,h⟩:=h;obtain⟨v,rfl,rv⟩:=r1.one;obtain rfl:=rv.i6;exact⟨_,rfl,h1,h2,h bH H1 _ e1 R1 Jy⟩
theorem SS(ha:PE X a (LE X.K Ξ (aK P ma)))(hb:PE X b (LE X.K Ξ (aK P mb)))(hg:Gl X "range")(hm:X.mg "range"=none)(hs:starEach [a,b] X.env=[(false,eval a X.env),(false,eval b X.env)])(iH:starEach [b] X.env=[(false,eval b X.env)]) :
  PI X tg (.Call (.Name "range" p) [a,b] [] pos) (LI X.K Ξ (eG P (.jU ma mb))) :=
 (XU hg hm (C0 hP ha (C0 hP hb (K4 hP) (by rw[iH];rfl)) (by rw[hs,iH])) hs iH).imp λbR H R ⟨Z,g,ρ,s,Rr,h⟩=>by
  simp only[eG] at h;refine js hP (m:=.cons ma (.cons mb .nil)) s Rr (.refl _ _) (Q0:=λxs g1=>∃i j:Int,xs=[.int i,.int j]/\(-(2 ^ 62)<=i/\i<2 ^ 62/\-(2 ^ 62)<=j/\j<2 ^ 62)/\∀bB H' J,Ext ρ H bB H'->Rl X.K bB g1 H'->W6 X.K bB H' (.fix (k8 i (j-i).toNat)) J->R J H') ?_ λxs g1 bH H1 vs e1 R1 r1 h=>?_
  ·simp only[cW];exact c6 hP ma _ _ _ _ _ _ (λx g1 h=>c6 hP mb _ _ _ _ _ _ (λy g2 ⟨i,j,e,e',h1,h⟩=>⟨i,j,by rw[e,e'],h1,h⟩) (λ_ _ z=>z) h) (λ_ _ z=>z) h
  ·obtain⟨i,j,rfl,h1,h⟩:=h;obtain⟨v,w,rfl,rv,fE⟩:=r1.two;obtain rfl:=rv.i6;obtain rfl:=fE.i6;exact⟨_,_,rfl,h1,h bH H1 _ e1 R1 Jy⟩
end
section
variable{X:Cx}{pos:Pos}
theorem Qy{i:Nat}{x:Str}(hN:X.N.Nodup)(hi:X.N[i]?=some x)(hx:Loc X.env.scope x)(hf:X.fn x=true\/X.env.scope.names.lookup x=some .local):PG X (.Name x pos) (LG X.K (.one i)) :=
 (IS hN hi hx hf).imp λv bR H Q ⟨d,Z,g,ρ,s,R,r,h⟩=>h _ (s.set i r)
inductive fq(X:Cx):List Expr->List Nat->Prop
 |nil:fq X [] []
 |cons {x:Str} {p:Pos} {i:Nat} {es:List Expr} {is:List Nat} (hi:X.N[i]?=some x) (hx:Loc X.env.scope x) (hf:X.fn x=true\/X.env.scope.names.lookup x=some .local) (r:fq X es is):fq X (.Name x p::es) (i::is)
noncomputable def Cu:List Nat->oP
 |[]=>FD
 |i::is=>Jv (si i) (Cu is)
theorem GR(hN:X.N.Nodup):∀{es:List Expr} {is:List Nat},fq X es is->vC X es (Cu is)
 |_,_,.nil=>Sm
 |_,_,.cons hi hx hf r=>a34 (IS hN hi hx hf) (GR hN r) rfl
theorem BE:∀{es:List Expr} {is:List Nat},fq X es is->(assignEach es X.env).length=is.length/\(assignEach es X.env).findIdx? (·.1)=none
 |_,_,.nil=>⟨rfl,rfl⟩
 |_,_,.cons (x:=x) (p:=p) (es:=es) hi hx hf r=>by
  obtain⟨h1,h2⟩:=BE r;have e:assignEach (.Name x p::es) X.env=(false,assign (.Name x p) X.env)::assignEach es X.env:=rfl;rw[e];refine⟨by simp[h1],?_⟩;rw[List.findIdx?_cons,h2]
  rfl
theorem GC{K:PySem.W.Frag}{ρ:List Addr}{H:Hp}{k:S->Prop}{Q:L2.St->Hp->Prop}:∀{is:List Nat} {l:List D} {vs:List V} {Z bN:S} {bR:L2.St},E0 is l Z=some bN->c8 K ρ H l vs->n8 K ρ H Z bR->(∀cU,n8 K ρ H bN cU->Q cU H)->Cu is vs bR H Q
 |[],_,_,_,_,_,h,.nil,s,q=>by
  simp only[E0] at h;cases h;exact⟨rfl,q _ s⟩
 |[],_,_,_,_,_,h,.cons _ _,s,q=>by simp only[E0] at h;cases h
 |i::is,_,_,_,_,_,h,.nil,s,q=>by simp only[E0] at h;cases h
 |i::is,_,_,_,_,_,h,.cons r rr,s,q=>by
  simp only[E0] at h;exact⟨_,_,rfl,GC (k:=k) h rr (s.set i r) q⟩
theorem Y7:∀{is:List Nat} {l:List D} {Z bN:S},E0 is l Z=some bN->l.length=is.length
 |[],[],_,_,_=>rfl
 |[],_::_,_,_,h=>by simp only[E0] at h;cases h
 |_::_,[],_,_,h=>by simp only[E0] at h;cases h
 |_::is,_::l,_,_,h=>by simp only[E0] at h;simp[Y7 h]
theorem Jb{es:List Expr}{is:List Nat}{k:Nat}(hc:X.calm=true)(hN:X.N.Nodup)(hs:fq X es is):PG X (.Tuple es k pos) (LG X.K (.many is)) :=
 (PU hc (GR hN hs) (BE hs).1 (BE hs).2).imp λv bR H Q ⟨d,Z,g,ρ,s,R,r,h⟩=>by
  obtain⟨l,bN,rfl,e,h⟩:=h;obtain⟨a',vs,rfl,ht,rs⟩:=r.I9;exact⟨_,_,rfl,ht.sq,by rw[<- rs.length];exact Y7 e,GC (k:=λ_=>True) e rs s h⟩
end
theorem LN.ext{K ρ H N bH H1}(e:Ext ρ H bH H1):(LN K ρ H N).le (LN K bH H1 N) :=
 ⟨λZ g h bB H' cU e' R s=>h bB H' cU (e.trans e') R s,λd g h=>h.ext e,λZ g h bB H' cU e' R s=>h bB H' cU (e.trans e') R s,λZ g h bB H' cU e' R s=>h bB H' cU (e.trans e') R s⟩
section
variable{X:Cx}{Ξ:gA}{P:eR}(hP:i7 P){a b c tg:Expr}{ma mb mc:ME}{st:Stmt}{rest:List Stmt}{yO lK:MS}{pos p:Pos}
include hP
theorem QD:iV X [] (LS X.K Ξ (wpS P .pass)) :=
 (Su (X:=X)).imp λN bR H ⟨Z,g,ρ,s,R,h⟩=>h ρ H bR (.refl _ _) R s
theorem SW(h1:PS X st (LS X.K Ξ (wpS P yO)))(h2:iV X rest (LS X.K Ξ (wpS P lK))):iV X (st::rest) (LS X.K Ξ (wpS P (.seq yO lK))) :=
 (a27 h1 h2).imp λN bR H ⟨Z,g,ρ,s,R,h⟩ =>
  qS hP s R (.refl _ _) (show wpS P yO { LN X.K ρ H N with nx:=λhX g1=>wpS P lK (LN X.K ρ H N) hX g1 (LX X.K ρ H Ξ) } Z g (LX X.K ρ H Ξ) from h) ⟨λhX g1 h bH H1 Kj e1 R1 s1=>qS hP s1 R1 e1 h (LN.ext e1),λ_ _ z=>z,λ_ _ z=>z,λ_ _ z=>z⟩
theorem Tb(ha:PE X a (LE X.K Ξ (aK P ma)))(hs:swapsWith a none pos.line X.env=pure false):PS X (.Expr a pos) (LS X.K Ξ (wpS P (.expr ma))) :=
 (Sq ha hs).imp λN bR H ⟨Z,g,ρ,s,R,h⟩=>eV hP s R (.refl _ _) h λx g1 bH H1 v1 e1 R1 r1 h=>h bH H1 bR e1 R1 (s.ext e1)
theorem Ip{i:Nat}{x:Str}{p:Pos}(h0:PS X (.Assign [.Name x p] a pos) (uY (LE X.K Ξ (aK P ma)) (si i))):PS X (.Assign [.Name x p] a pos) (LS X.K Ξ (wpS P (.set i ma))) :=
 h0.imp λN bR H ⟨Z,g,ρ,s,R,h⟩=>eV hP s R (.refl _ _) h λx g1 bH H1 v1 e1 R1 r1 h=>h bH H1 _ e1 R1 ((s.ext e1).set i r1)
theorem QR{t:MT}(h0:PS X (.Assign [tg] a pos) (uY (LE X.K Ξ (aK P ma)) (LG X.K t))):PS X (.Assign [tg] a pos) (LS X.K Ξ (wpS P (.kR t ma))) :=
 h0.imp λN bR H ⟨Z,g,ρ,s,R,h⟩=>eV hP s R (.refl _ _) h λx g1 bH H1 v1 e1 R1 r1 h=>⟨x,Z,g1,bH,s.ext e1,R1,r1,u7 (λbN h cU s'=>h bH H1 cU e1 R1 s') h⟩
theorem a06(hu:X.A.units+100<cLine){o i:Expr}{mo mi:ME}{tp:Pos}(ha:PE X a (LE X.K Ξ (aK P ma)))(ho:PE X o (LE X.K Ξ (aK P mo)))(hi:PE X i (LE X.K Ξ (aK P mi)))(hs:swapsWithSole [.Subscript o i tp] a pos.line X.env=pure false)(kI:∀ v,assign (.Subscript o i tp) X.env v=(do
   let ov <- holding [v] (eval o X.env)
   let iv <- holding [v,ov] (eval i X.env)
   standAt tp
   holding [v,ov,iv] (setItem ov iv v)
   release [v,ov,iv] [])):PS X (.Assign [.Subscript o i tp] a pos) (LS X.K Ξ (wpS P (.dP mo mi ma))) :=
 (Ik ha (PQ ho hi (Qx hu) kI) hs).imp λN bR H ⟨Z,g,ρ,s,R,h⟩ =>
  eV hP s R (.refl _ _) h λx g1 bH H1 v1 e1 R1 r1 h=>eV hP (s.ext e1) R1 e1 h λy g2 dX H2 v2 e2 R2 r2 h=>eV hP (s.ext (e1.trans e2)) R2 (e1.trans e2) h λz g3 iN H3 v3 e3 R3 r3 h =>
   ⟨y,z,x,g3,iN,R3,r2.ext e3,r3,r1.ext (e2.trans e3),T8 (λg4 h pq H4 e4 R4=>h pq H4 bR (e1.trans (e2.trans (e3.trans e4))) R4 (s.ext (e1.trans (e2.trans (e3.trans e4))))) h⟩
omit hP in
noncomputable def Co(K:PySem.W.Frag)(f:Str)(cs:List Str):Prop:=∀c C,c∈cs->u4 K c C->B6 K C f
omit hP in
theorem SO{f:Str}{cs:List Str}(hF:Co X.K f cs){ρ:List Addr}{H:Hp}{g g':G}{x v:D}{xv vv:V}(R:Rl X.K ρ g H)(rx:f7 X.K ρ H x xv)(rv:f7 X.K ρ H v vv)(h:JG f cs x v g g') :
  ∃a C dx fs,xv=.ref a/\H a=some (.ins C dx fs)/\jl X.K C/\B6 X.K C f/\fs.length<1000/\Rl X.K ρ g' (upd H a (.ins C dx (A4 f vv fs)))/\Ext ρ H ρ (upd H a (.ins C dx (A4 f vv fs))):=by
 obtain⟨i,c,fs,rfl,hi,hc,hz,rfl⟩:=h;obtain⟨a',rfl,ra⟩:=rx.j8;obtain⟨C,dx,vs,hH,hC,jW,rk,na⟩:=R.ins hi ra;obtain⟨R',e'⟩:=R.put (o':=.ins c (k9 f v fs)) (u:=.ins C dx (A4 f vv vs)) hi rfl ra ⟨hC,jW,rk.A4 rv,Hn (p:=λy=>B6 X.K C y) (hF c C hc hC) na⟩;exact⟨a',C,dx,vs,rfl,hH,jW,hF c C hc hC,by rw[<- rk.length];omega,R',e'⟩
theorem Tc{f:Str}{cs:List Str}{o:Expr}{mo:ME}{tp:Pos}(hF:Co X.K f cs)(ho:PE X o (LE X.K Ξ (aK P mo)))(ha:PE X a (LE X.K Ξ (aK P ma)))(hs:swapsWith a (some (.Attribute o f tp)) pos.line X.env=pure false):PS X (.Assign [.Attribute o f tp] a pos) (LS X.K Ξ (wpS P (.gN f cs mo ma))) :=
 (P' ho ha hs).imp λN bR H ⟨Z,g,ρ,s,R,h⟩=>eV hP s R (.refl _ _) h λx g1 bH H1 v1 e1 R1 r1 h=>eV hP (s.ext e1) R1 e1 h λy g2 dX H2 v2 e2 R2 r2 h=>by
  obtain⟨g3,h,q⟩:=h;obtain⟨a',C,dx,fs,hx,hH,jW,na,hz,R3,e3⟩:=SO hF R2 r2 (r1.ext e2) h;exact⟨a',C,dx,fs,hx,hH,jW,na,hz,q dX _ bR (e1.trans (e2.trans e3)) R3 (s.ext (e1.trans (e2.trans e3)))⟩
theorem Ta{i:Nat}{x:Str}{tp:Pos}{op:Operator}{p:Pr}(LR:(op=.Add/\p=.iadd)\/(op=.Sub/\p=.lN))(hN:X.N.Nodup)(hi:X.N[i]?=some x)(hx:Loc X.env.scope x)(hf:X.fn x=true\/X.env.scope.names.lookup x=some .local)(ha:PE X a (LE X.K Ξ (aK P ma))):PS X (.AugAssign (.Name x tp) op a pos) (LS X.K Ξ (wpS P (.jg i p ma))):=by
 have ho:JQ X op (r2 X.K p):=by
  intro pins s Z H x y v u Q I rx ry h;obtain⟨d,e,g,ρ,R,rd,re,d',g',hr,q⟩:=h;rcases LR with⟨rfl,rfl⟩|⟨rfl,rfl⟩
  ·rcases hr with⟨i,j,ex,rfl,rfl⟩|⟨l,m,ex,hz,rfl,rfl⟩
   ·obtain⟨rfl,rfl⟩:=A3 ex;obtain rfl:=rd.i6;obtain rfl:=re.i6;exact RC pins s Z H _ _ v u Q I rx ry ⟨i,j,rfl,rfl,q.now R (.int _)⟩
   ·obtain⟨rfl,rfl⟩:=A3 ex;obtain⟨p1,Kr,rfl,t1,vX⟩:=rd.I9;obtain⟨p2,Kq,rfl,t2,vW⟩:=re.I9;refine RA pins s Z H _ _ v u Q I rx ry (.inr ⟨p1,p2,Kr,Kq,rfl,rfl,t1.sq,t2.sq,by rw[<- vX.length,<- vW.length];exact m7 hz,λz=>?_,λz=>?_,λp hp=>q.tup R hp (vX.append vW)⟩)
    ·subst z;cases vX;exact q.now R (.tup t2 vW)
    ·subst z;cases vW;rw[fu] at q;exact q.now R (.tup t1 vX)
  ·obtain⟨i,j,ex,rfl,rfl⟩:=hr;obtain⟨rfl,rfl⟩:=A3 ex;obtain rfl:=rd.i6;obtain rfl:=re.i6;exact RD pins s Z H _ _ v u Q I rx ry ⟨i,j,rfl,rfl,q.now R (.int _)⟩
 refine(PZ hN hi hx ha ho hf).imp λN bR H ⟨Z,g,ρ,s,R,h⟩=>?_;obtain⟨xd,Lx,h⟩:=h;obtain⟨xv,hv,rx⟩:=s.val _ _ Lx;refine⟨xv,hv,eV hP s R (.refl _ _) h λz g1 bH H1 v1 e1 R1 r1 h=>?_⟩;refine⟨xd,z,g1,bH,R1,rx.ext e1,r1,u3 (λw g2 q=>?_) h⟩;exact λdX H2 v2 e2 R2 r2=>q dX H2 _ (e1.trans e2) R2 ((s.ext (e1.trans e2)).set i r2)
theorem NU{sa sb:List Stmt}{DS msb:MS}(hc:PT X c (LT X.K Ξ (cC P mc)))(ha:iV X sa (LS X.K Ξ (wpS P DS)))(hb:iV X sb (LS X.K Ξ (wpS P msb))):PS X (.If c sa sb pos) (LS X.K Ξ (wpS P (.ifs mc DS msb))) :=
 (Wd hc ha hb).imp λN bR H ⟨Z,g,ρ,s,R,h⟩=>nM hP s R (.refl _ _) h λt g1 bH H1 e1 R1 h=>by
  cases t
  ·exact qS hP (s.ext e1) R1 e1 h (LN.ext e1)
  ·exact qS hP (s.ext e1) R1 e1 h (LN.ext e1)
theorem QQ(ha:PE X a (LE X.K Ξ (aK P ma))):PS X (.Return (some a) pos) (LS X.K Ξ (wpS P (.ret ma))) :=
 (Qc ha).imp λN bR H ⟨Z,g,ρ,s,R,h⟩=>⟨Z,g,ρ,s,R,h⟩
theorem a05{body:List Stmt}{mb:MS}(hp:PassesOwn (model X.prog X.w) X.A X.env X.xe)(hc:PT X c (LT X.K Ξ (cC P mc)))(hb:iV X body (LS X.K Ξ (wpS P mb))):PS X (.While c body [] pos) (LS X.K Ξ (wpS P (.jr mc mb))) :=
 (a28 hp hc hb).imp λN bR H ⟨Z,g,ρ,s,R,h⟩=>by
  obtain⟨W,⟨m0,w0⟩,h⟩:=h;refine⟨λm cU H'=>∃bN g' bB,Ext ρ H bB H'/\n8 X.K bB H' bN cU/\Rl X.K bB g' H'/\W m bN g',⟨m0,Z,g,ρ,.refl _ _,s,R,w0⟩,?_⟩;rintro m cU H' ⟨bN,g',bB,e1,s',R',w'⟩;refine nM hP s' R' e1 (h m bN g' w') λt g1 bH H1 e2 R1 q=>?_;cases t
  ·exact q bH H1 cU (e1.trans e2) R1 (s'.ext e2)
  ·obtain⟨N2,zN,q⟩:=q;refine⟨λjq H2=>∃cg g2 dX,Ext ρ H dX H2/\n8 X.K dX H2 cg jq/\Rl X.K dX g2 H2/\N2 cg g2,?_,?_⟩
   ·rintro jq H2 ⟨cg,g2,dX,e3,s2,R2,n2⟩;obtain⟨m',hm,w2⟩:=zN cg g2 n2;exact⟨m',hm,cg,g2,dX,e3,s2,R2,w2⟩
   ·refine qS hP (s'.ext e2) R1 (e1.trans e2) q ⟨?_,?_,?_,?_⟩
    ·exact λgY g3 n3 iN H3 jQ e3 R3 s3=>⟨gY,g3,iN,(e1.trans e2).trans e3,s3,R3,n3⟩
    ·exact λd g3 h=>h.ext (e1.trans e2)
    ·exact λgY g3 h iN H3 jQ e3 R3 s3=>h iN H3 jQ ((e1.trans e2).trans e3) R3 s3
    ·exact λgY g3 n3 iN H3 jQ e3 R3 s3=>⟨gY,g3,iN,(e1.trans e2).trans e3,s3,R3,n3⟩
theorem QO{iter:Expr}{mi:ME}{body:List Stmt}{mb:MS}{t:MT}(hp:PassesOwn (model X.prog X.w) X.A X.env X.xe)(hc:X.calm=true)(hi:PI X tg iter (LI X.K Ξ (eG P mi)))(hg:PG X tg (LG X.K t))(hb:iV X body (LS X.K Ξ (wpS P mb)))(hs:∀x,foldedSetIterable iter X.env x=pure x):PS X (.For tg iter body [] pos) (LS X.K Ξ (wpS P (.dI t mi mb))) :=
 (Qa hp hc hi hg hb hs).imp λN bR H ⟨Z,g,ρ,s,R,h⟩=>by
  refine⟨Z,g,ρ,s,R,w5 hP mi _ _ _ _ _ _ (λk g1 h bH H1 J e1 R1 j1=>?_) (λ_ _ z=>z) h⟩;obtain⟨W,⟨m0,w0⟩,h⟩:=h;refine⟨λi m cU H'=>∃bN g' bB,Ext bH H1 bB H'/\n8 X.K bB H' bN cU/\Rl X.K bB g' H'/\W i m bN g',⟨m0,Z,g1,bH,.refl _ _,s.ext e1,R1,w0⟩,?_⟩;rintro i m cU H' ⟨bN,g',bB,e',s',R',w'⟩;obtain⟨tV,tU⟩:=j1 bB g' H' e' R' i;rcases h i m bN g' w' with⟨ek,q⟩|⟨x,ek,N2,zN,q⟩
  ·exact .inl ⟨tV ek,q bB H' cU (e1.trans e') R' s'⟩
  ·obtain⟨go,yl⟩:=tU x ek;refine .inr ⟨go,λjq H2=>∃cg g2 dX,Ext bH H1 dX H2/\n8 X.K dX H2 cg jq/\Rl X.K dX g2 H2/\N2 cg g2,?_,?_⟩
   ·rintro jq H2 ⟨cg,g2,dX,e2,s2,R2,n2⟩;obtain⟨m',hm,w2⟩:=zN cg g2 n2;exact⟨m',hm,cg,g2,dX,e2,s2,R2,w2⟩
   ·intro v H2 y;obtain⟨e2,R2,r2⟩:=yl v H2 y;refine⟨x,bN,g',bB,s'.ext e2,R2,r2,u7 (λcg q jq s2=>?_) q⟩;refine qS hP s2 R2 (e1.trans (e'.trans e2)) q ⟨?_,?_,?_,?_⟩
    ·exact λgY g3 n3 iN H3 jQ e3 R3 s3=>⟨gY,g3,iN,(e'.trans e2).trans e3,s3,R3,n3⟩
    ·exact λd g3 h=>h.ext (e1.trans (e'.trans e2))
    ·exact λgY g3 h iN H3 jQ e3 R3 s3=>h iN H3 jQ (e1.trans ((e'.trans e2).trans e3)) R3 s3
    ·exact λgY g3 n3 iN H3 jQ e3 R3 s3=>⟨gY,g3,iN,(e'.trans e2).trans e3,s3,R3,n3⟩
theorem Jk{d5:List Nat}{n:Nat}{t:MT}{mi iy me:ME}:∀bR H Q,LE X.K Ξ (aK P (.comp d5 n t mi iy me)) bR H Q->Cd (LI X.K Ξ (eG P mi)) d5 n (LG X.K t) (LT X.K (oO Ξ.1) (cC P iy)) (LE X.K (oO Ξ.1) (aK P me)) bR H Q:=λbR H Q ⟨Z,g,ρ,s,R,h⟩=>by
 simp only[aK] at h;refine⟨Z,g,ρ,s,R,w5 hP mi _ _ _ _ _ _ (λk g1 h bH H1 J e1 R1 j1=>?_) (λ_ _ z=>z) h⟩;obtain⟨W,⟨m0,w0⟩,h⟩:=h;refine⟨λi m Dp cU H'=>∃ys bN g' bB,Ext bH H1 bB H'/\n8 X.K bB H' bN cU/\Rl X.K bB g' H'/\c8 X.K bB H' ys Dp/\W i m ys bN g',⟨m0,[],_,g1,bH,.refl _ _,(s.ext e1).d5 d5 n,R1,.nil,w0⟩,?_⟩;rintro i m Dp cU H' ⟨ys,bN,g',bB,e',s',R',ry,w'⟩;obtain⟨tV,tU⟩:=j1 bB g' H' e' R' i;rcases h i m ys bN g' w' with⟨ek,q⟩|⟨x,ek,hz,q⟩
 ·exact .inl ⟨tV ek,λp hp=>(q.ext (e1.trans e')).new R' hp ry⟩
 ·obtain⟨go,yl⟩:=tU x ek;refine .inr ⟨go,by rw[<- ry.length];exact AZ hz,λv H2 y=>?_⟩;obtain⟨e2,R2,r2⟩:=yl v H2 y;refine⟨x,bN,g',bB,s'.ext e2,R2,r2,u7 (λcg q jq s2=>?_) q⟩;refine⟨cg,g',bB,s2,R2,o6 hP iy _ _ _ _ _ _ (λb g3 q iN H3 e3 R3=>?_) (λ_ _ z=>z.elim) q⟩;cases b
  ·obtain⟨m',hm,w3⟩:=q;exact⟨m',hm,ys,cg,g3,iN,(e'.trans e2).trans e3,s2.ext e3,R3,(ry.ext e2).ext e3,by simpa using w3⟩
  ·refine⟨cg,g3,iN,s2.ext e3,R3,c6 hP me _ _ _ _ _ _ (λz g4 q pq H4 v4 e4 R4 r4=>?_) (λ_ _ z=>z.elim) q⟩;obtain⟨m',hm,w4⟩:=q;exact⟨m',hm,ys++[z],cg,g4,pq,(e'.trans e2).trans (e3.trans e4),(s2.ext e3).ext e4,R4,(((ry.ext e2).ext e3).ext e4).append (.cons r4 .nil),by simpa using w4⟩
theorem a13{elt tg iter:Expr}{ifs:List Expr}{scope:Scope}{N':List Str}{d5:List Nat}{cl:List (Str×Addr)}{pos p2 ja:Pos}{t:MT}{mi iy me:ME}(S:df X scope N' d5 cl)(hc:X.calm=true)(hi:PI X tg iter (LI X.K Ξ (eG P mi)))(hg:∀pins C s H fp,PG (f6 X pins scope N' cl C s H fp) tg (LG X.K t))(ht:∀pins C s H fp,ko (f6 X pins scope N' cl C s H fp) ifs (LT X.K (oO Ξ.1) (cC P iy)))(he:∀pins C s H fp,PE (f6 X pins scope N' cl C s H fp) elt (LE X.K (oO Ξ.1) (aK P me)))(hs:∀x,foldedSetIterable iter X.env x=pure x)(lW:Gl X "sorted")(lU:X.mg "sorted"=none):PE X (.Call (.Name "sorted" p2) [.SetComp elt [⟨tg,iter,ifs,0⟩] scope pos] [] ja) (LE X.K Ξ (aK P (.gi d5 N'.length t mi iy me))) :=
 (Y9 (V0 hc) lW lU (by first|exact oX|decide +kernel) (P8 (a35 S hc hi hg ht he hs) X0)).imp λbR H Q ⟨Z,g,ρ,s,R,h⟩=>by
  simp only[aK] at h;refine⟨Z,g,ρ,s,R,w5 hP mi _ _ _ _ _ _ (λk g1 h bH H1 J e1 R1 j1=>?_) (λ_ _ z=>z) h⟩;obtain⟨W,⟨m0,w0⟩,h⟩:=h;refine⟨λi m ys cU H'=>∃bN g' bB,Ext bH H1 bB H'/\n8 X.K bB H' bN cU/\Rl X.K bB g' H'/\W i m ys bN g',⟨m0,_,g1,bH,.refl _ _,(s.ext e1).d5 d5 _,R1,w0⟩,?_⟩;rintro i m ys cU H' ⟨bN,g',bB,e',s',R',w'⟩;obtain⟨tV,tU⟩:=j1 bB g' H' e' R' i;rcases h i m ys bN g' w' with⟨ek,hz,q⟩|⟨x,ek,hz,q⟩
  ·exact .inl ⟨tV ek,λp hp=>⟨p,ys,rfl,t8,hz,λp' jb=>(q.ext ((e1.trans e').trans (A7 hp))).new (R'.grow hp) jb (c8.ofInts _)⟩⟩
  ·obtain⟨go,yl⟩:=tU x ek;refine .inr ⟨go,hz,λv H2 y=>?_⟩;obtain⟨e2,R2,r2⟩:=yl v H2 y;refine⟨x,bN,g',bB,s'.ext e2,R2,r2,u7 (λcg q jq s2=>?_) q⟩;refine⟨cg,g',bB,s2,R2,o6 hP iy _ _ _ _ _ _ (λb g3 q iN H3 e3 R3=>?_) (λ_ _ z=>z.elim) q⟩;cases b
   ·obtain⟨m',hm,w3⟩:=q;exact⟨m',hm,cg,g3,iN,(e'.trans e2).trans e3,s2.ext e3,R3,by simpa using w3⟩
   ·refine⟨cg,g3,iN,s2.ext e3,R3,c6 hP me _ _ _ _ _ _ (λz g4 q pq H4 v4 e4 R4 r4=>?_) (λ_ _ z=>z.elim) q⟩;obtain⟨j,rfl,m',hm,w4⟩:=q;obtain rfl:=r4.i6;exact⟨j,rfl,m',hm,cg,g4,pq,(e'.trans e2).trans (e3.trans e4),(s2.ext e3).ext e4,R4,by simpa using w4⟩
end
end M

namespace M
open PySem L2 PySem.Spec PyProof.Rows
section
variable{X:Cx}{Ξ:gA}{P:eR}(hP:i7 P)
include hP
theorem a07{x:Str}{C:Addr}{B newId fT:String}{bm:List Value}{np fA pos:Pos}{jf:Expr}{rest:List Expr}{gC:ME}(hc:X.calm=true)(O:OwnCls x C bm newId X.mg X.base)(FB:ExcBaseFacts B newId fT bm)(hg:Gl X x)(ha:PA X (jf::rest) (LA X.K Ξ (cW P gC)))(hr:xr X Ξ.2)(hx:x∈Ξ.1)(hC:u4 X.K x C)(he:starEach (jf::rest) X.env=(false,eval jf X.env)::starEach rest X.env)(fU:(backTo fA (starEach rest X.env)).any (·.1)=false)(hd:(x==("__debug__":Str))=false):PS X (.Raise (some (.Call (.Name x np) (jf::rest) [] fA)) none pos) (LS X.K Ξ (wpS P (.raise x gC))) :=
 (a29 hc O FB hg ha hr he fU hd).imp λN bR H ⟨Z,g,ρ,s,R,h⟩=>by
  refine js hP s R (.refl _ _) h λds g1 bH H1 vs e1 R1 r1 h=>?_;exact⟨by rw[<- r1.length];exact m7 (aD h.1 (by decide)),h.2 bH H1 C e1 R1 hx hC⟩
noncomputable def Vb(X:Cx)(ex:List Str)(D:L2.Ends)(hs:List ExceptHandler):gA:=(ex,λv _ H=>∃C,v=.ref C/\wM X D C H hs)
inductive qK(X:Cx)(Ξ:gA)(P:eR):List ExceptHandler->List (Str×ME)->Prop
 |nil (hh:xh X Ξ.2):qK X Ξ P [] []
 |cons {y:Str} {C':Addr} {p p1 p2:Pos} {e:Expr} {me:ME} {hs:List ExceptHandler} {ms:List (Str×ME)} (hg:Gl X y) (hd:(y==("__debug__":Str))=false) (hm:X.mg y=some (.ref C'))
   (hx:∀x C,x∈Ξ.1->u4 X.K x C->PySem.W.exmOne X.K (.ref C) (.ref C')=some (decide (x=y\/y="MintError"))) (he:∀ea,PE (N9 X ea) e (LE X.K (oO Ξ.1) (aK P me))) (r:qK X Ξ P hs ms) :
   qK X Ξ P (.ExceptHandler (some (.Name y p)) none [.Return (some e) p1] p2::hs) ((y,me)::ms)
end
end M

namespace M
open PySem L2 PySem.Spec PyProof.Rows
structure i4 where
 N:List Str
 nm:List (Str×NameKind)
 lg:Bool
 fns:List (Str×Nat)
 con:List (Str×D)
 blt:List Str
 exc:List Str
 gd:List (Str×List D)
 cls:List (Str×Nat)
 nU:List (Str×Str×Nat)
 mI:List (Str×Str)
 jS:Bool
 lC:Bool
noncomputable def fF:Expr->Bool
 |.Set ..=>false
 |.Starred ..=>false
 |.Slice ..=>false
 |_=>true
noncomputable def v8:Expr->Bool
 |.ListComp ..=>false
 |.SetComp ..=>false
 |.DictComp ..=>false
 |_=>true
noncomputable def sv:Expr->Bool
 |.Tuple ..=>false
 |_=>true
noncomputable def BD:Expr->Bool
 |.Name ..=>true
 |.Call ..=>true
 |.Subscript ..=>true
 |.Constant ..=>true
 |.Attribute ..=>true
 |.BinOp ..=>true
 |_=>false
noncomputable def xn:Expr->Bool
 |.Call (.Name ..) ..=>false
 |_=>true
noncomputable def i4.idx(c:i4)(x:Str):Option Nat:=c.N.findIdx? λy=>decide (y=x)
noncomputable def i4.sX(c:i4)(x:Str):Bool:=match c.nm.lookup x with
 |some .local=>true
 |some .cell=>true
 |some .free=>true
 |_=>false
noncomputable def i4.gl(c:i4)(x:Str):Bool:=decide (c.nm.lookup x=some .globalImplicit)
noncomputable def i4.A2(c:i4)(x:Str):Bool:=decide (c.nm.lookup x=some .local)||decide (c.nm.lookup x=some .cell)
noncomputable def oK(x:Str):Bool:=(x==("__debug__":Str))==false&&(x==("__classdict__":Str))==false&&decide (x≠"__name__")
noncomputable def Cf:List (Str×String):=[("int","int"),("bool","bool"),("str","str"),("tuple","tuple"),("list","list")]
noncomputable def Cs:List (Str×Pr):=[("len",.len),("list",.list),("tuple",.tuple),("isinstance",.isin),("all",.all),("max",.max),("min",.min),("int",.int),("sum",.sum)]
noncomputable def xE:List (Str×Pr):=[]
noncomputable def CA:List (Str×Pr):=[("append",.append),("pop",.pop),("get",.get),("add",.ju)]
noncomputable def AN:Expr->Option (Str×List Expr)
 |.Call (.Name x _) args [] _=>some (x,args)
 |_=>none
noncomputable def FX:Expr->Bool
 |.Tuple ..=>true
 |_=>false
noncomputable def asName:Expr->Option Str
 |.Name x _=>some x
 |_=>none
noncomputable def frees(sc:Scope):List Str:=(sc.names.filter λy=>decide (y.2=.free)).map (·.1)
noncomputable def locals(sc:Scope):List Str:=(sc.names.filter λy=>decide (y.2=.local)||decide (y.2=.cell)).map (·.1)
noncomputable def i4.inner(c:i4)(sc:Scope):i4:={ c with N:=frees sc++locals sc,nm:=sc.names,lg:=false,jS:=false,lC:=false }
noncomputable def i4.d5(c:i4)(sc:Scope):List Nat:=(frees sc).map λx=>(c.idx x).getD 0
noncomputable def i4.Bf(c:i4)(sc:Scope):Bool :=
 decide (sc.kind=.function)&&sc.names.all (λy=>!decide (y.2=.cell)||decide (sc.names.lookup y.1=some .cell))&&sc.names.all (λy=>!decide (y.2=.local)||decide (sc.names.lookup y.1=some .local)) &&
 decide (frees sc++locals sc).Nodup&&(frees sc).all (λx=>(c.idx x).isSome&&decide (sc.names.lookup x=some .free)&&(decide (c.nm.lookup x=some .cell)||decide (c.nm.lookup x=some .free)))
noncomputable def i4.slot(c:i4)(e:Expr):Option Nat:=(asName e).bind λx=>if c.A2 x then c.idx x else none
noncomputable def i4.slots(c:i4):List Expr->Option (List Nat)
 |[]=>some []
 |e::r=>(c.slot e).bind λi=>(c.slots r).map λis=>i::is
noncomputable def i4.tg(c:i4)(e:Expr):Option MT:=((c.slot e).map .one).orElse λ_=>match e with
 |.Tuple es _ _=>(c.slots es).map .many
 |_=>none
noncomputable def BQ:Const->Option D
 |.int i=>some (.int i)
 |.bool b=>some (.bl b)
 |.none=>some .bO
 |.str x=>some (.str x)
 |_=>none
structure CF where
 e:i4->Expr->Option ME
 t:i4->Expr->Option ME
 s:i4->Stmt->Option MS
section
variable(r:CF)(c:i4)
noncomputable def c1(p:Pr)(a:Expr):Option ME:=(r.e c a).map λm=>.prim p (.cons m .nil)
noncomputable def c2(p:Pr)(a b:Expr):Option ME:=(r.e c a).bind λma=>(r.e c b).map λmb=>.prim p (.cons ma (.cons mb .nil))
noncomputable def F9:List Expr->Option ME
 |[]=>some .nil
 |e::es=>if fF e then(r.e c e).bind λm=>(F9 es).map λms=>.cons m ms else none
noncomputable def HR:Expr->Option Str
 |.Constant (.str x) _ _=>some x
 |_=>none
noncomputable def Fx:Expr->Option Expr
 |.FormattedValue e k none _=>if k=-1 then some e else none
 |_=>none
noncomputable def se:List Expr->Option ME
 |[]=>some .nil
 |e::es=>((HR e).bind λx=>if x.length<=2000 then(se es).map λms=>.cons (.lit (.str x)) ms else none).orElse λ_ =>
   (Fx e).bind λa=>(r.e c a).bind λm=>(se es).map λms=>.cons (.prim .fv (.cons m .nil)) ms
noncomputable def ve:List (Option Expr)->List Expr->Option ME
 |[],[]=>some .nil
 |some k::ks,v::vs=>(r.e c k).bind λmk=>(r.e c v).bind λmv=>(ve ks vs).map λms=>.cons mk (.cons mv ms)
 |_,_=>none
noncomputable def wQ(op:BoolOp):List Expr->Option ME
 |[]=>none
 |[a]=>r.e c a
 |a::b::rs=>(r.e c a).bind λma=>(wQ op (b::rs)).map λmb=>match op with
  |.And=>.dQ ma mb
  |.Or=>.jG ma mb
noncomputable def wR(op:BoolOp):List Expr->Option ME
 |[]=>none
 |[a]=>r.t c a
 |a::b::rs=>(r.t c a).bind λma=>(wR op (b::rs)).map λmb=>match op with
  |.And=>.dQ ma mb
  |.Or=>.jG ma mb
noncomputable def HU:List Expr->Option ME
 |[]=>some .no
 |[e]=>r.t c e
 |_=>none
noncomputable def y9:List Stmt->Option MS
 |[]=>some .pass
 |s::rs=>(r.s c s).bind λm=>(y9 rs).map λms=>.seq m ms
noncomputable def Cn(x:Str):Option ME :=
 if oK x then(if c.sX x then(c.idx x).map .var else if c.gl x then((c.con.lookup x).map .lit).orElse λ_=>if c.blt.contains x then(Cf.lookup x).map λt=>.lit (.ty t) else none else none) else none
noncomputable def yi(op:UnaryOp)(a:Expr):Option ME:=if op=.Not then(r.e c a).map .dH else c1 r c (.un op) a
noncomputable def i4.xU(b:Expr):Option (List D):=(asName b).bind λx=>if c.gl x&&oK x then c.gd.lookup x else none
noncomputable def TY:CmpOp->Option Bool
 |.In=>some false
 |.NotIn=>some true
 |_=>none
noncomputable def uZ(a:Expr)(ops:List CmpOp)(bs:List Expr):Option ME:=match ops,bs with
 |[op],[b]=>if behindInMarks op b then none else((TY op).bind λneg=>(c.xU b).bind λkvs=>(r.e c a).map λma=>.prim (wU neg) (.cons (.lit (.tup kvs)) (.cons ma .nil))).orElse λ_=>c2 r c (.cmp op) a b
 |[op,gR],[b,d]=>if lastMarks [op,gR] [b,d] then none else(r.e c a).bind λma=>(r.e c b).bind λmb=>(r.e c d).map λmd=>.chain op gR ma mb md
 |_,_=>none
noncomputable def Cq:Expr->Bool
 |.UnaryOp .USub (.Constant (.int i) _ _) _=>decide (i=1)
 |_=>false
noncomputable def Tt:Expr->Option (Option Expr×Option Expr×Option Expr)
 |.Slice lo hi st _=>some (lo,hi,st)
 |_=>none
noncomputable def Dq(a:Expr):Option Expr->Option Expr->Option Expr->Option ME
 |none,none,none=>c1 r c (.lG false false) a
 |some b,none,none=>c2 r c (.lG true false) a b
 |none,some b,none=>c2 r c (.lG false true) a b
 |none,none,some d=>if Cq d then c1 r c .rev a else none
 |_,_,_=>none
noncomputable def BJ(a b:Expr):Option ME:=((Tt b).bind λq=>Dq r c a q.1 q.2.1 q.2.2).orElse λ_=>if fF b then((c.xU a).bind λkvs=>(r.e c b).map λmb=>.prim .mn (.cons (.lit (.tup kvs)) (.cons mb .nil))).orElse λ_=>c2 r c .ix a b else none
noncomputable def yj(x:Str)(e:Expr):Option ME:=(AN e).bind λq =>
 if x="list" && q.1="range" && c.blt.contains "list" && c.blt.contains "range" && c.gl "range" then (match q.2 with
  |[a]=>if fF a then c1 r c .iT a else none
  |[a,b]=>if fF a&&fF b then c2 r c .jy a b else none
  | _=>none)
 else if x="sorted" && q.1="set" && c.blt.contains "sorted" && c.blt.contains "set" && c.gl "set" then (match q.2 with
  |[a]=>if fF a then c1 r c .sset a else none
  | _=>none)
 else if x="len" && q.1="set" && c.blt.contains "len" && c.blt.contains "set" && c.gl "set" then (match q.2 with
  |[a]=>if fF a then c1 r c .rW a else none
  | _=>none)
 else none
noncomputable def Va(x:Str)(e:Expr):List Expr->Option ME
 |[]=>yj r c x e
 |_=>none
noncomputable def AH(x:Str):Option ME:=if oK x&&c.gl x then(c.cls.lookup x).map λf=>.make x f .nil else none
noncomputable def AI(x:Str)(e:Expr)(es:List Expr):Option ME:=if oK x&&c.gl x then(Va r c x e es).orElse λ_=>(F9 r c (e::es)).bind λms=>((c.fns.lookup x).map λf=>.call f ms).orElse λ_=>((c.cls.lookup x).map λf=>.make x f ms).orElse λ_=>if c.blt.contains x then(Cs.lookup x).map λp=>.prim p ms else none else none
noncomputable def Iv(x:Str):List Expr->Option ME
 |[]=>AH c x
 |e::es=>AI r c x e es
noncomputable def AJ(o:Expr)(m:Str)(apos pos:Pos)(args:List Expr):Option ME :=
 if xn o && (apos.endLine == pos.line) && decide (args.length < 20) then (r.e c o).bind λmo=>(F9 r c args).bind λms=>if m="index" then none else if args.isEmpty && (xE.lookup m).isSome then (xE.lookup m).map λp=>.eF p mo ms else (match CA.lookup m with
  |some p=>if args.isEmpty then none else some (.eF p mo ms)
  | none=>none) else none
noncomputable def Cm(f:Expr)(args:List Expr)(iQ:List Keyword)(pos:Pos):Option ME:=if iQ.isEmpty then(match f with
 |.Name x _=>Iv r c x args
 |.Attribute o m apos=>AJ r c o m apos pos args
 | _=>none) else none
noncomputable def vf(tg e:Expr):Option ME:=(((AN e).bind λq =>
  if q.1="enumerate" then (match q.2 with
   |[a]=>if c.gl "enumerate"&&c.blt.contains "enumerate"&&fF a&&FX tg then(r.e c a).map .jH else none
   | _=>none)
  else if q.1="reversed" then (match q.2 with
   |[a]=>if c.gl "reversed"&&c.blt.contains "reversed"&&fF a then(r.e c a).map .mV else none
   | _=>none)
  else if q.1="range" then (match q.2 with
   |[a]=>if c.gl "range"&&c.blt.contains "range"&&fF a then(r.e c a).map .eY else none
   |[a,b]=>if c.gl "range"&&c.blt.contains "range"&&fF a&&fF b then(r.e c a).bind λma=>(r.e c b).map λmb=>.jU ma mb else none
   | _=>none)
  else none):Option ME).orElse λ_=>if fF e then (r.e c e).map .fj else none
noncomputable def Y2(elt:Expr)(gens:List Comprehension)(sc:Scope):Option ME:=match gens with
 |[⟨tg,it,ifs,DX⟩]=>if c.Bf sc&&decide (DX=0)&&fF it then((c.inner sc).tg tg).bind λt=>(vf r c tg it).bind λmi=>(HU r (c.inner sc) ifs).bind λmc=>(r.e (c.inner sc) elt).map λme=>.comp (c.d5 sc) (frees sc++locals sc).length t mi mc me else none
 |_=>none
noncomputable def Tr:Expr->Option Str
 |.Name x _=>some x
 |_=>none
noncomputable def Ts:Expr->Option (Expr×List Comprehension×Scope)
 |.SetComp elt gens sc _=>some (elt,gens,sc)
 |_=>none
noncomputable def UY:ME->Option ME
 |.comp a n t i k e=>some (.gi a n t i k e)
 |_=>none
noncomputable def yk(f:Expr)(args:List Expr)(iQ:List Keyword):Option ME:=match args with
 |[a]=>if iQ.isEmpty&&decide (Tr f=some "sorted")&&c.gl "sorted"&&c.blt.contains "sorted" then(Ts a).bind λq=>(Y2 r c q.1 q.2.1 q.2.2).bind UY else none
 |_=>none
noncomputable def vP(f:Expr)(args:List Expr)(iQ:List Keyword):Option ME:=(λ(_:i4)=>none) c
noncomputable def BI(es:List Expr)(k:Nat):Option ME:=if c.lg&&decide (k=0) then(match es with
 |[.Constant (.int i) _ _]=>some (.prim (.jt i) .nil)
 | _=>none) else none
noncomputable def JI:Expr->Option ME
 |.Name x _=>Cn c x
 |.Constant k _ _=>(BQ k).map .lit
 |.BinOp a op b _=>c2 r c (.bin op) a b
 |.UnaryOp op a _=>yi r c op a
 |.Compare a ops bs _=>uZ r c a ops bs
 |.BoolOp op vs _=>wQ r c op vs
 |.IfExp t a b _=>(r.t c t).bind λmt=>(r.e c a).bind λma=>(r.e c b).map λmb=>.ite mt ma mb
 |.Tuple es _ _=>(F9 r c es).map (.prim .tup)
 |.List es _=>(F9 r c es).map (.prim .lst)
 |.Subscript a b _=>BJ r c a b
 |.Dict ks vs _=>if ks.isEmpty&&vs.isEmpty then some (.prim .nC .nil) else if decide (ks.length<=15) then(ve r c ks vs).map .oE else none
 |.JoinedStr vs _=>if decide (2<=vs.length)&&decide (vs.length<=40) then(se r c vs).map (.prim .kJ) else none
 |.Attribute o f _=>if xn o then c1 r c (.fld f) o else none
 |.Call f args iQ pos=>(yk r c f args iQ).orElse λ_=>(vP c f args iQ).orElse λ_=>Cm r c f args iQ pos
 |.ListComp elt gens sc _=>Y2 r c elt gens sc
 |.Set es k _=>BI c es k
 |_=>none
noncomputable def stepT:Expr->Option ME
 |.UnaryOp op a _=>if op=.Not then(r.t c a).map .dH else none
 |.BoolOp op vs _=>wR r c op vs
 |.Compare a ops bs _=>(uZ r c a ops bs).map .fy
 |e=>if BD e then(r.e c e).map .fy else none
noncomputable def i4.wZ:List Expr->Expr->Bool
 |[.Name x px,.Name y py],.Tuple [a,b] _ _=>decide (c.nm.lookup x=some .local)&&decide (c.nm.lookup y=some .local)&&decide (x≠y)&&decide (py.line=px.line)&&fF a&&fF b&&!([a,b].all (foldedForSure 8))&&!([a,b].all (constantsAlone 8))
 |_,_=>false
noncomputable def AO:Option Expr->Option Expr->Option (Str×Expr×List Expr)
 |some (.Call (.Name x _) (e::es) [] _),none=>some (x,e,es)
 |_,_=>none
noncomputable def i4.xT(f:Str):List Str:=(c.mI.filter λy=>decide (y.1=f)).map (·.2)
noncomputable def Cr:List Expr->Option (Expr×Expr×Expr×Expr)
 |_=>none
noncomputable def FI(tg e:Expr):Option MS:=match tg with
 |.Name x _=>if c.A2 x then(c.idx x).bind λi=>(r.e c e).map λm=>.set i m else none
 |.Tuple es _ _=>(Cr es).elim (if(sv e&&v8 e)||c.wZ es e then(c.slots es).bind λis=>(r.e c e).map λm=>.kR (.many is) m else none) λq=>if v8 e&&fF q.2.1&&fF q.2.2.2 then(r.e c q.1).bind λm1=>(r.e c q.2.1).bind λn1=>(r.e c q.2.2.1).bind λm2=>(r.e c q.2.2.2).bind λn2=>(r.e c e).map λm=>.vT m1 n1 m2 n2 m else none
 |.Subscript o i _=>if fF i&&v8 e then(r.e c o).bind λmo=>(r.e c i).bind λmi=>(r.e c e).map λm=>.dP mo mi m else none
 |.Attribute o f _=>if v8 e then(r.e c o).bind λmo=>(r.e c e).map λm=>.gN f (c.xT f) mo m else none
 |_=>none
noncomputable def FY:Operator->Option Pr
 |.Add=>some .iadd
 |.Sub=>some .lN
 |_=>none
noncomputable def toR(e:Expr)(m:ME):ME:=(λ(_:i4)=>m) c
noncomputable def JJ:Stmt->Option MS
 |.Expr e _=>if v8 e then(r.e c e).map .expr else none
 | .Assign yw e _=>(match yw with
  |[tg]=>FI r c tg e
  | _=>none)
 | .AugAssign tg op e _=>(match tg with
  |.Name x _=>if c.A2 x then(FY op).bind λp=>(c.idx x).bind λi=>(r.e c e).map λm=>.jg i p m else none
  | _=>none)
 |.If t a b _=>(r.t c t).bind λmt=>(y9 r c a).bind λma=>(y9 r c b).map λmb=>.ifs mt ma mb
 |.For tg it body nu _=>if c.lg&&(nu.isEmpty&&fF it) then(c.tg tg).bind λt=>(vf r c tg it).bind λmi=>(y9 r c body).map λmb=>.dI t mi mb else none
 |.While t body nu _=>if c.lg&&nu.isEmpty then(r.t c t).bind λmt=>(y9 r c body).map λmb=>.jr mt mb else none
 | .Return e _=>(match e with
  |some e=>(r.e c e).map λm=>.ret (toR c e m)
  | none=>some .pD)
 |.Pass _=>some .pass
 |.Raise e f _=>(AO e f).bind λq=>if c.jS&&c.exc.contains q.1&&c.gl q.1&&oK q.1 then(F9 r c (q.2.1::q.2.2)).map (.raise q.1) else none
 |_=>none
end
noncomputable def comp:Nat->CF
 |0=>⟨λ_ _=>none,λ_ _=>none,λ_ _=>none⟩
 |n+1=>⟨JI (comp n),stepT (comp n),JJ (comp n)⟩
end M

namespace M
open PySem L2 PySem.Spec PyProof.Rows
structure gF(X:Cx)(c:i4)(P:eR)(Ξ:gA):Prop where
 N:X.N=c.N
 nd:c.N.Nodup
 loc:∀x,c.nm.lookup x=some .local->X.env.scope.names.lookup x=some .local
 wK:∀x,c.nm.lookup x=some .cell->X.env.scope.names.lookup x=some .cell
 Ae:∀x,c.nm.lookup x=some .free->X.env.scope.names.lookup x=some .cell\/X.env.scope.names.lookup x=some .free
 EN:∀x,c.nm.lookup x=some .globalImplicit->X.env.scope.names.lookup x=some .globalImplicit
 cells:∀x,(c.nm.lookup x=some .cell\/c.nm.lookup x=some .free)->∃a,X.env.cells.lookup x=some a
 lg:∀x,c.nm.lookup x=some .cell->X.fn x=true
 calm:X.calm=true
 units:X.A.units+100<cLine
 own:c.lg=true->PassesOwn (model X.prog X.w) X.A X.env X.xe
 mono:i7 P
 con:∀x d,c.con.lookup x=some d->∃v u,X.mg x=some u/\RelV v u/\∀ρ H,f7 X.K ρ H d v
 blt:∀x,c.blt.contains x=true->X.mg x=none
 fns:∀x f,c.fns.lookup x=some f->∃k fa fd ps,oU X P Ξ.1 k f fa fd ps/\v9 k X.A/\X.mg x=some (.ref fa)/\PySem.W.keepIn X.K (.ref fa)=true
 cls:∀x f,c.cls.lookup x=some f->∃k C fa fd ps,oU X P Ξ.1 k f fa fd ps/\v9 (k+1) X.A/\X.mg x=some (.ref C)/\u4 X.K x C/\jl X.K C/\Mk X.K C fa
 nU:∀m y f C,(m,y,f)∈c.nU->u4 X.K y C->∃k fa fd ps,Meth X.K C m fa/\oU X P Ξ.1 k f fa fd ps/\v9 k X.A
 mI:∀f y C,(f,y)∈c.mI->u4 X.K y C->B6 X.K C f
 Ah:Ξ.1=c.exc
 pass:Passes (iJ X.prog X.w) X Ξ.2
 jS:c.jS=true->xr X Ξ.2
 lC:c.lC=true->X.stack=X.env::X.outer/\X.env.frame=some X.env.locals/\xh X Ξ.2
 exc:∀x,c.exc.contains x=true->∃C,X.mg x=some (.ref C)/\u4 X.K x C/\∃B newId fT bm,OwnCls x C bm newId X.mg X.base/\ExcBaseFacts B newId fT bm
 EU:∀x y C C',c.exc.contains x=true->c.exc.contains y=true->u4 X.K x C->u4 X.K y C'->PySem.W.exmOne X.K (.ref C) (.ref C')=some (decide (x=y\/y="MintError"))
 uJ:∀x kvs,c.gd.lookup x=some kvs->wL X x kvs
 code:c.lg=true->PySem.W.kdsCode X.K X.env.code=true
section
variable{X:Cx}{c:i4}{P:eR}{Ξ:gA}
theorem Rz{c:i4}{x:Str}{i:Nat}(h:c.idx x=some i):c.N[i]?=some x:=by
 unfold i4.idx at h;rw[jF] at h;obtain⟨h1,h2,_⟩:=h;rw[ag h1,aZ h2]
theorem gF.Oh(C:gF X c P Ξ){x:Str}(h:c.sX x=true):vz X.env.scope x:=by
 unfold i4.sX at h;split at h
 ·rename_i e;exact .inl (C.loc x e)
 ·rename_i e;exact .inr (.inl (C.wK x e))
 ·rename_i e;rcases C.Ae x e with z|z
  ·exact .inr (.inl z)
  ·exact .inr (.inr z)
 ·cases h
theorem gF.A5(C:gF X c P Ξ){x:Str}(h:c.gl x=true):Gl X x:=C.EN x (aZ h)
theorem gF.A2(C:gF X c P Ξ){x:Str}(h:c.A2 x=true):Loc X.env.scope x/\(X.fn x=true\/X.env.scope.names.lookup x=some .local):=by
 unfold i4.A2 at h;rw[cH] at h;rcases h with h|h
 ·have:=C.loc x (aZ h);exact⟨.inl this,.inr this⟩
 ·exact⟨.inr (C.wK x (aZ h)),.inl (C.lg x (aZ h))⟩
theorem gF.qz(C:gF X c P Ξ){x:Str}{i:Nat}(h:c.idx x=some i):X.N[i]?=some x:=by rw[C.N];exact Rz h
theorem gF.pI(C:gF X c P Ξ):X.N.Nodup:=by rw[C.N];exact C.nd
theorem Ha{e:Expr}{x:Str}(h:asName e=some x):∃p,e=.Name x p:=by
 cases e<;>first|(cases h;exact⟨_,rfl⟩)|cases h
theorem Gi{e:Expr}{i:Nat}(h:c.slot e=some i):∃x p,e=.Name x p/\c.A2 x=true/\c.idx x=some i:=by
 unfold i4.slot at h;obtain⟨x,hx,h2⟩:=ai.mp h;obtain⟨p,rfl⟩:=Ha hx;split at h2
 ·exact⟨x,p,rfl,by assumption,h2⟩
 ·cases h2
theorem gF.slots(C:gF X c P Ξ):∀{es:List Expr} {is:List Nat},c.slots es=some is->fq X es is:=by
 intro es
 induction es with
 |nil=>intro is h;cases h;exact .nil
 |cons e r ih =>
  intro is h;unfold i4.slots at h;obtain⟨i,hi,h⟩:=ai.mp h;obtain⟨is',hs,rfl⟩:=ae.mp h;obtain⟨x,p,rfl,hl,hx⟩:=Gi hi;exact .cons (C.qz hx) (C.A2 hl).1 (C.A2 hl).2 (ih hs)
theorem orElse_some{α:Type}{a:Option α}{b:Unit->Option α}{m:α}(h:a.orElse b=some m):a=some m\/b ()=some m:=by
 cases a with
 |none=>exact .inr h
 |some x=>exact .inl h
theorem gF.FP(C:gF X c P Ξ){tg:Expr}{t:MT}(h:c.tg tg=some t):PG X tg (LG X.K t):=by
 unfold i4.tg at h;rcases orElse_some h with h|h
 ·obtain⟨i,hi,rfl⟩:=ae.mp h;obtain⟨x,p,rfl,hl,hx⟩:=Gi hi;exact Qy C.pI (C.qz hx) (C.A2 hl).1 (C.A2 hl).2
 ·cases tg<;>first|(cases h;done)|skip
  obtain⟨is,hs,rfl⟩:=ae.mp (show(c.slots _).map MT.many=some t from h);exact Jb C.calm C.pI (C.slots hs)
theorem n6{e:Expr}{es:List Expr}{env:Env}(h:fF e=true):starEach (e::es) env=(false,eval e env)::starEach es env:=by
 cases e<;>first|rfl|cases h
theorem Z0{e:Expr}{env:Env}(h:fF e=true):∀x,foldedSetIterable e env x=pure x:=by
 intro x;cases e<;>first|rfl|cases h
theorem Ig{e:Expr}(h:fF e=true):AL e:=by
 intro o i;cases e<;>first|rfl|cases h
theorem RU{o i:Expr}{tp:Pos}{env:Env}(h:fF i=true):∀v,assign (.Subscript o i tp) env v=(do
      let ov <- holding [v] (eval o env)
      let iv <- holding [v,ov] (eval i env)
      standAt tp
      holding [v,ov,iv] (setItem ov iv v)
      release [v,ov,iv] []):=by
  intro v;cases i<;>first|rfl|cases h
theorem U1{e:Expr}{t:Option Expr}{n:Nat}{env:Env}(h:v8 e=true):swapsWith e t n env=pure false:=by
 cases e<;>first|rfl|cases h
theorem a44{e:Expr}{es:List Expr}{k:Nat}{p:Pos}{env:Env}(h:sv e=true):swappedStores [.Tuple es k p] e env=pure none:=by
 cases e<;>first|rfl|cases h
theorem XW{e:Expr}{env:Env}(h:BD e=true):∀whole,isTrue e env whole=(do let v <- whole;standAt e.pos;holding [v] (truthy v)):=by
 intro w;cases e<;>first|rfl|cases h
theorem Hr{e:Expr}{q:Str×List Expr}(h:AN e=some q):∃p pos,e=.Call (.Name q.1 p) q.2 [] pos:=by
 cases e<;>first|(cases h;done)|skip
 rename_i f as iQ pos;cases f<;>first|(cases h;done)|skip
 cases iQ<;>first|(cases h;done)|skip
 cases h;exact⟨_,_,rfl⟩
theorem Xc{e:Expr}(h:FX e=true):∃es k p,e=.Tuple es k p:=by
 cases e<;>first|exact⟨_,_,_,rfl⟩|cases h
theorem Jm{b:Expr}{kvs:List D}(h:c.xU b=some kvs):∃x p,b=.Name x p/\c.gl x=true/\oK x=true/\c.gd.lookup x=some kvs:=by
 unfold i4.xU at h;obtain⟨x,hx,h2⟩:=ai.mp h;obtain⟨p,rfl⟩:=Ha hx;split at h2
 ·rename_i hc;rw[aQ] at hc;exact⟨x,p,rfl,hc.1,hc.2,h2⟩
 ·cases h2
theorem Q4{o:Expr}{f:Str}{env:Env}(h:xn o=true):attributeBase o f env (eval o env)=eval o env:=by
 cases o<;>first|rfl|skip
 rename_i f as iQ pos;cases f<;>first|rfl|cases h
theorem AU{env:Env}:∀(names:List (Str×NameKind)) (acc:List (Str×Addr)),(∀y∈names,y.2=.free->∃a,env.cells.lookup y.1=some a)->(∀x a,acc.lookup x=some a->env.cells.lookup x=some a) ->
  ∃ cl,(forIn names acc λ(y:Str × NameKind) (cs:List (Str × Addr))=>(match y with
   |(name,kind)=>if(kind==NameKind.free)=true then do
     let __do_lift <- cellOf env name
     pure (ForInStep.yield ((name,__do_lift)::cs))
    else pure (ForInStep.yield cs):Sem (ForInStep (List (Str × Addr)))))=pure cl/\(∀ x a,cl.lookup x=some a->env.cells.lookup x=some a)/\(∀ y ∈ names,y.2=.free->∃ a,cl.lookup y.1=some a)/\∀ x a,acc.lookup x=some a->∃ a',cl.lookup x=some a'
 |[],acc,_,h2=>⟨acc,rfl,h2,λy hy=>absurd hy (by simp),λx a h=>⟨a,h⟩⟩
 |(n,k)::r,acc,h1,h2=>by
  rw[List.forIn_cons];by_cases hk:k=.free
  ·subst hk;obtain⟨a,ha⟩:=h1 (n,.free) (by simp) rfl;have hc:cellOf env n=pure a:=by unfold cellOf;rw[ha]
   obtain ⟨cl,e,q1,q2,q3⟩:=AU r ((n,a) :: acc) (λy hy=>h1 y (by simp [hy])) (λx b hb=>by
    rw[cA] at hb;cases hx:x==n with
    |true=>rw[hx] at hb;cases hb;rw[eq_of_beq hx];exact ha
    | false=>rw [hx] at hb;exact h2 x b hb)
   refine⟨cl,?_,q1,λy hy hf=>?_,λx b hb=>?_⟩
   ·simp only[beq_self_eq_true,if_true,hc];exact e
   ·rcases aE.mp hy with z|z
    ·subst z;exact q3 n a (by simp[List.lookup_cons])
    ·exact q2 y z hf
   ·cases hx:x==n with
    |true=>exact q3 x a (by rw[cA,hx])
    |false=>exact q3 x b (by rw[cA,hx];exact hb)
  ·have hb:(k==NameKind.free)=false:=by simpa using hk
   obtain⟨cl,e,q1,q2,q3⟩:=AU r acc (λy hy=>h1 y (by simp[hy])) h2;refine⟨cl,?_,q1,λy hy hf=>?_,q3⟩
   ·simp only[hb,Bool.false_eq_true,if_false];exact e
   ·rcases aE.mp hy with z|z
    ·subst z;exact absurd hf hk
    ·exact q2 y z hf
end
end M

namespace M
open PySem L2 PySem.Spec PyProof.Rows
theorem XO{P:Program}{w:World}{X:Cx}:Passes (iJ P w) X (λ_ _ _=>False):=λ_ _ _ _ _ _ _ h=>by
 obtain⟨_,_,_,_,_,_,_,z⟩:=h;exact z.elim
theorem O5{env:Env}:∀{names:List (Str×NameKind)} {x:Str},names.lookup x=some .globalImplicit ->
  (names.map λ(n,k)=>if(k==NameKind.free&&env.scope.kind==.function&&env.kindOf n==some .cell) then(n,NameKind.cell) else(n,k)).lookup x=some .globalImplicit
 |[],_,h=>by simp at h
 |(n,k)::r,x,h=>by
  have ih:=@O5 env r x;show List.lookup x ((if(k==NameKind.free&&env.scope.kind==.function&&env.kindOf n==some .cell)=true then(n,NameKind.cell) else(n,k))::_)=_;cases hx:x==n with
  |true =>
   simp only[List.lookup_cons,hx] at h;cases h;simp[List.lookup_cons,hx]
  |false =>
   simp only[List.lookup_cons,hx] at h;by_cases hc:(k==NameKind.free&&env.scope.kind==.function&&env.kindOf n==some .cell)=true
   ·rw[aH hc];simp only[List.lookup_cons,hx];exact ih h
   ·rw[aB hc];simp only[List.lookup_cons,hx];exact ih h
section
variable{X:Cx}{c:i4}{P:eR}{Ξ:gA}
theorem gF.comp(C:gF X c P Ξ){sc:Scope}(h:c.Bf sc=true):∃cl,df X sc (frees sc++locals sc) (c.d5 sc) cl/\∀pins A s H fp,gF (f6 X pins sc (frees sc++locals sc) cl A s H fp) (c.inner sc) P (oO Ξ.1):=by
 unfold i4.Bf at h;simp only[Bool.and_eq_true,decide_eq_true_eq,List.all_eq_true] at h;obtain⟨⟨⟨⟨h1,h2⟩,h3⟩,h4⟩,h5⟩:=h;have lX:∀x,sc.names.lookup x=some .free->x∈frees sc:=λx hx=>by
  unfold frees;exact aO.mpr ⟨(x,.free),aT.mpr ⟨aM hx,by simp⟩,rfl⟩
 have fr:∀x∈frees sc,(∃i,c.idx x=some i)/\sc.names.lookup x=some .free/\(c.nm.lookup x=some .cell\/c.nm.lookup x=some .free):=λx hx=>by
  have:=h5 x hx;rw[dS,cH] at this;simp only[decide_eq_true_eq] at this;exact⟨this.1.1,this.1.2,this.2⟩
 have qv:∀y∈sc.names,y.2=.free->∃a,X.env.cells.lookup y.1=some a:=λy hy hf=>by
  have hm:y.1∈frees sc:=aO.mpr ⟨y,aT.mpr ⟨hy,by simp[hf]⟩,rfl⟩;exact C.cells y.1 (fr y.1 hm).2.2
 obtain⟨cl,e,q1,q2,_⟩:=AU sc.names [] qv (λx a h=>by simp at h);have h2:∀y∈sc.names,y.2=.cell->sc.names.lookup y.1=some .cell:=λy hy hl=>by
  have:=h2 y hy;rw[cH] at this;simp only[Bool.not_eq_true',decide_eq_false_iff_not,decide_eq_true_eq] at this;exact this.resolve_left λz=>z hl
 refine⟨cl,⟨h1,h2,λy hy hl=>?_,?_,q1,λx hx=>q2 (x,.free) (aM hx) rfl,h4,λi j iU=>?_,?_⟩,λpins A s H fp=>?_⟩
 ·have:=h3 y hy;rw[cH] at this;simp only[Bool.not_eq_true',decide_eq_false_iff_not,decide_eq_true_eq] at this;exact this.resolve_left λz=>z hl
 ·simp only[closureFor];rw[e]
  rfl
 ·unfold i4.d5 at iU;rw[ak] at iU;cases ex:(frees sc)[i]? with
  |none=>rw[ex] at iU;cases iU
  |some x =>
   rw[ex] at iU;have hx:x∈frees sc:=aP ex;obtain⟨⟨k,hk⟩,hl,hc⟩:=fr x hx;have hj:k=j:=by
    have:=aJ iU;dsimp only at this;rw[hk] at this;exact this
   subst hj;refine⟨x,?_,C.qz hk,hl,?_⟩
   ·rw[aG (aj.mp ex).1];exact ex
   ·rcases hc with z|z
    ·exact .inl (C.wK x z)
    ·exact C.Ae x z
 ·unfold i4.d5;rw[ah,bc];omega
 ·refine⟨rfl,h4,λx hx=>lookup_relabel_local hx,λx hx=>?_,λx hx=>E4 hx,λx hx=>O5 hx,λx hx=>?_,λx _=>?_,rfl,C.units,(λ_=>PassesOwn.never),C.mono,C.con,C.blt,C.fns,C.cls,C.nU,C.mI,C.Ah,XO,(λz=>by cases z),(λz=>by cases z),C.exc,C.EU,C.uJ,(λz=>by cases z)⟩
  ·exact L4 hx
  ·rcases hx with hx|hx
   ·exact GA (.inl hx)
   ·exact GA (.inr (q2 (x,.free) (aM hx) rfl))
  ·exact az ‹_›
theorem L8{x:Str}(h:oK x=true):(x==("__debug__":Str))=false/\(x==("__classdict__":Str))=false/\x≠"__name__":=by
 unfold oK at h;simp only[Bool.and_eq_true,decide_eq_true_eq,beq_iff_eq] at h;exact⟨h.1.1,h.1.2,h.2⟩
theorem a00{x:Str}{t:String}(h:Cf.lookup x=some t):bootBuiltins x=some (.type t):=by
 have hm:=aM h;simp only[Cf,List.mem_cons,List.mem_nil_iff,or_false] at hm;rcases hm with z|z|z|z|z<;>(cases z;first|exact vL|exact PyProof.Rows.boot_bool|exact PyProof.Rows.boot_str|exact qP|exact eL|decide +kernel|rfl)
theorem Xd{x:Str}{p:Pr}(hc:X.calm=true)(h:Cs.lookup x=some p):∃v,((∃id,v=.builtin id)\/∃T,v=.type T)/\bootBuiltins x=some v/\m9 X v (rN X.K p):=by
 have hm:=aM h;simp only[Cs,List.mem_cons,List.mem_nil_iff,or_false] at hm;rcases hm with z|z|z|z|z|z|z|z|z
 ·cases z;exact⟨.builtin "len",.inl ⟨_,rfl⟩,PySem.boot_len,OQ⟩
 ·cases z;exact⟨.type "list",.inr ⟨_,rfl⟩,by first|exact eL|decide +kernel,RJ⟩
 ·cases z;exact⟨.type "tuple",.inr ⟨_,rfl⟩,by first|exact qP|decide +kernel,a03⟩
 ·cases z;exact⟨.builtin "isinstance",.inl ⟨_,rfl⟩,by first|exact PyProof.Rows.boot_isinstance|decide +kernel,RE⟩
 ·cases z;exact⟨.builtin "all",.inl ⟨_,rfl⟩,by first|exact PyProof.Rows.boot_all|decide +kernel,Ot hc⟩
 ·cases z;exact⟨.builtin "max",.inl ⟨_,rfl⟩,by first|exact PyProof.Rows.boot_max|decide +kernel,OW hc⟩
 ·cases z;exact⟨.builtin "min",.inl ⟨_,rfl⟩,by first|exact PyProof.Rows.boot_min|decide +kernel,OX hc⟩
 ·cases z;exact⟨.type "int",.inr ⟨_,rfl⟩,by first|exact vL|decide +kernel,OE⟩
 ·cases z;exact⟨.builtin "sum",.inl ⟨_,rfl⟩,by first|exact PyProof.Rows.boot_sum|decide +kernel,QL hc⟩
theorem YH{x:Str}{p:Pr}(h:xE.lookup x=some p):∃T id,PlainAttrs T/\Slot T x id/\typeOf (.builtin id)=pure (.type "method_descriptor")/\my X id (rM X.K p) /\
  ∀{d:D} {v:V} {g:G} {ρ:List Addr} {H:Hp},Rl X.K ρ g H->f7 X.K ρ H d v->kW p d g->mD X.K T v H:=by
 cases h
theorem XD{x:Str}{p:Pr}(hu:X.A.units+100<cLine)(h:CA.lookup x=some p):∃T id,PlainAttrs T/\Slot T x id/\typeOf (.builtin id)=pure (.type "method_descriptor")/\my X id (rM X.K p) /\
  ∀{d:D} {v:V} {g:G} {ρ:List Addr} {H:Hp},Rl X.K ρ g H->f7 X.K ρ H d v->kW p d g->mD X.K T v H:=by
 have hm:=aM h;simp only[CA,List.mem_cons,List.mem_nil_iff,or_false] at hm;rcases hm with z|z|z|z
 ·cases z;exact⟨_,_,qN,PySem.F.slot_list_append,PySem.F.type_list_append,Xb,λR r h=>ty_list R r h⟩
 ·cases z;exact⟨_,_,qN,PySem.F.slot_list_pop,PySem.F.type_list_pop,a32,λR r h=>ty_list R r h⟩
 ·cases z;exact⟨_,_,PySem.F.plainAttrs_dict,ij,PySem.F.type_dict_get,OA hu,λR r h=>ty_dict R r h⟩
 ·cases z;exact⟨_,_,PySem.F.plainAttrs_set,PySem.F.slot_set_add,PySem.F.type_set_add,SA,λR r h=>ty_set R r h⟩
theorem Gk{pos:Pos}{env:Env}:∀{es:List Expr},(∀e∈es,fF e=true)->(backTo pos (starEach es env)).all (λx=>!x.1)=true
 |[],_=>rfl
 |e::es,h=>by
  rw[n6 (h e (by simp))];have ih:=Gk (pos:=pos) (env:=env) (es:=es) λx hx=>h x (by simp[hx]);unfold backTo at ih ⊢;rw[aY,List.all_cons,ih]
  rfl
theorem Y5{pos:Pos}{env:Env}:∀{es:List Expr},(∀e∈es,fF e=true)->(backTo pos (starEach es env)).any (·.1)=false
 |[],_=>rfl
 |e::es,h=>by
  rw[n6 (h e (by simp))];have ih:=Y5 (pos:=pos) (env:=env) (es:=es) λx hx=>h x (by simp[hx]);unfold backTo at ih ⊢;rw[aY,fg,ih]
  rfl
theorem Bj{r:CF}:∀{es:List Expr} {m:ME},F9 r c es=some m->∀e∈es,fF e=true:=by
 intro es
 induction es with
 |nil=>intro m _ e he;exact absurd he (by simp)
 |cons a es ih =>
  intro m h e he;unfold F9 at h;split at h
  ·obtain⟨m1,h1,h⟩:=ai.mp h;obtain⟨m2,h2,_⟩:=ae.mp h;rcases aE.mp he with z|z
   ·rw[z];assumption
   ·exact ih h2 e z
  ·cases h
end
theorem Yo{a:Expr}{x:Str}(h:HR a=some x):∃j p,a=.Constant (.str x) j p:=by
 cases a with
 |Constant k j p=>cases k with
  |str y=>cases h;exact⟨_,_,rfl⟩
  |_=>cases h
 |_=>cases h
theorem ZL{a e:Expr}(h:Fx a=some e):∃p,a=.FormattedValue e (-1) none p:=by
 cases a with
 |FormattedValue v k f p=>cases f with
  |none =>
   have h2:(if k=-1 then some v else none)=some e:=h;split at h2
   ·rename_i hk;cases h2;rw[hk];exact⟨_,rfl⟩
   ·cases h2
  |some _=>cases h
 |_=>cases h
structure oQ(P:eR)(r:CF):Prop where
 e:∀X c Ξ,gF X c P Ξ->∀e m,r.e c e=some m->PE X e (LE X.K Ξ (aK P m))
 t:∀X c Ξ,gF X c P Ξ->∀e m,r.t c e=some m->PT X e (LT X.K Ξ (cC P m))
 s:∀X c Ξ,gF X c P Ξ->∀st m,r.s c st=some m->PS X st (LS X.K Ξ (wpS P m))
section
variable{X:Cx}{c:i4}{P:eR}{Ξ:gA}{r:CF}(S:oQ P r)(C:gF X c P Ξ){a b d e:Expr}{m:ME}{pos:Pos}
include S C
theorem T5{p:Pr}(h:c1 r c p a=some m):∃ma,PE X a (LE X.K Ξ (aK P ma))/\m=.prim p (.cons ma .nil):=by
 obtain⟨ma,ha,rfl⟩:=ae.mp h;exact⟨ma,S.e X c Ξ C _ _ ha,rfl⟩
theorem Y1{p:Pr}(h:c2 r c p a b=some m):∃ma mb,PE X a (LE X.K Ξ (aK P ma))/\PE X b (LE X.K Ξ (aK P mb))/\m=.prim p (.cons ma (.cons mb .nil)):=by
 obtain⟨ma,ha,h⟩:=ai.mp h;obtain⟨mb,hb,rfl⟩:=ae.mp h;exact⟨ma,mb,S.e X c Ξ C _ _ ha,S.e X c Ξ C _ _ hb,rfl⟩
theorem rf:∀{es:List Expr} {m:ME},F9 r c es=some m->PA X es (LA X.K Ξ (cW P m)):=by
 intro es
 induction es with
 |nil=>intro m h;cases h;exact K4 C.mono
 |cons a es ih =>
  intro m h;unfold F9 at h;split at h
  ·rename_i bG;obtain⟨m1,h1,h⟩:=ai.mp h;obtain⟨m2,h2,rfl⟩:=ae.mp h;exact C0 C.mono (S.e X c Ξ C _ _ h1) (ih h2) (n6 bG)
  ·cases h
theorem Le:∀{es:List Expr} {m:ME},se r c es=some m->∃ts,lh X Ξ P es m ts:=by
 intro es
 induction es with
 |nil=>intro m h;cases h;exact⟨_,.nil⟩
 |cons a es ih =>
  intro m h;unfold se at h;rcases orElse_some h with h1|h1
  ·obtain⟨x,hx,h2⟩:=ai.mp h1;obtain⟨j,p,rfl⟩:=Yo hx;split at h2
   ·obtain⟨m2,h3,rfl⟩:=ae.mp h2;obtain⟨ts,F⟩:=ih h3;exact⟨_,.lit (by assumption) F⟩
   ·cases h2
  ·obtain⟨x,hx,h2⟩:=ai.mp h1;obtain⟨m1,h3,h4⟩:=ai.mp h2;obtain⟨m2,h5,rfl⟩:=ae.mp h4;obtain⟨p,rfl⟩:=ZL hx;obtain⟨ts,F⟩:=ih h5;exact⟨_,.val (S.e X c Ξ C _ _ h3) F⟩
theorem Lg:∀{ks:List (Option Expr)} {vs:List Expr} {m:ME},ve r c ks vs=some m->∃gP,lp X Ξ P ks vs m gP:=by
 intro ks
 induction ks with
 |nil=>intro vs m h;cases vs<;>first|(cases h;exact⟨_,.nil⟩)|cases h
 |cons k ks ih =>
  intro vs m h;cases k<;>first|(cases h;done)|skip
  cases vs<;>first|(cases h;done)|skip
  unfold ve at h;obtain⟨m1,h1,h⟩:=ai.mp h;obtain⟨m2,h2,h⟩:=ai.mp h;obtain⟨m3,h3,rfl⟩:=ae.mp h;obtain⟨gP,D⟩:=ih h3;exact⟨_,.cons (S.e X c Ξ C _ _ h1) (S.e X c Ξ C _ _ h2) D⟩
theorem Lh{op:BoolOp}:∀{vs:List Expr} {m:ME},wQ r c op vs=some m->PE X (.BoolOp op vs pos) (LE X.K Ξ (aK P m)):=by
 intro vs
 induction vs with
 |nil=>intro m h;cases h
 |cons a vs ih =>
  intro m h;cases vs with
  |nil=>exact PJ (S.e X c Ξ C _ _ h)
  |cons b vs =>
   unfold wQ at h;obtain⟨m1,h1,h⟩:=ai.mp h;obtain⟨m2,h2,rfl⟩:=ae.mp h;cases op
   ·exact Qm C.mono (S.e X c Ξ C _ _ h1) (ih h2)
   ·exact Wo C.mono (S.e X c Ξ C _ _ h1) (ih h2)
theorem Lb{op:BoolOp}:∀{vs:List Expr} {m:ME},wR r c op vs=some m->PW X (.BoolOp op vs pos) (LT X.K Ξ (cC P m)):=by
 intro vs
 induction vs with
 |nil=>intro m h;cases h
 |cons a vs ih =>
  intro m h;cases vs with
  |nil =>
   cases op
   ·exact Sx (S.t X c Ξ C _ _ h)
   ·exact Qg (S.t X c Ξ C _ _ h)
  |cons b vs =>
   unfold wR at h;obtain⟨m1,h1,h⟩:=ai.mp h;obtain⟨m2,h2,rfl⟩:=ae.mp h;cases op
   ·exact QM C.mono (S.t X c Ξ C _ _ h1) (ih h2)
   ·exact NS C.mono (S.t X c Ξ C _ _ h1) (ih h2)
theorem Uk{es:List Expr}(h:HU r c es=some m):ko X es (LT X.K Ξ (cC P m)):=by
 rcases es with _|⟨e,_|⟨_,_⟩⟩
 ·cases h;exact SY C.mono
 ·exact Sw (S.t X c Ξ C _ _ h)
 ·cases h
theorem vw:∀{Dx:List Stmt} {m:MS},y9 r c Dx=some m->iV X Dx (LS X.K Ξ (wpS P m)):=by
 intro es
 induction es with
 |nil=>intro m h;cases h;exact QD C.mono
 |cons a es ih =>
  intro m h;unfold y9 at h;obtain⟨m1,h1,h⟩:=ai.mp h;obtain⟨m2,h2,rfl⟩:=ae.mp h;exact SW C.mono (S.s X c Ξ C _ _ h1) (ih h2)
end
theorem HA{e t:Expr}{n:Nat}{env:Env}(h:v8 e=true):swapsWithSole [t] e n env=pure false:=by
 show swapsWith e (some t) n env=pure false;exact U1 h
theorem YL{x y:Str}{px py pt nS:Pos}{kt k2:Nat}{a b:Expr}{env:Env}(hk:env.scope.kind=.function)(hx:env.kindOf x=some .local)(hy:env.kindOf y=some .local)(dz:x≠y)(hl:py.line=px.line)(ha:fF a=true)(hb:fF b=true)(h1:[a,b].all (foldedForSure 8)=false)(h2:[a,b].all (constantsAlone 8)=false):swappedStores [.Tuple [.Name x px,.Name y py] kt pt] (.Tuple [a,b] k2 nS) env=pure (some [x,y]):=by
 have MD:env.blockKind=.function:=by simp[Env.blockKind,hk,ScopeKind.isAnnotationScope]
 have hd:[x,y].eraseDups.length=2:=by
  have:(y==x)=false:=by simpa using bD dz
  simp[List.eraseDups_cons,this]
 have nZ:(env.kindOf x==some NameKind.local&&px.line==px.line)=true:=by simp[hx]
 have yW:(env.kindOf y==some NameKind.local&&py.line==px.line)=true:=by simp[hy,hl]
 have hp:Expr.pos (.Name x px)=px:=rfl;unfold swappedStores;simp only[List.length_cons,List.length_nil,MD,List.head?_cons,Option.map_some,Option.getD_some,hp,List.filterMap_cons,List.filterMap_nil,nZ,yW,if_true,hd,h1,h2];rw[aB (by decide),aB ?_]
 ·rfl
 ·simp only[List.any_cons,List.any_nil,Bool.or_false,Bool.or_eq_true,not_or];constructor
  ·cases a<;>first|(intro h;cases h;done)|cases ha
  ·cases b<;>first|(intro h;cases h;done)|cases hb
theorem QP{X:Cx}{Ξ:gA}{P:eR}(hP:i7 P){i j:Nat}{x y:Str}{a b:Expr}{px py pt nS pos:Pos}{kt k2:Nat}{gC:ME}(hc:X.calm=true)(hN:X.N.Nodup)(hi:X.N[i]?=some x)(hj:X.N[j]?=some y)(dz:x≠y)(hl:py.line=px.line)(hx:X.env.scope.names.lookup x=some .local)(hy:X.env.scope.names.lookup y=some .local)(oa:fF a=true)(ob:fF b=true)(h1:[a,b].all (foldedForSure 8)=false)(h2:[a,b].all (constantsAlone 8)=false)(ha:PA X [a,b] (LA X.K Ξ (cW P gC))):PS X (.Assign [.Tuple [.Name x px,.Name y py] kt pt] (.Tuple [a,b] k2 nS) pos) (LS X.K Ξ (wpS P (.kR (.many [i,j]) (.prim .tup gC)))):=by
 intro pins s bR H D I h;have iU:i≠j:=by
  rintro rfl;rw[hi] at hj;cases hj;exact dz rfl
 refine Qb hc hN hi hj iU hx hy ha (YL I.ok.kind hx hy dz hl oa ob h1 h2) rfl pins s bR H D I ?_;obtain⟨Z,g,ρ,sr,R,h⟩:=h;refine js hP sr R (.refl _ _) (show cW P gC Z g (λxs g1=>cL .tup xs g1 _) _ from h) λds g1 bH H1 vs e1 R1 r1 h=>?_;obtain⟨d',g',⟨_,rfl,rfl⟩,l,bN,ex,hs,h⟩:=h;cases ex;have hl:=Y7 hs;have e2:∃d1 d2,ds=[d1,d2]:=by
  rcases ds with _|⟨d1,_|⟨d2,_|⟨d3,r⟩⟩⟩<;>first|exact⟨_,_,rfl⟩|(simp at hl;done)|(simp at hl;omega)
 obtain⟨d1,d2,rfl⟩:=e2;obtain⟨v,w,rfl,q1,q2⟩:=r1.two;cases hs;exact⟨_,_,rfl,h bH H1 _ e1 R1 (((sr.ext e1).set i q1).set j q2)⟩
theorem gF.CU{X:Cx}{c:i4}{Ξ:gA}{P:eR}(C:gF X c P Ξ)(fz:X.stack=X.env::X.outer)(hf:X.env.frame=some X.env.locals)(pins:List (Addr×Obj))(D:L2.Ends)(hs:List ExceptHandler) :
  gF (xb X pins (xc X pins D hs)) { c with jS:=false,lC:=false } P (Vb X Ξ.1 D hs) :=
 ⟨C.N,C.nd,C.loc,C.wK,C.Ae,C.EN,C.cells,C.lg,C.calm,C.units,(λ_=>PassesOwn.looking),C.mono,C.con,C.blt,C.fns,C.cls,C.nU,C.mI,C.Ah,a40 fz hf λC H' ⟨C',e,z⟩=>(by cases e;exact z),(λz=>by cases z),(λz=>by cases z),C.exc,C.EU,C.uJ,C.code⟩
end M

namespace M
open PySem L2 PySem.Spec PyProof.Rows
theorem Qu{X:Cx}{Ξ:gA}{P:eR}(hP:i7 P){a d:Expr}{ma:ME}{pos p2:Pos}(ha:PE X a (LE X.K Ξ (aK P ma)))(hd:PE X d (LE X.K Ξ (aK P (.prim (.un .USub) (.cons (.lit (.int 1)) .nil))))):PE X (.Subscript a (.Slice none none (some d) p2) pos) (LE X.K Ξ (aK P (.prim .rev (.cons ma .nil)))) :=
 (PK ha hd).imp λbR H Q ⟨Z,g,ρ,s,R,h⟩=>by
  simp only[aK,cW] at h;refine eV hP s R (.refl _ _) h λx g1 bH H1 v1 e1 R1 r1 h=>?_;obtain⟨d',g',hr,q⟩:=h;rcases hr with⟨l,ex,rfl,rfl⟩|⟨a,l,ex,hl,rfl,rfl⟩
  ·cases ex;obtain⟨a',vs,rfl,ht,rs⟩:=r1.I9;refine⟨Z,g',bH,s.ext e1,R1,?_⟩;simp only[aK,cW];refine⟨_,_,⟨rfl,1,rfl,rfl,rfl⟩,λdX H2 v2 e2 R2 r2=>?_⟩;refine⟨r2.i6,_,_,rfl,.inl ⟨(ht.ext e2).sq,λp hp=>?_⟩⟩;exact(q.ext (e1.trans e2)).tup R2 hp (rs.ext e2).reverse
  ·cases ex;obtain⟨a',rfl,ha⟩:=r1.j8;refine⟨Z,_,bH,s.ext e1,R1,?_⟩;simp only[aK,cW];refine⟨_,_,⟨rfl,1,rfl,rfl,rfl⟩,λdX H2 v2 e2 R2 r2=>?_⟩;obtain⟨vs,hq,rs⟩:=R2.items hl (e2.get ha);refine⟨r2.i6,_,_,rfl,.inr ⟨hq,λp hp=>?_⟩⟩;exact(q.ext (e1.trans e2)).new R2 hp rs.reverse
section
variable{X:Cx}{c:i4}{P:eR}{Ξ:gA}{r:CF}(S:oQ P r)(C:gF X c P Ξ){a b d e:Expr}{m:ME}{pos:Pos}
include C
theorem Pb{x:Str}(h:Cn c x=some m):PE X (.Name x pos) (LE X.K Ξ (aK P m)):=by
 unfold Cn at h;split at h
 ·rename_i ic;obtain⟨d1,d2,d3⟩:=L8 ic;split at h
  ·rename_i hv;obtain⟨i,hi,rfl⟩:=ae.mp h;exact Qw (C.qz hi) (C.Oh hv) d1 d2
  ·split at h
   ·rename_i hg;rcases orElse_some h with h|h
    ·obtain⟨d,hd,rfl⟩:=ae.mp h;obtain⟨v,u,hm,r,rr⟩:=C.con x d hd;exact Q9 (xF (C.A5 hg) hm r d1) rr
    ·split at h
     ·rename_i hb;obtain⟨t,ht,rfl⟩:=ae.mp h;exact Q9 (v:=.ty t) (Sf (C.A5 hg) (C.blt x hb) (a00 ht) rfl d3 d1) λ_ _=>.ty t
     ·cases h
   ·cases h
 ·cases h
omit C in
theorem DP{k:Const}{j:Nat}{d:D}(h:BQ k=some d):PE X (.Constant k j pos) (LE X.K Ξ (aK P (.lit d))):=by
 cases k<;>first|(cases h;done)|skip
 ·cases h;exact Q9 PD λ_ _=>.bO
 ·cases h;exact Q9 VW λ_ _=>.bl _
 ·cases h;exact Q9 Py λ_ _=>.int _
 ·cases h;exact Q9 Ii λ_ _=>.str _
include S
theorem Ul{op:UnaryOp}(h:yi r c op a=some m):PE X (.UnaryOp op a pos) (LE X.K Ξ (aK P m)):=by
 unfold yi at h;split at h
 ·rename_i ho;subst ho;obtain⟨ma,ha,rfl⟩:=ae.mp h;exact Qt C.mono (S.e X c Ξ C _ _ ha)
 ·obtain⟨ma,ha,rfl⟩:=T5 S C h;exact JE C.mono ha
theorem JA{ops:List CmpOp}{bs:List Expr}(h:uZ r c a ops bs=some m):PE X (.Compare a ops bs pos) (LE X.K Ξ (aK P m))/\PT X (.Compare a ops bs pos) (LT X.K Ξ (cC P (.fy m))):=by
 unfold uZ at h;split at h
 ·rename_i op b;split at h
  ·cases h
  ·rename_i hm;have hm:behindInMarks op b=false:=by simpa using hm
   rcases orElse_some h with h|h
   ·obtain⟨neg,hn,h⟩:=ai.mp h;obtain⟨kvs,hk,h⟩:=ai.mp h;obtain⟨ma,ha,rfl⟩:=ae.mp h;obtain⟨x,p,rfl,hg,hd,hk⟩:=Jm hk;have ho:op=if neg then .NotIn else .In:=by cases op<;>cases hn<;>rfl
    subst ho;exact⟨Qq C.mono (C.A5 hg) (L8 hd).1 (C.uJ x kvs hk) (S.e X c Ξ C _ _ ha) hm,QG C.mono (C.A5 hg) (L8 hd).1 (C.uJ x kvs hk) (S.e X c Ξ C _ _ ha) hm⟩
   ·obtain⟨ma,mb,ha,hb,rfl⟩:=Y1 S C h;exact⟨Az C.mono (IP (X2 C.units op) ha hb hm),QJ C.mono (IU (X2 C.units op) ha hb hm)⟩
 ·split at h
  ·cases h
  ·rename_i hm;obtain⟨ma,ha,h⟩:=ai.mp h;obtain⟨mb,hb,h⟩:=ai.mp h;obtain⟨md,hd,rfl⟩:=ae.mp h;exact⟨a18 C.mono C.units (S.e X c Ξ C _ _ ha) (S.e X c Ξ C _ _ hb) (S.e X c Ξ C _ _ hd) (by simpa using hm),a08 C.mono C.units (S.e X c Ξ C _ _ ha) (S.e X c Ξ C _ _ hb) (S.e X c Ξ C _ _ hd) (by simpa using hm)⟩
 ·cases h
omit S C in
theorem Yp{d:Expr}(h:Cq d=true):∃j p q,d=.UnaryOp .USub (.Constant (.int 1) j p) q:=by
 cases d with
 |UnaryOp op a q=>cases op with
  |USub=>cases a with
   |Constant k j p=>cases k with
    |int i=>rw[show i=1 from aZ h];exact⟨_,_,_,rfl⟩
    |_=>cases h
   |_=>cases h
  |_=>cases h
 |_=>cases h
theorem Ui{lo hi st:Option Expr}{p2:Pos}(h:Dq r c a lo hi st=some m):PE X (.Subscript a (.Slice lo hi st p2) pos) (LE X.K Ξ (aK P m)):=by
 cases lo<;>cases hi<;>cases st<;>first|(cases h;done)|skip
 ·obtain⟨ma,ha,rfl⟩:=T5 S C h;exact a12 C.mono ha
 ·rename_i d;have h2:(if Cq d=true then c1 r c .rev a else none)=some m:=h;split at h2
  ·rename_i hn;obtain⟨j,p,q,rfl⟩:=Yp hn;obtain⟨ma,ha,rfl⟩:=T5 S C h2;exact Qu C.mono ha (JE C.mono (DP (k:=.int 1) rfl))
  ·cases h2
 ·obtain⟨ma,mb,ha,hb,rfl⟩:=Y1 S C h;exact a11 C.mono ha hb
 ·obtain⟨ma,mb,ha,hb,rfl⟩:=Y1 S C h;exact a10 C.mono ha hb
theorem VL(h:BJ r c a b=some m):PE X (.Subscript a b pos) (LE X.K Ξ (aK P m)):=by
 unfold BJ at h;rcases orElse_some h with h|h
 ·obtain⟨q,hq,h⟩:=ai.mp h;have eb:∃p,b=.Slice q.1 q.2.1 q.2.2 p:=by cases b<;>first|(cases hq;exact⟨_,rfl⟩)|cases hq
  obtain⟨p,rfl⟩:=eb;exact Ui S C h
 ·split at h
  ·rename_i hb;rcases orElse_some h with h|h
   ·obtain⟨kvs,hk,h⟩:=ai.mp h;obtain⟨mb,jI,rfl⟩:=ae.mp h;obtain⟨x,p,rfl,hg,hd,hk⟩:=Jm hk;exact SG C.mono (C.A5 hg) (L8 hd).1 (C.uJ x kvs hk) (S.e X c Ξ C _ _ jI) (Ig hb)
   ·obtain⟨ma,mb,ha,jI,rfl⟩:=Y1 S C h;exact Az C.mono (JB (VA C.units) ha jI (Ig hb))
  ·cases h
theorem Uj{x:Str}{px:Pos}(hg:c.gl x=true)(h:yj r c x e=some m):PE X (.Call (.Name x px) [e] [] pos) (LE X.K Ξ (aK P m)):=by
 unfold yj at h;obtain⟨q,hq,h'⟩:=ai.mp h;clear h;have h:=h';clear h';obtain⟨p,pos',rfl⟩:=Hr hq;obtain⟨y,as⟩:=q;dsimp only at h ⊢;split at h
 ·rename_i hc;simp only[Bool.and_eq_true,decide_eq_true_eq] at hc;obtain⟨⟨⟨⟨rfl,rfl⟩,hl⟩,hr⟩,rz⟩:=hc;rcases as with _|⟨a,_|⟨b,_|⟨_,_⟩⟩⟩
  ·cases h
  ·dsimp only at h;split at h
   ·rename_i ho;obtain⟨ma,ha,rfl⟩:=T5 S C h;exact a17 C.mono C.calm ha (C.A5 hg) (C.blt _ hl) (C.A5 rz) (C.blt _ hr) (n6 ho)
   ·cases h
  ·dsimp only at h;split at h
   ·rename_i ho;rw[aQ] at ho;obtain⟨ma,mb,ha,hb,rfl⟩:=Y1 S C h;exact a16 C.mono C.calm ha hb (C.A5 hg) (C.blt _ hl) (C.A5 rz) (C.blt _ hr) (by rw[n6 ho.1,n6 ho.2];rfl) (n6 ho.2)
   ·cases h
  ·cases h
 ·split at h
  ·rename_i hc;simp only[Bool.and_eq_true,decide_eq_true_eq] at hc;obtain⟨⟨⟨⟨rfl,rfl⟩,hl⟩,hr⟩,rz⟩:=hc;rcases as with _|⟨a,_|⟨_,_⟩⟩
   ·cases h
   ·dsimp only at h;split at h
    ·rename_i ho;obtain⟨ma,ha,rfl⟩:=T5 S C h;exact SM C.mono C.calm ha (C.A5 hg) (C.blt _ hl) (C.A5 rz) (C.blt _ hr) (n6 ho)
    ·cases h
   ·cases h
  ·split at h
   ·rename_i hc;simp only[Bool.and_eq_true,decide_eq_true_eq] at hc;obtain⟨⟨⟨⟨rfl,rfl⟩,hl⟩,hr⟩,rz⟩:=hc;rcases as with _|⟨a,_|⟨_,_⟩⟩
    ·cases h
    ·dsimp only at h;split at h
     ·rename_i ho;obtain⟨ma,ha,rfl⟩:=T5 S C h;exact SH C.mono C.calm ha (C.A5 hg) (C.blt _ hl) (C.A5 rz) (C.blt _ hr) (n6 ho)
     ·cases h
    ·cases h
   ·cases h
theorem RQ{x:Str}{px:Pos}{args:List Expr}(h:Iv r c x args=some m):PE X (.Call (.Name x px) args [] pos) (LE X.K Ξ (aK P m)):=by
 cases args with
 |nil =>
  have h2:AH c x=some m:=h;unfold AH at h2;split at h2
  ·rename_i ic;rw[aQ] at ic;obtain⟨f,hf,rfl⟩:=ae.mp h2;obtain⟨k,C',fa,fd,ps,F,hr,hm,hC,jW,M⟩:=C.cls x f hf;exact a15 C.mono C.pass F M hC jW hr (C.A5 ic.2) hm (L8 ic.1).1
  ·cases h2
 |cons e es =>
  have h0:AI r c x e es=some m:=h;clear h;have h:=h0;clear h0;unfold AI at h;split at h
  ·rename_i ic;rw[aQ] at ic;obtain⟨d1,d2,d3⟩:=L8 ic.1;rcases orElse_some h with h|h
   ·cases es with
    |nil=>exact Uj S C ic.2 h
    |cons _ _=>cases h
   ·obtain⟨ms,oj,h⟩:=ai.mp h;have ok:=Bj oj;have pa:=rf S C oj;have fz:=n6 (env:=X.env) (es:=es) (ok e (by simp));have gE:=Y5 (pos:=pos) (env:=X.env) (es:=es) λz hz=>ok z (by simp[hz]);rcases orElse_some h with h|h
    ·obtain⟨f,hf,rfl⟩:=ae.mp h;obtain⟨k,fa,fd,ps,F,hr,hm,hk⟩:=C.fns x f hf;exact SD C.mono C.pass F hr (C.A5 ic.2) hm hk pa d1 fz gE
    ·rcases orElse_some h with h|h
     ·obtain⟨f,hf,rfl⟩:=ae.mp h;obtain⟨k,C',fa,fd,ps,F,hr,hm,hC,jW,M⟩:=C.cls x f hf;exact SI C.mono C.pass F M hC jW hr (C.A5 ic.2) hm pa d1 fz gE
     ·split at h
      ·rename_i hb;obtain⟨p,hp,rfl⟩:=ae.mp h;obtain⟨v,hv,zE,hc⟩:=Xd (X:=X) C.calm hp;exact Qn C.mono hv hc (C.A5 ic.2) (C.blt x hb) zE pa d3 d1 fz gE
      ·cases h
  ·cases h
theorem RP{o:Expr}{mt:Str}{apos:Pos}{args:List Expr}(h:AJ r c o mt apos pos args=some m):PE X (.Call (.Attribute o mt apos) args [] pos) (LE X.K Ξ (aK P m)):=by
 unfold AJ at h;split at h
 ·rename_i hc;simp only[Bool.and_eq_true,decide_eq_true_eq] at hc;obtain⟨⟨hb,hl⟩,hn⟩:=hc;obtain⟨mo,ho,h⟩:=ai.mp h;obtain⟨ms,oj,h⟩:=ai.mp h;have ok:=Bj oj;have pa:=rf S C oj;have po:=S.e X c Ξ C _ _ ho;have hf:methodCallForm args.length (backTo pos (starEach args X.env)) (backToKw pos (keywordEach [] X.env))=true:=by
   unfold methodCallForm;rw[Gk ok];have:args.length+0<30:=by omega
   show(true&&true&&decide (args.length+0<30))=true;rw[az this]
   rfl
  by_cases uj:mt="index"
  ·subst uj;rw[aH rfl] at h;cases h
  rw[aB uj] at h;cases args with
  |nil =>
   cases oj;by_cases h0:(xE.lookup mt).isSome=true
   ·rw[aH (by rw[h0];rfl)] at h;obtain⟨p,hp,rfl⟩:=ae.mp h;obtain⟨T,id,yJ,sl,ty,yN,hk⟩:=YH (X:=X) hp;exact a14 C.mono yJ sl ty yN hk po (Q4 hb) hl
   rw[aB (by rw[aQ];exact λz=>h0 z.2)] at h;split at h
   ·cases h
   ·cases h
  |cons e es =>
   have fz:=n6 (env:=X.env) (es:=es) (ok e (by simp));have gE:=Y5 (pos:=pos) (env:=X.env) (es:=es) λz hz=>ok z (by simp[hz]);rw[aB (by simp)] at h;split at h
   ·rename_i p hp;cases h;obtain⟨T,id,yJ,sl,ty,yN,hk⟩:=XD (X:=X) C.units hp;exact SJ C.mono yJ sl ty yN hk po pa (Q4 hb) hf hl fz gE
   ·cases h
 ·cases h
theorem DQ{tg:Expr}(h:vf r c tg e=some m):PI X tg e (LI X.K Ξ (eG P m)):=by
 unfold vf at h;rcases orElse_some h with h|h
 ·obtain⟨q,hq,h'⟩:=ai.mp h;rename_i h0;clear h h0;have h:=h';clear h';obtain⟨p,pos',rfl⟩:=Hr hq;obtain⟨y,as⟩:=q;dsimp only at h ⊢;split at h
  ·rename_i hy;subst hy;rcases as with _|⟨a,_|⟨_,_⟩⟩
   ·cases h
   ·dsimp only at h;split at h
    ·rename_i hc;simp only[Bool.and_eq_true] at hc;obtain⟨⟨⟨hg,hb⟩,ho⟩,ht⟩:=hc;obtain⟨ma,ha,rfl⟩:=ae.mp h;obtain⟨es,k,tp,rfl⟩:=Xc ht;exact SQ C.mono (S.e X c Ξ C _ _ ha) (C.A5 hg) (C.blt _ hb) (n6 ho)
    ·cases h
   ·cases h
  ·split at h
   ·rename_i hy;subst hy;rcases as with _|⟨a,_|⟨_,_⟩⟩
    ·cases h
    ·dsimp only at h;split at h
     ·rename_i hc;simp only[Bool.and_eq_true] at hc;obtain⟨⟨hg,hb⟩,ho⟩:=hc;obtain⟨ma,ha,rfl⟩:=ae.mp h;exact Qz C.mono (S.e X c Ξ C _ _ ha) (C.A5 hg) (C.blt _ hb) (n6 ho)
     ·cases h
    ·cases h
   split at h
   ·rename_i hy;subst hy;rcases as with _|⟨a,_|⟨b,_|⟨_,_⟩⟩⟩
    ·cases h
    ·dsimp only at h;split at h
     ·rename_i hc;simp only[Bool.and_eq_true] at hc;obtain⟨⟨hg,hb⟩,ho⟩:=hc;obtain⟨ma,ha,rfl⟩:=ae.mp h;exact SR C.mono (S.e X c Ξ C _ _ ha) (C.A5 hg) (C.blt _ hb) (n6 ho)
     ·cases h
    ·dsimp only at h;split at h
     ·rename_i hc;simp only[Bool.and_eq_true] at hc;obtain⟨⟨⟨hg,hb⟩,ho⟩,jV⟩:=hc;obtain⟨ma,ha,h⟩:=ai.mp h;obtain⟨mb,jI,rfl⟩:=ae.mp h;exact SS C.mono (S.e X c Ξ C _ _ ha) (S.e X c Ξ C _ _ jI) (C.A5 hg) (C.blt _ hb) (by rw[n6 ho,n6 jV];rfl) (n6 jV)
     ·cases h
    ·cases h
   ·cases h
 ·split at h
  ·obtain⟨ma,ha,rfl⟩:=ae.mp h;exact QA C.mono (S.e X c Ξ C _ _ ha)
  ·cases h
theorem Bc{elt:Expr}{gens:List Comprehension}{sc:Scope}(h:Y2 r c elt gens sc=some m):∃tg it ifs t mi mc me cl,gens=[⟨tg,it,ifs,0⟩]/\m=.comp (c.d5 sc) (frees sc++locals sc).length t mi mc me/\fF it=true /\
  df X sc (frees sc++locals sc) (c.d5 sc) cl/\PI X tg it (LI X.K Ξ (eG P mi))/\(∀pins A s H fp,PG (f6 X pins sc (frees sc++locals sc) cl A s H fp) tg (LG X.K t)) /\
   (∀pins A s H fp,ko (f6 X pins sc (frees sc++locals sc) cl A s H fp) ifs (LT X.K (oO Ξ.1) (cC P mc)))/\(∀pins A s H fp,PE (f6 X pins sc (frees sc++locals sc) cl A s H fp) elt (LE X.K (oO Ξ.1) (aK P me))):=by
 unfold Y2 at h;rcases gens with _|⟨⟨tg,it,ifs,DX⟩,_|⟨_,_⟩⟩
 ·cases h
 ·dsimp only at h;split at h
  ·rename_i hs;simp only[Bool.and_eq_true,decide_eq_true_eq] at hs;obtain⟨⟨hs,rfl⟩,hit⟩:=hs;obtain⟨t,h1,h⟩:=ai.mp h;obtain⟨mi,h2,h⟩:=ai.mp h;obtain⟨mc,h3,h⟩:=ai.mp h;obtain⟨me,h4,rfl⟩:=ae.mp h;obtain⟨cl,Sc,I⟩:=C.comp hs;exact⟨tg,it,ifs,t,mi,mc,me,cl,rfl,rfl,hit,Sc,DQ S C h2,λpins A s H fp=>(I pins A s H fp).FP h1,λpins A s H fp=>Uk S (I pins A s H fp) h3,λpins A s H fp=>S.e _ _ _ (I pins A s H fp) elt me h4⟩
  ·cases h
 ·cases h
omit S in
theorem Uh{f:Expr}{args:List Expr}{iQ:List Keyword}(h:vP c f args iQ=some m):PE X (.Call f args iQ pos) (LE X.K Ξ (aK P m)):=by
 unfold vP at h;cases h
theorem Lf:∀e m,JI r c e=some m->PE X e (LE X.K Ξ (aK P m)):=by
 intro e m h;cases e with
 |Name x p=>exact Pb C h
 |Constant k j p =>
  obtain⟨d,hd,rfl⟩:=ae.mp (show(BQ k).map ME.lit=some m from h);exact DP hd
 |BinOp a op b p =>
  obtain⟨ma,mb,ha,hb,rfl⟩:=Y1 S C h;exact Az C.mono (VZ (Pe op) ha hb)
 |UnaryOp op a p=>exact Ul S C h
 |Compare a ops bs p=>exact(JA S C h).1
 |BoolOp op vs p=>exact Lh S C h
 |IfExp t a b p =>
  obtain⟨mt,ht,h⟩:=ai.mp h;obtain⟨ma,ha,h⟩:=ai.mp h;obtain⟨mb,hb,rfl⟩:=ae.mp h;exact Qr C.mono (S.t X c Ξ C _ _ ht) (S.e X c Ξ C _ _ ha) (S.e X c Ξ C _ _ hb)
 |Tuple es k p =>
  obtain⟨ma,ha,rfl⟩:=ae.mp h;exact Qv C.mono (rf S C ha)
 |List es p =>
  obtain⟨ma,ha,rfl⟩:=ae.mp h;exact Qs C.mono (rf S C ha)
 |Subscript a b p=>exact VL S C h
 |Dict ks vs p =>
  have h2:(if ks.isEmpty&&vs.isEmpty then some (ME.prim .nC .nil) else if decide (ks.length<=15) then(ve r c ks vs).map .oE else none)=some m:=h;split at h2
  ·rename_i hc;cases ks<;>cases vs<;>first|(cases hc;done)|skip
   cases h2;exact SE
  ·rename_i hc;split at h2
   ·rename_i hl;obtain⟨ms,hm,rfl⟩:=ae.mp h2;obtain⟨gP,D⟩:=Lg S C hm;refine Qo C.mono D (λz=>hc ?_) (aZ hl);have:=D.len.2;subst z;cases vs<;>first|rfl|cases this
   ·cases h2
 |JoinedStr vs p =>
  have h2:(if decide (2<=vs.length)&&decide (vs.length<=40) then(se r c vs).map (ME.prim .kJ) else none)=some m:=h;split at h2
  ·rename_i hc;simp only[Bool.and_eq_true,decide_eq_true_eq] at hc;obtain⟨ms,hm,rfl⟩:=ae.mp h2;obtain⟨ts,F⟩:=Le S C hm;rcases vs with _|⟨v1,_|⟨v2,vs⟩⟩
   ·simp at hc
   ·simp at hc
   ·exact SF C.mono F hc.2
  ·cases h2
 |Attribute o f p =>
  have h2:(if xn o then c1 r c (.fld f) o else none)=some m:=h;split at h2
  ·rename_i hb;obtain⟨ma,ha,rfl⟩:=T5 S C h2;exact Qp C.mono ha (Q4 hb)
  ·cases h2
 |Call f args iQ pos =>
  have h1:((yk r c f args iQ).orElse λ_=>(vP c f args iQ).orElse λ_=>Cm r c f args iQ pos)=some m:=h;rcases orElse_some h1 with h2|h2
  ·unfold yk at h2;rcases args with _|⟨a,_|⟨_,_⟩⟩
   ·cases h2
   ·dsimp only at h2;split at h2
    ·rename_i hk;simp only[Bool.and_eq_true,decide_eq_true_eq] at hk;obtain⟨⟨⟨hk,hf⟩,lW⟩,hb⟩:=hk;cases iQ<;>first|(cases hk;done)|skip
     obtain⟨q,hq,h3⟩:=ai.mp h2;obtain⟨m1,h4,h5⟩:=ai.mp h3;cases f<;>first|(cases hf;done)|skip
     cases a<;>first|(cases hq;done)|skip
     cases hf;cases hq;obtain⟨tg,it,ifs,t,mi,mc,me,cl,eg,rfl,hit,Sc,q1,q2,q3,q4⟩:=Bc S C h4;dsimp only at eg;subst eg;cases h5;exact a13 C.mono Sc C.calm q1 q2 q3 q4 (Z0 hit) (C.A5 lW) (C.blt _ hb)
    ·cases h2
   ·cases h2
  clear h h1;rcases orElse_some h2 with h3|h3
  ·exact Uh C h3
  clear h2;unfold Cm at h3;split at h3
  ·rename_i hk;cases iQ<;>first|(cases hk;done)|skip
   cases f with
   |Name x p=>exact RQ S C h3
   |Attribute o a p=>exact RP S C h3
   |_=>cases h3
  ·cases h3
 |Set es k p =>
  have h2:BI c es k=some m:=h;unfold BI at h2;split at h2
  ·rename_i hc;rw[aQ] at hc;obtain rfl:=aZ hc.2;split at h2
   ·cases h2;exact SK C.mono (C.code hc.1)
   ·cases h2
  ·cases h2
 |ListComp elt gens sc p =>
  obtain⟨tg,it,ifs,t,mi,mc,me,cl,rfl,rfl,hit,Sc,q1,q2,q3,q4⟩:=Bc S C h;exact(IQ Sc C.calm q1 q2 q3 q4 (Z0 hit)).imp λZ H Q h=>Jk C.mono Z H Q h
 |_=>cases h
theorem Lc:∀e m,stepT r c e=some m->PT X e (LT X.K Ξ (cC P m)):=by
 intro e m h;have plain:∀{e:Expr} {m:ME},(if BD e then(r.e c e).map ME.fy else none)=some m->PT X e (LT X.K Ξ (cC P m)):=λ{e m} h=>by
  split at h
  ·rename_i hp;obtain⟨ma,ha,rfl⟩:=ae.mp h;exact QK C.mono (S.e X c Ξ C _ _ ha) (XW hp)
  ·cases h
 cases e with
 |UnaryOp op a p =>
  have h2:(if op=.Not then(r.t c a).map ME.dH else none)=some m:=h;split at h2
  ·rename_i ho;subst ho;obtain⟨ma,ha,rfl⟩:=ae.mp h2;exact QI C.mono (S.t X c Ξ C _ _ ha)
  ·cases h2
 |BoolOp op vs p=>exact(Lb S C h).pt
 |Compare a ops bs p =>
  obtain⟨ma,ha,rfl⟩:=ae.mp (show(uZ r c a ops bs).map ME.fy=some m from h);exact(JA S C ha).2
 |_=>exact plain h
end
end M

namespace M
open PySem L2 PySem.Spec PyProof.Rows
section
variable{X:Cx}{c:i4}{P:eR}{Ξ:gA}
theorem Ze{e f:Option Expr}{q:Str×Expr×List Expr}(h:AO e f=some q):f=none/\∃p p',e=some (.Call (.Name q.1 p) (q.2.1::q.2.2) [] p'):=by
 unfold AO at h;split at h
 ·cases h;exact⟨rfl,_,_,rfl⟩
 ·cases h
theorem Rx(C:gF X c P Ξ){f:Str}:Co X.K f (c.xT f):=λy C' h hC=>by
 unfold i4.xT at h;obtain⟨⟨f',y'⟩,h1,h2⟩:=aO.mp h;obtain⟨h3,h4⟩:=aT.mp h1;cases h2;have:f'=f:=by simpa using h4
 subst this;exact C.mI f' y' C' h3 hC
variable{r:CF}(S:oQ P r)(C:gF X c P Ξ){pos:Pos}
include S C
theorem VJ{tg e:Expr}{m:MS}(hS:∀e m,r.e c e=some m->v8 e=false->∃elt gens sc p,e=.ListComp elt gens sc p/\∃r',oQ P r'/\Y2 r' c elt gens sc=some m)(hT:∀a b k p m,r.e c (.Tuple [a,b] k p)=some m->∃r' ms,oQ P r'/\F9 r' c [a,b]=some ms/\m=.prim .tup ms)(h:FI r c tg e=some m):PS X (.Assign [tg] e pos) (LS X.K Ξ (wpS P m)):=by
 cases tg with
 |Name x px =>
  have h2:(if c.A2 x then(c.idx x).bind λi=>(r.e c e).map λm=>MS.set i m else none)=some m:=h;split at h2
  ·rename_i hl;obtain⟨i,hi,h2⟩:=ai.mp h2;obtain⟨me,he,rfl⟩:=ae.mp h2;cases hn:v8 e with
   |true=>exact Ip C.mono (Il C.pI (C.qz hi) (C.A2 hl).1 (S.e X c Ξ C _ _ he) (U1 hn) (C.A2 hl).2)
   |false =>
    obtain⟨elt,gens,sc,p,rfl,r',S',hx⟩:=hS e me he hn;obtain⟨tg,it,ifs,t,mi,mc,me,cl,rfl,rfl,hit,Sc,q1,q2,q3,q4⟩:=Bc S' C hx;refine Ip C.mono ?_;exact(Zr Sc C.calm q1 q2 q3 q4 (Z0 hit) C.pI (C.qz hi) (C.A2 hl).1 (C.A2 hl).2).imp λN Z H h=>Jk C.mono Z H _ h
  ·cases h2
 |Tuple es k pt =>
  have h0:((Cr es).elim (if(sv e&&v8 e)||c.wZ es e then(c.slots es).bind λis=>(r.e c e).map λm=>MS.kR (.many is) m else none) λq=>if v8 e&&fF q.2.1&&fF q.2.2.2 then(r.e c q.1).bind λm1=>(r.e c q.2.1).bind λn1=>(r.e c q.2.2.1).bind λm2=>(r.e c q.2.2.2).bind λn2=>(r.e c e).map λm=>MS.vT m1 n1 m2 n2 m else none)=some m:=h;cases hq:Cr es with
  |some q =>
   rw[hq] at h0;dsimp only[Option.elim] at h0;split at h0
   ·cases hq
   ·cases h0
  |none =>
  rw[hq] at h0;have h2:(if(sv e&&v8 e)||c.wZ es e then(c.slots es).bind λis=>(r.e c e).map λm=>MS.kR (.many is) m else none)=some m:=h0;split at h2
  ·rename_i hn;rw[cH,aQ] at hn;obtain⟨is,hs,h2⟩:=ai.mp h2;obtain⟨me,he,rfl⟩:=ae.mp h2;rcases hn with hn|hn
   ·exact QR C.mono (Ik (S.e X c Ξ C _ _ he) (Jb C.calm C.pI (C.slots hs)) (HA hn.2) (a44 hn.1))
   ·unfold i4.wZ at hn;split at hn
    ·rename_i x px y py a b k2 nS _;simp only[Bool.and_eq_true,decide_eq_true_eq,Bool.not_eq_true'] at hn;obtain⟨⟨⟨⟨⟨⟨⟨l1,l2⟩,dz⟩,hl⟩,oa⟩,ob⟩,f1⟩,f2⟩:=hn;obtain⟨r',ms,S',oj,rfl⟩:=hT _ _ _ _ _ he;have so:=C.slots hs;cases so with
     |cons hi _ _ so =>
     cases so with
     |cons hj _ _ so =>
     cases so;exact QP C.mono C.calm C.pI hi hj dz hl (C.loc x l1) (C.loc y l2) oa ob f1 f2 (rf S' C oj)
    ·cases hn
  ·cases h2
 |Subscript o i pt =>
  have h2:(if fF i&&v8 e then(r.e c o).bind λmo=>(r.e c i).bind λmi=>(r.e c e).map λm=>MS.dP mo mi m else none)=some m:=h;split at h2
  ·rename_i hn;rw[aQ] at hn;obtain⟨mo,ho,h2⟩:=ai.mp h2;obtain⟨mi,hi,h2⟩:=ai.mp h2;obtain⟨me,he,rfl⟩:=ae.mp h2;exact a06 C.mono C.units (S.e X c Ξ C _ _ he) (S.e X c Ξ C _ _ ho) (S.e X c Ξ C _ _ hi) (HA hn.2) (RU hn.1)
  ·cases h2
 |Attribute o f pt =>
  have h2:(if v8 e then(r.e c o).bind λmo=>(r.e c e).map λm=>MS.gN f (c.xT f) mo m else none)=some m:=h;split at h2
  ·rename_i hn;obtain⟨mo,ho,h2⟩:=ai.mp h2;obtain⟨me,he,rfl⟩:=ae.mp h2;exact Tc C.mono (Rx C) (S.e X c Ξ C _ _ ho) (S.e X c Ξ C _ _ he) (U1 hn)
  ·cases h2
 |_=>cases h
theorem Ld(hS:∀e m,r.e c e=some m->v8 e=false->∃elt gens sc p,e=.ListComp elt gens sc p/\∃r',oQ P r'/\Y2 r' c elt gens sc=some m)(hT:∀a b k p m,r.e c (.Tuple [a,b] k p)=some m->∃r' ms,oQ P r'/\F9 r' c [a,b]=some ms/\m=.prim .tup ms) :
  ∀st m,JJ r c st=some m->PS X st (LS X.K Ξ (wpS P m)):=by
 intro st m h;have hP:=C.mono;cases st with
 |AugAssign tg op e p =>
  cases tg with
  |Name x tp =>
   have h2:(if c.A2 x then(FY op).bind λp=>(c.idx x).bind λi=>(r.e c e).map λm=>MS.jg i p m else none)=some m:=h;split at h2
   ·rename_i hl;obtain⟨p,hp,h2⟩:=ai.mp h2;obtain⟨i,hi,h2⟩:=ai.mp h2;obtain⟨me,he,rfl⟩:=ae.mp h2;refine Ta C.mono ?_ C.pI (C.qz hi) (C.A2 hl).1 (C.A2 hl).2 (S.e X c Ξ C _ _ he);cases op<;>first|(cases hp;done)|skip
    ·cases hp;exact .inl ⟨rfl,rfl⟩
    ·cases hp;exact .inr ⟨rfl,rfl⟩
   ·cases h2
  |_=>cases h
 |Expr e p =>
  have h2:(if v8 e then(r.e c e).map MS.expr else none)=some m:=h;split at h2
  ·rename_i hn;obtain⟨me,he,rfl⟩:=ae.mp h2;exact Tb hP (S.e X c Ξ C _ _ he) (U1 hn)
  ·cases h2
 |Assign yw e p =>
  rcases yw with _|⟨tg,_|⟨_,_⟩⟩
  ·cases h
  ·exact VJ S C hS hT h
  ·cases h
 |If t a b p =>
  obtain⟨mt,ht,h⟩:=ai.mp h;obtain⟨ma,ha,h⟩:=ai.mp h;obtain⟨mb,hb,rfl⟩:=ae.mp h;exact NU hP (S.t X c Ξ C _ _ ht) (vw S C ha) (vw S C hb)
 |For tg it body nu p =>
  have h2:(if c.lg&&(nu.isEmpty&&fF it) then(c.tg tg).bind λt=>(vf r c tg it).bind λmi=>(y9 r c body).map λmb=>MS.dI t mi mb else none)=some m:=h;split at h2
  ·rename_i hc;rw[aQ,aQ] at hc;cases nu<;>first|(cases hc.2.1;done)|skip
   obtain⟨t,h1,h2⟩:=ai.mp h2;obtain⟨mi,h3,h2⟩:=ai.mp h2;obtain⟨mb,h4,rfl⟩:=ae.mp h2;exact QO hP (C.own hc.1) C.calm (DQ S C h3) (C.FP h1) (vw S C h4) (Z0 hc.2.2)
  ·cases h2
 |While t body nu p =>
  have h2:(if c.lg&&nu.isEmpty then(r.t c t).bind λmt=>(y9 r c body).map λmb=>MS.jr mt mb else none)=some m:=h;split at h2
  ·rename_i hc;rw[aQ] at hc;cases nu<;>first|(cases hc.2;done)|skip
   obtain⟨mt,h1,h2⟩:=ai.mp h2;obtain⟨mb,h4,rfl⟩:=ae.mp h2;exact a05 hP (C.own hc.1) (S.t X c Ξ C _ _ h1) (vw S C h4)
  ·cases h2
 |Return e p =>
  cases e with
  |none=>cases h;exact(Ss (X:=X)).imp λN bR H ⟨Z,g,ρ,s,R,h⟩=>LQ.now h R .bO
  |some e =>
   obtain⟨me,he,rfl⟩:=ae.mp (show(r.e c e).map (λm=>MS.ret (toR c e m))=some m from h);refine QQ hP ?_;exact S.e X c Ξ C _ _ he
 |Raise e f p =>
  obtain⟨q,hq,h2⟩:=ai.mp h;clear h;obtain⟨rfl,px,p2,rfl⟩:=Ze hq;obtain⟨x,e,es⟩:=q;dsimp only at h2 ⊢;split at h2
  ·rename_i hc;simp only[Bool.and_eq_true] at hc;obtain⟨ma,ha,rfl⟩:=ae.mp h2;have ok:=Bj ha;obtain⟨C',hm,hi,B,nI,iI,bm,O,FB⟩:=C.exc x hc.1.1.2;exact a07 hP C.calm O FB (C.A5 hc.1.2) (rf S C ha) (C.jS hc.1.1.1) (by rw[C.Ah];simpa using hc.1.1.2) hi (n6 (ok e (by simp))) (Y5 λz hz=>ok z (by simp[hz])) (L8 hc.2).1
  ·cases h2
 |Pass p=>cases h;exact(Sr (X:=X)).imp λN bR H ⟨Z,g,ρ,s,R,h⟩=>h ρ H bR (.refl _ _) R s
 |_=>cases h
end
theorem Zh{n:Nat}{c:i4}{e:Expr}{m:ME}(h:(comp (n+1)).e c e=some m)(hn:v8 e=false):∃elt gens sc p,e=.ListComp elt gens sc p/\Y2 (comp n) c elt gens sc=some m:=by
 cases e<;>first|(cases hn;done)|(cases h;done)|exact⟨_,_,_,_,rfl,h⟩
theorem snd{P:eR}:∀n,(∀k,k<=n->oQ P (comp k)):=by
 intro n
 induction n with
 |zero =>
  intro k hk;obtain rfl:=Nat.le_zero.mp hk;exact⟨λ_ _ _ _ _ _ h=>(by cases h),λ_ _ _ _ _ _ h=>(by cases h),λ_ _ _ _ _ _ h=>(by cases h)⟩
 |succ n ih =>
  intro k hk;rcases fJ k (n+1) with et|hge
  ·exact ih k (by omega)
  obtain rfl:k=n+1:=by omega
  have I:=ih n (av n);refine⟨λX c Ξ C e m h=>Lf I C e m h,λX c Ξ C e m h=>Lc I C e m h,λX c Ξ C st m h=>Ld I C (λe m he hn=>?_) (λa b k p m he=>?_) st m h⟩
  ·cases n with
   |zero=>cases he
   |succ n =>
    obtain⟨elt,gens,sc,p,rfl,hx⟩:=Zh he hn;exact⟨_,_,_,_,rfl,comp n,ih n (by omega),hx⟩
  ·cases n with
   |zero=>cases he
   |succ n =>
    obtain⟨ms,hm,rfl⟩:=ae.mp (show(F9 (comp n) c [a,b]).map (ME.prim .tup)=some m from he);exact⟨comp n,ms,ih n (by omega),hm,rfl⟩
end M

namespace M
open PySem L2 PySem.Spec PyProof.Rows
structure nF where
 nm:Str
 qn:Str
 N:List Str
 ps:List Str
 st:Stmt
noncomputable def i4.at(c:i4)(d:nF):i4:={ c with N:=d.N,nm:=(o8 d.st).names,lg:=true,jS:=true,lC:=true }
structure iW(K:PySem.W.Frag)(c:i4)(d:nF)(m:aV)(f:Addr)(fd:FuncData):Prop where
 fn:oS K d.nm d.qn d.st f fd
 bi:Binds K fd d.ps []
 sc:ie d.N d.ps (o8 d.st)
 co:y9 (comp 60) (c.at d) (p0 d.st)=some m.body
 ar:m.ar=d.ps.length
 nn:m.n=d.N.length
structure mr(w:World)(K:PySem.W.Frag)(mg:Str->Option Value)(c:i4)(T:Nat->Option aV):Prop where
 fns:∀x i,c.fns.lookup x=some i->∃d m f fd,T i=some m/\iW K c d m f fd/\mg x=some (.ref f)
 cls:∀x i,c.cls.lookup x=some i->∃C d m f fd,T i=some m/\iW K c d m f fd/\mg x=some (.ref C)/\u4 K x C/\jl K C/\Mk K C f
 nU:∀x y i C,(x,y,i)∈c.nU->u4 K y C->∃d m f fd,T i=some m/\iW K c d m f fd/\Meth K C x f
 mI:∀f y C,(f,y)∈c.mI->u4 K y C->B6 K C f
 con:∀x d,c.con.lookup x=some d->∃v u,mg x=some u/\RelV v u/\∀ρ H,f7 K ρ H d v
 blt:∀x,c.blt.contains x=true->mg x=none
 Aj:∀x,c.exc.contains x=true->∃C,mg x=some (.ref C)/\u4 K x C/\∀base:Heap,K.In base->base.Ns mainGlobals mg->∃B newId fT bm,OwnCls x C bm newId mg base/\ExcBaseFacts B newId fT bm
 Ai:∀x y C C',c.exc.contains x=true->c.exc.contains y=true->u4 K x C->u4 K y C'->PySem.W.exmOne K (.ref C) (.ref C')=some (decide (x=y\/y="MintError"))
 ql:∀x kvs,c.gd.lookup x=some kvs->∃A vs,mg x=some (.ref A)/\vc K w.params A vs/\oG K kvs vs
section
variable{Pg:Program}{w:World}{K:PySem.W.Frag}{mg:Str->Option Value}{base:Heap}{c:i4}{T:Nat->Option aV}
theorem OK{K:PySem.W.Frag}{cd:Value}{q:Str}(h:PySem.W.codeIn K cd q=true):PySem.W.kdsCode K cd=true:=by
 unfold PySem.W.codeIn at h;unfold PySem.W.kdsCode;split at h
 ·dsimp only;split at h
  ·rename_i e;rw[e]
  ·cases h
 ·cases h
theorem Se{N:List Str}{qual:Str}{scope:Scope}{f:Addr}{cd:Value}{A:Around}{outer:List Env}{s:Shared}{H:Hp}{E:XK}:Passes (iJ Pg w) (nB (iJ Pg w) Pg w K mg base N qual scope f cd A outer s H E) E:=λpins Z H1 s1 e s' I h=>by
 obtain⟨C,H',J,fl,hE⟩:=I.flew h;exact ZG J fl (λb o q=>I.base.there b o q (by intro z;cases z)) rfl rfl rfl hE
theorem a21{N:List Str}{qual:Str}{scope:Scope}{f:Addr}{cd:Value}{A:Around}{outer:List Env}{s:Shared}{H:Hp}{E:XK}:xr (nB (iJ Pg w) Pg w K mg base N qual scope f cd A outer s H E) E:=λpins Z H1 s1 h' ea C vs I hm hE =>
 YB I hm rfl rfl rfl hE
theorem Ry{N:List Str}{qual:Str}{scope:Scope}{f:Addr}{cd:Value}{A:Around}{outer:List Env}{s:Shared}{H:Hp}{E:XK}:xh (nB (iJ Pg w) Pg w K mg base N qual scope f cd A outer s H E) E:=λpins Z H1 H2 s1 s2 B ea C a0 I l hh hE =>
 leave_held I l hh rfl rfl rfl hE
theorem AS{k i:Nat}{m:aV}(hT:T i=some m){ds:List D}{g:G}{Q:KD}{E:KX}(h:d4 T k i ds g Q E):ds.length=m.ar:=by
 cases k with
 |zero=>exact h.elim
 |succ k =>
  obtain⟨m',e,h,_⟩:=h;rw[hT] at e;cases e;exact h
theorem Oq(mE:K.In base)(uH:base.Ns mainGlobals mg)(A:mr w K mg c T):∀(k i:Nat) d m f fd,T i=some m->iW K c d m f fd->hU Pg w K mg base (iJ Pg w) (2*k) f fd d.ps (nR c.exc K d.ps.length (d4 T k i)):=by
 intro k
 induction k with
 |zero =>
  intro i d m f fd hm O;refine⟨λvs H Q E h=>h.1,λA outer s H args us vs Q E _ _ _ _ h=>?_⟩;obtain⟨_,_,_,_,_,_,q⟩:=h;exact q.elim
 |succ k ih =>
  intro i d m f fd hm O;obtain⟨oc,od,kV,doc,pm,an,fm,ct,kU,rfl,lk,jX⟩:=O.fn.ex;refine Vp (k:=2*k+1) lk jX O.sc (λvs H Q E h=>h.1) (λA0 outer s H vs Q E hr h=>?_);obtain⟨hl,xs,g,ρ,rs,R,q⟩:=h;have C:gF (nB (iJ Pg w) Pg w K mg base d.N d.qn (o8 d.st) f fm A0 outer s H E) (c.at d) (d4 T k) (c.exc,E):=by
   refine⟨rfl,O.sc.nd,λx h=>h,λx h=>h,λx h=>.inr h,λx h=>h,λx h=>?_,λ_ _=>rfl,rfl,?_,(λ_=>PassesOwn.leaving),b0 T k,A.con,A.blt,λx j hj=>?_,λx j hj=>?_,λx y j C' hj hC=>?_,A.mI,rfl,Se,λ_=>a21,λ_=>⟨rfl,rfl,Ry⟩,λx hx=>?_,A.Ai,A.ql,λ_=>OK jX⟩
   ·rcases h with h|h
    ·exact Bi h
    ·exact absurd rfl (O.sc.lI _ (aM h))
   ·have:=hr.un;show(A0.deeper _).units+100<cLine;omega
   ·obtain⟨d',m',f',oz,hT,O',hmg⟩:=A.fns x j hj;exact⟨2*k,f',oz,d'.ps,⟨ih j d' m' f' oz hT O',O'.bi,λFh g' Q' E' h'=>(AS hT h').trans O'.ar⟩,hr.mono (by omega),hmg,O'.fn.kp⟩
   ·obtain⟨C',d',m',f',oz,hT,O',hmg,hC,jW,M⟩:=A.cls x j hj;exact⟨2*k,C',f',oz,d'.ps,⟨ih j d' m' f' oz hT O',O'.bi,λFh g' Q' E' h'=>(AS hT h').trans O'.ar⟩,hr,hmg,hC,jW,M⟩
   ·obtain⟨d',m',f',oz,hT,O',M⟩:=A.nU x y j C' hj hC;exact⟨2*k,f',oz,d'.ps,M,⟨ih j d' m' f' oz hT O',O'.bi,λFh g' Q' E' h'=>(AS hT h').trans O'.ar⟩,hr.mono (by omega)⟩
   ·obtain⟨C,h1,h2,h3⟩:=A.Aj x hx;exact⟨C,h1,h2,h3 base mE uH⟩
  refine⟨_,vw (snd (P:=d4 T k) 60 60 (av _)) C O.co,?_⟩;obtain⟨m',e,q1,q⟩:=q;rw[hm] at e;cases e;refine⟨d8 m xs,g,ρ,?_,R,wpS_mono (b0 T k) m.body ⟨λ_ g'=>LQ K ρ H Q .bO g',LQ K ρ H Q,λ_ _=>False,λ_ _=>False⟩ _ _ _ _ _ ⟨λZ g' h bB H' cU e R' s'=>h bB H' _ e R' .bO,λd g' h=>h,λ_ _ h=>h.elim,λ_ _ h=>h.elim⟩ (λ_ _ z=>z) q⟩;have:=n8.start (n:=d.N.length) rs;unfold d8 L2.start;rw[O.nn];exact this
theorem OP{L k0:Nat}{H:Hp}{a:Addr}{ns:List Int}(hO:xQ H)(hS:fo K H a (ns.map V.int))(h:d4 T k0 L [.ref 0] [.nk (ns.map .int)] (λd _=>d=.bl true) iG) :
  nR exc K 1 (d4 T k0 L) [.ref a] H (λv _=>v=.bl true) λ_ _ _=>False:=by
 refine⟨rfl,[.ref 0],[.nk (ns.map .int)],[a],.cons (.ref rfl) .nil,⟨rfl,λi o b h1 h2=>?_,λi j l m b h1 h2 m1=>?_⟩,b0 T k0 _ _ _ _ _ _ _ (λd g' e bB H' v _ _ r=>?_) (λ_ _ z=>z.elim) h⟩
 ·cases i with
  |zero =>
   cases h1;cases h2;refine⟨_,?_,c8.ofInts ns⟩;rcases hS with(z|⟨o,z⟩)|z
   ·rcases hO a with q|⟨o,xs,q⟩
    ·rw[z] at q;cases q
    ·rw[z] at q;cases q
   ·exact .inl ⟨o,z⟩
   ·exact .inr z
  |succ i=>simp at h1
 ·cases i with
  |zero=>cases h1;cases m1
  |succ i=>simp at h1
 ·subst e;cases r
  rfl
end
end M

namespace M
open PySem L2
section
variable{P:eR}{Z:S}{g:G}{Q:KD}{E:KX}{N:Ends}{a b c o:ME}{x y:MS}{p:Pr}
theorem Q5(h:N.nx Z g):wpS P .pass N Z g E:=h
theorem Cj(h:wpS P x ⟨λhX g1=>wpS P y N hX g1 E,N.rt,N.bk,N.ct⟩ Z g E):wpS P (.seq x y) N Z g E:=h
theorem vo(h:wpS P x N Z g E):wpS P (.seq x .pass) N Z g E:=h
theorem Rf(h:aK P a Z g (λ_ g1=>N.nx Z g1) E):wpS P (.expr a) N Z g E:=h
theorem xf{i:Nat}(h:aK P a Z g (λx g1=>N.nx (Z.set i (some x)) g1) E):wpS P (.set i a) N Z g E:=h
theorem Ol{t:MT}(h:aK P a Z g (λx g1=>iS t x Z λhX=>N.nx hX g1) E):wpS P (.kR t a) N Z g E:=h
theorem Jd{o i:ME}(h:aK P a Z g (λx g1=>aK P o Z g1 (λy g2=>aK P i Z g2 (λz g3=>V2 y z x g3 λg4=>N.nx Z g4) E) E) E):wpS P (.dP o i a) N Z g E:=h
theorem Rj{f:Str}{cs:List Str}(h:aK P a Z g (λx g1=>aK P o Z g1 (λy g2=>vh f cs y x g2 λg3=>N.nx Z g3) E) E):wpS P (.gN f cs o a) N Z g E:=h
theorem JO(h:cC P c Z g (λt g1=>if t=true then wpS P x N Z g1 E else wpS P y N Z g1 E) E):wpS P (.ifs c x y) N Z g E:=h
theorem Oi(h:aK P a Z g N.rt E):wpS P (.ret a) N Z g E:=h
theorem Tf{x:Str}(h:cW P a Z g (λvs g1=>vs.length<=1000/\E ⟨x⟩ g1) E):wpS P (.raise x a) N Z g E:=h
theorem w_var{i:Nat}{d:D}(e:Z[i]?=some (some d))(h:Q d g):aK P (.var i) Z g Q E:=by rw[aK];exact⟨d,e,h⟩
theorem w_lit{d:D}(h:Q d g):aK P (.lit d) Z g Q E:=by rw[aK];exact h
theorem Ri(h:cW P a Z g (λxs g1=>cL p xs g1 Q) E):aK P (.prim p a) Z g Q E:=by rw[aK];exact h
theorem U'(h:cL p [] g Q):aK P (.prim p .nil) Z g Q E:=by rw[aK,cW];exact h
theorem FR(h:aK P a Z g (λx g1=>cL p [x] g1 Q) E):aK P (.prim p (.cons a .nil)) Z g Q E:=by simp only[aK,cW];exact h
theorem FT(h:aK P a Z g (λx g1=>aK P b Z g1 (λy g2=>cL p [x,y] g2 Q) E) E):aK P (.prim p (.cons a (.cons b .nil))) Z g Q E:=by simp only[aK,cW];exact h
theorem Te{o1 o2:CmpOp}(h:aK P a Z g (λx g1=>aK P b Z g1 (λy g2=>cL (.cmp o1) [x,y] g2 λz g3=>∃t,z=.bl t/\if t=true then aK P c Z g3 (λw g4=>cL (.cmp o2) [y,w] g4 Q) E else Q (.bl false) g3) E) E):aK P (.chain o1 o2 a b c) Z g Q E:=by rw[aK];exact h
theorem w_and(h:aK P a Z g (λx g1=>∃t,x=.bl t/\if t=true then aK P b Z g1 Q E else Q (.bl false) g1) E):aK P (.dQ a b) Z g Q E:=by rw[aK];exact h
theorem w_not(h:aK P a Z g (λx g1=>∃t,x=.bl t/\Q (.bl (!t)) g1) E):aK P (.dH a) Z g Q E:=by rw[aK];exact h
theorem w_ite(h:cC P c Z g (λt g1=>if t=true then aK P a Z g1 Q E else aK P b Z g1 Q E) E):aK P (.ite c a b) Z g Q E:=by rw[aK];exact h
theorem AG{f:Nat}(h:cW P a Z g (λxs g1=>P f xs g1 Q E) E):aK P (.call f a) Z g Q E:=by rw[aK];exact h
theorem Rg{f:Nat}{c:Str}(h:cW P a Z g (λxs g1=>P f (.ref g1.length::xs) (g1++[.ins c []]) (λd g2=>d=.bO/\Q (.ref g1.length) g2) E) E):aK P (.make c f a) Z g Q E:=by rw[aK];exact h
theorem Rh(h:aK P o Z g (λx g1=>kW p x g1/\cW P a Z g1 (λxs g2=>cL p (x::xs) g2 Q) E) E):aK P (.eF p o a) Z g Q E:=by rw[aK];exact h
theorem Ci{Q:List D->G->Prop}(h:Q [] g):cW P .nil Z g Q E:=by rw[cW];exact h
theorem vn{Q:List D->G->Prop}(h:aK P a Z g (λx g1=>cW P b Z g1 (λxs g2=>Q (x::xs) g2) E) E):cW P (.cons a b) Z g Q E:=by rw[cW];exact h
theorem Rk{Q:Bool->G->Prop}(h:cC P a Z g (λt g1=>if t=true then cC P b Z g1 Q E else Q false g1) E):cC P (.dQ a b) Z g Q E:=by rw[cC];exact h
theorem Oj{Q:Bool->G->Prop}(h:cC P a Z g (λt g1=>if t=true then Q true g1 else cC P b Z g1 Q E) E):cC P (.jG a b) Z g Q E:=by rw[cC];exact h
theorem Rm{Q:Bool->G->Prop}(h:cC P a Z g (λt g1=>Q (!t) g1) E):cC P (.dH a) Z g Q E:=by rw[cC];exact h
theorem Ck{Q:Bool->G->Prop}(h:Q true g):cC P .no Z g Q E:=by rw[cC];exact h
theorem JP{Q:Bool->G->Prop}(h:aK P a Z g (λx g1=>oN g1 x λb=>Q b g1) E):cC P (.fy a) Z g Q E:=by rw[cC];exact h
end
section
variable{g:G}{Q:KD}{i j:Int}{kb:Bool->Prop}{t s:Bool}{l m:List D}
theorem Vc(h:Q (.int (i+j)) g):cL (.bin .Add) [.int i,.int j] g Q:=⟨_,_,.inl ⟨i,j,_,rfl,rfl,rfl,rfl⟩,h⟩
theorem Vd(h:Q (.int (i-j)) g):cL (.bin .Sub) [.int i,.int j] g Q:=⟨_,_,.inl ⟨i,j,_,rfl,rfl,rfl,rfl⟩,h⟩
theorem N4(c:qx i j)(h:Q (.int (i*j)) g):cL (.bin .Mult) [.int i,.int j] g Q:=⟨_,_,.inl ⟨i,j,_,rfl,⟨c,rfl⟩,rfl,rfl⟩,h⟩
theorem P6(c:0<j)(h:Q (.int (i % j)) g):cL (.bin .Mod) [.int i,.int j] g Q:=⟨_,_,.inl ⟨i,j,_,rfl,⟨c,rfl⟩,rfl,rfl⟩,h⟩
theorem wN(c:CC i j)(h:Q (.int (i / j)) g):cL (.bin .FloorDiv) [.int i,.int j] g Q:=⟨_,_,.inl ⟨i,j,_,rfl,⟨c,rfl⟩,rfl,rfl⟩,h⟩
theorem Oo(h1:0<j)(h2:j<1073741824)(h:Q (.int (i / j)) g):cL (.bin .FloorDiv) [.int i,.int j] g Q:=wN ⟨h1,h2⟩ h
theorem BN(c:ny i j)(h:Q (.int (i ^ j.toNat)) g):cL (.bin .Pow) [.int i,.int j] g Q:=⟨_,_,.inl ⟨i,j,_,rfl,⟨c,rfl⟩,rfl,rfl⟩,h⟩
theorem Vg{i j:Nat}(hi:g[i]?=some (.lst l))(hj:g[j]?=some (.lst m))(hl:l.length+m.length<=100000)(h:Q (.ref g.length) (g++[.lst (l++m)])):cL (.bin .Add) [.ref i,.ref j] g Q:=⟨_,_,.inr (.inl ⟨rfl,.inr (.inl ⟨i,j,l,m,rfl,hi,hj,hl,rfl,rfl⟩)⟩),h⟩
theorem T3{op:CmpOp}{x y:D}{b:Bool}(hb:FA g x y b op)(h:Q (.bl b) g):cL (.cmp op) [x,y] g Q:=⟨_,_,⟨x,y,b,rfl,hb,rfl,rfl⟩,h⟩
theorem TC(h:Q (.bl (decide (i<j))) g):cL (.cmp .Lt) [.int i,.int j] g Q:=T3 ⟨i,j,rfl,rfl,rfl⟩ h
theorem Tz(h:Q (.bl (decide (i<=j))) g):cL (.cmp .LtE) [.int i,.int j] g Q:=T3 ⟨i,j,rfl,rfl,rfl⟩ h
theorem Tw(h:Q (.bl (decide (j<i))) g):cL (.cmp .Gt) [.int i,.int j] g Q:=T3 ⟨i,j,rfl,rfl,rfl⟩ h
theorem Tv(h:Q (.bl (decide (j<=i))) g):cL (.cmp .GtE) [.int i,.int j] g Q:=T3 ⟨i,j,rfl,rfl,rfl⟩ h
theorem Fy{x y:D}(h:uN g x y λb=>Q (.bl b) g):cL (.cmp .Eq) [x,y] g Q:=let ⟨_,hb,h⟩:=h;T3 hb h
theorem Fz{x y:D}(h:uN g x y λb=>Q (.bl (!b)) g):cL (.cmp .NotEq) [x,y] g Q:=let ⟨b,hb,h⟩:=h;T3 (b:=!b) (show uM g x y (!(!b)) from by rw[sO];exact hb) h
theorem CK{x y:D}(h:pL g x y λb=>Q (.bl b) g):cL (.cmp .In) [x,y] g Q:=let ⟨_,hb,h⟩:=h;T3 (.inl hb) h
theorem Vk{a n:Nat}{S:Int->Bool}(hg:g[a]?=some (.set S n))(h:Q (.bl (S i)) g):cL (.cmp .In) [.int i,.ref a] g Q:=T3 (.inr ⟨a,S,n,i,rfl,hg,rfl,rfl⟩) h
theorem wO{x y:D}(h:pL g x y λb=>Q (.bl (!b)) g):cL (.cmp .NotIn) [x,y] g Q:=let ⟨b,hb,h⟩:=h;T3 (b:=!b) (.inl (show inR g x y (!(!b)) from by rw[sO];exact hb)) h
theorem JC(h:kb (decide (i=j))):uN g (.int i) (.int j) kb:=⟨_,.inl ⟨i,j,rfl,rfl,rfl⟩,h⟩
theorem Wf{x y:Str}(h:kb (decide (x=y))):uN g (.str x) (.str y) kb:=⟨_,.inr (.inr (.inl ⟨x,y,rfl,rfl,rfl⟩)),h⟩
theorem Vh(h:Q (.bl (decide (i=j))) g):cL (.cmp .Eq) [.int i,.int j] g Q:=Fy (JC h)
theorem Vl(h:Q (.bl (!decide (i=j))) g):cL (.cmp .NotEq) [.int i,.int j] g Q:=Fz (JC h)
theorem Vi{p q:Str}(h:Q (.bl (decide (p=q))) g):cL (.cmp .Eq) [.str p,.str q] g Q:=Fy (Wf h)
theorem Tx{d:D}(h:Q (.bl (K7 d)) g):cL (.cmp .Is) [d,.bO] g Q:=T3 ⟨rfl,rfl⟩ h
theorem FZ{d:D}(h:Q (.bl (!K7 d)) g):cL (.cmp .IsNot) [d,.bO] g Q:=T3 ⟨rfl,rfl⟩ h
theorem Vj(h:Q (.bl false) g):cL (.cmp .IsNot) [.bO,.bO] g Q:=FZ h
theorem UX(h:kb t):oN g (.bl t) kb:=⟨t,.inr (.inl rfl),h⟩
theorem Od(h:kb (i != 0)):oN g (.int i) kb:=⟨_,.inr (.inr (.inl ⟨i,rfl,rfl⟩)),h⟩
theorem AR{t:Bool}{p:Bool->Prop}(h:p t):∃s,D.bl t=D.bl s/\p s:=⟨t,rfl,h⟩
theorem OD{p:Int->Prop}(h:p i):∃s,D.int i=D.int s/\p s:=⟨i,rfl,h⟩
theorem if2{c:Prop}[Decidable c]{A B:Prop}(h1:c->A)(h2:¬c->B):if decide c=true then A else B:=by
 by_cases h:c
 ·rw[aH (az h)];exact h1 h
 ·rw[aB (by rw[aF h];decide)];exact h2 h
theorem lO{A B:Prop}(h:A):if true=true then A else B:=by rw[aH rfl];exact h
theorem qD{A B:Prop}(h:B):if false=true then A else B:=by rw[aB (by decide)];exact h
theorem FE{A B:Prop}(h:A):if(!false)=true then A else B:=by rw[aH (show(!false)=true from rfl)];exact h
theorem TX{A B:Prop}(h:B):if(!true)=true then A else B:=by rw[aB (by decide)];exact h
theorem gf{b:Bool}{A B:Prop}(hb:b=false)(h:B):if b=true then A else B:=by rw[hb];exact qD h
theorem iA{b:Bool}{A B:Prop}(hb:b=true)(h:A):if b=true then A else B:=by rw[hb];exact lO h
theorem v5{a:Nat}{d:D}(hl:d7 g a=some l)(h2:gz l i=some d)(h:Q d g):cL .ix [.ref a,.int i] g Q:=⟨_,_,⟨rfl,.inl ⟨_,l,i,rfl,hl,h2⟩⟩,h⟩
theorem C5{d:D}(h2:gz l i=some d)(h:Q d g):cL .ix [.tup l,.int i] g Q:=⟨_,_,⟨rfl,.inl ⟨_,l,i,rfl,rfl,h2⟩⟩,h⟩
theorem rV{i:Nat}{kvs:List (Key×D)}{y v:D}{k:Key}(hg:g[i]?=some (.dF kvs))(hk:V9 y=some k)(hv:s9 kvs k=some v)(h:Q v g):cL .ix [.ref i,y] g Q:=⟨_,_,⟨rfl,.inr (.inl ⟨i,kvs,y,k,rfl,hg,hk,hv⟩)⟩,h⟩
theorem T7{a n:Nat}{v:D}{kg:G->Prop}(hl:g[a]?=some (.lst l))(hn:ke l.length i=some n)(h:kg (g.set a (.lst (l.set n v)))):V2 (.ref a) (.int i) v g kg:=⟨_,.inl ⟨a,i,l,n,rfl,rfl,hl,hn,rfl⟩,h⟩
theorem JF{i:Nat}{kvs:List (Key×D)}{y v:D}{k:Key}{kg:G->Prop}(hg:g[i]?=some (.dF kvs))(hk:V9 y=some k)(hl:kvs.length<100000)(h:kg (g.set i (.dF (putD kvs k v)))):V2 (.ref i) y v g kg:=⟨_,.inr ⟨i,kvs,k,rfl,hg,hk,hl,rfl⟩,h⟩
theorem Y6{f c:Str}{cs:List Str}{a:Nat}{fs:List (Str×D)}{v:D}{kg:G->Prop}(hg:g[a]?=some (.ins c fs))(hc:c∈cs)(hl:fs.length<100)(h:kg (g.set a (.ins c (k9 f v fs)))):vh f cs (.ref a) v g kg:=⟨_,⟨a,c,fs,rfl,hg,hc,hl,rfl⟩,h⟩
theorem S5{f c:Str}{a:Nat}{fs:List (Str×D)}{d:D}(hg:g[a]?=some (.ins c fs))(hf:fs.lookup f=some d)(h:Q d g):cL (.fld f) [.ref a] g Q:=⟨_,_,⟨a,c,fs,rfl,hg,hf,rfl⟩,h⟩
theorem a8{a:Nat}(h:g[a]?=some (.lst l)):d7 g a=some l:=by simp only[d7,h,Cv]
theorem Xy{a:Nat}(h:g[a]?=some (.nk l)):d7 g a=some l:=by simp only[d7,h,Cv]
theorem U8{a:Nat}(hl:d7 g a=some l)(h:Q (.int l.length) g):cL .len [.ref a] g Q:=⟨_,_,⟨rfl,.inl ⟨_,l,rfl,hl,rfl⟩⟩,h⟩
theorem AA{a:Nat}(hl:d7 g a=some l)(h:Q (.ref g.length) (g++[.lst (cut l none (some i))])):cL (.lG false true) [.ref a,.int i] g Q:=⟨_,_,⟨_,i,rfl,.inr ⟨a,l,rfl,hl,rfl,rfl⟩⟩,h⟩
theorem Wl{a:Nat}(hl:d7 g a=some l)(h:Q (.ref g.length) (g++[.lst l.reverse])):cL .rev [.ref a] g Q:=⟨_,_,.inr ⟨a,l,rfl,hl,rfl,rfl⟩,h⟩
theorem BZ(hl:l.length<=1000)(h:Q (.tup l) g):cL .tup l g Q:=⟨_,_,⟨hl,rfl,rfl⟩,h⟩
theorem BY(hl:l.length<=1000)(h:Q (.ref g.length) (g++[.lst l])):cL .lst l g Q:=⟨_,_,⟨hl,rfl,rfl⟩,h⟩
theorem Jz{a:Nat}(hl:d7 g a=some l)(h:Q (.ref g.length) (g++[.lst l])):cL .list [.ref a] g Q:=⟨_,_,⟨_,l,rfl,hl,rfl,rfl⟩,h⟩
theorem JN{a:Nat}(hl:d7 g a=some l)(h:Q (.tup l) g):cL .tuple [.ref a] g Q:=⟨_,_,⟨_,l,rfl,hl,rfl,rfl⟩,h⟩
theorem wj{d:D}{c:String}{b:Bool}(hc:c∈["int","bool","str","tuple","list"])(hb:CM g d c=some b)(h:Q (.bl b) g):cL .isin [d,.ty c] g Q:=⟨_,_,⟨d,c,b,rfl,hc,hb,rfl,rfl⟩,h⟩
theorem U3{i:Nat}{y:D}(hg:g[i]?=some (.lst l))(hl:l.length<100000)(h:Q .bO (g.set i (.lst (l++[y])))):cL .append [.ref i,y] g Q:=⟨_,_,⟨i,y,l,rfl,hg,hl,rfl,rfl⟩,h⟩
theorem VI{i j:Nat}{y:D}{n:Int}(hg:g[i]?=some (.lst l))(hn:n=j)(hj:l[j]?=some y)(hl:l.length<100000)(h:Q y (g.set i (.lst (l.eraseIdx j)))):cL .pop [.ref i,.int n] g Q:=by
 have et:=(aj.mp hj).1;refine⟨_,_,⟨i,n,l,j,rfl,hg,by omega,by omega,?_,hj,rfl⟩,h⟩;rw[hn];exact PySem.StrLaws.seqIndex_nonneg (by omega) (by omega) |>.trans (by simp)
theorem BU{i:Nat}{kvs:List (Key×D)}{y z:D}{k:Key}(hg:g[i]?=some (.dF kvs))(hk:V9 y=some k)(h:Q ((s9 kvs k).getD z) g):cL .get [.ref i,y,z] g Q:=⟨_,_,⟨i,y,z,kvs,k,rfl,hg,hk,rfl,rfl⟩,h⟩
theorem Ib{i j:Int}(h:Q (.int (i+j)) g):cL .iadd [.int i,.int j] g Q:=⟨_,_,.inl ⟨i,j,rfl,rfl,rfl⟩,h⟩
theorem vj{i:Nat}(hg:g[i]?=some (.lst l)):kW .append (.ref i) g:=⟨i,l,rfl,a8 hg⟩
theorem Pa{i:Nat}(hg:g[i]?=some (.lst l)):kW .pop (.ref i) g:=⟨i,l,rfl,a8 hg⟩
theorem Ug{i:Nat}{l:List (Key×D)}(hg:g[i]?=some (.dF l)):kW .get (.ref i) g:=⟨i,l,rfl,hg⟩
theorem DU{j:Int}(h1:-(2 ^ 62)<=j)(h2:j<=100000)(h:Q (.ref g.length) (g++[.lst (k8 0 j.toNat)])):cL .iT [.int j] g Q:=⟨_,_,⟨j,rfl,h1,h2,rfl,rfl⟩,h⟩
theorem Lj{i j:Int}(h1:-(2 ^ 62)<=i/\i<2 ^ 62/\-(2 ^ 62)<=j/\j<2 ^ 62/\j-i<=100000)(h:Q (.ref g.length) (g++[.lst (k8 i (j-i).toNat)])):cL .jy [.int i,.int j] g Q:=⟨_,_,⟨i,j,rfl,h1,rfl,rfl⟩,h⟩
theorem Pt{a:Nat}{ns:List Int}(hl:d7 g a=some (ns.map .int))(hz:ns.length<60)(h:Q (.ref g.length) (g++[.lst ((n9 ns).map .int)])):cL .sset [.ref a] g Q:=⟨_,_,⟨a,ns,rfl,hl,hz,rfl,rfl⟩,h⟩
theorem nC(h:Q (.ref g.length) (g++[.dF []])):cL .nC [] g Q:=⟨_,_,⟨rfl,rfl,rfl⟩,h⟩
theorem max2{i j:Int}(h:Q (.int (if j>i then j else i)) g):cL .max [.int i,.int j] g Q:=⟨_,_,⟨rfl,.inl ⟨i,j,rfl,rfl⟩⟩,h⟩
theorem OV{a n:Nat}{i:Int}{S:Int->Bool}(hg:g[a]?=some (.set S n))(hn:n+1<4096)(h:Q .bO (g.set a (.set (λk=>S k||decide (k=i)) (if S i then n else n+1)))):cL .ju [.ref a,.int i] g Q:=⟨_,_,⟨a,i,S,n,rfl,hg,hn,rfl,rfl⟩,h⟩
theorem RO{a n:Nat}{S:Int->Bool}(hg:g[a]?=some (.set S n)):kW .ju (.ref a) g:=⟨a,S,n,rfl,hg⟩
theorem Sd{i:Int}(h:Q (.ref g.length) (g++[.set (λk=>decide (k=i)) 1])):cL (.jt i) [] g Q:=⟨_,_,⟨rfl,rfl,rfl⟩,h⟩
theorem Cb{a:Nat}{ns:List Int}(hl:d7 g a=some (ns.map .int))(h:Q (.int ns.sum) g):cL .sum [.ref a] g Q:=⟨_,_,⟨a,ns,rfl,hl,rfl,rfl⟩,h⟩
theorem Vf{a:Nat}{ns:List Int}(hl:d7 g a=some (ns.map .int))(h:Q (.bl (ns.all λn=>n != 0)) g):cL .all [.ref a] g Q:=⟨_,_,⟨a,_,_,rfl,hl,.inr ⟨ns,rfl,rfl⟩,rfl,rfl⟩,h⟩
theorem BO{i j:Int}(c:ny i j)(h:Q (.int (i*2 ^ j.toNat)) g):cL (.bin .LShift) [.int i,.int j] g Q:=⟨_,_,.inl ⟨i,j,_,rfl,⟨c,rfl⟩,rfl,rfl⟩,h⟩
theorem vd{i j:Int}(h:Q (.int (Builtin.bitAnd i j)) g):cL (.bin .BitAnd) [.int i,.int j] g Q:=⟨_,_,.inl ⟨i,j,_,rfl,rfl,rfl,rfl⟩,h⟩
theorem Tp{i j:Int}(h:Q (.int (Builtin.bitOr i j)) g):cL (.bin .BitOr) [.int i,.int j] g Q:=⟨_,_,.inl ⟨i,j,_,rfl,rfl,rfl,rfl⟩,h⟩
theorem AF{P:eR}{Z:S}{E:KX}{N:Ends}{i:Nat}{p:Pr}{v:ME}{x:D}(e:Z[i]?=some (some x))(h:aK P v Z g (λz g1=>cL p [x,z] g1 λw g2=>N.nx (Z.set i (some w)) g2) E):wpS P (.jg i p v) N Z g E:=⟨x,e,h⟩
theorem OF{i j:Int}(h:Q (.int (i-j)) g):cL .lN [.int i,.int j] g Q:=⟨_,_,⟨i,j,rfl,rfl,rfl⟩,h⟩
theorem min2{i j:Int}(h:Q (.int (if j<i then j else i)) g):cL .min [.int i,.int j] g Q:=⟨_,_,⟨rfl,.inl ⟨i,j,rfl,rfl⟩⟩,h⟩
theorem Vv{v:Bool}(h:Q (.int (if v then 1 else 0)) g):cL .int [.bl v] g Q:=⟨_,_,⟨rfl,.inr ⟨v,rfl,rfl⟩⟩,h⟩
theorem Jw{kvs:List D}{x:Str}{v:D}(hv:N1 kvs x=some v)(h:Q v g):cL .mn [.tup kvs,.str x] g Q:=⟨_,_,⟨kvs,x,rfl,hv,rfl⟩,h⟩
theorem TK{i:Int}(hi:i.natAbs.log2<1920)(h:Q (.str (toString i)) g):cL .fv [.int i] g Q:=⟨_,_,⟨rfl,.inl ⟨i,rfl,hi,rfl⟩⟩,h⟩
theorem Pq{x:Str}(hx:U9 l=some x)(h:Q (.str x) g):cL .kJ l g Q:=⟨_,_,⟨x,hx,rfl,rfl⟩,h⟩
theorem Ve{i:Nat}{v:Bool}(hl:d7 g i=some l)(hv:V1 l=some v)(h:Q (.bl v) g):cL .all [.ref i] g Q:=⟨_,_,⟨i,l,v,rfl,hl,.inl hv,rfl,rfl⟩,h⟩
theorem l6{i:Nat}{x:D}{Z:S}{k:S->Prop}(h:k (Z.set i (some x))):iS (.one i) x Z k:=h
theorem A8{is:List Nat}{Z bN:S}{k:S->Prop}(e:E0 is l Z=some bN)(h:k bN):iS (.many is) (.tup l) Z k:=⟨l,bN,rfl,e,h⟩
end
theorem Xa:∀(bs:List Bool),V1 (bs.map D.bl)=some (bs.all id):=by
 intro bs
 induction bs with
 |nil=>rfl
 |cons b r ih=>simp[V1,ih]
theorem call_of{T:Nat->Option aV}{k f:Nat}{m:aV}{ds:List D}{g:G}{Q:KD}{E:KX}(hT:T f=some m)(hl:ds.length=m.ar)(h:wpS (d4 T k) m.body ⟨λ_ g'=>Q .bO g',Q,λ_ _=>False,λ_ _=>False⟩ (d8 m ds) g E):d4 T (k+1) f ds g Q E:=⟨m,hT,hl,h⟩
noncomputable def IK.Is(k:IK)(l:List D)(g:G):Prop:=∀i,k.at i g=some l[i]?
theorem x8{l:List D}{g:G}:(IK.fix l).Is l g:=λ_=>rfl
theorem q8{a:Nat}{l:List D}{g:G}(h:d7 g a=some l):(IK.lst a).Is l g:=λi=>by simp only[IK.at,h]
noncomputable def kj(l:List D):List D:=l.mapIdx λi d=>.tup [.int i,d]
theorem X7{a:Nat}{l:List D}{g:G}(h:d7 g a=some l):(IK.nt a).Is (kj l) g:=λi=>by
 simp only[IK.at,h,kj,List.getElem?_mapIdx]
theorem OG{a:Nat}{l:List D}{g:G}(h:d7 g a=some l):(IK.qY a l.length).Is l.reverse g:=λi=>by
 simp only[IK.at,h,if_true];by_cases hi:i<l.length
 ·rw[aH hi,vM hi]
 ·rw[aB hi,aS (by simpa using hi)]
theorem F8(l:List D):(kj l).length=l.length:=by simp[kj]
theorem Q2{l:List D}{i:Nat}{x:D}(h:(kj l)[i]?=some x):∃d,l[i]?=some d/\x=.tup [.int i,d]:=by
 rw[kj,List.getElem?_mapIdx,ae] at h;obtain⟨d,h1,h2⟩:=h;exact⟨d,h1,h2.symm⟩
theorem E2{lo:Int}{n i:Nat}{x:D}(h:(k8 lo n)[i]?=some x):i<n/\x=.int (lo+i):=by
 unfold k8 at h;have hi:i<n:=by
  have:=(aj.mp h).1;simpa using this
 rw[ak,cv hi] at h;cases h;exact⟨hi,rfl⟩
theorem n4(lo:Int)(n:Nat):(k8 lo n).length=n:=by simp[k8]
section
variable{P:eR}{Z:S}{g:G}{E:KX}{N:Ends}{it a b c o:ME}{s:MS}{t:MT}{Q:KD}
theorem a01{k:IK}{l:List D}{fin:S->G->Prop}{turn:D->(S->G->Prop)->S->G->Prop}(I:Nat->S->G->Prop)(hk:∀i Z g,I i Z g->k.Is l g)(h0:I 0 Z g)(hs:∀i x Z g,l[i]?=some x->I i Z g->turn x (I (i+1)) Z g)(hd:∀Z g,I l.length Z g->fin Z g):turns k Z g fin turn:=by
 refine⟨λi m Z g=>m=l.length-i/\i<=l.length/\I i Z g,⟨l.length,by simp,cE _,h0⟩,?_⟩;rintro i m Z g ⟨rfl,hi,p⟩;rw[hk i Z g p i];by_cases et:i<l.length
 ·rw[ag et];exact .inr ⟨_,rfl,I (i+1),λbN g' p'=>⟨l.length-(i+1),by omega,rfl,et,p'⟩,hs i l[i] Z g (ag et) p⟩
 ·have e:i=l.length:=by omega
  subst e;rw[aS (av _)];exact .inl ⟨rfl,hd Z g p⟩
theorem A6(hP:i7 P)(h:eG P it Z g (λk g1=>∃(l:List D) (I:Nat->S->G->Prop),(∀i Z g,I i Z g->k.Is l g)/\I 0 Z g1 /\
      (∀ i x Z g,l[i]?=some x->I i Z g->iS t x Z λcg=>wpS P s ⟨I (i + 1),N.rt,N.nx,I (i + 1)⟩ cg g E)/\∀ Z g,I l.length Z g->N.nx Z g) E):wpS P (.dI t it s) N Z g E :=
  w5 hP it _ _ _ _ _ _ (λk g1 ⟨l,I,hk,h0,hs,hd⟩=>a01 I hk h0 hs hd) (λ_ _ z=>z) h
theorem H9{d5:List Nat}{n:Nat}{cond elt:ME}(hP:i7 P)(h:eG P it Z g (λk g1=>∃(l:List D) (I:Nat->List D->S->G->Prop),l.length<=1000/\(∀i ys Z g,I i ys Z g->k.Is l g/\ys.length<=i)/\I 0 [] (C6 Z d5 n) g1 /\
      (∀i x ys Z g,l[i]?=some x->I i ys Z g->iS t x Z λcg=>cC P cond cg g (λc g3=>if c=true then aK P elt cg g3 (λy g4=>I (i+1) (ys++[y]) cg g4) iG else I (i+1) ys cg g3) iG) /\
      ∀ ys Z g,I l.length ys Z g->Q (.ref g.length) (g ++ [.lst ys])) E):aK P (.comp d5 n t it cond elt) Z g Q E:=by
  rw[aK];refine w5 hP it _ _ _ _ _ _ (λk g1 h=>?_) (λ_ _ z=>z) h;obtain⟨l,I,hl,hk,h0,hs,hd⟩:=h;refine⟨λi m ys Z g=>m=l.length-i/\i<=l.length/\I i ys Z g,⟨l.length,by simp,cE _,h0⟩,?_⟩;rintro i m ys Z g ⟨rfl,hi,p⟩;obtain⟨nc,hy⟩:=hk i ys Z g p;rw[nc i];by_cases et:i<l.length
  · rw[ag et];refine .inr ⟨_,rfl,by omega,u7 (λcg q=>o6 hP cond _ _ _ _ _ _ (λc g3 q=>?_) (λ_ _ z=>z) q) (hs i l[i] ys Z g (ag et) p)⟩;cases c
    · exact⟨l.length-(i+1),by omega,rfl,et,by simpa using(show I (i+1) ys cg g3 from q)⟩
    · exact c6 hP elt _ _ _ _ _ _ (λy g4 q=>⟨l.length-(i+1),by omega,rfl,et,by simpa using q⟩) (λ_ _ z=>z) q
  · have e:i=l.length:=by omega
    subst e;rw[aS (av _)];exact .inl ⟨rfl,hd ys Z g p⟩
theorem Tg{d5:List Nat}{n:Nat}{cond elt:ME}(hP:i7 P)(h:eG P it Z g (λk g1=>∃(l:List D) (I:Nat->List Int->S->G->Prop),l.length<60/\(∀i ys Z g,I i ys Z g->k.Is l g/\ys.length<=i)/\I 0 [] (C6 Z d5 n) g1 /\
      (∀i x ys Z g,l[i]?=some x->I i ys Z g->iS t x Z λcg=>cC P cond cg g (λc g3=>if c=true then aK P elt cg g3 (λy g4=>∃j,y=.int j/\I (i+1) (ys++[j]) cg g4) iG else I (i+1) ys cg g3) iG) /\
      ∀ ys Z g,I l.length ys Z g->Q (.ref g.length) (g ++ [.lst ((n9 ys).map .int)])) E):aK P (.gi d5 n t it cond elt) Z g Q E:=by
  rw[aK];refine w5 hP it _ _ _ _ _ _ (λk g1 h=>?_) (λ_ _ z=>z) h;obtain⟨l,I,hl,hk,h0,hs,hd⟩:=h;refine⟨λi m ys Z g=>m=l.length-i/\i<=l.length/\I i ys Z g,⟨l.length,by simp,cE _,h0⟩,?_⟩;rintro i m ys Z g ⟨rfl,hi,p⟩;obtain⟨nc,hy⟩:=hk i ys Z g p;rw[nc i];by_cases et:i<l.length
  · rw[ag et];refine .inr ⟨_,rfl,by omega,u7 (λcg q=>o6 hP cond _ _ _ _ _ _ (λc g3 q=>?_) (λ_ _ z=>z) q) (hs i l[i] ys Z g (ag et) p)⟩;cases c
    · exact⟨l.length-(i+1),by omega,rfl,et,by simpa using(show I (i+1) ys cg g3 from q)⟩
    · refine c6 hP elt _ _ _ _ _ _ (λy g4 q=>?_) (λ_ _ z=>z) q;obtain⟨j,e,q⟩:=q;exact⟨j,e,l.length-(i+1),by omega,rfl,et,by simpa using q⟩
  · have e:i=l.length:=by omega
    subst e;rw[aS (av _)];exact .inl ⟨rfl,by omega,hd ys Z g p⟩
theorem Zb{d5:List Nat}{n:Nat}{cond elt:ME}(hP:i7 P)(h:aK P a Z g (λx g1=>∃j:Nat,x=.int j/\j<=1000/\∃I:Nat->List D->S->G->Prop,I 0 [] (C6 Z d5 n) g1/\(∀i ys Z g,I i ys Z g->ys.length<=i) /\
      (∀(i:Nat) ys Z g,i<j->I i ys Z g->iS t (.int i) Z λcg=>cC P cond cg g (λc g3=>if c=true then aK P elt cg g3 (λy g4=>I (i+1) (ys++[y]) cg g4) iG else I (i+1) ys cg g3) iG) /\
      ∀ ys Z g,I j ys Z g->Q (.ref g.length) (g ++ [.lst ys])) E):aK P (.comp d5 n t (.eY a) cond elt) Z g Q E:=by
  refine H9 hP ?_;rw[eG];refine c6 hP a _ _ _ _ _ _ (λx g1 h=>?_) (λ_ _ z=>z) h;obtain⟨j,rfl,hj,I,h0,hz,hs,hd⟩:=h;refine⟨j,rfl,by omega,by omega,_,I,by rw[n4];simpa using hj,λi ys Z g p=>⟨x8,hz i ys Z g p⟩,h0,λi x ys Z g hx p=>?_,λys Z g p=>hd ys Z g (by rw[n4] at p;simpa using p)⟩;obtain⟨hi,rfl⟩:=E2 hx;rw[show(0:Int)+(i:Int)=i by omega];exact hs i ys Z g (by simpa using hi) p
theorem Zc{d5:List Nat}{n:Nat}{cond elt:ME}(hP:i7 P)(h:aK P a Z g (λx g1=>∃l,x=.tup l/\l.length<=1000/\∃I:Nat->List D->S->G->Prop,I 0 [] (C6 Z d5 n) g1/\(∀i ys Z g,I i ys Z g->ys.length<=i) /\
      (∀(i:Nat) x ys Z g,l[i]?=some x->I i ys Z g->iS t x Z λcg=>cC P cond cg g (λc g3=>if c=true then aK P elt cg g3 (λy g4=>I (i+1) (ys++[y]) cg g4) iG else I (i+1) ys cg g3) iG) /\
      ∀ ys Z g,I l.length ys Z g->Q (.ref g.length) (g ++ [.lst ys])) E):aK P (.comp d5 n t (.fj a) cond elt) Z g Q E:=by
  refine H9 hP ?_;rw[eG];refine c6 hP a _ _ _ _ _ _ (λx g1 h=>?_) (λ_ _ z=>z) h;obtain⟨l,rfl,hj,I,h0,hz,hs,hd⟩:=h;exact .inl ⟨l,rfl,_,I,hj,λi ys Z g p=>⟨x8,hz i ys Z g p⟩,h0,hs,hd⟩
theorem Je(I:Nat->S->G->Prop)(m0:Nat)(h0:I m0 Z g)(hs:∀m Z g,I m Z g->cC P c Z g (λt g1=>if t=true then wpS P s ⟨λbN g'=>∃m',m'<m/\I m' bN g',N.rt,N.nx,λbN g'=>∃m',m'<m/\I m' bN g'⟩ Z g1 E else N.nx Z g1) E)(hP:i7 P):wpS P (.jr c s) N Z g E:=by
 refine⟨I,⟨m0,h0⟩,λm Z g p=>o6 hP c _ _ _ _ _ _ (λt g1 q=>?_) (λ_ _ z=>z) (hs m Z g p)⟩;cases t
 ·exact q
 ·exact⟨_,λ_ _ z=>z,q⟩
theorem oJ(hP:i7 P){R:IK->G->Prop}(h:aK P a Z g (λx g1=>∃j:Int,x=.int j/\-(2 ^ 62)<=j/\j<2 ^ 62/\R (.fix (k8 0 j.toNat)) g1) E):eG P (.eY a) Z g R E:=by rw[eG];exact h
theorem wk(hP:i7 P){R:IK->G->Prop}(h:aK P a Z g (λx g1=>∃l,x=.tup l/\R (.fix l) g1) E):eG P (.fj a) Z g R E:=by
 rw[eG];exact c6 hP a _ _ _ _ _ _ (λx g1 h=>.inl h) (λ_ _ z=>z) h
theorem kD(hP:i7 P){R:IK->G->Prop}(h:aK P a Z g (λx g1=>∃i l,x=.ref i/\d7 g1 i=some l/\R (.lst i) g1) E):eG P (.fj a) Z g R E:=by
 rw[eG];exact c6 hP a _ _ _ _ _ _ (λx g1 h=>.inr h) (λ_ _ z=>z) h
theorem Lu{R:IK->G->Prop}(h:aK P a Z g (λx g1=>∃i l,x=.ref i/\d7 g1 i=some l/\R (.qY i l.length) g1) E):eG P (.mV a) Z g R E:=by rw[eG];exact h
theorem tX{R:IK->G->Prop}(h:aK P a Z g (λx g1=>∃i l,x=.ref i/\d7 g1 i=some l/\R (.nt i) g1) E):eG P (.jH a) Z g R E:=by rw[eG];exact h
end
end M

namespace M
open PySem L2 PySem.Spec PyProof.Rows
structure RF where
 id:Nat
 nm:Str
 N:List Str
 k:Nat
 i:Nat
 m:aV
structure RM where
 id:Nat
 cl:Str
 nm:Str
 qn:Str
 N:List Str
 k:Nat
 i:Nat
 j:Nat
 m:aV
noncomputable def RF.d(tp:Nat->Stmt)(r:RF):nF:=⟨r.nm,r.nm,r.N,r.N.take r.k,tp r.i⟩
noncomputable def RM.d(mt:Nat->Nat->Stmt)(r:RM):nF:=⟨r.nm,r.qn,r.N,r.N.take r.k,mt r.i r.j⟩
noncomputable def rY(F:List RF)(M:List RM)(i:Nat):Option aV:=match F.find? λr=>Nat.beq r.id i with
 |some r=>some r.m
 |none=>(M.find? λr=>Nat.beq r.id i).map (·.m)
section
variable(tp:Nat->Stmt)(mt:Nat->Nat->Stmt)(K:PySem.W.Frag)
noncomputable def PF:List RF->Prop
 |[]=>True
 |r::l=>(∃f fd,PySem.W.nsIn K mainGlobals r.nm=some (some (.ref f))/\oS K r.nm r.nm (tp r.i) f fd)/\PF l
noncomputable def PM:List RM->Prop
 |[]=>True
 |r::l=>(∃C f fd,PySem.W.nsIn K mainGlobals r.cl=some (some (.ref C))/\Meth K C r.nm f/\oS K r.nm r.qn (mt r.i r.j) f fd)/\PM l
noncomputable def PC:List (Str×Nat)->Prop
 |[]=>True
 |r::l=>(∃C,PySem.W.nsIn K mainGlobals r.1=some (some (.ref C))/\jl K C/\PySem.W.makesIn K C=true/\PySem.W.keepIn K (.ref C)=true)/\PC l
noncomputable def PA:List (Str×Str)->Prop
 |[]=>True
 |r::l=>(∃C,PySem.W.nsIn K mainGlobals r.2=some (some (.ref C))/\PySem.W.findIn K (.ref C) r.1=some none)/\PA l
noncomputable def PB:List Str->Prop
 |[]=>True
 |r::l=>PySem.W.nsIn K mainGlobals r=some none/\PB l
noncomputable def PX:List Str->Prop
 |[]=>True
 |r::l=>(∃C,PySem.W.nsIn K mainGlobals r=some (some (.ref C))/\PySem.W.excIn K C [.type "ValueError",.type "Exception",.type "BaseException",.type "object"] "ValueError.__new__"=true)/\PX l
noncomputable def BF:List RF->Prop
 |[]=>True
 |r::l=>(∀(kV doc pm:Value) (an:Option Addr) (fm ct:Value) (us:List Value),us.length=(r.N.take r.k).length->bindArgs (PySem.W.fnOf r.nm r.nm (B0 (tp r.i)) (p0 (tp r.i)) (o8 (tp r.i)) .none kV doc pm an fm ct) ⟨us,[]⟩=pure ((r.N.take r.k).zip us))/\BF l
noncomputable def BM:List RM->Prop
 |[]=>True
 |r::l=>(∀(kV doc pm:Value) (an:Option Addr) (fm ct:Value) (us:List Value),us.length=(r.N.take r.k).length->bindArgs (PySem.W.fnOf r.nm r.qn (B0 (mt r.i r.j)) (p0 (mt r.i r.j)) (o8 (mt r.i r.j)) .none kV doc pm an fm ct) ⟨us,[]⟩=pure ((r.N.take r.k).zip us))/\BM l
noncomputable def YF(c:i4):List RF->Prop
 |[]=>True
 |r::l=>y9 (comp 60) (c.at (r.d tp)) (p0 (tp r.i))=some r.m.body/\YF c l
noncomputable def YM(c:i4):List RM->Prop
 |[]=>True
 |r::l=>y9 (comp 60) (c.at (r.d mt)) (p0 (mt r.i r.j))=some r.m.body/\YM c l
end
section
variable{tp:Nat->Stmt}{mt:Nat->Nat->Stmt}{K:PySem.W.Frag}{c:i4}{id k i j:Nat}{cl nm qn x:Str}{N:List Str}{m:aV}{f C:Addr}{oc kV doc pm fm ct:Value}{od an:Option Addr}{kU:Array (Option Value)}
theorem PF.nil:PF tp K []:=trivial
theorem PF.cons{l:List RF}(a:PySem.W.nsIn K mainGlobals nm=some (some (.ref f)))(lk:K.lookup f=some ⟨oc,od,.func (PySem.W.fnOf nm nm (B0 (tp i)) (p0 (tp i)) (o8 (tp i)) .none kV doc pm an fm ct),kU⟩)(cd:PySem.W.codeIn K fm nm=true)(kp:PySem.W.keepIn K (.ref f)=true)(h:PF tp K l):PF tp K (⟨id,nm,N,k,i,m⟩::l):=⟨⟨f,_,a,HY lk cd kp⟩,h⟩
theorem PM.nil:PM mt K []:=trivial
theorem PM.cons{l:List RM}(c0:PySem.W.nsIn K mainGlobals cl=some (some (.ref C)))(a:PySem.W.findIn K (.ref C) nm=some (some (.ref f)))(af:PySem.W.isFn K (.ref f)=true)(lk:K.lookup f=some ⟨oc,od,.func (PySem.W.fnOf nm qn (B0 (mt i j)) (p0 (mt i j)) (o8 (mt i j)) .none kV doc pm an fm ct),kU⟩)(cd:PySem.W.codeIn K fm qn=true)(kp:PySem.W.keepIn K (.ref f)=true)(h:PM mt K l):PM mt K (⟨id,cl,nm,qn,N,k,i,j,m⟩::l):=⟨⟨C,f,_,c0,⟨a,af,kp⟩,HY lk cd kp⟩,h⟩
theorem PC.nil:PC K []:=trivial
theorem PC.cons{l:List (Str×Nat)}(cn:PySem.W.nsIn K mainGlobals x=some (some (.ref C)))(cp:PySem.W.plainGet K C Str.empty=true)(NO:PySem.W.hasDictIn K C=true)(NL:PySem.W.plainOver K C=true)(NK:PySem.W.findIn K (.ref C) "__setattr__"=some (some (.builtin "object.__setattr__")))(NM:PySem.W.makesIn K C=true)(NN:PySem.W.keepIn K (.ref C)=true)(h:PC K l):PC K ((x,i)::l):=⟨⟨C,cn,⟨cp,NO,NL,NK⟩,NM,NN⟩,h⟩
theorem PA.nil:PA K []:=trivial
theorem PA.cons{l:List (Str×Str)}(cn:PySem.W.nsIn K mainGlobals x=some (some (.ref C)))(fl:PySem.W.findIn K (.ref C) nm=some none)(h:PA K l):PA K ((nm,x)::l):=⟨⟨C,cn,fl⟩,h⟩
theorem PB.nil:PB K []:=trivial
theorem PB.cons{l:List Str}(cn:PySem.W.nsIn K mainGlobals x=some none)(h:PB K l):PB K (x::l):=⟨cn,h⟩
theorem PX.nil:PX K []:=trivial
theorem PX.cons{l:List Str}(cn:PySem.W.nsIn K mainGlobals x=some (some (.ref C)))(q:PySem.W.excIn K C [.type "ValueError",.type "Exception",.type "BaseException",.type "object"] "ValueError.__new__"=true)(h:PX K l):PX K (x::l):=⟨⟨C,cn,q⟩,h⟩
theorem BF.nil:BF tp []:=trivial
theorem BF.cons{l:List RF}(h:∀(kV doc pm:Value) (an:Option Addr) (fm ct:Value) (us:List Value),us.length=(N.take k).length->bindArgs (PySem.W.fnOf nm nm (B0 (tp i)) (p0 (tp i)) (o8 (tp i)) .none kV doc pm an fm ct) ⟨us,[]⟩=pure ((N.take k).zip us))(h2:BF tp l):BF tp (⟨id,nm,N,k,i,m⟩::l):=⟨h,h2⟩
theorem BM.nil:BM mt []:=trivial
theorem BM.cons{l:List RM}(h:∀(kV doc pm:Value) (an:Option Addr) (fm ct:Value) (us:List Value),us.length=(N.take k).length->bindArgs (PySem.W.fnOf nm qn (B0 (mt i j)) (p0 (mt i j)) (o8 (mt i j)) .none kV doc pm an fm ct) ⟨us,[]⟩=pure ((N.take k).zip us))(h2:BM mt l):BM mt (⟨id,cl,nm,qn,N,k,i,j,m⟩::l):=⟨h,h2⟩
theorem YF.nil:YF tp c []:=trivial
theorem YF.cons{l:List RF}(h:y9 (comp 60) (c.at ⟨nm,nm,N,N.take k,tp i⟩) (p0 (tp i))=some m.body)(h2:YF tp c l):YF tp c (⟨id,nm,N,k,i,m⟩::l):=⟨h,h2⟩
theorem YM.nil:YM mt c []:=trivial
theorem YM.cons{l:List RM}(h:y9 (comp 60) (c.at ⟨nm,qn,N,N.take k,mt i j⟩) (p0 (mt i j))=some m.body)(h2:YM mt c l):YM mt c (⟨id,cl,nm,qn,N,k,i,j,m⟩::l):=⟨h,h2⟩
theorem YF.get:∀{l:List RF},YF tp c l->∀r∈l,y9 (comp 60) (c.at (r.d tp)) (p0 (tp r.i))=some r.m.body
 |_::_,h,r,hr=>(aE.mp hr).elim (λz=>z▸h.1) (YF.get h.2 r)
theorem YM.get:∀{l:List RM},YM mt c l->∀r∈l,y9 (comp 60) (c.at (r.d mt)) (p0 (mt r.i r.j))=some r.m.body
 |_::_,h,r,hr=>(aE.mp hr).elim (λz=>z▸h.1) (YM.get h.2 r)
theorem PF.get:∀{l:List RF},PF tp K l->∀r∈l,∃f fd,PySem.W.nsIn K mainGlobals r.nm=some (some (.ref f))/\oS K r.nm r.nm (tp r.i) f fd
 |_::_,h,r,hr=>(aE.mp hr).elim (λz=>z▸h.1) (PF.get h.2 r)
theorem PM.get:∀{l:List RM},PM mt K l->∀r∈l,∃C f fd,PySem.W.nsIn K mainGlobals r.cl=some (some (.ref C))/\Meth K C r.nm f/\oS K r.nm r.qn (mt r.i r.j) f fd
 |_::_,h,r,hr=>(aE.mp hr).elim (λz=>z▸h.1) (PM.get h.2 r)
theorem PC.get:∀{l:List (Str×Nat)},PC K l->∀r∈l,∃C,PySem.W.nsIn K mainGlobals r.1=some (some (.ref C))/\jl K C/\PySem.W.makesIn K C=true/\PySem.W.keepIn K (.ref C)=true
 |_::_,h,r,hr=>(aE.mp hr).elim (λz=>z▸h.1) (PC.get h.2 r)
theorem PA.get:∀{l:List (Str×Str)},PA K l->∀r∈l,∃C,PySem.W.nsIn K mainGlobals r.2=some (some (.ref C))/\PySem.W.findIn K (.ref C) r.1=some none
 |_::_,h,r,hr=>(aE.mp hr).elim (λz=>z▸h.1) (PA.get h.2 r)
theorem PB.get:∀{l:List Str},PB K l->∀r∈l,PySem.W.nsIn K mainGlobals r=some none
 |_::_,h,r,hr=>(aE.mp hr).elim (λz=>z▸h.1) (PB.get h.2 r)
theorem PX.get:∀{l:List Str},PX K l->∀r∈l,∃C,PySem.W.nsIn K mainGlobals r=some (some (.ref C))/\PySem.W.excIn K C [.type "ValueError",.type "Exception",.type "BaseException",.type "object"] "ValueError.__new__"=true
 |_::_,h,r,hr=>(aE.mp hr).elim (λz=>z▸h.1) (PX.get h.2 r)
theorem BF.get:∀{l:List RF},BF tp l->∀r∈l,∀(kV doc pm:Value) (an:Option Addr) (fm ct:Value) (us:List Value),us.length=(r.N.take r.k).length->bindArgs (PySem.W.fnOf r.nm r.nm (B0 (tp r.i)) (p0 (tp r.i)) (o8 (tp r.i)) .none kV doc pm an fm ct) ⟨us,[]⟩=pure ((r.N.take r.k).zip us)
 |_::_,h,r,hr=>(aE.mp hr).elim (λz=>z▸h.1) (BF.get h.2 r)
theorem BM.get:∀{l:List RM},BM mt l->∀r∈l,∀(kV doc pm:Value) (an:Option Addr) (fm ct:Value) (us:List Value),us.length=(r.N.take r.k).length->bindArgs (PySem.W.fnOf r.nm r.qn (B0 (mt r.i r.j)) (p0 (mt r.i r.j)) (o8 (mt r.i r.j)) .none kV doc pm an fm ct) ⟨us,[]⟩=pure ((r.N.take r.k).zip us)
 |_::_,h,r,hr=>(aE.mp hr).elim (λz=>z▸h.1) (BM.get h.2 r)
end
noncomputable def vV(N P:List Str)(sc:Scope):Bool:=decide (sc.kind=.function)&&!sc.isCoroutine&&!sc.isGenerator&&decide N.Nodup&&decide (N.take P.length=P)&&P.all (λx=>decide (sc.names.lookup x=some .local)||decide (sc.names.lookup x=some .cell))&&sc.names.all λy=>decide (y.2≠.free)
theorem Im{N P:List Str}{sc:Scope}(h:vV N P sc=true):ie N P sc:=by
 unfold vV at h;simp only[Bool.and_eq_true,decide_eq_true_eq,Bool.not_eq_true',List.all_eq_true,Bool.or_eq_true] at h;obtain⟨⟨⟨⟨⟨⟨h1,h2⟩,h3⟩,h4⟩,h5⟩,h6⟩,h7⟩:=h;exact⟨h1,h2,h3,h4,h5,h6,h7⟩
theorem XN{K:PySem.W.Frag}{h₀:Heap}{mg:Str->Option Value}{x:Str}{C:Addr}{FN:List Value}{newId:String}(X:K.In h₀)(G:h₀.Ns mainGlobals mg)(e:PySem.W.nsIn K mainGlobals x=some (some (.ref C)))(q:PySem.W.excIn K C FN newId=true):PyProof.Rows.OwnCls x C FN newId mg h₀:=by
 refine⟨bK X G e,?_⟩;unfold PySem.W.excIn at q;split at q
 ·rename_i dd cd sl ho;split at q
  ·rename_i C' bm k0 k1 k2 k3 n k5 hm hs;simp only[Bool.and_eq_true,beq_iff_eq,Bool.not_eq_true'] at q;obtain⟨⟨⟨⟨⟨z1,z2⟩,ur⟩,ht⟩,bG⟩,wt⟩:=q;subst z1;subst z2;obtain⟨nm,bs,mro,ns,qn,hd,sn,sub,ab,col,del⟩:=cd;dsimp only at hm ur bG wt;subst hm ur;have oh:sl=#[k0,k1,k2,k3,some (.builtin n),k5]:=by
    obtain⟨l⟩:=sl;simp only at hs;rw[hs]
   subst oh;exact⟨bm,ns,nm,qn,bs,hd,sn,sub,ab,col,dd,k0,k1,k2,k3,k5,_,X _ _ ho,.of_isNs (PySem.W.isNs_of_in X bG),PySem.W.nsMap_none_of_in X bG wt,PySem.W.tail_of_in X ht⟩
  ·cases q
 ·cases q
noncomputable def Q3(K:PySem.W.Frag)(x:Str):Addr:=match PySem.W.nsIn K mainGlobals x with
 |some (some (.ref C))=>C
 |_=>0
noncomputable def IA(K:PySem.W.Frag)(exc:List Str):Bool:=exc.all λx=>exc.all λy=>decide (PySem.W.exmOne K (.ref (Q3 K x)) (.ref (Q3 K y))=some (decide (x=y\/y="MintError")))
theorem Oz{K:PySem.W.Frag}{exc:List Str}(h:IA K exc=true){x y:Str}{C C':Addr}(hx:exc.contains x=true)(hy:exc.contains y=true)(hC:u4 K x C)(zS:u4 K y C'):PySem.W.exmOne K (.ref C) (.ref C')=some (decide (x=y\/y="MintError")):=by
 have h1:=bq.mp h x (by simpa using hx);have h2:=aZ (bq.mp h1 y (by simpa using hy));have e1:Q3 K x=C:=by unfold Q3;rw[show PySem.W.nsIn K mainGlobals x=_ from hC]
 have e2:Q3 K y=C':=by unfold Q3;rw[show PySem.W.nsIn K mainGlobals y=_ from zS]
 rw[e1,e2] at h2;exact h2
theorem AW{α:Type}{f:α->Nat}:∀{l:List α},(l.map f).Nodup->∀r∈l,l.find? (λx=>Nat.beq (f x) (f r))=some r
 |y::l,nd,r,hr=>by
  rw[aY,cG] at nd;rcases aE.mp hr with rfl|hr
  ·rw[List.find?_cons_of_pos];exact Nat.beq_refl _
  ·rw[List.find?_cons_of_neg]
   ·exact AW nd.2 r hr
   ·intro z;exact nd.1 (aO.mpr ⟨r,hr,(ik z).symm⟩)
theorem Rw{α β:Type}{f:α->Nat}{g:β->Nat}{l:List α}{r:β}(h:g r∉l.map f):l.find? (λx=>Nat.beq (f x) (g r))=none:=by
 rw[jo];intro x hx z;exact h (aO.mpr ⟨x,hx,ik z⟩)
section
variable{w:World}{K:PySem.W.Frag}{h₀:Heap}{mg:Str->Option Value}{c:i4}{F:List RF}{M:List RM}{tp:Nat->Stmt}{mt:Nat->Nat->Stmt}
structure kn(K:PySem.W.Frag)(c:i4)(F:List RF)(M:List RM)(tp:Nat->Stmt)(mt:Nat->Nat->Stmt):Prop where
 qF:PF tp K F
 qM:PM mt K M
 qC:PC K c.cls
 qA:PA K c.mI
 qB:PB K c.blt
 qX:PX K c.exc
 xm:IA K c.exc=true
structure km(c:i4)(F:List RF)(M:List RM)(tp:Nat->Stmt)(mt:Nat->Nat->Stmt):Prop where
 cf:c.fns=F.map λr=>(r.nm,r.id)
 cm:c.nU=M.map λr=>(r.nm,r.cl,r.id)
 ci:c.cls.all (λy=>M.any λr=>decide (r.cl=y.1)&&decide (r.nm="__init__")&&Nat.beq r.id y.2)=true
 nd:(F.map (·.id)++M.map (·.id)).Nodup
 sF:F.all (λr=>vV r.N (r.N.take r.k) (o8 (tp r.i))&&decide (r.m.ar=(r.N.take r.k).length)&&decide (r.m.n=r.N.length))=true
 sM:M.all (λr=>vV r.N (r.N.take r.k) (o8 (mt r.i r.j))&&decide (r.m.ar=(r.N.take r.k).length)&&decide (r.m.n=r.N.length))=true
 oF:YF tp c F
 oM:YM mt c M
 bF:BF tp F
 bM:BM mt M
theorem IX(I:kn K c F M tp mt)(X:km c F M tp mt)(r:RF)(hr:r∈F):∃f fd,iW K c (r.d tp) r.m f fd/\PySem.W.nsIn K mainGlobals r.nm=some (some (.ref f))/\rY F M r.id=some r.m:=by
 obtain⟨f,fd,a,q⟩:=I.qF.get r hr;have s:=bq.mp X.sF r hr;simp only[Bool.and_eq_true,decide_eq_true_eq] at s;have o:=X.oF.get r hr;refine⟨f,fd,⟨q,q.binds (X.bF.get r hr),Im s.1.1,o,s.1.2,s.2⟩,a,?_⟩;unfold rY;rw[AW (f:=(·.id)) (cF.mp X.nd).1 r hr]
theorem IY(I:kn K c F M tp mt)(X:km c F M tp mt)(r:RM)(hr:r∈M):∃C f fd,iW K c (r.d mt) r.m f fd/\PySem.W.nsIn K mainGlobals r.cl=some (some (.ref C))/\Meth K C r.nm f/\rY F M r.id=some r.m:=by
 obtain⟨C,f,fd,a,q1,q⟩:=I.qM.get r hr;have s:=bq.mp X.sM r hr;simp only[Bool.and_eq_true,decide_eq_true_eq] at s;have o:=X.oM.get r hr;refine⟨C,f,fd,⟨q,q.binds (X.bM.get r hr),Im s.1.1,o,s.1.2,s.2⟩,a,q1,?_⟩;have nd:=cF.mp X.nd;unfold rY;rw[Rw (f:=λr:RF=>r.id) (g:=λr:RM=>r.id) (r:=r) (λz=>nd.2.2 _ z _ (aO.mpr ⟨r,hr,rfl⟩) rfl),AW (f:=λr:RM=>r.id) nd.2.1 r hr]
 rfl
theorem QW(I:kn K c F M tp mt)(Y:km c F M tp mt)(X:K.In h₀)(G:h₀.Ns mainGlobals mg)(con:∀x d,c.con.lookup x=some d->∃v u,mg x=some u/\RelV v u/\∀ρ H,f7 K ρ H d v)(ql:∀x kvs,c.gd.lookup x=some kvs->∃A vs,mg x=some (.ref A)/\vc K w.params A vs/\oG K kvs vs):mr w K mg c (rY F M):=by
 refine⟨λx i hx=>?_,λx i hx=>?_,λx y i C hx hC=>?_,λf y C hx hC=>?_,con,λx hx=>?_,λx hx=>?_,λx y C C' hx hy hC zS=>Oz I.xm hx hy hC zS,ql⟩
 ·have hm:=aM hx;rw[Y.cf] at hm;obtain⟨r,hr,e⟩:=aO.mp hm;cases e;obtain⟨f,fd,O,a,t⟩:=IX I Y r hr;exact⟨_,_,f,fd,t,O,bK X G a⟩
 ·have hm:=aM hx;have h1:=bq.mp Y.ci _ hm;obtain⟨r,hr,e⟩:=bz.mp h1;simp only[Bool.and_eq_true,decide_eq_true_eq] at e;obtain⟨⟨e1,e2⟩,e3⟩:=e;have e3:=ik e3;obtain⟨C,f,fd,O,a,q,t⟩:=IY I Y r hr;obtain⟨C',a',hc,mk,kp⟩:=I.qC.get _ hm;rw[e1] at a;cases a.symm.trans a';rw[e2] at q;rw[e3] at t;exact⟨C,_,_,f,fd,t,O,bK X G a,a,hc,⟨mk,q.at_,q.fn,kp⟩⟩
 ·rw[Y.cm] at hx;obtain⟨r,hr,e⟩:=aO.mp hx;cases e;obtain⟨C',f,fd,O,a,q,t⟩:=IY I Y r hr;cases a.symm.trans hC;exact⟨_,_,f,fd,t,O,q⟩
 ·obtain⟨C',a,q⟩:=I.qA.get _ hx;cases a.symm.trans hC;exact q
 ·exact PySem.W.mg_none_of X G (I.qB.get x (by simpa using hx))
 ·obtain⟨C,a,q⟩:=I.qX.get x (by simpa using hx);exact⟨_,bK X G a,a,λbase mE uH=>⟨_,_,_,_,XN mE uH a q,PySem.F.excBase_ValueError⟩⟩
end
end M

namespace M
open PySem L2
set_option hygiene false
local macro_rules|`(tactic|walk_at"w1")=>`(tactic|with_reducible first|refine vo ?_|refine Cj ?_|refine xf ?_|refine Oi ?_|refine Rf ?_|refine Ol ?_|refine Jd ?_|refine Rj ?_|refine JO ?_|refine Q5 ?_|refine yp ?_|(refine w_var (d:=?_) ?_ ?_;rotate_left;·with_unfolding_all rfl)|refine w_lit ?_|refine FT ?_|refine FR ?_|refine U' ?_|refine Ri ?_|refine Te ?_|refine w_and ?_|refine w_or ?_|refine w_not ?_|refine w_ite ?_|refine AG ?_|refine Rg ?_|refine vR ?_|refine Ci ?_|refine vn ?_|refine Rk ?_|refine Oj ?_|refine Rm ?_|refine Ck ?_|refine JP ?_|refine Vc ?_|refine Vd ?_|refine Ds ?_|refine TC ?_|refine Tz ?_|refine Tw ?_|refine Tv ?_|refine Vh ?_|refine Vl ?_|refine Fv ?_|refine Fj ?_|refine Vi ?_|refine Fq ?_|refine Fo ?_|refine Fp ?_|refine Fm ?_|refine Fl ?_|refine Fn ?_|refine Tx ?_|refine Vj ?_|refine Fu ?_|refine Fs ?_|refine Ft ?_|refine FZ ?_|refine UX ?_|refine AR ?_|refine OD ?_|refine lO ?_|refine qD ?_|refine FE ?_|refine TX ?_|refine DV ?_|refine yB ?_|refine yz ?_|refine yA ?_|refine DD ?_|refine DT ?_|refine Du ?_)
local macro_rules|`(tactic|walk_at"w2")=>`(tactic|repeat(with_reducible first|walk_at "w1"|refine BZ (by simp) ?_|refine BY (by simp) ?_|refine v5 (a8 (by assumption)) (by with_unfolding_all rfl) ?_|refine U8 (a8 (by assumption)) ?_|refine BN (by unfold ny;decide) ?_))
local macro_rules|`(tactic|walk_at"w3")=>`(tactic|repeat(with_reducible first|walk_at "w1"|refine BZ (by simp) ?_|refine BY (by simp) ?_|refine v5 (a8 (by assumption)) (by with_unfolding_all rfl) ?_|refine U8 (a8 (by assumption)) ?_|refine BN (by unfold ny;decide) ?_|refine And.intro (show List.length _ <= 1000 from by simp) ?_|refine A8 (by with_unfolding_all rfl) ?_|refine l6 ?_|refine C5 (by with_unfolding_all rfl) ?_))
local macro_rules|`(tactic|walk_at"")=>`(tactic|repeat(with_reducible first|walk_at "w1"|refine Tf ?_|refine Dr ?_|refine Rh ?_|refine Fi ?_|refine Od ?_|refine Dv ?_|refine max2 ?_|refine min2 ?_|refine Vv ?_|refine nC ?_|refine Nq ?_|refine ER ?_|refine BZ (by simp) ?_|refine BY (by simp) ?_|refine v5 (a8 (by assumption)) (by with_unfolding_all rfl) ?_|refine U8 (a8 (by assumption)) ?_|refine BN (by unfold ny;decide) ?_|refine And.intro (show List.length _ <= 1000 from by simp) ?_|refine A8 (by with_unfolding_all rfl) ?_|refine l6 ?_|refine C5 (by with_unfolding_all rfl) ?_|refine And.intro (vj (by assumption)) ?_|refine And.intro (Pa (by assumption)) ?_|refine And.intro (Ug (by assumption)) ?_|refine P6 (by decide) ?_|refine Oo (by decide) (by decide) ?_|refine tX ?_))
set_option hygiene true
abbrev eK(a:ME):ME:=.cons a .nil
abbrev dg(a b:ME):ME:=.cons a (.cons b .nil)
abbrev fR(a b c:ME):ME:=.cons a (.cons b (.cons c .nil))
abbrev nL(a b c d:ME):ME:=.cons a (.cons b (.cons c (.cons d .nil)))
abbrev sV(a b c d e:ME):ME:=.cons a (.cons b (.cons c (.cons d (.cons e .nil))))
abbrev EL(a b c d e f:ME):ME:=.cons a (.cons b (.cons c (.cons d (.cons e (.cons f .nil)))))
abbrev Nj(a b c d e f g:ME):ME:=.cons a (.cons b (.cons c (.cons d (.cons e (.cons f (.cons g .nil))))))
abbrev eJ(o:PySem.CmpOp)(a b:ME):ME:=.fy (.prim (.cmp o) (.cons a (.cons b .nil)))
abbrev cY(a b:ME):ME:=.prim .ix (.cons a (.cons b .nil))
abbrev bg(a:Int):ME:=.lit (.int a)
abbrev hJ(a:PySem.Str):ME:=.lit (.str a)
abbrev dY(p:Pr)(a:ME):ME:=.prim p (.cons a .nil)
abbrev cu(p:Pr)(a b:ME):ME:=.prim p (.cons a (.cons b .nil))
abbrev aL:ME:=.var 0
abbrev bh:ME:=.var 1
abbrev kd:ME:=.var 10
abbrev kc:ME:=.var 12
abbrev tS:ME:=.var 13
abbrev nV:ME:=.var 15
abbrev tR:ME:=.var 16
abbrev bo:ME:=.var 2
abbrev bS:ME:=.var 3
abbrev cM:ME:=.var 4
abbrev eX:ME:=.var 5
abbrev eW:ME:=.var 6
abbrev gk:ME:=.var 7
abbrev lL:ME:=.var 8
abbrev pK:ME:=.var 9
noncomputable def E5:aV:=⟨2,5,(.seq (.ifs (.dQ (eJ .Lt (cY aL (bg 2)) bh) (eJ .Lt (cY aL (bg 1)) (dY .len (cY aL (bg 0))))) (.seq (.set 2 (cY (cY aL (bg 0)) (cY aL (bg 1)))) (.seq (.dP aL (bg 1) (cu (.bin .Add) (cY aL (bg 1)) (bg 1))) (.seq (.dP aL (bg 2) (bg 0)) (.seq (.ifs (eJ .GtE bo (cu (.bin .Pow) (bg 10) (bg 18))) (.seq (.dP aL (bg 2) bo) .pass) (.seq (.dP aL (bg 3) (cu (.bin .Mod) (cu (.bin .Add) (cu (.bin .Add) (cu (.bin .Mult) (cY aL (bg 3)) (bg 48271)) (cu (.bin .Mult) (cu (.bin .Mod) bo (bg 2147483629)) (bg 69621))) (bg 12345)) (bg 2147483647))) .pass)) .pass)))) .pass) (.seq (.ifs (eJ .GtE (cY aL (bg 2)) bh) (.seq (.set 3 (cu (.bin .Mod) (cY aL (bg 2)) bh)) (.seq (.dP aL (bg 2) (cu (.bin .FloorDiv) (cY aL (bg 2)) bh)) (.seq (.ret bS) .pass))) .pass) (.seq (.set 4 (cY aL (bg 3))) (.seq (.dP aL (bg 3) (cu (.bin .Mod) (cu (.bin .Add) (cu (.bin .Add) (cu (.bin .Mult) (cu (.bin .Mod) (cu (.bin .Mult) cM cM) (bg 2147483629)) (bg 5)) (cu (.bin .Mult) cM (bg 16811))) (bg 2531011)) (bg 2147483647))) (.seq (.ret (cu (.bin .Mod) (cu (.bin .Add) (cu (.bin .FloorDiv) (cY aL (bg 3)) (bg 59)) (cu (.bin .Mult) (cu (.bin .Mod) (cY aL (bg 3)) (bg 8191)) (bg 31))) bh)) .pass)))))⟩
structure j6(g:G)(d:Nat):Prop where
 ex:∃(s:Nat) (p b r:Int) (xs:List Int),g[d]?=some (.lst [.ref s,.int p,.int b,.int r])/\g[s]?=some (.lst (xs.map .int))/\s<d/\0<=p/\0<=b/\0<=r/\r<2147483647
structure Gr(d:Nat)(g g':G):Prop where
 len:g.length<=g'.length
 old:∀i,i≠d->i<g.length->g'[i]?=g[i]?
theorem Gr.refl(d:Nat)(g:G):Gr d g g:=⟨av _,λ_ _ _=>rfl⟩
theorem Gr.trans{d:Nat}{g g1 g2:G}(a:Gr d g g1)(b:Gr d g1 g2):Gr d g g2:=⟨aD a.len b.len,λi h1 h2=>(b.old i h1 (ax h2 a.len)).trans (a.old i h1 h2)⟩
theorem Gr.set(d:Nat)(g:G)(o:O):Gr d g (g.set d o):=⟨by simp,λi h1 h2=>aw (bD h1)⟩
theorem Gr.snoc(d:Nat)(g:G)(o:O):Gr d g (g++[o]):=⟨by simp,λi h1 h2=>aG h2⟩
theorem Gr.at{d:Nat}{g g':G}(h:Gr d g g'){i:Nat}{o:O}(hi:i≠d)(e:g[i]?=some o):g'[i]?=some o:=(h.old i hi (aj.mp e).1).trans e
theorem m5{g:G}{i:Nat}{o:O}(h:g[i]?=some o):i<g.length:=(aj.mp h).1
theorem j6.lt{g:G}{d:Nat}(h:j6 g d):d<g.length:=let ⟨_,_,_,_,_,e,_⟩:=h.ex;m5 e
theorem j6.snoc{g:G}{d:Nat}(h:j6 g d)(o:O):j6 (g++[o]) d:=by
 obtain⟨s,p,b,r,xs,e1,e2,q⟩:=h.ex;exact⟨s,p,b,r,xs,by rw[aG (m5 e1)];exact e1,by rw[aG (m5 e2)];exact e2,q⟩
noncomputable def j4:MS->MS
 |.seq _ b=>b
 |x=>x
theorem xi{i j:Int}(h1:-(2 ^ 64)<i)(h2:i<2 ^ 64):qx i j:=.inl ⟨h1,h2⟩
theorem X9{i j:Int}(h1:-(2 ^ 64)<j)(h2:j<2 ^ 64):qx i j:=.inr ⟨h1,h2⟩
theorem XZ{P:eR}{d:Nat}{n:Int}{g:G}{Q:KD}{E:KX}{N:Ends}{c2:Option D}(hN:N.rt=Q)(D0:j6 g d)(hn:0<n)(oi:n<1073741824)(h:∀r g',0<=r->r<n->j6 g' d->Gr d g g'->Q (.int r) g'):wpS P (j4 E5.body) N [some (.ref d),some (.int n),c2,none,none] g E:=by
 obtain⟨s,p,b,r,xs,e1,e2,mY,hp,hb,hr,rm⟩:=D0.ex;have et:=m5 e1;subst hN;dsimp[E5,j4];walk_at "w2";refine if2 (λc=>?_) (λc=>?_)
 ·walk_at "w2";refine P6 hn ?_;walk_at "w2";refine wN ⟨hn,oi⟩ ?_;walk_at "w2";refine T7 e1 (by with_unfolding_all rfl) ?_;walk_at "w2";refine h _ _ (ei _ (by omega)) (dj _ hn) ⟨s,p,b / n,r,xs,?_,?_,mY,hp,Int.ediv_nonneg hb (by omega),hr,rm⟩ (Gr.set d g _)
  ·rw[aU et];rfl
  ·rw[aw (bP mY)];exact e2
 ·walk_at "w2";have DF:-(2 ^ 64)<r/\r<2 ^ 64:=⟨by omega,by omega⟩
  refine N4 (xi DF.1 DF.2) ?_;walk_at "w2";refine P6 (by decide) ?_;walk_at "w2";refine N4 (X9 (by decide) (by decide)) ?_;walk_at "w2";refine N4 (X9 (by decide) (by decide)) ?_;walk_at "w2";refine P6 (by decide) ?_;walk_at "w2";refine T7 e1 (by with_unfolding_all rfl) ?_;generalize kY:(r*r % 2147483629*5+r*16811+2531011) % 2147483647=r';have q0:0<=r':=by rw[<- kY];exact ei _ (by decide)
  have q1:r'<2147483647:=by rw[<- kY];exact dj _ (by decide)
  have NH:(g.set d (.lst [.ref s,.int p,.int b,.int r']))[d]?=some (.lst [.ref s,.int p,.int b,.int r']):=aU et;show wpS P _ _ _ (g.set d (.lst [.ref s,.int p,.int b,.int r'])) E;walk_at "w2";refine wN ⟨by decide,by decide⟩ ?_;walk_at "w2";refine P6 (by decide) ?_;walk_at "w2";refine N4 (X9 (by decide) (by decide)) ?_;walk_at "w2";refine P6 hn ?_;walk_at "w2";refine h _ _ (ei _ (by omega)) (dj _ hn) ⟨s,p,b,r',xs,NH,?_,mY,hp,hb,q0,q1⟩ (Gr.set d g _);rw[aw (bP mY)];exact e2
theorem i5{T:Nat->Option aV}(hT:T 4=some E5){k d:Nat}{n:Int}{g:G}{Q:KD}{E:KX}(D0:j6 g d)(hn:0<n)(oi:n<1073741824)(h:∀r g',0<=r->r<n->j6 g' d->Gr d g g'->Q (.int r) g'):d4 T (k+1) 4 [.ref d,.int n] g Q E:=by
 obtain⟨s,p,b,r,xs,e1,e2,mY,hp,hb,hr,rm⟩:=D0.ex;have et:=m5 e1;refine call_of hT rfl ?_;have tail:∀(g':G) (c2:Option D),j6 g' d->Gr d g g'->wpS (d4 T k) (j4 E5.body) ⟨λ_ g'=>Q .bO g',Q,λ_ _=>False,λ_ _=>False⟩ [some (.ref d),some (.int n),c2,none,none] g' E :=
  λg' c2 D1 gr=>XZ rfl D1 hn oi λr g2 a b c e=>h r g2 a b c (gr.trans e)
 dsimp[E5,d8,List.replicate];walk_at "w2";refine if2 (λc=>?_) (λc=>?_)
 ·walk_at "w2";refine if2 (λc'=>?_) (λc'=>?_)
  ·walk_at "w2";have jb:p.toNat<xs.length:=by
    rw[ah] at c';omega
   have ea:gz (xs.map D.int) p=some (.int xs[p.toNat]):=by
    have:=J9 (xs:=xs.map D.int) (j:=p.toNat) (v:=.int xs[p.toNat]) (by rw[ak,ag jb];rfl)
    rwa [show((p.toNat:Nat):Int)=p by omega] at this
   refine v5 (a8 e2) ea ?_;generalize xs[p.toNat]=cell;walk_at "w2";refine T7 e1 (by with_unfolding_all rfl) ?_;have f1:(g.set d (.lst [.ref s,.int (p+1),.int b,.int r]))[d]?=some (.lst [.ref s,.int (p+1),.int b,.int r]):=aU et;show wpS (d4 T k) _ _ _ (g.set d (.lst [.ref s,.int (p+1),.int b,.int r])) E;walk_at "w2";refine T7 f1 (by with_unfolding_all rfl) ?_;rw[gW];have f2:(g.set d (.lst [.ref s,.int (p+1),.int 0,.int r]))[d]?=some (.lst [.ref s,.int (p+1),.int 0,.int r]):=aU et;show wpS (d4 T k) _ _ _ (g.set d (.lst [.ref s,.int (p+1),.int 0,.int r])) E;walk_at "w2";refine if2 (λc2=>?_) (λc2=>?_)
   ·walk_at "w2";refine T7 f2 (by with_unfolding_all rfl) ?_;rw[gW];refine tail _ _ ⟨s,p+1,cell,r,xs,aU et,by rw[aw (bP mY)];exact e2,mY,by omega,?_,hr,rm⟩ (Gr.set d g _);have:(10:Int) ^ (18:Int).toNat<=cell:=c2;have EK:(0:Int)<=10 ^ (18:Int).toNat:=by decide
    omega
   ·walk_at "w2";refine N4 (X9 (by decide) (by decide)) ?_;walk_at "w2";refine P6 (by decide) ?_;walk_at "w2";refine N4 (X9 (by decide) (by decide)) ?_;walk_at "w2";refine P6 (by decide) ?_;walk_at "w2";refine T7 f2 (by with_unfolding_all rfl) ?_;rw[gW];exact tail _ _ ⟨s,p+1,0,_,xs,aU et,by rw[aw (bP mY)];exact e2,mY,by omega,by decide,ei _ (by decide),dj _ (by decide)⟩ (Gr.set d g _)
  ·walk_at "w1";exact tail _ _ D0 (Gr.refl _ _)
 ·walk_at "w1";walk_at "w1";exact tail _ _ D0 (Gr.refl _ _)
noncomputable def BB:aV:=⟨1,1,(.seq (.ret (.dQ (cu .isin aL (.lit (.ty "int"))) (.dH (cu .isin aL (.lit (.ty "bool")))))) .pass)⟩
noncomputable def V4:aV:=⟨3,3,(.seq (.ret (.dQ (.call 38 (eK aL)) (.chain .LtE .LtE bh aL bo))) .pass)⟩
structure NF(T:Nat->Option aV):Prop where
 nf:T 1=some V4
 is:T 38=some BB
noncomputable def F5:aV:=⟨1,3,(.seq (.set 1 (bg 0)) (.seq (.dI (.one 2) (.fj aL) (.seq (.ifs (.dH (.fy (.call 1 (fR bo bh (bg 7))))) (.seq (.ret (.lit (.bl false))) .pass) .pass) (.seq (.set 1 (cu (.bin .Add) bo (bg 1))) .pass))) (.seq (.ret (.lit (.bl true))) .pass)))⟩
noncomputable def wW:aV:=⟨1,1,(.seq (.ret (.prim .lst (nL (dY .list (cu (.lG false true) aL (bg 63))) (bg 0) (bg 0) (bg 29)))) .pass)⟩
noncomputable def xV:aV:=⟨1,1,(.seq (.ret (.dQ (cu .isin aL (.lit (.ty "int"))) (.dH (cu .isin aL (.lit (.ty "bool")))))) .pass)⟩
theorem O0{g:G}{n:Nat}:∀ms:List Int,(ms.map D.int).mapM (rd g n)=some (ms.map PyData.int)
 |[]=>rfl
 |m::r=>by
  rw[aY,List.mapM_cons,O0 r];cases n<;>rfl
theorem lay_ints:∀ms:List Int,PyData.canLayAll0 (ms.map PyData.int)=true
 |[]=>by simp[PyData.canLayAll0]
 |m::r=>by simp[PyData.canLayAll0,PyData.canLay0,lay_ints r]
theorem Hv:∀ms ns:List Int,PyData.eqvAll (ms.map PyData.int) (ns.map PyData.int)=decide (ms=ns)
 |[],[]=>by simp[PyData.eqvAll]
 |[],_::_=>by simp[PyData.eqvAll]
 |_::_,[]=>by simp[PyData.eqvAll]
 |m::r,n::q=>by
  simp only[List.map_cons,PyData.eqvAll,PyData.eqv,Hv r q];by_cases h:m=n
  ·subst h;simp
  ·simp[h]
theorem Bw{g:G}{ms:List Int}{i:Int}{k:Bool->Prop}(h:k (ms.any λm=>m==i)):pL g (.int i) (.tup (ms.map .int)) k:=by
 refine⟨_,.inr ⟨_,_,_,rfl,O0 ms,rfl,lay_ints ms,by simp[PyData.canLay0],rfl⟩,?_⟩;rw[List.any_map];exact h
theorem Xr{g:G}{a b:Nat}{ms ns:List Int}{k:Bool->Prop}(ha:d7 g a=some (ms.map .int))(hb:d7 g b=some (ns.map .int))(h:k (decide (ms=ns))):uN g (.ref a) (.ref b) k:=by
 refine⟨_,.inr (.inr (.inr ⟨.list (ms.map .int),.list (ns.map .int),?_,?_,?_,?_,rfl⟩)),?_⟩
 ·simp only[rd];rw[ha];dsimp only;rw[O0];rfl
 ·simp only[rd];rw[hb];dsimp only;rw[O0];rfl
 ·simp[PyData.canLay0,lay_ints]
 ·simp[PyData.canLay0,lay_ints]
 ·simp only[PyData.eqv,Hv];exact h
section
variable{T:Nat->Option aV}{k d:Nat}{g:G}{Q:KD}{E:KX}
theorem HH(h1:NF T){i:Int}(h:Q (.bl true) g):d4 T (k+1) 38 [.int i] g Q E:=by
 refine call_of h1.is rfl ?_;dsimp[BB,d8,List.replicate];walk_at "w2";refine wj (c:="int") (b:=true) (by decide) rfl ?_;walk_at "w2";refine wj (c:="bool") (b:=false) (by decide) rfl ?_;walk_at "w2";exact h
theorem u9(h1:NF T){i l m:Int}(h:Q (.bl (decide (l<=i)&&decide (i<=m))) g):d4 T (k+2) 1 [.int i,.int l,.int m] g Q E:=by
 refine call_of h1.nf rfl ?_;dsimp[V4,d8,List.replicate];walk_at "w2";refine HH h1 ?_;walk_at "w2";refine if2 (λc=>?_) (λc=>?_)
 ·rw[az c] at h;walk_at "w2";exact h
 ·rw[aF c] at h;exact h
noncomputable def gm:Int->List Int->Bool
 |_,[]=>true
 |l,x::r=>(decide (l<=x)&&decide (x<=7))&&gm (x+1) r
theorem HL(h1:NF T)(h2:T 2=some F5){ms:List Int}(h:Q (.bl (gm 0 ms)) g):d4 T (k+3) 2 [.tup (ms.map .int)] g Q E:=by
 refine call_of h2 rfl ?_;dsimp[F5,d8,List.replicate];walk_at "w2";refine A6 (b0 T _) (wk (b0 T _) ?_);walk_at "w2";refine⟨_,rfl,_,λi Z g'=>g'=g/\∃(l:Int) (z:Option D),Z=[some (.tup (ms.map .int)),some (.int l),z]/\gm 0 ms=gm l (ms.drop i),λ_ _ _ _=>x8,⟨rfl,0,none,rfl,rfl⟩,λi x Z g' hx p=>?_,λZ g' p=>?_⟩
 ·obtain⟨rfl,l,z,rfl,e⟩:=p;rw[ak] at hx;cases em:ms[i]? with
  |none=>rw[em] at hx;cases hx
  |some m =>
   rw[em] at hx;cases hx;have hi:=(aj.mp em).1;have ed:ms.drop i=m::ms.drop (i+1):=by
    rw[dJ hi]
    congr 1
    exact(aj.mp em).2
   rw[ed] at e;simp only[gm] at e;show wpS _ _ _ _ _ _;walk_at "w2";refine u9 h1 ?_;walk_at "w2";cases hc:(decide (l<=m)&&decide (m<=7)) with
   |true =>
    rw[hc,ph] at e;show wpS _ _ _ _ _ _;walk_at "w2";exact⟨rfl,m+1,some (.int m),rfl,e⟩
   |false =>
    rw[hc,iM] at e;rw[e] at h;show wpS _ _ _ _ _ _;walk_at "w2";exact h
 ·obtain⟨rfl,l,z,rfl,e⟩:=p;rw[sN (by simp)] at e;simp only[gm] at e;rw[e] at h;show wpS _ _ _ _ _ _;walk_at "w2";exact h
theorem Sa(h3:T 3=some wW){a:Nat}{ns:List Int}(hg:g[a]?=some (.nk (ns.map .int)))(h:∀d g',j6 g' d->g.length<=d->(∀i,i<g.length->g'[i]?=g[i]?)->Q (.ref d) g'):d4 T (k+1) 3 [.ref a] g Q E:=by
 refine call_of h3 rfl ?_;dsimp[wW,d8,List.replicate];walk_at "w2";refine AA (Xy hg) ?_;walk_at "w2";refine Jz (l:=cut (ns.map D.int) none (some 63)) (a8 (by simp)) ?_;walk_at "w2";have ec:cut (ns.map D.int) none (some 63)=(cut ns none (some 63)).map D.int:=by
  unfold cut;simp[List.map_take,List.map_drop]
 refine h _ _ ⟨g.length+1,0,0,29,cut ns none (some 63),?_,?_,?_,by decide,by decide,by decide,by decide⟩ (by simp) (λi hi=>?_)
 ·simp
 ·rw[<- ec];simp
 ·simp
 ·simp[List.getElem?_append,hi,Nat.lt_of_lt_of_le hi (by omega:g.length<=g.length+1),Nat.lt_of_lt_of_le hi (by omega:g.length<=g.length+1+1)]
end
theorem Jx:∀{ms:List Int} {l:Int},ms.Pairwise (· < ·)->(∀m∈ms,l<=m/\m<=7)->gm l ms=true
 |[],_,_,_=>rfl
 |m::r,l,hp,h=>by
  obtain⟨h1,h2⟩:=fN.mp hp;have hm:=h m (by simp);simp only[gm];rw[az hm.1,az hm.2,Jx h2 λx hx=>⟨by have:=h1 x hx;omega,(h x (by simp[hx])).2⟩]
  rfl
theorem J6{α:Type}{l:List α}{r:Int}(h0:0<=r)(h1:r<l.length):∃v,gz l r=some v/\v∈l:=by
 have hi:r.toNat<l.length:=by omega
 refine⟨l[r.toNat],?_,cc hi⟩;have:=J9 (xs:=l) (j:=r.toNat) (v:=l[r.toNat]) (ag hi)
 rwa [show((r.toNat:Nat):Int)=r by omega] at this
section
variable{T:Nat->Option aV}{k d:Nat}{g:G}{Q:KD}{E:KX}
end
noncomputable def B4:aV:=⟨1,8,(.seq (.kR (.many [1,2,3,4,5]) aL) (.seq (.set 6 (.dQ (.call 1 (fR bh (bg 1) (bg 99))) (.call 2 (eK bo)))) (.seq (.set 7 (.dQ (.call 1 (fR bS (bg 1) (bg 99))) (.call 2 (eK cM)))) (.seq (.ret (.dQ eW (.dQ gk (.call 1 (fR eX (bg 0) (bg 9999)))))) .pass))))⟩
structure b8 where
 lo:Int
 lm:List Int
 up:Int
 um:List Int
 yr:Int
noncomputable def b8.d(c:b8):D:=.tup [.int c.lo,.tup (c.lm.map .int),.int c.up,.tup (c.um.map .int),.int c.yr]
noncomputable def q9(c:b8):Bool:=((decide (1<=c.lo)&&decide (c.lo<=99))&&gm 0 c.lm)&&(((decide (1<=c.up)&&decide (c.up<=99))&&gm 0 c.um)&&(decide (0<=c.yr)&&decide (c.yr<=9999)))
section
variable{T:Nat->Option aV}{k d:Nat}{g:G}{Q:KD}{E:KX}
theorem ZE(h1:NF T)(h2:T 2=some F5)(rK:T 12=some B4){c:b8}(h:Q (.bl (q9 c)) g):d4 T (k+4) 12 [c.d] g Q E:=by
 refine call_of rK rfl ?_;dsimp[B4,d8,List.replicate,b8.d];walk_at "w3";refine u9 h1 ?_;have s1:∀b:Bool,b=((decide (1<=c.lo)&&decide (c.lo<=99))&&gm 0 c.lm)->wpS (d4 T (k+3)) (j4 (j4 B4.body)) ⟨λ_ g'=>Q .bO g',Q,λ_ _=>False,λ_ _=>False⟩ [some c.d,some (.int c.lo),some (.tup (c.lm.map .int)),some (.int c.up),some (.tup (c.um.map .int)),some (.int c.yr),some (.bl b),none] g E:=by
  intro b hb;dsimp[B4,j4];walk_at "w3";refine u9 h1 ?_;have s2:∀b':Bool,b'=((decide (1<=c.up)&&decide (c.up<=99))&&gm 0 c.um)->wpS (d4 T (k+3)) (j4 (j4 (j4 B4.body))) ⟨λ_ g'=>Q .bO g',Q,λ_ _=>False,λ_ _=>False⟩ [some c.d,some (.int c.lo),some (.tup (c.lm.map .int)),some (.int c.up),some (.tup (c.um.map .int)),some (.int c.yr),some (.bl b),some (.bl b')] g E:=by
   intro b' jI;dsimp[B4,j4];have e:q9 c=(b&&(b'&&(decide (0<=c.yr)&&decide (c.yr<=9999)))):=by unfold q9;rw[hb,jI]
   rw[e] at h;walk_at "w3";cases b
   ·exact qD h
   ·refine lO ?_;walk_at "w3";cases b'
    ·exact qD h
    ·refine lO ?_;walk_at "w3";exact u9 h1 h
  refine AR ?_;cases hc:(decide (1<=c.up)&&decide (c.up<=99)) with
  |false=>exact qD (s2 false (by rw[hc];rfl))
  |true =>
   refine lO ?_;walk_at "w1";walk_at "w1";walk_at "w1";walk_at "w1";exact HL h1 h2 (s2 _ (by rw[hc];rfl))
 refine AR ?_;cases hc:(decide (1<=c.lo)&&decide (c.lo<=99)) with
 |false=>exact qD (s1 false (by rw[hc];rfl))
 |true =>
  refine lO ?_;walk_at "w1";walk_at "w1";walk_at "w1";walk_at "w1";exact HL h1 h2 (s1 _ (by rw[hc];rfl))
end
noncomputable def R7:aV:=⟨2,5,(.seq (.set 2 (dY .list bh)) (.seq (.set 3 (.prim .lst .nil)) (.seq (.dI (.one 4) (.eY (dY .len bh)) (.seq (.expr (.eF .append bS (eK (.eF .pop bo (eK (.call 4 (dg aL (dY .len bo)))))))) .pass)) (.seq (.ret bS) .pass))))⟩
theorem Hm{α:Type}:∀{l:List α} {j:Nat} (h:j<l.length),(l[j]::l.eraseIdx j).Perm l
 |a::r,0,_=>by simp
 |a::r,j+1,h=>by
  simp only[List.getElem_cons_succ,List.eraseIdx_cons_succ];exact(List.Perm.swap _ _ _).trans ((Hm (l:=r) (j:=j) (by simpa using h)).cons a)
theorem Gr.J1{d x:Nat}{g g':G}{o:O}(h:Gr d g g')(hx:g.length<=x):Gr d g (g'.set x o):=⟨by simp[h.len],λi h1 h2=>by rw[aw (by omega)];exact h.old i h1 h2⟩
theorem j6.J1{g:G}{d x:Nat}{o:O}(h:j6 g d)(hx:d<x):j6 (g.set x o) d:=by
 obtain⟨s,p,b,r,xs,e1,e2,hs,q⟩:=h.ex;exact⟨s,p,b,r,xs,by rw[aw (by omega)];exact e1,by rw[aw (by omega)];exact e2,hs,q⟩
theorem d0{g:G}{o:O}:(g++[o])[g.length]?=some o:=by simp
theorem n5{g:G}{i:Nat}{o o':O}(h:g[i]?=some o):(g++[o'])[i]?=some o:=by rw[aG (m5 h)];exact h
theorem get_set{g:G}{i:Nat}{o o':O}(h:g[i]?=some o):(g.set i o')[i]?=some o':=aU (m5 h)
theorem i0{g:G}{i j:Nat}{o o':O}(h:g[i]?=some o)(hn:j≠i):(g.set j o')[i]?=some o:=by rw[aw hn];exact h
section
variable{T:Nat->Option aV}{k d:Nat}{g:G}{Q:KD}{E:KX}
theorem HB(h4:T 4=some E5)(zU:T 21=some R7){a:Nat}{l:List D}(ha:g[a]?=some (.lst l))(hl:l.length<=1000)(hd:a≠d)(D0:j6 g d)(h:∀(l':List D) b g',l'.Perm l->g'[b]?=some (.lst l')->g.length<=b->j6 g' d->Gr d g g'->Q (.ref b) g'):d4 T (k+2) 21 [.ref d,.ref a] g Q E:=by
 refine call_of zU rfl ?_;dsimp[R7,d8,List.replicate];walk_at"";refine Jz (a8 ha) ?_;walk_at"";have dl:=D0.lt;refine A6 (b0 T _) (oJ (b0 T _) ?_);walk_at"";have wz:(g++[O.lst l]++[O.lst []])[a]?=some (.lst l):=n5 (n5 ha);refine U8 (a8 wz) ?_;refine ⟨_,rfl,by omega,by omega,k8 0 l.length,λi Z g'=>∃ left found w,Z=[some (.ref d),some (.ref a),some (.ref g.length),some (.ref (g.length + 1)),w]/\(left ++ found).Perm l/\left.length + i=l.length/\g'[g.length]?=some (.lst left)/\g'[g.length + 1]?=some (.lst found)/\j6 g' d/\Gr d g g',
  λi Z g p=>x8,?_,λi x Z g' hx p=>?_,λZ g' p=>?_⟩
 ·refine⟨l,[],none,?_,by simp,by simp,?_,?_,(D0.snoc _).snoc _,(Gr.snoc _ _ _).trans (Gr.snoc _ _ _)⟩
  ·simp
  ·exact n5 d0
  ·have:=d0 (g:=g++[O.lst l]) (o:=O.lst []);simpa using this
 ·obtain⟨left,found,w,rfl,hp,hn,e1,e2,D1,G1⟩:=p;obtain⟨hi,rfl⟩:=E2 hx;show wpS _ _ _ _ _ _;walk_at"";refine i5 (n:=(left.length:Int)) h4 D1 (by omega) (by omega) λr g2 r0 r1 D2 G2=>?_;have f1:=G2.at (by omega) e1;have f2:=G2.at (by omega) e2;have hr:r.toNat<left.length:=by omega
  walk_at"";refine VI (j:=r.toNat) f1 (by omega) (ag hr) (by omega) ?_;walk_at"";refine U3 (i0 f2 (by omega)) ?_ ?_
  ·have:=hp.length_eq;simp at this;omega
  walk_at"";refine⟨_,_,_,rfl,?_,?_,i0 (get_set f1) (by omega),get_set (i0 f2 (by omega)),(D2.J1 (by omega)).J1 (by omega),((G1.trans G2).J1 (by omega)).J1 (by omega)⟩
  ·refine List.Perm.trans ?_ hp;have:=Hm hr;refine List.Perm.trans ?_ (List.Perm.append_right found this);simp only[List.cons_append];rw[<- gb];exact(List.perm_append_singleton _ _)
  ·rw[fP hr];omega
 ·obtain⟨left,found,w,rfl,hp,hn,e1,e2,D1,G1⟩:=p;show wpS _ _ _ _ _ _;walk_at"";rw[n4] at hn;have:left=[]:=fi (by omega);subst this;exact h _ _ _ (by simpa using hp) e2 (by omega) D1 G1
end
noncomputable def xO:aV:=⟨1,5,(.seq (.set 1 (.prim .lst (Nj (.prim .tup .nil) (dY .tup (bg 0)) (cu .tup (bg 0) (bg 1)) (dY .tup (bg 1)) (.prim .tup (fR (bg 0) (bg 1) (bg 2))) (.prim .tup (nL (bg 0) (bg 1) (bg 2) (bg 7))) (dY .tup (bg 2))))) (.seq (.set 2 (cY bh (.call 4 (dg aL (cY (cu .tup (bg 4) (bg 7)) (dY .int (cu (.cmp .Eq) (.call 4 (dg aL (bg 4))) (bg 0)))))))) (.seq (.set 3 (cY bh (.call 4 (dg aL (bg 5))))) (.seq (.set 4 (cY (.prim .lst (EL (bg 0) (bg 0) (bg 1400) (bg 1400) (bg 1401) (bg 1))) (.call 4 (dg aL (bg 6))))) (.seq (.ret (.prim .tup (sV (cu (.bin .Add) (bg 1) (.call 4 (dg aL (bg 3)))) bo (cu (.bin .Add) (bg 1) (.call 4 (dg aL (bg 4)))) bS cM))) .pass)))))⟩
noncomputable def F3:aV:=⟨4,4,(.seq (.ifs (.jG (eJ .Eq (dY .len bh) (bg 0)) (.dQ (eJ .Lt (dY .len bh) bS) (eJ .Eq (.call 4 (dg aL (bg 3))) (bg 0)))) (.seq (.expr (.eF .append bh (eK bo))) (.seq (.ret (cu (.bin .Add) bo (bg 1))) .pass)) .pass) (.seq (.ifs (eJ .Eq (.call 4 (dg aL (bg 5))) (bg 0)) (.seq (.dP bh (.call 4 (dg aL (dY .len bh))) bo) (.seq (.ret (cu (.bin .Add) bo (bg 1))) .pass)) .pass) (.seq (.ret bo) .pass)))⟩
structure fX(c:b8):Prop where
 good:q9 c=true
 l8:c.lm.length<=8
 u8:c.um.length<=8
theorem fX.mk'{lo up yr:Int}{lm um:List Int}(h1:1<=lo)(h2:lo<=99)(h3:1<=up)(h4:up<=99)(h5:0<=yr)(h6:yr<=9999)(h7:gm 0 lm=true)(h8:gm 0 um=true)(h9:lm.length<=8)(EK:um.length<=8):fX ⟨lo,lm,up,um,yr⟩:=by
 refine⟨?_,h9,EK⟩;simp only[q9,h7,h8,decide_eq_true h1,decide_eq_true h2,decide_eq_true h3,decide_eq_true h4,decide_eq_true h5,decide_eq_true h6]
 rfl
theorem fX.inv{c:b8}(h:fX c):(1<=c.lo/\c.lo<=99)/\gm 0 c.lm=true/\(1<=c.up/\c.up<=99)/\gm 0 c.um=true/\0<=c.yr/\c.yr<=9999:=by
 have:=h.good;unfold q9 at this;simp only[Bool.and_eq_true,decide_eq_true_eq] at this;obtain⟨⟨⟨a,b⟩,e⟩,⟨⟨c',d⟩,f⟩,p,q⟩:=this;exact⟨⟨a,b⟩,e,⟨c',d⟩,f,p,q⟩
noncomputable def M7:List (List Int):=[[],[0],[0,1],[1],[0,1,2],[0,1,2,7],[2]]
theorem RL:∀ms∈M7,gm 0 ms=true/\ms.length<=8:=by decide
theorem IL{r:Int}(h0:0<=r)(h7:r<7):∃ms,gz (M7.map λms=>D.tup (ms.map .int)) r=some (.tup (ms.map .int))/\gm 0 ms=true/\ms.length<=8:=by
 obtain⟨v,hv,hm⟩:=J6 (l:=M7.map λms=>D.tup (ms.map .int)) h0 (by simpa[M7] using h7);obtain⟨ms,h1,rfl⟩:=aO.mp hm;exact⟨ms,hv,RL ms h1⟩
section
variable{T:Nat->Option aV}{k d:Nat}{g:G}{Q:KD}{E:KX}
theorem Zd(h4:T 4=some E5)(Nc:T 22=some xO)(D0:j6 g d)(h:∀c g',fX c->j6 g' d->Gr d g g'->Q c.d g'):d4 T (k+2) 22 [.ref d] g Q E:=by
 refine call_of Nc rfl ?_;dsimp[xO,d8,List.replicate];have dl:=D0.lt;walk_at"";have D1:=D0.snoc (.lst (M7.map λms=>D.tup (ms.map .int)));have G1:=Gr.snoc d g (.lst (M7.map λms=>D.tup (ms.map .int)));have e1:(g++[O.lst (M7.map λms=>D.tup (ms.map .int))])[g.length]?=some (.lst (M7.map λms=>D.tup (ms.map .int))):=d0;show d4 _ _ _ _ (g++[O.lst (M7.map λms=>D.tup (ms.map .int))]) _ _;generalize g++[O.lst (M7.map λms=>D.tup (ms.map .int))]=g1 at *;refine i5 h4 D1 (by decide) (by decide) λr g2 r0 r1 D2 G2=>?_;walk_at"";have e2:=G2.at (by omega) e1;have hn:∃n:Int,gz [D.int 4,D.int 7] (if decide (r=0)=true then 1 else 0)=some (.int n)/\0<n/\n<=7:=by
  by_cases hr:r=0
  ·exact⟨7,by rw[az hr];rfl,by decide,by decide⟩
  ·exact⟨4,by rw[aF hr];rfl,by decide,by decide⟩
 obtain⟨n,en,n0,n7⟩:=hn;refine C5 en ?_;walk_at"";refine i5 h4 D2 n0 (by omega) λr3 g3 qZ tD D3 G3=>?_;have e3:=G3.at (by omega) e2;obtain⟨lm,el,gl,ll⟩:=IL qZ (by omega);refine v5 (a8 e3) el ?_;walk_at"";refine i5 h4 D3 (by decide) (by decide) λr4 g4 vZ yF D4 G4=>?_;have e4:=G4.at (by omega) e3;obtain⟨um,eu,gu,lu⟩:=IL vZ (by omega);refine v5 (a8 e4) eu ?_;walk_at"";have e5:(g4++[O.lst [.int 0,.int 0,.int 1400,.int 1400,.int 1401,.int 1]])[g4.length]?=some (.lst [.int 0,.int 0,.int 1400,.int 1400,.int 1401,.int 1]):=d0;refine i5 h4 (D4.snoc _) (by decide) (by decide) λr5 g5 yE yD D5 G5=>?_;have e6:=G5.at (by have:=D4.lt;omega) e5;obtain⟨v,hv,hm⟩:=J6 (l:=[D.int 0,.int 0,.int 1400,.int 1400,.int 1401,.int 1]) yE (by simpa using yD);have hy:∃y:Int,v=.int y/\0<=y/\y<=9999:=by
  simp only[List.mem_cons,List.mem_nil_iff,or_false] at hm;rcases hm with rfl|rfl|rfl|rfl|rfl|rfl<;>exact⟨_,rfl,by decide,by decide⟩
 obtain⟨y,rfl,y0,y1⟩:=hy;refine v5 (a8 e6) hv ?_;walk_at"";refine i5 h4 D5 (by decide) (by decide) λr6 g6 DH DG D6 G6=>?_;walk_at"";refine i5 h4 D6 (by decide) (by decide) λr7 g7 r70 r71 D7 G7=>?_;walk_at"";exact h ⟨1+r6,lm,1+r7,um,y⟩ _ (fX.mk' (by omega) (by omega) (by omega) (by omega) y0 y1 gl gu ll lu) D7 (G1.trans (G2.trans (G3.trans (G4.trans ((Gr.snoc _ _ _).trans (G5.trans (G6.trans G7)))))))
noncomputable def BL(l:List D)(f:Int):Prop:=∃ns:List Int,l=ns.map .int/\∀n∈ns,1<=n/\n<f
theorem Yc(h4:T 4=some E5)(uD:T 23=some F3){a:Nat}{l:List D}{f v:Int}(ha:g[a]?=some (.lst l))(hl:l.length<1000)(hs:BL l f)(f1:1<=f)(hd:d<a)(D0:j6 g d)(h:∀(l':List D) (f':Int) g',l'≠[]->l'.length<=l.length+1->BL l' f'->f<=f'->f'<=f+1->g'[a]?=some (.lst l')->j6 g' d->(∀i,i≠d->i≠a->i<g.length->g'[i]?=g[i]?)->g.length<=g'.length->Q (.int f') g'):d4 T (k+2) 23 [.ref d,.ref a,.int f,.int v] g Q E:=by
 refine call_of uD rfl ?_;have dl:=D0.lt;obtain⟨ns,rfl,pP⟩:=id hs;have app:∀g':G,g'[a]?=some (.lst (ns.map D.int))->j6 g' d->Gr d g g'->wpS (d4 T (k+1)) (.seq (.expr (.eF .append (.var 1) (.cons (.var 2) .nil))) (.seq (.ret (.prim (.bin .Add) (.cons (.var 2) (.cons (.lit (.int 1)) .nil)))) .pass)) ⟨λhX g1=>wpS (d4 T (k+1)) (j4 F3.body) ⟨λ_ g'=>Q .bO g',Q,λ_ _=>False,λ_ _=>False⟩ hX g1 E,Q,λ_ _=>False,λ_ _=>False⟩ [some (.ref d),some (.ref a),some (.int f),some (.int v)] g' E:=by
  intro g' e D1 G1;walk_at"";refine U3 e (by simp at hl ⊢;omega) ?_;walk_at"";refine h _ _ _ (by simp) (by simp) ⟨ns++[f],by simp,λn hn=>?_⟩ (by omega) (by omega) (get_set e) (D1.J1 hd) (λi h1 h2 h3=>?_) (by simp[G1.len])
  ·rcases bj.mp hn with z|z
   ·have:=pP n z;omega
   ·simp at z;omega
  ·rw[aw (bD h2)];exact G1.old i h1 h3
 have rest:∀g':G,g'[a]?=some (.lst (ns.map D.int))->ns≠[]->j6 g' d->Gr d g g'->wpS (d4 T (k+1)) (j4 F3.body) ⟨λ_ g'=>Q .bO g',Q,λ_ _=>False,λ_ _=>False⟩ [some (.ref d),some (.ref a),some (.int f),some (.int v)] g' E:=by
  intro g' e dz D1 G1;dsimp[F3,j4];walk_at"";refine i5 h4 D1 (by decide) (by decide) λr g2 r0 r1 D2 G2=>?_;have e2:=G2.at (by omega) e;have hlen:0<ns.length:=Dm.mpr dz;walk_at"";refine if2 (λc=>?_) (λc=>?_)
  ·walk_at"";rw[ah];refine i5 h4 D2 (by omega) (by simp at hl;omega) λr3 g3 qZ tD D3 G3=>?_;have e3:=G3.at (by omega) e2;have hj:ke (ns.map D.int).length r3=some r3.toNat:=by
    unfold ke;rw[aH qZ,aH (by rw[ah];exact tD)]
   refine T7 e3 hj ?_;walk_at"";refine h _ _ _ (by simp[dz]) (by simp) ⟨ns.set r3.toNat f,by simp,λn hn=>?_⟩ (by omega) (by omega) (get_set e3) (D3.J1 hd) (λi h1 h2 h3=>?_) (by simp[((G1.trans G2).trans G3).len])
   ·rcases nJ hn with z|z
    ·have:=pP n z;omega
    ·omega
   ·rw[aw (bD h2)];exact((G1.trans G2).trans G3).old i h1 h3
  ·walk_at"";exact h _ _ _ (by simp[dz]) (by simp) hs (by omega) (by omega) e2 D2 (λi h1 h2 h3=>(G1.trans G2).old i h1 h3) (G1.trans G2).len
 dsimp[F3,d8,List.replicate];walk_at"";refine if2 (λc=>?_) (λc=>?_)
 ·refine lO ?_;exact app g ha D0 (Gr.refl _ _)
 ·have dz:ns≠[]:=λz=>c (by rw[z];rfl);walk_at"";refine if2 (λc2=>?_) (λc2=>?_)
  ·walk_at"";refine i5 h4 D0 (by decide) (by decide) λr g2 r0 r1 D2 G2=>?_;walk_at"";refine if2 (λc3=>?_) (λc3=>?_)
   ·exact app g2 (G2.at (by omega) ha) D2 G2
   ·walk_at "w1";exact rest g2 (G2.at (by omega) ha) dz D2 G2
  ·walk_at "w1";walk_at "w1";exact rest g ha dz D0 (Gr.refl _ _)
end
noncomputable def F2:aV:=⟨3,17,(.seq (.set 3 (.prim .lst .nil)) (.seq (.set 4 (bg 1)) (.seq (.set 5 (.prim .nC .nil)) (.seq (.set 6 (cY (.prim .lst (fR (bg 0) (bg 1) (bg 1350))) (.call 4 (dg aL (bg 3))))) (.seq (.set 7 (cu (.bin .Add) (bg 1) (.call 4 (dg aL (bg 96))))) (.seq (.set 8 (cu (.bin .Add) (bg 2) (.call 4 (dg aL (bg 4))))) (.seq (.set 9 (cu .max (bg 0) (cu (.bin .Sub) (.call 4 (dg aL (bg 9))) (bg 6)))) (.seq (.set 10 (.prim .lst .nil)) (.seq (.dI (.one 11) (.eY bh) (.seq (.set 4 (.call 23 (nL aL bS cM bo))) (.seq (.set 12 (cu .tup (cY bS (.call 4 (dg aL (dY .len bS)))) (cu (.bin .Add) (bg 50) (.call 4 (dg aL (cu (.bin .Add) (bg 2) bo)))))) (.seq (.dI (.one 13) (.fj kc) (.seq (.ifs (eJ .Eq (.call 4 (dg aL lL)) (bg 0)) (.seq (.set 14 (.call 4 (dg aL (bg 8)))) (.seq (.dP eX tS (dY .tuple (.comp [13,14,5] 5 (.one 4) (.eY (bg 8)) (.jG (eJ .Eq cM bh) (eJ .In cM (.eF .get bo (dg aL (.prim .tup .nil))))) cM))) .pass)) .pass) .pass)) (.seq (.ifs (eJ .Eq (.call 4 (dg aL (bg 5))) (bg 0)) (.seq (.set 6 (cu .min (bg 9999) (cu (.bin .Add) (cu (.bin .Add) eW (bg 1)) (.call 4 (dg aL (bg 9)))))) .pass) .pass) (.seq (.set 15 (.comp [9,7] 4 (.one 3) (.fj kc) .no (cu (.bin .Add) (cu (.bin .Add) (bg 1) aL) (cu (.bin .Mod) (cu (.bin .Mult) bS bh) (bg 97))))) (.seq (.set 16 (cu (.bin .Mult) eW (dY .int (cu (.cmp .Gt) (.call 4 (dg aL (bg 4))) (bg 0))))) (.seq (.expr (.eF .append kd (eK (.prim .tup (sV (cY nV (bg 0)) (.eF .get eX (dg (cY kc (bg 0)) (.prim .tup .nil))) (cY nV (bg 1)) (.eF .get eX (dg (cY kc (bg 1)) (.prim .tup .nil))) tR))))) .pass)))))))) (.seq (.ret kd) .pass))))))))))⟩
noncomputable def nA(kvs:List (Key×D)):Prop:=∀k v,s9 kvs k=some v->∃ms:List Int,v=.tup (ms.map .int)/\gm 0 ms=true/\ms.length<=8
theorem WZ(kvs:List (Key×D))(k k':Key)(v:D):s9 (putD kvs k v) k'=if k'=k then some v else s9 kvs k':=by
 unfold putD;split
 ·rename_i pY;have go:∀l:List (Key×D),s9 (l.map λkv=>if kv.1=k then(kv.1,v) else kv) k'=if k'=k then(if(l.any λkv=>decide (kv.1=k))=true then some v else none) else s9 l k':=by
   intro l
   induction l with
   |nil=>simp[s9]
   |cons p r ih =>
    obtain⟨pk,pv⟩:=p;by_cases e:pk=k
    ·subst e;by_cases e2:k'=pk
     ·subst e2;simp[s9]
     ·have:¬pk=k':=λz=>e2 z.symm;unfold s9 at ih ⊢;simp[this,e2] at ih ⊢;exact ih
    ·by_cases e2:k'=k
     ·subst e2;unfold s9 at ih ⊢;rw[fg,show decide (pk=k')=false from aF e,pj];simp[e] at ih ⊢;exact ih
     ·unfold s9 at ih ⊢;simp only[List.map_cons,e,if_false,List.find?_cons];by_cases e3:pk=k'
      ·simp[e3,e2]
      ·simp[e3];simp[e2] at ih;simp[e2];exact ih
  rw[go,pY]
  rfl
 ·rename_i pY;unfold s9;rw[jN];by_cases e:k'=k
  ·subst e;have:kvs.find? (λkv=>decide (kv.1=k'))=none:=by
    rw[jo];intro x hx hd;exact pY (bz.mpr ⟨x,hx,hd⟩)
   rw[this];simp
  ·have:¬k=k':=λz=>e z.symm;simp[this,e]
theorem a24(kvs:List (Key×D))(k:Key)(v:D):(putD kvs k v).length<=kvs.length+1:=by
 unfold putD;split<;>simp
theorem nA.put{kvs:List (Key×D)}{k:Key}{ms:List Int}(h:nA kvs)(h1:gm 0 ms=true)(h2:ms.length<=8):nA (putD kvs k (.tup (ms.map .int))):=λk' v hv=>by
 rw[WZ] at hv;split at hv
 ·cases hv;exact⟨ms,rfl,h1,h2⟩
 ·exact h k' v hv
theorem nA.get{kvs:List (Key×D)}(h:nA kvs)(k:Key):∃ms:List Int,(s9 kvs k).getD (.tup [])=.tup (ms.map .int)/\gm 0 ms=true/\ms.length<=8:=by
 cases e:s9 kvs k with
 |none=>exact⟨[],rfl,rfl,by simp⟩
 |some v=>obtain⟨ms,rfl,h1,h2⟩:=h k v e;exact⟨ms,rfl,h1,h2⟩
theorem Xt(p:Int->Bool):gm 0 (((List.range 8).map λ(n:Nat)=>(n:Int)).filter p)=true/\(((List.range 8).map λ(n:Nat)=>(n:Int)).filter p).length<=8:=by
 refine⟨Jx (List.Pairwise.filter _ (by decide)) λm hm=>?_,aD (bu _ _) (by decide)⟩;have:=(aT.mp hm).1;revert this;revert m;intro m _ hm;simp at hm;obtain⟨a,ha,rfl⟩:=hm;omega
theorem List.WV{α:Type}{l:List α}{i:Nat}{x:α}(h:l[i]?=some x):l.set i x=l:=by
 apply dy;intro j;by_cases e:i=j
 ·subst e;rw[aU (aj.mp h).1];exact h.symm
 ·rw[aw e]
section
variable{T:Nat->Option aV}{k d:Nat}{g:G}{Q:KD}{E:KX}
noncomputable def Gp:MS:=match F2.body with
 |.seq _ (.seq _ (.seq _ (.seq _ (.seq _ (.seq _ (.seq _ (.seq _ (.seq (.dI _ _ (.seq _ (.seq _ (.seq (.dI _ _ b) _)))) _))))))))=>b
 |x=>x
theorem Ti(h4:T 4=some E5){w0:Nat}{key wr:Int}{kvs:List (Key×D)}{Z:S}{N:Ends}(hw:g[w0]?=some (.dF kvs))(W:nA kvs)(hk:kvs.length<1000)(hr:0<wr)(rm:wr<1000)(hd:d<w0)(D0:j6 g d)(s0:Z[0]?=some (some (.ref d)))(s5:Z[5]?=some (some (.ref w0)))(s8:Z[8]?=some (some (.int wr)))(KN:Z[13]?=some (some (.int key)))(sl:Z.length=17)(h:∀z iz g',g'[w0]?=some (.dF iz)->nA iz->iz.length<=kvs.length+1->j6 g' d->(∀i,i≠d->i≠w0->i<g.length->g'[i]?=g[i]?)->g.length<=g'.length->N.nx (Z.set 14 z) g'):wpS (d4 T (k+1)) Gp N Z g E:=by
 obtain⟨kQ,NG⟩:∃z,Z[14]?=some z:=⟨_,ag (by omega)⟩
 dsimp[Gp,F2];refine vo (JO (JP (FT (AG (vn (w_var s0 (vn (w_var s8 (Ci ?_)))))))));refine i5 h4 D0 hr (by omega) λr g2 r0 r1 D2 G2=>?_;have dl:=D0.lt;walk_at"";refine if2 (λc=>?_) (λc=>?_)
 ·refine Cj (xf (AG (vn (w_var s0 (vn (w_lit (Ci ?_)))))));refine i5 h4 D2 (by decide) (by decide) λr3 g3 qZ tD D3 G3=>?_;have e3:=(G2.trans G3).at (by omega) hw;have t0:(Z.set 14 (some (.int r3)))[0]?=some (some (.ref d)):=by rw[aw (by decide)];exact s0
  have t5:(Z.set 14 (some (.int r3)))[5]?=some (some (.ref w0)):=by rw[aw (by decide)];exact s5
  have Dw:(Z.set 14 (some (.int r3)))[13]?=some (some (.int key)):=by rw[aw (by decide)];exact KN
  have KA:(Z.set 14 (some (.int r3)))[14]?=some (some (.int r3)):=aU (by omega);obtain⟨ms,em,_,_⟩:=W.get (.inl key);refine vo (Jd (FR ?_));refine Zb (b0 T _) (w_lit ⟨8,rfl,by decide,λi ys bN g'=>g'=g3/\ys.length<=i/\(∃z w,bN=[some (.int key),some (.int r3),some (.ref w0),z,w])/\ys=((((List.range i).map λ(n:Nat)=>(n:Int)).filter λs=>decide (s=r3)||ms.any λm=>m==s).map D.int),⟨rfl,by simp,⟨none,none,?_⟩,rfl⟩,λi ys Z g' p=>p.2.1,λi ys bN g' hi p=>?_,λys bN g' p=>?_⟩)
  ·simp[C6,Dw,KA,t5,List.replicate]
  ·obtain⟨rfl,hl,⟨z,w,rfl⟩,e⟩:=p;have er:(List.range (i+1)).map (λ(n:Nat)=>(n:Int))=(List.range i).map (λ(n:Nat)=>(n:Int))++[(i:Int)]:=by rw[dZ];simp
   have yes:(decide ((i:Int)=r3)||ms.any λm=>m==(i:Int))=true->aK (d4 T (k+1)) (.var 4) [some (.int key),some (.int r3),some (.ref w0),z,some (.int i)] g' (λy g4=>g4=g'/\(ys++[y]).length<=i+1/\(∃z' w',[some (.int key),some (.int r3),some (.ref w0),z,some (D.int i)]=[some (.int key),some (.int r3),some (.ref w0),z',w'])/\(ys++[y])=((((List.range (i+1)).map λ(n:Nat)=>(n:Int)).filter λs=>decide (s=r3)||ms.any λm=>m==s).map D.int)) iG:=λhc=>by
    walk_at"";refine⟨rfl,by simp;omega,⟨_,_,rfl⟩,?_⟩;rw[er,eE,cO,<- e];simp[hc]
   show cC _ _ _ _ _ _;walk_at"";refine if2 (λc1=>?_) (λc1=>?_)
   ·refine lO ?_;exact yes (by rw[az c1];rfl)
   ·walk_at"";refine BU e3 (k:=.inl key) rfl ?_;rw[em];walk_at"";refine CK (Bw ?_);walk_at"";cases hc:(ms.any λm=>m==(i:Int)) with
    |true =>
     refine lO ?_;exact yes (by rw[hc];simp)
    |false =>
     refine qD ?_;refine⟨rfl,by omega,⟨_,_,rfl⟩,?_⟩;rw[er,eE,cO,<- e];simp[hc,c1]
  ·obtain⟨rfl,hl,_,e⟩:=p;subst e;refine JN (a8 d0) ?_;obtain⟨f1,f2⟩:=Xt λs=>decide (s=r3)||ms.any λm=>m==s
   refine w_var t5 (w_var Dw ?_);refine JF (n5 e3) (k:=.inl key) rfl (by omega) ?_;refine h _ _ _ (get_set (n5 e3)) (W.put f1 f2) (a24 _ _ _) ((D3.snoc _).J1 hd) (λi h1 h2 h3=>?_) ?_
   ·rw[aw (bD h2),aG (ax h3 (G2.trans G3).len)];exact(G2.trans G3).old i h1 h3
   ·have:=(G2.trans G3).len;simp;omega
 ·refine Q5 ?_;have e2:=G2.at (by omega) hw;have:=h kQ kvs g2 e2 W (by omega) D2 (λi h1 h2 h3=>G2.old i h1 h3) G2.len
  rwa [List.WV NG] at this
end
section
variable{T:Nat->Option aV}{k d:Nat}{g:G}{Q:KD}{E:KX}
noncomputable def K1:MS:=match F2.body with
 |.seq _ (.seq _ (.seq _ (.seq _ (.seq _ (.seq _ (.seq _ (.seq _ (.seq (.dI _ _ b) _))))))))=>b
 |x=>x
structure iF(d s0 w0 f0 i:Nat)(g:G)(f y:Int):Prop where
 Dz:∃l,g[s0]?=some (.lst l)/\BL l f/\l.length<=i
 fr:1<=f/\f<=1+i
 Kp:∃kvs,g[w0]?=some (.dF kvs)/\nA kvs/\kvs.length<=2*i
 found:∃cs:List b8,g[f0]?=some (.lst (cs.map b8.d))/\cs.length=i/\∀c∈cs,fX c
 year:0<=y/\y<=9999
 dr:j6 g d
theorem Zu{s0 w0 f0 i n0:Nat}{n v f y st wr sh:Int}{vQ Ko Kn Km yn ym:Option D}(h4:T 4=some E5)(uD:T 23=some F3)(S:iF d s0 w0 f0 i g f y)(hi:i<=100)(hv:1<=v/\v<=100)(fz:1<=st/\st<=96)(og:0<wr/\wr<1000)(wq:0<=sh/\sh<=2)(o1:d<n0)(o2:n0<=s0)(o3:s0<w0)(o4:w0<f0){N:Ends}(h:∀f' y' sU mB kQ sT sR g',iF d s0 w0 f0 (i+1) g' f' y'->(∀j,j≠d->j<n0->g'[j]?=g[j]?)->g.length<=g'.length->N.nx [some (.ref d),some (.int n),some (.int v),some (.ref s0),some (.int f'),some (.ref w0),some (.int y'),some (.int st),some (.int wr),some (.int sh),some (.ref f0),vQ,sU,mB,kQ,sT,sR] g') :
  wpS (d4 T (k+2)) K1 N [some (.ref d),some (.int n),some (.int v),some (.ref s0),some (.int f),some (.ref w0),some (.int y),some (.int st),some (.int wr),some (.int sh),some (.ref f0),vQ,Ko,Kn,Km,yn,ym] g E:=by
 obtain⟨⟨l,es,hs,hl⟩,⟨f1,f2⟩,⟨kvs,ew,W,hk⟩,⟨cs,ef,hc,hg⟩,⟨y0,y1⟩,D0⟩:=S;have lf:=m5 ef;dsimp[K1,F2];walk_at"";refine Yc h4 uD es (by omega) hs f1 (by omega) D0 λl1 f' g1 dz zt Ee f3 f5 fW D1 mU Ln=>?_;have EX:g1[w0]?=some (.dF kvs):=(mU w0 (by omega) (by omega) (m5 ew)).trans ew;have Fe:g1[f0]?=some (.lst (cs.map b8.d)):=(mU f0 (by omega) (by omega) lf).trans ef;walk_at"";have Mg:0<l1.length:=Dm.mpr dz;refine i5 (n:=(l1.length:Int)) h4 D1 (by omega) (by omega) λr2 g2 wb wa D2 G2=>?_;have mq:=G2.at (by omega) fW;have EW:=G2.at (by omega) EX;have Fd:=G2.at (by omega) Fe;obtain⟨x,hx,hm⟩:=J6 (l:=l1) wb wa;obtain⟨ns,rfl,pP⟩:=id Ee;obtain⟨k1,Mj,rfl⟩:=aO.mp hm;refine v5 (a8 mq) hx ?_;walk_at"";refine i5 (n:=2+v) h4 D2 (by omega) (by omega) λr3 g3 qZ tD D3 G3=>?_;have Al:=G3.at (by omega) mq;have EV:=G3.at (by omega) EW;have Ao:=G3.at (by omega) Fd;walk_at"";have kb1:=pP k1 Mj;have tI:∀j,j≠d->j<n0->g3[j]?=g[j]?:=λj a b=>by
  have lj:j<g.length:=by omega
  rw[G3.old j a (by have:=G2.len;omega),G2.old j a (by omega),mU j a (by omega) lj]
 have Lm:g.length<=g3.length:=by have:=G2.len;have:=G3.len;omega
 refine A6 (b0 T _) (wk (b0 T _) ?_);walk_at"";refine ⟨_,rfl,_,λj Z g'=>∃ iz mB kQ,Z=[some (.ref d),some (.int n),some (.int v),some (.ref s0),some (.int f'),some (.ref w0),some (.int y),some (.int st),some (.int wr),some (.int sh),some (.ref f0),vQ,some (.tup [.int k1,.int (50 + r3)]),mB,kQ,yn,ym]/\g'[w0]?=some (.dF iz)/\nA iz/\iz.length <= 2 * i + j/\j6 g' d/\(∀ j,j ≠ d->j ≠ w0->j < g3.length->g'[j]?=g3[j]?)/\g3.length <= g'.length,
  λ_ _ _ _=>x8,⟨kvs,_,_,rfl,EV,W,by omega,D3,λ_ _ _ _=>rfl,av _⟩,λj x Z g' hx p=>?_,λZ g' p=>?_⟩
 ·obtain⟨iz,mB,kQ,rfl,Nw,W',nc,D',yK,Lo⟩:=p;have jz:∃key:Int,x=.int key/\j<2:=by
   match j,hx with
   |0,hx=>cases hx;exact⟨_,rfl,by decide⟩
   |1,hx=>cases hx;exact⟨_,rfl,by decide⟩
   |j+2,hx=>simp at hx
  obtain⟨key,rfl,hj⟩:=jz;show wpS _ _ _ _ _ _;refine Ti (k:=k+1) h4 Nw W' (by omega) og.1 og.2 (by omega) D' rfl rfl rfl rfl rfl λz yS g2' e2 W2 hk2 D2' pH yR=>?_;exact⟨yS,_,_,rfl,e2,W2,by omega,D2',λj a b c=>(pH j a b (by omega)).trans (yK j a b c),by omega⟩
 obtain⟨tT,mB,kQ,rfl,Nv,W4,zu,D4,mT,Ll⟩:=p;have Nz:g'[s0]?=some (.lst (ns.map D.int)):=(mT s0 (by omega) (by omega) (m5 Al)).trans Al;have NB:g'[f0]?=some (.lst (cs.map b8.d)):=(mT f0 (by omega) (by omega) (m5 Ao)).trans Ao;have tH:∀j,j≠d->j<n0->g'[j]?=g[j]?:=λj a b=>(mT j a (by omega) (by omega)).trans (tI j a b);clear mT tI G2 G3 fW EX Fe mq EW Fd Al EV Ao mU;have zu:tT.length<=2*(i+1):=by simp at zu;omega
 show wpS _ _ _ _ _ _;walk_at"";refine i5 h4 D4 (by decide) (by decide) λr5 g5 yE yD D5 G5=>?_;walk_at"";have tail:∀(y':Int) (g6:G),0<=y'->y'<=9999->j6 g6 d->Gr d g' g6->wpS (d4 T (k+2)) (j4 (j4 (j4 (j4 K1)))) N [some (.ref d),some (.int n),some (.int v),some (.ref s0),some (.int f'),some (.ref w0),some (.int y'),some (.int st),some (.int wr),some (.int sh),some (.ref f0),vQ,some (.tup [.int k1,.int (50+r3)]),mB,kQ,yn,ym] g6 E:=by
  intro y' g6 Kl Kk D6 G6;have Ny:=G6.at (by omega) Nz;have Nu:=G6.at (by omega) Nv;have wH:=G6.at (by omega) NB;dsimp[K1,F2,j4];walk_at"";refine Zc (b0 T _) ?_;walk_at"";refine⟨_,rfl,by simp,λj ys Z g7=>g7=g6/\(∃z w,Z=[some (.int sh),some (.int st),z,w])/\ys=([k1,50+r3].take j).map (λkey=>D.int (1+sh+key*st % 97)),⟨rfl,⟨none,none,rfl⟩,rfl⟩,λj ys Z g7 p=>?_,λj x ys Z g7 hx p=>?_,λys Z g7 p=>?_⟩
  ·obtain⟨rfl,_,rfl⟩:=p;simp;omega
  ·obtain⟨rfl,⟨z,w,rfl⟩,rfl⟩:=p;have jz:∃key:Int,x=.int key/\([k1,50+r3].take j).map (λkey=>D.int (1+sh+key*st % 97))++[D.int (1+sh+key*st % 97)]=([k1,50+r3].take (j+1)).map (λkey=>D.int (1+sh+key*st % 97)):=by
    match j,hx with
    |0,hx=>cases hx;exact⟨_,rfl,rfl⟩
    |1,hx=>cases hx;exact⟨_,rfl,rfl⟩
    |j+2,hx=>simp at hx
   obtain⟨key,rfl,he⟩:=jz;show cC _ _ _ _ _ _;walk_at"";refine N4 (X9 (by omega) (by omega)) ?_;walk_at"";exact⟨rfl,⟨_,_,rfl⟩,he⟩
  obtain⟨rfl,_,rfl⟩:=p;have eN:(g7++[O.lst [D.int (1+sh+k1*st % 97),D.int (1+sh+(50+r3)*st % 97)]])[g7.length]?=some (.lst [D.int (1+sh+k1*st % 97),D.int (1+sh+(50+r3)*st % 97)]):=d0;show wpS _ _ _ _ (g7++[O.lst [D.int (1+sh+k1*st % 97),D.int (1+sh+(50+r3)*st % 97)]]) _;walk_at"";refine i5 h4 (D6.snoc _) (by decide) (by decide) λr8 g8 r80 r81 D8 G8=>?_;have l7:=D6.lt;have eN8:=G8.at (by omega) eN;have Nx:=G8.at (by omega) (n5 Ny);have Ak:=G8.at (by omega) (n5 Nu);have Fc:=G8.at (by omega) (n5 wH);walk_at"";refine N4 (xi (by omega) (by omega)) ?_;walk_at"";obtain⟨lm,el,gl,ll⟩:=W4.get (.inl k1);obtain⟨um,eu,gu,lu⟩:=W4.get (.inl (50+r3));refine BU Ak (k:=.inl k1) rfl ?_;rw[el];walk_at"";refine BU Ak (k:=.inl (50+r3)) rfl ?_;rw[eu];walk_at"";refine U3 Fc (by simp;omega) ?_;generalize mX:y'*(if decide (0<r8)=true then 1 else 0)=ty;have Dt:0<=ty/\ty<=9999:=by
   rw[<- mX];split<;>simp<;>omega
  walk_at"";refine h f' y' _ _ _ _ _ _ ⟨⟨_,i0 Nx (by omega),Ee,by omega⟩,⟨by omega,by omega⟩,⟨tT,i0 Ak (by omega),W4,zu⟩,⟨cs++[⟨1+sh+k1*st % 97,lm,1+sh+(50+r3)*st % 97,um,ty⟩],?_,by simp[hc],?_⟩,⟨Kl,Kk⟩,D8.J1 (by omega)⟩ (λj a b=>?_) ?_
  ·rw[get_set Fc];simp[b8.d]
  ·intro c jc;rcases bj.mp jc with z|z
   ·exact hg c z
   ·simp at z;subst z;have m1:=ei (k1*st) (show(97:Int)≠0 by decide);have m2:=dj (k1*st) (show(0:Int)<97 by decide);have m3:=ei ((50+r3)*st) (show(97:Int)≠0 by decide);have m4:=dj ((50+r3)*st) (show(0:Int)<97 by decide);exact fX.mk' (by omega) (by omega) (by omega) (by omega) Dt.1 Dt.2 gl gu ll lu
  ·have lj:j<g'.length:=by omega
   rw[aw (by omega),G8.old j a (by have:=G6.len;simp;omega),aG (by have:=G6.len;omega),G6.old j a lj];exact tH j a b
  ·have:=G6.len;have:=G8.len;simp at this ⊢;omega
 refine if2 (λc=>?_) (λc=>?_)
 ·walk_at"";refine i5 h4 D5 (by decide) (by decide) λr6 g6 DH DG D6 G6=>?_;walk_at"";generalize yW:(if y+1+r6<9999 then y+1+r6 else 9999)=y';have:0<=y'/\y'<=9999:=by rw[<- yW];split<;>omega
  exact tail y' g6 this.1 this.2 D6 (G5.trans G6)
 ·refine Q5 ?_;exact tail y g5 y0 y1 D5 G5
theorem Yf(h4:T 4=some E5)(uD:T 23=some F3)(Nb:T 24=some F2){n v:Int}(hn:0<=n/\n<=100)(hv:1<=v/\v<=100)(D0:j6 g d)(h:∀(cs:List b8) a g',(cs.length:Int)=n->(∀c∈cs,fX c)->g'[a]?=some (.lst (cs.map b8.d))->g.length<=a->j6 g' d->Gr d g g'->Q (.ref a) g'):d4 T (k+3) 24 [.ref d,.int n,.int v] g Q E:=by
 refine call_of Nb rfl ?_;dsimp[F2,d8,List.replicate];have dl:=D0.lt;walk_at"";have D1:j6 (g++[O.lst []]++[O.dF []]++[O.lst [.int 0,.int 1,.int 1350]]) d:=((D0.snoc _).snoc _).snoc _;have G1:Gr d g (g++[O.lst []]++[O.dF []]++[O.lst [.int 0,.int 1,.int 1350]]):=((Gr.snoc _ _ _).trans (Gr.snoc _ _ _)).trans (Gr.snoc _ _ _);have e0:(g++[O.lst []]++[O.dF []]++[O.lst [.int 0,.int 1,.int 1350]])[g.length]?=some (.lst []):=n5 (n5 d0);have e1:(g++[O.lst []]++[O.dF []]++[O.lst [.int 0,.int 1,.int 1350]])[(g++[O.lst []]).length]?=some (.dF []):=n5 d0;have e2:(g++[O.lst []]++[O.dF []]++[O.lst [.int 0,.int 1,.int 1350]])[(g++[O.lst []]++[O.dF []]).length]?=some (.lst [.int 0,.int 1,.int 1350]):=d0;have n1:(g++[O.lst []]).length=g.length+1:=by simp
 have n2:(g++[O.lst []]++[O.dF []]).length=g.length+2:=by simp
 rw[n1] at e1 ⊢;rw[n2] at e2 ⊢;generalize g++[O.lst []]++[O.dF []]++[O.lst [.int 0,.int 1,.int 1350]]=g1 at *;refine i5 h4 D1 (by decide) (by decide) λr2 g2 wb wa D2 G2=>?_;have NJ:=G2.at (by omega) e0;have qq:=G2.at (by omega) e1;have ND:=G2.at (by omega) e2;obtain⟨x,hx,hm⟩:=J6 (l:=[D.int 0,.int 1,.int 1350]) wb (by simpa using wa);have hy:∃y:Int,x=.int y/\0<=y/\y<=9999:=by
  simp only[List.mem_cons,List.mem_nil_iff,or_false] at hm;rcases hm with rfl|rfl|rfl<;>exact⟨_,rfl,by decide,by decide⟩
 obtain⟨y,rfl,y0,y1⟩:=hy;refine v5 (a8 ND) hx ?_;walk_at"";refine i5 h4 D2 (by decide) (by decide) λr3 g3 qZ tD D3 G3=>?_;walk_at"";refine i5 h4 D3 (by decide) (by decide) λr4 g4 vZ yF D4 G4=>?_;walk_at"";refine i5 h4 D4 (by decide) (by decide) λr5 g5 yE yD D5 G5=>?_;have xZ:=G3.trans (G4.trans G5);have NI:=xZ.at (by omega) NJ;have rO:=xZ.at (by omega) qq;have l5:=(G1.trans (G2.trans xZ)).len;have lw:=m5 rO;walk_at"";generalize wq:(if r5-6>0 then r5-6 else 0)=sh;have KJ:0<=sh/\sh<=2:=by rw[<- wq];split<;>omega
 have wI:(g5++[O.lst []])[g5.length]?=some (.lst []):=d0;refine A6 (b0 T _) (oJ (b0 T _) ?_);walk_at"";refine ⟨by omega,by omega,k8 0 n.toNat,λi Z g'=>∃ f' y' yg sU mB kQ sT sR,Z=[some (.ref d),some (.int n),some (.int v),some (.ref g.length),some (.int f'),some (.ref (g.length + 1)),some (.int y'),some (.int (1 + r3)),some (.int (2 + r4)),some (.int sh),some (.ref g5.length),yg,sU,mB,kQ,sT,sR]/\iF d g.length (g.length + 1) g5.length i g' f' y'/\Gr d g g',
  λ_ _ _ _=>x8,⟨1,y,none,none,none,none,none,none,rfl,⟨⟨[],n5 NI,⟨[],rfl,by simp⟩,by simp⟩,⟨by omega,by omega⟩,⟨[],n5 rO,(λk v hv=>by cases hv),by simp⟩,⟨[],wI,rfl,by simp⟩,⟨y0,y1⟩,D5.snoc _⟩,(G1.trans (G2.trans xZ)).trans (Gr.snoc _ _ _)⟩,λi x Z g' hx p=>?_,λZ g' p=>?_⟩
 ·obtain⟨f',y',yg,sU,mB,kQ,sT,sR,rfl,S,G'⟩:=p;obtain⟨hi,rfl⟩:=E2 hx;show wpS _ K1 _ _ _ _;refine Zu (n0:=g.length) h4 uD S (by omega) hv ⟨by omega,by omega⟩ ⟨by omega,by omega⟩ KJ dl (av _) (by omega) (by omega) λf2 y2 a b c e f g2 S2 pH yR=>?_;exact⟨f2,y2,_,_,_,_,_,_,rfl,S2,⟨by have:=G'.len;omega,λj h1 h2=>(pH j h1 h2).trans (G'.old j h1 h2)⟩⟩
 ·obtain⟨f',y',yg,sU,mB,kQ,sT,sR,rfl,S,G'⟩:=p;show wpS _ _ _ _ _ _;walk_at"";obtain⟨cs,ef,hc,hg⟩:=S.found;rw[n4] at hc;exact h cs _ _ (by omega) hg ef (by omega) S.dr G'
end
noncomputable def xB:aV:=⟨2,8,(.seq (.set 2 (cu .jy (bg 1) (cu (.bin .Add) (cu (.bin .Add) (cu (.bin .FloorDiv) bh (bg 2)) (cu (.bin .Mod) bh (bg 2))) (bg 1)))) (.seq (.set 3 (cu (.bin .Add) bo (cu (.lG false true) (.call 21 (dg aL bo)) (cu (.bin .FloorDiv) bh (bg 2))))) (.seq (.set 4 (.call 4 (dg aL (bg 3)))) (.seq (.set 5 (.prim .lst .nil)) (.seq (.dI (.one 6) (.eY bh) (.seq (.set 7 (cY (.prim .lst (fR (cu (.bin .Add) (bg 1000) eW) (bg 0) (cu (.bin .Add) (bg 1) (cu (.bin .FloorDiv) (cu (.bin .Mult) (bg 2) eW) (cu .max (bg 1) bh))))) cM)) (.seq (.expr (.eF .append eX (eK (.prim .tup (sV (cY bS eW) (.prim .tup .nil) (cu (.bin .Add) (bg 1) (.call 4 (dg aL (bg 9)))) (.prim .tup .nil) gk))))) .pass))) (.seq (.ret eX) .pass))))))⟩
noncomputable def P0:aV:=⟨2,9,(.seq (.set 2 (.call 4 (dg aL (cu (.bin .Add) bh (bg 1))))) (.seq (.set 3 (cu (.bin .Add) (bg 1) (.call 4 (dg aL (bg 3))))) (.seq (.set 4 (.call 4 (dg aL (bg 5)))) (.seq (.ifs (eJ .Eq cM (bg 0)) (.seq (.ret (cu .tup (.comp [0] 3 (.one 2) (.eY bo) .no (.call 22 (eK aL))) bS)) .pass) .pass) (.seq (.ifs (eJ .Eq cM (bg 4)) (.seq (.set 3 (cu (.bin .Add) (bg 1) (.call 4 (dg aL (bg 6))))) .pass) .pass) (.seq (.set 5 (.ite (eJ .Eq cM (bg 4)) (.call 25 (dg aL bo)) (.call 24 (fR aL bo bS)))) (.seq (.set 5 (.comp [5] 3 (.one 2) (.fj (.call 21 (dg aL (dY .iT bo)))) .no (cY aL bo))) (.seq (.ifs (.dQ (eJ .Eq cM (bg 1)) (eJ .Gt bo (bg 0))) (.seq (.set 6 (.call 4 (dg aL bo))) (.seq (.set 7 (cY eX eW)) (.seq (.set 8 (cY eX (.call 4 (dg aL bo)))) (.seq (.dP eX eW (.prim .tup (sV (cY gk (bg 0)) (cY lL (bg 1)) (cY lL (bg 2)) (cY gk (bg 3)) (cY (.prim .lst (fR (cY gk (bg 4)) (cY lL (bg 4)) (bg 9999))) (.call 4 (dg aL (bg 3))))))) .pass)))) .pass) (.seq (.ifs (eJ .Eq cM (bg 2)) (.seq (.set 3 (bg 1)) .pass) .pass) (.seq (.ret (cu .tup eX bS)) .pass))))))))))⟩
theorem IF{p:Int->Prop}:∀{l:List D},(∀x∈l,∃i:Int,x=.int i/\p i)->∃ns:List Int,l=ns.map .int/\∀i∈ns,p i
 |[],_=>⟨[],rfl,by simp⟩
 |x::r,h=>by
  obtain⟨i,rfl,hi⟩:=h x (by simp);obtain⟨ns,rfl,hn⟩:=IF (l:=r) λy hy=>h y (by simp[hy]);exact⟨i::ns,rfl,λj hj=>(aE.mp hj).elim (λz=>z▸hi) (hn j)⟩
theorem IW{lo:Int}{n:Nat}{x:D}(h:x∈k8 lo n):∃i:Int,x=.int i/\lo<=i/\i<lo+n:=by
 unfold k8 at h;obtain⟨k,hk,rfl⟩:=aO.mp h;exact⟨_,rfl,by omega,by have:=aI.mp hk;omega⟩
theorem HV{α:Type}{l:List α}{n:Nat}(h:n<=l.length):cut l none (some (n:Int))=l.take n:=by
 have:¬((n:Int)<0):=by omega
 unfold cut HT.dn;simp[this]
theorem Ro{ns:List Int}{r:Int}(h0:0<=r)(h1:r<ns.length):∃i∈ns,gz (ns.map D.int) r=some (.int i):=by
 obtain⟨v,hv,hm⟩:=J6 (l:=ns.map D.int) h0 (by simpa using h1);obtain⟨i,hi,rfl⟩:=aO.mp hm;exact⟨i,hi,hv⟩
theorem Bh{cs:List b8}{r:Int}(h0:0<=r)(h1:r<cs.length):∃c∈cs,gz (cs.map b8.d) r=some c.d:=by
 obtain⟨v,hv,hm⟩:=J6 (l:=cs.map b8.d) h0 (by simpa using h1);obtain⟨i,hi,rfl⟩:=aO.mp hm;exact⟨i,hi,hv⟩
section
variable{T:Nat->Option aV}{k d:Nat}{g:G}{Q:KD}{E:KX}
theorem XM(h4:T 4=some E5)(zU:T 21=some R7)(Na:T 25=some xB){n:Int}(hn:0<=n/\n<=100)(D0:j6 g d)(h:∀(cs:List b8) a g',(cs.length:Int)=n->(∀c∈cs,fX c)->g'[a]?=some (.lst (cs.map b8.d))->g.length<=a->j6 g' d->Gr d g g'->Q (.ref a) g'):d4 T (k+3) 25 [.ref d,.int n] g Q E:=by
 refine call_of Na rfl ?_;dsimp[xB,d8,List.replicate];have dl:=D0.lt;walk_at"";refine Lj (i:=1) (j:=n / 2+n % 2+1) (by omega) ?_;walk_at"";have hh:∃hf:Nat,(n / 2+n % 2+1-1).toNat=hf/\(hf:Int)=n / 2+n % 2/\hf<=50:=⟨_,rfl,by omega,by omega⟩
 obtain⟨hf,Mp,hh2,hh3⟩:=hh;rw[Mp];have e1:(g++[O.lst (k8 1 hf)])[g.length]?=some (.lst (k8 1 hf)):=d0;refine HB h4 zU e1 (by rw[n4];omega) (by omega) (D0.snoc _) λl' b g2 hp e2 hb D2 G2=>?_;have qq:=G2.at (by omega) e1;walk_at"";refine AA (a8 e2) ?_;have hle:l'.length=hf:=by rw[hp.length_eq,n4]
 have hc:cut l' none (some (n / 2))=l'.take (n / 2).toNat:=by
  have:=HV (l:=l') (n:=(n / 2).toNat) (by omega)
  rwa [show(((n / 2).toNat:Nat):Int)=n / 2 by omega] at this
 rw[hc];refine Vg (n5 qq) d0 (by rw[n4,dc];omega) ?_;obtain⟨rl,er,hr⟩:=IF (p:=λi=>1<=i/\i<=50) (l:=k8 1 hf++l'.take (n / 2).toNat) λx hx=>by
  have nZ:x∈k8 1 hf:=by
   rcases bj.mp hx with z|z
   ·exact z
   ·exact hp.mem_iff.mp (List.mem_of_mem_take z)
  obtain⟨i,rfl,h1,h2⟩:=IW nZ;exact⟨i,rfl,h1,by omega⟩
 have LJ:(rl.length:Int)=n:=by
  have:=gH List.length er;rw[bc,n4,dc,ah] at this;omega
 rw[er];have D3:=(D2.snoc (.lst (l'.take (n / 2).toNat))).snoc (.lst (rl.map D.int));have G3:=(Gr.snoc d g (.lst (k8 1 hf))).trans (G2.trans ((Gr.snoc d g2 (.lst (l'.take (n / 2).toNat))).trans (Gr.snoc d _ (.lst (rl.map D.int)))));have e3:(g2++[O.lst (l'.take (n / 2).toNat)]++[O.lst (rl.map D.int)])[(g2++[O.lst (l'.take (n / 2).toNat)]).length]?=some (.lst (rl.map D.int)):=d0;have l3:g.length+1<=(g2++[O.lst (l'.take (n / 2).toNat)]).length:=by have:=G2.len;simp at this ⊢;omega
 generalize (g2++[O.lst (l'.take (n / 2).toNat)]).length=DB at *;generalize g2++[O.lst (l'.take (n / 2).toNat)]++[O.lst (rl.map D.int)]=g3 at *;walk_at"";refine i5 h4 D3 (by decide) (by decide) λr4 g4 vZ yF D4 G4=>?_;have e4:=G4.at (by omega) e3;walk_at"";have JV:=G3.trans G4;have l4:=JV.len;have e5:(g4++[O.lst []])[g4.length]?=some (.lst ([].map b8.d)):=d0;have lr4:=m5 e4;refine A6 (b0 T _) (oJ (b0 T _) ?_);walk_at"";refine ⟨by omega,by omega,k8 0 n.toNat,λi Z g'=>∃ cs z6 z7,Z=[some (.ref d),some (.int n),some (.ref g.length),some (.ref DB),some (.int r4),some (.ref g4.length),z6,z7]/\cs.length=i/\(∀ c ∈ cs,fX c)/\g'[g4.length]?=some (.lst (cs.map b8.d))/\g'[DB]?=some (.lst (rl.map D.int))/\j6 g' d/\Gr d g g',
  λ_ _ _ _=>x8,⟨[],none,none,rfl,rfl,by simp,e5,n5 e4,D4.snoc _,JV.trans (Gr.snoc _ _ _)⟩,λi x Z g' hx p=>?_,λZ g' p=>?_⟩
 ·obtain⟨cs,z6,z7,rfl,hc,hg,ef,erw,D',G'⟩:=p;obtain⟨hi,rfl⟩:=E2 hx;show wpS _ _ _ _ _ _;walk_at"";refine N4 (xi (by decide) (by decide)) ?_;walk_at"";refine wN ⟨by split<;>omega,by split<;>omega⟩ ?_;walk_at"";obtain⟨yv,hy,DZ⟩:∃yv:Int,gz [D.int (1000+(0+(i:Int))),D.int 0,D.int (1+2*(0+(i:Int)) / (if n>1 then n else 1))] r4=some (.int yv)/\0<=yv/\yv<=9999:=by
   have dv0:0<=2*(0+(i:Int)) / (if n>1 then n else 1):=Int.ediv_nonneg (by omega) (by split<;>omega);have dv1:2*(0+(i:Int)) / (if n>1 then n else 1)<=2*(0+(i:Int)):=Int.ediv_le_self _ (by omega);have:r4=0\/r4=1\/r4=2:=by omega
   rcases this with rfl|rfl|rfl
   ·exact⟨_,rfl,by omega,by omega⟩
   ·exact⟨_,rfl,by omega,by omega⟩
   ·exact⟨_,rfl,by omega,by omega⟩
  refine v5 (a8 d0) hy ?_;walk_at"";obtain⟨lo,Ek,zp⟩:=Ro (ns:=rl) (r:=0+(i:Int)) (by omega) (by omega);have lf:=m5 ef;refine And.intro (vj (n5 ef)) ?_;walk_at"";refine v5 (a8 (n5 erw)) zp ?_;walk_at"";refine i5 h4 (D'.snoc _) (by decide) (by decide) λr6 g6 DH DG D6 G6=>?_;have wH:=G6.at (by omega) (n5 ef);have NA:=G6.at (by omega) (n5 erw);walk_at"";refine U3 wH (by simp;omega) ?_;walk_at"";have hlb:=hr lo Ek;refine⟨cs++[⟨lo,[],1+r6,[],yv⟩],_,_,rfl,by simp[hc],?_,?_,i0 NA (by omega),D6.J1 (by omega),(G'.trans ((Gr.snoc _ _ _).trans G6)).J1 (by omega)⟩
  ·intro c jc;rcases bj.mp jc with z|z
   ·exact hg c z
   ·simp at z;subst z;exact fX.mk' (by omega) (by omega) (by omega) (by omega) DZ.1 DZ.2 rfl rfl (by simp) (by simp)
  ·rw[get_set wH];simp[b8.d]
 ·obtain⟨cs,z6,z7,rfl,hc,hg,ef,erw,D',G'⟩:=p;show wpS _ _ _ _ _ _;walk_at"";rw[n4] at hc;exact h cs _ _ (by omega) hg ef (by omega) D' G'
end
section
variable{T:Nat->Option aV}{k d:Nat}{g:G}{Q:KD}{E:KX}
structure LF(T:Nat->Option aV):Prop where
 pull:T 4=some E5
 order:T 21=some R7
 any:T 22=some xO
 pC:T 23=some F3
 pA:T 24=some F2
 opened:T 25=some xB
 list:T 26=some P0
theorem YA(hT:LF T){n:Int}(hn:0<=n/\n<=99)(D0:j6 g d)(h:∀(cs:List b8) a (v:Int) g',(cs.length:Int)<=n->(∀c∈cs,fX c)->g'[a]?=some (.lst (cs.map b8.d))->g.length<=a->1<=v->v<=6->j6 g' d->Gr d g g'->Q (.tup [.ref a,.int v]) g'):d4 T (k+4) 26 [.ref d,.int n] g Q E:=by
 refine call_of hT.list rfl ?_;dsimp[P0,d8,List.replicate];have dl:=D0.lt;walk_at"";refine i5 (n:=n+1) hT.pull D0 (by omega) (by omega) λm g1 m0 m1 D1 G1=>?_;walk_at"";refine i5 hT.pull D1 (by decide) (by decide) λr2 g2 wb wa D2 G2=>?_;walk_at"";refine i5 hT.pull D2 (by decide) (by decide) λway g3 w0 w1 D3 G3=>?_;have ya:=G1.trans (G2.trans G3);have l3:=ya.len;walk_at"";refine if2 (λc=>?_) (λc=>?_)
 ·walk_at"";refine H9 (b0 T _) (oJ (b0 T _) ?_);walk_at"";refine⟨by omega,by omega,k8 0 m.toNat,λi ys Z g'=>∃cs z1 z2,ys=cs.map b8.d/\cs.length=i/\(∀c∈cs,fX c)/\Z=[some (.ref d),z1,z2]/\j6 g' d/\Gr d g g',by rw[n4];omega,λi ys Z g' p=>⟨x8,?_⟩,⟨[],none,none,rfl,rfl,by simp,rfl,D3,ya⟩,λi x ys Z g' hx p=>?_,λys Z g' p=>?_⟩
  ·obtain⟨cs,z1,z2,rfl,hc,_⟩:=p;simp[hc]
  ·obtain⟨cs,z1,z2,rfl,hc,hg,rfl,D',G'⟩:=p;show cC _ _ _ _ _ _;walk_at"";refine Zd hT.pull hT.any D' λc0 g4 gc D4 G4=>?_;refine⟨cs++[c0],_,_,by simp,by simp[hc],λc1 pV=>?_,rfl,D4,G'.trans G4⟩;rcases bj.mp pV with z|z
   ·exact hg c1 z
   ·simp at z;subst z;exact gc
  ·obtain⟨cs,z1,z2,rfl,hc,hg,rfl,D',G'⟩:=p;rw[n4] at hc;walk_at"";exact h cs _ _ _ (by omega) hg d0 G'.len (by omega) (by omega) (D'.snoc _) (G'.trans (Gr.snoc _ _ _))
 have tail:∀(v:Int) (g4:G),1<=v->v<=6->j6 g4 d->Gr d g g4->wpS (d4 T (k+3)) (j4 (j4 (j4 (j4 (j4 P0.body))))) ⟨λ_ g'=>Q .bO g',Q,λ_ _=>False,λ_ _=>False⟩ [some (.ref d),some (.int n),some (.int m),some (.int v),some (.int way),none,none,none,none] g4 E:=by
  intro v g4 v0 v1 D4 G4;dsimp[P0,j4];have after:∀(cs:List b8) a g5,(cs.length:Int)=m->(∀c∈cs,fX c)->g5[a]?=some (.lst (cs.map b8.d))->g4.length<=a->j6 g5 d->Gr d g4 g5->wpS (d4 T (k+3)) (j4 (j4 (j4 (j4 (j4 (j4 P0.body)))))) ⟨λ_ g'=>Q .bO g',Q,λ_ _=>False,λ_ _=>False⟩ [some (.ref d),some (.int n),some (.int m),some (.int v),some (.int way),some (.ref a),none,none,none] g5 E:=by
   intro cs a g5 hc hg ea la D5 G5;have JU:=G4.trans G5;have l4:=G4.len;dsimp[P0,j4];walk_at"";refine H9 (b0 T _) (kD (b0 T _) ?_);walk_at"";refine DU (by omega) (by omega) ?_;walk_at"";have e6:(g5++[O.lst (k8 0 m.toNat)])[g5.length]?=some (.lst (k8 0 m.toNat)):=d0;have l5:=D5.lt;refine HB hT.pull hT.order e6 (by rw[n4];omega) (by omega) (D5.snoc _) λl' b g7 hp eb lb D7 G7=>?_;have NC:=G7.at (by omega) (n5 ea);have El:l'.length=m.toNat:=by rw[hp.length_eq,n4]
   refine⟨b,l',rfl,a8 eb,l',λi ys Z g'=>∃eQ z1 z2,ys=eQ.map b8.d/\eQ.length=i/\(∀c∈eQ,fX c)/\Z=[some (.ref a),z1,z2]/\g'=g7,by omega,λi ys Z g' p=>?_,⟨[],none,none,rfl,rfl,by simp,rfl,rfl⟩,λi x ys Z g' hx p=>?_,λys Z g' p=>?_⟩
   ·obtain⟨eQ,z1,z2,rfl,jc,_,_,rfl⟩:=p;exact⟨q8 (a8 eb),by simp[jc]⟩
   ·obtain⟨eQ,z1,z2,rfl,jc,ng,rfl,rfl⟩:=p;obtain⟨j,rfl,j0,j1⟩:=IW (hp.mem_iff.mp (aP hx));show cC _ _ _ _ _ _;walk_at"";obtain⟨c0,pW,e0⟩:=Bh (cs:=cs) j0 (by omega);refine v5 (a8 NC) e0 ?_;refine⟨eQ++[c0],_,_,by simp,by simp[jc],λc1 pV=>?_,rfl,rfl⟩;rcases bj.mp pV with z|z
    ·exact ng c1 z
    ·simp at z;subst z;exact hg c1 pW
   ·obtain⟨eQ,z1,z2,rfl,jc,ng,rfl,rfl⟩:=p;have e8:(g'++[O.lst (eQ.map b8.d)])[g'.length]?=some (.lst (eQ.map b8.d)):=d0;have D8:=D7.snoc (.lst (eQ.map b8.d));have G8:=(JU.trans ((Gr.snoc d g5 (.lst (k8 0 m.toNat))).trans G7)).trans (Gr.snoc d g' (.lst (eQ.map b8.d)));have l8:g.length<=g'.length:=(JU.trans ((Gr.snoc d g5 (.lst (k8 0 m.toNat))).trans G7)).len;have fin:∀(rQ:List b8) z6 z7 z8 g9,(rQ.length:Int)=m->(∀c∈rQ,fX c)->g9[g'.length]?=some (.lst (rQ.map b8.d))->j6 g9 d->Gr d g g9->wpS (d4 T (k+3)) (j4 (j4 (j4 (j4 (j4 (j4 (j4 (j4 P0.body)))))))) ⟨λ_ g'=>Q .bO g',Q,λ_ _=>False,λ_ _=>False⟩ [some (.ref d),some (.int n),some (.int m),some (.int v),some (.int way),some (.ref g'.length),z6,z7,z8] g9 E:=by
     intro rQ z6 z7 z8 g9 mf Er e9 D9 G9;dsimp[P0,j4];walk_at"";refine if2 (λc=>?_) (λc=>?_)
     ·walk_at"";exact h rQ _ _ _ (by omega) Er e9 l8 (by omega) (by omega) D9 G9
     ·walk_at"";exact h rQ _ _ _ (by omega) Er e9 l8 v0 v1 D9 G9
    show wpS _ _ _ _ (g'++[O.lst (eQ.map b8.d)]) _;have rq:(eQ.length:Int)=m:=by omega
    have l7':=D7.lt;generalize hg8:g'++[O.lst (eQ.map b8.d)]=g8 at *;walk_at"";refine if2 (λc1=>?_) (λc1=>?_)
    ·walk_at"";refine if2 (λc2=>?_) (λc2=>?_)
     ·walk_at"";refine i5 (n:=m) hT.pull D8 c2 (by omega) λr g9 r0 r1 D9 G9=>?_;have e9:=G9.at (by omega) e8;obtain⟨c0,pW,e0⟩:=Bh (cs:=eQ) r0 (by omega);walk_at"";refine v5 (a8 e9) e0 ?_;walk_at"";refine i5 (n:=m) hT.pull D9 c2 (by omega) λr' ES KS r1' JW JT=>?_;have rP:=JT.at (by omega) e9;obtain⟨c3,wx,e3⟩:=Bh (cs:=eQ) KS (by omega);refine v5 (a8 rP) e3 ?_;dsimp only[b8.d];walk_at"";refine i5 hT.pull (JW.snoc _) (by decide) (by decide) λr'' Nr yH yG Dh De=>?_;have l10:=JW.lt;have wJ:=De.at (by omega) (d0 (g:=ES) (o:=.lst [.int c0.yr,.int c3.yr,.int 9999]));have uO:=De.at (by omega) (n5 (o':=.lst [.int c0.yr,.int c3.yr,.int 9999]) rP);obtain⟨x,hx,hm⟩:=J6 (l:=[D.int c0.yr,.int c3.yr,.int 9999]) yH (by simpa using yG);obtain⟨a1,a2,a3,a4,a5,a6⟩:=(ng c0 pW).inv;obtain⟨b1,b2,b3,b4,b5,b6⟩:=(ng c3 wx).inv;have hy:∃y:Int,x=.int y/\0<=y/\y<=9999:=by
       simp only[List.mem_cons,List.mem_nil_iff,or_false] at hm;rcases hm with rfl|rfl|rfl
       ·exact⟨_,rfl,a5,a6⟩
       ·exact⟨_,rfl,b5,b6⟩
       ·exact⟨_,rfl,by decide,by decide⟩
      obtain⟨y,rfl,y0,y1⟩:=hy;refine v5 (a8 wJ) hx ?_;walk_at"";have hj:ke (eQ.map b8.d).length r=some r.toNat:=by
       unfold ke;rw[aH r0,aH (by rw[ah];omega)]
      refine T7 uO hj ?_;have gr:fX ⟨c0.lo,c3.lm,c3.up,c0.um,y⟩:=fX.mk' a1.1 a1.2 b3.1 b3.2 y0 y1 b2 a4 (ng c3 wx).l8 (ng c0 pW).u8;refine fin (eQ.set r.toNat ⟨c0.lo,c3.lm,c3.up,c0.um,y⟩) _ _ _ _ (by simp;omega) (λc4 MB=>?_) ?_ (Dh.J1 (by omega)) ((G8.trans (G9.trans (JT.trans ((Gr.snoc _ _ _).trans De)))).J1 l8)
      ·rcases nJ MB with z|z
       ·exact ng c4 z
       ·rw[z];exact gr
      ·rw[get_set uO,List.map_set]
       rfl
     ·refine Q5 ?_;exact fin eQ _ _ _ _ rq ng e8 D8 G8
    ·exact fin eQ _ _ _ _ rq ng e8 D8 G8
  walk_at"";refine if2 (λc=>?_) (λc=>?_)
  ·walk_at"";refine XM hT.pull hT.order hT.opened ⟨m0,by omega⟩ D4 λcs a g5 hc hg ea la D5 G5=>?_;exact after cs a g5 hc hg ea la D5 G5
  ·walk_at"";refine Yf hT.pull hT.pC hT.pA ⟨m0,by omega⟩ ⟨v0,by omega⟩ D4 λcs a g5 hc hg ea la D5 G5=>?_;exact after cs a g5 hc hg ea la D5 G5
 walk_at"";refine if2 (λc=>?_) (λc=>?_)
 ·walk_at"";refine i5 hT.pull D3 (by decide) (by decide) λr4 g4 vZ yF D4 G4=>?_;walk_at "w1";walk_at "w1";exact tail _ _ (by omega) (by omega) D4 (ya.trans G4)
 ·refine Q5 ?_;exact tail _ _ (by omega) (by omega) D3 ya
end
noncomputable def E6:aV:=⟨1,1,(.seq (.ifs (.dH (.fy (.call 1 (fR aL (bg 1) (bg 9))))) (.seq (.raise "BadAnvils" (eK (hJ "there are from one to nine anvils"))) .pass) .pass) .pass)⟩
noncomputable def xD:aV:=⟨2,2,(.seq (.ret (dY .all (.comp [1] 3 (.one 2) (.fj aL) .no (cu (.cmp .In) bo aL)))) .pass)⟩
noncomputable def BH:aV:=⟨1,1,(.seq (.ifs (.dH (.fy (.call 12 (eK aL)))) (.seq (.raise "BadCoin" (eK (hJ "it is no coin"))) .pass) .pass) .pass)⟩
noncomputable def V6:aV:=⟨1,2,(.seq (.ifs (eJ .Gt (dY .len aL) (bg 9)) (.seq (.raise "TooMany" (eK (hJ "at most nine coins are asked about at once"))) .pass) .pass) (.seq (.dI (.one 1) (.fj aL) (.seq (.expr (.call 39 (eK bh))) .pass)) .pass))⟩
noncomputable def P1:aV:=⟨1,1,(.seq (.ifs (eJ .NotIn aL (.lit (.tup [(.str "lower"),(.str "upper")]))) (.seq (.raise "BadSide" (eK (hJ "a side is lower or upper"))) .pass) .pass) .pass)⟩
noncomputable def Bz:aV:=⟨1,1,(.seq (.expr (.call 40 (eK aL))) (.seq (.ret (cu .mn (.lit (.tup [(.tup [(.str "lower"),(.int 0)]),(.tup [(.str "upper"),(.int 2)])])) aL)) .pass))⟩
noncomputable abbrev JX(T:Nat->Option aV):Prop:=T 18=some V6/\T 39=some BH
noncomputable abbrev Dg(T:Nat->Option aV):Prop:=T 19=some Bz/\T 40=some P1
structure Ex(g g':G):Prop where
 len:g.length<=g'.length
 old:∀i,i<g.length->g'[i]?=g[i]?
theorem Ex.refl(g:G):Ex g g:=⟨av _,λ_ _=>rfl⟩
theorem Ex.trans{g g1 g2:G}(a:Ex g g1)(b:Ex g1 g2):Ex g g2:=⟨aD a.len b.len,λi h=>(b.old i (ax h a.len)).trans (a.old i h)⟩
theorem Ex.snoc(g:G)(o:O):Ex g (g++[o]):=⟨by simp,λi h=>aG h⟩
theorem Ex.at{g g':G}(h:Ex g g'){i:Nat}{o:O}(e:g[i]?=some o):g'[i]?=some o:=(h.old i (m5 e)).trans e
theorem Ex.gr{g g':G}(h:Ex g g')(d:Nat):Gr d g g':=⟨h.len,λi _ h2=>h.old i h2⟩
theorem Ex.draw{g g':G}{d:Nat}(h:Ex g g')(D0:j6 g d):j6 g' d:=by
 obtain⟨s,p,b,r,xs,e1,e2,q⟩:=D0.ex;exact⟨s,p,b,r,xs,h.at e1,h.at e2,q⟩
section
variable{T:Nat->Option aV}{k d:Nat}{g:G}{Q:KD}{E:KX}
theorem Ie(h6:T 6=some xV){i:Int}(h:Q (.bl true) g):d4 T (k+1) 6 [.int i] g Q E:=by
 refine call_of h6 rfl ?_;dsimp[xV,d8,List.replicate];walk_at"";refine wj (c:="int") (b:=true) (by decide) rfl ?_;walk_at"";refine wj (c:="bool") (b:=false) (by decide) rfl ?_;walk_at"";exact h
end
noncomputable def ky(a b:List Int):Bool:=a.all λs=>b.any λm=>m==s
section
variable{T:Nat->Option aV}{k d:Nat}{g:G}{Q:KD}{E:KX}
theorem GY(oq:T 15=some xD){a b:List Int}(ha:a.length<=1000)(h:∀g',Ex g g'->Q (.bl (ky a b)) g'):d4 T (k+1) 15 [.tup (a.map .int),.tup (b.map .int)] g Q E:=by
 refine call_of oq rfl ?_;dsimp[xD,d8,List.replicate];walk_at"";refine H9 (b0 T _) (wk (b0 T _) ?_);walk_at"";refine⟨_,rfl,_,λi ys Z g'=>∃z w,ys=((a.take i).map λs=>b.any λm=>m==s).map D.bl/\Z=[some (.tup (b.map .int)),z,w]/\g'=g,by simpa using ha,λi ys Z g' p=>⟨x8,?_⟩,⟨none,none,rfl,rfl,rfl⟩,λi x ys Z g' hx p=>?_,λys Z g' p=>?_⟩
 ·obtain⟨z,w,rfl,_⟩:=p;simp;omega
 ·obtain⟨z,w,rfl,rfl,rfl⟩:=p;rw[ak,ae] at hx;obtain⟨s,hs,rfl⟩:=hx;show cC _ _ _ _ _ _;walk_at"";refine CK (Bw ?_);refine⟨_,_,?_,rfl,rfl⟩;have hi:=(aj.mp hs)
  rw[bx,hs];simp
 ·obtain⟨z,w,rfl,rfl,rfl⟩:=p;refine Ve (a8 d0) (Xa _) ?_;have e:((a.take (a.map D.int).length).map λs=>b.any λm=>m==s).all id=ky a b:=by
   rw[ah,cb];simp[ky,List.all_map]
  rw[e];exact h _ (Ex.snoc _ _)
theorem ZU{g:G}{x:Str}{kb:Bool->Prop}(hx:PyData.strOk x=true)(h:kb (decide (x="lower")||decide (x="upper"))):pL g (.str x) (.tup [.str "lower",.str "upper"]) kb:=by
 refine⟨_,.inr ⟨_,[.str "lower",.str "upper"],.str x,rfl,rfl,rfl,by simp only[PyData.canLayAll0,PyData.canLay0,Bool.and_true];decide +kernel,by simp only[PyData.canLay0];exact hx,rfl⟩,?_⟩;have e:∀y:Str,PyData.eqv (.str y) (.str x)=decide (x=y):=λy=>by
  simp only[PyData.eqv];rw[aW,fb,eB];exact eq_comm
 simp only[List.any_cons,List.any_nil,Bool.or_false,e];exact h
theorem Wx(M':T 40=some P1){x:Str}(ho:PyData.strOk x=true)(h1:x="lower"\/x="upper"->Q .bO g)(h3:x≠"lower"->x≠"upper"->E ⟨"BadSide"⟩ g):d4 T (k+1) 40 [.str x] g Q E:=by
 refine call_of M' rfl ?_;dsimp[P1,d8,List.replicate];walk_at"";refine wO (ZU ho ?_);walk_at"";by_cases e:x="lower"\/x="upper"
 ·refine gf (by rw[Bool.not_eq_false',cH,eB,eB];exact e) ?_;walk_at"";exact h1 e
 ·refine iA (by rw[jP,Bool.or_eq_false_iff,bZ,bZ];exact not_or.mp e) ?_;walk_at"";exact h3 (λz=>e (.inl z)) (λz=>e (.inr z))
theorem E8(ki:Dg T){x:Str}(ho:PyData.strOk x=true)(h1:x="lower"->Q (.int 0) g)(h2:x="upper"->Q (.int 2) g)(h3:x≠"lower"->x≠"upper"->E ⟨"BadSide"⟩ g):d4 T (k+2) 19 [.str x] g Q E:=by
 refine call_of ki.1 rfl ?_;dsimp[Bz,d8,List.replicate];walk_at"";refine Wx ki.2 ho (λhx=>?_) h3;walk_at"";by_cases e1:x="lower"
 ·have el:N1 [.tup [.str "lower",.int 0],.tup [.str "upper",.int 2]] x=some (.int 0):=by simp[N1,e1]
  refine Jw el ?_;exact h1 e1
 ·have e2:x="upper":=hx.resolve_left e1;have el:N1 [.tup [.str "lower",.int 0],.tup [.str "upper",.int 2]] x=some (.int 2):=by simp[N1,e1];simp[e2]
  refine Jw el ?_;exact h2 e2
noncomputable def CB(c:b8):Prop:=c.lm.length<=8/\c.um.length<=8
theorem Y0(h1:NF T)(h2:T 2=some F5)(rK:T 12=some B4)(uF:JX T){a:Nat}{cs:List b8}(ha:g[a]?=some (.lst (cs.map b8.d)))(hz:cs.length<=1000)(hm:9<cs.length->E ⟨"TooMany"⟩ g)(hb:cs.length<=9->cs.all q9=false->E ⟨"BadCoin"⟩ g)(h:cs.length<=9->cs.all q9=true->Q .bO g):d4 T (k+6) 18 [.ref a] g Q E:=by
 refine call_of uF.1 rfl ?_;dsimp[V6,d8,List.replicate];walk_at"";rw[ah];refine if2 (λc=>?_) (λc=>?_)
 ·walk_at"";exact hm (by omega)
 have h9:cs.length<=9:=by omega
 walk_at"";refine A6 (b0 T _) (kD (b0 T _) ?_);walk_at"";refine⟨a,_,rfl,a8 ha,cs.map b8.d,λi Z g'=>∃z,Z=[some (.ref a),z]/\g'=g/\(cs.take i).all q9=true,λi Z g' p=>?_,⟨none,rfl,rfl,by simp⟩,λi x Z g' hx p=>?_,λZ g' p=>?_⟩
 ·obtain⟨z,rfl,rfl,_⟩:=p;exact q8 (a8 ha)
 ·obtain⟨z,rfl,rfl,hg⟩:=p;rw[ak,ae] at hx;obtain⟨c,hc,rfl⟩:=hx;refine l6 ?_
  try show wpS _ _ _ _ _ _
  walk_at"";refine call_of uF.2 rfl ?_;dsimp[BH,d8,List.replicate];walk_at"";refine ZE h1 h2 rK ?_;walk_at"";cases e:q9 c with
  |true =>
   walk_at"";refine⟨_,rfl,rfl,?_⟩;rw[bx,hc];simp[hg,e]
  |false =>
   refine FE ?_;walk_at"";refine hb h9 ?_;rw[List.all_eq_false];exact⟨c,aP hc,by rw[e];decide⟩
 ·obtain⟨z,rfl,rfl,hg⟩:=p;rw[ah,cb] at hg;exact h h9 hg
end
noncomputable def oH(f:Int)(c:b8):Int:=if f=0 then c.lo else c.up
theorem HS{f:Int}(hf:f=0\/f=2)(c:b8):gz [D.int c.lo,D.tup (c.lm.map .int),D.int c.up,D.tup (c.um.map .int),D.int c.yr] f=some (.int (oH f c)):=by
 rcases hf with rfl|rfl<;>rfl
section
variable{T:Nat->Option aV}{k d:Nat}{g:G}{Q:KD}{E:KX}
end
section
variable{T:Nat->Option aV}{k d:Nat}{g:G}{Q:KD}{E:KX}
end
noncomputable def cD:b8:=⟨0,[],0,[],0⟩
noncomputable abbrev dq(cs:List b8)(i:Nat):b8:=cs.getD i cD
theorem B5{cs:List b8}{i:Nat}{c:b8}(h:cs[i]?=some c):dq cs i=c:=by simp[dq,List.getD,h]
inductive RW where
 |ff|lower|upper
noncomputable def RW.s:RW->Str
 |.ff=>"coin"
 |.lower=>"lower"
 |.upper=>"upper"
structure dA where
 w:RW
 x:Int
 y:Int
noncomputable def dA.d(r:dA):D:=.tup [.str r.w.s,.int r.x,.int r.y]
noncomputable def meant(cs:List b8)(w:RW)(x:Int)(i:Nat):Bool:=match w with
 |.ff=>decide ((i:Int)=x)
 |.lower=>decide ((dq cs i).lo=x)
 |.upper=>decide ((dq cs i).up=x)
noncomputable def ia(cs:List b8)(w:RW)(x:Int):List Nat:=(List.range cs.length).filter (meant cs w x)
noncomputable def d6(l:List Nat):List D:=l.map λ(i:Nat)=>D.int i
noncomputable def nP(l:List Nat):Nat:=(l.map (2 ^ ·)).sum
noncomputable def gZ(n:Nat)(p:Nat->Bool):Nat:=nP ((List.range n).filter p)
theorem Gj(n:Nat)(p:Nat->Bool):gZ (n+1) p=gZ n p+if p n=true then 2 ^ n else 0:=by
 unfold gZ nP;rw[dZ,eE,cO,List.sum_append]
 congr 1
 cases h:p n<;>simp[List.filter_cons,h]
theorem QF(n:Nat)(p:Nat->Bool):gZ n p<2 ^ n:=by
 induction n with
 |zero=>simp[gZ,nP]
 |succ n ih =>
  rw[Gj,sG];split<;>omega
theorem Jc(n:Nat)(p:Nat->Bool)(i:Nat):(gZ n p).testBit i=(decide (i<n)&&p i):=by
 induction n with
 |zero=>simp[gZ,nP]
 |succ n ih =>
  have hl:=QF n p;rw[Gj];by_cases hp:p n=true
  ·rw[aH hp,Nat.add_comm];rcases eM i n with h|h|h
   ·rw[Nat.testBit_two_pow_add_gt h,ih,az h,az (by omega)]
   ·subst h;rw[Nat.testBit_two_pow_add_eq,ih];simp[hp]
   ·rw[Nat.testBit_lt_two_pow (ax (show 2 ^ n+gZ n p<2 ^ (n+1) by rw[sG];omega) (yb (by omega) h)),aF (by omega)]
    rfl
  ·rw[aB hp,Nat.add_zero,ih];by_cases h:i=n
   ·subst h;simp[hp]
   ·rw[show decide (i<n)=decide (i<n+1) from cJ.mpr (by omega)]
theorem AM(a b:Nat):Builtin.bitAnd (a:Int) (b:Int)=((a &&& b:Nat):Int):=by
 unfold Builtin.bitAnd;rw[az (Kg a),az (Kg b)];simp
theorem Pp(a b:Nat):Builtin.bitOr (a:Int) (b:Int)=((a |||b:Nat):Int):=by
 unfold Builtin.bitOr Builtin.bitAnd;have h1:∀x:Nat,decide (0<=Builtin.bitNot (x:Int))=false:=λx=>by unfold Builtin.bitNot;exact aF (by omega)
 have h2:∀x:Nat,Builtin.bitNot (Builtin.bitNot (x:Int))=x:=λx=>by unfold Builtin.bitNot;omega
 rw[h1,h1];simp only[h2];simp
theorem Ou(a b:Nat):((a &&& b:Nat)≠0)↔∃i,a.testBit i=true/\b.testBit i=true:=by
 constructor
 ·intro h;obtain⟨i,hi⟩:=Nat.exists_testBit_of_ne_zero h;rw[Nat.testBit_and,aQ] at hi;exact⟨i,hi⟩
 ·rintro⟨i,h1,h2⟩ e;have:(a &&& b).testBit i=true:=by rw[Nat.testBit_and,h1,h2];rfl
  rw[e,Nat.zero_testBit] at this;cases this
theorem xt(s n:Nat)(p:Nat->Bool):((((s &&& gZ n p:Nat):Int) != 0)=(List.range n).any λi=>s.testBit i&&p i):=by
 rw[aW,bne_iff_ne,bz];have:(((s &&& gZ n p:Nat):Int)≠0)↔((s &&& gZ n p:Nat)≠0):=by omega
 rw[this,Ou];constructor
 ·rintro⟨i,h1,h2⟩;rw[Jc,aQ,cQ] at h2;exact⟨i,aI.mpr h2.1,by rw[h1,h2.2];rfl⟩
 ·rintro⟨i,h1,h2⟩;rw[aQ] at h2;exact⟨i,h2.1,by rw[Jc,az (aI.mp h1),h2.2];rfl⟩
noncomputable def mw(a b:b8):Bool:=(decide (a.lo=b.lo)&&!ky a.lm b.lm)||(decide (a.up=b.up)&&!ky a.um b.um)
noncomputable def iP(a b:b8):Bool:=decide (0<b.yr)&&decide (b.yr<a.yr)
noncomputable def M4(cs:List b8)(S:Nat->Bool)(p:Nat):Bool:=(List.range cs.length).any λi=>S i&&mw (dq cs i) (dq cs p)
noncomputable def P2(cs:List b8)(S:Nat->Bool)(p:Nat):Bool:=(List.range cs.length).any λi=>S i&&iP (dq cs i) (dq cs p)
noncomputable def O2(cs:List b8)(S:Nat->Bool)(p:Nat)(d:Int):Bool :=
 ((List.range cs.length).any λi=>(S i||decide (i=p))&&decide ((dq cs i).lo=d))&&((List.range cs.length).any λi=>!S i&&decide ((dq cs i).lo=d))
noncomputable def Y4(cs:List b8)(S:Nat->Bool)(p:Nat):Nat:=((n9 (cs.map b8.lo)).filter (O2 cs S p)).length
noncomputable def M6(cs:List b8)(rs:List dA)(S:Nat->Bool)(p:Nat):Bool:=rs.all λr=>!meant cs r.w r.y p||(List.range cs.length).any λi=>S i&&meant cs r.w r.x i
noncomputable def fault(cs:List b8)(v:Int)(rs:List dA)(S:Nat->Bool)(p:Nat):Str :=
 if M4 cs S p=true then "wear" else if P2 cs S p=true then "year" else if v<Y4 cs S p then "anvil" else if M6 cs rs S p=true then "" else "rule"
noncomputable def rL(x:Str):D:=if x="" then .bO else .str x
theorem Zk{cs:List b8}{v:Int}{rs:List dA}{S S':Nat->Bool}{p:Nat}(h:∀i,i<cs.length->S i=S' i):fault cs v rs S p=fault cs v rs S' p:=by
 have a:∀f:Nat->Bool->Bool,((List.range cs.length).any λi=>f i (S i))=(List.range cs.length).any λi=>f i (S' i):=λf=>by
  rw[aW,bz,bz];constructor
  ·rintro⟨i,h1,h2⟩;exact⟨i,h1,by rw[<- h i (aI.mp h1)];exact h2⟩
  ·rintro⟨i,h1,h2⟩;exact⟨i,h1,by rw[h i (aI.mp h1)];exact h2⟩
 have b1:M4 cs S p=M4 cs S' p:=a λi t=>t&&mw (dq cs i) (dq cs p);have b2:P2 cs S p=P2 cs S' p:=a λi t=>t&&iP (dq cs i) (dq cs p);have b3:O2 cs S p=O2 cs S' p:=by
  funext d
  unfold O2;rw[a λi t=>(t||decide (i=p))&&decide ((dq cs i).lo=d),a λi t=>!t&&decide ((dq cs i).lo=d)]
 have b4:M6 cs rs S p=M6 cs rs S' p:=by
  unfold M6
  congr 1
  funext r
  rw[a λi t=>t&&meant cs r.w r.x i]
 unfold fault Y4;rw[b1,b2,b3,b4]
noncomputable def U5:aV:=⟨3,4,(.seq (.ifs (.dH (.fy (.call 38 (eK bo)))) (.seq (.ret (.prim .lst .nil)) .pass) .pass) (.seq (.ifs (eJ .Eq bh (hJ "coin")) (.seq (.ret (.comp [2] 3 (.one 2) (.eY (dY .len aL)) (eJ .Eq bo aL) bo)) .pass) .pass) (.seq (.set 3 (.call 19 (eK bh))) (.seq (.ret (.comp [3,2] 5 (.many [3,4]) (.jH aL) (eJ .Eq (cY cM aL) bh) bS)) .pass))))⟩
noncomputable def Ba:aV:=⟨2,3,(.seq (.expr (.call 18 (eK aL))) (.seq (.set 2 (.call 19 (eK bh))) (.seq (.ret (.gi [2] 3 (.one 2) (.fj aL) .no (cY bo aL))) .pass)))⟩
noncomputable def BA:aV:=⟨2,5,(.seq (.kR (.many [2,3,4]) bh) (.seq (.ifs (.jG (eJ .NotIn bo (.lit (.tup [(.str "coin"),(.str "lower"),(.str "upper")]))) (eJ .Eq bS cM)) (.seq (.ret (.lit (.bl false))) .pass) .pass) (.seq (.ret (.dQ (cu (.cmp .NotEq) (.call 74 (fR aL bo bS)) (.prim .lst .nil)) (cu (.cmp .NotEq) (.call 74 (fR aL bo cM)) (.prim .lst .nil)))) .pass)))⟩
noncomputable def V5:aV:=⟨2,4,(.seq (.dI (.many [2,3]) (.jH bh) (.seq (.ifs (.dH (.fy (.call 88 (dg aL bS)))) (.seq (.raise "BadRule" (eK (.prim .kJ (fR (hJ "rule ") (dY .fv bo) (hJ " is none for these coins"))))) .pass) .pass) .pass)) .pass)⟩
noncomputable def Z3:aV:=⟨1,1,(.seq (.ret (dY .sum (.comp [] 2 (.one 1) (.fj aL) .no (cu (.bin .LShift) (bg 1) bh)))) .pass)⟩
noncomputable def U4:aV:=⟨2,2,(.seq (.ret (cu (.bin .BitOr) aL (cu (.bin .LShift) (bg 1) bh))) .pass)⟩
noncomputable def BC:aV:=⟨2,4,(.seq (.dI (.one 2) (.fj (.lit (.tup [(.str "lower"),(.str "upper")]))) (.seq (.set 3 (.call 19 (eK bo))) (.seq (.ifs (.dQ (eJ .Eq (cY aL bS) (cY bh bS)) (.dH (.fy (.call 15 (dg (cY aL (cu (.bin .Add) bS (bg 1))) (cY bh (cu (.bin .Add) bS (bg 1)))))))) (.seq (.ret (.lit (.bl true))) .pass) .pass) .pass))) (.seq (.ret (.lit (.bl false))) .pass))⟩
noncomputable def Cw:aV:=⟨2,2,(.seq (.ret (.chain .Lt .Lt (bg 0) (cY bh (bg 4)) (cY aL (bg 4)))) .pass)⟩
noncomputable def V3:aV:=⟨1,1,(.seq (.ret (.comp [0] 3 (.one 2) (.fj aL) .no (.call 90 (eK (.comp [2] 4 (.many [2,3]) (.jH aL) (.fy (.call 92 (dg bS aL))) bo))))) .pass)⟩
noncomputable def R8:aV:=⟨1,1,(.seq (.ret (.comp [0] 3 (.one 2) (.fj aL) .no (.call 90 (eK (.comp [2] 4 (.many [2,3]) (.jH aL) (.fy (.call 93 (dg bS aL))) bo))))) .pass)⟩
noncomputable def Z9:aV:=⟨1,1,(.seq (.ret (.comp [0] 3 (.one 2) (.fj (.call 20 (dg aL (hJ "lower")))) .no (.call 90 (eK (.call 74 (fR aL (hJ "lower") bo)))))) .pass)⟩
noncomputable def O3:aV:=⟨2,8,(.seq (.set 2 (.comp [] 2 (.one 1) (.fj aL) .no (.prim .lst .nil))) (.seq (.dI (.many [3,4,5]) (.fj bh) (.seq (.set 6 (.call 90 (eK (.call 74 (fR aL bS cM))))) (.seq (.dI (.one 7) (.fj (.call 74 (fR aL bS eX))) (.seq (.ifs (eJ .NotIn eW (cY bo gk)) (.seq (.expr (.eF .append (cY bo gk) (eK eW))) .pass) .pass) .pass)) .pass))) (.seq (.ret bo) .pass)))⟩
noncomputable def M9:aV:=⟨3,3,(.seq (.expr (.call 18 (eK aL))) (.seq (.expr (.call 42 (eK bh))) (.seq (.expr (.call 89 (dg aL bo))) .pass)))⟩
noncomputable def By:aV:=⟨3,3,(.seq (.expr (.call 98 (fR aL bh bo))) (.seq (.ret (.make "Bounds" 113 (fR aL bh bo))) .pass))⟩
noncomputable def Z8:aV:=⟨3,5,(.seq (.set 3 (.call 91 (dg bh bo))) (.seq (.set 4 (cu (.bin .Sub) (dY (.fld "full") aL) bh)) (.seq (.ret (dY .len (.comp [4,3] 4 (.one 3) (.fj (dY (.fld "lower_dies") aL)) (.dQ (.fy (cu (.bin .BitAnd) bS bh)) (.fy (cu (.bin .BitAnd) bS aL))) bS))) .pass)))⟩
noncomputable def Z4:aV:=⟨3,3,(.seq (.ifs (.fy (cu (.bin .BitAnd) bh (cY (dY (.fld "worn_by_place") aL) bo))) (.seq (.ret (hJ "wear")) .pass) .pass) (.seq (.ifs (.fy (cu (.bin .BitAnd) bh (cY (dY (.fld "later_by_place") aL) bo))) (.seq (.ret (hJ "year")) .pass) .pass) (.seq (.ifs (eJ .Gt (.call 100 (fR aL bh bo)) (dY (.fld "room") aL)) (.seq (.ret (hJ "anvil")) .pass) .pass) (.seq (.ifs (.dH (.fy (dY .all (.comp [1] 3 (.one 2) (.fj (cY (dY (.fld "needed_by_place") aL) bo)) .no (cu (.bin .BitAnd) aL bo))))) (.seq (.ret (hJ "rule")) .pass) .pass) (.seq (.ret (.lit .bO)) .pass)))))⟩
noncomputable def V7:aV:=⟨4,4,(.seq (.gN "size" ["Bounds"] aL (dY .len bh)) (.seq (.gN "full" ["Bounds"] aL (cu (.bin .Sub) (cu (.bin .LShift) (bg 1) (dY .len bh)) (bg 1))) (.seq (.gN "room" ["Bounds"] aL bo) (.seq (.gN "worn_by_place" ["Bounds"] aL (.call 94 (eK bh))) (.seq (.gN "later_by_place" ["Bounds"] aL (.call 95 (eK bh))) (.seq (.gN "lower_dies" ["Bounds"] aL (.call 96 (eK bh))) (.seq (.gN "needed_by_place" ["Bounds"] aL (.call 97 (dg bh bS))) .pass)))))))⟩
section
variable{P:eR}{Z:S}{g:G}{Q:KD}{E:KX}{t:MT}{it c elt:ME}{d5:List Nat}{n:Nat}
theorem C3(hP:i7 P)(Sh:S->Prop)(p:Nat->Bool)(w:Nat->D){l:List D}{k:IK}(hk:∀g',Ex g g'->k.Is l g')(hl:l.length<=1000)(h0:Sh (C6 Z d5 n))(hs:∀i d Z g',l[i]?=some d->Ex g g'->Sh Z->iS t d Z λcg=>cC P c cg g' (λb g3=>b=p i/\Ex g g3/\if b=true then aK P elt cg g3 (λy g4=>y=w i/\Ex g g4/\Sh cg) iG else Sh cg) iG)(hd:∀g',Ex g g'->Q (.ref g'.length) (g'++[.lst (((List.range l.length).filter p).map w)]))(hi:∀R:IK->G->Prop,R k g->eG P it Z g R E):aK P (.comp d5 n t it c elt) Z g Q E:=by
 refine H9 hP (hi _ ?_);refine⟨l,λi ys Z g'=>Ex g g'/\ys=((List.range i).filter p).map w/\Sh Z,hl,λi ys Z g' q=>⟨hk _ q.1,?_⟩,⟨Ex.refl _,rfl,h0⟩,λi x ys Z g' hx q=>?_,λys Z g' q=>?_⟩
 ·obtain⟨_,rfl,_⟩:=q;rw[ah];exact aD (bu _ _) (by simp)
 ·obtain⟨e1,rfl,sh⟩:=q;refine u7 (λcg q=>o6 hP c _ _ _ _ _ _ (λb g3 q=>?_) (λ_ _ z=>z) q) (hs i x Z g' hx e1 sh);obtain⟨rfl,e3,q⟩:=q;have ef:((List.range (i+1)).filter p).map w=((List.range i).filter p).map w++if p i=true then[w i] else[]:=by
   rw[dZ,eE,cO]
   congr 1
   cases z:p i<;>simp only[List.filter_cons,z,List.filter_nil]<;>rfl
  cases hp:p i with
  |true =>
   rw[hp] at q ef;rw[aH rfl] at q ⊢;refine c6 hP elt _ _ _ _ _ _ (λy g4 q=>?_) (λ_ _ z=>z) q;obtain⟨rfl,e4,sh⟩:=q;exact⟨e4,by rw[ef];rfl,sh⟩
  |false =>
   rw[hp] at q ef;rw[aB (by decide)] at q ⊢;exact⟨e3,by rw[ef];simp,q⟩
 ·obtain⟨e1,rfl,sh⟩:=q;exact hd g' e1
theorem comp_map(hP:i7 P)(Sh:S->Prop)(w:Nat->D){l:List D}{k:IK}(hk:∀g',Ex g g'->k.Is l g')(hl:l.length<=1000)(h0:Sh (C6 Z d5 n))(hs:∀i d Z g',l[i]?=some d->Ex g g'->Sh Z->iS t d Z λcg=>aK P elt cg g' (λy g4=>y=w i/\Ex g g4/\Sh cg) iG)(hd:∀g',Ex g g'->Q (.ref g'.length) (g'++[.lst ((List.range l.length).map w)]))(hi:∀R:IK->G->Prop,R k g->eG P it Z g R E):aK P (.comp d5 n t it .no elt) Z g Q E:=by
 refine C3 hP Sh (λ_=>true) w hk hl h0 (λi d Z g' hx e sh=>u7 (λcg q=>Ck ⟨rfl,e,?_⟩) (hs i d Z g' hx e sh)) (λg' e=>?_) hi
 ·exact lO q
 ·have:=hd g' e
  rwa [show(List.range l.length).filter (λ_=>true)=List.range l.length from dO.mpr λ_ _=>rfl]
theorem nE(hP:i7 P){a:Nat}{l:List D}{o:ME}(hl:d7 g a=some l)(h:∀Q:KD,Q (.ref a) g->aK P o Z g Q E):∀R:IK->G->Prop,R (.lst a) g->eG P (.fj o) Z g R E:=λR r=>kD hP (h _ ⟨a,l,rfl,hl,r⟩)
theorem CN{a:Nat}{l:List D}{o:ME}(hl:d7 g a=some l)(h:∀Q:KD,Q (.ref a) g->aK P o Z g Q E):∀R:IK->G->Prop,R (.nt a) g->eG P (.jH o) Z g R E:=λR r=>tX (h _ ⟨a,l,rfl,hl,r⟩)
theorem CO(hP:i7 P){j:Nat}{o:ME}(hj:j<=1000)(h:∀Q:KD,Q (.int (j:Nat)) g->aK P o Z g Q E):∀R:IK->G->Prop,R (.fix (k8 0 j)) g->eG P (.eY o) Z g R E:=λR r=>oJ hP (h _ ⟨j,rfl,by omega,by omega,by simpa using r⟩)
end
theorem Jn(l:List Nat):d6 l=(l.map λ(i:Nat)=>(i:Int)).map D.int:=by simp[d6]
structure TB0(T:Nat->Option aV):Prop where
 nf:NF T
 h2:T 2=some F5
 rK:T 12=some B4
 uF:JX T
 ki:Dg T
 oq:T 15=some xD
 Nd:T 20=some Ba
 qc:T 74=some U5
 MZ:T 88=some BA
 MY:T 89=some V5
 rJ:T 90=some Z3
 kZ:T 91=some U4
 MX:T 92=some BC
 MW:T 93=some Cw
 MV:T 94=some V3
 MU:T 95=some R8
 MR:T 96=some Z9
 MQ:T 97=some O3
 Ad:T 100=some Z8
 Ac:T 101=some Z4
 zY:T 113=some V7
structure TB(T:Nat->Option aV):Prop extends TB0 T where
 uC:T 42=some E6
 zT:T 98=some M9
 MP:T 99=some By
instance{T:Nat->Option aV}:CoeOut (TB T) (TB0 T):=⟨TB.toTB0⟩
section
variable{T:Nat->Option aV}{k d:Nat}{g g':G}{Q:KD}{E:KX}{a p:Nat}{cs:List b8}
theorem WN(h1:NF T)(uC:T 42=some E6){i:Int}(h:1<=i->i<=9->Q .bO g)(hn:¬(1<=i/\i<=9)->E ⟨"BadAnvils"⟩ g):d4 T (k+3) 42 [.int i] g Q E:=by
 refine call_of uC rfl ?_;dsimp[E6,d8,List.replicate];walk_at"";refine u9 (k:=k) h1 ?_;walk_at"";by_cases hi:1<=i/\i<=9
 ·rw[az hi.1,az hi.2];walk_at"";exact h hi.1 hi.2
 ·have:(decide (1<=i)&&decide (i<=9))=false:=by
   rw[vO,bZ,bZ];omega
  rw[this];walk_at"";exact hn hi
theorem N6(h1:NF T)(ki:Dg T)(qc:T 74=some U5){w:RW}{x:Int}(ha:g[a]?=some (.lst (cs.map b8.d)))(hz:cs.length<=1000)(h:∀g' b,Ex g g'->g.length<=b->g'[b]?=some (.lst (d6 (ia cs w x)))->Q (.ref b) g'):d4 T (k+3) 74 [.ref a,.str w.s,.int x] g Q E:=by
 refine call_of qc rfl ?_;dsimp[U5,d8,List.replicate];walk_at"";refine HH (k:=k+1) h1 ?_;walk_at"";have fld:∀f:Int,(f=0\/f=2)->(∀i c,cs[i]?=some c->meant cs w x i=decide (oH f c=x))->aK (d4 T (k+2)) (.comp [3,2] 5 (.many [3,4]) (.jH (.var 0)) (.fy (.prim (.cmp .Eq) (.cons (.prim .ix (.cons (.var 4) (.cons (.var 0) .nil))) (.cons (.var 1) .nil)))) (.var 3)) [some (.ref a),some (.str w.s),some (.int x),some (.int f)] g Q E:=λf hf hm=>by
  refine C3 (b0 T _) (λZ=>∃z2 z3 z4,Z=[some (.int f),some (.int x),z2,z3,z4]) (meant cs w x) (λi=>.int (i:Nat)) (l:=kj (cs.map b8.d)) (λg' e=>X7 (a8 (e.at ha))) (by rw[F8];simpa using hz) ⟨none,none,none,rfl⟩ (λi d Z g' hx e sh=>?_) (λg' e=>?_) (CN (a8 ha) λQ q=>w_var (d:=.ref a) rfl q)
  ·obtain⟨z2,z3,z4,rfl⟩:=sh;obtain⟨dd,hd,rfl⟩:=Q2 hx;rw[ak,ae] at hd;obtain⟨c,hc,rfl⟩:=hd;refine A8 rfl ?_
   try show cC _ _ _ _ _ _
   walk_at"";refine C5 (HS hf c) ?_;walk_at"";rw[hm i c hc];refine⟨rfl,e,?_⟩;refine if2 (λ_=>?_) (λ_=>?_)
   ·walk_at"";exact⟨rfl,e,_,_,_,rfl⟩
   ·exact⟨_,_,_,rfl⟩
  ·rw[F8,ah];exact h _ _ (e.trans (Ex.snoc _ _)) e.len d0
 cases w with
 |ff =>
  refine iA (by decide +kernel) ?_;walk_at"";refine C3 (b0 T _) (λZ=>∃z1 z2,Z=[some (.int x),z1,z2]) (meant cs .ff x) (λi=>.int (i:Nat)) (l:=k8 0 cs.length) (λg' e=>x8) (by rw[n4];exact hz) ⟨none,none,rfl⟩ (λi d Z g' hx e sh=>?_) (λg' e=>?_) (CO (b0 T _) hz λQ q=>?_)
  ·obtain⟨z2,z3,rfl⟩:=sh;obtain⟨hi,rfl⟩:=E2 hx;rw[jO];refine l6 ?_
   try show cC _ _ _ _ _ _
   walk_at"";refine⟨rfl,e,?_⟩;refine if2 (λ_=>?_) (λ_=>?_)
   ·walk_at"";exact⟨rfl,e,_,_,rfl⟩
   ·exact⟨_,_,rfl⟩
  ·rw[n4];exact h _ _ (e.trans (Ex.snoc _ _)) e.len d0
  ·walk_at"";rw[ah];exact q
 |lower =>
  refine gf (by decide +kernel) ?_;walk_at"";refine E8 (k:=k) ki (by decide +kernel) (λ_=>?_) (λz=>absurd z (by decide +kernel)) (λz=>absurd rfl z);walk_at"";exact fld 0 (.inl rfl) λi c hc=>by simp only[meant,B5 hc];rfl
 |upper =>
  refine gf (by decide +kernel) ?_;walk_at"";refine E8 (k:=k) ki (by decide +kernel) (λz=>absurd z (by decide +kernel)) (λ_=>?_) (λ_ z=>absurd rfl z);walk_at"";exact fld 2 (.inr rfl) λi c hc=>by simp only[meant,B5 hc];rfl
theorem M5(rJ:T 90=some Z3){l:List Nat}(ha:g[a]?=some (.lst (d6 l)))(hz:l.length<=1000)(hl:∀i∈l,i<=1000)(h:∀g',Ex g g'->Q (.int (nP l:Nat)) g'):d4 T (k+1) 90 [.ref a] g Q E:=by
 refine call_of rJ rfl ?_;dsimp[Z3,d8,List.replicate];walk_at"";refine comp_map (b0 T _) (λZ=>∃z0 z1,Z=[z0,z1]) (λi=>.int ((2 ^ (l.getD i 0):Nat):Int)) (l:=d6 l) (k:=.lst a) (λg' e=>q8 (a8 (e.at ha))) (by simpa[d6] using hz) ⟨none,none,rfl⟩ (λi d Z g' hx e sh=>?_) (λg' e=>?_) (nE (b0 T _) (a8 ha) λQ q=>w_var (d:=.ref a) rfl q)
 ·obtain⟨z0,z1,rfl⟩:=sh;rw[d6,ak,ae] at hx;obtain⟨j,hj,rfl⟩:=hx;refine l6 ?_
  try show aK _ _ _ _ _ _
  walk_at"";have:=hl j (aP hj);refine BO ⟨by omega,by omega,by decide⟩ ?_;refine⟨?_,e,_,_,rfl⟩;simp[List.getD,hj]
 ·refine Cb (ns:=(List.range l.length).map λi=>((2 ^ (l.getD i 0):Nat):Int)) (a8 (by rw[bE];simpa[d6] using d0)) ?_;have:((List.range l.length).map λi=>((2 ^ (l.getD i 0):Nat):Int)).sum=(nP l:Nat):=by
   have e2:(List.range l.length).map (λi=>((2 ^ (l.getD i 0):Nat):Int))=(l.map (2 ^ ·)).map λ(n:Nat)=>(n:Int):=by
    refine dy λi=>?_;rw[ak,ak,ak];by_cases hi:i<l.length
    ·rw[cv hi,ag hi];simp[List.getD,hi]
    ·rw[aS (by simpa using hi),aS (by omega)]
     rfl
   rw[e2];unfold nP;generalize l.map (2 ^ ·)=m
   induction m with
   |nil=>rfl
   |cons x r ih=>simp[ih]
  rw[this];exact h _ (e.trans (Ex.snoc _ _))
theorem p8(kZ:T 91=some U4){s p:Nat}(hp:p<=1000)(h:Q (.int ((s |||2 ^ p:Nat):Int)) g):d4 T (k+1) 91 [.int (s:Nat),.int (p:Nat)] g Q E:=by
 refine call_of kZ rfl ?_;dsimp[U4,d8,List.replicate];walk_at"";refine BO ⟨by omega,by omega,by decide⟩ ?_;walk_at"";refine Tp ?_;have e:(1:Int)*2 ^ ((p:Nat):Int).toNat=((2 ^ p:Nat):Int):=by simp
 rw[e,Pp];exact h
end
section
variable{T:Nat->Option aV}{k d:Nat}{g g':G}{Q:KD}{E:KX}{a p:Nat}{cs:List b8}
theorem Iu{c:b8}(h:CB c):c.lm.length<=1000/\c.um.length<=1000:=⟨aD h.1 (by decide),aD h.2 (by decide)⟩
theorem ZI(hT:TB0 T){c e:b8}(hc:CB c)(h:∀g',Ex g g'->Q (.bl (mw c e)) g'):d4 T (k+3) 92 [c.d,e.d] g Q E:=by
 refine call_of hT.MX rfl ?_;dsimp[BC,d8,List.replicate];walk_at"";refine A6 (b0 T _) (wk (b0 T _) ?_);walk_at"";refine⟨_,rfl,_,λi Z g'=>Ex g g'/\(∃z2 z3,Z=[some c.d,some e.d,z2,z3])/\(1<=i->(decide (c.lo=e.lo)&&!ky c.lm e.lm)=false)/\(2<=i->(decide (c.up=e.up)&&!ky c.um e.um)=false),λ_ _ _ _=>x8,⟨Ex.refl _,⟨none,none,rfl⟩,λz=>absurd z (by omega),λz=>absurd z (by omega)⟩,λi x Z g' hx q=>?_,λZ g' q=>?_⟩
 ·obtain⟨e1,⟨z2,z3,rfl⟩,q1,q2⟩:=q;refine l6 ?_
  try show wpS _ _ _ _ _ _
  match i,hx with
  |0,hx =>
   cases hx;walk_at"";refine E8 (k:=k) hT.ki (by decide +kernel) (λ_=>?_) (λz=>absurd z (by decide +kernel)) (λz=>absurd rfl z);walk_at"";refine C5 (l:=[.int c.lo,.tup (c.lm.map .int),.int c.up,.tup (c.um.map .int),.int c.yr]) rfl ?_;walk_at"";refine C5 (l:=[.int e.lo,.tup (e.lm.map .int),.int e.up,.tup (e.um.map .int),.int e.yr]) rfl ?_;walk_at"";refine if2 (λh1=>?_) (λh1=>?_)
   ·walk_at"";refine C5 (l:=[.int c.lo,.tup (c.lm.map .int),.int c.up,.tup (c.um.map .int),.int c.yr]) rfl ?_;walk_at"";refine C5 (l:=[.int e.lo,.tup (e.lm.map .int),.int e.up,.tup (e.um.map .int),.int e.yr]) rfl ?_;walk_at"";refine GY (k:=k+1) hT.oq (Iu hc).1 λg2 e2=>?_;walk_at"";cases hw:ky c.lm e.lm with
    |false =>
     walk_at"";have:mw c e=true:=by unfold mw;rw[az h1,hw];rfl
     rw[<- this];exact h _ (e1.trans e2)
    |true =>
     walk_at"";exact⟨e1.trans e2,⟨_,_,rfl⟩,λ_=>by rw[az h1];rfl,λz=>absurd z (by omega)⟩
   ·walk_at"";exact⟨e1,⟨_,_,rfl⟩,λ_=>by rw[aF h1];rfl,λz=>absurd z (by omega)⟩
  |1,hx =>
   cases hx;walk_at"";refine E8 (k:=k) hT.ki (by decide +kernel) (λz=>absurd z (by decide +kernel)) (λ_=>?_) (λ_ z=>absurd rfl z);walk_at"";refine C5 (l:=[.int c.lo,.tup (c.lm.map .int),.int c.up,.tup (c.um.map .int),.int c.yr]) rfl ?_;walk_at"";refine C5 (l:=[.int e.lo,.tup (e.lm.map .int),.int e.up,.tup (e.um.map .int),.int e.yr]) rfl ?_;walk_at"";refine if2 (λh1=>?_) (λh1=>?_)
   ·walk_at"";refine C5 (l:=[.int c.lo,.tup (c.lm.map .int),.int c.up,.tup (c.um.map .int),.int c.yr]) rfl ?_;walk_at"";refine C5 (l:=[.int e.lo,.tup (e.lm.map .int),.int e.up,.tup (e.um.map .int),.int e.yr]) rfl ?_;walk_at"";refine GY (k:=k+1) hT.oq (Iu hc).2 λg2 e2=>?_;walk_at"";cases hw:ky c.um e.um with
    |false =>
     walk_at"";have:mw c e=true:=by unfold mw;rw[az h1,hw];simp
     rw[<- this];exact h _ (e1.trans e2)
    |true =>
     walk_at"";exact⟨e1.trans e2,⟨_,_,rfl⟩,λ_=>q1 (by omega),λ_=>by rw[az h1];rfl⟩
   ·walk_at"";exact⟨e1,⟨_,_,rfl⟩,λ_=>q1 (by omega),λ_=>by rw[aF h1];rfl⟩
  |i+2,hx=>simp at hx
 ·obtain⟨e1,⟨z2,z3,rfl⟩,q1,q2⟩:=q
  try show wpS _ _ _ _ _ _
  walk_at"";have:mw c e=false:=by unfold mw;rw[q1 (by decide),q2 (by decide)];rfl
  rw[<- this];exact h _ e1
theorem ZX(hT:TB0 T){c e:b8}(h:Q (.bl (iP c e)) g):d4 T (k+1) 93 [c.d,e.d] g Q E:=by
 refine call_of hT.MW rfl ?_;dsimp[Cw,d8,List.replicate];walk_at"";refine C5 (l:=[.int e.lo,.tup (e.lm.map .int),.int e.up,.tup (e.um.map .int),.int e.yr]) rfl ?_;walk_at"";refine if2 (λh1=>?_) (λh1=>?_)
 ·walk_at"";refine C5 (l:=[.int c.lo,.tup (c.lm.map .int),.int c.up,.tup (c.um.map .int),.int c.yr]) rfl ?_;walk_at"";have:iP c e=decide (e.yr<c.yr):=by unfold iP;rw[az h1];rfl
  rw[<- this];exact h
 ·have:iP c e=false:=by unfold iP;rw[aF h1];rfl
  rw[<- this];exact h
noncomputable def qV(cs:List b8)(q:b8->b8->Bool):List D:=(List.range cs.length).map λi=>.int ((gZ cs.length λj=>q (dq cs j) (dq cs i):Nat):Int)
theorem vk{cs:List b8}{q:Nat->Bool}:∀i∈(List.range cs.length).filter q,i<cs.length:=λi hi=>aI.mp (aT.mp hi).1
theorem S7{n:Nat}{q:Nat->Bool}:((List.range n).filter q).length<=n:=aD (bu _ _) (by simp)
theorem Tj(hT:TB0 T)(ha:g[a]?=some (.lst (cs.map b8.d)))(hz:cs.length<=9)(hB:∀c∈cs,CB c)(h:∀g' b,Ex g g'->g.length<=b->g'[b]?=some (.lst (qV cs mw))->Q (.ref b) g'):d4 T (k+4) 94 [.ref a] g Q E:=by
 refine call_of hT.MV rfl ?_;dsimp[V3,d8,List.replicate];walk_at"";refine comp_map (b0 T _) (λZ=>∃z1 z2,Z=[some (.ref a),z1,z2]) (λi=>.int ((gZ cs.length λj=>mw (dq cs j) (dq cs i):Nat):Int)) (l:=cs.map b8.d) (k:=.lst a) (λg' e=>q8 (a8 (e.at ha))) (by simp;omega) ⟨none,none,rfl⟩ (λi d Z g' hx e sh=>?_) (λg' e=>?_) (nE (b0 T _) (a8 ha) λQ q=>w_var (d:=.ref a) rfl q)
 ·obtain⟨z1,z2,rfl⟩:=sh;rw[ak,ae] at hx;obtain⟨c,hc,rfl⟩:=hx;refine l6 ?_
  try show aK _ _ _ _ _ _
  walk_at"";refine C3 (b0 T _) (λZ=>∃z1 z2 z3,Z=[some c.d,z1,z2,z3]) (λj=>mw (dq cs j) (dq cs i)) (λi=>.int (i:Nat)) (l:=kj (cs.map b8.d)) (k:=.nt a) (λg2 e2=>X7 (a8 ((e.trans e2).at ha))) (by rw[F8];simp;omega) ⟨none,none,none,rfl⟩ (λj d Z g2 hx e2 sh=>?_) (λg2 e2=>?_) (CN (a8 (e.at ha)) λQ q=>w_var (d:=.ref a) rfl q)
  ·obtain⟨z1,z2,z3,rfl⟩:=sh;obtain⟨dd,hd,rfl⟩:=Q2 hx;rw[ak,ae] at hd;obtain⟨c',jc,rfl⟩:=hd;refine A8 rfl ?_
   try show cC _ _ _ _ _ _
   walk_at"";refine ZI (k:=k) hT (hB c' (aP jc)) λg3 e3=>?_;walk_at"";refine⟨by simp only[B5 jc,B5 hc],e2.trans e3,?_⟩;cases mw c' c with
   |true =>
    refine iA rfl ?_;walk_at"";exact⟨rfl,e2.trans e3,_,_,_,rfl⟩
   |false=>exact gf rfl ⟨_,_,_,rfl⟩
  ·walk_at"";refine M5 (k:=k+2) hT.rJ (l:=(List.range cs.length).filter λj=>mw (dq cs j) (dq cs i)) (by have:=d0 (g:=g2) (o:=.lst (((List.range (kj (cs.map b8.d)).length).filter λj=>mw (dq cs j) (dq cs i)).map λi=>D.int (i:Nat)));rw[F8,ah] at this ⊢;exact this) (aD S7 (by omega)) (λj hj=>by have:=vk j hj;omega) λg3 e3=>?_;exact⟨rfl,(e.trans (e2.trans (Ex.snoc _ _))).trans e3,_,_,rfl⟩
 ·refine h _ _ (e.trans (Ex.snoc _ _)) e.len ?_;rw[d0,ah]
  rfl
theorem XC(hT:TB0 T)(ha:g[a]?=some (.lst (cs.map b8.d)))(hz:cs.length<=9)(h:∀g' b,Ex g g'->g.length<=b->g'[b]?=some (.lst (qV cs iP))->Q (.ref b) g'):d4 T (k+4) 95 [.ref a] g Q E:=by
 refine call_of hT.MU rfl ?_;dsimp[R8,d8,List.replicate];walk_at"";refine comp_map (b0 T _) (λZ=>∃z1 z2,Z=[some (.ref a),z1,z2]) (λi=>.int ((gZ cs.length λj=>iP (dq cs j) (dq cs i):Nat):Int)) (l:=cs.map b8.d) (k:=.lst a) (λg' e=>q8 (a8 (e.at ha))) (by simp;omega) ⟨none,none,rfl⟩ (λi d Z g' hx e sh=>?_) (λg' e=>?_) (nE (b0 T _) (a8 ha) λQ q=>w_var (d:=.ref a) rfl q)
 ·obtain⟨z1,z2,rfl⟩:=sh;rw[ak,ae] at hx;obtain⟨c,hc,rfl⟩:=hx;refine l6 ?_
  try show aK _ _ _ _ _ _
  walk_at"";refine C3 (b0 T _) (λZ=>∃z1 z2 z3,Z=[some c.d,z1,z2,z3]) (λj=>iP (dq cs j) (dq cs i)) (λi=>.int (i:Nat)) (l:=kj (cs.map b8.d)) (k:=.nt a) (λg2 e2=>X7 (a8 ((e.trans e2).at ha))) (by rw[F8];simp;omega) ⟨none,none,none,rfl⟩ (λj d Z g2 hx e2 sh=>?_) (λg2 e2=>?_) (CN (a8 (e.at ha)) λQ q=>w_var (d:=.ref a) rfl q)
  ·obtain⟨z1,z2,z3,rfl⟩:=sh;obtain⟨dd,hd,rfl⟩:=Q2 hx;rw[ak,ae] at hd;obtain⟨c',jc,rfl⟩:=hd;refine A8 rfl ?_
   try show cC _ _ _ _ _ _
   walk_at"";refine ZX (k:=k+2) hT ?_;walk_at"";refine⟨by simp only[B5 jc,B5 hc],e2,?_⟩;cases iP c' c with
   |true =>
    refine iA rfl ?_;walk_at"";exact⟨rfl,e2,_,_,_,rfl⟩
   |false=>exact gf rfl ⟨_,_,_,rfl⟩
  ·walk_at"";refine M5 (k:=k+2) hT.rJ (l:=(List.range cs.length).filter λj=>iP (dq cs j) (dq cs i)) (by have:=d0 (g:=g2) (o:=.lst (((List.range (kj (cs.map b8.d)).length).filter λj=>iP (dq cs j) (dq cs i)).map λi=>D.int (i:Nat)));rw[F8,ah] at this ⊢;exact this) (aD S7 (by omega)) (λj hj=>by have:=vk j hj;omega) λg3 e3=>?_;exact⟨rfl,(e.trans (e2.trans (Ex.snoc _ _))).trans e3,_,_,rfl⟩
 ·refine h _ _ (e.trans (Ex.snoc _ _)) e.len ?_;rw[d0,ah]
  rfl
theorem ZR(hT:TB0 T)(ha:g[a]?=some (.lst (cs.map b8.d)))(hz:cs.length<=9)(hg:cs.all q9=true)(h:Q (.ref g.length) (g++[.lst ((n9 (cs.map b8.lo)).map .int)])):d4 T (k+7) 20 [.ref a,.str "lower"] g Q E:=by
 refine call_of hT.Nd rfl ?_;dsimp[Ba,d8,List.replicate];walk_at"";refine Y0 (k:=k) hT.nf hT.h2 hT.rK hT.uF ha (by omega) (λz=>by omega) (λ_ z=>by rw[hg] at z;cases z) λ_ _=>?_;walk_at"";refine E8 (k:=k+4) hT.ki (by decide +kernel) (λ_=>?_) (λz=>absurd z (by decide +kernel)) (λz=>absurd rfl z);walk_at"";refine Tg (b0 T _) (kD (b0 T _) ?_);walk_at"";refine⟨a,_,rfl,a8 ha,cs.map b8.d,λi ys Z g'=>∃z w,ys=(cs.take i).map b8.lo/\Z=[some (.int 0),z,w]/\g'=g,by simp;omega,λi ys Z g' p=>?_,⟨none,none,rfl,rfl,rfl⟩,λi c ys Z g' hx p=>?_,λys Z g' p=>?_⟩
 ·obtain⟨z,w,rfl,rfl,rfl⟩:=p;exact⟨q8 (a8 ha),by simp;omega⟩
 ·obtain⟨z,w,rfl,rfl,rfl⟩:=p;rw[ak,ae] at hx;obtain⟨c,hc,rfl⟩:=hx;show cC _ _ _ _ _ _;walk_at"";refine C5 (l:=[.int c.lo,.tup (c.lm.map .int),.int c.up,.tup (c.um.map .int),.int c.yr]) rfl ?_;refine⟨_,rfl,_,_,?_,rfl,rfl⟩;rw[bx,hc];simp
 ·obtain⟨z,w,rfl,rfl,rfl⟩:=p;rw[ah,cb];exact h
noncomputable def W5(cs:List b8):List D:=(n9 (cs.map b8.lo)).map λd=>.int ((gZ cs.length (meant cs .lower d):Nat):Int)
theorem Wz(hT:TB0 T)(ha:g[a]?=some (.lst (cs.map b8.d)))(hz:cs.length<=9)(hg:cs.all q9=true)(h:∀g' b,Ex g g'->g.length<=b->g'[b]?=some (.lst (W5 cs))->Q (.ref b) g'):d4 T (k+8) 96 [.ref a] g Q E:=by
 refine call_of hT.MR rfl ?_;dsimp[Z9,d8,List.replicate];walk_at"";have zq:(n9 (cs.map b8.lo)).length<=9:=aD (T6 _) (by simpa using hz);unfold W5 at h;refine H9 (b0 T _) (kD (b0 T _) ?_);walk_at"";refine ZR (k:=k) hT ha hz hg ?_;have e0:=Ex.snoc g (O.lst ((n9 (cs.map b8.lo)).map .int));have hb:=d0 (g:=g) (o:=O.lst ((n9 (cs.map b8.lo)).map .int));generalize n9 (cs.map b8.lo)=ds at *;generalize g++[O.lst (ds.map .int)]=g1 at *;refine⟨_,_,rfl,a8 hb,ds.map .int,λi ys Z g'=>Ex g1 g'/\ys=(ds.take i).map (λd=>.int ((gZ cs.length (meant cs .lower d):Nat):Int))/\∃z1 z2,Z=[some (.ref a),z1,z2],by simp;omega,λi ys Z g' q=>⟨q8 (a8 (q.1.at hb)),?_⟩,⟨Ex.refl _,rfl,none,none,rfl⟩,λi x ys Z g' hx q=>?_,λys Z g' q=>?_⟩
 ·obtain⟨_,rfl,_⟩:=q;simp;omega
 ·obtain⟨e1,rfl,z1,z2,rfl⟩:=q;rw[ak,ae] at hx;obtain⟨dd,hd,rfl⟩:=hx;refine l6 ?_
  try show cC _ _ _ _ _ _
  walk_at"";refine N6 (k:=k+4) hT.nf hT.ki hT.qc (w:=.lower) ((e0.trans e1).at ha) (by omega) λg2 b2 e2 _ uw=>?_;walk_at"";refine M5 (k:=k+6) hT.rJ uw (aD S7 (by omega)) (λj hj=>by have:=vk j hj;omega) λg3 e3=>?_;refine⟨e1.trans (e2.trans e3),?_,_,_,rfl⟩;rw[bx,hd];simp[gZ,ia]
 ·obtain⟨e1,rfl,z1,z2,rfl⟩:=q;rw[ah,cb];exact h _ _ (e0.trans (e1.trans (Ex.snoc _ _))) (aD e0.len e1.len) d0
end
theorem GF{g:G}{a:Nat}{ms:List Int}{i:Int}{k:Bool->Prop}(ha:d7 g a=some (ms.map .int))(h:k (ms.any λm=>m==i)):pL g (.int i) (.ref a) k:=by
 refine⟨_,.inr ⟨_,_,_,ha,O0 ms,rfl,lay_ints ms,by simp[PyData.canLay0],rfl⟩,?_⟩;rw[List.any_map];exact h
theorem RB{g:G}{a:Nat}{l:List Nat}{i:Nat}{k:Bool->Prop}(ha:g[a]?=some (.lst (d6 l)))(h:k (decide (i∈l))):pL g (.int (i:Nat)) (.ref a) k:=by
 refine GF (ms:=l.map λ(i:Nat)=>(i:Int)) (by rw[<- Jn];exact a8 ha) ?_;have:((l.map λ(i:Nat)=>(i:Int)).any λm=>m==(i:Int))=decide (i∈l):=by
  rw[aW,bz,cQ];constructor
  ·rintro⟨x,hx,e⟩;obtain⟨j,hj,rfl⟩:=aO.mp hx;rw[fb] at e;rw[show i=j by omega];exact hj
  ·exact λhi=>⟨_,aO.mpr ⟨i,hi,rfl⟩,by simp⟩
 rw[this];exact h
structure mx(g:G)(nb lo n:Nat)(B:Nat->Nat)(F:Nat->Nat->Prop):Prop where
 ex:∃as:List Nat,g[nb]?=some (.lst (as.map .ref))/\as.length=n/\as.Nodup/\(∀a∈as,lo<=a/\a≠nb)/\∀i a,as[i]?=some a->∃ms:List Nat,g[a]?=some (.lst (d6 ms))/\ms.length<=B i/\∀m,m∈ms↔F i m
theorem mx.at{g g':G}{nb lo n:Nat}{B:Nat->Nat}{F:Nat->Nat->Prop}(h:mx g nb lo n B F)(e:Ex g g'):mx g' nb lo n B F :=
 let ⟨as,h1,h2,h3,h4,h5⟩:=h.ex
 ⟨⟨as,e.at h1,h2,h3,h4,λi a hi=>let ⟨ms,m1,m2⟩:=h5 i a hi;⟨ms,e.at m1,m2⟩⟩⟩
theorem mx.imp{g:G}{nb lo n:Nat}{B B':Nat->Nat}{F F':Nat->Nat->Prop}(h:mx g nb lo n B F)(hB:∀i,i<n->B i<=B' i)(hF:∀i m,i<n->(F i m↔F' i m)):mx g nb lo n B' F' :=
 let ⟨as,h1,h2,h3,h4,h5⟩:=h.ex
 ⟨⟨as,h1,h2,h3,h4,λi a hi=>let ⟨ms,m1,m2,m3⟩:=h5 i a hi
  have jA:i<n:=by rw[<- h2];exact(aj.mp hi).1
  ⟨ms,m1,aD m2 (hB i jA),λm=>(m3 m).trans (hF i m jA)⟩⟩⟩
noncomputable def su(cs:List b8)(rs:List dA)(i m:Nat):Prop:=∃r∈rs,meant cs r.w r.y i=true/\m=gZ cs.length (meant cs r.w r.x)
noncomputable def p9(rs:List dA):List D:=rs.map dA.d
theorem GO{α:Type}{l:List α}(h:l.Nodup){i j:Nat}{a:α}(hi:l[i]?=some a)(hj:l[j]?=some a):i=j:=by
 obtain⟨h1,e1⟩:=aj.mp hi;obtain⟨h2,e2⟩:=aj.mp hj;exact(gK h).mp (e1.trans e2.symm)
section
variable{T:Nat->Option aV}{k d:Nat}{g g':G}{Q:KD}{E:KX}{a c p:Nat}{cs:List b8}{rs:List dA}
theorem XF(hT:TB0 T)(ha:g[a]?=some (.lst (cs.map b8.d)))(hz:cs.length<=9)(hc:g[c]?=some (.lst (p9 rs)))(hr:rs.length<=900)(h:∀g' b,Ex g g'->g.length<=b->mx g' b g.length cs.length (λ_=>rs.length) (su cs rs)->Q (.ref b) g'):d4 T (k+4) 97 [.ref a,.ref c] g Q E:=by
 refine call_of hT.MQ rfl ?_;dsimp[O3,d8,List.replicate];walk_at"";refine H9 (b0 T _) (kD (b0 T _) ?_);walk_at"";refine⟨a,_,rfl,a8 ha,cs.map b8.d,λi ys Z g'=>Ex g g'/\(∃as:List Nat,ys=as.map .ref/\as.length=i/\as.Nodup/\∀b∈as,g.length<=b/\g'[b]?=some (.lst []))/\∃z0 z1,Z=[z0,z1],by simp;omega,λi ys Z g' q=>⟨q8 (a8 (q.1.at ha)),?_⟩,⟨Ex.refl _,⟨[],rfl,rfl,by simp,by simp⟩,none,none,rfl⟩,λi x ys Z g' hx q=>?_,λys Z g' q=>?_⟩
 ·obtain⟨_,⟨as,rfl,rfl,_⟩,_⟩:=q;simp
 ·obtain⟨e1,⟨as,rfl,hl,nd,hA⟩,z0,z1,rfl⟩:=q;refine l6 ?_
  try show cC _ _ _ _ _ _
  walk_at"";refine⟨e1.trans (Ex.snoc _ _),⟨as++[g'.length],by simp,by simp[hl],?_,λb hb=>?_⟩,_,_,rfl⟩
  ·rw[cF];exact⟨nd,by simp,λx hx y hy=>by cases ba.mp hy;exact aN (m5 (hA x hx).2)⟩
  ·rcases bj.mp hb with hb|hb
   ·exact⟨(hA b hb).1,(Ex.snoc _ _).at (hA b hb).2⟩
   ·cases ba.mp hb;exact⟨e1.len,d0⟩
 ·obtain⟨e1,⟨as,rfl,hl,nd,hA⟩,z0,z1,rfl⟩:=q;rw[ah] at hl;walk_at"";have e2:=e1.trans (Ex.snoc g' (O.lst (as.map D.ref)));have lo:=e1.len;have N0:mx (g'++[O.lst (as.map D.ref)]) g'.length g.length cs.length (λ_=>0) (su cs []):=⟨⟨as,d0,hl,nd,λb hb=>⟨(hA b hb).1,aN (m5 (hA b hb).2)⟩,λi b hb=>⟨[],(Ex.snoc _ _).at (hA b (aP hb)).2,by simp,λm=>⟨λz=>absurd z (by simp),λ⟨r,hr,_⟩=>absurd hr (by simp)⟩⟩⟩⟩
  generalize g'++[O.lst (as.map D.ref)]=g1 at *;generalize g'.length=nb at *;refine A6 (b0 T _) (kD (b0 T _) ?_);walk_at"";refine⟨c,_,rfl,a8 (e2.at hc),p9 rs,λi Z g'=>Ex g g'/\mx g' nb g.length cs.length (λ_=>i) (su cs (rs.take i))/\∃z3 z4 z5 z6 z7,Z=[some (.ref a),some (.ref c),some (.ref nb),z3,z4,z5,z6,z7],λi Z g' q=>q8 (a8 (q.1.at hc)),⟨e2,N0,none,none,none,none,none,rfl⟩,λi x Z g' hx q=>?_,λZ g' q=>?_⟩
  ·obtain⟨e3,N3,z3,z4,z5,z6,z7,rfl⟩:=q;rw[p9,ak,ae] at hx;obtain⟨r,kY,rfl⟩:=hx;have hi:i<rs.length:=(aj.mp kY).1;refine A8 (l:=[.str r.w.s,.int r.x,.int r.y]) rfl ?_
   try show wpS _ _ _ _ _ _
   walk_at"";refine N6 (k:=k) hT.nf hT.ki hT.qc (e3.at ha) (by omega) λg4 b4 e4 _ MF=>?_;walk_at"";refine M5 (k:=k+2) hT.rJ MF (aD S7 (by omega)) (λj hj=>by have:=vk j hj;omega) λg5 e5=>?_;walk_at"";have wI:=e3.trans (e4.trans e5);have N5:=N3.at (e4.trans e5);have ef:nP (ia cs r.w r.x)=gZ cs.length (meant cs r.w r.x):=rfl;rw[ef];generalize gZ cs.length (meant cs r.w r.x)=first at *
   refine A6 (b0 T _) (kD (b0 T _) ?_);walk_at"";refine N6 (k:=k) hT.nf hT.ki hT.qc (wI.at ha) (by omega) λg6 b6 e6 hb6 Ei=>?_;refine⟨b6,_,rfl,a8 Ei,d6 (ia cs r.w r.y),λj Z g'=>Ex g g'/\g'[b6]?=some (.lst (d6 (ia cs r.w r.y)))/\mx g' nb g.length cs.length (λq=>i+if q∈(ia cs r.w r.y).take j then 1 else 0) (λq m=>su cs (rs.take i) q m\/(q∈(ia cs r.w r.y).take j/\m=first))/\(∀as:List Nat,g'[nb]?=some (.lst (as.map .ref))->b6∉as)/\∃z7,Z=[some (.ref a),some (.ref c),some (.ref nb),some (.str r.w.s),some (.int r.x),some (.int r.y),some (.int (first:Nat)),z7],λj Z g' q=>q8 (a8 q.2.1),⟨wI.trans e6,Ei,(N5.at e6).imp (λq _=>by simp) (λq m _=>by simp),?_,z7,rfl⟩,λj x Z g' hx q=>?_,λZ g' q=>?_⟩
   ·intro xg h' hm;obtain⟨GS,h1,h2,h3,h4,h5⟩:=N5.ex;have:=(e6.at h1).symm.trans h';have e':GS=xg:=by
     have h0:GS.map D.ref=xg.map D.ref:=by injection this with w;injection w
     exact(List.map_inj_right (λx y z=>by injection z)).mp h0
    subst e';obtain⟨i',jA⟩:=cy.mp hm;obtain⟨ms,m1,_⟩:=h5 i' b6 jA;have:=m5 m1;omega
   ·obtain⟨e7,p7,N7,wg,z7,rfl⟩:=q;rw[d6,ak,ae] at hx;obtain⟨q,hq,rfl⟩:=hx;have Eg:q<cs.length:=vk q (aP hq);have LY:q∉(ia cs r.w r.y).take j:=λz=>by
     obtain⟨j',zw⟩:=cy.mp z;have hl:j'<j:=by
      have:=(aj.mp zw).1;simp at this;omega
     rw[cB hl] at zw;have La:(ia cs r.w r.y).Nodup:=gJ.filter _;have:=GO La zw hq;omega
    have tk:(ia cs r.w r.y).take (j+1)=(ia cs r.w r.y).take j++[q]:=by rw[bx,hq];rfl
    obtain⟨vb,h1,h2,h3,h4,h5⟩:=N7.ex;have LL:q<vb.length:=by omega
    have rE:=ag LL;generalize vb[q]=aq at rE;obtain⟨ms,m1,m2,m3⟩:=h5 q aq rE;have gq:gz (vb.map D.ref) (q:Int)=some (.ref aq):=J9 (by rw[ak,rE];rfl);refine l6 ?_
    try show wpS _ _ _ _ _ _
    walk_at"";refine v5 (a8 h1) gq ?_;refine wO (RB m1 ?_);walk_at"";by_cases kG:first∈ms
    ·refine gf (by simp[kG]) ?_;walk_at"";refine⟨e7,p7,N7.imp (λq' _=>?_) (λq' m _=>?_),wg,_,rfl⟩
     ·rw[tk];simp only[List.mem_append,List.mem_singleton];by_cases z:q'∈(ia cs r.w r.y).take j
      ·simp[z]
      ·simp[z]
     ·rw[tk];simp only[List.mem_append,List.mem_singleton];constructor
      ·rintro(z|⟨z1,z2⟩)
       ·exact .inl z
       ·exact .inr ⟨.inl z1,z2⟩
      ·rintro(z|⟨z1|z1,z2⟩)
       ·exact .inl z
       ·exact .inr ⟨z1,z2⟩
       ·subst z1 z2;exact(m3 m).mp kG
    ·refine iA (by simp[kG]) ?_;walk_at"";refine v5 (a8 h1) gq ?_
     try refine⟨vj m1,?_⟩
     walk_at"";rw[aB LY] at m2;refine U3 m1 (by simp[d6];omega) ?_;walk_at"";have lV:=aP rE;have dz:=(h4 aq lV).2;have L':aq≠b6:=λz=>wg vb h1 (z▸lV);have EM:=i0 (o':=O.lst (d6 ms++[D.int (first:Nat)])) h1 dz;refine⟨⟨by simp;exact e7.len,λi' jA=>by rw[aw (by have:=(h4 aq lV).1;omega)];exact e7.old i' jA⟩,i0 p7 L',⟨⟨vb,EM,h2,h3,h4,λi' b hb=>?_⟩⟩,λxg h'=>?_,_,rfl⟩
     ·by_cases wu:i'=q
      ·subst wu;have:b=aq:=by rw[rE] at hb;injection hb with z;exact z.symm
       subst this;refine⟨ms++[first],by rw[get_set m1];simp[d6],?_,λm=>?_⟩
       ·rw[tk];simp;omega
       ·rw[bj,ba,m3 m,tk];simp only[List.mem_append,List.mem_singleton];constructor
        ·rintro((z|⟨z1,z2⟩)|z)
         ·exact .inl z
         ·exact .inr ⟨.inl z1,z2⟩
         ·exact .inr ⟨.inr trivial,z⟩
        ·rintro(z|⟨z1|z1,z2⟩)
         ·exact .inl (.inl z)
         ·exact .inl (.inr ⟨z1,z2⟩)
         ·exact .inr z2
      ·have zF:aq≠b:=λz=>wu (GO h3 hb (z▸rE));obtain⟨Li,k1,k2,k3⟩:=h5 i' b hb;refine⟨Li,i0 k1 zF,?_,λm=>(k3 m).trans ?_⟩
       ·rw[tk];simpa[wu] using k2
       ·rw[tk];simp[wu]
     ·rw[EM] at h';exact wg xg (h1.trans h')
   ·obtain⟨e7,p7,N7,wg,z7,rfl⟩:=q;rw[d6,ah,cb] at N7
    try show wpS _ _ _ _ _ _
    walk_at"";refine⟨e7,N7.imp (λq _=>by split<;>omega) (λq m hq=>?_),_,_,_,_,_,rfl⟩;have tk:rs.take (i+1)=rs.take i++[r]:=by rw[bx,kY];rfl
    unfold su;rw[tk];simp only[List.mem_append,List.mem_singleton];constructor
    ·rintro(⟨r',h1,h2⟩|⟨h1,h2⟩)
     ·exact⟨r',.inl h1,h2⟩
     ·exact⟨r,.inr rfl,(aT.mp h1).2,by rw[h2];exact ef.symm⟩
    ·rintro⟨r',h1|h1,h2,h3⟩
     ·exact .inl ⟨r',h1,h2,h3⟩
     ·subst h1;exact .inr ⟨aT.mpr ⟨aI.mpr hq,h2⟩,by rw[h3];exact ef⟩
  ·obtain⟨e3,N3,z3,z4,z5,z6,z7,rfl⟩:=q;rw[p9,ah,cb] at N3
   try show wpS _ _ _ _ _ _
   walk_at"";exact h _ _ e3 lo N3
end
noncomputable def k6(cs:List b8)(r:dA):Bool:=!decide (r.x=r.y)&&(!(ia cs r.w r.x).isEmpty&&!(ia cs r.w r.y).isEmpty)
theorem in_words{g:G}{w:RW}{kb:Bool->Prop}(h:kb true):pL g (.str w.s) (.tup [.str "coin",.str "lower",.str "upper"]) kb:=by
 refine⟨_,.inr ⟨_,[.str "coin",.str "lower",.str "upper"],.str w.s,rfl,rfl,rfl,by simp only[PyData.canLayAll0,PyData.canLay0,Bool.and_true];decide +kernel,by simp only[PyData.canLay0];cases w<;>decide +kernel,rfl⟩,?_⟩;have:([PyData.str "coin",PyData.str "lower",PyData.str "upper"].any λq=>PyData.eqv q (.str w.s))=true:=by
  simp only[List.any_cons,List.any_nil,PyData.eqv];cases w<;>decide +kernel
 rw[this];exact h
theorem ne_nil{g:G}{a b:Nat}{l:List Nat}{Q:KD}(ha:g[a]?=some (.lst (d6 l)))(hb:g[b]?=some (.lst []))(h:Q (.bl (!l.isEmpty)) g):cL (.cmp .NotEq) [.ref a,.ref b] g Q:=by
 refine Fz (Xr (ms:=l.map λ(i:Nat)=>(i:Int)) (ns:=[]) (by rw[<- Jn];exact a8 ha) (a8 hb) ?_);have:decide ((l.map λ(i:Nat)=>(i:Int))=[])=l.isEmpty:=by cases l<;>simp
 rw[this];exact h
structure Bd(g:G)(b:Nat)(cs:List b8)(v:Int)(rs:List dA):Prop where
 ex:∃w l d nb,g[b]?=some (.ins "Bounds" [("size",.int cs.length),("full",.int ((2 ^ cs.length-1:Nat):Int)),("room",.int v),("worn_by_place",.ref w),("later_by_place",.ref l),("lower_dies",.ref d),("needed_by_place",.ref nb)]) /\
  g[w]?=some (.lst (qV cs mw))/\g[l]?=some (.lst (qV cs iP))/\g[d]?=some (.lst (W5 cs))/\mx g nb 0 cs.length (λ_=>rs.length) (su cs rs)
theorem Bd.at{g g':G}{b:Nat}{cs:List b8}{v:Int}{rs:List dA}(h:Bd g b cs v rs)(e:Ex g g'):Bd g' b cs v rs :=
 let ⟨w,l,d,nb,h1,h2,h3,h4,h5⟩:=h.ex
 ⟨⟨w,l,d,nb,e.at h1,e.at h2,e.at h3,e.at h4,h5.at e⟩⟩
theorem Ys{α:Type}(l:List α)(z:α)(q:α->Bool):((List.range l.length).filter λi=>q (l.getD i z)).length=(l.filter q).length:=by
 have e:l=(List.range l.length).map λi=>l.getD i z:=by
  refine dy λi=>?_;rw[ak];by_cases hi:i<l.length
  ·rw[cv hi,ag hi];simp[List.getD,hi]
  ·rw[aS (by omega),aS (by simpa using hi)]
   rfl
 conv=>rhs;rw[e,List.filter_map,ah]
 rfl
theorem Jg{n:Nat}{q:Nat->Bool}{s:Nat}{S:Nat->Bool}(h:∀i,i<n->s.testBit i=S i):((Builtin.bitAnd ((gZ n q:Nat):Int) (s:Nat)) != 0)=(List.range n).any λi=>S i&&q i:=by
 rw[AM,Nat.and_comm,xt,aW,bz,bz];constructor
 ·rintro⟨i,h1,h2⟩;exact⟨i,h1,by rw[<- h i (aI.mp h1)];exact h2⟩
 ·rintro⟨i,h1,h2⟩;exact⟨i,h1,by rw[h i (aI.mp h1)];exact h2⟩
theorem Z'{n s i:Nat}(h:s<2 ^ n)(hi:i<n):(2 ^ n-1-s).testBit i=!s.testBit i:=by
 rw[show 2 ^ n-1-s=2 ^ n-(s+1) by omega,Nat.testBit_two_pow_sub_succ h,az hi]
 rfl
theorem L6(s p i:Nat):(s |||2 ^ p).testBit i=(s.testBit i||decide (i=p)):=by
 rw[Nat.testBit_or,Nat.testBit_two_pow]
 congr 1
 exact cJ.mpr eq_comm
theorem P7{s p n:Nat}(h:s<2 ^ n)(hp:p<n):s |||2 ^ p<2 ^ n:=Nat.or_lt_two_pow h (Nat.pow_lt_pow_right (by omega) hp)
section
variable{T:Nat->Option aV}{k d:Nat}{g g':G}{Q:KD}{E:KX}{a b c:Nat}{cs:List b8}{rs:List dA}{v:Int}
theorem ZF(hT:TB0 T){r:dA}(ha:g[a]?=some (.lst (cs.map b8.d)))(hz:cs.length<=1000)(h:∀g',Ex g g'->Q (.bl (k6 cs r)) g'):d4 T (k+4) 88 [.ref a,r.d] g Q E:=by
 refine call_of hT.MZ rfl ?_;dsimp[BA,d8,List.replicate];walk_at"";refine A8 (l:=[.str r.w.s,.int r.x,.int r.y]) rfl ?_;walk_at"";refine wO (in_words ?_);walk_at"";refine if2 (λh1=>?_) (λh1=>?_)
 ·walk_at"";have:k6 cs r=false:=by unfold k6;rw[az h1];rfl
  rw[<- this];exact h _ (Ex.refl _)
 ·walk_at"";refine N6 (k:=k) hT.nf hT.ki hT.qc ha hz λg1 b1 e1 _ ux=>?_;walk_at"";refine ne_nil ((Ex.snoc _ _).at ux) d0 ?_;walk_at"";cases h2:(ia cs r.w r.x).isEmpty with
  |true =>
   refine gf rfl ?_;have:k6 cs r=false:=by unfold k6;rw[aF h1,h2];rfl
   rw[<- this];exact h _ (e1.trans (Ex.snoc _ _))
  |false =>
   refine iA rfl ?_;walk_at"";refine N6 (k:=k) hT.nf hT.ki hT.qc ((e1.trans (Ex.snoc _ _)).at ha) hz λg2 b2 e2 _ uw=>?_;walk_at"";refine ne_nil ((Ex.snoc _ _).at uw) d0 ?_;have:k6 cs r=!(ia cs r.w r.y).isEmpty:=by unfold k6;rw[aF h1,h2];rfl
   rw[<- this];exact h _ ((e1.trans (Ex.snoc _ _)).trans (e2.trans (Ex.snoc _ _)))
theorem WJ(hT:TB0 T)(ha:g[a]?=some (.lst (cs.map b8.d)))(hz:cs.length<=1000)(hc:g[c]?=some (.lst (p9 rs)))(hr:rs.length<=900)(h:rs.all (k6 cs)=true->∀g',Ex g g'->Q .bO g')(hn:rs.all (k6 cs)=false->∀g',Ex g g'->E ⟨"BadRule"⟩ g'):d4 T (k+5) 89 [.ref a,.ref c] g Q E:=by
 refine call_of hT.MY rfl ?_;dsimp[V5,d8,List.replicate];walk_at"";refine A6 (b0 T _) (tX ?_);walk_at"";refine⟨c,_,rfl,a8 hc,kj (p9 rs),λi Z g'=>Ex g g'/\(∃z2 z3,Z=[some (.ref a),some (.ref c),z2,z3])/\(rs.take i).all (k6 cs)=true,λi Z g' q=>X7 (a8 (q.1.at hc)),⟨Ex.refl _,⟨none,none,rfl⟩,rfl⟩,λi x Z g' hx q=>?_,λZ g' q=>?_⟩
 ·obtain⟨e1,⟨z2,z3,rfl⟩,q⟩:=q;obtain⟨dd,hd,rfl⟩:=Q2 hx;rw[p9,ak,ae] at hd;obtain⟨r,kY,rfl⟩:=hd;have tk:rs.take (i+1)=rs.take i++[r]:=by rw[bx,kY];rfl
  refine A8 rfl ?_
  try show wpS _ _ _ _ _ _
  walk_at"";refine ZF (k:=k) hT (e1.at ha) hz λg2 e2=>?_;walk_at"";cases hg:k6 cs r with
  |true =>
   walk_at"";exact⟨e1.trans e2,⟨_,_,rfl⟩,by rw[tk,List.all_append,q];simp[hg]⟩
  |false =>
   walk_at"";have hi:i<rs.length:=(aj.mp kY).1;refine TK ?_ ?_
   ·have:(i:Int).natAbs<2 ^ 10:=by rw[Kh];omega
    rw[Kh] at this ⊢;by_cases h0:i=0
    ·subst h0;decide
    ·exact cI ((Nat.log2_lt h0).mpr this) (by decide)
   walk_at"";refine Pq rfl ?_;walk_at"";refine hn ?_ _ (e1.trans e2);rw[List.all_eq_false];exact⟨r,aP kY,by rw[hg];decide⟩
 ·obtain⟨e1,⟨z2,z3,rfl⟩,q⟩:=q;rw[F8,p9,ah,cb] at q;exact h q _ e1
theorem WI(hT:TB0 T)(uC:T 42=some E6)(zT:T 98=some M9)(ha:g[a]?=some (.lst (cs.map b8.d)))(hz:cs.length<=1000)(hc:g[c]?=some (.lst (p9 rs)))(hr:rs.length<=900)(hm:9<cs.length->E ⟨"TooMany"⟩ g)(hb:cs.length<=9->cs.all q9=false->E ⟨"BadCoin"⟩ g)(hv:cs.length<=9->cs.all q9=true->¬(1<=v/\v<=9)->E ⟨"BadAnvils"⟩ g)(hw:cs.length<=9->cs.all q9=true->1<=v/\v<=9->rs.all (k6 cs)=false->∀g',Ex g g'->E ⟨"BadRule"⟩ g')(h:cs.length<=9->cs.all q9=true->1<=v/\v<=9->rs.all (k6 cs)=true->∀g',Ex g g'->Q .bO g'):d4 T (k+7) 98 [.ref a,.int v,.ref c] g Q E:=by
 refine call_of zT rfl ?_;dsimp[M9,d8,List.replicate];walk_at"";refine Y0 (k:=k) hT.nf hT.h2 hT.rK hT.uF ha hz hm hb λh9 hg=>?_;walk_at"";refine WN (k:=k+3) hT.nf uC (λv1 v2=>?_) (hv h9 hg);walk_at"";exact WJ (k:=k+1) hT ha hz hc hr (h h9 hg ⟨v1,v2⟩) (hw h9 hg ⟨v1,v2⟩)
theorem IV{f:Str}{x:D}(fs:List (Str×D)):(k9 f x fs).length<=fs.length+1:=by
 induction fs with
 |nil=>simp[k9]
 |cons y r ih =>
  unfold k9;split<;>simp
  exact ih
theorem W8{f:Str}{x:D}{fs:List (Str×D)}{n:Nat}(h:fs.length+1<n):(k9 f x fs).length<n:=fM (IV fs) h
theorem W7{f:Str}{x:D}{fs:List (Str×D)}{m n:Nat}(h:fs.length+(m+1)<n):(k9 f x fs).length+m<n:=by
 have:=IV (f:=f) (x:=x) fs;omega
noncomputable def f3(n:Nat)(v:Int):List (Str×D):=[("size",.int n),("full",.int ((2 ^ n-1:Nat):Int)),("room",.int v)]
theorem X8(n:Nat)(v:Int):(f3 n v).length=3:=rfl
theorem WH(hT:TB0 T)(ha:g[a]?=some (.lst (cs.map b8.d)))(hz:cs.length<=9)(hg:cs.all q9=true)(hB:∀c∈cs,CB c)(hc:g[c]?=some (.lst (p9 rs)))(hr:rs.length<=900)(hb:g[b]?=some (.ins "Bounds" []))(h:∀g',g.length<=g'.length->(∀i,i<g.length->i≠b->g'[i]?=g[i]?)->Bd g' b cs v rs->Q .bO g'):d4 T (k+9) 113 [.ref b,.ref a,.int v,.ref c] g Q E:=by
 refine call_of hT.zY rfl ?_;dsimp[V7,d8,List.replicate];have tO:b≠a:=λz=>by subst z;rw[ha] at hb;cases hb
 have we:b≠c:=λz=>by subst z;rw[hc] at hb;cases hb
 have lb:=m5 hb;walk_at"";refine Y6 hb (by simp) (by simp) ?_;walk_at"";have rF:=i0 (o':=O.ins "Bounds" (k9 "size" (.int (cs.map b8.d).length) [])) ha tO;refine U8 (a8 rF) ?_;walk_at"";refine BO ⟨by omega,by simp;omega,by decide⟩ ?_;walk_at"";refine Y6 (get_set hb) (by simp) (by first|(simp;done)|(refine W8 ?_;repeat (first|(rw[X8];omega)|(simp;done)|refine W7 ?_))) ?_;rw[gW];walk_at"";refine Y6 (get_set hb) (by simp) (by first|(simp;done)|(refine W8 ?_;repeat (first|(rw[X8];omega)|(simp;done)|refine W7 ?_))) ?_;rw[gW];have e0:k9 "room" (.int v) (k9 "full" (.int (1*2 ^ Int.toNat ((cs.map b8.d).length:Int)-1)) (k9 "size" (.int (cs.map b8.d).length) []))=(f3 cs.length v):=by
  have:(1*2 ^ Int.toNat ((cs.map b8.d).length:Int)-1:Int)=((2 ^ cs.length-1:Nat):Int):=by
   rw[ah,bU,Int.one_mul];have:=fL (n:=cs.length);rw[Int.natCast_sub this];simp
  rw[this,ah]
  rfl
 simp only[e0];have kp:∀(g1:G) (o:O),Ex (g.set b o) g1->(∀i,i<g.length->i≠b->g1[i]?=g[i]?)/\g.length<=g1.length:=λg1 o e=>⟨λi hi hn=>by rw[e.old i (by simpa using hi),aw (bD hn)],by have:=e.len;simpa using this⟩
 generalize ho:O.ins "Bounds" (f3 cs.length v)=o1;have ux:=get_set (o':=o1) hb;have rF:=i0 (o':=o1) ha tO;have pV:=i0 (o':=o1) hc we;have k1:=kp _ o1 (Ex.refl _);generalize g.set b o1=g1 at *;subst ho;walk_at"";refine Tj (k:=k+4) hT rF hz hB λg2 w e2 Ec hw=>?_;walk_at"";refine Y6 (e2.at ux) (by simp) (by rw[X8];omega) ?_;have lw:w≠b:=λz=>by have:=m5 ux;omega
 have zI:=get_set (o':=O.ins "Bounds" (k9 "worn_by_place" (.ref w) (f3 cs.length v))) (e2.at ux);have yY:=i0 (o':=O.ins "Bounds" (k9 "worn_by_place" (.ref w) (f3 cs.length v))) hw lw.symm;have wy:=i0 (o':=O.ins "Bounds" (k9 "worn_by_place" (.ref w) (f3 cs.length v))) (e2.at rF) tO;have wx:=i0 (o':=O.ins "Bounds" (k9 "worn_by_place" (.ref w) (f3 cs.length v))) (e2.at pV) we;have k3:(∀i,i<g.length->i≠b->(g2.set b (O.ins "Bounds" (k9 "worn_by_place" (.ref w) (f3 cs.length v))))[i]?=g[i]?)/\g.length<=(g2.set b (O.ins "Bounds" (k9 "worn_by_place" (.ref w) (f3 cs.length v)))).length:=⟨λi hi hn=>by rw[aw (bD hn),e2.old i (by have:=k1.2;omega)];exact k1.1 i hi hn,by simp;have:=e2.len;have:=k1.2;omega⟩
 generalize g2.set b (O.ins "Bounds" (k9 "worn_by_place" (.ref w) (f3 cs.length v)))=g3 at *;walk_at"";refine XC (k:=k+4) hT wy hz λg4 l e4 zt hl=>?_;walk_at"";refine Y6 (e4.at zI) (by simp) (by first|(simp;done)|(refine W8 ?_;repeat (first|(rw[X8];omega)|(simp;done)|refine W7 ?_))) ?_;have ll:l≠b:=λz=>by have:=m5 zI;omega
 generalize ho:O.ins "Bounds" (k9 "later_by_place" (.ref l) (k9 "worn_by_place" (.ref w) (f3 cs.length v)))=o5;have zH:=get_set (o':=o5) (e4.at zI);have Lz:=i0 (o':=o5) (e4.at yY) lw.symm;have Me:=i0 (o':=o5) hl ll.symm;have EE:=i0 (o':=o5) (e4.at wy) tO;have MA:=i0 (o':=o5) (e4.at wx) we;have k5:(∀i,i<g.length->i≠b->(g4.set b o5)[i]?=g[i]?)/\g.length<=(g4.set b o5).length:=⟨λi hi hn=>by rw[aw (bD hn),e4.old i (by have:=k3.2;omega)];exact k3.1 i hi hn,by simp;have:=e4.len;have:=k3.2;omega⟩
 generalize g4.set b o5=g5 at *;subst ho;walk_at"";refine Wz (k:=k) hT EE hz hg λg6 dd e6 EC hd=>?_;walk_at"";refine Y6 (e6.at zH) (by simp) (by first|(simp;done)|(refine W8 ?_;repeat (first|(rw[X8];omega)|(simp;done)|refine W7 ?_))) ?_;have ld:dd≠b:=λz=>by have:=m5 zH;omega
 generalize ho:O.ins "Bounds" (k9 "lower_dies" (.ref dd) (k9 "later_by_place" (.ref l) (k9 "worn_by_place" (.ref w) (f3 cs.length v))))=o7;have zG:=get_set (o':=o7) (e6.at zH);have Ly:=i0 (o':=o7) (e6.at Lz) lw.symm;have Md:=i0 (o':=o7) (e6.at Me) ll.symm;have Mx:=i0 (o':=o7) hd ld.symm;have MH:=i0 (o':=o7) (e6.at EE) tO;have Mz:=i0 (o':=o7) (e6.at MA) we;have k7:(∀i,i<g.length->i≠b->(g6.set b o7)[i]?=g[i]?)/\g.length<=(g6.set b o7).length:=⟨λi hi hn=>by rw[aw (bD hn),e6.old i (by have:=k5.2;omega)];exact k5.1 i hi hn,by simp;have:=e6.len;have:=k5.2;omega⟩
 generalize g6.set b o7=g7 at *;subst ho;walk_at"";refine XF (k:=k+4) hT MH hz Mz hr λg8 nb e8 hn1 hn=>?_;walk_at"";refine Y6 (e8.at zG) (by simp) (by first|(simp;done)|(refine W8 ?_;repeat (first|(rw[X8];omega)|(simp;done)|refine W7 ?_))) ?_;have lb7:=m5 zG;have ln:nb≠b:=λz=>by omega
 generalize ho:O.ins "Bounds" (k9 "needed_by_place" (.ref nb) (k9 "lower_dies" (.ref dd) (k9 "later_by_place" (.ref l) (k9 "worn_by_place" (.ref w) (f3 cs.length v)))))=o9;refine h _ (by simp;have:=e8.len;have:=k7.2;omega) (λi hi hn=>by rw[aw (bD hn),e8.old i (by have:=k7.2;omega)];exact k7.1 i hi hn) ⟨⟨w,l,dd,nb,?_,i0 (e8.at Ly) lw.symm,i0 (e8.at Md) ll.symm,i0 (e8.at Mx) ld.symm,?_⟩⟩
 ·rw[get_set (e8.at zG),<- ho]
  rfl
 ·obtain⟨as,q1,q2,q3,q4,q5⟩:=hn.ex;exact⟨⟨as,i0 q1 ln.symm,q2,q3,λx hx=>⟨by omega,(q4 x hx).2⟩,λi x hx=>let ⟨ms,m1,m2⟩:=q5 i x hx;⟨ms,i0 m1 (λz=>by have:=(q4 x (aP hx)).1;omega),m2⟩⟩⟩
end
section
variable{T:Nat->Option aV}{k d:Nat}{g g':G}{Q:KD}{E:KX}{a b c:Nat}{cs:List b8}{rs:List dA}{v:Int}
theorem Zx(hT:TB T)(ha:g[a]?=some (.lst (cs.map b8.d)))(hz:cs.length<=1000)(hB:∀c∈cs,CB c)(hc:g[c]?=some (.lst (p9 rs)))(hr:rs.length<=900)(hm:9<cs.length->E ⟨"TooMany"⟩ g)(hb:cs.length<=9->cs.all q9=false->E ⟨"BadCoin"⟩ g)(hv:cs.length<=9->cs.all q9=true->¬(1<=v/\v<=9)->E ⟨"BadAnvils"⟩ g)(hw:cs.length<=9->cs.all q9=true->1<=v/\v<=9->rs.all (k6 cs)=false->∀g',Ex g g'->E ⟨"BadRule"⟩ g')(h:cs.length<=9->cs.all q9=true->1<=v/\v<=9->rs.all (k6 cs)=true->∀g' b,Ex g g'->g.length<=b->Bd g' b cs v rs->Q (.ref b) g'):d4 T (k+10) 99 [.ref a,.int v,.ref c] g Q E:=by
 refine call_of hT.MP rfl ?_;dsimp[By,d8,List.replicate];walk_at"";refine WI (k:=k+2) hT.toTB0 hT.uC hT.zT ha hz hc hr hm hb hv hw λh9 hg hv hR g1 e1=>?_;walk_at"";have x1:=Ex.snoc g1 (O.ins "Bounds" []);refine WH (k:=k) hT (x1.at (e1.at ha)) h9 hg hB (x1.at (e1.at hc)) hr d0 λg2 l2 o2 B2=>?_;refine⟨rfl,h h9 hg hv hR g2 _ ⟨by have:=e1.len;simp at l2;omega,λi hi=>?_⟩ e1.len B2⟩;have:=e1.len;rw[o2 i (by simp;omega) (by omega),x1.old i (by omega)];exact e1.old i hi
theorem Hs(hT:TB T)(ha:g[a]?=some (.lst (cs.map b8.d)))(hz:cs.length<=9)(hg:cs.all q9=true)(hB:∀c∈cs,CB c)(hv:1<=v/\v<=9)(hc:g[c]?=some (.lst (p9 rs)))(hr:rs.length<=900)(hR:rs.all (k6 cs)=true)(h:∀g' b,Ex g g'->g.length<=b->Bd g' b cs v rs->Q (.ref b) g'):d4 T (k+10) 99 [.ref a,.int v,.ref c] g Q E :=
 Zx hT ha (by omega) hB hc hr (λz=>by omega) (λ_ z=>by rw[hg] at z;cases z) (λ_ _ z=>absurd hv z) (λ_ _ _ z=>by rw[hR] at z;cases z) λ_ _ _ _=>h
theorem WK(hT:TB0 T)(B:Bd g b cs v rs)(hz:cs.length<=9){s p:Nat}(hs:s<2 ^ cs.length)(hp:p<cs.length)(h:∀g',Ex g g'->Q (.int (Y4 cs s.testBit p:Nat)) g'):d4 T (k+2) 100 [.ref b,.int (s:Nat),.int (p:Nat)] g Q E:=by
 refine call_of hT.Ad rfl ?_;dsimp[Z8,d8,List.replicate];obtain⟨w,l,dd,nb,h1,h2,h3,h4,h5⟩:=B.ex;walk_at"";refine p8 (k:=k) hT.kZ (by omega) ?_;walk_at"";refine S5 h1 rfl ?_;walk_at"";have e1:((2 ^ cs.length-1:Nat):Int)-(s:Nat)=((2 ^ cs.length-1-s:Nat):Int):=by omega
 rw[e1];have zq:(n9 (cs.map b8.lo)).length<=9:=aD (T6 _) (by simpa using hz);have EB:(W5 cs).length=(n9 (cs.map b8.lo)).length:=by simp[W5]
 refine C3 (b0 T _) (λZ=>∃z2 z3,Z=[some (.int ((2 ^ cs.length-1-s:Nat):Int)),some (.int ((s |||2 ^ p:Nat):Int)),z2,z3]) (λi=>O2 cs s.testBit p ((n9 (cs.map b8.lo)).getD i 0)) (λi=>(W5 cs).getD i .bO) (l:=W5 cs) (k:=.lst dd) (λg' e=>q8 (a8 (e.at h4))) (by rw[EB];omega) ⟨none,none,rfl⟩ (λi x Z g' hx e sh=>?_) (λg' e=>?_) (nE (b0 T _) (a8 h4) λQ q=>?_)
 ·obtain⟨z2,z3,rfl⟩:=sh;have nZ:=hx;rw[W5,ak,ae] at nZ;obtain⟨oA,hd,rfl⟩:=nZ;have eg:(n9 (cs.map b8.lo)).getD i 0=oA:=by simp[List.getD,hd]
  refine l6 ?_
  try show cC _ _ _ _ _ _
  walk_at"";refine vd ?_;walk_at"";have b1:=Jg (n:=cs.length) (q:=meant cs .lower oA) (s:=s |||2 ^ p) (S:=λi=>s.testBit i||decide (i=p)) (λi _=>L6 s p i);have b2:=Jg (n:=cs.length) (q:=meant cs .lower oA) (s:=2 ^ cs.length-1-s) (S:=λi=>!s.testBit i) (λi hi=>Z' hs hi);rw[b1,eg];have hu:O2 cs s.testBit p oA=(((List.range cs.length).any λi=>(s.testBit i||decide (i=p))&&meant cs .lower oA i)&&(List.range cs.length).any λi=>!s.testBit i&&meant cs .lower oA i):=rfl;rw[hu];cases (List.range cs.length).any λi=>(s.testBit i||decide (i=p))&&meant cs .lower oA i with
  |false =>
   refine gf rfl ?_;exact⟨rfl,e,gf rfl ⟨_,_,rfl⟩⟩
  |true =>
   refine iA rfl ?_;walk_at"";refine vd ?_;walk_at"";rw[b2,ph];refine⟨rfl,e,?_⟩;cases (List.range cs.length).any λi=>!s.testBit i&&meant cs .lower oA i with
   |false=>exact gf rfl ⟨_,_,rfl⟩
   |true =>
    refine iA rfl ?_;walk_at"";refine⟨?_,e,_,_,rfl⟩;simp[List.getD,hx]
 ·refine U8 (a8 d0) ?_;have:(((List.range (W5 cs).length).filter λi=>O2 cs s.testBit p ((n9 (cs.map b8.lo)).getD i 0)).map λi=>(W5 cs).getD i .bO).length=Y4 cs s.testBit p:=by
   rw[ah,EB,Ys (n9 (cs.map b8.lo)) 0 (O2 cs s.testBit p)]
   rfl
  rw[this];exact h _ (e.trans (Ex.snoc _ _))
 ·walk_at"";exact S5 h1 rfl q
theorem Io{q:b8->b8->Bool}{p:Nat}(hp:p<cs.length):gz (qV cs q) (p:Int)=some (.int ((gZ cs.length λj=>q (dq cs j) (dq cs p):Nat):Int)):=J9 (by rw[qV,ak,cv hp];rfl)
theorem Jh{s n:Nat}{q:Nat->Bool}:((Builtin.bitAnd (s:Nat) ((gZ n q:Nat):Int)) != 0)=(List.range n).any λi=>s.testBit i&&q i:=by rw[AM,xt]
theorem HN(hT:TB0 T)(B:Bd g b cs v rs)(hz:cs.length<=9)(hr:rs.length<=900){s p:Nat}(hs:s<2 ^ cs.length)(hp:p<cs.length)(h:∀g',Ex g g'->Q (rL (fault cs v rs s.testBit p)) g'):d4 T (k+3) 101 [.ref b,.int (s:Nat),.int (p:Nat)] g Q E:=by
 refine call_of hT.Ac rfl ?_;dsimp[Z4,d8,List.replicate];obtain⟨w,l,dd,nb,h1,h2,h3,h4,h5⟩:=B.ex;walk_at"";refine S5 h1 rfl ?_;walk_at"";refine v5 (a8 h2) (Io hp) ?_;refine vd ?_;walk_at"";rw[Jh];cases c1:(List.range cs.length).any λi=>s.testBit i&&mw (dq cs i) (dq cs p) with
 |true =>
  refine iA rfl ?_;walk_at"";have:fault cs v rs s.testBit p="wear":=by unfold fault M4;rw[aH c1]
  rw[this] at h;exact h _ (Ex.refl _)
 |false =>
 refine gf rfl ?_;walk_at"";refine S5 h1 rfl ?_;walk_at"";refine v5 (a8 h3) (Io hp) ?_;refine vd ?_;walk_at"";rw[Jh];cases c2:(List.range cs.length).any λi=>s.testBit i&&iP (dq cs i) (dq cs p) with
 |true =>
  refine iA rfl ?_;walk_at"";have:fault cs v rs s.testBit p="year":=by unfold fault M4 P2;rw[aB (by rw[c1];decide),aH c2]
  rw[this] at h;exact h _ (Ex.refl _)
 |false =>
 refine gf rfl ?_;walk_at"";refine WK (k:=k) hT B hz hs hp λg2 e2=>?_;walk_at"";refine S5 (e2.at h1) rfl ?_;walk_at"";refine if2 (λc3=>?_) (λc3=>?_)
 ·walk_at"";have:fault cs v rs s.testBit p="anvil":=by unfold fault M4 P2;rw[aB (by rw[c1];decide),aB (by rw[c2];decide),aH c3]
  rw[this] at h;exact h _ e2
 walk_at"";obtain⟨as,q1,q2,q3,q4,q5⟩:=h5.ex;have LP:p<as.length:=by omega
 have zJ:=ag LP;generalize as[p]=ap at zJ;obtain⟨ms,m1,m2,m3⟩:=q5 p ap zJ;refine comp_map (b0 T _) (λZ=>∃z1 z2,Z=[some (.int (s:Nat)),z1,z2]) (λi=>.int ((s &&& ms.getD i 0:Nat):Int)) (l:=d6 ms) (k:=.lst ap) (λg' e=>q8 (a8 ((e2.trans e).at m1))) (by simp[d6];omega) ⟨none,none,rfl⟩ (λi x Z g' hx e sh=>?_) (λg' e=>?_) (nE (b0 T _) (a8 (e2.at m1)) λQ q=>?_)
 ·obtain⟨z1,z2,rfl⟩:=sh;rw[d6,ak,ae] at hx;obtain⟨m,hm,rfl⟩:=hx;refine l6 ?_
  try show aK _ _ _ _ _ _
  walk_at"";refine vd ?_;refine⟨?_,e,_,_,rfl⟩;rw[AM];simp[List.getD,hm]
 ·refine Vf (ns:=(List.range (d6 ms).length).map λi=>((s &&& ms.getD i 0:Nat):Int)) (a8 (by rw[bE];exact d0)) ?_;have en:(((List.range (d6 ms).length).map λi=>((s &&& ms.getD i 0:Nat):Int)).all λn=>n != 0)=M6 cs rs s.testBit p:=by
   rw[aW,bq];unfold M6;rw[bq];constructor
   ·intro hA r hr;cases zk:meant cs r.w r.y p with
    |false=>rfl
    |true =>
     have hm:=(m3 (gZ cs.length (meant cs r.w r.x))).mpr ⟨r,hr,zk,rfl⟩;obtain⟨i,hi⟩:=cy.mp hm;have Eo:=(aj.mp hi).1;have:=hA ((s &&& gZ cs.length (meant cs r.w r.x):Nat):Int) (aO.mpr ⟨i,aI.mpr (by simpa[d6] using Eo),by simp[List.getD,hi]⟩);rw[xt] at this;exact this
   ·intro hA x hx;obtain⟨i,hi,rfl⟩:=aO.mp hx;have hi:i<ms.length:=by simpa[d6] using hi
    have hm:ms.getD i 0∈ms:=by simp[List.getD,hi]
    obtain⟨r,hr,zk,em⟩:=(m3 _).mp hm;have:=hA r hr;rw[zk,Bool.not_true,pj] at this;rw[em,xt];exact this
  rw[en];walk_at"";cases c4:M6 cs rs s.testBit p with
  |true =>
   walk_at"";have:fault cs v rs s.testBit p="":=by unfold fault M4 P2;rw[aB (by rw[c1];decide),aB (by rw[c2];decide),aB c3,aH c4]
   rw[this] at h;exact h _ (e2.trans (e.trans (Ex.snoc _ _)))
  |false =>
   walk_at"";have:fault cs v rs s.testBit p="rule":=by unfold fault M4 P2;rw[aB (by rw[c1];decide),aB (by rw[c2];decide),aB c3,aB (by rw[c4];decide)]
   rw[this] at h;exact h _ (e2.trans (e.trans (Ex.snoc _ _)))
 ·walk_at"";refine S5 (e2.at h1) rfl ?_;walk_at"";exact v5 (a8 (e2.at q1)) (J9 (by rw[ak,zJ];rfl)) q
end
noncomputable def sk:aV:=⟨2,5,(.seq (.set 2 (cY (.prim .lst (nL (hJ "coin") (hJ "coin") (hJ "lower") (hJ "upper"))) (.call 4 (dg aL (bg 4))))) (.seq (.set 3 (dY .iT (dY .len bh))) (.seq (.ifs (eJ .Eq bo (hJ "lower")) (.seq (.set 3 (dY .sset (.comp [] 2 (.one 1) (.fj bh) .no (cY bh (bg 0))))) .pass) .pass) (.seq (.ifs (eJ .Eq bo (hJ "upper")) (.seq (.set 3 (dY .sset (.comp [] 2 (.one 1) (.fj bh) .no (cY bh (bg 2))))) .pass) .pass) (.seq (.ifs (eJ .Lt (dY .len bS) (bg 2)) (.seq (.ret (.lit .bO)) .pass) .pass) (.seq (.set 4 (.call 4 (dg aL (dY .len bS)))) (.seq (.ret (.prim .tup (fR bo (cY bS cM) (cY bS (cu (.bin .Mod) (cu (.bin .Add) (cu (.bin .Add) cM (bg 1)) (.call 4 (dg aL (cu (.bin .Sub) (dY .len bS) (bg 1))))) (dY .len bS)))))) .pass)))))))⟩
noncomputable def Cy:aV:=⟨2,5,(.seq (.set 2 (.prim .lst .nil)) (.seq (.dI (.one 3) (.eY (cY (.prim .lst (EL (bg 0) (bg 0) (bg 1) (bg 1) (bg 2) (bg 4))) (.call 4 (dg aL (bg 6))))) (.seq (.set 4 (.call 105 (dg aL bh))) (.seq (.ifs (eJ .IsNot cM (.lit .bO)) (.seq (.expr (.eF .append bo (eK cM))) .pass) .pass) .pass))) (.seq (.ret bo) .pass)))⟩
structure xY(T:Nat->Option aV):Prop where
 lf:LF T
 Aa:T 105=some sk
 zZ:T 106=some Cy
theorem Ij{cs:List b8}{w:RW}{x:Int}{i:Nat}(hi:i<cs.length)(h:meant cs w x i=true):(ia cs w x).isEmpty=false:=by
 cases e:ia cs w x with
 |nil =>
  have:i∈ia cs w x:=aT.mpr ⟨aI.mpr hi,h⟩;rw[e] at this;cases this
 |cons _ _=>rfl
section
variable{T:Nat->Option aV}{k d:Nat}{g g':G}{Q:KD}{E:KX}{a b c:Nat}{cs:List b8}{rs:List dA}{v:Int}
theorem GJ{ns:List Int}{x:Int}:x∈n9 ns↔x∈ns:=by
 rw[(O6 ns).mem_iff,ST.Hj];simp
theorem Jr(ns:List Int):(n9 ns).Nodup:=(O6 ns).nodup_iff.mpr (ST.GL _ _ (by simp))
theorem GV(hT:xY T)(D0:j6 g d){w:RW}{L:List Int}{sL:Nat}{N:Ends}(hN:N.rt=Q)(hL:g[sL]?=some (.lst (L.map .int)))(hd:sL≠d)(nd:L.Nodup)(hl:L.length<=9)(hm:∀x∈L,(ia cs w x).isEmpty=false)(h:∀g',j6 g' d->Gr d g g'->Q .bO g'/\∀r,k6 cs r=true->Q r.d g'):wpS (d4 T (k+1)) (match sk.body with|.seq _ (.seq _ (.seq _ (.seq _ b)))=>b|x=>x) N [some (.ref d),some (.ref a),some (.str w.s),some (.ref sL),none] g E:=by
 subst hN;dsimp[sk];walk_at"";refine if2 (λh2=>?_) (λh2=>?_)
 ·walk_at"";exact(h g D0 (Gr.refl _ _)).1
 rw[ah] at h2;walk_at"";refine i5 (k:=k) hT.lf.pull D0 (by rw[ah];omega) (by rw[ah];omega) λr1 g1 h0 h1 D1 G1=>?_;rw[ah] at h1;walk_at"";obtain⟨j,rfl⟩:∃j:Nat,r1=j:=⟨r1.toNat,by omega⟩
 have hj:j<L.length:=by omega
 have gj:gz (L.map D.int) (j:Int)=some (.int L[j]):=J9 (by rw[ak,ag hj];rfl);refine v5 (a8 (G1.at hd hL)) gj ?_;walk_at"";refine U8 (a8 (G1.at hd hL)) ?_;walk_at"";refine i5 (k:=k) hT.lf.pull D1 (by rw[ah];omega) (by rw[ah];omega) λr2 g2 k0 k1 D2 G2=>?_;rw[ah] at k1;walk_at"";have qa:=(G1.trans G2).at hd hL;refine U8 (a8 qa) ?_;walk_at"";refine P6 (by rw[ah];omega) ?_;obtain⟨j2,rfl⟩:∃j:Nat,r2=j:=⟨r2.toNat,by omega⟩
 have em:((j:Int)+1+(j2:Nat)) % ((L.map D.int).length:Nat)=(((j+1+j2) % L.length:Nat):Int):=by rw[ah,Int.natCast_emod,show((j+1+j2:Nat):Int)=(j:Int)+1+(j2:Nat) by omega]
 rw[em];have En:(j+1+j2) % L.length<L.length:=Kd _ (by omega);have dz:(j+1+j2) % L.length≠j:=by
  by_cases hc:j+1+j2<L.length
  ·rw[Nat.mod_eq_of_lt hc];omega
  ·rw[Nat.mod_eq_sub_mod (by omega),Nat.mod_eq_of_lt (by omega)];omega
 generalize (j+1+j2) % L.length=j3 at *;have Nm:gz (L.map D.int) (j3:Int)=some (.int L[j3]):=J9 (by rw[ak,ag En];rfl);refine v5 (a8 qa) Nm ?_;walk_at"";refine(h g2 D2 (G1.trans G2)).2 ⟨w,L[j],L[j3]⟩ ?_;unfold k6;rw[hm _ (cc hj),hm _ (cc En),aF (λz=>dz ((gK nd).mp z).symm)]
 rfl
theorem Sz(hT:xY T)(ha:g[a]?=some (.lst (cs.map b8.d)))(hz:cs.length<=9)(hd:d<a)(D0:j6 g d)(h:∀g',j6 g' d->Gr d g g'->Q .bO g'/\∀r,k6 cs r=true->Q r.d g'):d4 T (k+2) 105 [.ref d,.ref a] g Q E:=by
 refine call_of hT.Aa rfl ?_;dsimp[sk,d8,List.replicate];walk_at"";refine i5 (k:=k) hT.lf.pull (D0.snoc _) (by decide) (by decide) λr0 g1 h0 h1 D1 G1=>?_;have Df:=(Gr.snoc d g _).trans G1;have rF:=Df.at (bP hd) ha;have l1:=Df.len;have dl:=D0.lt;have hw:∃w:RW,gz [D.str "coin",D.str "coin",D.str "lower",D.str "upper"] r0=some (.str w.s):=by
  obtain⟨j,rfl⟩:∃j:Nat,r0=j:=⟨r0.toNat,by omega⟩
  have:j=0\/j=1\/j=2\/j=3:=by omega
  rcases this with rfl|rfl|rfl|rfl
  ·exact⟨.ff,rfl⟩
  ·exact⟨.ff,rfl⟩
  ·exact⟨.lower,rfl⟩
  ·exact⟨.upper,rfl⟩
 obtain⟨w,hw⟩:=hw;walk_at"";refine v5 (a8 (G1.at (bP dl) d0)) hw ?_;walk_at"";refine DU (by omega) (by simp;omega) ?_;walk_at"";have e2:=Ex.snoc g1 (O.lst (k8 0 (Int.toNat ((cs.map b8.d).length:Nat))));have rm:=d0 (g:=g1) (o:=O.lst (k8 0 (Int.toNat ((cs.map b8.d).length:Nat))));generalize g1++[O.lst (k8 0 (Int.toNat ((cs.map b8.d).length:Nat)))]=g2 at *;have wz:=e2.at rF;have D2:=e2.draw D1;have G2:=Df.trans (e2.gr d);have fld:∀(f:Int) (w:RW) (N:Ends),(f=0\/f=2)->(∀i c,cs[i]?=some c->∀x,meant cs w x i=decide (oH f c=x))->N.rt=Q->aK (d4 T (k+1)) (.prim .sset (.cons (.comp [] 2 (.one 1) (.fj (.var 1)) .no (.prim .ix (.cons (.var 1) (.cons (.lit (.int f)) .nil)))) .nil)) [some (.ref d),some (.ref a),some (.str w.s),some (.ref g1.length),none] g2 (λx g3=>wpS (d4 T (k+1)) (match sk.body with|.seq _ (.seq _ (.seq _ (.seq _ b)))=>b|x=>x) N [some (.ref d),some (.ref a),some (.str w.s),some x,none] g3 E) E:=λf w N hf hm hN=>by
  walk_at"";refine comp_map (b0 T _) (λZ=>∃z0 z1,Z=[z0,z1]) (λi=>.int (oH f (dq cs i))) (l:=cs.map b8.d) (k:=.lst a) (λg' e=>q8 (a8 (e.at wz))) (by simp;omega) ⟨none,none,rfl⟩ (λi x Z g' hx e sh=>?_) (λg' e=>?_) (nE (b0 T _) (a8 wz) λQ q=>w_var (d:=.ref a) rfl q)
  ·obtain⟨z0,z1,rfl⟩:=sh;rw[ak,ae] at hx;obtain⟨c,hc,rfl⟩:=hx;refine l6 ?_
   try show aK _ _ _ _ _ _
   walk_at"";refine C5 (HS hf c) ?_;exact⟨by rw[B5 hc],e,_,_,rfl⟩
  ·refine Pt (ns:=(List.range cs.length).map λi=>oH f (dq cs i)) (a8 (by rw[bE];rw[d0,ah];rfl)) (by simp;omega) ?_;have e3:=(e.trans (Ex.snoc g' (O.lst ((List.range (cs.map b8.d).length).map λi=>D.int (oH f (dq cs i)))))).trans (Ex.snoc _ (O.lst ((n9 ((List.range cs.length).map λi=>oH f (dq cs i))).map .int)));have zq:(n9 ((List.range cs.length).map λi=>oH f (dq cs i))).length<=9:=aD (T6 _) (by simpa using hz);refine GV (k:=k) hT (e3.draw D2) hN d0 (by have:=D2.lt;have:=e.len;simp;omega) (Jr _) zq (λx hx=>?_) λg4 D4 G4=>h g4 D4 (G2.trans ((e3.gr d).trans G4));rw[GJ] at hx;obtain⟨i,hi,rfl⟩:=aO.mp hx;have hi:=aI.mp hi;have hc:=ag hi;refine Ij hi ?_;rw[hm i _ hc,B5 hc];exact az rfl
 cases w with
 |ff =>
  refine gf (by decide +kernel) ?_;walk_at"";refine gf (by decide +kernel) ?_
  try refine Q5 ?_
  have er:k8 0 (Int.toNat ((cs.map b8.d).length:Nat))=((List.range cs.length).map λ(i:Nat)=>(i:Int)).map D.int:=by
   simp[k8]
  refine GV (k:=k) hT (w:=.ff) (L:=(List.range cs.length).map λ(i:Nat)=>(i:Int)) D2 rfl (by rw[<- er];exact rm) (by omega) ?_ (by simpa using hz) (λx hx=>?_) λg4 D4 G4=>h g4 D4 (G2.trans G4)
  ·exact jM.mpr (gJ.imp λh e=>h (by omega))
  ·obtain⟨i,hi,rfl⟩:=aO.mp hx;exact Ij (aI.mp hi) (az rfl)
 |lower =>
  refine iA (by decide +kernel) ?_;refine vo ?_;refine xf ?_;refine c6 (b0 T _) _ _ _ _ _ _ _ (λx g3 q=>?_) (λ_ _ z=>z) (fld 0 .lower ⟨λ_ g'=>Q .bO g',Q,λ_ _=>False,λ_ _=>False⟩ (.inl rfl) (λi c hc x=>by simp only[meant,B5 hc];rfl) rfl);refine Cj ?_;walk_at"";refine gf (by decide +kernel) ?_
  try refine Q5 ?_
  exact q
 |upper =>
  refine gf (by decide +kernel) ?_;walk_at"";refine iA (by decide +kernel) ?_;refine vo ?_;refine xf ?_;exact fld 2 .upper _ (.inr rfl) (λi c hc x=>by simp only[meant,B5 hc];rfl) rfl
end
section
variable{T:Nat->Option aV}{k d:Nat}{g g':G}{Q:KD}{E:KX}{a b c:Nat}{cs:List b8}{rs:List dA}{v:Int}
theorem a19(hT:xY T)(ha:g[a]?=some (.lst (cs.map b8.d)))(hz:cs.length<=9)(hd:d<a)(D0:j6 g d)(h:∀(rs:List dA) b g',rs.length<=4->rs.all (k6 cs)=true->g'[b]?=some (.lst (p9 rs))->g.length<=b->j6 g' d->Gr d g g'->Q (.ref b) g'):d4 T (k+3) 106 [.ref d,.ref a] g Q E:=by
 refine call_of hT.zZ rfl ?_;dsimp[Cy,d8,List.replicate];walk_at"";have dl:=D0.lt;have e1:=Ex.snoc g (O.lst []);have Ey:=d0 (g:=g) (o:=O.lst []);have D1:=D0.snoc (O.lst []);generalize g++[O.lst []]=g1 at *;refine A6 (b0 T _) (oJ (b0 T _) ?_);walk_at"";refine i5 (k:=k+1) hT.lf.pull (D1.snoc _) (by decide) (by decide) λr0 g2 h0 h1 D2 G2=>?_;have l1:=m5 Ey;have hw:∃j:Nat,j<=4/\gz [D.int 0,D.int 0,D.int 1,D.int 1,D.int 2,D.int 4] r0=some (.int (j:Nat)):=by
  obtain⟨j,rfl⟩:∃j:Nat,r0=j:=⟨r0.toNat,by omega⟩
  have:j=0\/j=1\/j=2\/j=3\/j=4\/j=5:=by omega
  rcases this with rfl|rfl|rfl|rfl|rfl|rfl
  ·exact⟨0,by decide,rfl⟩
  ·exact⟨0,by decide,rfl⟩
  ·exact⟨1,by decide,rfl⟩
  ·exact⟨1,by decide,rfl⟩
  ·exact⟨2,by decide,rfl⟩
  ·exact⟨4,by decide,rfl⟩
 obtain⟨j,hj,hw⟩:=hw;refine v5 (a8 (G2.at (by omega) d0)) hw ?_;refine⟨j,rfl,by omega,by omega,_,λi Z g'=>j6 g' d/\Gr d g g'/\(∃rs:List dA,rs.length<=i/\rs.all (k6 cs)=true/\g'[g.length]?=some (.lst (p9 rs)))/\∃z3 z4,Z=[some (.ref d),some (.ref a),some (.ref g.length),z3,z4],λ_ _ _ _=>x8,⟨D2,(e1.gr d).trans ((Gr.snoc d g1 _).trans G2),⟨[],by simp,rfl,((Gr.snoc d g1 _).trans G2).at (by omega) Ey⟩,none,none,rfl⟩,λi x Z g' hx q=>?_,λZ g' q=>?_⟩
 ·obtain⟨D3,G3,⟨rs,hl,hA,hF⟩,z3,z4,rfl⟩:=q;obtain⟨hi,rfl⟩:=E2 hx;have hi:i<j:=by simpa using hi
  refine l6 ?_
  try show wpS _ _ _ _ _ _
  walk_at"";have wy:=G3.at (bP hd) ha;refine Sz (k:=k) hT wy hz hd D3 λg4 D4 G4=>⟨?_,λr hr=>?_⟩
  ·walk_at"";exact⟨D4,G3.trans G4,⟨rs,by omega,hA,G4.at (by omega) hF⟩,_,_,rfl⟩
  ·walk_at"";refine iA rfl ?_;walk_at"";have zQ:=G4.at (by omega) hF
   try refine⟨vj zQ,?_⟩
   walk_at"";refine U3 zQ (by simp[p9];omega) ?_;walk_at"";refine⟨D4.J1 (by omega),(G3.trans G4).J1 (av _),⟨rs++[r],by simp;omega,by rw[List.all_append,hA];simp[hr],?_⟩,_,_,rfl⟩;rw[get_set zQ];simp[p9]
 ·obtain⟨D3,G3,⟨rs,hl,hA,hF⟩,z3,z4,rfl⟩:=q;rw[n4] at hl
  try show wpS _ _ _ _ _ _
  walk_at"";exact h rs _ _ (by simp at hl;omega) hA hF (av _) D3 G3
end
noncomputable abbrev kX(H:List Nat):Nat->Bool:=λi=>decide (i∈H)
section
variable{T:Nat->Option aV}{k d:Nat}{g g':G}{Q:KD}{E:KX}{a b c hl p:Nat}{cs:List b8}{rs:List dA}{v:Int}{H:List Nat}
end
section
variable{T:Nat->Option aV}{k d:Nat}{g g':G}{Q:KD}{E:KX}{a b c hl p:Nat}{cs:List b8}{rs:List dA}{v:Int}{H:List Nat}
end
noncomputable def Z6:aV:=⟨3,3,(.seq (.ret (.dQ (cu (.cmp .NotEq) (.call 91 (dg bh bo)) bh) (cu (.cmp .Is) (.call 101 (fR aL bh bo)) (.lit .bO)))) .pass)⟩
noncomputable def Z7:aV:=⟨2,2,(.seq (.ret (.comp [0,1] 4 (.one 3) (.eY (dY (.fld "size") aL)) (.fy (.call 115 (fR aL bh bS))) bS)) .pass)⟩
noncomputable def W3(cs:List b8)(v:Int)(rs:List dA)(s p:Nat):Bool:=!s.testBit p&&decide (fault cs v rs s.testBit p="")
noncomputable def i9(cs:List b8)(v:Int)(rs:List dA)(s:Nat):List Nat:=(List.range cs.length).filter (W3 cs v rs s)
theorem Jo(x:Str):K7 (rL x)=decide (x=""):=by
 unfold rL;by_cases h:x=""
 ·rw[aH h,az h];rfl
 ·rw[aB h,aF h];rfl
theorem VU{s p:Nat}:decide (((s |||2 ^ p:Nat):Int)=(s:Nat))=s.testBit p:=by
 rw[aW,cQ];constructor
 ·intro h;have h:s |||2 ^ p=s:=by omega
  have:=L6 s p p;rw[h] at this;rw[this];simp
 ·intro h;have:s |||2 ^ p=s:=yc λi=>by
   rw[L6];by_cases hi:i=p
   ·subst hi;rw[h];rfl
   ·rw[aF hi,Bool.or_false]
  rw[this]
structure TF(T:Nat->Option aV):Prop where
 qi:T 115=some Z6
 zX:T 116=some Z7
section
variable{T:Nat->Option aV}{k d:Nat}{g g':G}{Q:KD}{E:KX}{a b c hl p:Nat}{cs:List b8}{rs:List dA}{v:Int}{H:List Nat}
theorem Yv(hT:TB0 T)(qi:T 115=some Z6)(B:Bd g b cs v rs)(hz:cs.length<=9)(hr:rs.length<=900){s p:Nat}(hs:s<2 ^ cs.length)(hp:p<cs.length)(h:∀g',Ex g g'->Q (.bl (W3 cs v rs s p)) g'):d4 T (k+4) 115 [.ref b,.int (s:Nat),.int (p:Nat)] g Q E:=by
 refine call_of qi rfl ?_;dsimp[Z6,d8,List.replicate];walk_at"";refine p8 (k:=k+2) hT.kZ (by omega) ?_;walk_at"";rw[VU];cases hb:s.testBit p with
 |true =>
  refine gf rfl ?_;have:W3 cs v rs s p=false:=by unfold W3;rw[hb];rfl
  rw[this] at h;exact h _ (Ex.refl _)
 |false =>
  refine iA rfl ?_;walk_at"";refine HN (k:=k) hT B hz hr hs hp λg1 e1=>?_;walk_at"";have:W3 cs v rs s p=K7 (rL (fault cs v rs s.testBit p)):=by unfold W3;rw[hb,Jo];rfl
  rw[this] at h;exact h _ e1
theorem L0(hT:TB0 T)(hF:TF T)(B:Bd g b cs v rs)(hz:cs.length<=9)(hr:rs.length<=900){s:Nat}(hs:s<2 ^ cs.length)(h:∀g' l,Ex g g'->g.length<=l->g'[l]?=some (.lst (d6 (i9 cs v rs s)))->Q (.ref l) g'):d4 T (k+5) 116 [.ref b,.int (s:Nat)] g Q E:=by
 refine call_of hF.zX rfl ?_;dsimp[Z7,d8,List.replicate];obtain⟨w,l,dd,nb,h1,h2,h3,h4,h5⟩:=B.ex;walk_at"";refine C3 (b0 T _) (λZ=>∃z2 z3,Z=[some (.ref b),some (.int (s:Nat)),z2,z3]) (W3 cs v rs s) (λi=>.int (i:Nat)) (l:=k8 0 cs.length) (λg' e=>x8) (by rw[n4];omega) ⟨none,none,rfl⟩ (λi d Z g' hx e sh=>?_) (λg' e=>?_) (CO (b0 T _) (by omega:cs.length<=1000) λQ q=>?_)
 ·obtain⟨z2,z3,rfl⟩:=sh;obtain⟨hi,rfl⟩:=E2 hx;rw[jO];refine l6 ?_
  try show cC _ _ _ _ _ _
  walk_at"";refine Yv (k:=k) hT hF.qi (B.at e) hz hr hs hi λg2 e2=>?_;walk_at"";refine⟨rfl,e.trans e2,?_⟩;cases W3 cs v rs s i with
  |true =>
   refine iA rfl ?_;walk_at"";exact⟨rfl,e.trans e2,_,_,rfl⟩
  |false=>exact gf rfl ⟨_,_,rfl⟩
 ·rw[n4];exact h _ _ (e.trans (Ex.snoc _ _)) e.len d0
 ·walk_at"";exact S5 h1 rfl q
end
noncomputable def K5:aV:=⟨2,4,(.seq (.ifs (eJ .NotEq (dY .len bh) aL) (.seq (.ret (cu .tup (hJ "many") (dY .len bh))) .pass) .pass) (.seq (.dI (.many [2,3]) (.jH bh) (.seq (.ifs (.dH (.fy (.call 1 (fR bS (bg 0) (cu (.bin .Sub) aL (bg 1)))))) (.seq (.ret (cu .tup (hJ "stranger") bo)) .pass) .pass) (.seq (.ifs (eJ .In bS (cu (.lG false true) bh bo)) (.seq (.ret (cu .tup (hJ "twice") bo)) .pass) .pass) .pass))) (.seq (.ret (.lit .bO)) .pass)))⟩
noncomputable def Bl:aV:=⟨2,7,(.seq (.set 2 (.call 102 (dg (dY (.fld "size") aL) bh))) (.seq (.ifs (eJ .IsNot bo (.lit .bO)) (.seq (.ret bo) .pass) .pass) (.seq (.set 3 (bg 0)) (.seq (.dI (.many [4,5]) (.jH bh) (.seq (.set 6 (.call 101 (fR aL bS eX))) (.seq (.ifs (eJ .IsNot eW (.lit .bO)) (.seq (.ret (cu .tup eW cM)) .pass) .pass) (.seq (.set 3 (.call 91 (dg bS eX))) .pass)))) (.seq (.ret (.lit .bO)) .pass)))))⟩
noncomputable def M8:aV:=⟨4,4,(.seq (.ret (.call 103 (dg (.call 99 (fR aL bh bo)) bS))) .pass)⟩
theorem IC{α:Type}{f:Nat->Option α}{i:Nat}:(List.range (i+1)).findSome? f=none↔(List.range i).findSome? f=none/\f i=none:=by
 rw[dZ,vN];cases (List.range i).findSome? f<;>simp
theorem Ct{α:Type}{f:Nat->Option α}{i n:Nat}{r:α}(h:(List.range i).findSome? f=none)(hi:i<n)(hr:f i=some r):(List.range n).findSome? f=some r:=by
 have e:List.range n=List.range i++(List.range (n-i)).map (i+·):=by
  rw[<- List.range_add]
  congr 1
  omega
 obtain⟨m,hm⟩:∃m,n-i=m+1:=⟨n-i-1,by omega⟩
 rw[e,vN,h,hm,List.range_succ_eq_map];simp[hr]
noncomputable def kC(n:Nat)(ns:List Int)(i:Nat):Option (Str×Nat):=if 0<=ns.getD i 0/\ns.getD i 0<n then(if ns.getD i 0∈ns.take i then some ("twice",i) else none) else some ("stranger",i)
noncomputable def F1(ns:List Int)(i:Nat):List Nat:=(ns.take i).map Int.toNat
noncomputable def nj(cs:List b8)(v:Int)(rs:List dA)(ns:List Int)(i:Nat):Option (Str×Nat):=if fault cs v rs (kX (F1 ns i)) (ns.getD i 0).toNat="" then none else some (fault cs v rs (kX (F1 ns i)) (ns.getD i 0).toNat,i)
noncomputable def pairF:Option (Str×Nat)->D
 |some (w,i)=>.tup [.str w,.int i]
 |none=>.bO
noncomputable def vy(cs:List b8)(v:Int)(rs:List dA)(ns:List Int):Option (Str×Nat) :=
 if ns.length=cs.length then((List.range ns.length).findSome? (kC cs.length ns)).orElse λ_=>(List.range ns.length).findSome? (nj cs v rs ns) else some ("many",ns.length)
theorem getD_at{ns:List Int}{i:Nat}{x:Int}(h:ns[i]?=some x):ns.getD i 0=x:=by simp[List.getD,h]
theorem Wb{n:Nat}{ns:List Int}(h:(List.range ns.length).findSome? (kC n ns)=none){i:Nat}(hi:i<ns.length):(0<=ns.getD i 0/\ns.getD i 0<n)/\ns.getD i 0∉ns.take i:=by
 have:=fQ.mp h i (aI.mpr hi);unfold kC at this;split at this
 ·rename_i h1;split at this
  ·cases this
  ·rename_i h2;exact⟨h1,h2⟩
 ·cases this
theorem XY{ns:List Int}{i:Nat}(hi:i<ns.length):F1 ns (i+1)=F1 ns i++[(ns.getD i 0).toNat]:=by
 unfold F1;rw[bx,ag hi,getD_at (ag hi),cO]
 rfl
theorem IJ{l:List Int}{x:Int}:(l.any λm=>m==x)=decide (x∈l):=by
 rw[aW,bz,cQ];exact⟨λ⟨y,hy,e⟩=>(fb.mp e)▸hy,λhy=>⟨x,hy,by simp⟩⟩
structure TO(T:Nat->Option aV):Prop where
 qk:T 102=some K5
 Ab:T 103=some Bl
section
variable{T:Nat->Option aV}{k d:Nat}{g g':G}{Q:KD}{E:KX}{a b c r:Nat}{cs:List b8}{rs:List dA}{v:Int}{ns:List Int}
theorem WQ(h1:NF T)(qk:T 102=some K5){n:Nat}(hr:g[r]?=some (.lst (ns.map .int)))(hz:ns.length<=100)(h:∀g',Ex g g'->Q (pairF (if ns.length=n then(List.range ns.length).findSome? (kC n ns) else some ("many",ns.length))) g'):d4 T (k+3) 102 [.int (n:Nat),.ref r] g Q E:=by
 refine call_of qk rfl ?_;dsimp[K5,d8,List.replicate];walk_at"";rw[ah];by_cases hn:ns.length=n
 ·rw[aH hn] at h;refine gf (by rw[az (by omega)];rfl) ?_;walk_at"";refine A6 (b0 T _) (tX ?_);walk_at"";refine⟨r,_,rfl,a8 hr,kj (ns.map .int),λi Z g'=>Ex g g'/\(List.range i).findSome? (kC n ns)=none/\∃z2 z3,Z=[some (.int (n:Nat)),some (.ref r),z2,z3],λi Z g' q=>X7 (a8 (q.1.at hr)),⟨Ex.refl _,rfl,none,none,rfl⟩,λi x Z g' hx q=>?_,λZ g' q=>?_⟩
  ·obtain⟨e1,q,z2,z3,rfl⟩:=q;obtain⟨dd,hd,rfl⟩:=Q2 hx;rw[ak,ae] at hd;obtain⟨x,nY,rfl⟩:=hd;have hi:i<ns.length:=(aj.mp nY).1;have hg:=getD_at nY;refine A8 rfl ?_
   try show wpS _ _ _ _ _ _
   walk_at"";refine u9 (k:=k) h1 ?_;walk_at"";by_cases hs:0<=x/\x<n
   ·rw[az hs.1,az (show x<=(n:Int)-1 by omega)];refine gf rfl ?_;walk_at"";refine AA (a8 (e1.at hr)) ?_;rw[HV (by rw[ah];omega),<- oY];refine CK (GF (a8 d0) ?_);rw[IJ];walk_at"";refine if2 (λht=>?_) (λht=>?_)
    ·walk_at"";rw[Ct q hi (show kC n ns i=some (("twice":Str),i) by unfold kC;rw[hg,aH hs,aH ht])] at h;exact h _ (e1.trans (Ex.snoc _ _))
    ·walk_at"";exact⟨e1.trans (Ex.snoc _ _),IC.mpr ⟨q,by unfold kC;rw[hg,aH hs,aB ht]⟩,_,_,rfl⟩
   ·have:(decide (0<=x)&&decide (x<=(n:Int)-1))=false:=by
     rw[vO,bZ,bZ];omega
    rw[this];walk_at"";rw[Ct q hi (show kC n ns i=some (("stranger":Str),i) by unfold kC;rw[hg,aB hs])] at h;exact h _ e1
  ·obtain⟨e1,q,z2,z3,rfl⟩:=q;rw[F8,ah] at q;rw[q] at h
   try show wpS _ _ _ _ _ _
   walk_at"";exact h _ e1
 ·rw[aB hn] at h;refine iA (by rw[aF (by omega)];rfl) ?_;walk_at"";rw[ah];exact h _ (Ex.refl _)
theorem ZW{o:Option (Str×Nat)}:K7 (pairF o)=o.isNone:=by cases o<;>rfl
theorem Hw(hT:TB0 T)(hO:TO T)(B:Bd g b cs v rs)(hz:cs.length<=9)(hR:rs.length<=900)(hr:g[r]?=some (.lst (ns.map .int)))(hl:ns.length<=100)(h:∀g',Ex g g'->Q (pairF (vy cs v rs ns)) g'):d4 T (k+4) 103 [.ref b,.ref r] g Q E:=by
 refine call_of hO.Ab rfl ?_;dsimp[Bl,d8,List.replicate];obtain⟨w0,l0,dd,nb,f1,f2,f3,f4,f5⟩:=B.ex;walk_at"";refine S5 f1 rfl ?_;walk_at"";refine WQ (k:=k) hT.nf hO.qk hr hl λg1 e1=>?_;walk_at"";rw[ZW];unfold vy at h;by_cases hn:ns.length=cs.length
 ·rw[aH hn] at h ⊢;cases hp:(List.range ns.length).findSome? (kC cs.length ns) with
  |some x =>
   refine iA rfl ?_;walk_at"";rw[hp] at h;exact h _ e1
  |none =>
   refine gf rfl ?_;walk_at"";rw[hp] at h;have B1:=B.at e1;refine A6 (b0 T _) (tX ?_);walk_at"";refine⟨r,_,rfl,a8 (e1.at hr),kj (ns.map .int),λi Z g'=>Ex g1 g'/\(List.range i).findSome? (nj cs v rs ns)=none/\∃(s:Nat) (z4 z5 z6:Option D),s<2 ^ cs.length/\(∀j,s.testBit j=kX (F1 ns i) j)/\Z=[some (.ref b),some (.ref r),some .bO,some (.int (s:Nat)),z4,z5,z6],λi Z g' q=>X7 (a8 ((e1.trans q.1).at hr)),⟨Ex.refl _,rfl,0,none,none,none,lr _,λj=>by simp[F1],rfl⟩,λi x Z g' hx q=>?_,λZ g' q=>?_⟩
   ·obtain⟨e2,q,s,z4,z5,z6,hs,hb,rfl⟩:=q;obtain⟨d2,hd,rfl⟩:=Q2 hx;rw[ak,ae] at hd;obtain⟨x,nY,rfl⟩:=hd;have hi:i<ns.length:=(aj.mp nY).1;have hg:=getD_at nY;have kG:=Wb hp hi;rw[hg] at kG;obtain⟨p,rfl⟩:∃p:Nat,x=p:=⟨x.toNat,by omega⟩
    have kE:p<cs.length:=by omega
    refine A8 rfl ?_
    try show wpS _ _ _ _ _ _
    walk_at"";refine HN (k:=k) hT (B1.at e2) hz hR hs kE λg3 e3=>?_;walk_at"";have ef:fault cs v rs s.testBit p=fault cs v rs (kX (F1 ns i)) p:=Zk λj _=>hb j;rw[ef];have Es:nj cs v rs ns i=if fault cs v rs (kX (F1 ns i)) p="" then none else some (fault cs v rs (kX (F1 ns i)) p,i):=by unfold nj;rw[hg];rfl
    generalize fault cs v rs (kX (F1 ns i)) p=fx at *;rw[Jo];by_cases tY:fx=""
    ·refine gf (by rw[az tY];rfl) ?_;walk_at"";refine p8 (k:=k+2) hT.kZ (by omega) ?_;walk_at"";refine⟨e2.trans e3,IC.mpr ⟨q,by rw[Es,aH tY]⟩,_,_,_,_,P7 hs kE,λj=>?_,rfl⟩;rw[L6,hb,XY hi,hg];rw[aW];simp only[Bool.or_eq_true,decide_eq_true_eq,List.mem_append,List.mem_singleton,Int.toNat_natCast]
    ·refine iA (by rw[aF tY];rfl) ?_;walk_at"";have h2:=Ct q hi (show nj cs v rs ns i=some (fx,i) by rw[Es,aB tY]);have ew:rL fx=.str fx:=by unfold rL;rw[aB tY]
     rw[ew];rw[show(Option.none.orElse λ_:Unit=>(List.range ns.length).findSome? (nj cs v rs ns))=some (fx,i) from h2] at h;exact h _ (e1.trans (e2.trans e3))
   ·obtain⟨e2,q,s,z4,z5,z6,hs,hb,rfl⟩:=q;rw[F8,ah] at q;rw[show(Option.none.orElse λ_:Unit=>(List.range ns.length).findSome? (nj cs v rs ns))=none from q] at h
    try show wpS _ _ _ _ _ _
    walk_at"";exact h _ (e1.trans e2)
 ·rw[aB hn] at h ⊢;refine iA rfl ?_;walk_at"";exact h _ e1
end
structure Ask(g:G)(a c:Nat)(cs:List b8)(v:Int)(rs:List dA):Prop where
 ha:g[a]?=some (.lst (cs.map b8.d))
 hz:cs.length<=9
 hG:∀c∈cs,fX c
 hv:1<=v/\v<=9
 hc:g[c]?=some (.lst (p9 rs))
 hr:rs.length<=900
 hR:rs.all (k6 cs)=true
section
variable{T:Nat->Option aV}{k d:Nat}{g g':G}{Q:KD}{E:KX}{a b c r:Nat}{cs:List b8}{rs:List dA}{v:Int}{ns:List Int}
theorem Ask.at(h:Ask g a c cs v rs)(e:Ex g g'):Ask g' a c cs v rs:=⟨e.at h.ha,h.hz,h.hG,h.hv,e.at h.hc,h.hr,h.hR⟩
theorem Ask.gr(h:Ask g a c cs v rs)(e:Gr d g g')(h1:a≠d)(h2:c≠d):Ask g' a c cs v rs:=⟨e.at h1 h.ha,h.hz,h.hG,h.hv,e.at h2 h.hc,h.hr,h.hR⟩
theorem Ask.hB(h:Ask g a c cs v rs):∀c∈cs,CB c:=λc hc=>⟨(h.hG c hc).l8,(h.hG c hc).u8⟩
theorem Ask.good(h:Ask g a c cs v rs):cs.all q9=true:=bq.mpr λc hc=>(h.hG c hc).good
theorem BG(hT:TB T)(A:Ask g a c cs v rs)(h:∀g' b,Ex g g'->g.length<=b->Bd g' b cs v rs->Q (.ref b) g'):d4 T (k+10) 99 [.ref a,.int v,.ref c] g Q E:=Hs hT A.ha A.hz A.good A.hB A.hv A.hc A.hr A.hR h
end
noncomputable def FG(n:Nat)(F:Nat->List Nat):Prop:=∀s p,p∈F s->p<n/\s.testBit p=false
noncomputable def O7(n:Nat)(F:Nat->List Nat):Nat->Nat->List (List Nat)
 |0,s=>if s=2 ^ n-1 then[[]] else[]
 |f+1,s=>if s=2 ^ n-1 then[[]] else(F s).flatMap λp=>(O7 n F f (s |||2 ^ p)).map (p::·)
noncomputable def j5(n:Nat)(F:Nat->List Nat)(s:Nat):List (List Nat):=O7 n F (2 ^ n) s
theorem wY{s p:Nat}(h:s.testBit p=false):s<s |||2 ^ p:=by
 have h1:s<=s |||2 ^ p:=Nat.left_le_or
 have h2:s |||2 ^ p≠s:=λe=>by
  have:=L6 s p p;rw[e,h] at this;simp at this
 omega
theorem F7{α β:Type}{l:List α}{f g:α->List β}(h:∀x∈l,f x=g x):l.flatMap f=l.flatMap g:=by
 induction l with
 |nil=>rfl
 |cons a r ih=>rw[cT,cT,h a (by simp),ih λx hx=>h x (by simp[hx])]
theorem Hl{n:Nat}{F:Nat->List Nat}(hF:FG n F):∀(f s:Nat),s<2 ^ n->2 ^ n-1-s<=f->O7 n F f s=O7 n F (f+1) s
 |0,s,hs,hf=>by
  have e:s=2 ^ n-1:=by omega
  simp only[O7];rw[aH e,aH e]
 |f+1,s,hs,hf=>by
  rw[O7,O7];by_cases e:s=2 ^ n-1
  ·rw[aH e,aH e]
  ·rw[aB e,aB e];refine F7 λp hp=>?_;have:=hF s p hp;rw[Hl hF f (s |||2 ^ p) (P7 hs this.1) (by have:=wY this.2;omega)]
theorem U0{n:Nat}{F:Nat->List Nat}{s:Nat}(h:s=2 ^ n-1):j5 n F s=[[]]:=by
 unfold j5;obtain⟨m,hm⟩:∃m,2 ^ n=m+1:=⟨2 ^ n-1,by have:=fL (n:=n);omega⟩
 rw[hm,O7,aH h]
theorem Be{n:Nat}{F:Nat->List Nat}(hF:FG n F){s:Nat}(hs:s<2 ^ n)(h:s≠2 ^ n-1):j5 n F s=(F s).flatMap λp=>(j5 n F (s |||2 ^ p)).map (p::·):=by
 unfold j5;obtain⟨m,hm⟩:∃m,2 ^ n=m+1:=⟨2 ^ n-1,by have:=fL (n:=n);omega⟩
 conv=>lhs;rw[hm,O7,aB h]
 refine F7 λp hp=>?_;have:=hF s p hp;rw[hm,<- Hl hF m (s |||2 ^ p) (P7 hs this.1) (by omega)]
theorem Jf{n:Nat}{F:Nat->List Nat}(hF:FG n F){s:Nat}(hs:s<2 ^ n)(h:s≠2 ^ n-1):(j5 n F s).length=((F s).map λp=>(j5 n F (s |||2 ^ p)).length).sum:=by
 rw[Be hF hs h,List.length_flatMap];simp[Function.comp_def]
inductive jj(F:Nat->List Nat):Nat->Prop
 |zero:jj F 0
 |step {s p:Nat} (h:jj F s) (hp:p∈F s):jj F (s |||2 ^ p)
theorem jj.lt{n:Nat}{F:Nat->List Nat}(hF:FG n F){s:Nat}(h:jj F s):s<2 ^ n:=by
 induction h with
 |zero=>exact lr _
 |step h hp ih=>exact P7 ih (hF _ _ hp).1
theorem E3(cs:List b8)(v:Int)(rs:List dA):FG cs.length (i9 cs v rs):=λs p hp=>by
 obtain⟨h1,h2⟩:=aT.mp hp;unfold W3 at h2;rw[aQ,jP] at h2;exact⟨aI.mp h1,h2.1⟩
theorem Yt{α β:Type}{f:α->List β}{l:List α}{j:Nat}{x:α}(hx:l[j]?=some x)(m:Nat):(l.flatMap f)[((l.take j).flatMap f).length+m]?=((l.drop j).flatMap f)[m]?/\(l.drop j).flatMap f=f x++(l.drop (j+1)).flatMap f:=by
 have e:l.flatMap f=(l.take j).flatMap f++(l.drop j).flatMap f:=by rw[<- Dn,ip]
 have hj:j<l.length:=(aj.mp hx).1;have ed:l.drop j=x::l.drop (j+1):=by
  rw[dJ hj]
  congr 1
  exact(aj.mp hx).2
 constructor
 ·rw[e,cq (by omega)]
  congr 1
  omega
 ·rw[ed,cT]
noncomputable abbrev kN(j:Nat):Key:=.inl (j:Int)
theorem a23{kvs:List (Key×D)}{c:Key}{x:D}:s9 (putD kvs c x) c=some x:=by
 unfold s9 putD;by_cases h:(kvs.any λkv=>decide (kv.1=c))=true
 ·rw[aH h]
  induction kvs with
  |nil=>cases h
  |cons kv r ih =>
   rw[aY,eh];by_cases hk:kv.1=c
   ·rw[aH hk];simp[hk]
   ·rw[aB hk];simp only[hk,decide_false];refine ih ?_;rw[fg,cH] at h;exact h.resolve_left (by simp[hk])
 ·rw[aB h,jN];have:kvs.find? (λkv=>decide (kv.1=c))=none:=by
   rw[jo];exact λkv hk hc=>h (bz.mpr ⟨kv,hk,hc⟩)
  rw[this];simp
theorem X'{kvs:List (Key×D)}{c c':Key}{x:D}(hn:c≠c'):s9 (putD kvs c x) c'=s9 kvs c':=by
 unfold s9 putD;by_cases h:(kvs.any λkv=>decide (kv.1=c))=true
 ·rw[aH h];clear h
  induction kvs with
  |nil=>rfl
  |cons kv r ih =>
   rw[aY,eh,eh];by_cases hk:kv.1=c
   ·rw[aH hk];have:kv.1≠c':=λz=>hn (hk.symm.trans z);simp only[this,decide_false];exact ih
   ·rw[aB hk];by_cases nc:kv.1=c'
    ·simp only[nc,decide_true]
    ·simp only[nc,decide_false];exact ih
 ·rw[aB h,jN];have:[(c,x)].find? (λkv=>decide (kv.1=c'))=none:=by simp[hn]
  rw[this];simp
theorem a22{kvs:List (Key×D)}{c:Key}{x:D}:(putD kvs c x).length<=kvs.length+1:=by
 unfold putD;split<;>simp
theorem VF{i j:Nat}(h:i≠j):kN i≠kN j:=λz=>h (by have:(i:Int)=j:=Sum.inl.inj z;omega)
noncomputable def F4:aV:=⟨1,5,(.seq (.set 1 (.prim (.jt 0) .nil)) (.seq (.set 2 (.prim .lst .nil)) (.seq (.dI (.one 3) (.eY (cu (.bin .Add) (dY (.fld "full") aL) (bg 1))) (.seq (.ifs (eJ .In bS bh) (.seq (.expr (.eF .append bo (eK bS))) (.seq (.dI (.one 4) (.fj (.call 116 (dg aL bS))) (.seq (.expr (.eF .ju bh (eK (.call 91 (dg bS cM))))) .pass)) .pass)) .pass) .pass)) (.seq (.ret bo) .pass))))⟩
noncomputable def Bb:aV:=⟨1,3,(.seq (.set 1 (.prim .nC .nil)) (.seq (.dI (.one 2) (.mV (.call 117 (eK aL))) (.seq (.ifs (eJ .Eq bo (dY (.fld "full") aL)) (.seq (.dP bh bo (bg 1)) .pass) (.seq (.dP bh bo (dY .sum (.comp [2,1] 4 (.one 3) (.fj (.call 116 (dg aL bo))) .no (cY bh (.call 91 (dg aL bS)))))) .pass)) .pass)) (.seq (.ret bh) .pass)))⟩
noncomputable def xC:aV:=⟨4,7,(.seq (.set 4 (.call 116 (dg aL bo))) (.seq (.set 5 bS) (.seq (.set 6 (bg 0)) (.seq (.jr (eJ .GtE eX (cY bh (.call 91 (dg bo (cY cM eW))))) (.seq (.jg 5 .lN (cY bh (.call 91 (dg bo (cY cM eW))))) (.seq (.jg 6 .iadd (bg 1)) .pass))) (.seq (.ret (cu .tup (cY cM eW) eX)) .pass)))))⟩
noncomputable def L9:aV:=⟨3,7,(.seq (.set 3 (.prim .lst .nil)) (.seq (.set 4 (bg 0)) (.seq (.set 5 bo) (.seq (.jr (eJ .NotEq cM (dY (.fld "full") aL)) (.seq (.kR (.many [6,5]) (.call 122 (nL aL bh cM eX))) (.seq (.expr (.eF .append bS (eK eW))) (.seq (.set 4 (.call 91 (dg cM eW))) .pass)))) (.seq (.ret bS) .pass)))))⟩
noncomputable def Z5:aV:=⟨3,3,(.seq (.ret (cY (.call 121 (eK (.call 99 (fR aL bh bo)))) (bg 0))) .pass)⟩
theorem X4:∀{l m:List Nat},l.Nodup->(∀x∈l,x∈m)->l.length<=m.length
 |[],m,_,_=>cE _
 |x::r,m,nd,h=>by
  rw[cG] at nd;have:=X4 (l:=r) (m:=m.erase x) nd.2 λy hy=>(ye λz=>nd.1 (by rw[<- z];exact hy)).mpr (h y (by simp[hy]));have hx:=h x (by simp);rw[oZ hx] at this;have:=eO hx;simp;omega
section
variable{P:eR}{Z:S}{g:G}{Q:KD}{E:KX}{t:MT}{it elt:ME}{d5:List Nat}{n:Nat}
theorem Xo(hP:i7 P)(h:eG P it Z g (λk g1=>∃(l:List D) (Sh:S->Prop) (w:Nat->D),(∀g',Ex g1 g'->k.Is l g')/\l.length<=1000/\Sh (C6 Z d5 n) /\
      (∀ i d Z g',l[i]?=some d->Ex g1 g'->Sh Z->iS t d Z λcg=>aK P elt cg g' (λy g4=>y=w i/\Ex g1 g4/\Sh cg) iG)/\∀ g',Ex g1 g'->Q (.ref g'.length) (g' ++ [.lst ((List.range l.length).map w)])) E):aK P (.comp d5 n t it .no elt) Z g Q E:=by
  refine H9 hP (w5 hP it _ _ _ _ _ _ (λk g1 h=>?_) (λ_ _ z=>z) h);obtain⟨l,Sh,w,hk,hl,h0,hs,hd⟩:=h;refine⟨l,λi ys Z g'=>Ex g1 g'/\ys=(List.range i).map w/\Sh Z,hl,λi ys Z g' q=>⟨hk _ q.1,by rw[q.2.1];simp⟩,⟨Ex.refl _,rfl,h0⟩,λi x ys Z g' hx q=>?_,λys Z g' q=>?_⟩
  · obtain⟨e1,rfl,sh⟩:=q;refine u7 (λcg q=>Ck (lO (c6 hP elt _ _ _ _ _ _ (λy g4 q=>?_) (λ_ _ z=>z) q))) (hs i x Z g' hx e1 sh);obtain⟨rfl,e4,sh⟩:=q;exact⟨e4,by rw[dZ,cO];rfl,sh⟩
  · obtain⟨e1,rfl,sh⟩:=q;exact hd g' e1
end
noncomputable def nz(g:G)(sd n:Nat)(K:List Nat):Prop:=∃S m,g[sd]?=some (.set S m)/\m=K.length/\K.Nodup/\(∀j∈K,j<2 ^ n)/\∀k:Int,S k=true↔∃j∈K,k=(j:Nat)
theorem nz.at{g g':G}{sd n:Nat}{K:List Nat}(h:nz g sd n K)(e:Ex g g'):nz g' sd n K:=let ⟨S,m,h1,h2⟩:=h;⟨S,m,e.at h1,h2⟩
theorem nz.size{g:G}{sd n:Nat}{K:List Nat}(h:nz g sd n K):K.length<=2 ^ n:=by
 obtain⟨S,m,_,_,nd,lt,_⟩:=h;have:=X4 (m:=List.range (2 ^ n)) nd λx hx=>aI.mpr (lt x hx);simpa using this
structure TW(T:Nat->Option aV):Prop where
 qh:T 117=some F4
 zW:T 121=some Bb
structure Wy(g:G)(w:Nat)(cs:List b8)(v:Int)(rs:List dA):Prop where
 ex:∃kvs,g[w]?=some (.dF kvs)/\∀s,jj (i9 cs v rs) s->s9 kvs (kN s)=some (.int ((j5 cs.length (i9 cs v rs) s).length:Nat))
theorem Wy.at{g g':G}{w:Nat}{cs:List b8}{v:Int}{rs:List dA}(h:Wy g w cs v rs)(e:Ex g g'):Wy g' w cs v rs:=let ⟨kvs,h1,h2⟩:=h.ex;⟨⟨kvs,e.at h1,h2⟩⟩
theorem YG{l:List Nat}(hl:l.Pairwise (· > ·)){i s x:Nat}(hi:l[i]?=some s)(hx:x∈l)(h:s<x):x∈l.take i:=by
 obtain⟨j,hj,rfl⟩:=cR.mp hx;obtain⟨jA,rfl⟩:=aj.mp hi;have Mm:j<i:=by
  rcases eM j i with z|z|z
  ·exact z
  ·subst z;omega
  ·have:=nH.mp hl i j jA hj z;omega
 exact cy.mpr ⟨j,by rw[cB Mm,ag hj]⟩
theorem CS{n:Nat}(h:n<=9):1<=2 ^ n/\2 ^ n<=512:=⟨fL,yb (by omega) h⟩
section
variable{T:Nat->Option aV}{k d:Nat}{g g':G}{Q:KD}{E:KX}{a b c r:Nat}{cs:List b8}{rs:List dA}{v:Int}
theorem YO(hT:TB0 T)(hF:TF T)(qh:T 117=some F4)(B:Bd g b cs v rs)(hz:cs.length<=9)(hr:rs.length<=900)(h:∀(L:List Nat) l g',Ex g g'->g.length<=l->g'[l]?=some (.lst (d6 L))->L.Pairwise (· < ·)->(∀s,s∈L↔jj (i9 cs v rs) s)->L.length<=512->Q (.ref l) g'):d4 T (k+6) 117 [.ref b] g Q E:=by
 refine call_of qh rfl ?_;dsimp[F4,d8,List.replicate];have jd:=E3 cs v rs;generalize oo:i9 cs v rs=F at *;obtain⟨w0,l0,dd,nb,f1,f2,f3,f4,f5⟩:=B.ex;have p2:=CS hz;walk_at"";refine Sd ?_;have s1:nz (g++[O.set (λk=>decide (k=0)) 1]) g.length cs.length [0]:=⟨_,_,d0,rfl,by simp,by simp;omega,λk=>by simp⟩
 have e1:=Ex.snoc g (O.set (λk=>decide (k=0)) 1);generalize g++[O.set (λk=>decide (k=0)) 1]=g1 at *;walk_at"";have e2:=e1.trans (Ex.snoc g1 (O.lst []));have s2:=s1.at (Ex.snoc g1 (O.lst []));have t2:=d0 (g:=g1) (o:=O.lst []);have l1:g.length<g1.length:=by obtain⟨_,_,z,_⟩:=s1;exact m5 z
 generalize g1++[O.lst []]=g2 at *;generalize g1.length=tl at *;refine A6 (b0 T _) (oJ (b0 T _) ?_);walk_at"";refine S5 (e2.at f1) rfl ?_;walk_at"";have en:((2 ^ cs.length-1:Nat):Int)+1=((2 ^ cs.length:Nat):Int):=by omega
 rw[en];refine⟨by omega,by omega,k8 0 (2 ^ cs.length),λt Z g'=>Ex g g'/\(∃K,nz g' g.length cs.length K/\∀j,j∈K↔j=0\/∃s p,s<t/\jj F s/\p∈F s/\j=s |||2 ^ p)/\(∃L,g'[tl]?=some (.lst (d6 L))/\L.Pairwise (· < ·)/\(∀s,s∈L↔s<t/\jj F s)/\L.length<=t)/\∃z3 z4,Z=[some (.ref b),some (.ref g.length),some (.ref tl),z3,z4],λ_ _ _ _=>by rw[bU];exact x8,⟨e2,⟨[0],s2,λj=>by simp⟩,⟨[],t2,by simp,by simp,by simp⟩,none,none,rfl⟩,λt x Z g' hx q=>?_,λZ g' q=>?_⟩
 ·obtain⟨e3,⟨K,s3,hK⟩,⟨L,t3,pw,hL,zO⟩,z3,z4,rfl⟩:=q;obtain⟨ht,rfl⟩:=E2 hx;rw[jO];have lV:t∈K↔jj F t:=by
   rw[hK];constructor
   ·rintro(rfl|⟨s,p,_,h2,h3,rfl⟩)
    ·exact .zero
    ·exact .step h2 h3
   ·intro h;cases h with
    |zero=>exact .inl rfl
    |step h hp=>exact .inr ⟨_,_,wY (jd _ _ hp).2,h,hp,rfl⟩
  refine l6 ?_
  try show wpS _ _ _ _ _ _
  walk_at"";obtain⟨S,m,sg,sm,snd,slt,sS⟩:=id s3;refine Vk sg ?_;walk_at"";have EF:S (t:Nat)=true↔jj F t:=by
   rw[sS,<- lV];exact⟨λ⟨j,hj,e⟩=>by rw[show t=j by omega];exact hj,λz=>⟨t,z,rfl⟩⟩
  cases hb:S (t:Nat) with
  |false =>
   have mF:¬jj F t:=λz=>by rw[EF.mpr z] at hb;cases hb
   refine gf rfl ?_;walk_at"";refine⟨e3,⟨K,s3,λj=>(hK j).trans ⟨?_,?_⟩⟩,⟨L,t3,pw,λs=>(hL s).trans ⟨λz=>⟨by omega,z.2⟩,λz=>⟨?_,z.2⟩⟩,by omega⟩,_,_,rfl⟩
   ·rintro(z|⟨s,p,h1,h2⟩)
    ·exact .inl z
    ·exact .inr ⟨s,p,by omega,h2⟩
   ·rintro(z|⟨s,p,h1,h2,h3⟩)
    ·exact .inl z
    ·refine .inr ⟨s,p,?_,h2,h3⟩;rcases fJ s t with y|y
     ·exact y
     ·exact absurd (show jj F t by rw[show t=s by omega];exact h2) mF
   ·rcases fJ s t with y|y
    ·exact y
    ·exact absurd (show jj F t by rw[show t=s by omega];exact z.2) mF
  |true =>
   have hR:=EF.mp hb;refine iA rfl ?_;walk_at"";refine U3 t3 (by simp[d6];omega) ?_;have KG:tl≠g.length:=by omega
   have s4:nz (g'.set tl (.lst (d6 L++[D.int (t:Nat)]))) g.length cs.length K:=⟨S,m,i0 sg KG,sm,snd,slt,sS⟩
   have t4:(g'.set tl (.lst (d6 L++[D.int (t:Nat)])))[tl]?=some (.lst (d6 (L++[t]))):=by rw[get_set t3];simp[d6]
   have e4:Ex g (g'.set tl (.lst (d6 L++[D.int (t:Nat)]))):=⟨by simp;exact e3.len,λi hi=>by rw[aw (by omega)];exact e3.old i hi⟩
   generalize g'.set tl (.lst (d6 L++[D.int (t:Nat)]))=g4 at *;walk_at"";refine A6 (b0 T _) (kD (b0 T _) ?_);walk_at"";refine L0 (k:=k) hT hF (B.at e4) hz hr ht λg5 fl e5 Eu h5=>?_;rw[oo] at h5;have l4:tl<g4.length:=m5 t4;refine⟨fl,_,rfl,a8 h5,d6 (F t),λj Z g'=>Ex g g'/\g'[fl]?=some (.lst (d6 (F t)))/\g'[tl]?=some (.lst (d6 (L++[t])))/\(∃K',nz g' g.length cs.length K'/\∀x,x∈K'↔x∈K\/∃p∈(F t).take j,x=t |||2 ^ p)/\∃z4,Z=[some (.ref b),some (.ref g.length),some (.ref tl),some (.int (t:Nat)),z4],λj Z g' q=>q8 (a8 q.2.1),⟨e4.trans e5,h5,e5.at t4,⟨K,s4.at e5,λx=>by simp⟩,z4,rfl⟩,λj x Z g' hx q=>?_,λZ g' q=>?_⟩
   ·obtain⟨e6,h6,t6,⟨K',s6,rH⟩,z4,rfl⟩:=q;rw[d6,ak,ae] at hx;obtain⟨p,hp,rfl⟩:=hx;have lS:=aP hp;have kE:=(jd _ _ lS)
    have tk:(F t).take (j+1)=(F t).take j++[p]:=by rw[bx,hp];rfl
    obtain⟨S6,m6,vU,Dy,tq,tu,qW⟩:=id s6;refine l6 ?_
    try show wpS _ _ _ _ _ _
    walk_at"";refine⟨RO vU,?_⟩;walk_at"";refine p8 (k:=k+4) hT.kZ (by omega) ?_;walk_at"";have hsz:=s6.size;refine OV vU (by omega) ?_;walk_at"";have et:=P7 ht kE.1;refine⟨⟨by simp;exact e6.len,λi hi=>by rw[aw (by omega)];exact e6.old i hi⟩,i0 h6 (by have:=e4.len;omega),i0 t6 (by omega),?_,_,rfl⟩;by_cases kG:S6 ((t |||2 ^ p:Nat):Int)=true
    ·refine⟨K',⟨_,_,get_set vU,by rw[aH kG];exact Dy,tq,tu,λk=>?_⟩,λx=>?_⟩
     ·rw[cH,cQ];constructor
      ·rintro(z|z)
       ·exact(qW k).mp z
       ·subst z;exact(qW _).mp kG
      ·exact λz=>.inl ((qW k).mpr z)
     ·rw[rH x,tk];simp only[List.mem_append,List.mem_singleton];constructor
      ·rintro(z|⟨q,z1,z2⟩)
       ·exact .inl z
       ·exact .inr ⟨q,.inl z1,z2⟩
      ·rintro(z|⟨q,z1|z1,z2⟩)
       ·exact .inl z
       ·exact .inr ⟨q,z1,z2⟩
       ·subst z1 z2;obtain⟨y,y1,y2⟩:=(qW _).mp kG;rw[<- rH,show(t |||2 ^ q)=y by omega];exact y1
    ·have zi:(t |||2 ^ p)∉K':=λz=>kG ((qW _).mpr ⟨_,z,rfl⟩);refine⟨K'++[t |||2 ^ p],⟨_,_,get_set vU,by rw[aB kG];simp[Dy],?_,λy hy=>?_,λk=>?_⟩,λx=>?_⟩
     ·rw[cF];exact⟨tq,by simp,λx hx y hy=>by cases ba.mp hy;exact λz=>zi (z▸hx)⟩
     ·rcases bj.mp hy with z|z
      ·exact tu y z
      ·cases ba.mp z;exact et
     ·rw[cH,cQ,qW];simp only[List.mem_append,List.mem_singleton];constructor
      ·rintro(⟨y,y1,y2⟩|z)
       ·exact⟨y,.inl y1,y2⟩
       ·exact⟨_,.inr rfl,z⟩
      ·rintro⟨y,y1|y1,y2⟩
       ·exact .inl ⟨y,y1,y2⟩
       ·subst y1;exact .inr y2
     ·rw[bj,ba,rH x,tk];simp only[List.mem_append,List.mem_singleton];constructor
      ·rintro((z|⟨q,z1,z2⟩)|z)
       ·exact .inl z
       ·exact .inr ⟨q,.inl z1,z2⟩
       ·exact .inr ⟨p,.inr rfl,z⟩
      ·rintro(z|⟨q,z1|z1,z2⟩)
       ·exact .inl (.inl z)
       ·exact .inl (.inr ⟨q,z1,z2⟩)
       ·subst z1;exact .inr z2
   ·obtain⟨e6,h6,t6,⟨K',s6,rH⟩,z4,rfl⟩:=q;rw[d6,ah,cb] at rH
    try show wpS _ _ _ _ _ _
    walk_at"";refine⟨e6,⟨K',s6,λj=>(rH j).trans ?_⟩,⟨L++[t],t6,?_,λs=>?_,by simp;omega⟩,_,_,rfl⟩
    ·rw[hK j];constructor
     ·rintro((z|⟨s,p,h1,h2⟩)|⟨p,h1,h2⟩)
      ·exact .inl z
      ·exact .inr ⟨s,p,by omega,h2⟩
      ·exact .inr ⟨t,p,by omega,hR,h1,h2⟩
     ·rintro(z|⟨s,p,h1,h2,h3,h4⟩)
      ·exact .inl (.inl z)
      ·rcases fJ s t with y|y
       ·exact .inl (.inr ⟨s,p,y,h2,h3,h4⟩)
       ·have:s=t:=by omega
        subst this;exact .inr ⟨p,h3,h4⟩
    ·rw[yd];exact⟨pw,by simp,λx hx y hy=>by cases ba.mp hy;exact((hL x).mp hx).1⟩
    ·rw[bj,ba,hL s];constructor
     ·rintro(z|z)
      ·exact⟨by omega,z.2⟩
      ·subst z;exact⟨by omega,hR⟩
     ·rintro⟨z1,z2⟩;rcases fJ s t with y|y
      ·exact .inl ⟨y,z2⟩
      ·exact .inr (by omega)
 ·obtain⟨e3,⟨K,s3,hK⟩,⟨L,t3,pw,hL,zO⟩,z3,z4,rfl⟩:=q;rw[n4] at hL zO
  try show wpS _ _ _ _ _ _
  walk_at"";exact h L tl g' e3 (by omega) t3 pw (λs=>(hL s).trans ⟨λz=>z.2,λz=>⟨z.lt jd,z⟩⟩) (by omega)
theorem Bg(hT:TB0 T)(hF:TF T)(hW:TW T)(B:Bd g b cs v rs)(hz:cs.length<=9)(hr:rs.length<=900)(h:∀w g',Ex g g'->g.length<=w->Wy g' w cs v rs->Q (.ref w) g'):d4 T (k+7) 121 [.ref b] g Q E:=by
 refine call_of hW.zW rfl ?_;dsimp[Bb,d8,List.replicate];have jd:=E3 cs v rs;generalize oo:i9 cs v rs=F at *;obtain⟨w0,l0,dd,nb,f1,f2,f3,f4,f5⟩:=B.ex;have p2:=CS hz;walk_at"";have e1:=Ex.snoc g (O.dF []);have w1:=d0 (g:=g) (o:=O.dF []);generalize g++[O.dF []]=g1 at *;refine A6 (b0 T _) (Lu ?_);walk_at"";refine YO (k:=k) hT hF hW.qh (B.at e1) hz hr λL l g2 e2 hl h2 pw hL zO=>?_;rw[oo] at hL;have lw:=m5 w1;have KU:L.reverse.Pairwise (· > ·):=List.pairwise_reverse.mpr pw;have yT:(d6 L).length=L.length:=by simp[d6]
 refine⟨l,_,rfl,a8 h2,(d6 L).reverse,λi Z g'=>Ex g g'/\g'[l]?=some (.lst (d6 L))/\(∃kvs,g'[g.length]?=some (.dF kvs)/\kvs.length<=i/\∀s∈L.reverse.take i,s9 kvs (kN s)=some (.int ((j5 cs.length F s).length:Nat)))/\∃z2,Z=[some (.ref b),some (.ref g.length),z2],λi Z g' q=>OG (a8 q.2.1),⟨e1.trans e2,h2,⟨[],e2.at w1,by simp,by simp⟩,none,rfl⟩,λi x Z g' hx q=>?_,λZ g' q=>?_⟩
 ·obtain⟨e3,h3,⟨kvs,w3,hk,ug⟩,z2,rfl⟩:=q;rw[d6,<- List.map_reverse,ak,ae] at hx;obtain⟨s,hs,rfl⟩:=hx;have Eo:i<L.length:=by have:=(aj.mp hs).1;simpa using this
  have Ed:jj F s:=(hL s).mp (fe.mp (aP hs));have oh:=Ed.lt jd;have tk:L.reverse.take (i+1)=L.reverse.take i++[s]:=by rw[bx,hs];rfl
  have fin:∀(N:Ends) g4 z2,Ex g' g4->(∀g5,(Ex g g5/\g5[l]?=some (.lst (d6 L))/\(∃kvs,g5[g.length]?=some (.dF kvs)/\kvs.length<=i+1/\∀s∈L.reverse.take (i+1),s9 kvs (kN s)=some (.int ((j5 cs.length F s).length:Nat)))/\∃z2,([some (.ref b),some (.ref g.length),z2]:S)=[some (.ref b),some (.ref g.length),z2])->N.nx [some (.ref b),some (.ref g.length),z2] g5)->V2 (.ref g.length) (.int (s:Nat)) (.int ((j5 cs.length F s).length:Nat)) g4 λg5=>N.nx [some (.ref b),some (.ref g.length),z2] g5:=λN g4 z2 e4 hN=>by
   refine JF (e4.at w3) rfl (by omega) ?_;refine hN _ ⟨⟨by simp;exact(e3.trans e4).len,λj hj=>by rw[aw (by omega)];exact(e3.trans e4).old j hj⟩,i0 (e4.at h3) (by omega),⟨_,get_set (e4.at w3),aD a22 (by omega),λs' Ef=>?_⟩,z2,rfl⟩;rw[tk] at Ef;by_cases zb:s'=s
   ·subst zb;exact a23
   ·refine(X' (VF (bD zb))).trans (ug s' ?_);rcases bj.mp Ef with z|z
    ·exact z
    ·exact absurd (ba.mp z) zb
  refine l6 ?_
  try show wpS _ _ _ _ _ _
  walk_at"";refine S5 (e3.at f1) rfl ?_;walk_at"";have ed:decide (((s:Nat):Int)=((2 ^ cs.length-1:Nat):Int))=decide (s=2 ^ cs.length-1):=cJ.mpr (by omega);rw[ed];refine if2 (λc1=>?_) (λc1=>?_)
  ·walk_at"";have e1:(1:Int)=((j5 cs.length F s).length:Nat):=by rw[U0 c1];rfl
   rw[e1];exact fin _ _ _ (Ex.refl _) λg5 z=>⟨z.1,z.2.1,z.2.2.1,_,rfl⟩
  ·walk_at"";refine Xo (b0 T _) (kD (b0 T _) ?_);walk_at"";refine L0 (k:=k+1) hT hF (B.at e3) hz hr oh λg4 fl e4 Eu h4=>?_;rw[oo] at h4;refine⟨fl,_,rfl,a8 h4,d6 (F s),λZ=>∃z2 z3,Z=[some (.int (s:Nat)),some (.ref g.length),z2,z3],λi=>.int ((j5 cs.length F (s |||2 ^ ((F s).getD i 0))).length:Nat),λg' e=>q8 (a8 (e.at h4)),?_,⟨none,none,rfl⟩,λj d Z g5 hx e5 sh=>?_,λg5 e5=>?_⟩
   ·have:(F s).length<=cs.length:=by rw[<- oo];exact S7
    simp[d6];omega
   ·obtain⟨z2,z3,rfl⟩:=sh;rw[d6,ak,ae] at hx;obtain⟨p,hp,rfl⟩:=hx;have lS:=aP hp;have kE:=jd _ _ lS;refine l6 ?_
    try show aK _ _ _ _ _ _
    walk_at"";refine p8 (k:=k+5) hT.kZ (by omega) ?_;have hv:s9 kvs (kN (s |||2 ^ p))=some (.int ((j5 cs.length F (s |||2 ^ p)).length:Nat)):=by
     refine ug _ (YG KU hs (fe.mpr ((hL _).mpr (.step Ed lS))) (wY kE.2))
    refine rV ((e4.trans e5).at w3) rfl hv ?_;exact⟨by simp[List.getD,hp],e5,_,_,rfl⟩
   ·have el:(List.range (d6 (F s)).length).map (λi=>D.int ((j5 cs.length F (s |||2 ^ ((F s).getD i 0))).length:Nat))=(((F s).map λp=>(j5 cs.length F (s |||2 ^ p)).length).map λ(n:Nat)=>(n:Int)).map D.int:=by
     refine dy λi=>?_;rw[ak,ak,ak,ak];by_cases hi:i<(F s).length
     ·rw[cv (by simpa[d6] using hi),ag hi];simp[List.getD,hi]
     ·rw[aS (by simpa[d6] using hi),aS (by omega)]
      rfl
    rw[el];refine Cb (a8 d0) ?_;have es:(((F s).map λp=>(j5 cs.length F (s |||2 ^ p)).length).map λ(n:Nat)=>(n:Int)).sum=((j5 cs.length F s).length:Nat):=by
     rw[Jf jd oh c1];generalize (F s).map (λp=>(j5 cs.length F (s |||2 ^ p)).length)=m
     induction m with
     |nil=>rfl
     |cons x r ih=>simp[ih]
    rw[es];walk_at"";exact fin _ _ _ (e4.trans (e5.trans (Ex.snoc _ _))) λg6 z=>⟨z.1,z.2.1,z.2.2.1,_,rfl⟩
 ·obtain⟨e3,h3,⟨kvs,w3,hk,ug⟩,z2,rfl⟩:=q;rw[dN,yT,gU (by simp)] at ug
  try show wpS _ _ _ _ _ _
  walk_at"";refine h _ _ e3 (av _) ⟨⟨kvs,w3,λs hs=>?_⟩⟩;rw[oo] at hs ⊢;exact ug s (fe.mpr ((hL s).mpr hs))
end
structure TN(T:Nat->Option aV):Prop where
 qg:T 122=some xC
 zV:T 123=some L9
section
variable{T:Nat->Option aV}{k d:Nat}{g g':G}{Q:KD}{E:KX}{a b c r w:Nat}{cs:List b8}{rs:List dA}{v:Int}
theorem Hx(hT:TB T)(hF:TF T)(hW:TW T)(ni:T 126=some Z5)(ha:g[a]?=some (.lst (cs.map b8.d)))(hz:cs.length<=9)(hg:cs.all q9=true)(hB:∀c∈cs,CB c)(hv:1<=v/\v<=9)(hc:g[c]?=some (.lst (p9 rs)))(hr:rs.length<=900)(hR:rs.all (k6 cs)=true)(h:∀g',Ex g g'->Q (.int ((j5 cs.length (i9 cs v rs) 0).length:Nat)) g'):d4 T (k+11) 126 [.ref a,.int v,.ref c] g Q E:=by
 refine call_of ni rfl ?_;dsimp[Z5,d8,List.replicate];walk_at"";refine Hs (k:=k) hT ha hz hg hB hv hc hr hR λg1 b e1 _ B=>?_;walk_at"";refine Bg (k:=k+3) hT hF hW B hz hr λw g2 e2 _ W=>?_;walk_at"";obtain⟨kvs,w1,w2⟩:=W.ex;exact rV w1 rfl (w2 0 .zero) (h _ (e1.trans e2))
theorem YX(hT:TB0 T)(hF:TF T)(qg:T 122=some xC)(B:Bd g b cs v rs)(W:Wy g w cs v rs)(hz:cs.length<=9)(hr:rs.length<=900){s m:Nat}(hs:jj (i9 cs v rs) s)(dz:s≠2 ^ cs.length-1)(hm:m<(j5 cs.length (i9 cs v rs) s).length)(h:∀(p l:Nat) g',Ex g g'->p∈i9 cs v rs s->l<(j5 cs.length (i9 cs v rs) (s |||2 ^ p)).length->(j5 cs.length (i9 cs v rs) s)[m]?=((j5 cs.length (i9 cs v rs) (s |||2 ^ p))[l]?).map (p::·)->Q (.tup [.int (p:Nat),.int (l:Nat)]) g'):d4 T (k+6) 122 [.ref b,.ref w,.int (s:Nat),.int (m:Nat)] g Q E:=by
 refine call_of qg rfl ?_;dsimp[xC,d8,List.replicate];have jd:=E3 cs v rs;have oh:=hs.lt jd;have eo:=Be jd oh dz;walk_at"";refine L0 (k:=k) hT hF B hz hr oh λg1 ch e1 _ kf=>?_;generalize oo:i9 cs v rs=F at *;obtain⟨kvs,w1,w2⟩:=W.ex;rw[oo] at w2;walk_at"";generalize Ew:(λp=>(j5 cs.length F (s |||2 ^ p)).map (p::·))=f at *;have uL:∀p,(f p).length=(j5 cs.length F (s |||2 ^ p)).length:=λp=>by rw[<- Ew];simp
 rw[eo] at hm;have KZ:0<(F s).length:=by
  cases hl:F s with
  |nil=>rw[hl] at hm;simp at hm
  |cons _ _=>simp
 refine Je (λmm Z g'=>Ex g1 g'/\∃j lf:Nat,Z=[some (.ref b),some (.ref w),some (.int (s:Nat)),some (.int (m:Nat)),some (.ref ch),some (.int (lf:Nat)),some (.int (j:Nat))]/\j<(F s).length/\mm=(F s).length-j/\m=(((F s).take j).flatMap f).length+lf/\lf<(((F s).drop j).flatMap f).length) _ ⟨Ex.refl _,0,m,rfl,KZ,rfl,by simp,by simpa using hm⟩ (λmm Z g' q=>?_) (b0 T _);obtain⟨e2,j,lf,rfl,hj,rfl,lU,pQ⟩:=q;have hx:=ag hj;generalize (F s)[j]=p at hx;have lS:=aP hx;have kE:=jd _ _ lS;have hv:s9 kvs (kN (s |||2 ^ p))=some (.int ((f p).length:Nat)):=by rw[uL];exact w2 _ (.step hs lS)
 have AK:gz (d6 (F s)) (j:Int)=some (.int (p:Nat)):=J9 (by rw[d6,ak,hx];rfl);have sp:=Yt (f:=f) hx lf;have qq:=e1.trans e2;walk_at"";refine v5 (a8 (e2.at kf)) AK ?_;walk_at"";refine p8 (k:=k+4) hT.kZ (by omega) ?_;refine rV (qq.at w1) rfl hv ?_;walk_at"";by_cases hc:(f p).length<=lf
 ·refine iA (az (by omega)) ?_;walk_at"";refine AF rfl ?_;walk_at"";refine v5 (a8 (e2.at kf)) AK ?_;walk_at"";refine p8 (k:=k+4) hT.kZ (by omega) ?_;refine rV (qq.at w1) rfl hv ?_;refine OF ?_;walk_at"";refine AF rfl ?_;walk_at"";refine Ib ?_;have tk:(F s).take (j+1)=(F s).take j++[p]:=by rw[bx,hx];rfl
  rw[sp.2,bc] at pQ;have Mn:j+1<(F s).length:=by
   rcases fJ (j+1) (F s).length with z|z
   ·exact z
   ·rw[sN z] at pQ;simp at pQ;omega
  refine⟨_,?_,e2,j+1,lf-(f p).length,?_,Mn,rfl,?_,by omega⟩
  ·omega
  ·have e1:((lf:Nat):Int)-((f p).length:Nat)=((lf-(f p).length:Nat):Int):=by omega
   have e2:((j:Nat):Int)+1=((j+1:Nat):Int):=by omega
   rw[e1,e2]
   rfl
  ·rw[tk,Dn,bc,cT,List.flatMap_nil,fu];omega
 ·refine gf (aF (by omega)) ?_;walk_at"";refine v5 (a8 (e2.at kf)) AK ?_;walk_at"";refine h p lf g' qq lS (by rw[uL] at hc;omega) ?_;rw[eo,lU,sp.1,sp.2,aG (by omega),<- Ew];simp
theorem Zq(hT:TB0 T)(hF:TF T)(hN:TN T)(B:Bd g b cs v rs)(W:Wy g w cs v rs)(hz:cs.length<=9)(hr:rs.length<=900){m:Nat}{o:List Nat}(hm:(j5 cs.length (i9 cs v rs) 0)[m]?=some o)(h:∀l g',Ex g g'->g.length<=l->g'[l]?=some (.lst (d6 o))->Q (.ref l) g'):d4 T (k+7) 123 [.ref b,.ref w,.int (m:Nat)] g Q E:=by
 refine call_of hN.zV rfl ?_;dsimp[L9,d8,List.replicate];have jd:=E3 cs v rs;obtain⟨w0,l0,dd,nb,f1,f2,f3,f4,f5⟩:=B.ex;have p2:=CS hz;walk_at"";have e1:=Ex.snoc g (O.lst []);have h1:=d0 (g:=g) (o:=O.lst []);generalize g++[O.lst []]=g1 at *;refine Je (λmm Z g'=>Ex g g'/\∃(s lf:Nat) (p:List Nat) (z6:Option D),Z=[some (.ref b),some (.ref w),some (.int (m:Nat)),some (.ref g.length),some (.int (s:Nat)),some (.int (lf:Nat)),z6]/\mm=2 ^ cs.length-s/\jj (i9 cs v rs) s/\lf<(j5 cs.length (i9 cs v rs) s).length/\some o=((j5 cs.length (i9 cs v rs) s)[lf]?).map (p++·)/\g'[g.length]?=some (.lst (d6 p))/\p.length<=s) _ ⟨e1,0,m,[],none,rfl,rfl,.zero,(aj.mp hm).1,by rw[hm];rfl,h1,by simp⟩ (λmm Z g' q=>?_) (b0 T _);obtain⟨e2,s,lf,p,z6,rfl,rfl,hs,pQ,ho,hp,gE⟩:=q;have oh:=hs.lt jd;walk_at"";refine S5 (e2.at f1) rfl ?_;walk_at"";have ed:decide (((s:Nat):Int)=((2 ^ cs.length-1:Nat):Int))=decide (s=2 ^ cs.length-1):=cJ.mpr (by omega);rw[ed];by_cases dz:s=2 ^ cs.length-1
 ·refine gf (by rw[az dz];rfl) ?_;walk_at"";rw[U0 dz] at pQ ho;have:lf=0:=by simp at pQ;omega
  subst this;have:o=p:=by simpa using ho
  subst this;exact h _ _ e2 (av _) hp
 ·refine iA (by rw[aF dz];rfl) ?_;walk_at"";refine YX (k:=k) hT hF hN.qg (B.at e2) (W.at e2) hz hr hs dz pQ λq l g3 e3 hq hl LU=>?_;refine A8 rfl ?_
  try show wpS _ _ _ _ _ _
  have Eg:=jd _ _ hq;have ze:=e3.at hp;walk_at""
  try refine⟨vj ze,?_⟩
  walk_at"";refine U3 ze (by simp[d6];omega) ?_;walk_at"";refine p8 (k:=k+5) hT.kZ (by omega) ?_;walk_at"";have hgt:=wY Eg.2;have Ff:=e2.trans e3;refine⟨_,?_,⟨by simp;exact Ff.len,λi hi=>by rw[aw (by omega)];exact Ff.old i hi⟩,s |||2 ^ q,l,p++[q],_,rfl,rfl,.step hs hq,hl,?_,?_,by simp;omega⟩
  ·omega
  ·rw[ho,LU];simp[Option.map_map,Function.comp_def]
  ·rw[get_set ze];simp[d6]
end
noncomputable def hZ(r:List Nat):Nat:=r.foldl (λs p=>s |||2 ^ p) 0
theorem Bq(r:List Nat)(p:Nat):hZ (r++[p])=hZ r |||2 ^ p:=by simp[hZ,List.foldl_append]
theorem xH(r:List Nat)(i:Nat):(hZ r).testBit i=decide (i∈r):=by
 have:∀(r:List Nat) (s:Nat),(r.foldl (λs p=>s |||2 ^ p) s).testBit i=(s.testBit i||decide (i∈r)):=by
  intro r
  induction r with
  |nil=>intro s;simp
  |cons p r ih =>
   intro s;rw[ly,ih,L6,Bool.or_assoc,aW];simp
 rw[hZ,this];simp
theorem QE{n:Nat}:∀{r:List Nat},(∀i∈r,i<n)->hZ r<2 ^ n:=λ{r} h=>by
 have:∀(r:List Nat) (s:Nat),(∀i∈r,i<n)->s<2 ^ n->r.foldl (λs p=>s |||2 ^ p) s<2 ^ n:=by
  intro r
  induction r with
  |nil=>intro s _ hs;exact hs
  |cons p r ih=>intro s h hs;exact ih _ (λi hi=>h i (by simp[hi])) (P7 hs (h p (by simp)))
 exact this r 0 h (lr _)
noncomputable def B7(F:Nat->List Nat):Nat->List (List Nat)
 |0=>[[]]
 |t+1=>(B7 F t).flatMap λr=>(F (hZ r)).map λp=>r++[p]
theorem T9{n:Nat}{F:Nat->List Nat}(hF:FG n F):∀{t:Nat} {r:List Nat},r∈B7 F t->r.length=t/\r.Nodup/\∀i∈r,i<n
 |0,r,h=>by
  cases ba.mp h;simp
 |t+1,r,h=>by
  obtain⟨r0,h0,h1⟩:=kr.mp h;obtain⟨p,hp,rfl⟩:=aO.mp h1;obtain⟨g1,g2,g3⟩:=T9 hF h0;have kE:=hF _ _ hp;rw[xH] at kE;refine⟨by simp[g1],?_,λi hi=>?_⟩
  ·rw[cF];exact⟨g2,by simp,λx hx y hy=>by cases ba.mp hy;exact λz=>(by simpa using kE.2:p∉r0) (z▸hx)⟩
  ·rcases bj.mp hi with z|z
   ·exact g3 i z
   ·cases ba.mp z;exact kE.1
theorem HQ{n:Nat}{r:List Nat}(h:r.Nodup)(hl:r.length=n)(hr:∀i∈r,i<n){i:Nat}(hi:i<n):i∈r:=by
 refine Decidable.byContradiction λhn=>?_;have:=X4 (l:=i::r) (m:=List.range n) (cG.mpr ⟨hn,h⟩) λx hx=>by
  rcases aE.mp hx with rfl|hx
  ·exact aI.mpr hi
  ·exact aI.mpr (hr x hx)
 simp at this;omega
theorem Bp{n:Nat}{r:List Nat}(h:r.Nodup)(hr:∀i∈r,i<n):hZ r=2 ^ n-1↔r.length=n:=by
 constructor
 ·intro e;have:∀i,i<n->i∈r:=λi hi=>by
   have:=xH r i;rw[e,fI,az hi] at this;exact aZ this.symm
  have h1:=X4 (l:=List.range n) (m:=r) gJ λi hi=>this i (aI.mp hi);have h2:=X4 (l:=r) (m:=List.range n) h λi hi=>aI.mpr (hr i hi);simp at h1 h2;omega
 ·intro hl;refine yc λi=>?_;rw[xH,fI];refine cJ.mpr ⟨hr i,λhi=>HQ h hl hr hi⟩
theorem GU{n:Nat}{F:Nat->List Nat}(hF:FG n F):∀{t:Nat},t<=n->(B7 F t).flatMap (λr=>(j5 n F (hZ r)).map (r++·))=j5 n F 0
 |0,_=>by simp[B7,hZ]
 |t+1,ht=>by
  rw[<- GU hF (show t<=n by omega),B7,List.flatMap_assoc];refine F7 λr hr=>?_;obtain⟨g1,g2,g3⟩:=T9 hF hr;have dz:hZ r≠2 ^ n-1:=λz=>by have:=(Bp g2 g3).mp z;omega
  rw[Be hF (QE g3) dz,List.map_flatMap,List.flatMap_map];refine F7 λp hp=>?_;rw[Bq,bE];refine iY λo _=>?_;simp
theorem Y8{n:Nat}{F:Nat->List Nat}(hF:FG n F):B7 F n=j5 n F 0:=by
 rw[<- GU hF (av n)];have:∀(l:List (List Nat)),(∀r∈l,r∈B7 F n)->l.flatMap (λr=>(j5 n F (hZ r)).map (r++·))=l:=by
  intro l
  induction l with
  |nil=>intro _;rfl
  |cons r l ih =>
   intro h;obtain⟨g1,g2,g3⟩:=T9 hF (h r (by simp));rw[cT,ih λx hx=>h x (by simp[hx]),U0 ((Bp g2 g3).mpr g1)];simp
 exact(this _ λ_ h=>h).symm
theorem IB{α β:Type}{f:α->List β}{m:Nat}:∀{l:List α},(∀x∈l,(f x).length<=m)->(l.flatMap f).length<=l.length*m
 |[],_=>by simp
 |x::r,h=>by
  rw[cT,bc,cK,Nat.succ_mul];have h1:=h x (by simp);have h2:=IB (l:=r) λy hy=>h y (by simp[hy]);omega
theorem Gf{n:Nat}{F:Nat->List Nat}(hF:∀s,(F s).length<=n):∀t,(B7 F t).length<=n ^ t
 |0=>by simp[B7]
 |t+1=>by
  rw[B7,sG];refine aD (IB (m:=n) λr _=>by rw[ah];exact hF _) ?_;exact Nat.mul_le_mul_right _ (Gf hF t)
section
variable{T:Nat->Option aV}{k d:Nat}{g g':G}{Q:KD}{E:KX}{a b c r w:Nat}{cs:List b8}{rs:List dA}{v:Int}
end
theorem GP{n:Nat}{F:Nat->List Nat}(hF:FG n F){o:List Nat}(h:o∈j5 n F 0):o.length=n/\o.Nodup/\∀i∈o,i<n:=by
 rw[<- Y8 hF] at h;exact T9 hF h
noncomputable def u6(r:dA):dA:=⟨r.w,r.y,r.x⟩
theorem Yg{cs:List b8}{r:dA}(h:k6 cs r=true):k6 cs (u6 r)=true:=by
 unfold k6 at h ⊢;simp only[Bool.and_eq_true,Bool.not_eq_true',decide_eq_false_iff_not] at h ⊢;exact⟨λz=>h.1 z.symm,h.2.2,h.2.1⟩
noncomputable def many(cs:List b8)(v:Int)(rs:List dA):Nat:=(j5 cs.length (i9 cs v rs) 0).length
theorem QH(l:List Nat):(hZ l).testBit=kX l:=funext λi=>xH l i
theorem Bm{F:Nat->List Nat}:∀{t:Nat} {r:List Nat},r∈B7 F t↔r.length=t/\∀i p,r[i]?=some p->p∈F (hZ (r.take i))
 |0,r=>by
  constructor
  ·intro h;cases ba.mp h;exact⟨rfl,λi p e=>by simp at e⟩
  ·rintro⟨h,_⟩;cases List.length_eq_zero_iff.mp h;exact ba.mpr rfl
 |t+1,r=>by
  show r∈(B7 F t).flatMap (λr=>(F (hZ r)).map λp=>r++[p])↔_;rw[kr];constructor
  ·rintro⟨r0,h0,h1⟩;obtain⟨p,hp,rfl⟩:=aO.mp h1;obtain⟨hl,hs⟩:=Bm.mp h0;refine⟨by simp[hl],λi q e=>?_⟩;by_cases hi:i<r0.length
   ·rw[aG hi] at e;rw[List.take_append_of_le_length (by omega)];exact hs i q e
   ·have Mo:i=r0.length:=by
     have:=(aj.mp e).1;simp at this;omega
    subst Mo;rw[cq (av _),Nat.sub_self] at e;cases e;rw[List.take_left' rfl];exact hp
  ·rintro⟨hl,hs⟩;have ht:t<r.length:=by omega
   refine⟨r.take t,Bm.mpr ⟨by simp;omega,λi p e=>?_⟩,?_⟩
   ·have hi:i<t:=by
     have:=(aj.mp e).1;simp at this;omega
    rw[cB hi] at e;rw[List.take_take,Nat.min_eq_left (by omega)];exact hs i p e
   ·refine aO.mpr ⟨r[t],hs t _ (ag ht),?_⟩;have e:=bx (l:=r) (i:=t);rw[ag ht,gU (by omega)] at e;exact e.symm
structure jk(cs:List b8)(v:Int)(rs:List dA)(o:List Nat):Prop where
 len:o.length=cs.length
 st:∀i p,o[i]?=some p->p<cs.length/\p∉o.take i/\fault cs v rs (kX (o.take i)) p=""
theorem Z2{cs:List b8}{v:Int}{rs:List dA}{l:List Nat}{p:Nat}:p∈i9 cs v rs (hZ l)↔p<cs.length/\p∉l/\fault cs v rs (kX l) p="":=by
 unfold i9 W3;rw[aT,aI,QH,aQ,cQ,jP,bZ]
theorem R6{cs:List b8}{v:Int}{rs:List dA}{o:List Nat}:o∈j5 cs.length (i9 cs v rs) 0↔jk cs v rs o:=by
 rw[<- Y8 (E3 cs v rs),Bm];exact⟨λh=>⟨h.1,λi p e=>Z2.mp (h.2 i p e)⟩,λh=>⟨h.len,λi p e=>Z2.mpr (h.st i p e)⟩⟩
theorem xk{cs:List b8}{v:Int}{rs:List dA}{S:Nat->Bool}{p:Nat}:fault cs v rs S p=""↔M4 cs S p=false/\P2 cs S p=false/\(Y4 cs S p:Int)<=v/\M6 cs rs S p=true:=by
 unfold fault;cases M4 cs S p
 ·cases P2 cs S p
  ·rw[aB (by decide),aB (by decide)];by_cases h:v<Y4 cs S p
   ·rw[aH h];exact⟨λz=>absurd z (by decide),λz=>absurd z.2.2.1 (by omega)⟩
   ·rw[aB h];cases M6 cs rs S p
    ·exact⟨λz=>absurd z (by decide),λz=>absurd z.2.2.2 (by decide)⟩
    ·exact⟨λ_=>⟨rfl,rfl,by omega,rfl⟩,λ_=>rfl⟩
  ·rw[aB (by decide),aH rfl];exact⟨λz=>absurd z (by decide),λz=>absurd z.2.1 (by decide)⟩
 ·rw[aH rfl];exact⟨λz=>absurd z (by decide),λz=>absurd z.1 (by decide)⟩
theorem xR{n:Nat}{f:Nat->Bool}:(List.range n).any f=false↔∀i,i<n->f i=false:=by
 rw[List.any_eq_false];exact⟨λh i hi=>Bool.eq_false_iff.mpr (h i (aI.mpr hi)),λh i hi=>Bool.eq_false_iff.mp (h i (aI.mp hi))⟩
theorem xS{n:Nat}{f:Nat->Bool}:(List.range n).any f=true↔∃i,i<n/\f i=true:=by
 rw[bz];exact⟨λ⟨i,h,e⟩=>⟨i,aI.mp h,e⟩,λ⟨i,h,e⟩=>⟨i,aI.mpr h,e⟩⟩
theorem BV{α:Type}[DecidableEq α]:∀{l m:List α},l.Nodup->(∀x∈l,x∈m)->l.length<=m.length
 |[],m,_,_=>cE _
 |x::l,m,nd,h=>by
  obtain⟨h1,h2⟩:=cG.mp nd;have hx:=h x (by simp);have:=BV (m:=m.erase x) h2 λy hy=>(ye λz=>h1 (by rw[<- z];exact hy)).mpr (h y (by simp[hy]));rw[oZ hx] at this;have:0<m.length:=eO hx;simp only[List.length_cons];omega
theorem Cg{cs:List b8}{S:Nat->Bool}{p:Nat}{d:Int}:O2 cs S p d=true↔(∃i,i<cs.length/\(S i=true\/i=p)/\(dq cs i).lo=d)/\∃i,i<cs.length/\S i=false/\(dq cs i).lo=d:=by
 unfold O2;rw[aQ,xS,xS];simp only[Bool.and_eq_true,Bool.or_eq_true,decide_eq_true_eq,Bool.not_eq_true']
theorem OR{cs:List b8}{i:Nat}(h:i<cs.length):(dq cs i).lo∈cs.map b8.lo:=aO.mpr ⟨_,by rw[B5 (ag h)];exact cc h,rfl⟩
theorem Rc{cs eQ:List b8}{S S':Nat->Bool}{p p':Nat}(h:∀d,O2 eQ S' p' d=true->O2 cs S p d=true):Y4 eQ S' p'<=Y4 cs S p:=by
 unfold Y4;refine BV ((Jr _).filter _) λd hd=>?_;have hu:=h d (aT.mp hd).2;refine aT.mpr ⟨GJ.mpr ?_,hu⟩;obtain⟨⟨i,hi,_,rfl⟩,_⟩:=Cg.mp hu;exact OR hi
theorem Xm{cs:List b8}{r:dA}(hw:r.w=.ff)(h:k6 cs r=true):(0<=r.x/\r.x<cs.length)/\(0<=r.y/\r.y<cs.length)/\r.x≠r.y:=by
 obtain⟨w,x,y⟩:=r;cases hw;unfold k6 ia at h;simp only[Bool.and_eq_true,Bool.not_eq_true',decide_eq_false_iff_not,List.isEmpty_eq_false_iff] at h;have f:∀z:Int,List.filter (meant cs .ff z) (List.range cs.length)≠[]->0<=z/\z<cs.length:=λz hz=>by
  obtain⟨i,hi⟩:=List.exists_mem_of_ne_nil _ hz;obtain⟨h1,h2⟩:=aT.mp hi;have h1:=aI.mp h1;have h2:(i:Int)=z:=aZ h2;omega
 exact⟨f _ h.2.1,f _ h.2.2,h.1⟩
section
variable{cs:List b8}{v:Int}{rs:List dA}{o:List Nat}
theorem jk.nd(h:jk cs v rs o):o.Nodup:=(GP (E3 cs v rs) (R6.mpr h)).2.1
theorem jk.lt(h:jk cs v rs o):∀i∈o,i<cs.length:=(GP (E3 cs v rs) (R6.mpr h)).2.2
theorem jk.all(h:jk cs v rs o){i:Nat}(hi:i<cs.length):i∈o:=HQ h.nd h.len h.lt hi
theorem jk.none(h:jk cs v rs o):vy cs v rs (o.map λ(i:Nat)=>(i:Int))=none:=by
 have gD:∀i,i<o.length->∃p,o[i]?=some p/\(o.map λ(i:Nat)=>(i:Int)).getD i 0=(p:Nat):=λi hi=>⟨o[i],ag hi,getD_at (by rw[ak,ag hi];rfl)⟩
 unfold vy;rw[aH (by rw[ah,h.len])];have p1:(List.range (o.map λ(i:Nat)=>(i:Int)).length).findSome? (kC cs.length (o.map λ(i:Nat)=>(i:Int)))=Option.none:=by
  rw[fQ];intro i hi;rw[aI,ah] at hi;obtain⟨p,e1,e2⟩:=gD i hi;obtain⟨h1,h2,_⟩:=h.st i p e1;unfold kC;rw[e2,aH ⟨by omega,by omega⟩,aB];rw[<- oY];intro z;obtain⟨q,hq,e⟩:=aO.mp z;exact h2 ((by omega:q=p)▸hq)
 have p2:(List.range (o.map λ(i:Nat)=>(i:Int)).length).findSome? (nj cs v rs (o.map λ(i:Nat)=>(i:Int)))=Option.none:=by
  rw[fQ];intro i hi;rw[aI,ah] at hi;obtain⟨p,e1,e2⟩:=gD i hi;obtain⟨_,_,h3⟩:=h.st i p e1;unfold nj;have:F1 (o.map λ(i:Nat)=>(i:Int)) i=o.take i:=by
   unfold F1;rw[<- oY,bE];exact(iY λ_ _=>rfl).trans (List.map_id _)
  rw[e2,this,bU,aH h3]
 rw[p1,p2]
 rfl
end
theorem U2{α:Type}{l:List α}{t:Nat}{x:α}:x∈l.take t↔∃u,u<t/\l[u]?=some x:=by
 rw[cy];constructor
 ·rintro⟨u,e⟩;have hu:u<t:=by
   have:=(aj.mp e).1;simp at this;omega
  rw[cB hu] at e;exact⟨u,hu,e⟩
 ·rintro⟨u,hu,e⟩;exact⟨u,by rw[cB hu];exact e⟩
theorem J8{α:Type}{l:List α}{t:Nat}{x:α}:x∈l.drop t↔∃u,t<=u/\l[u]?=some x:=by
 rw[cy];constructor
 ·rintro⟨u,e⟩;rw[Ke] at e;exact⟨t+u,by omega,e⟩
 ·rintro⟨u,hu,e⟩;exact⟨u-t,by rw[Ke,show t+(u-t)=u by omega];exact e⟩
theorem wX{α:Type}{l:List α}(nd:l.Nodup){u w:Nat}{x:α}(h1:l[u]?=some x)(h2:l[w]?=some x):u=w:=by
 obtain⟨a1,a2⟩:=aj.mp h1;obtain⟨b1,b2⟩:=aj.mp h2;exact(gK (h₀:=a1) (h₁:=b1) nd).mp (a2.trans b2.symm)
theorem IZ{F:Nat->List Nat}(hF:∀s,(F s).Nodup):∀t,(B7 F t).Nodup
 |0=>by simp[B7]
 |t+1=>by
  show((B7 F t).flatMap λr=>(F (hZ r)).map λp=>r++[p]).Nodup;have ih:=IZ hF t;generalize B7 F t=X at ih
  induction X with
  |nil=>simp
  |cons r X Lr =>
   rw[cG] at ih;rw[cT,cF];refine⟨(jM.mpr ((hF _).imp λh z=>h (by simpa using z))),Lr ih.2,λa ha b hb z=>?_⟩;obtain⟨p,_,rfl⟩:=aO.mp ha;obtain⟨r2,h2,h3⟩:=kr.mp hb;obtain⟨q,_,rfl⟩:=aO.mp h3;have:=(List.append_inj' z rfl).1;exact ih.1 (this▸h2)
section
variable{cs eQ:List b8}{v:Int}{rs:List dA}{o:List Nat}
theorem Sb:(j5 cs.length (i9 cs v rs) 0).Nodup:=by
 rw[<- Y8 (E3 cs v rs)];exact IZ (λs=>gJ.sublist List.filter_sublist) _
theorem RK(hz:cs.length<=9):many cs v rs<1073741824:=by
 unfold many;rw[<- Y8 (E3 cs v rs)];have h1:=Gf (n:=cs.length) (F:=i9 cs v rs) (λs=>by unfold i9;exact aD (bu _ _) (by simp)) cs.length;have h2:cs.length ^ cs.length<=387420489:=by
  have:∀n,n<=9->n ^ n<=387420489:=by decide
  exact this _ hz
 omega
theorem jk.ix(h:jk cs v rs o){x:Nat}(hx:x<cs.length):∃u:Nat,o[u]?=some x:=cy.mp (h.all hx)
structure oR(cs eQ:List b8):Prop where
 len:eQ.length=cs.length
 lo:∀i,i<cs.length->(dq eQ i).lo=(dq cs i).lo
 mw:∀i j,i<cs.length->j<cs.length->mw (dq eQ i) (dq eQ j)=mw (dq cs j) (dq cs i)
 lt:∀i j,i<cs.length->j<cs.length->iP (dq eQ i) (dq eQ j)=iP (dq cs j) (dq cs i)
theorem oR.symm(h:oR cs eQ):oR eQ cs:=⟨h.len.symm,λi hi=>(h.lo i (h.len▸hi)).symm,λi j hi hj=>(h.mw j i (h.len▸hj) (h.len▸hi)).symm,λi j hi hj=>(h.lt j i (h.len▸hj) (h.len▸hi)).symm⟩
theorem jk.rev(M:oR cs eQ)(hw:∀r∈rs,r.w=.ff)(hR:∀r∈rs,k6 cs r=true)(h:jk cs v rs o):jk eQ v (rs.map u6) o.reverse:=by
 refine⟨by rw[dN,h.len,M.len],λi p e=>?_⟩;have hi:i<o.length:=by
  have:=(aj.mp e).1;simpa using this
 rw[vM hi] at e;rw[List.take_reverse];have hlen:=h.len;obtain⟨t,ht⟩:∃t,t=o.length-1-i:=⟨_,rfl⟩
 rw[<- ht] at e;rw[show o.length-i=t+1 by omega];obtain⟨h1,h2,h3⟩:=h.st t p e;have nd:=h.nd;have S':∀x,kX (o.drop (t+1)).reverse x=decide (x∈o.drop (t+1)):=λx=>cJ.mpr fe;have past:∀{q u:Nat},t+1<=u->o[u]?=some q->(q<cs.length/\mw (dq cs p) (dq cs q)=false)/\iP (dq cs p) (dq cs q)=false:=λ{q u} hu hq=>by
  obtain⟨q1,q2,q3⟩:=h.st u q hq;obtain⟨w1,w2,_,_⟩:=xk.mp q3;have hp:kX (o.take u) p=true:=az (U2.mpr ⟨t,by omega,e⟩);have a1:=xR.mp w1 p h1;have a2:=xR.mp w2 p h1;rw[hp,ph] at a1 a2;exact⟨⟨q1,a1⟩,a2⟩
 obtain⟨w1,w2,w3,w4⟩:=xk.mp h3;refine⟨by rw[M.len];exact h1,λz=>?_,xk.mpr ⟨?_,?_,?_,?_⟩⟩
 ·obtain⟨u,hu,hq⟩:=J8.mp (fe.mp z);have:=wX nd hq e;omega
 ·refine xR.mpr λq hq=>?_;rw[M.len] at hq;rw[S',M.mw q p hq h1];by_cases z:q∈o.drop (t+1)
  ·obtain⟨u,hu,hq⟩:=J8.mp z;rw[(past hu hq).1.2,Bool.and_false]
  ·rw[aF z,iM]
 ·refine xR.mpr λq hq=>?_;rw[M.len] at hq;rw[S',M.lt q p hq h1];by_cases z:q∈o.drop (t+1)
  ·obtain⟨u,hu,hq⟩:=J8.mp z;rw[(past hu hq).2,Bool.and_false]
  ·rw[aF z,iM]
 ·refine Int.le_trans (Int.ofNat_le.mpr (Rc λd hd=>?_)) w3;obtain⟨⟨a,a1,a2,a3⟩,b,b1,b2,b3⟩:=Cg.mp hd;rw[M.len] at a1 b1;rw[M.lo a a1] at a3;rw[M.lo b b1] at b3;rw[S'] at a2 b2;refine Cg.mpr ⟨⟨b,b1,?_,b3⟩,a,a1,?_,a3⟩
  ·obtain⟨u,hu⟩:=h.ix b1;have:¬t+1<=u:=λz=>of_decide_eq_false b2 (J8.mpr ⟨u,z,hu⟩);by_cases LC:u=t
   ·subst LC;exact .inr (aJ (hu.symm.trans e))
   ·exact .inl (az (U2.mpr ⟨u,by omega,hu⟩))
  ·refine aF λz=>?_;obtain⟨w,Ec,rh⟩:=U2.mp z;rcases a2 with a2|a2
   ·obtain⟨u,hu1,LD⟩:=J8.mp (aZ a2);have:=wX nd LD rh;omega
   ·subst a2;have:=wX nd e rh;omega
 ·unfold M6;rw[List.all_map,bq];intro r hr;have og:=hw r hr;obtain⟨gx,gy,gn⟩:=Xm og (hR r hr);simp only[Function.comp_apply,u6,og,meant,Bool.or_eq_true,Bool.not_eq_true',decide_eq_false_iff_not];by_cases LM:(p:Int)=r.x
  ·refine .inr (xS.mpr ?_);obtain⟨y,hy⟩:∃y:Nat,r.y=y:=⟨r.y.toNat,by omega⟩
   obtain⟨u,hu⟩:=h.ix (x:=y) (by omega);obtain⟨_,_,q3⟩:=h.st u y hu;have hn:=bq.mp (xk.mp q3).2.2.2 r hr;rw[og] at hn;simp only[meant,Bool.or_eq_true,Bool.not_eq_true',decide_eq_false_iff_not] at hn;rcases hn with hn|hn
   ·exact absurd hy.symm hn
   ·obtain⟨j,j1,j2⟩:=xS.mp hn;simp only[Bool.and_eq_true,decide_eq_true_eq] at j2;have Ml:j=p:=by omega
    subst Ml;obtain⟨w,Ec,rh⟩:=U2.mp j2.1;have:=wX nd rh e;refine⟨y,by rw[M.len];omega,?_⟩;rw[S'];simp only[Bool.and_eq_true,decide_eq_true_eq];exact⟨J8.mpr ⟨u,by omega,hu⟩,by omega⟩
  ·exact .inl LM
theorem NT(rs:List dA):(rs.map u6).map u6=rs:=by
 rw[bE];exact(iY λ_ _=>rfl).trans (List.map_id _)
theorem GK(M:oR cs eQ){r:dA}(hw:r.w=.ff)(h:k6 cs r=true):k6 eQ (u6 r)=true:=by
 have:=Yg h;have e:∀z,ia eQ .ff z=ia cs .ff z:=λz=>by
  unfold ia;rw[M.len];exact List.filter_congr λ_ _=>rfl
 unfold k6 at this ⊢;rw[show(u6 r).w=.ff from hw] at this ⊢;rw[e,e];exact this
theorem Ic(M:oR cs eQ)(hw:∀r∈rs,r.w=.ff)(hR:∀r∈rs,k6 cs r=true):many cs v rs<=many eQ v (rs.map u6):=by
 unfold many;have:=BV (l:=(j5 cs.length (i9 cs v rs) 0).map List.reverse) (m:=j5 eQ.length (i9 eQ v (rs.map u6)) 0) (jM.mpr (Sb.imp λh z=>h (List.reverse_inj.mp z))) λx hx=>by
  obtain⟨o,ho,rfl⟩:=aO.mp hx;exact R6.mpr ((R6.mp ho).rev M hw hR)
 rwa [ah] at this
theorem a46(M:oR cs eQ)(hw:∀r∈rs,r.w=.ff)(hR:∀r∈rs,k6 cs r=true):many eQ v (rs.map u6)=many cs v rs:=by
 refine Nat.le_antisymm ?_ (Ic M hw hR);have:=Ic (v:=v) (rs:=rs.map u6) M.symm (λr hr=>by
  obtain⟨r',h',rfl⟩:=aO.mp hr;exact hw r' h') λr hr=>by
  obtain⟨r',h',rfl⟩:=aO.mp hr;exact GK M (hw r' h') (hR r' h')
 rwa [NT] at this
end
noncomputable def U6:aV:=⟨4,6,(.seq (.set 4 (.call 99 (fR aL bh bo))) (.seq (.set 5 (.call 121 (eK cM))) (.seq (.ifs (.dH (.fy (.call 1 (fR bS (bg 0) (cu (.bin .Sub) (cY eX (bg 0)) (bg 1)))))) (.seq (.raise "BadNumber" (eK (hJ "no order has that number"))) .pass) .pass) (.seq (.ret (.call 123 (fR cM eX bS))) .pass))))⟩
noncomputable def O9:aV:=⟨4,10,(.seq (.set 4 (.call 99 (fR aL bh bo))) (.seq (.ifs (eJ .IsNot (.call 103 (dg cM bS)) (.lit .bO)) (.seq (.ret (.lit .bO)) .pass) .pass) (.seq (.set 5 (.call 121 (eK cM))) (.seq (.set 6 (bg 0)) (.seq (.set 7 (bg 0)) (.seq (.dI (.one 8) (.fj bS) (.seq (.set 9 (.comp [8] 3 (.one 2) (.fj (.call 116 (dg cM gk))) (eJ .Lt bo aL) bo)) (.seq (.jg 6 .iadd (dY .sum (.comp [7,5] 4 (.one 3) (.fj pK) .no (cY bh (.call 91 (dg aL bS)))))) (.seq (.set 7 (.call 91 (dg gk lL))) .pass)))) (.seq (.ret eW) .pass)))))))⟩
section
variable{P:eR}{Z:S}{g:G}{Q:KD}{E:KX}{t:MT}{it c elt:ME}{d5:List Nat}{n:Nat}
theorem He(hP:i7 P)(h:eG P it Z g (λk g1=>∃(l:List D) (Sh:S->Prop) (p:Nat->Bool) (w:Nat->D),(∀g',Ex g1 g'->k.Is l g')/\l.length<=1000/\Sh (C6 Z d5 n) /\
      (∀ i d Z g',l[i]?=some d->Ex g1 g'->Sh Z->iS t d Z λcg=>cC P c cg g' (λb g3=>b=p i/\Ex g1 g3/\if b=true then aK P elt cg g3 (λy g4=>y=w i/\Ex g1 g4/\Sh cg) iG else Sh cg) iG)/\∀ g',Ex g1 g'->Q (.ref g'.length) (g' ++ [.lst (((List.range l.length).filter p).map w)])) E):aK P (.comp d5 n t it c elt) Z g Q E:=by
  refine H9 hP (w5 hP it _ _ _ _ _ _ (λk g1 h=>?_) (λ_ _ z=>z) h);obtain⟨l,Sh,p,w,hk,hl,h0,hs,hd⟩:=h;refine⟨l,λi ys Z g'=>Ex g1 g'/\ys=((List.range i).filter p).map w/\Sh Z,hl,λi ys Z g' q=>⟨hk _ q.1,?_⟩,⟨Ex.refl _,rfl,h0⟩,λi x ys Z g' hx q=>?_,λys Z g' q=>?_⟩
  · obtain⟨_,rfl,_⟩:=q;rw[ah];exact aD (bu _ _) (by simp)
  · obtain⟨e1,rfl,sh⟩:=q;refine u7 (λcg q=>o6 hP c _ _ _ _ _ _ (λb g3 q=>?_) (λ_ _ z=>z) q) (hs i x Z g' hx e1 sh);obtain⟨rfl,e3,q⟩:=q;have ef:((List.range (i+1)).filter p).map w=((List.range i).filter p).map w++if p i=true then[w i] else[]:=by
      rw[dZ,eE,cO]
      congr 1
      cases z:p i<;>simp only[List.filter_cons,z,List.filter_nil]<;>rfl
    cases hp:p i with
    |true =>
      rw[hp] at q ef;rw[aH rfl] at q ⊢;refine c6 hP elt _ _ _ _ _ _ (λy g4 q=>?_) (λ_ _ z=>z) q;obtain⟨rfl,e4,sh⟩:=q;exact⟨e4,by rw[ef];rfl,sh⟩
    |false =>
      rw[hp] at q ef;rw[aB (by decide)] at q ⊢;exact⟨e3,by rw[ef];simp,q⟩
  · obtain⟨e1,rfl,sh⟩:=q;exact hd g' e1
end
theorem xM{α:Type}(q:α->Bool)(f:α->D)(d:α)(l:List α):((List.range l.length).filter λi=>q (l.getD i d)).map (λi=>f (l.getD i d))=(l.filter q).map f:=by
 have e:(List.range l.length).map (λi=>l.getD i d)=l:=by
  refine dy λi=>?_;rw[ak];by_cases hi:i<l.length
  ·rw[cv hi,Option.map_some,bJ,ag hi]
   rfl
  ·rw[aS (by simpa using hi),aS (by omega)]
   rfl
 have h:(((List.range l.length).map λi=>l.getD i d).filter q).map f=(l.filter q).map f:=by rw[e]
 rw[List.filter_map,bE] at h;exact h
noncomputable def r0:dA:=⟨.ff,0,0⟩
noncomputable def nW(r:dA):Bool:=decide (r.w.s="coin")
theorem Vw{r:dA}(h:nW r=true):r.w=.ff:=by
 obtain⟨w,x,y⟩:=r;unfold nW at h;cases w
 ·rfl
 ·exact absurd (show RW.s .lower="coin" from aZ h) (by decide)
 ·exact absurd (show RW.s .upper="coin" from aZ h) (by decide)
theorem Gg(rs:List dA):(p9 rs).length=rs.length:=by unfold p9;simp
theorem DY{b:Bool}{A B:Prop}(h1:b=true->A)(h2:b=false->B):if b=true then A else B:=by
 cases b
 ·exact h2 rfl
 ·exact h1 rfl
theorem M0(o:List Nat):(d6 o).length=o.length:=by unfold d6;simp
theorem ints_map(o:List Nat):d6 o=(o.map λ(i:Nat)=>(i:Int)).map D.int:=by unfold d6;rw[bE];rfl
theorem Bs{f:Nat->Nat}{p:Nat}:∀{l:List Nat},p∈l->((l.filter λx=>decide (x<p)).map f).sum+f p<=(l.map f).sum
 |[],h=>by cases h
 |x::l,h=>by
  have tail:((l.filter λx=>decide (x<p)).map f).sum<=(l.map f).sum:=by
   clear h
   induction l with
   |nil=>exact av _
   |cons y l ih =>
    by_cases hy:y<p
    ·rw[qQ (by simpa using hy)];simp only[List.map_cons,List.sum_cons];omega
    ·rw[qR (by simpa using hy)];simp only[List.map_cons,List.sum_cons];omega
  by_cases hx:x<p
  ·have hm:p∈l:=by
    rcases aE.mp h with z|z
    ·omega
    ·exact z
   have:=Bs (f:=f) hm;rw[qQ (by simpa using hx)];simp only[List.map_cons,List.sum_cons];omega
  ·rw[qR (by simpa using hx)];simp only[List.map_cons,List.sum_cons];rcases aE.mp h with z|z
   ·subst z;omega
   ·have:=Bs (f:=f) z;omega
theorem jk.DE{cs:List b8}{v:Int}{rs:List dA}{o:List Nat}(h:jk cs v rs o):∀i,i<=o.length->jj (i9 cs v rs) (hZ (o.take i))
 |0,_=>by
  rw[List.take_zero];exact .zero
 |i+1,hi=>by
  have hl:i<o.length:=by omega
  have e:=bx (l:=o) (i:=i);rw[ag hl] at e;rw[e,show(some o[i]).toList=[o[i]] from rfl,Bq];exact .step (h.DE i (by omega)) (Z2.mpr (h.st i _ (ag hl)))
section
variable{T:Nat->Option aV}{k d:Nat}{g g':G}{Q:KD}{E:KX}{a b c r:Nat}{cs:List b8}{rs:List dA}{v:Int}{ns:List Int}
theorem XI(hT:TB T)(hO:TO T)(qj:T 104=some M8)(A:Ask g a c cs v rs)(hr:g[r]?=some (.lst (ns.map .int)))(hl:ns.length<=100)(h:∀g',Ex g g'->Q (pairF (vy cs v rs ns)) g'):d4 T (k+11) 104 [.ref a,.int v,.ref c,.ref r] g Q E:=by
 refine call_of qj rfl ?_;dsimp[M8,d8,List.replicate];walk_at"";refine BG (k:=k) hT A λg1 b e1 _ B=>?_;walk_at"";exact Hw (k:=k+6) hT hO B A.hz A.hr (e1.at hr) hl λg2 e2=>h g2 (e1.trans e2)
theorem Ws(hT:TB T)(hF:TF T)(hW:TW T)(hN:TN T)(qf:T 127=some U6)(A:Ask g a c cs v rs){m:Nat}(hm:m<many cs v rs)(h:∀o l g',jk cs v rs o->Ex g g'->g.length<=l->g'[l]?=some (.lst (d6 o))->Q (.ref l) g'):d4 T (k+11) 127 [.ref a,.int v,.ref c,.int (m:Nat)] g Q E:=by
 refine call_of qf rfl ?_;dsimp[U6,d8,List.replicate];walk_at"";refine BG (k:=k) hT A λg1 b e1 _ B=>?_;walk_at"";refine Bg (k:=k+3) hT hF hW B A.hz A.hr λw g2 e2 _ W=>?_;walk_at"";obtain⟨kvs,w1,w2⟩:=W.ex;refine rV w1 rfl (w2 0 .zero) ?_;walk_at"";unfold many at hm;refine u9 (k:=k+8) hT.nf ?_;walk_at"";refine gf (by rw[az (by omega),az (by omega)];rfl) ?_;walk_at"";exact Zq (k:=k+3) hT hF hN (m:=m) (B.at e2) W A.hz A.hr (ag hm) λl g3 e3 hl h3=>h _ l g3 (R6.mp (cc hm)) (e1.trans (e2.trans e3)) (aD (e1.trans e2).len hl) h3
theorem WA(hT:TB T)(hF:TF T)(hW:TW T)(hO:TO T)(qe:T 128=some O9)(A:Ask g a c cs v rs){o:List Nat}(ho:jk cs v rs o)(hr:g[r]?=some (.lst (d6 o)))(h:∀(n:Nat) g',n<many cs v rs->Ex g g'->Q (.int (n:Nat)) g'):d4 T (k+11) 128 [.ref a,.int v,.ref c,.ref r] g Q E:=by
 refine call_of qe rfl ?_;dsimp[O9,d8,List.replicate];have hz:=A.hz;walk_at"";refine BG (k:=k) hT A λg1 b e1 _ B=>?_;walk_at"";have r1:=e1.at hr;rw[ints_map] at r1;refine Hw (k:=k+6) hT hO B A.hz A.hr r1 (by rw[ah,ho.len];omega) λg2 e2=>?_;rw[ho.none];walk_at"";refine gf rfl ?_;walk_at"";refine Bg (k:=k+3) hT hF hW (B.at e2) A.hz A.hr λw g3 e3 yY W=>?_;walk_at"";have Fg:=e1.trans (e2.trans e3);have r3:=Fg.at hr;have B3:=B.at (e2.trans e3);obtain⟨kvs,w1,w2⟩:=W.ex;have jd:=E3 cs v rs;refine A6 (b0 T _) (kD (b0 T _) ?_);walk_at"";refine⟨r,_,rfl,a8 r3,d6 o,λi Z g'=>Ex g3 g'/\∃z8 z9,∃n:Nat,n+(j5 cs.length (i9 cs v rs) (hZ (o.take i))).length<=many cs v rs/\Z=[some (.ref a),some (.int v),some (.ref c),some (.ref r),some (.ref b),some (.ref w),some (.int (n:Nat)),some (.int ((hZ (o.take i):Nat):Int)),z8,z9],λi Z g' q=>q8 (a8 (q.1.at r3)),⟨Ex.refl _,_,_,0,by rw[List.take_zero];exact sI (by rw[Nat.zero_add];rfl),rfl⟩,λi x Z g' hx q=>?_,λZ g' q=>?_⟩
 ·obtain⟨e4,z8,z9,n,hn,rfl⟩:=q;rw[d6,ak,ae] at hx;obtain⟨p,hp,rfl⟩:=hx;have hi:i<o.length:=(aj.mp hp).1;have hR:=ho.DE i (by omega);have lS:=Z2.mpr (ho.st i p hp);have kE:=(ho.st i p hp).1;have hs:=hR.lt jd;have EZ:hZ (o.take (i+1))=hZ (o.take i) |||2 ^ p:=by
   rw[bx,hp,show(some p).toList=[p] from rfl,Bq]
  have hlen:=ho.len;generalize hsx:hZ (o.take i)=s at *;refine l6 ?_
  try show wpS _ _ _ _ _ _
  walk_at"";refine He (b0 T _) (kD (b0 T _) ?_);walk_at"";refine L0 (k:=k+5) hT hF (B3.at e4) hz A.hr hs λg5 fl e5 Eu h5=>?_;refine⟨fl,_,rfl,a8 h5,d6 (i9 cs v rs s),λZ=>∃z1 z2,Z=[some (.int (p:Nat)),z1,z2],λi=>decide ((i9 cs v rs s).getD i 0<p),λi=>.int (((i9 cs v rs s).getD i 0:Nat):Int),λg' e=>q8 (a8 (e.at h5)),?_,⟨none,none,rfl⟩,λj y Z g6 hy e6 sh=>?_,λg6 e6=>?_⟩
  ·rw[M0];have:(i9 cs v rs s).length<=cs.length:=by unfold i9;exact aD (bu _ _) (by simp)
   omega
  ·obtain⟨z1,z2,rfl⟩:=sh;rw[d6,ak,ae] at hy;obtain⟨q,hq,rfl⟩:=hy;have eq:(i9 cs v rs s).getD j 0=q:=by rw[bJ,hq];rfl
   dsimp only;rw[eq];refine l6 ?_
   try show cC _ _ _ _ _ _
   walk_at"";refine⟨by simp,e6,?_⟩;refine DY (λ_=>?_) (λ_=>⟨_,_,rfl⟩);walk_at"";exact⟨rfl,e6,_,_,rfl⟩
  rw[M0,xM (λq=>decide (q<p)) (λq=>D.int ((q:Nat):Int)) 0];have e7:=e4.trans (e5.trans (e6.trans (Ex.snoc g6 (O.lst (((i9 cs v rs s).filter λq=>decide (q<p)).map λq=>D.int ((q:Nat):Int))))));have h7:=d0 (g:=g6) (o:=O.lst (((i9 cs v rs s).filter λq=>decide (q<p)).map λq=>D.int ((q:Nat):Int)));generalize g6++[O.lst (((i9 cs v rs s).filter λq=>decide (q<p)).map λq=>D.int ((q:Nat):Int))]=g7 at *;generalize g6.length=lf at *;have pO:∀q∈(i9 cs v rs s).filter (λq=>decide (q<p)),q∈i9 cs v rs s:=λq hq=>(aT.mp hq).1;have LH:=Bs (f:=λq=>(j5 cs.length (i9 cs v rs) (s |||2 ^ q)).length) lS;have Mq:((i9 cs v rs s).filter λq=>decide (q<p)).length<=9:=by
   have:(i9 cs v rs s).length<=cs.length:=by unfold i9;exact aD (bu _ _) (by simp)
   exact aD (bu _ _) (by omega)
  have dz:s≠2 ^ cs.length-1:=λz=>by
   have hb:=(jd _ _ lS).2;rw[z,fI,az kE] at hb;cases hb
  rw[Jf jd hs dz] at hn;generalize (i9 cs v rs s).filter (λq=>decide (q<p))=L at *;walk_at"";refine AF rfl ?_;walk_at"";refine comp_map (b0 T _) (λZ=>∃z2 z3,Z=[some (.int (s:Nat)),some (.ref w),z2,z3]) (λj=>.int ((j5 cs.length (i9 cs v rs) (s |||2 ^ (L.getD j 0))).length:Nat)) (l:=L.map λq=>D.int ((q:Nat):Int)) (k:=.lst lf) (λg' e=>q8 (a8 (e.at h7))) (by rw[ah];omega) ⟨none,none,rfl⟩ (λj x Z g' hx e sh=>?_) (λg8 e8=>?_) (nE (b0 T _) (a8 h7) λQ q=>w_var (d:=.ref lf) rfl q)
  ·obtain⟨z2,z3,rfl⟩:=sh;rw[ak,ae] at hx;obtain⟨q,hq,rfl⟩:=hx;have eq:L.getD j 0=q:=by rw[bJ,hq];rfl
   rw[eq];have Eh:=pO q (aP hq);refine l6 ?_
   try show aK _ _ _ _ _ _
   walk_at"";refine p8 (k:=k+9) hT.kZ (by have:=(jd _ _ Eh).1;omega) ?_;refine rV ((e7.trans e).at w1) rfl (w2 _ (.step hR Eh)) ?_;exact⟨rfl,e,_,_,rfl⟩
  have el:(List.range (L.map λq=>D.int ((q:Nat):Int)).length).map (λj=>D.int ((j5 cs.length (i9 cs v rs) (s |||2 ^ (L.getD j 0))).length:Nat))=((L.map λq=>(j5 cs.length (i9 cs v rs) (s |||2 ^ q)).length).map λ(n:Nat)=>(n:Int)).map D.int:=by
   have:=xM (λ_:Nat=>true) (λq=>D.int ((j5 cs.length (i9 cs v rs) (s |||2 ^ q)).length:Nat)) 0 L;rw[ah,bE,bE];rw[dO.mpr (λ_ _=>rfl),dO.mpr (λ_ _=>rfl)] at this;exact this
  rw[el];refine Cb (a8 d0) ?_;have es:∀m:List Nat,(m.map λ(n:Nat)=>(n:Int)).sum=((m.sum:Nat):Int):=λm=>by
   induction m with
   |nil=>rfl
   |cons x r ih=>simp[ih]
  rw[es];refine Ib ?_;walk_at"";refine p8 (k:=k+9) hT.kZ (by omega) ?_;walk_at"";refine⟨e7.trans (e8.trans (Ex.snoc _ _)),some (.int (p:Nat)),some (.ref lf),n+(L.map λq=>(j5 cs.length (i9 cs v rs) (s |||2 ^ q)).length).sum,?_,?_⟩
  ·rw[EZ];omega
  ·rw[EZ]
   rfl
 ·obtain⟨e4,z8,z9,n,hn,rfl⟩:=q;rw[M0,cb] at hn;have uo:hZ o=2 ^ cs.length-1:=(Bp ho.nd ho.lt).mpr ho.len;rw[U0 uo] at hn
  try show wpS _ _ _ _ _ _
  walk_at"";exact h n _ (show n<many cs v rs from hn) (Fg.trans e4)
end
noncomputable def R9:aV:=⟨1,1,(.seq (.ret (dY .tuple (.comp [0] 3 (.one 2) (.eY (bg 8)) (eJ .NotIn bo aL) bo))) .pass)⟩
noncomputable def U7:aV:=⟨1,2,(.seq (.set 1 (.ite (eJ .Gt (cY aL (bg 4)) (bg 0)) (cu (.bin .Sub) (bg 10000) (cY aL (bg 4))) (bg 0))) (.seq (.ret (.prim .tup (sV (cY aL (bg 0)) (.call 155 (eK (cY aL (bg 1)))) (cY aL (bg 2)) (.call 155 (eK (cY aL (bg 3)))) bh))) .pass))⟩
noncomputable def CP:aV:=⟨1,11,(.seq (.set 1 (.call 3 (eK aL))) (.seq (.kR (.many [2,3]) (.call 26 (dg bh (bg 8)))) (.seq (.set 4 (.comp [] 2 (.one 1) (.fj (.call 106 (dg bh bo))) (eJ .Eq (cY bh (bg 0)) (hJ "coin")) bh)) (.seq (.set 5 (.comp [] 2 (.one 1) (.fj bo) .no (.call 156 (eK bh)))) (.seq (.set 6 (.comp [] 2 (.one 1) (.fj cM) .no (.prim .tup (fR (hJ "coin") (cY bh (bg 2)) (cY bh (bg 1)))))) (.seq (.set 7 (.call 126 (fR bo bS cM))) (.seq (.ifs (.jG (.dH (.fy (.call 6 (eK gk)))) (eJ .NotEq (.call 126 (fR eX bS eW)) gk)) (.seq (.ret (.lit (.bl false))) .pass) .pass) (.seq (.dI (.one 8) (.eY (cu (.bin .Mult) (bg 2) (dY .int (cu (.cmp .Gt) gk (bg 0))))) (.seq (.set 9 (dY .rev (.call 127 (nL bo bS cM (.call 4 (dg bh gk)))))) (.seq (.ifs (eJ .IsNot (.call 104 (nL eX bS eW pK)) (.lit .bO)) (.seq (.ret (.lit (.bl false))) .pass) .pass) (.seq (.set 10 (.call 128 (nL eX bS eW pK))) (.seq (.ifs (.jG (.dH (.fy (.call 6 (eK kd)))) (.dH (.fy (.chain .LtE .Lt (bg 0) kd gk)))) (.seq (.ret (.lit (.bl false))) .pass) .pass) .pass))))) (.seq (.ret (.lit (.bl true))) .pass)))))))))⟩
structure T17(T:Nat->Option aV):Prop where
 tb:TB T
 yx:xY T
 tf:TF T
 tw:TW T
 tn:TN T
 to:TO T
 h3:T 3=some wW
 h6:T 6=some xV
 Nf:T 11=some CP
 qj:T 104=some M8
 ni:T 126=some Z5
 qf:T 127=some U6
 qe:T 128=some O9
 jB:T 155=some R9
 qd:T 156=some U7
noncomputable def S1(ms:List Int):List Int:=((List.range 8).filter λ(i:Nat)=>!decide ((i:Int)∈ms)).map λ(i:Nat)=>(i:Int)
theorem Z1{ms:List Int}{x:Int}:x∈S1 ms↔(0<=x/\x<=7)/\x∉ms:=by
 unfold S1;rw[aO];constructor
 ·rintro⟨i,hi,rfl⟩;obtain⟨h1,h2⟩:=aT.mp hi;have:=aI.mp h1;exact⟨⟨by omega,by omega⟩,by simpa using h2⟩
 ·rintro⟨⟨h1,h2⟩,h3⟩;have e:((x.toNat:Nat):Int)=x:=by omega
  exact⟨x.toNat,aT.mpr ⟨aI.mpr (by omega),by rw[e];simpa using h3⟩,e⟩
theorem Ia:∀{ms:List Int} {l:Int},gm l ms=true->∀m∈ms,l<=m/\m<=7
 |[],_,_,m,h=>by cases h
 |x::r,l,hg,m,h=>by
  simp only[gm,Bool.and_eq_true,decide_eq_true_eq] at hg;rcases aE.mp h with z|z
  ·subst z;exact hg.1
  ·have:=Ia hg.2 m z;exact⟨by omega,this.2⟩
theorem HZ:∀{l:List Nat} {a:Nat},l.Pairwise (· < ·)->(∀x∈l,a<=x/\x<=7)->gm (a:Int) (l.map λ(i:Nat)=>(i:Int))=true
 |[],_,_,_=>rfl
 |x::r,a,hp,h=>by
  rw[fN] at hp;have h1:=h x (by simp);simp only[List.map_cons,gm,Bool.and_eq_true,decide_eq_true_eq];refine⟨⟨by omega,by omega⟩,?_⟩;have:=HZ (a:=x+1) hp.2 λy hy=>⟨hp.1 y hy,(h y (by simp[hy])).2⟩
  rw[<- this]
  rfl
theorem IE(ms:List Int):gm 0 (S1 ms)=true:=HZ (a:=0) (gX.filter _) λx hx=>by
 have:=aI.mp (aT.mp hx).1;omega
theorem Jq(ms:List Int):(S1 ms).length<=8:=by
 unfold S1;rw[ah];exact aD (bu _ _) (by simp)
theorem Gq{a b:List Int}:ky a b=true↔∀x∈a,x∈b:=by
 unfold ky;rw[bq];constructor
 ·intro h x hx;obtain⟨y,hy,e⟩:=bz.mp (h x hx);exact(fb.mp e)▸hy
 ·intro h x hx;exact bz.mpr ⟨x,h x hx,by simp⟩
theorem Gs{a b:List Int}(hb:gm 0 b=true):ky (S1 a) (S1 b)=ky b a:=by
 rw[aW,Gq,Gq];constructor
 ·intro h x hx;by_cases Eb:x∈a
  ·exact Eb
  ·exact absurd hx (Z1.mp (h x (Z1.mpr ⟨Ia hb x hx,Eb⟩))).2
 ·intro h x hx;obtain⟨h1,h2⟩:=Z1.mp hx;exact Z1.mpr ⟨h1,λz=>h2 (h x z)⟩
noncomputable def iO(c:b8):b8:=⟨c.lo,S1 c.lm,c.up,S1 c.um,if 0<c.yr then 10000-c.yr else 0⟩
structure GCd(c:b8):Prop where
 lo:1<=c.lo/\c.lo<=99
 up:1<=c.up/\c.up<=99
 lm:gm 0 c.lm=true
 um:gm 0 c.um=true
 yr:0<=c.yr/\c.yr<=9999
theorem fX.d{c:b8}(h:fX c):GCd c:=by
 have:=h.good;simp only[q9,Bool.and_eq_true,decide_eq_true_eq] at this;exact⟨this.1.1,this.2.1.1,this.1.2,this.2.1.2,this.2.2⟩
theorem a47{c:b8}(h:fX c):fX (iO c):=by
 obtain⟨h1,h2,h3,h4,h5⟩:=h.d;refine fX.mk' h1.1 h1.2 h2.1 h2.2 ?_ ?_ (IE _) (IE _) (Jq _) (Jq _)
 ·split<;>omega
 ·split<;>omega
theorem OZ{a b:b8}(ha:fX a)(hb:fX b):mw (iO a) (iO b)=mw b a:=by
 unfold mw iO;dsimp only;rw[Gs hb.d.lm,Gs hb.d.um,cJ.mpr (show a.lo=b.lo↔b.lo=a.lo from eq_comm),cJ.mpr (show a.up=b.up↔b.up=a.up from eq_comm)]
theorem OY{a b:b8}(ha:fX a)(hb:fX b):iP (iO a) (iO b)=iP b a:=by
 have h1:=ha.d.yr;have h2:=hb.d.yr;unfold iP iO;dsimp only;rw[aW];simp only[Bool.and_eq_true,decide_eq_true_eq];split<;>split<;>omega
theorem T4{f:b8->b8}{cs:List b8}{i:Nat}(hi:i<cs.length):dq (cs.map f) i=f (dq cs i):=by
 rw[B5 (c:=f cs[i]) (by rw[ak,ag hi];rfl),B5 (ag hi)]
theorem xu{cs:List b8}{i:Nat}(hi:i<cs.length):dq cs i∈cs:=by
 rw[B5 (ag hi)];exact cc hi
theorem RN{cs:List b8}(h:∀c∈cs,fX c):oR cs (cs.map iO):=by
 refine⟨by simp,λi hi=>by rw[T4 hi];rfl,λi j hi hj=>?_,λi j hi hj=>?_⟩
 ·rw[T4 hi,T4 hj];exact OZ (h _ (xu hi)) (h _ (xu hj))
 ·rw[T4 hi,T4 hj];exact OY (h _ (xu hi)) (h _ (xu hj))
theorem II{α:Type}(f:α->D)(d:α)(l:List α):(List.range l.length).map (λi=>f (l.getD i d))=l.map f:=by
 have:=xM (λ_:α=>true) f d l
 rwa [dO.mpr (λ_ _=>rfl),dO.mpr (λ_ _=>rfl)] at this
section
variable{T:Nat->Option aV}{k d:Nat}{g g':G}{Q:KD}{E:KX}{a b c r:Nat}{cs:List b8}{rs:List dA}{v:Int}{ns:List Int}
theorem P4(jB:T 155=some R9){ms:List Int}(h:∀g',Ex g g'->Q (.tup ((S1 ms).map .int)) g'):d4 T (k+1) 155 [.tup (ms.map .int)] g Q E:=by
 refine call_of jB rfl ?_;dsimp[R9,d8,List.replicate];walk_at"";refine C3 (b0 T _) (λZ=>∃z1 z2,Z=[some (.tup (ms.map .int)),z1,z2]) (λi=>!decide ((i:Int)∈ms)) (λ(i:Nat)=>.int (i:Nat)) (l:=k8 0 8) (k:=.fix (k8 0 8)) (λ_ _=>x8) (by rw[n4];decide) ⟨none,none,rfl⟩ (λi x Z g' hx e sh=>?_) (λg1 e1=>?_) (CO (b0 T _) (j:=8) (by decide) λQ q=>w_lit q)
 ·obtain⟨z1,z2,rfl⟩:=sh;obtain⟨hi,rfl⟩:=E2 hx;rw[jO];refine l6 ?_
  try show cC _ _ _ _ _ _
  walk_at"";refine wO (Bw ?_);walk_at"";refine⟨by rw[IJ],e,?_⟩;refine DY (λ_=>?_) (λ_=>⟨_,_,rfl⟩);walk_at"";exact⟨rfl,e,_,_,rfl⟩
 rw[n4];refine JN (a8 d0) ?_;have:=h _ (e1.trans (Ex.snoc g1 (O.lst (((List.range 8).filter λ(i:Nat)=>!decide ((i:Int)∈ms)).map λ(i:Nat)=>D.int (i:Nat)))));unfold S1 at this;rw[bE] at this;exact this
theorem Zn(jB:T 155=some R9)(qd:T 156=some U7){c:b8}(h:∀g',Ex g g'->Q (iO c).d g'):d4 T (k+2) 156 [c.d] g Q E:=by
 refine call_of qd rfl ?_;dsimp[U7,d8,List.replicate,b8.d];walk_at"";unfold iO at h;refine if2 (λc1=>?_) (λc1=>?_)
 ·rw[aH c1] at h;walk_at"";refine P4 (k:=k) jB λg1 e1=>?_;walk_at"";refine P4 (k:=k) jB λg2 e2=>?_;walk_at"";exact h g2 (e1.trans e2)
 ·rw[aB c1] at h;walk_at"";refine P4 (k:=k) jB λg1 e1=>?_;walk_at"";refine P4 (k:=k) jB λg2 e2=>?_;walk_at"";exact h g2 (e1.trans e2)
theorem ZY(hT:T17 T){ns:List Int}:d4 T (k+12) 11 [.ref 0] [.nk (ns.map .int)] (λd _=>d=.bl true) iG:=by
 refine call_of hT.Nf rfl ?_;dsimp[CP,d8,List.replicate];walk_at"";refine Sa (k:=k+10) hT.h3 (a:=0) (ns:=ns) rfl λd g D1 _ _=>?_;walk_at"";have dl:=D1.lt;refine YA (k:=k+7) hT.yx.lf ⟨by decide,by decide⟩ D1 λcs a v g2 hl hG ha hal v1 v2 D2 G2=>?_;refine A8 rfl ?_
 try show wpS _ _ _ _ _ _
 have hz:cs.length<=8:=by omega
 have dl2:=D2.lt;walk_at"";refine He (b0 T _) (kD (b0 T _) ?_);walk_at"";refine a19 (k:=k+8) hT.yx ha (by omega) (by omega) D2 λlH c0 g3 LK MM pW jW D3 G3=>?_;have a3:=G3.at (by omega) ha;have zd:(p9 lH).length=lH.length:=by unfold p9;simp
 refine⟨c0,_,rfl,a8 pW,p9 lH,λZ=>∃z0 z1,Z=[z0,z1],λi=>nW (lH.getD i r0),λi=>(lH.getD i r0).d,λg' e=>q8 (a8 (e.at pW)),by omega,⟨none,none,rfl⟩,λi x Z g' hx e sh=>?_,λg4 e4=>?_⟩
 ·obtain⟨z0,z1,rfl⟩:=sh;unfold p9 at hx;rw[ak,ae] at hx;obtain⟨r,hr,rfl⟩:=hx;have er:lH.getD i r0=r:=by rw[bJ,hr];rfl
  dsimp only;rw[er];refine l6 ?_
  try show cC _ _ _ _ _ _
  walk_at"";refine C5 (l:=[.str r.w.s,.int r.x,.int r.y]) rfl ?_;walk_at"";refine⟨rfl,e,?_⟩;refine if2 (λ_=>?_) (λ_=>⟨_,_,rfl⟩);walk_at"";exact⟨rfl,e,_,_,rfl⟩
 rw[zd,xM nW dA.d r0 lH];have hw:∀r∈lH.filter nW,r.w=.ff:=λr hr=>Vw (aT.mp hr).2;have wB:∀r∈lH.filter nW,k6 cs r=true:=λr hr=>bq.mp MM r (aT.mp hr).1;have LJ:(lH.filter nW).length<=4:=aD (bu _ _) LK;generalize lH.filter nW=rs at *;have hR:rs.all (k6 cs)=true:=bq.mpr wB;have c5:(g4++[O.lst (rs.map dA.d)])[g4.length]?=some (.lst (p9 rs)):=d0;have e5:=e4.trans (Ex.snoc g4 (O.lst (rs.map dA.d)));have a5:=e5.at a3;have D5:=e5.draw D3;have jX:g4.length≠d:=by have:=e4.len;have:=D3.lt;omega
 have Mv:a≠d:=by omega
 generalize g4++[O.lst (rs.map dA.d)]=g5 at *;generalize g4.length=c at *;clear e5 e4;walk_at"";refine comp_map (b0 T _) (λZ=>∃z0 z1,Z=[z0,z1]) (λi=>(iO (cs.getD i cD)).d) (l:=cs.map b8.d) (k:=.lst a) (λg' e=>q8 (a8 (e.at a5))) (by simp;omega) ⟨none,none,rfl⟩ (λi x Z g' hx e sh=>?_) (λg6 e6=>?_) (nE (b0 T _) (a8 a5) λQ q=>w_var (d:=.ref a) rfl q)
 ·obtain⟨z0,z1,rfl⟩:=sh;rw[ak,ae] at hx;obtain⟨x,hx,rfl⟩:=hx;have ex:cs.getD i cD=x:=by rw[bJ,hx];rfl
  rw[ex];refine l6 ?_
  try show aK _ _ _ _ _ _
  walk_at"";exact Zn (k:=k+9) hT.jB hT.qd λg2 e2=>⟨rfl,e.trans e2,_,_,rfl⟩
 rw[ah,II (λx=>(iO x).d) cD cs,show cs.map (λx=>(iO x).d)=(cs.map iO).map b8.d by rw[bE];rfl];have b7:=d0 (g:=g6) (o:=O.lst ((cs.map iO).map b8.d));have e7:=e6.trans (Ex.snoc g6 (O.lst ((cs.map iO).map b8.d)));have a7:=e7.at a5;have c7:=e7.at c5;have D7:=e7.draw D5;have rD:g6.length≠d:=by have:=e6.len;have:=D5.lt;omega
 generalize g6++[O.lst ((cs.map iO).map b8.d)]=g7 at *;generalize g6.length=b at *;clear e6 e7 a5 c5 D5;walk_at"";refine comp_map (b0 T _) (λZ=>∃z0 z1,Z=[z0,z1]) (λi=>(u6 (rs.getD i r0)).d) (l:=p9 rs) (k:=.lst c) (λg' e=>q8 (a8 (e.at c7))) (by rw[Gg];omega) ⟨none,none,rfl⟩ (λi x Z g' hx e sh=>?_) (λg8 e8=>?_) (nE (b0 T _) (a8 c7) λQ q=>w_var (d:=.ref c) rfl q)
 ·obtain⟨z0,z1,rfl⟩:=sh;unfold p9 at hx;rw[ak,ae] at hx;obtain⟨r,hr,rfl⟩:=hx;have er:rs.getD i r0=r:=by rw[bJ,hr];rfl
  rw[er];have og:=hw r (aP hr);refine l6 ?_
  try show aK _ _ _ _ _ _
  walk_at"";refine C5 (l:=[.str r.w.s,.int r.x,.int r.y]) rfl ?_;walk_at"";refine C5 (l:=[.str r.w.s,.int r.x,.int r.y]) rfl ?_;walk_at"";exact⟨by unfold u6 dA.d;rw[og];rfl,e,_,_,rfl⟩
 rw[Gg,II (λr=>(u6 r).d) r0 rs,show rs.map (λr=>(u6 r).d)=p9 (rs.map u6) by unfold p9;rw[bE];rfl];have f9:=d0 (g:=g8) (o:=O.lst (p9 (rs.map u6)));have e9:=e8.trans (Ex.snoc g8 (O.lst (p9 (rs.map u6))));have a9:=e9.at a7;have b9:=e9.at b7;have c9:=e9.at c7;have D9:=e9.draw D7;have Mr:g8.length≠d:=by have:=e8.len;have:=D7.lt;omega
 generalize g8++[O.lst (p9 (rs.map u6))]=g9 at *;generalize g8.length=f at *;clear e8 e9 a7 b7 c7 D7;have M:=RN hG;have MN:∀x∈cs.map iO,fX x:=λx hx=>by
  obtain⟨y,hy,rfl⟩:=aO.mp hx;exact a47 (hG y hy)
 have EI:(rs.map u6).all (k6 (cs.map iO))=true:=by
  rw[List.all_map,bq];exact λr hr=>GK M (hw r hr) (wB r hr)
 have A9:Ask g9 a c cs v rs:=⟨a9,by omega,hG,⟨v1,by omega⟩,c9,by omega,hR⟩
 have B9:Ask g9 b f (cs.map iO) v (rs.map u6):=⟨b9,by rw[ah];omega,MN,⟨v1,by omega⟩,f9,by rw[ah];omega,EI⟩
 clear a9 b9 c9 f9;have zm:=a46 (v:=v) M hw wB;have zl:=zm;walk_at"";refine Hx (k:=k) hT.tb hT.tf hT.tw hT.ni A9.ha (by omega) A9.good A9.hB A9.hv A9.hc A9.hr hR λES rP=>?_;walk_at"";refine Ie (k:=k+10) hT.h6 ?_;walk_at"";have oV:=B9.at rP;refine Hx (k:=k) hT.tb hT.tf hT.tw hT.ni oV.ha oV.hz oV.good oV.hB oV.hv oV.hc oV.hr EI λNr wJ=>?_;walk_at"";unfold many at zm;rw[zm];refine gf (by simp) ?_;have nv:=rP.trans wJ;have A11:=A9.at nv;have B11:=B9.at nv;have Dh:=nv.draw D9;clear rP wJ nv A9 B9 oV D9;have za:=RK (v:=v) (rs:=rs) (show cs.length<=9 by omega);walk_at"";refine A6 (b0 T _) (oJ (b0 T _) ?_);walk_at"";refine N4 (xi (by decide) (by decide)) ?_;unfold many at za;obtain⟨w,rh,yY,LB⟩:∃w:Nat,(2*(if decide (0<((j5 cs.length (i9 cs v rs) 0).length:Int))=true then(1:Int) else 0))=(w:Nat)/\w<=2/\(0<w->0<(j5 cs.length (i9 cs v rs) 0).length):=by
  by_cases h0:0<(j5 cs.length (i9 cs v rs) 0).length
  ·exact⟨2,by rw[az (by omega)];rfl,by omega,λ_=>h0⟩
  ·exact⟨0,by rw[aF (by omega)];rfl,by omega,λz=>absurd z (by omega)⟩
 rw[rh];refine⟨(w:Nat),rfl,by omega,by omega,k8 0 ((w:Nat):Int).toNat,λi Z g'=>(Ask g' a c cs v rs/\Ask g' b f (cs.map iO) v (rs.map u6)/\j6 g' d)/\∃z8 z9 yh,Z=[some (.ref 0),some (.ref d),some (.ref a),some (.int v),some (.ref c),some (.ref b),some (.ref f),some (.int ((j5 cs.length (i9 cs v rs) 0).length:Nat)),z8,z9,yh],λ_ _ _ _=>x8,⟨⟨A11,B11,Dh⟩,none,none,none,rfl⟩,λi x Z g' hx q=>?_,λZ g' q=>?_⟩
 ·obtain⟨⟨A,B,D0⟩,z8,z9,yh,rfl⟩:=q;obtain⟨hi,rfl⟩:=E2 hx;have LO:=LB (by omega);refine l6 ?_
  try show wpS _ _ _ _ _ _
  walk_at"";refine i5 (k:=k+10) hT.yx.lf.pull D0 (by omega) (by omega) λm g1 m0 m1 D1 G1=>?_;obtain⟨m,rfl⟩:∃m':Nat,m=m':=⟨m.toNat,by omega⟩
  have A1:=A.gr G1 Mv jX;have B1:=B.gr G1 rD Mr;walk_at"";refine Ws (k:=k) hT.tb hT.tf hT.tw hT.tn hT.qf A1 (m:=m) (by unfold many;omega) λo l g2 hO e2 Mf h2=>?_;walk_at"";refine Wl (a8 h2) ?_;rw[show(d6 o).reverse=d6 o.reverse by unfold d6;rw[List.map_reverse]];have zM:=hO.rev M hw wB;have e3:=e2.trans (Ex.snoc g2 (O.lst (d6 o.reverse)));have r3:=d0 (g:=g2) (o:=O.lst (d6 o.reverse));generalize g2++[O.lst (d6 o.reverse)]=g3 at *;generalize g2.length=r at *;walk_at"";refine XI (k:=k) hT.tb hT.to hT.qj (B1.at e3) (by rw[<- ints_map];exact r3) (by rw[ah,zM.len,ah];omega) λg4 e4=>?_;rw[zM.none];walk_at"";refine gf rfl ?_;walk_at"";refine WA (k:=k) hT.tb hT.tf hT.tw hT.to hT.qe (B1.at (e3.trans e4)) zM (e4.at r3) λn g5 hn e5=>?_;rw[zl] at hn;unfold many at hn;have rO:=e3.trans (e4.trans e5);walk_at"";refine Ie (k:=k+10) hT.h6 ?_;walk_at"";refine iA (az (by omega)) ?_;walk_at"";refine gf (by rw[az (by omega)];rfl) ?_;walk_at"";exact⟨⟨A1.at rO,B1.at rO,rO.draw D1⟩,_,_,_,rfl⟩
 ·obtain⟨_,z8,z9,yh,rfl⟩:=q
  try show wpS _ _ _ _ _ _
  walk_at""
  rfl
end
end M

namespace Lk
open PySem L2 M
noncomputable def top(i:Nat):Stmt:=PySem.Challenge.pw_trussel_k17_whole_time_turned_about.main.body.getD i (.Pass ⟨0,0,0,0⟩)
noncomputable def Rt:Stmt->List Stmt
 |.ClassDef (body:=b) ..=>b
 |_=>[]
noncomputable def FH(i j:Nat):Stmt:=(Rt (top i)).getD j (.Pass ⟨0,0,0,0⟩)
noncomputable def F:List RF:=[⟨38,"is_number",["thing"],1,10,BB⟩,⟨1,"number_from",["number","least","most"],3,11,V4⟩,⟨2,"good_marks",["marks","least","spot"],1,12,F5⟩,⟨15,"within",["one","other"],2,13,xD⟩,⟨12,"good_coin",["coin","lower","lower_marks","upper","upper_marks","year","good_lower","good_upper"],1,20,B4⟩,⟨39,"check_coin",["coin"],1,21,BH⟩,⟨18,"check_coins",["coins","coin"],1,22,V6⟩,⟨40,"check_side",["side"],1,23,P1⟩,⟨19,"die_field",["side"],1,24,Bz⟩,⟨74,"places_of",["coins","word","thing","field"],3,25,U5⟩,⟨20,"dies_of",["coins","side","field"],2,26,Ba⟩,⟨42,"check_anvils",["anvils"],1,31,E6⟩,⟨88,"good_rule",["coins","rule","word","one","other"],2,32,BA⟩,⟨89,"check_rules",["coins","rules","at","rule"],2,33,V5⟩,⟨90,"stand_of",["places"],1,34,Z3⟩,⟨91,"with_coin",["stand","place"],2,35,U4⟩,⟨92,"more_worn",["one","other","side","field"],2,36,BC⟩,⟨93,"later",["one","other"],2,37,Cw⟩,⟨94,"worn_stands",["coins"],1,38,V3⟩,⟨95,"later_stands",["coins"],1,39,R8⟩,⟨96,"die_stands",["coins"],1,40,Z9⟩,⟨97,"needed_stands",["coins","rules","needed","word","one","other","first","place"],2,41,O3⟩,⟨98,"check_asked",["coins","anvils","rules"],3,43,M9⟩,⟨99,"bounds_of",["coins","anvils","rules"],3,44,By⟩,⟨100,"dies_in_use",["bounds","stand","place","struck","left"],3,45,Z8⟩,⟨101,"next_fault",["bounds","stand","place"],3,46,Z4⟩,⟨102,"places_fault",["many","order","at","place"],2,47,K5⟩,⟨103,"fault_of",["bounds","order","fault","stand","at","place","word"],2,48,Bl⟩,⟨104,"order_fault",["coins","anvils","rules","order"],4,49,M8⟩,⟨115,"follows",["bounds","stand","place"],3,51,Z6⟩,⟨116,"followers",["bounds","stand"],2,52,Z7⟩,⟨117,"reached_stands",["bounds","led_to","told","stand","place"],1,53,F4⟩,⟨121,"ways_on",["bounds","ways","stand"],1,55,Bb⟩,⟨122,"step_on",["bounds","ways","stand","number","choices","left","at"],4,56,xC⟩,⟨123,"numbered_order",["bounds","ways","number","order","stand","left","place"],3,57,L9⟩,⟨126,"how_many",["coins","anvils","rules"],3,58,Z5⟩,⟨127,"order_of",["coins","anvils","rules","number","bounds","ways"],4,59,U6⟩,⟨128,"number_of",["coins","anvils","rules","order","bounds","ways","number","stand","place","lesser"],4,60,O9⟩,⟨3,"_law_open",["_law_script"],1,62,wW⟩,⟨4,"_law_pull",["_law_draw","_law_total_of","_law_cell","_law_got","_law_seed"],2,63,E5⟩,⟨6,"_law_num",["_law_found"],1,64,xV⟩,⟨21,"_law_order_of",["_law_draw","_law_numbers","_law_left","_law_found","_law_step"],2,65,R7⟩,⟨22,"_law_any_coin",["_law_draw","_law_menu","_law_lower","_law_upper","_law_year"],1,66,xO⟩,⟨23,"_law_seated",["_law_draw","_law_seats","_law_fresh","_law_anvils"],4,67,F3⟩,⟨24,"_law_struck",["_law_draw","_law_size","_law_anvils","_law_seats","_law_fresh","_law_worn","_law_year","_law_step","_law_wear","_law_shift","_law_found","_law_k","_law_keys","_law_key","_law_spot","_law_named","_law_told_year"],3,68,F2⟩,⟨25,"_law_opened",["_law_draw","_law_size","_law_dies","_law_row","_law_held","_law_found","_law_k","_law_year"],2,69,xB⟩,⟨26,"_law_list",["_law_draw","_law_most","_law_size","_law_anvils","_law_way","_law_found","_law_at","_law_coin","_law_other"],2,70,P0⟩,⟨105,"_law_rule",["_law_draw","_law_coins","_law_word","_law_some","_law_at"],2,71,sk⟩,⟨106,"_law_rules",["_law_draw","_law_coins","_law_found","_law_k","_law_rule_here"],2,72,Cy⟩,⟨155,"_law_lacking",["_law_marks"],1,73,R9⟩,⟨156,"_law_mirrored",["_law_coin","_law_year"],1,74,U7⟩,⟨11,"law",["_law_script","_law_draw","_law_coins","_law_anvils","_law_rules_here","_law_turned_coins","_law_turned_rules","_law_total","_law_turn","_law_row","_law_found"],1,75,CP⟩]
noncomputable def Ms:List RM:=[⟨113,"Bounds","__init__","Bounds.__init__",["self","coins","anvils","rules"],4,42,0,V7⟩]
noncomputable def con:List (Str×D):=[("LAST_SPOT",.int 7),("MOST_COINS",.int 9),("LAST_DIE",.int 99),("LAST_YEAR",.int 9999),("SIDES",.tup [(.str "lower"),(.str "upper")]),("MOST_ANVILS",.int 9),("RULE_WORDS",.tup [(.str "coin"),(.str "lower"),(.str "upper")]),("YEAR_FIELD",.int 4)]
noncomputable def gd:List (Str×List D):=[("DIE_FIELDS",[.tup [.str "lower",.int 0],.tup [.str "upper",.int 2]])]
noncomputable def exc:List Str:=["BadAnvils","BadCoin","BadNumber","BadRule","BadSide","TooMany"]
noncomputable def c0:i4:=⟨[],[],true,F.map λr=>(r.nm,r.id),con,["len","enumerate","list","tuple","isinstance","all","range","int","bool","max","min","sorted","set","sum","reversed"],exc,gd,[("Bounds",113)],Ms.map λr=>(r.nm,r.cl,r.id),[("size","Bounds"),("full","Bounds"),("room","Bounds"),("worn_by_place","Bounds"),("later_by_place","Bounds"),("lower_dies","Bounds"),("needed_by_place","Bounds")],true,true⟩
noncomputable abbrev T:Nat->Option aV:=rY F Ms
theorem tx:km c0 F Ms top FH:=by
 refine⟨rfl,rfl,by decide +kernel,by decide +kernel,by decide +kernel,by decide +kernel,?_,?_,?_,?_⟩
 all_goals
  repeat first
   |exact BF.nil
   |exact BM.nil
   |exact YF.nil
   |exact YM.nil
   |refine YF.cons (by kernel_rfl) ?_
   |refine YM.cons (by kernel_rfl) ?_
   |refine BF.cons (λ_ _ _ _ _ _ us hl=>(by rcases us with _|⟨_,_|⟨_,_|⟨_,_|⟨_,_|⟨_,_|⟨_,_|⟨_,_⟩⟩⟩⟩⟩⟩⟩<;>first|(simp at hl;done)|(exfalso;simp at hl;omega)|rfl)) ?_
   |refine BM.cons (λ_ _ _ _ _ _ us hl=>(by rcases us with _|⟨_,_|⟨_,_|⟨_,_|⟨_,_|⟨_,_|⟨_,_|⟨_,_⟩⟩⟩⟩⟩⟩⟩<;>first|(simp at hl;done)|(exfalso;simp at hl;omega)|rfl)) ?_
inductive rR:List DictEntry->List (Str×V)->Prop
 |nil:rR [] []
 |cons {h:Int} {x:Str} {t:Tok} {u:Value} {v:V} {es:List DictEntry} {vs:List (Str×V)} (r:RelV v u) (q:rR es vs):rR (⟨h,.str x t,u⟩::es) ((x,v)::vs)
theorem rR.find{es vs}(x:Str)(h:rR es vs):E9 (vs.lookup x) (findBy Value.isStrOf es.toArray x):=by
 induction h with
 |nil=>trivial
 |cons r q ih =>
  rename_i h y t u v es vs;unfold findBy at ih ⊢;rw[List.find?_toArray] at ih ⊢;rw[eh,cA];by_cases e:x=y
  ·rw[show(x==y)=true from by simp[e],show Value.isStrOf x (.str y t)=true from by simp[Value.isStrOf,e]];exact r
  ·rw[show(x==y)=false from by simpa using e,show Value.isStrOf x (.str y t)=false from by simp[Value.isStrOf];exact λz=>e (z.symm)];exact ih
theorem all_mk{l:PySem.W.OpenLaw}{w:World}{K:PySem.W.Frag}{h:Heap}{mg:Str->Option Value}{fa:Addr}{Ay Ax wD:Addr}{t0 t1 t2 t3 uU uT t5 uS uR uQ t7 ox ow ou ot:Tok}{As:Array (Option Value)}{Av:Nat}{Ar:Array (Option Value)}{Au:Nat}{Nl:Nat}{ml mj:Int}(X:K.In h)(G:h.Ns mainGlobals mg)(Mt:mg "law"=some (.ref fa))(I:kn K c0 F Ms top FH)(e0:PySem.W.nsIn K mainGlobals "LAST_SPOT"=some (some (Value.int 7 t0)))(e1:PySem.W.nsIn K mainGlobals "MOST_COINS"=some (some (Value.int 9 t1)))(e2:PySem.W.nsIn K mainGlobals "LAST_DIE"=some (some (Value.int 99 t2)))(e3:PySem.W.nsIn K mainGlobals "LAST_YEAR"=some (some (Value.int 9999 t3)))(e4:PySem.W.nsIn K mainGlobals "SIDES"=some (some (.ref Ay)))(NQ:K.lookup Ay=some ⟨.type "tuple",none,.seq #[Value.str "lower" uU,Value.str "upper" uT] Av,As⟩)(e5:PySem.W.nsIn K mainGlobals "MOST_ANVILS"=some (some (Value.int 9 t5)))(e6:PySem.W.nsIn K mainGlobals "RULE_WORDS"=some (some (.ref Ax)))(NP:K.lookup Ax=some ⟨.type "tuple",none,.seq #[Value.str "coin" uS,Value.str "lower" uR,Value.str "upper" uQ] Au,Ar⟩)(e7:PySem.W.nsIn K mainGlobals "YEAR_FIELD"=some (some (Value.int 4 t7)))(g0:PySem.W.nsIn K mainGlobals "DIE_FIELDS"=some (some (.ref wD)))(Nn:K.lookup wD=some ⟨.type "dict",none,.dict #[⟨ml,Value.str "lower" ox,Value.int 0 ow⟩,⟨mj,Value.str "upper" ou,Value.int 2 ot⟩] Nl,#[]⟩)(pF:ml=PyData.keyHash w.params "lower")(pE:mj=PyData.keyHash w.params "upper")(Nk:(wD==sysModules)=false)
  : ∃fd:FuncData,(∀(s:Shared) (v:Value),BindsTo s fd ⟨[v],[]⟩ [("_law_script",v)])/\∀base:Heap,K.In base->base.Ns mainGlobals mg->hU l.prog w K mg base (iJ l.prog w) 80 fa fd ["_law_script"] (nR exc K 1 (d4 T 40 11)):=by
 have A:mr w K mg c0 T:=by
  refine QW I tx X G (λx d hx=>?_) (λx kvs hx=>?_)
  ·have hm:=aM hx;simp only[c0,con,List.mem_cons,List.mem_nil_iff,or_false] at hm;rcases hm with z|z|z|z|z|z|z|z
   ·cases z;exact⟨(.int 7),_,bK X G e0,⟨_,rfl⟩,λ_ _=>.int _⟩
   ·cases z;exact⟨(.int 9),_,bK X G e1,⟨_,rfl⟩,λ_ _=>.int _⟩
   ·cases z;exact⟨(.int 99),_,bK X G e2,⟨_,rfl⟩,λ_ _=>.int _⟩
   ·cases z;exact⟨(.int 9999),_,bK X G e3,⟨_,rfl⟩,λ_ _=>.int _⟩
   ·cases z;exact⟨.ref Ay,_,bK X G e4,rfl,λ_ _=>.tup (vs:=[.str "lower",.str "upper"]) (.inr ⟨_,_,_,NQ,rfl,rfl,rfl,(by show 2<=sizeLine;decide),.cons ⟨_,rfl⟩ (.cons ⟨_,rfl⟩ (.nil))⟩) (.cons (.str _) (.cons (.str _) (.nil)))⟩
   ·cases z;exact⟨(.int 9),_,bK X G e5,⟨_,rfl⟩,λ_ _=>.int _⟩
   ·cases z;exact⟨.ref Ax,_,bK X G e6,rfl,λ_ _=>.tup (vs:=[.str "coin",.str "lower",.str "upper"]) (.inr ⟨_,_,_,NP,rfl,rfl,rfl,(by show 3<=sizeLine;decide),.cons ⟨_,rfl⟩ (.cons ⟨_,rfl⟩ (.cons ⟨_,rfl⟩ (.nil)))⟩) (.cons (.str _) (.cons (.str _) (.cons (.str _) (.nil))))⟩
   ·cases z;exact⟨(.int 4),_,bK X G e7,⟨_,rfl⟩,λ_ _=>.int _⟩
  ·have hm:=aM hx;simp only[c0,gd,List.mem_cons,List.mem_nil_iff,or_false] at hm;have z:=hm
   ·cases z;have er:rR [⟨ml,Value.str "lower" ox,Value.int 0 ow⟩,⟨mj,Value.str "upper" ou,Value.int 2 ot⟩] [("lower",.int 0),("upper",.int 2)]:=.cons (v:=.int 0) ⟨_,rfl⟩ (.cons (v:=.int 2) ⟨_,rfl⟩ (.nil));exact⟨wD,_,bK X G g0,⟨_,_,Nn,⟨⟨_,_,rfl,pF⟩,⟨⟨_,_,rfl,pE⟩,True.intro⟩⟩,Nk,λx=>er.find x⟩,.cons (λ_ _=>.int _) (.cons (λ_ _=>.int _) (.nil))⟩
 obtain⟨f,fd,O,a,t⟩:=IX I tx _ (aP (i:=51) rfl);cases Mt.symm.trans (bK X G a);obtain⟨oc,od,kV,doc,pm,an,fm,ct,kU,rfl,lk,jX⟩:=O.fn.ex;exact⟨_,λs v=>.of_eq rfl,λbase mE uH=>Oq mE uH A 40 11 _ _ fa _ rfl O⟩
theorem walk{l:PySem.W.OpenLaw}{q:Program}{loose:List Str}{XP:(Str->Option Value)->Heap->Prop}{YP:World->Heap->Prop}{d:DefRec}{K:Params->PySem.W.Frag}(hn:l.most=some 63)(uq:d.params.defaults=[])(hY:∀(w:World) (h:Heap),YP w h->(K w.params).In h)(F:∀ (w:World) (mg:Str->Option Value) (fa:Addr) (h:Heap),(K w.params).In h->h.Ns mainGlobals mg->mg d.name=some (.ref fa) ->
   ∃ fd:FuncData,(∀ (s:Shared) (u:Value),BindsTo s fd ⟨[u],[]⟩ [("_law_script",u)])/\∀ base:Heap,(K w.params).In base->base.Ns mainGlobals mg->hU l.prog w (K w.params) mg base (iJ l.prog w) 80 fa fd ["_law_script"] (nR exc (K w.params) 1 (d4 T 40 11))) :
  PySem.W.WalkO q loose XP YP l.row.toRowW d [] (λf vs=>PySem.call f vs) :=
 L2.Th (n:=63) (k:=80) (x:="_law_script") (CX:=λw=>iJ l.prog w) (sp:=λw=>nR exc (K w.params) 1 (d4 T 40 11)) hn (by decide) uq ⟨rfl,by decide,by decide⟩ hY F (λw H a ns hl hO hS=>OP hO hS (ZY (k:=28) ⟨⟨⟨⟨rfl,rfl⟩,rfl,rfl,⟨rfl,rfl⟩,⟨rfl,rfl⟩,rfl,rfl,rfl,rfl,rfl,rfl,rfl,rfl,rfl,rfl,rfl,rfl,rfl,rfl,rfl,rfl⟩,rfl,rfl,rfl⟩,⟨⟨rfl,rfl,rfl,rfl,rfl,rfl,rfl⟩,rfl,rfl⟩,⟨rfl,rfl⟩,⟨rfl,rfl⟩,⟨rfl,rfl⟩,⟨rfl,rfl⟩,rfl,rfl,rfl,rfl,rfl,rfl,rfl,rfl,rfl⟩)) λ_ _ _ _ _ ⟨_,_,_,_,_,_,_,z⟩=>z
end Lk
open PySem PySem.W PyProof.Rows
set_option maxRecDepth 100000 in
set_option maxHeartbeats 0 in
theorem PySem.Challenge.cw_trussel_k17_whole_time_turned_about_holds : PySem.Challenge.rw_trussel_k17_whole_time_turned_about.Holds := by
 w_on;o_law;k_head;(case hw=>w_witness2)
 k_fill
 refine Lk.walk (l:=PySem.Challenge.rw_trussel_k17_whole_time_turned_about) rfl rfl (fun w h Y=>PySem.W.kIn_of Y) ?F
 case F =>
  intro w mg fa h KX G hmg
  refine' Lk.all_mk KX G hmg ⟨?zz1,?zz2,?zz3,?zz4,?zz5,?zz6,?zz7⟩ ?_ ?_ ?_ ?_ ?_ ?_ ?_ ?_ ?_ ?_ ?_ ?_ ?_ ?_ ?_
  (case zz1=>repeat' first | (with_reducible show _=_;k_is) | exact M.PF.nil | apply M.PF.cons)
  (case zz2=>repeat' first | (with_reducible show _=_;k_is) | exact M.PM.nil | apply M.PM.cons)
  (case zz3=>repeat' first | (with_reducible show _=_;k_is) | exact M.PC.nil | apply M.PC.cons)
  (case zz4=>repeat' first | (with_reducible show _=_;k_is) | exact M.PA.nil | apply M.PA.cons)
  (case zz5=>repeat' first | (with_reducible show _=_;k_is) | exact M.PB.nil | apply M.PB.cons)
  (case zz6=>repeat' first | (with_reducible show _=_;first | (with_reducible show PySem.W.excIn _ _ _ _=true;k_exc) | k_is) | exact M.PX.nil | apply M.PX.cons)
  (case zz7=>kernel_rfl)
  all_goals try (with_reducible show _=_;k_is)
  all_goals try ((with_reducible show _=_);rfl)
#print axioms PySem.Challenge.cw_trussel_k17_whole_time_turned_about_holds
