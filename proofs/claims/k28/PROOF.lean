import PyProof.Rows.All
import Wide.All
import OpenK.AllK
import Wide.FinOn
import Lean
import PyProof.EqAt
import PyProof.EqKinds
import PyProof.TupleCall
import PySem.Challenge.RW_trussel_k28_firsts_refused
set_option Elab.async false
set_option linter.all false
set_option maxRecDepth 100000
set_option maxHeartbeats 4000000
set_option genInjectivity false
set_option bootstrap.genMatcherCode false
set_option genSizeOf false
local macro_rules|`(def $i:declId $s:optDeclSig $v:declVal)=>`(noncomputable def $i:declId $s:optDeclSig $v:declVal)
def CL:=@PySem.wpAny_binaryOp_repeat_ref
def CM:=@PySem.W.hideAll_get
def CN:=@List.length_pos_iff
def CO:=@List.flatMap_append
def JA:=@Int.natAbs_natCast
def JB:=@Array.append_assoc
def Jw:=@PySem.W.of_hideAll
def Jx:=@PySem.W.kitx_tuple
def Jy:=@Nat.mod_lt
def Jz:=@Int.natCast_nonneg
def aA:=@PySem.Heap.get?_push_size
def aB:=@List.size_toArray
def aC:=@Nat.le_trans
def aD:=@decide_eq_true
def aE:=@decide_eq_false
def aF:=@List.getElem?_append_left
def aG:=@List.mem_cons
def aH:=@if_pos
def aJ:=@Option.some.inj
def aK:=@Nat.ne_of_lt
def aL:=@PySem.mem_of_lookup
def aM:=@List.mem_of_getElem?
def aN:=@Bool.and_eq_true
def aO:=@List.getElem?_set_self
def aR:=@List.mem_map
def aV:=@PySem.Heap.get?_update_self
def aW:=@List.map_cons
def aX:=@List.mem_range
def aY:=@List.length_append
def aa:=@Option.map_eq_some_iff
def ae:=@PySem.wpAny_bind
def ag:=@Option.bind_eq_some_iff
def ah:=@List.length_map
def ai:=@PySem.wpAny_pure
def aj:=@PySem.Heap.get?_push_of_some
def ak:=@List.getElem?_eq_some_iff
def ao:=@List.getElem?_map
def au:=@List.getElem?_eq_getElem
def av:=@Nat.le_refl
def aw:=@List.getElem?_set_ne
def ax:=@Nat.lt_of_lt_of_le
def ay:=@PySem.Heap.lt_size
def az:=@if_neg
def bA:=@Ne.symm
def bB:=@Nat.ne_of_gt
def bD:=@PyProof.Rows.slot_tuple_getitem
def bE:=@List.mem_singleton
def bG:=@List.mem_cons_of_mem
def bL:=@PySem.W.mg_of
def bN:=@PySem.W.kia_one
def bO:=@List.replicate_succ
def bP:=@PySem.Heap.get?_update_other
def bR:=@PySem.Heap.SameBut.update
def bS:=@PySem.wpAny_newObj_type
def bU:=@List.take_succ
def bV:=@Int.toNat_natCast
def bY:=@PySem.wpAny_holding
def bZ:=@PySem.wpAny_truthy_bool
def ba:=@of_decide_eq_true
def bf:=@List.getElem?_eq_none
def bg:=@List.mem_append
def bh:=@Bool.eq_iff_iff
def bj:=@Nat.lt_irrefl
def bo:=@List.mem_append_right
def bp:=@PySem.wpAny_mono
def bq:=@PySem.Obj.data_mapFields
def br:=@Array.length_toList
def bu:=@List.mem_filter
def bz:=@PyProof.Rows.callWith_type1
def cA:=@List.any_eq_true
def cB:=@List.getElem?_append_right
def cC:=@List.getElem?_eq_none_iff
def cF:=@PySem.wpAny_Call_Name_kw
def cG:=@List.flatten_cons
def cJ:=@PySem.Obj.isFreed_of_fields
def cM:=@beq_eq_false_iff_ne
def cN:=@List.getElem?_range
def cO:=@List.length_take
def cP:=@List.length_cons
def cQ:=@List.getElem_mem
def cR:=@List.getElem?_replicate
def cW:=@decide_eq_true_iff
def cX:=@PySem.W.cellsFrom_some
def cY:=@Int.emod_lt_of_pos
def cZ:=@Bool.false_ne_true
def cb:=@PySem.wpAny_setState_of
def cc:=@List.take_length
def cg:=@List.lookup_cons
def cj:=@List.all_eq_true
def cq:=@List.mem_iff_getElem
def cu:=@PySem.wpAny_call_entry
def cv:=@decide_eq_false_iff_not
def cw:=@Bool.or_eq_true
def cy:=@Nat.lt_trans
def cz:=@Nat.zero_le
def dC:=@List.drop_eq_getElem_cons
def dD:=@PyProof.Rows.F.plain_set_update_loop
def dE:=@List.filterMap_cons
def dI:=@PySem.wpAny_of_eq
def dJ:=@Option.isSome_iff_exists
def dM:=@PySem.Heap.size_push
def dN:=@PySem.Around.under_plainId
def dO:=@List.nodup_cons
def dP:=@List.map_append
def dQ:=@List.find?_cons
def dR:=@Int.emod_nonneg
def dX:=@PySem.wpAny_typeOf
def df:=@PySem.wpAny_setField
def dg:=@Array.getElem_eq_getD
def dh:=@decide_eq_true_eq
def dj:=@List.nodup_append
def dq:=@PySem.wpAny_passesOwn
def dt:=@List.mem_append_left
def du:=@PySem.wpAny_standAt
def dz:=@Nat.le_of_lt
def eA:=@PyProof.Rows.boot_list
def eB:=@Nat.lt_trichotomy
def eE:=@Nat.lt_or_ge
def eF:=@List.map_map
def eG:=@List.length_pos_of_mem
def eI:=@PySem.codeAny_builtin
def eJ:=@PySem.tupleKind_room_in1
def eK:=@PySem.call_meets
def eQ:=@PySem.wpAny_callSpecial?_slot
def eR:=@List.mem_iff_getElem?
def eU:=@decide_eq_decide
def eV:=@beq_iff_eq
def eW:=@Nat.lt_succ_self
def eX:=@List.any_cons
def fB:=@PySem.wpAny_rule
def fC:=@PySem.intKind_is
def fH:=@Nat.one_le_two_pow
def fI:=@Nat.lt_of_le_of_lt
def fJ:=@List.mem_cons_self
def fK:=@List.length_eraseIdx_of_lt
def fL:=@List.filter_append
def fP:=@List.pairwise_iff_getElem
def fV:=@Nat.le_succ
def fW:=@List.reverse_cons
def fX:=@List.flatMap_cons
def fY:=@List.ext_getElem?
def fZ:=@List.append_assoc
def fb:=@List.eq_nil_of_length_eq_zero
def fj:=@List.append_nil
def fu:=@PySem.builtinLookup_eq_fast
def gA:=@congrArg
def gB:=@PySem.F.entry_tuple_add
def gP:=@PySem.F.slot_tuple_add
def gQ:=@List.set_set
def gX:=@PySem.wpAny_pyIter_list
def gY:=@List.range_succ
def gg:=@PySem.codeAny_mono
def gh:=@PySem.F.args_tuple_add_2
def gi:=@List.getElem?_take_of_lt
def gz:=@PySem.isSubtype_type
def hX:=@PySem.wpAny_comprehension_free
def hZ:=@PySem.F.slot_dict_get
def iL:=@PySem.wpAny_isInstance
def iM:=@PySem.noFill_tuple_add
def iN:=@Bool.or_eq_false_iff
def ia:=@Nat.eq_of_beq_eq_true
def ic:=@List.take_append_drop
def ie:=@List.length_singleton
def ig:=@List.length_replicate
def ij:=@List.length_filter_le
def ik:=@Array.getElem?_toList
def jR:=@List.findIdx?_eq_some_iff_getElem
def jV:=@PySem.wpAny_field
def jW:=@PySem.sizeLine_eq
def jX:=@Option.isSome_map
def jY:=@List.find?_append
def jc:=@PyProof.Rows.F.entry_set_update_loop
def jm:=@PySem.wpAny_execs_nil
def jn:=@PySem.typeLookup_type
def jo:=@PySem.F.slot_int_rmul
def ju:=@PySem.W.callWith_K
def jv:=@Nat.not_lt
def jw:=@List.pairwise_cons
def jx:=@List.mem_filterMap
def jy:=@List.find?_eq_none
def kC:=@Nat.le_of_not_lt
def kD:=@List.mem_reverse
def kE:=@List.length_drop
def kF:=@List.getElem_inj
def kU:=@PySem.seq_tuple_add
def kW:=@PySem.plainId_quiet
def kX:=@PySem.Paired.length
def kj:=@List.eraseIdx_eq_take_drop_succ
def lE:=@PySem.typeIs_int
def lF:=@List.of_mem_zip
def lG:=@PySem.F.args_tuple_add_2
def mZ:=@PySem.Value.isInt_shape
def nQ:=@List.mem_or_eq_of_mem_set
def nR:=@Array.getElem?_eq_getElem
def ng:=@Option.ne_none_iff_exists'
def nh:=@PySem.Obj.cls_mapFields
def ni:=@PySem.F.entry_tuple_add
def oX:=@PySem.wpAny_askSetting
def oY:=@PyProof.Rows.boot_sorted
def oZ:=@PySem.F.slot_tuple_mul
def pb:=@PySem.F.slot_tuple_add
def pe:=@Bool.false_or
def qG:=@PySem.F.plainAttrs_list
def qH:=@PySem.F.args_dict_get_3
def qI:=@PyProof.Rows.boot_tuple
def qJ:=@List.length_eq_zero_iff
def sA:=@Int.zero_add
def sC:=@Bool.not_not
def sD:=@Array.getElem?_eq_none
def si:=@PySem.codeAny_of_tree
def sj:=@PySem.F.entry_dict_get
def sk:=@Nat.mul_comm
def su:=@List.take_of_length_le
def sv:=@List.pairwise_lt_range
def sx:=@List.map_nil
def sy:=@List.drop_eq_nil_of_le
def vI:=@PyProof.Rows.size_push'
def vJ:=@PyProof.Rows.assignInOrder_cons
def vK:=@PyProof.Rows.boot_set
def vL:=@PyProof.Rows.boot_int
def vM:=@Bool.and_eq_false_iff
def ye:=@Nat.pow_le_pow_right
def yf:=@List.pairwise_append
def yg:=@PySem.Calls.Name_function_global
structure PySem.W.Fast:Prop where(tw15862969309633800626 tw12494557592002430704 tw14744625869553662889 tw16486376599485052983 tw15485810642981535980 tw15121370551268139094 tw6974076186053637880 tw8920044238618117334 tw11167723347168811109 tw15504180091597546954 tw119314601340695224 tw12801557520294675423 tw12610284493359553133 tw13752863930799398240 tw786301672997609398 tw12041161810389105442 tw16614211361632665851 tw7532585569052222783 tw13070871494485935848 tw14284974324609570149 tw9723309283711454586 tw1512236229311707015 tw14139369358448051919 tw745106961989097339 tw6744923820217454772 tw5996568878462336278 tw14343386916342924360 tw3988276013654943218 tw5093915542389329188 tw11612017679575931588 tw9105548540007286399 tw189308622244002490 tw806426427376959700 tw5495770732072022649 tw9000784835877005074 tw13030076746598496891 tw6853145556419937286 tw13960265123664728687 tw7580717338738826233 tw9803203116170727641 tw14677847768471466125 tw2215436568009556298 tw15263314308435347392 tw13982757021889212549 tw4882498298812509943 tw18109560786690680230 tw16363334039601272368 tw627661498756956229 tw11873493812840478982 tw762202160382383788 tw16288918942342623116 tw14368707412432495189 tw14491037707738943472 tw10599772952683476831 tw9280912385089292600 tw9325575605991580193 tw5182425408717600084 tw1784013990818687196 tw4812250416687775679 tw139296286656509198 tw17995208208260115339 tw17506955043387207394 tw2036949091662223339 tw11949508464932943009 tw6948129394268749942 tw7603893421869651195 tw4895058354333899665 tw12487382342393344884 tw2204045613624989309 tw16642852162332566460 tw34142582739759673 tw9540882268050815086 tw986949582353084746 tw1224805535302122196 tw6807794232067117121 tw635743567142051109 tw7529641339147603728 tw17295760048639916194 tw8127163196393333751 tw6827596351247335798 tw17928053670396851473 tw5277170548244485514 tw4517490690490000443 tw14900004099380610529 tw14087155337198212082 tw4084989639847148348 tw15467594948521109770 tw13665181791289448654 tw8651106785810031289 tw8734585445809886393 tw7027105625201564128 tw9850762743126311097 tw3466970937106789055 tw16044976448193040334 tw10098218002227286685 tw15540332005066326846 tw6322218244841439276 tw9421004896822610207 tw7074768092871206686 tw8982321620741307799 tw3223578391825940934 tw15271162046313215355 tw8895633204976964092 tw13654633534489770864 tw5464886444163481671 tw18331332609235774561 tw3284724301178818632 tw379410294061682847 tw3445062979741237608 tw18016391871585696611 tw12248668490521911564 tw12847039553791404394 tw3750413964629999657 tw11818067198374496138 tw8658369541595133083 tw8098512629448222007 tw221019864696348149 tw14462825804619663201 tw14403762384663655557 tw162246829534749609 tw1681032651338342304 tw5761846075260079063 tw15269485811977303046 tw5725992506781035010 tw8753201751818208947 tw3666930198450199580 tw10789550068715130308 tw10855980212281417726 tw2944489616247951768 tw12128652167153586624 tw17044575884850419311 tw4823437908766866473 tw12182289892291326825 tw4385716484404123281 tw7870751073664266773 tw8105297044347657838 tw14590057818401929204 tw5826484246023753549 tw18177759635400524577 tw14692355629134077470 tw7287347073484989778 tw12216655776532573447 tw18319135907099369117 tw1522896505474934497 tw10651190413184277225 tw5015727686618912975 tw13162459578579106707 tw15365491718139644766 tw6693767598220001273 tw14192813874691800316 tw2617641074357412056 tw8377212156066225504 tw9415477773987885826 tw10104105874241778016 tw2784951759173289125 tw14088202512644155253 tw110017926895579783 tw4651194701895633654 tw1428413362674675399 tw13902762881498128647 tw11029224622606665944 tw8123538633566803422 tw5129047497188360226 tw10406970035524663602 tw12202857646741073807 tw8763113869952655844 tw17560367837444876194 tw15003809223703801029 tw9173186652919860947 tw2293157141996136731 tw17274538644010080127 tw9198974466757707148 tw4066248098837868588 tw12960743312362155694 tw6947625827633028578 tw16589075187603792733 tw9719916100130746884 tw8606384989475413985 tw10349230952291844114 tw13396745135046860626 tw17048971490825466308 tw10695348928250675899 tw17824267776830449882 tw16137839508448228463 tw10130081117169741287 tw13797977201149577422 tw1255649415704517391 tw5800013268069495889 tw10109294833379253944 tw1333176613079318404 tw1488281319174106014 tw18048911661044765430 tw3138915649018081029 tw7579813985584142598 tw15967105642314723620 tw11595162787684215497 tw2853948207001055378 tw1875020946436411502 tw5336477058138259967 tw2271838663517825318 tw14747011526866666866 tw3059683009229180958 tw14760253745794569410 tw15474048785819737669 tw9175763024701584251 tw8451915336533787073 tw5953452554930050718 tw15468930972666694610 tw4830875179970972142 tw31364649688721087 tw13801522382982261819 tw16723074847001378465 tw16236937986112016344 tw3603138095216612889 tw2789035226916022307 tw465812262556744491 tw11103582763970369574 tw196101740724298194 tw3987877962111907148 tw11208864796408942016 tw8842389405301551810 tw4397206937619459286 tw11835476598893549605 tw12591292125369815691 tw2229657103539877347 tw4195222853888919478 tw3389858267693825557 tw14435122457553684525 tw2928836975654060231 tw12054644435845579677 tw9923409153247875516 tw1308600013904028887 tw10144327197215065819 tw8982630590488434825 tw16352302471218697834 tw13260193270021247862 tw2827685181174777766 tw1633225770721415124 tw6314133599472007673 tw14747423126848211553 tw3895684413960693899 tw8765548648453488504 tw10824352313859957893 tw5447013670231462000 tw9810065650973795273 tw13563739084864645597 tw5597841530163188710 tw16246744492214992688 tw17857360347368408993 tw827679041588764337 tw17971344355241778767 tw7807430341264807992 tw6986447204726537125 tw6316101982768203473 tw4688166111565779240 tw16233047480972798428 tw46352865320257519 tw6044551726235744783 tw5169019834657573215 tw11284468101692659911 tw4118121827599901174 tw13220079030435766298 tw9751696183631702305 tw8953985394267328524 tw15984590662380522377 tw13925640881880532767 tw17477345596613595466 tw15691200621290790878 tw1948823944036101894 tw3412613833019711622 tw5073595939635550345 tw1892649519271890227 tw16396043406975063097 tw17330316433446474194 tw4218324523125243764 tw3855374621919381434 tw4452790943605404345 tw8297500548228142100 tw7536596013297906903 tw13198172959677162177 tw12864836139678172663 tw12262366079253003759 tw9084803970449194159 tw812007878910308074 tw7085663082890782289 tw5270285429149249518 tw9946373172686710459 tw9700964875998758188 tw18278438722439271575 tw5180982182670891912 tw13106419854819135217 tw9329791399293799091 tw6953400859141678282 tw2313446318934847434 tw5473270354282057873 tw10525196531961603525 tw2585026952037646951 tw481801104127844045 tw12063281371907145999 tw10738903791201803635 tw3159526004165147010 tw12188366380130925787 tw9473362946660075544 tw6080912796041286923 tw3668572125662986162 tw3123904925410947475 tw17811561806711404213 tw16324536093785632751 tw6496904914840995154 tw6993819603321834599 tw1217004163129906482 tw14843532342089764430 tw14799648691716654598 tw14098976090480272372 tw15441461308681850001 tw8851766946736175290 tw15372186909762643056 tw11077093324537130332 tw11375953118428023007 tw8245041273608691121 tw11444292035424389570 tw13352628831187803305 tw5386030276964347779 tw13807174690605037094 tw13579580448144203278 tw8893156603213297136 tw7717530318691049854 tw13521131021209497655 tw6397561639255818034 tw2957860010149650405 tw685706386053218790 tw9484556842403070162 tw15867636623966858302 tw4458995045611863963 tw3934211458698047181 tw1279434554532354961 tw6781974771109657444 tw10506056145660495143 tw2657368723924247613 tw1805631113756647081 tw6636001881936353636 tw10814377241329151893 tw2585280655525261668 tw14141121690562717893 tw16312492623230704632 tw11605822246850736296 tw4492025600986356482 tw3636494115070821692 tw6134588837864695716 tw16338471339854074976 tw4320244273089491455 tw3389577567061213818 tw958560225461921500 tw18123542165819904470 tw8645677764806673531 tw15855548739512130165 tw14782574439563184062 tw6547068539693734815 tw9227674674133005477 tw4860696523296214991 tw10645085912542957799 tw2138177180110593829 tw1310114443352047748 tw12872620802205244259 tw8384230800982144881 tw17031151027066341664 tw12203399088092416419 tw16823893801961457647 tw1520177069194423521 tw3964103274984458606 tw8843437707445320204 tw15535665701156388168 tw5729094976809852663 tw6537424675787795050 tw8131912963485796573 tw13692533706410032689 tw16774094595742367344 tw11621150476482338497 tw16854555575774494239 tw1943435351442969966 tw18386815499441875030 tw2822608265478150915 tw18262502464357680970 tw10596845803274012284 tw11361458126005873804 tw2444350654326375357 tw12721405138890925485 tw14324153403838747149 tw419663956835268862 tw9182234210165367828 tw1180118457303524974 tw5763887366422781222 tw2500363114032343842 tw12088579025698080466 tw6512865388323831452 tw3105625631292775844 tw16330337559589851079 tw9342244302449956929 tw6253154001344402480 tw4695277227513402567 tw6968499696925658867 tw3599419079438076808 tw11205527657988675116 tw9207416439607150668 tw15576669291545933001 tw6175552254649553147 tw14987025290136844264 tw9712160298656333691 tw6394242339799447067 tw14216412827703868775 tw1883006003975258383 tw5349604171640005885 tw12402126113488879176 tw9351631142607558875 tw2583571212226342224 tw12843292008104980794 tw10437348843307482185 tw10578718050808393970 tw5477720763012780408 tw2652169572319942535 tw1421422573738816580 tw13249611297950580151 tw4975537311526900102 tw8978764332804877406 tw8519348938392432411 tw7103224096206284759 tw11133396096619138581 tw2957211889563683906 tw7420755131610663143 tw15185346618829303611 tw9817569174234762199 tw1978630245620575320 tw1490772969776006834 tw10722145124685503456 tw10777088622196973616 tw17226322509884683565 tw10861864665443609979 tw15721792267415492771 tw948728732638355468 tw11126618216077048807 tw8230166030964803119 tw8617145700442310241 tw5346605181419204359 tw606084418936369304 tw9611333488764594363 tw10022834317285844135 tw4353088812250399426 tw6037189247537144722 tw12076114044899244917 tw15648404364730080907 tw6129129195089096847 tw7004081142894624353 tw16324240427803184946 tw6198104696402649444 tw4562883842237585848 tw18334332904391102113 tw12685190489339251801 tw7992174327970887445 tw1665552970878890153 tw5345949229363041539 tw10119982134994641075 tw3787380429625262611 tw2014771482358318977 tw9530450632718080433 tw5643424170415941054 tw13779384589228328464 tw7431517068652842102 tw2932939546702499296 tw10264729710143596841 tw1482832551248866112 tw5248745610465956756 tw16685356771597461134 tw5970102514511258668 tw14757982418350222965 tw2816019551058501356 tw209467909332468118 tw14290703235335797178 tw11148472510061627027 tw2788848097784125190 tw2143729626208392830 tw14988137607679508811 tw6458713367300257152 tw11475026550999711059 tw14985418592968979743 tw15153478672761837434 tw18361140744959298140 tw1972075996371546279 tw10550153245360298844 tw9980246868914502708 tw1800210766802633581 tw8290367331358173431 tw6834216502192257127 tw3593090727393621828 tw4728801121193827704 tw8167389994398169409 tw8363861902154144170 tw3813103355451327185 tw14839768304704888879 tw8664156957589026959 tw12788529607911878947 tw17361895236175967357 tw11202532297932067530 tw10391282888842640700 tw10564128604290662392 tw7148611281923551708:True)
namespace L2
open PySem PySem.Spec PyProof.Rows
noncomputable abbrev Key:=Sum Int Str
def rT:Key->Value->Bool
 |.inl k,v=>Value.isInt k v
 |.inr x,v=>Value.isStrOf x v
def Te(w:World):Key->Int
 |.inl k=>hashInt k
 |.inr x=>hashStr w x
theorem u7:∀{k:Key} {v:Value},rT k v=true->(∃i t,k=Sum.inl i/\v=Value.int i t)\/(∃x t,k=Sum.inr x/\v=Value.str x t)
 |.inl i,v,h=>by
  obtain⟨t,e⟩:=mZ (k:=i) (v:=v) h;exact .inl ⟨i,t,rfl,e⟩
 |.inr x,v,h=>by
  obtain⟨t,e⟩:=Value.isStrOf_shape (x:=x) (v:=v) h;exact .inr ⟨x,t,rfl,e⟩
theorem WV(i:Int)(t:Tok):rT (.inl i) (.int i t)=true:=by simp[rT,Value.isInt]
theorem WW(x:Str)(t:Tok):rT (.inr x) (.str x t)=true:=by simp[rT,Value.isStrOf]
theorem Ou(a b:Int):decide ((Sum.inl a:Key)=Sum.inl b)=(a==b):=by
 by_cases e:a=b
 ·subst e;simp
 ·have h:¬(Sum.inl a:Key)=Sum.inl b:=λq=>e (Sum.inl.inj q);rw[aE h];exact(cM.mpr e).symm
theorem Ox(a b:Str):decide ((Sum.inr a:Key)=Sum.inr b)=decide (a=b):=by
 by_cases e:a=b
 ·subst e;simp
 ·have h:¬(Sum.inr a:Key)=Sum.inr b:=λq=>e (Sum.inr.inj q);rw[aE h,aE e]
theorem Ov(a:Int)(b:Str):decide ((Sum.inl a:Key)=Sum.inr b)=false:=aE (λq=>nomatch q)
theorem Ow(a:Str)(b:Int):decide ((Sum.inr a:Key)=Sum.inl b)=false:=aE (λq=>nomatch q)
def n9(prog:Program)(w:World):PySem.KeyKind prog w Key where
 is:=rT
 hash:=Te w
 inj:=λv a b ha hb=>by
  rcases u7 ha with⟨i,t,rfl,rfl⟩|⟨x,t,rfl,rfl⟩
  ·rcases u7 hb with⟨j,u,rfl,e⟩|⟨y,u,rfl,e⟩
   ·injection e with e1 _;rw[e1]
   ·exact nomatch e
  ·rcases u7 hb with⟨j,u,rfl,e⟩|⟨y,u,rfl,e⟩
   ·exact nomatch e
   ·injection e with e1 _;rw[e1]
 byValue:=λk v h=>by
  rcases u7 h with⟨i,t,rfl,rfl⟩|⟨x,t,rfl,rfl⟩<;>rfl
 pyHash:=λhv h=>by
  rcases u7 hv with⟨i,t,rfl,rfl⟩|⟨x,t,rfl,rfl⟩
  ·exact wpAny_pyHash_int h
  ·exact wpAny_pyHash_str h
 eqBool:=λhu hv h=>by
  rcases u7 hu with⟨i,t,rfl,rfl⟩|⟨x,t,rfl,rfl⟩
  ·rcases u7 hv with⟨j,u,rfl,rfl⟩|⟨y,u,rfl,rfl⟩
   ·rw[Ou] at h;exact wpAny_eqBool_int h
   ·rw[Ov] at h;exact SeqAt.EqAt.int_str i t y u _ _ _ _ h
  ·rcases u7 hv with⟨j,u,rfl,rfl⟩|⟨y,u,rfl,rfl⟩
   ·rw[Ow] at h;exact SeqAt.EqAt.str_int x t j u _ _ _ _ h
   ·rw[Ox] at h;exact wpAny_eqBool_str h
 «strs»:=λk x t v h=>by
  rcases u7 h with⟨i,u,rfl,e⟩|⟨y,u,rfl,e⟩
  ·exact nomatch e
  ·injection e with e1 _;subst e1;cases v<;>rfl
theorem YK(prog:Program)(w:World)(i:Int)(t:Tok):(n9 prog w).is (.inl i) (.int i t)=true:=WV i t
theorem YL(prog:Program)(w:World)(x:Str)(t:Tok):(n9 prog w).is (.inr x) (.str x t)=true:=WW x t
set_option genInjectivity true in
inductive V where
 |bx|bl (b:Bool)|int (i:Int)|str (x:Str)|ky (b:Array UInt8)|qj (b:UInt64)|ref (a:Addr)|ty (n:String)
 deriving DecidableEq
def RelV:V->Value->Prop
 |.bx,u=>u=Value.none
 |.bl b,u=>u=Value.bool b
 |.int i,u=>∃t,u=Value.int i t
 |.str x,u=>∃t,u=Value.str x t
 |.ky b,u=>∃t,u=Value.bytes b t
 |.qj b,u=>∃t,u=Value.float b t
 |.ref a,u=>u=Value.ref a
 |.ty n,u=>u=Value.type n
noncomputable abbrev Vals:List V->List Value->Prop:=Paired RelV
theorem Vals.length{xs:List V}{us:List Value}(r:Vals xs us):xs.length=us.length:=kX r
theorem Vals.get:∀{xs:List V} {us:List Value} {i:Nat} {x:V},Vals xs us->xs[i]?=some x->∃u,us[i]?=some u/\RelV x u
 |_,_,_,_,.nil,e=>by simp at e
 |_,_,0,_,.cons r _,e=>by simp at e;subst e;exact⟨_,rfl,r⟩
 |_,_,i+1,x,.cons _ t,e=>by
  obtain⟨u,h1,h2⟩:=Vals.get (i:=i) (x:=x) t (by simpa using e);exact⟨u,by simpa using h1,h2⟩
theorem Vals.set{x:V}{u:Value}(r:RelV x u):∀{xs:List V} {us:List Value} (i:Nat),Vals xs us->Vals (xs.set i x) (us.set i u)
 |_,_,_,.nil=>.nil
 |_,_,0,.cons _ t=>.cons r t
 |_,_,i+1,.cons q t=>.cons q (Vals.set r i t)
theorem Vals.append{xs ys:List V}{us ws:List Value}(h:Vals xs us)(s:Vals ys ws):Vals (xs++ys) (us++ws):=by
 induction h with
 |nil=>exact s
 |cons r t ih=>exact .cons r ih
theorem Vals.take:∀{xs:List V} {us:List Value} (n:Nat),Vals xs us->Vals (xs.take n) (us.take n)
 |_,_,0,_=>.nil
 |_,_,_+1,.nil=>.nil
 |_,_,n+1,.cons r t=>.cons r (Vals.take n t)
theorem Vals.drop:∀{xs:List V} {us:List Value} (n:Nat),Vals xs us->Vals (xs.drop n) (us.drop n)
 |_,_,0,r=>r
 |_,_,_+1,.nil=>.nil
 |_,_,n+1,.cons _ t=>Vals.drop n t
def E7:Option V->Option Value->Prop
 |some v,some u=>RelV v u
 |none,none=>True
 |_,_=>False
def KV{κ:Type}:List (κ×V)->List (κ×Value)->Prop:=Paired λ(p:κ×V) (q:κ×Value)=>p.1=q.1/\RelV p.2 q.2
def kV:Key->V
 |.inl i=>.int i
 |.inr x=>.str x
inductive HO where
 |lst (xs:List V)
 |tup (xs:List V)
 |dK (kvs:List (Key×V))|dT (kvs:List (List Key×V))
 |set (S:Int->Bool) (n:Nat)
 |ins (C dx:Addr) (fs:List (Str×V))
 |own (x:Addr)
 |xd (fs:List (Str×V))
 |met (f x:Addr)
 |lh (lo hi:Int)
 |jj (o:Obj) (u:HO)
 |nU (ps:Array Value)
 |ext (φ:Heap->Prop)
noncomputable abbrev Hp:=Addr->Option HO
def upd(H:Hp)(a:Addr)(o:HO):Hp:=λb=>if b=a then some o else H b
theorem n8{H:Hp}{a:Addr}{o:HO}:upd H a o a=some o:=by unfold upd;rw[aH rfl]
theorem f9{H:Hp}{a b:Addr}{o:HO}(h:b≠a):upd H a o b=H b:=by unfold upd;rw[az h]
theorem Vi{H:Hp}{a b:Addr}{o u:HO}(h:H a=some o)(h':H b=some u)(d:o≠u):a≠b:=by
 intro e;subst e;rw[h] at h';exact d (aJ h')
theorem j8{H:Hp}{a b:Addr}{o:HO}(h:H a=some o)(h':H b=none):a≠b:=by
 intro e;subst e;rw[h] at h';cases h'
def F9(h:Heap)(a:Addr)(items:Array Value):Prop:=∃o,h.get? a=some o/\o.cls=.type "tuple"/\(∃n,o.data=.seq items n)/\o.dict=none
theorem F9.tup{h:Heap}{a:Addr}{items:Array Value}(x:F9 h a items):IsTup h a items:=let ⟨o,e,c,d,_⟩:=x;⟨o,e,c,d⟩
theorem F9.new(h:Heap)(items:Array Value):F9 (h.push { cls:=.type "tuple",data:=.seq items }) h.objs.size items:=⟨_,aA _ rfl,rfl,⟨_,rfl⟩,rfl⟩
section
variable(P:Program)(w:World)
def k8(H:Hp)(h:Heap)(a:Addr):HO->Prop
 |.lst xs=>xs.length<=sizeLine/\∃(aQ:List Value) (n:Nat),Vals xs aQ/\h.get? a=some { cls:=.type "list",data:=.seq aQ.toArray n }
 |.tup xs=>xs.length<=sizeLine/\∃aQ:List Value,Vals xs aQ/\F9 h a aQ.toArray
 |.dK kvs=>kvs.length<=sizeLine/\(a==sysModules)=false/\∃vs,KV kvs vs/\h.DictOf (n9 P w) a vs
 |.dT kvs=>kvs.length<=sizeLine/\(a==sysModules)=false/\∃xs:List (List Key×Addr×Value),
   Paired (λ(p:List Key×V) (q:List Key×Addr×Value)=>p.1=q.1/\H q.2.1=some (.tup (p.1.map kV))/\RelV p.2 q.2.2) kvs xs /\
   ∃o es ep,h.get? a=some o/\o.ExactDict/\o.data=.dict es ep/\es.toList=xs.map (entryOfKey (tupleKind (n9 P w)))/\(xs.map (·.1)).Nodup
 |.set S n=>h.SetOf (intKind P w) a S n
 |.ins C dx fs=>H dx=some (.own a)/\fs.length<=1000/\dx≠a/\h.get? a=some (PySem.W.instObj C dx) /\
   ∃mA,h.Ns1 dx mA/\(∀f,E7 (fs.lookup f) (mA f))/\PySem.Within mA (fs.map (·.1))
 |.own _=>∃o,h.get? a=some o
 |.xd fs=>∃mA,h.Ns1 a mA/\∀f,E7 (fs.lookup f) (mA f)
 |.lh lo hi=>∃t u v,h.get? a=some { cls:=.type "range",data:=.fields #[.int lo t,.int hi u,.int 1 v] }
 |.jj o u=>h.get? a=some o/\k8 H h a u
 |.nU ps=>h.get? a=some { cls:=.none,data:=.fields ps }
 |.met f x=>h.get? a=some (PySem.W.methodObj (.ref f) (.ref x))
 |.ext φ=>φ h/\(∃o,h.get? a=some o)/\∀h1 h2:Heap,φ h1->(∀o,h1.get? a=some o->h2.get? a=some o)->φ h2
def fF(H:Hp)(h:Heap):Prop:=∀a o,H a=some o->k8 P w H h a o
end
section
variable{P:Program}{w:World}{H H':Hp}{h h':Heap}{a:Addr}{o:HO}
theorem k8.lt(x:k8 P w H h a o):a<h.objs.size:=by
 cases o with
 |lst xs=>obtain⟨_,_,_,_,e⟩:=x;exact ay e
 |tup xs=>obtain⟨_,_,_,p⟩:=x;exact p.tup.lt
 |dK kvs=>obtain⟨_,_,_,_,o,_,_,e,_⟩:=x;exact ay e
 |dT kvs=>obtain⟨_,_,_,_,o,_,_,e,_⟩:=x;exact ay e
 |set S n=>obtain⟨o,_,_,_,e,_⟩:=x;exact ay e
 |ins C dx fs=>obtain⟨_,_,_,e,_⟩:=x;exact ay e
 |own y=>obtain⟨_,e⟩:=x;exact ay e
 |xd fs=>obtain⟨_,⟨_,_,_,e,_⟩,_⟩:=x;exact ay e
 |lh lo hi=>obtain⟨_,_,_,e⟩:=x;exact ay e
 |jj ob u=>obtain⟨e,_⟩:=x;exact ay e
 |nU ps=>exact ay (show h.get? a=some _ from x)
 |met f y=>exact ay (show h.get? a=some _ from x)
 |ext φ=>obtain⟨_,⟨_,e⟩,_⟩:=x;exact ay e
theorem Paired.Fd{α β:Type}{F G:α->β->Prop}{tF:List α}{tE:List β}(h:Paired F tF tE)(f:∀a b,F a b->G a b):Paired G tF tE:=by
 induction h with
 |nil=>exact .nil
 |cons r t ih=>exact .cons (f _ _ r) ih
theorem k8.Q2(x:k8 P w H h a o)(k:∀b u,(b=a\/H b=some (.own a))->h.get? b=some u->h'.get? b=some u)(ho:∀b,H b=some (.own a)->H' b=some (.own a))(ht:∀b xs,H b=some (.tup xs)->H' b=some (.tup xs)):k8 P w H' h' a o:=by
 induction o with
 |lst xs=>obtain⟨z,aQ,n,r,e⟩:=x;exact⟨z,aQ,n,r,k _ _ (.inl rfl) e⟩
 |tup xs=>obtain⟨z,aQ,r,ob,e,c⟩:=x;exact⟨z,aQ,r,ob,k _ _ (.inl rfl) e,c⟩
 |dK kvs=>obtain⟨z,y,vs,r,ob,es,ep,e,c⟩:=x;exact⟨z,y,vs,r,ob,es,ep,k _ _ (.inl rfl) e,c⟩
 |dT kvs =>
  obtain⟨z,y,xs,r,ob,es,ep,e,c⟩:=x;exact⟨z,y,xs,Paired.Fd r λp q z=>⟨z.1,ht _ _ z.2.1,z.2.2⟩,ob,es,ep,k _ _ (.inl rfl) e,c⟩
 |set S n=>obtain⟨ob,es,ep,t,e,c⟩:=x;exact⟨ob,es,ep,t,k _ _ (.inl rfl) e,c⟩
 |ins C dx fs =>
  obtain⟨d,z,ne,e,mA,⟨od,es,ep,e2,c⟩,r⟩:=x;exact⟨ho _ d,z,ne,k _ _ (.inl rfl) e,mA,⟨od,es,ep,k _ _ (.inr d) e2,c⟩,r⟩
 |own y=>obtain⟨ob,e⟩:=x;exact⟨ob,k _ _ (.inl rfl) e⟩
 |xd fs=>obtain⟨mA,⟨od,es,ep,e,c⟩,r⟩:=x;exact⟨mA,⟨od,es,ep,k _ _ (.inl rfl) e,c⟩,r⟩
 |lh lo hi=>obtain⟨t,u,v,e⟩:=x;exact⟨t,u,v,k _ _ (.inl rfl) e⟩
 |jj ob u ih=>obtain⟨e,q⟩:=x;exact⟨k _ _ (.inl rfl) e,ih q⟩
 |nU ps =>
  have e:h.get? a=some { cls:=.none,data:=.fields ps }:=x;show h'.get? a=some { cls:=.none,data:=.fields ps };exact k a _ (.inl rfl) e
 |met f y =>
  have e:h.get? a=some (PySem.W.methodObj (.ref f) (.ref y)):=x;show h'.get? a=some (PySem.W.methodObj (.ref f) (.ref y));exact k a _ (.inl rfl) e
 |ext φ=>obtain⟨p,⟨o,e⟩,st⟩:=x;exact⟨st _ _ p λo q=>k _ _ (.inl rfl) q,⟨o,k _ _ (.inl rfl) e⟩,st⟩
theorem fF.lt(x:fF P w H h)(e:H a=some o):a<h.objs.size:=(x a o e).lt
theorem fF.fresh(x:fF P w H h)(e:h.objs.size<=a):H a=none:=by
 cases q:H a with
 |none=>rfl
 |some u=>exact absurd (ax (x.lt q) e) (bj _)
theorem fF.kept(x:fF P w H h)(k:∀b u,h.get? b=some u->h'.get? b=some u):fF P w H h':=λa o e =>
 (x a o e).Q2 (λb u _ q=>k b u q) (λ_ q=>q) λ_ _ q=>q
theorem fF.laid(x:fF P w H h)(k:∀b u,h.get? b=some u->h'.get? b=some u)(hp:h.objs.size<=a)(new:k8 P w (upd H a o) h' a o):fF P w (upd H a o) h':=λb u e=>by
 have hn:=x.fresh hp;by_cases hb:b=a
 ·subst hb;rw[n8] at e;cases e;exact new
 ·rw[f9 hb] at e;exact(x b u e).Q2 (λc v _ q=>k c v q) (λc q=>by rw[f9 (j8 q hn)];exact q) λc xs q=>by rw[f9 (j8 q hn)];exact q
end
def Rd(H:Hp)(a:Addr)(u:HO):Prop:=H a=some u\/∃o,H a=some (.jj o u)
theorem Rd.ok{P:Program}{w:World}{H:Hp}{h:Heap}{a:Addr}{u:HO}(r:Rd H a u)(x:fF P w H h):k8 P w H h a u:=by
 rcases r with r|⟨o,r⟩
 ·exact x a u r
 ·obtain⟨_,q⟩:=x a _ r;exact q
def vE:Option HO->Prop
 |some (.lst _)=>True
 |some (.dK _)=>True
 |some (.dT _)=>True
 |some (.set _ _)=>True
 |some (.ins _ _ _)=>True
 |some (.ext _)=>True
 |_=>False
section
variable{P:Program}{w:World}{H:Hp}{h h':Heap}{x e:Addr}{o':HO}
theorem fF.write(ok:fF P w H h)(mu:vE (H x))(he:e=x\/H e=some (.own x))(k:∀b u,b≠e->h.get? b=some u->h'.get? b=some u)(oy:∃u,h'.get? e=some u)(new:k8 P w (upd H x o') h' x o'):fF P w (upd H x o') h':=λb u q=>by
 have sZ:∀c y,H c=some (.own y)->c≠x:=λc y r z=>by subst z;rw[r] at mu;exact mu
 have yE:∀c xs,H c=some (.tup xs)->c≠x:=λc xs r z=>by subst z;rw[r] at mu;exact mu
 by_cases hb:b=x
 ·subst hb;rw[n8] at q;cases q;exact new
 ·rw[f9 hb] at q;by_cases pX:b=e
  ·have q':H b=some (.own x):=by
    rcases he with z|z
    ·exact absurd (pX.trans z) hb
    ·rw[pX];exact z
   rw[q] at q';cases q';obtain⟨v,hv⟩:=oy;exact⟨v,by rw[pX];exact hv⟩
  ·refine(ok b u q).Q2 (λc v hc r=>k c v ?_ r) (λc r=>by rw[f9 (sZ c b r)];exact r) λc xs r=>by rw[f9 (yE c xs r)];exact r
   rcases hc with rfl|hc
   ·exact pX
   ·rintro rfl;rcases he with z|z
    ·exact sZ c b hc z
    ·rw[hc] at z;cases z;exact hb rfl
end
structure Un(fs ex:List Addr)(H H':Hp)(h h':Heap):Prop where
 keep:∀b o,h.get? b=some o->H b=none->b∉fs->b∉ex->h'.get? b=some o
 slot:∀b o,h.get? b=some o->H b=none->b∈fs->b∉ex->∃sl,h'.get? b=some { o with slots:=sl }
 free:∀b o,h.get? b=some o->H b=none->b∉ex->H' b=none
 there:∀b o,h.get? b=some o->b∉ex->∃o',h'.get? b=some o'
 gC:∀b xs,H b=some (.tup xs)->H' b=some (.tup xs)
 gn:∀b o u,H b=some (.jj o u)->H' b=some (.jj o u)
 gD:∀b ps,H b=some (.nU ps)->∃more,H' b=some (.nU (ps++more))
section
variable{fs oJ ex ex':List Addr}{H H1 H2:Hp}{h h1 h2 h':Heap}{a x e:Addr}{o:HO}
theorem Un.any(u:Un fs ex H H1 h h1){b:Addr}{ob:Obj}(q:h.get? b=some ob)(n:H b=none)(hx:b∉ex):∃sl,h1.get? b=some { ob with slots:=sl }:=by
 by_cases hb:b∈fs
 ·exact u.slot b ob q n hb hx
 ·exact⟨ob.slots,u.keep b ob q n hb hx⟩
theorem Un.kept(k:∀b u,h.get? b=some u->h'.get? b=some u):Un fs ex H H h h' :=
 ⟨λb ob q _ _ _=>k b ob q,λb ob q _ _ _=>⟨ob.slots,k b ob q⟩,λ_ _ _ n _=>n,λb ob q _=>⟨ob,k b ob q⟩,λ_ _ q=>q,λ_ _ _ q=>q,λ_ ps q=>⟨#[],by rw[q];simp⟩⟩
theorem Un.refl:Un fs ex H H h h:=Un.kept λ_ _ q=>q
theorem Un.laid(k:∀b u,h.get? b=some u->h'.get? b=some u)(hp:h.objs.size<=a)(hn:H a=none):Un fs ex H (upd H a o) h h' where
 keep:=λb u q _ _ _=>k b u q
 slot:=λb u q _ _ _=>⟨u.slots,k b u q⟩
 free:=λb u q n _=>by rw[f9 (aK (ax (ay q) hp))];exact n
 there:=λb u q _=>⟨u,k b u q⟩
 gC:=λb xs q=>by rw[f9 (j8 q hn)];exact q
 gn:=λb u xs q=>by rw[f9 (j8 q hn)];exact q
 gD:=λb ps q=>⟨#[],by rw[f9 (j8 q hn),q];simp⟩
theorem Un.write(mu:vE (H x))(he:e=x\/H e=some (.own x))(k:∀b u,b≠e->h.get? b=some u->h'.get? b=some u)(oy:∃u,h'.get? e=some u):Un fs ex H (upd H x o) h h':=by
 have hx:∀b,H b=none->b≠x:=λb n z=>by subst z;rw[n] at mu;exact mu
 have hb:∀b,H b=none->b≠e:=λb n z=>by
  subst z;rcases he with r|r
  ·exact hx b n r
  ·rw[n] at r;cases r
 have hm:∀b u,H b=some u->¬vE (some u)->b≠x:=λb u q nm z=>by subst z;rw[q] at mu;exact nm mu
 refine ⟨λb u q n _ _=>k b u (hb b n) q,λb u q n _ _=>⟨u.slots,k b u (hb b n) q⟩,λb u q n _=>by rw [f9 (hx b n)];exact n,λb u q _=>?_,
  λb xs q=>by rw [f9 (hm b _ q λz=>z)];exact q,λb u xs q=>by rw [f9 (hm b _ q λz=>z)];exact q,λb ps q=>⟨#[],by rw [f9 (hm b _ q λz=>z),q];simp⟩⟩
 by_cases pX:b=e
 ·subst pX;exact oy
 ·exact⟨u,k b u pX q⟩
end
def nk(h:Heap)(H:Hp):List Addr:=(List.range h.objs.size).filter λa=>(H a).isSome
def Z6(h:Heap)(H:Hp):Heap:=PySem.W.hideAll h (nk h H)
theorem WR(h:Heap)(H:Hp):(Z6 h H).objs.size=h.objs.size:=PySem.W.hideAll_size _ _
theorem Zo{h:Heap}{H:Hp}{b:Addr}{o:Obj}(e:h.get? b=some o)(n:H b=none):(Z6 h H).get? b=some o :=
 CM _ e λhm=>by
  have q:(H b).isSome=true:=(bu.mp hm).2;rw[n] at q;simp at q
theorem Rj{h:Heap}{H:Hp}{b:Addr}{o:Obj}(e:(Z6 h H).get? b=some o):h.get? b=some o/\H b=none:=by
 have e':h.get? b=some o:=Jw (nk h H) e;refine⟨e',?_⟩;cases q:H b with
 |none=>rfl
 |some x =>
  have hm:b∈nk h H:=bu.mpr ⟨aX.mpr (ay e'),by simp[q]⟩;have z:(Z6 h H).get? b=none:=PySem.W.hideAll_none (nk h H) hm;rw[z] at e;cases e
structure Mod(K:PySem.W.Frag)(mg:Str->Option Value)(base:Heap):Prop where
 lR:K.In base
 glob:base.Ns mainGlobals mg
 blt:∃mb,base.Ns builtinsNs mb/\∀x:Str,x≠"__name__"->mb x=bootBuiltins x
 nolimit:base.NoLimit
structure Cx where
 prog:Program
 w:World
 K:PySem.W.Frag
 mg:Str->Option Value
 base:Heap
 A:Around
 N:List Str
 cL:Shared
 iR:Hp
 env:Env
 outer:List Env
 stack:List Env
 ex:List Addr
 fn:Str->Bool
 calm:Bool
 pn:List (Addr×Obj)
 xe:Value->Shared->Prop
def fg(l:List Env):List Addr:=l.filterMap (·.frame)
noncomputable abbrev Cx.fs(X:Cx):List Addr:=fg X.outer
def vz(sc:Scope)(x:Str):Prop:=sc.names.lookup x=some .local\/sc.names.lookup x=some .cell\/sc.names.lookup x=some .free
def Loc(sc:Scope)(x:Str):Prop:=sc.names.lookup x=some .local\/sc.names.lookup x=some .cell
def Look(env:Env)(h:Heap)(m:Str->Option Value)(x:Str)(u:Value):Prop :=
 (env.kindOf x=some .local/\m x=some u)\/((env.kindOf x=some .cell\/env.kindOf x=some .free)/\∃c,env.cells.lookup x=some c/\h.IsCell c (some u))
structure Cx.Ok(X:Cx):Prop where
 mod:Mod X.K X.mg X.base
 kind:X.env.scope.kind=.function
 glob:X.env.globals=mainGlobals
 blt:X.env.builtins=builtinsNs
 above:X.cL.heap.objs.size<=X.env.locals
 inj:∀x y c,X.env.cells.lookup x=some c->X.env.cells.lookup y=some c->x=y
 has:∀x,(X.env.kindOf x=some .cell\/X.env.kindOf x=some .free)->∃c,X.env.cells.lookup x=some c
 oQ:∀x c,X.fn x=true->X.env.cells.lookup x=some c->X.cL.heap.objs.size<=c
 hd:X.calm=true->X.A.handled=none
 frames:X.A.frames=some X.stack
 pz:X.stack=X.outer\/(X.stack=X.env::X.outer/\X.env.frame=some X.env.locals)
 uE:∀b∈X.ex,b≠X.env.locals/\∀x c,X.env.cells.lookup x=some c->c≠b
 bs:∀b o,X.base.get? b=some o->X.cL.heap.get? b=some o/\X.iR b=none
 mH:X.base.objs.size<=X.cL.heap.objs.size
 jF:∀b o,X.base.get? b=some o->b∉X.ex
 ki:∀b∈X.ex,b∉X.fs
 I9:X.cL.heap.FunFrames X.base X.outer
 mU:∀b∈X.fs,X.iR b=none
structure Inv(X:Cx)(pins:List (Addr×Obj))(Z:List (Option V))(H:Hp)(s:Shared):Prop where
 ok:X.Ok
 os:s.os=X.cL.os
 bare:AllBare s.gens
 base:Un X.fs X.ex X.iR H X.cL.heap s.heap
 loc:∃m,s.heap.Ns X.env.locals m/\∀(i:Nat) (x:Str) (v:V),X.N[i]?=some x->Z[i]?=some (some v)->vz X.env.scope x->∃u,RelV v u/\Look X.env s.heap m x u
 cell:∀x c,X.env.cells.lookup x=some c->∃v,s.heap.IsCell c v
 free:H X.env.locals=none
 dG:∀x c,X.env.cells.lookup x=some c->H c=none
 pin:∀p∈X.pn++pins,s.heap.get? p.1=some p.2/\H p.1=none/\p.1≠X.env.locals/\p.1∉X.fs/\∀v,p.2.data≠.cell v
 bC:fF X.prog X.w H s.heap
 len:Z.length=X.N.length
section
variable{X:Cx}{pins:List (Addr×Obj)}{Z:List (Option V)}{H H':Hp}{s:Shared}{h':Heap}
theorem Cx.Ok.Ts(ok:X.Ok){b:Addr}{o:Obj}(e:X.base.get? b=some o):b∉X.fs:=λhb=>by
 have:=(ok.I9.mem hb).1;rw[e] at this;cases this
theorem Inv.bs(I:Inv X pins Z H s):∀b o,X.base.get? b=some o->s.heap.get? b=some o/\H b=none:=λb o e =>
 ⟨I.base.keep b o (I.ok.bs b o e).1 (I.ok.bs b o e).2 (I.ok.Ts e) (I.ok.jF b o e),I.base.free b o (I.ok.bs b o e).1 (I.ok.bs b o e).2 (I.ok.jF b o e)⟩
theorem Inv.bk(I:Inv X pins Z H s):∀b o,X.base.get? b=some o->s.heap.get? b=some o:=λb o e=>(I.bs b o e).1
theorem Inv.mod(I:Inv X pins Z H s):Mod X.K X.mg X.base:=I.ok.mod
theorem Inv.gf(I:Inv X pins Z H s):X.K.In s.heap:=I.ok.mod.lR.keeps I.bk
theorem Inv.lt(I:Inv X pins Z H s):X.env.locals<s.heap.objs.size:=let ⟨_,hn,_⟩:=I.loc;hn.lt
theorem Inv.sz(I:Inv X pins Z H s):X.cL.heap.objs.size<=s.heap.objs.size:=aC I.ok.above (dz I.lt)
theorem Inv.uT(I:Inv X pins Z H s){a:Addr}(h:s.heap.objs.size<=a):a∉X.fs:=λhb=>by
 obtain⟨_,o,ho,_⟩:=I.ok.I9.mem hb;exact absurd (ax (ay ho) (aC I.sz h)) (bj _)
theorem Inv.ql(I:Inv X pins Z H s):∀x c,X.env.cells.lookup x=some c->c≠X.env.locals:=λx c e z=>by
 obtain⟨v,o,ho,hd⟩:=I.cell x c e;obtain⟨m,⟨o',es,ep,lX,zq,_⟩,_⟩:=I.loc;rw[z,lX] at ho;cases ho;rw[zq] at hd;cases hd
theorem Inv.I9(I:Inv X pins Z H s):s.heap.FunFrames X.base X.outer:=by
 have all:∀(l:List Env),(∀b∈fg l,b∈X.fs)->X.cL.heap.FunFrames X.base l->s.heap.FunFrames X.base l:=by
  intro l
  induction l with
  |nil=>intro _ _;trivial
  |cons env r ih =>
   intro hs hl;obtain⟨hk,⟨L,o,hf,hn,ho,hd⟩,hr⟩:=hl;have hL:L∈X.fs:=hs L (by unfold fg;rw[dE,hf];exact fJ);obtain⟨sl,e⟩:=I.base.slot L o ho (I.ok.mU L hL) hL λz=>I.ok.ki L z hL;exact⟨hk,⟨L,_,hf,hn,e,hd⟩,ih (λb hb=>hs b (by unfold fg;rw[dE,hf];exact bG _ hb)) hr⟩
 exact all X.outer (λ_ hb=>hb) I.ok.I9
theorem Inv.stack(I:Inv X pins Z H s):s.heap.FunFrames X.base X.stack:=by
 rcases I.ok.pz with e|⟨e,hf⟩
 ·rw[e];exact I.I9
 ·rw[e];obtain⟨m,hn,_⟩:=I.loc;refine .cons (by rw[I.ok.kind];decide) hf hn ?_ I.I9;exact Heap.get?_none_of_le (aC I.ok.mH I.ok.above)
theorem Inv.K0(I:Inv X pins Z H s):∀b∈fg X.stack,b∈X.env.locals::X.fs:=λb hb=>by
 rcases I.ok.pz with e|⟨e,hf⟩
 ·rw[e] at hb;exact bG _ hb
 ·rw[e] at hb;unfold fg at hb;rw[dE,hf] at hb;exact hb
theorem Inv.xN(I:Inv X pins Z H s):∀b∈fg X.stack,H b=none:=λb hb=>by
 rcases aG.mp (I.K0 b hb) with e|hb
 ·rw[e];exact I.free
 ·obtain⟨_,o,ho,_⟩:=I.ok.I9.mem hb;exact I.base.free b o ho (I.ok.mU b hb) λz=>I.ok.ki b z hb
theorem Inv.step{g':Array GenState}{t':Nat}{d':Drawn}{ch:List Addr}(I:Inv X pins Z H s)(kr:∀b∈ch,(b∈X.ex\/X.cL.heap.objs.size<=b)/\b≠X.env.locals/\(∀x c,X.env.cells.lookup x=some c->c≠b)/\∀p∈X.pn++pins,p.1≠b)(keep:∀b o,b≠X.env.locals->b∉X.fs->b∉ch->s.heap.get? b=some o->H b=none->h'.get? b=some o)(slot:∀b o,b≠X.env.locals->b∈X.fs->b∉ch->s.heap.get? b=some o->H b=none->∃sl,h'.get? b=some { o with slots:=sl })(free:∀b o,b∉ch->s.heap.get? b=some o->H b=none->H' b=none)(there:∀b o,b∉ch->s.heap.get? b=some o->∃o',h'.get? b=some o')(gC:∀b xs,H b=some (.tup xs)->H' b=some (.tup xs))(gn:∀b o u,H b=some (.jj o u)->H' b=some (.jj o u))(gD:∀b ps,H b=some (.nU ps)->∃more,H' b=some (.nU (ps++more)))(ns:∀m,s.heap.Ns X.env.locals m->h'.Ns X.env.locals m)(bC:fF X.prog X.w H' h')(hg:AllBare g') :
  Inv X pins Z H' { s with heap:=h',gens:=g',drawn:=d',toks:=t' }:=by
 have Ds:∀b o,X.cL.heap.get? b=some o->b≠X.env.locals:=λb o e=>aK (ax (ay e) I.ok.above);have oh:∀b o,X.cL.heap.get? b=some o->b∉X.ex->b∉ch:=λb o e hx hb=>by
  rcases(kr b hb).1 with z|z
  ·exact hx z
  ·exact absurd (ax (ay e) z) (bj _)
 have cellK:∀x c,X.env.cells.lookup x=some c->∀v,s.heap.IsCell c v->h'.IsCell c v:=λx c e v aZ=>by
  obtain⟨o,ho,hd⟩:=aZ;have tB:c∉ch:=λz=>(kr c z).2.2.1 x c e rfl;by_cases hc:c∈X.fs
  ·obtain⟨sl,q⟩:=slot c o (I.ql x c e) hc tB ho (I.dG x c e);exact⟨_,q,hd⟩
  ·exact⟨o,keep c o (I.ql x c e) hc tB ho (I.dG x c e),hd⟩
 refine⟨I.ok,I.os,hg,⟨λb o e n hb hx=>?_,λb o e n hb hx=>?_,λb o e n hx=>?_,λb o e hx=>?_,λb xs e=>gC b xs (I.base.gC b xs e),λb o xs e=>gn b o xs (I.base.gn b o xs e),λb ps e=>?_⟩,?_,λx c e=>?_,?_,λx c e=>?_,λp hp=>?_,bC,I.len⟩
 ·exact keep b o (Ds b o e) hb (oh b o e hx) (I.base.keep b o e n hb hx) (I.base.free b o e n hx)
 ·obtain⟨sl,e1⟩:=I.base.slot b o e n hb hx;obtain⟨JX,e2⟩:=slot b _ (Ds b o e) hb (oh b o e hx) e1 (I.base.free b o e n hx);exact⟨JX,e2⟩
 ·obtain⟨o',e1⟩:=I.base.there b o e hx;exact free b o' (oh b o e hx) e1 (I.base.free b o e n hx)
 ·obtain⟨o',e1⟩:=I.base.there b o e hx;exact there b o' (oh b o e hx) e1
 ·obtain⟨m1,e1⟩:=I.base.gD b ps e;obtain⟨m2,e2⟩:=gD b _ e1;exact⟨m1++m2,by rw[e2,JB]⟩
 ·obtain⟨m,hn,hl⟩:=I.loc;refine⟨m,ns m hn,λi x v e1 e2 e3=>?_⟩;obtain⟨u,r,l⟩:=hl i x v e1 e2 e3;refine⟨u,r,?_⟩;rcases l with l|⟨k,c,e,z⟩
  ·exact .inl l
  ·exact .inr ⟨k,c,e,cellK x c e _ z⟩
 ·obtain⟨v,z⟩:=I.cell x c e;exact⟨v,cellK x c e v z⟩
 ·obtain⟨m,⟨o,_,_,ho,_⟩,_⟩:=I.loc;exact free _ o (λz=>(kr _ z).2.1 rfl) ho I.free
 ·obtain⟨v,o,ho,hd⟩:=I.cell x c e;exact free c o (λz=>(kr c z).2.2.1 x c e rfl) ho (I.dG x c e)
 ·obtain⟨e,n,ne,nf,d⟩:=I.pin p hp;have tB:p.1∉ch:=λz=>(kr p.1 z).2.2.2 p hp rfl;exact⟨keep p.1 p.2 ne nf tB e n,free p.1 p.2 tB e n,ne,nf,d⟩
theorem Inv.un{t':Nat}(I:Inv X pins Z H s)(u:Un X.fs [] H H' s.heap h')(bC:fF X.prog X.w H' h'):Inv X pins Z H' { s with heap:=h',toks:=t' }:=by
 obtain⟨m,⟨o,es,ep,ho,r⟩,_⟩:=id I.loc;obtain⟨sl,hL⟩:=u.any ho I.free (by simp);exact I.step (g':=s.gens) (d':=s.drawn) (ch:=[]) (λ_ z=>nomatch z) (λb o _ hb _ e n=>u.keep b o e n hb (by simp)) (λb o _ hb _ e n=>u.slot b o e n hb (by simp)) (λb o _ e n=>u.free b o e n (by simp)) (λb o _ e=>u.there b o e (by simp)) u.gC u.gn u.gD (λm' hm=>by
  obtain⟨o',Ad,Ae,lX,r'⟩:=hm;rw[ho] at lX;cases lX;exact ⟨_,Ad,Ae,hL,r'⟩) bC I.bare
theorem Inv.call{g':Array GenState}{t':Nat}{d':Drawn}{ch:List Addr}(I:Inv X pins Z H s)(u:Un (fg X.stack) ch H H' s.heap h')(bC:fF X.prog X.w H' h')(hg:AllBare g')(kr:∀b∈ch,(b∈X.ex\/X.cL.heap.objs.size<=b)/\b≠X.env.locals/\(∀x c,X.env.cells.lookup x=some c->c≠b)/\∀p∈X.pn++pins,p.1≠b) :
  Inv X pins Z H' { s with heap:=h',gens:=g',drawn:=d',toks:=t' }:=by
 obtain⟨m,⟨o,es,ep,ho,r⟩,_⟩:=id I.loc;obtain⟨sl,hL⟩:=u.any ho I.free λz=>(kr _ z).2.1 rfl;exact I.step (ch:=ch) kr (λb o hL hb hc e n=>u.keep b o e n (λz=>(aG.mp (I.K0 b z)).elim hL hb) hc) (λb o _ _ hc e n=>u.any e n hc) (λb o hc e n=>u.free b o e n hc) (λb o hc e=>u.there b o e hc) u.gC u.gn u.gD (λm' hm=>by
  obtain⟨o',Ad,Ae,lX,r'⟩:=hm;rw[ho] at lX;cases lX;exact ⟨_,Ad,Ae,hL,r'⟩) bC hg
theorem Inv.turned{t':Nat}{it:Addr}(I:Inv X pins Z H s)(k:∀b o,b≠it->s.heap.get? b=some o->h'.get? b=some o)(hn:H it=none)(hL:it≠X.env.locals)(h1:it∈X.ex\/X.cL.heap.objs.size<=it)(h2:∀x c,X.env.cells.lookup x=some c->c≠it)(h3:∀p∈X.pn++pins,p.1≠it):Inv X pins Z H { s with heap:=h',toks:=t' }:=by
 have Dr:∀b u,H b=some u->b≠it:=λb u e z=>by rw[z,hn] at e;cases e
 refine I.step (g':=s.gens) (d':=s.drawn) (ch:=[it]) (λb hb=>?_) (λb o _ _ hc e _=>k b o (λz=>hc (by simp[z])) e) (λb o _ _ hc e _=>⟨o.slots,k b o (λz=>hc (by simp[z])) e⟩) (λ_ _ _ _ n=>n)
  (λb o hc e=>⟨o,k b o (λz=>hc (by simp[z])) e⟩) (λ_ _ e=>e) (λ_ _ _ e=>e) (λb ps e=>⟨#[],by rw[e];simp⟩) (λm hm=>?_) (λb u e=>?_) I.bare
 ·have e:b=it:=by simpa using hb
  subst e;exact⟨h1,hL,h2,h3⟩
 ·obtain⟨o,es,ep,ho,r⟩:=hm;exact⟨o,es,ep,k _ o (bA hL) ho,r⟩
 ·refine(I.bC b u e).Q2 (λc v hc q=>k c v ?_ q) (λ_ q=>q) λ_ _ q=>q;rcases hc with z|z
  ·rw[z];exact Dr b u e
  ·exact Dr c _ z
theorem Inv.tok(I:Inv X pins Z H s)(t:Nat):Inv X pins Z H { s with toks:=t }:=I.un (h':=s.heap) (t':=t) Un.refl I.bC
theorem Inv.kept{t':Nat}(I:Inv X pins Z H s)(k:∀b u,s.heap.get? b=some u->h'.get? b=some u):Inv X pins Z H { s with heap:=h',toks:=t' }:=I.un (Un.kept k) (I.bC.kept k)
theorem Inv.laid{a:Addr}{o:HO}{t':Nat}(I:Inv X pins Z H s)(k:∀b u,s.heap.get? b=some u->h'.get? b=some u)(hp:s.heap.objs.size<=a)(new:k8 X.prog X.w (upd H a o) h' a o) :
  Inv X pins Z (upd H a o) { s with heap:=h',toks:=t' }:=I.un (Un.laid k hp (I.bC.fresh hp)) (I.bC.laid k hp new)
theorem Inv.write{x e:Addr}{o:HO}{t':Nat}(I:Inv X pins Z H s)(mu:vE (H x))(he:e=x\/H e=some (.own x))(k:∀b u,b≠e->s.heap.get? b=some u->h'.get? b=some u)(oy:∃u,h'.get? e=some u)(new:k8 X.prog X.w (upd H x o) h' x o):Inv X pins Z (upd H x o) { s with heap:=h',toks:=t' }:=I.un (Un.write mu he k oy) (I.bC.write mu he k oy new)
theorem Inv.weak{bI:List (Option V)}(I:Inv X pins Z H s)(hl:bI.length=Z.length)(w:∀(i:Nat) v,bI[i]?=some (some v)->Z[i]?=some (some v)):Inv X pins bI H s :=
 ⟨I.ok,I.os,I.bare,I.base,let ⟨m,hn,qZ⟩:=I.loc;⟨m,hn,λi x v e1 e2 e3=>qZ i x v e1 (w i v e2) e3⟩,I.cell,I.free,I.dG,I.pin,I.bC,hl.trans I.len⟩
theorem Inv.J5{ip:List (Addr×Obj)}(I:Inv X pins Z H s)(h:∀p∈ip,s.heap.get? p.1=some p.2/\H p.1=none/\p.1≠X.env.locals/\p.1∉X.fs/\∀v,p.2.data≠.cell v):Inv X ip Z H s :=
 ⟨I.ok,I.os,I.bare,I.base,I.loc,I.cell,I.free,I.dG,λp hp=>(bg.mp hp).elim (λz=>I.pin p (dt _ z)) (h p),I.bC,I.len⟩
theorem Fq{N:List Str}(hN:N.Nodup){i j:Nat}{x:Str}(a:N[i]?=some x)(b:N[j]?=some x):i=j:=by
 obtain⟨h1,e1⟩:=ak.mp a;obtain⟨h2,e2⟩:=ak.mp b;exact(kF hN).mp (e1.trans e2.symm)
theorem Gg{M:Model}{A:Around}{E:Value->Shared->Prop}{i:Nat}{x:Str}{v:V}{u:Value}{Q:Unit->Shared->Prop}(I:Inv X pins Z H s)(hN:X.N.Nodup)(hi:X.N[i]?=some x)(hx:Loc X.env.scope x)(r:RelV v u)(h:∀s',Inv X pins (Z.set i (some v)) H s'->(∃a,Heap.SameBut a s.heap s'.heap/\(a=X.env.locals\/X.env.cells.lookup x=some a))->Q () s')(hf:X.fn x=true\/X.env.scope.names.lookup x=some .local:=by first|exact .inl rfl|exact .inr rfl|assumption):wpAny M A (storeName X.env x u) Q E s:=by
 obtain⟨m,hn,hl⟩:=id I.loc;have kO:(X.env.scope.kind==.class||(X.env.scope.kind==.module&&X.env.locals != X.env.globals))=false:=by rw[I.ok.kind];rfl
 have tZ:i<Z.length:=by rw[I.len];exact(ak.mp hi).1
 have ql:=I.ql;have tracked:∀{a:Addr} {h':Heap},(∃o,s.heap.get? a=some o/\H a=none)->Heap.SameBut a s.heap h'->fF X.prog X.w H h':=λ{a h'} ha hs b ob e=>by
  obtain⟨_,_,mn⟩:=ha;refine(I.bC b ob e).Q2 (λc w' hc q=>(hs.2 c ?_).trans q) (λ_ q=>q) λ_ _ q=>q;rintro rfl;rcases hc with rfl|hc
  ·rw[mn] at e;cases e
  ·rw[mn] at hc;cases hc
 rcases hx with hk|hk
 ·refine wpAny_storeName_local hk hn (λh' KZ hs=>?_) kO;obtain⟨oL,_,_,tU,_⟩:=id hn;refine h _ ⟨I.ok,I.os,I.bare,⟨λb o e n hb hx=>?_,λb o e n hb hx=>?_,I.base.free,λb o e hx=>?_,I.base.gC,I.base.gn,I.base.gD⟩,⟨_,KZ,λj y v' e1 e2 e3=>?_⟩,λy c e=>?_,I.free,I.dG,λp hp=>?_,tracked ⟨oL,tU,I.free⟩ hs,by simpa using I.len⟩ ⟨_,hs,.inl rfl⟩
  ·exact(hs.2 b (aK (ax (ay e) I.ok.above))).trans (I.base.keep b o e n hb hx)
  ·obtain⟨sl,e1⟩:=I.base.slot b o e n hb hx;exact⟨sl,(hs.2 b (aK (ax (ay e) I.ok.above))).trans e1⟩
  ·obtain⟨o',e1⟩:=I.base.there b o e hx;exact⟨o',(hs.2 b (aK (ax (ay e) I.ok.above))).trans e1⟩
  ·by_cases hj:j=i
   ·subst hj;rw[hi] at e1;cases e1;rw[aO tZ] at e2;cases e2;exact⟨u,r,.inl ⟨hk,by simp⟩⟩
   ·rw[aw (bA hj)] at e2;obtain⟨u',r',q⟩:=hl j y v' e1 e2 e3;refine⟨u',r',?_⟩;rcases q with⟨k,e⟩|⟨k,c,e,z⟩
    ·refine .inl ⟨k,?_⟩;have:y≠x:=λe=>hj (Fq hN e1 (e▸hi));simp[this,e]
    ·exact .inr ⟨k,c,e,z.sameBut hs (ql y c e)⟩
  ·obtain⟨w',z⟩:=I.cell y c e;exact⟨w',z.sameBut hs (ql y c e)⟩
  ·obtain⟨e,n,ne,nf,d⟩:=I.pin p hp;exact⟨(hs.2 p.1 ne).trans e,n,ne,nf,d⟩
 ·have rf:X.fn x=true:=by
   rcases hf with z|z
   ·exact z
   ·rw[z] at hk;cases hk
  obtain⟨c,hc⟩:=I.ok.has x (.inl hk);obtain⟨w',z⟩:=I.cell x c hc;refine wpAny_storeName_cell I.ok.kind hk hc z (λh' iD hs=>?_);obtain⟨oc,yZ,yY⟩:=id z;refine h { s with heap:=h' } ⟨I.ok,I.os,I.bare,⟨λb o e n hb hx=>?_,λb o e n hb hx=>?_,I.base.free,λb o e hx=>?_,I.base.gC,I.base.gn,I.base.gD⟩,⟨m,hn.sameBut hs (bA (ql x c hc)),λj y v' e1 e2 e3=>?_⟩,λy c' e=>?_,I.free,I.dG,λp hp=>?_,tracked ⟨oc,yZ,I.dG x c hc⟩ hs,by simpa using I.len⟩ ⟨c,hs,.inr hc⟩
  ·exact(hs.2 b (aK (ax (ay e) (I.ok.oQ x c rf hc)))).trans (I.base.keep b o e n hb hx)
  ·obtain⟨sl,e1⟩:=I.base.slot b o e n hb hx;exact⟨sl,(hs.2 b (aK (ax (ay e) (I.ok.oQ x c rf hc)))).trans e1⟩
  ·obtain⟨o',e1⟩:=I.base.there b o e hx;exact⟨o',(hs.2 b (aK (ax (ay e) (I.ok.oQ x c rf hc)))).trans e1⟩
  ·by_cases hj:j=i
   ·subst hj;rw[hi] at e1;cases e1;rw[aO tZ] at e2;cases e2;exact⟨u,r,.inr ⟨.inl hk,c,hc,iD⟩⟩
   ·rw[aw (bA hj)] at e2;obtain⟨u',r',q⟩:=hl j y v' e1 e2 e3;refine⟨u',r',?_⟩;rcases q with q|⟨k,c',e,z'⟩
    ·exact .inl q
    ·refine .inr ⟨k,c',e,z'.sameBut hs ?_⟩;rintro rfl;exact hj (Fq hN e1 (I.ok.inj _ _ _ e hc▸hi))
  ·by_cases rh:c'=c
   ·subst rh;exact⟨_,iD⟩
   ·obtain⟨w2,z2⟩:=I.cell y c' e;exact⟨w2,z2.sameBut hs rh⟩
  ·obtain⟨e,n,ne,nf,d⟩:=I.pin p hp;refine⟨(hs.2 p.1 ?_).trans e,n,ne,nf,d⟩;intro q;rw[q,yZ] at e;have q':oc=p.2:=aJ e;exact d w' (by rw[<- q'];exact yY)
theorem Q1{M:Model}{A:Around}{E:Value->Shared->Prop}{i:Nat}{x:Str}{v:V}{u:Value}{Q:Unit->Shared->Prop}(I:Inv X pins Z H s)(hN:X.N.Nodup)(hi:X.N[i]?=some x)(hx:Loc X.env.scope x)(r:RelV v u)(h:∀s',Inv X pins (Z.set i (some v)) H s'->Q () s')(hf:X.fn x=true\/X.env.scope.names.lookup x=some .local:=by first|exact .inl rfl|exact .inr rfl|assumption):wpAny M A (storeName X.env x u) Q E s :=
 Gg I hN hi hx r (λs' I' _=>h s' I') hf
theorem Inv.BD{s':Shared}{ch:List Addr}(I:Inv X pins Z H s)(ho:s'.os=s.os)(u:Un (fg X.stack) ch H H' s.heap s'.heap)(bC:fF X.prog X.w H' s'.heap)(hg:AllBare s'.gens)(kr:∀b∈ch,(b∈X.ex\/X.cL.heap.objs.size<=b)/\b≠X.env.locals/\(∀x c,X.env.cells.lookup x=some c->c≠b)/\∀p∈X.pn++pins,p.1≠b):Inv X pins Z H' s':=by
 obtain⟨h',g',d',t',o'⟩:=s';have e:o'=s.os:=ho;subst e;exact I.call (g':=g') (t':=t') (d':=d') u bC hg kr
end
noncomputable abbrev XK:=Value->Option Addr->Hp->Prop
noncomputable abbrev St:=List (Option V)
noncomputable abbrev VK:=V->Hp->Prop
noncomputable abbrev TE:=St->Hp->VK->Prop
noncomputable abbrev TT:=St->Hp->(Bool->Hp->Prop)->Prop
noncomputable abbrev TA:=St->Hp->(List V->Hp->Prop)->Prop
structure Ends where
 nx:St->Hp->Prop
 rt:VK
 bk:St->Hp->Prop:=λ_ _=>False
 ct:St->Hp->Prop:=λ_ _=>False
noncomputable abbrev TS:=Ends->St->Hp->Prop
def EP(X:Cx)(pins:List (Addr×Obj))(Z:St)(Q:VK)(u:Value)(s':Shared):Prop:=∃v H',Inv X pins Z H' s'/\RelV v u/\Q v H'
def TP(X:Cx)(pins:List (Addr×Obj))(Z:St)(Q:Bool->Hp->Prop)(b:Bool)(s':Shared):Prop:=∃H',Inv X pins Z H' s'/\Q b H'
def AP(X:Cx)(pins:List (Addr×Obj))(Z:St)(Q:List V->Hp->Prop)(us:List Value)(s':Shared):Prop:=∃vs H',Inv X pins Z H' s'/\Vals vs us/\Q vs H'
def SP(X:Cx)(pins:List (Addr×Obj))(D:Ends)(f:Flow)(s':Shared):Prop :=
 match f with
 |.next=>∃bI H',Inv X pins bI H' s'/\D.nx bI H'
 |.brk=>∃bI H',Inv X pins bI H' s'/\D.bk bI H'
 |.cont=>∃bI H',Inv X pins bI H' s'/\D.ct bI H'
 |.ret u=>∃v bI H',Inv X pins bI H' s'/\RelV v u/\D.rt v H'
def PE(X:Cx)(e:Expr)(t:TE):Prop :=
 ∀(pins:List (Addr×Obj)) (s:Shared) (Z:St) (H:Hp) (Q:VK),Inv X pins Z H s->t Z H Q->wpAny (model X.prog X.w) X.A (eval e X.env) (EP X pins Z Q) X.xe s
def PT(X:Cx)(e:Expr)(t:TT):Prop :=
 ∀(pins:List (Addr×Obj)) (s:Shared) (Z:St) (H:Hp) (Q:Bool->Hp->Prop),Inv X pins Z H s->t Z H Q->wpAny (model X.prog X.w) X.A (isTrue e X.env (eval e X.env)) (TP X pins Z Q) X.xe s
def PW(X:Cx)(e:Expr)(t:TT):Prop :=
 ∀(whole:Sem Value) (pins:List (Addr×Obj)) (s:Shared) (Z:St) (H:Hp) (Q:Bool->Hp->Prop),Inv X pins Z H s->t Z H Q->wpAny (model X.prog X.w) X.A (isTrue e X.env whole) (TP X pins Z Q) X.xe s
theorem PW.pt{X:Cx}{e:Expr}{t:TT}(h:PW X e t):PT X e t:=h _
def PA(X:Cx)(es:List Expr)(t:TA):Prop :=
 ∀(pos:Pos) (pins:List (Addr×Obj)) (s:Shared) (Z:St) (H:Hp) (Q:List V->Hp->Prop),Inv X pins Z H s->t Z H Q->wpAny (model X.prog X.w) X.A (spliced (backTo pos (starEach es X.env))) (AP X pins Z Q) X.xe s
def PS(X:Cx)(st:Stmt)(t:TS):Prop :=
 ∀(pins:List (Addr×Obj)) (s:Shared) (Z:St) (H:Hp) (D:Ends),Inv X pins Z H s->t D Z H->wpAny (model X.prog X.w) X.A (exec st X.env) (SP X pins D) X.xe s
def iJ(X:Cx)(st:List Stmt)(t:TS):Prop :=
 ∀(pins:List (Addr×Obj)) (s:Shared) (Z:St) (H:Hp) (D:Ends),Inv X pins Z H s->t D Z H->wpAny (model X.prog X.w) X.A (execs st X.env) (SP X pins D) X.xe s
theorem bX{α:Type}{t:Sem α}{Q Q':α->Shared->Prop}{M:Model}{A:Around}{E:Value->Shared->Prop}{s:Shared}(h:wpAny M A t Q E s)(hQ:∀a s,Q a s->Q' a s):wpAny M A t Q' E s:=bp h hQ λ_ _ x=>x
section
variable{X:Cx}
theorem bin{a b:Expr}{ta tb:TE}(ha:PE X a ta)(hb:PE X b tb){pins:List (Addr×Obj)}{s:Shared}{Z:St}{H:Hp}{R:V->V->Hp->Prop}(I:Inv X pins Z H s)(h:ta Z H λx H1=>tb Z H1 λy H2=>R x y H2){α:Type}{Q:α->Shared->Prop}{f:Value->Value->Sem α}(hf:∀v u s2 x y H2,Inv X pins Z H2 s2->RelV x v->RelV y u->R x y H2->wpAny (model X.prog X.w) X.A (f v u) Q X.xe s2) :
  wpAny (model X.prog X.w) X.A (eval a X.env) (λv bK=>wpAny (model X.prog X.w) X.A (eval b X.env) (λu fm=>wpAny (model X.prog X.w) X.A (f v u) Q X.xe fm) X.xe bK) X.xe s:=by
 refine bX (ha pins s Z H _ I h) λv s1 aZ=>?_;obtain⟨x,H1,I1,r1,q1⟩:=aZ;refine bX (hb pins s1 Z H1 _ I1 q1) λu s2 aZ=>?_;obtain⟨y,H2,I2,r2,q2⟩:=aZ;exact hf v u s2 x y H2 I2 r1 r2 q2
def Uo(i:Nat):TE:=λZ H Q=>∃v,Z[i]?=some (some v)/\Q v H
def tC(v:V):TE:=λ_ H Q=>Q v H
theorem Aw{i:Nat}{x:Str}{pos:Pos}(hN:X.N[i]?=some x)(hv:vz X.env.scope x)(hd:(x==("__debug__":Str))=false:=by decide)(kP:(x==("__classdict__":Str))=false:=by decide):PE X (.Name x pos) (Uo i):=by
 intro pins s Z H Q I h;obtain⟨v,e,h⟩:=h;obtain⟨m,hn,hl⟩:=I.loc;obtain⟨u,r,l⟩:=hl i x v hN e hv;have fin:EP X pins Z Q u s:=⟨v,H,I,r,h⟩
 rcases l with⟨hk,hm⟩|⟨hk,c,hc,ku⟩
 ·exact wpAny_Name (wpAny_loadName_local I.ok.kind hk hn hm fin) hd
 ·rcases hk with hk|hk
  ·exact wpAny_Name (wpAny_loadName_cell I.ok.kind hk hc ku fin) hd
  ·exact wpAny_Name (wpAny_loadName_free I.ok.kind hk hc ku fin kP) hd
theorem Hl{i j pos}:PE X (.Constant (.int i) j pos) (tC (.int i)):=λ_ _ _ H _ I h=>wpAny_Constant_int ⟨.int i,H,I.tok _,⟨_,rfl⟩,h⟩
theorem Vr{b j pos}:PE X (.Constant (.bool b) j pos) (tC (.bl b)):=λ_ _ _ H _ I h=>Constant_bool ⟨.bl b,H,I,rfl,h⟩
theorem Pa{j pos}:PE X (.Constant .none j pos) (tC .bx):=λ_ _ _ H _ I h=>Constant_none ⟨.bx,H,I,rfl,h⟩
theorem Hn{x j pos}:PE X (.Constant (.str x) j pos) (tC (.str x)):=λ_ _ _ H _ I h=>Calls.Constant_str ⟨.str x,H,I.tok _,⟨_,rfl⟩,h⟩
def Gl(X:Cx)(x:Str):Prop:=X.env.kindOf x=some .globalImplicit
theorem P6{E:Value->Shared->Prop}{pins:List (Addr×Obj)}{s:Shared}{Z:St}{H:Hp}{x:Str}{u:Value}{pos:Pos}{Q:Value->Shared->Prop}(I:Inv X pins Z H s)(hg:Gl X x)(hm:X.mg x=some u)(h:Q u s)(hd:(x==("__debug__":Str))=false:=by decide):wpAny (model X.prog X.w) X.A (eval (.Name x pos) X.env) Q E s :=
 yg I.ok.kind hg (Calls.loadGlobal_global (by rw[I.ok.glob];exact I.mod.glob.keeps I.bk) hm h) hd
theorem K4{E:Value->Shared->Prop}{pins:List (Addr×Obj)}{s:Shared}{Z:St}{H:Hp}{x:Str}{u:Value}{pos:Pos}{Q:Value->Shared->Prop}(I:Inv X pins Z H s)(hg:Gl X x)(hm:X.mg x=none)(hv:bootBuiltins x=some u)(h:Q u s)(hn:x≠"__name__":=by decide)(hd:(x==("__debug__":Str))=false:=by decide):wpAny (model X.prog X.w) X.A (eval (.Name x pos) X.env) Q E s:=by
 obtain⟨mb,h1,h2⟩:=I.mod.blt;exact yg I.ok.kind hg (Calls.loadGlobal_builtin (by rw[I.ok.glob];exact I.mod.glob.keeps I.bk) hm (by rw[I.ok.blt];exact h1.keeps I.bk) ((h2 x hn).trans hv) h) hd
theorem V6{x:Str}{v:V}{u:Value}{pos:Pos}(hg:Gl X x)(hm:X.mg x=some u)(r:RelV v u)(hd:(x==("__debug__":Str))=false:=by decide):PE X (.Name x pos) (tC v) :=
 λ_ _ _ H _ I h=>P6 I hg hm ⟨v,H,I,r,h⟩ hd
theorem Rv{x:Str}{v:V}{u:Value}{pos:Pos}(hg:Gl X x)(hm:X.mg x=none)(hv:bootBuiltins x=some u)(r:RelV v u)(hn:x≠"__name__":=by decide)(hd:(x==("__debug__":Str))=false:=by decide):PE X (.Name x pos) (tC v) :=
 λ_ _ _ H _ I h=>K4 I hg hm hv ⟨v,H,I,r,h⟩ hn hd
def JS(ta tb:TE)(k:Int->Int->Hp->Prop):St->Hp->Prop:=λZ H=>ta Z H λx H1=>tb Z H1 λy H2=>∃i j,x=.int i/\y=.int j/\k i j H2
def Ul(ta tb:TE):TE:=λZ H Q=>JS ta tb (λi j H2=>Q (.int (i-j)) H2) Z H
variable{a b:Expr}{ta tb:TE}{pos:Pos}
theorem Pd(ha:PE X a ta)(hb:PE X b tb):PE X (.BinOp a .Sub b pos) (Ul ta tb):=by
 intro pins s Z H Q I h;refine wpAny_BinOp (bin ha hb I h λv u s2 x y H2 I2 rx ry q=>?_);obtain⟨i,j,rfl,rfl,q⟩:=q;obtain⟨t,rfl⟩:=rx;obtain⟨t',rfl⟩:=ry;exact sub_int ⟨.int _,H2,I2.tok _,⟨_,rfl⟩,q⟩
variable{tA vS:TT}{rest:List Expr}
def TY(t u:TT):TT:=λZ H Q=>t Z H λc H1=>if c=true then u Z H1 Q else Q false H1
def JP(t u:TT):TT:=λZ H Q=>t Z H λc H1=>if c=true then Q true H1 else u Z H1 Q
def Ug(t:TT):TT:=λZ H Q=>t Z H λc H1=>Q (!c) H1
theorem RL(ha:PT X a tA):PW X (.BoolOp .And [a] pos) tA:=by
 intro wh pins s Z H Q I h;refine isTrue_and (bX (ha pins s Z H Q I h) λc s1 e=>?_);cases c with
 |true=>exact isTrue_and_nil e
 |false=>exact e
theorem Pw(ha:PT X a tA):PW X (.BoolOp .Or [a] pos) tA:=by
 intro wh pins s Z H Q I h;refine isTrue_or (bX (ha pins s Z H Q I h) λc s1 e=>?_);cases c with
 |false=>exact isTrue_or_nil e
 |true=>exact e
theorem Pu(ha:PT X a tA)(hb:PW X (.BoolOp .And (b::rest) pos) vS):PW X (.BoolOp .And (a::b::rest) pos) (TY tA vS):=by
 intro wh pins s Z H Q I h;refine isTrue_and (bX (ha pins s Z H _ I h) λc s1 ⟨H1,I1,q1⟩=>?_);cases c with
 |true=>exact hb wh pins s1 Z H1 Q I1 q1
 |false=>exact⟨H1,I1,q1⟩
theorem Ng(ha:PT X a tA)(hb:PW X (.BoolOp .Or (b::rest) pos) vS):PW X (.BoolOp .Or (a::b::rest) pos) (JP tA vS):=by
 intro wh pins s Z H Q I h;refine isTrue_or (bX (ha pins s Z H _ I h) λc s1 ⟨H1,I1,q1⟩=>?_);cases c with
 |true=>exact⟨H1,I1,q1⟩
 |false=>exact hb wh pins s1 Z H1 Q I1 q1
theorem Pt(ha:PT X a tA):PT X (.UnaryOp .Not a pos) (Ug tA):=by
 intro pins s Z H Q I h;exact isTrue_not (ha pins s Z H (λc H1=>Q (!c) H1) I h)
def Nw(ta tb:TE):TE:=λZ H Q=>ta Z H λx H1=>∃c,x=.bl c/\if c=true then tb Z H1 Q else Q (.bl false) H1
def Uh(ta tb:TE):TE:=λZ H Q=>ta Z H λx H1=>∃c,x=.bl c/\if c=true then Q (.bl true) H1 else tb Z H1 Q
def NB(ta:TE):TE:=λZ H Q=>ta Z H λx H1=>∃c,x=.bl c/\Q (.bl (!c)) H1
theorem Pc{op}{t:TE}(h:PE X a t):PE X (.BoolOp op [a] pos) t:=λpins s Z H Q I hw=>BoolOp_one (h pins s Z H Q I hw)
theorem OX(ha:PE X a ta)(hb:PE X (.BoolOp .And (b::rest) pos) tb):PE X (.BoolOp .And (a::b::rest) pos) (Nw ta tb):=by
 intro pins s Z H Q I h;refine BoolOp_and (bX (ha pins s Z H _ I h) λv s1 aZ=>?_);obtain⟨x,H1,I1,r1,q1⟩:=aZ;obtain⟨c,rfl,q1⟩:=q1;cases r1;refine bZ ?_;cases c with
 |true=>exact hb pins s1 Z H1 Q I1 q1
 |false=>exact⟨.bl false,H1,I1,rfl,q1⟩
theorem Nb(ha:PE X a ta)(hb:PE X (.BoolOp .Or (b::rest) pos) tb):PE X (.BoolOp .Or (a::b::rest) pos) (Uh ta tb):=by
 intro pins s Z H Q I h;refine BoolOp_or (bX (ha pins s Z H _ I h) λv s1 aZ=>?_);obtain⟨x,H1,I1,r1,q1⟩:=aZ;obtain⟨c,rfl,q1⟩:=q1;cases r1;refine bZ ?_;cases c with
 |false=>exact hb pins s1 Z H1 Q I1 q1
 |true=>exact⟨.bl true,H1,I1,rfl,q1⟩
theorem Pb(ha:PE X a ta):PE X (.UnaryOp .Not a pos) (NB ta):=by
 intro pins s Z H Q I h;refine UnaryOp_ (bX (ha pins s Z H _ I h) λv s1 aZ=>?_);obtain⟨x,H1,I1,r1,q1⟩:=aZ;obtain⟨c,rfl,q1⟩:=q1;cases r1;exact not_of (bZ ⟨.bl (!c),H1,I1,rfl,q1⟩)
def JQ(t:TT)(ta tb:TE):TE:=λZ H Q=>t Z H λc H1=>if c=true then ta Z H1 Q else tb Z H1 Q
theorem ZJ{c:Expr}(hc:PT X c tA)(ha:PE X a ta)(hb:PE X b tb):PE X (.IfExp c a b pos) (JQ tA ta tb):=by
 intro pins s Z H Q I h;refine wpAny_IfExp (bX (hc pins s Z H _ I h) λd s1 ⟨H1,I1,q1⟩=>?_);cases d with
 |true=>exact ha pins s1 Z H1 Q I1 q1
 |false=>exact hb pins s1 Z H1 Q I1 q1
end
def fh(K:PySem.W.Frag)(H:Hp)(a:Addr)(xs:List V):Prop :=
 Rd H a (.lst xs) \/
  ∃(o:Obj) (aQ:Array Value) (n:Nat),K.lookup a=some o/\o.cls=.type "list"/\o.dict=none/\o.data=.seq aQ n/\aQ.size<=sizeLine/\Vals xs aQ.toList
def gU(K:PySem.W.Frag)(H:Hp)(a:Addr)(xs:List V):Prop :=
 Rd H a (.tup xs) \/
  ∃(o:Obj) (aQ:Array Value) (n:Nat),K.lookup a=some o/\o.cls=.type "tuple"/\o.data=.seq aQ n/\aQ.size<=sizeLine/\Vals xs aQ.toList
def SF:Value->Option V
 |.none=>some .bx
 |.bool b=>some (.bl b)
 |.int i _=>some (.int i)
 |.str x _=>some (.str x)
 |.bytes b _=>some (.ky b)
 |.float b _=>some (.qj b)
 |.ref a=>some (.ref a)
 |.type n=>some (.ty n)
 |_=>none
theorem RelV.abs{x:V}{u:Value}(r:RelV x u):SF u=some x:=by
 cases x with
 |bx=>cases r;rfl
 |bl _=>cases r;rfl
 |int _=>obtain⟨t,rfl⟩:=r;rfl
 |str _=>obtain⟨t,rfl⟩:=r;rfl
 |ky _=>obtain⟨t,rfl⟩:=r;rfl
 |qj _=>obtain⟨t,rfl⟩:=r;rfl
 |ref _=>cases r;rfl
 |ty _=>cases r;rfl
theorem RelV.inj{x y:V}{u:Value}(r:RelV x u)(q:RelV y u):x=y:=aJ (r.abs.symm.trans q.abs)
theorem Vals.inj{xs ys:List V}{us:List Value}(h:Vals xs us)(h':Vals ys us):xs=ys:=by
 induction h generalizing ys with
 |nil=>cases h';rfl
 |cons r t ih =>
  cases h' with
  |cons r' t'=>rw[r.inj r',ih t']
section
variable{X:Cx}{pins:List (Addr×Obj)}{Z:St}{H:Hp}{s:Shared}{a:Addr}{xs ys:List V}
theorem fh.of{K:PySem.W.Frag}(h:H a=some (.lst xs)):fh K H a xs:=.inl (.inl h)
theorem Inv.list(I:Inv X pins Z H s)(h:fh X.K H a xs):∃aQ:List Value,Vals xs aQ/\PlainL s.heap a aQ.toArray/\xs.length<=sizeLine:=by
 rcases h with h|⟨o,aQ,n,hk,hc,hd,hs,hz,r⟩
 ·obtain⟨z,aQ,n,r,e⟩:=h.ok I.bC;exact⟨aQ,r,⟨_,n,e,rfl,rfl,rfl⟩,z⟩
 ·refine⟨aQ.toList,r,⟨o,n,I.gf a o hk,hc,hd,by simpa using hs⟩,?_⟩;have e:=r.length;simp only[Array.length_toList] at e;omega
theorem Inv.tuple(I:Inv X pins Z H s)(h:gU X.K H a xs):∃aQ:List Value,Vals xs aQ/\IsTup s.heap a aQ.toArray/\xs.length<=sizeLine:=by
 rcases h with h|⟨o,aQ,n,hk,hc,hs,hz,r⟩
 ·obtain⟨z,aQ,r,p⟩:=h.ok I.bC;exact⟨aQ,r,p.tup,z⟩
 ·refine⟨aQ.toList,r,⟨o,I.gf a o hk,hc,n,by simpa using hs⟩,?_⟩;have e:=r.length;simp only[Array.length_toList] at e;omega
theorem Inv.Be(I:Inv X pins Z H s)(h:fh X.K H a xs)(h':fh X.K H a ys):xs=ys:=by
 obtain⟨aQ,r,⟨o,n,e,_,_,d⟩,_⟩:=I.list h;obtain⟨its',r',⟨o',n',e',_,_,d'⟩,_⟩:=I.list h';rw[e] at e';cases e';rw[d] at d';injection d' with d1 _;have:aQ=its':=by simpa using gA Array.toList d1
 subst this;exact r.inj r'
theorem Inv.XC(I:Inv X pins Z H s)(h:gU X.K H a xs)(h':gU X.K H a ys):xs=ys:=by
 obtain⟨aQ,r,⟨o,e,_,n,d⟩,_⟩:=I.tuple h;obtain⟨its',r',⟨o',e',_,n',d'⟩,_⟩:=I.tuple h';rw[e] at e';cases e';rw[d] at d';injection d' with d1 _;have:aQ=its':=by simpa using gA Array.toList d1
 subst this;exact r.inj r'
end
noncomputable abbrev Cx.X8(X:Cx)(E:Value->Shared->Prop):Cx:={ X with xe:=E }
theorem Cx.Ok.X8{X:Cx}(ok:X.Ok)(E:Value->Shared->Prop):(X.X8 E).Ok :=
 ⟨ok.mod,ok.kind,ok.glob,ok.blt,ok.above,ok.inj,ok.has,ok.oQ,ok.hd,ok.frames,ok.pz,ok.uE,ok.bs,ok.mH,ok.jF,ok.ki,ok.I9,ok.mU⟩
theorem Cx.Ok.AB{X:Cx}{E:Value->Shared->Prop}(ok:(X.X8 E).Ok):X.Ok :=
 ⟨ok.mod,ok.kind,ok.glob,ok.blt,ok.above,ok.inj,ok.has,ok.oQ,ok.hd,ok.frames,ok.pz,ok.uE,ok.bs,ok.mH,ok.jF,ok.ki,ok.I9,ok.mU⟩
section
variable{X:Cx}{pins:List (Addr×Obj)}{Z:St}{H:Hp}{s:Shared}{E:Value->Shared->Prop}
theorem Inv.X8(I:Inv X pins Z H s)(E:Value->Shared->Prop):Inv (X.X8 E) pins Z H s:=⟨I.ok.X8 E,I.os,I.bare,I.base,I.loc,I.cell,I.free,I.dG,I.pin,I.bC,I.len⟩
theorem Inv.AB(I:Inv (X.X8 E) pins Z H s):Inv X pins Z H s:=⟨I.ok.AB,I.os,I.bare,I.base,I.loc,I.cell,I.free,I.dG,I.pin,I.bC,I.len⟩
end
section
variable{X:Cx}{st:Stmt}{rest:List Stmt}{t u:TS}{e:Expr}{te:TE}{pos:Pos}
def Jg:TS:=λD Z H=>D.nx Z H
def Uk(t u:TS):TS:=λD Z H=>t { D with nx:=u D } Z H
theorem RI:iJ X [] Jg:=λ_ _ Z H _ I h=>jm ⟨Z,H,I,h⟩
theorem ZS(h1:PS X st t)(h2:iJ X rest u):iJ X (st::rest) (Uk t u):=by
 intro pins s Z H D I h;refine wpAny_execs_cons (bX (h1 pins s Z H { D with nx:=u D } I h) λf s1 q=>?_);cases f with
 |next =>
  obtain⟨bI,H',I',q⟩:=q;exact h2 pins s1 bI H' D I' q
 |ret v=>exact q
 |brk=>exact q
 |cont=>exact q
theorem RG:PS X (.Pass pos) Jg:=λ_ _ Z H _ I h=>wpAny_Pass ⟨Z,H,I,h⟩
theorem Inv.quiet{pins:List (Addr×Obj)}{Z:St}{H:Hp}{s:Shared}(I:Inv X pins Z H s):interactive X.env=false:=by simp[interactive,I.ok.kind]
def NA(te:TE):TS:=λD Z H=>te Z H λ_ H1=>D.nx Z H1
theorem RE(he:PE X e te)(hs:swapsWith e none pos.line X.env=pure false:=by rfl):PS X (.Expr e pos) (NA te):=by
 intro pins s Z H D I h;exact wpAny_Expr_any (bX (he pins s Z H _ I h) λv s1 ⟨x,H1,I1,r1,q1⟩=>⟨Z,H1,I1,q1⟩) I.quiet hs
def Uj(te:TE):TS:=λD Z H=>te Z H D.rt
theorem Pp(he:PE X e te):PS X (.Return (some e) pos) (Uj te):=by
 intro pins s Z H D I h;exact wpAny_Return_some (bX (he pins s Z H _ I h) λv s1 ⟨x,H1,I1,r1,q1⟩=>⟨x,Z,H1,I1,r1,q1⟩)
def ND:TS:=λD _ H=>D.rt .bx H
theorem RH:PS X (.Return none pos) ND:=λ_ _ Z H _ I h=>wpAny_Return_none ⟨.bx,Z,H,I,rfl,h⟩
def Ud(c:TT)(t u:TS):TS:=λD Z H=>c Z H λb H1=>if b=true then t D Z H1 else u D Z H1
theorem Nf{c:Expr}{a b:List Stmt}{tc:TT}(hc:PT X c tc)(ha:iJ X a t)(hb:iJ X b u):PS X (.If c a b pos) (Ud tc t u):=by
 intro pins s Z H D I h;refine wpAny_If (bX (hc pins s Z H _ I h) λd s1 ⟨H1,I1,q1⟩=>?_);cases d with
 |true=>exact ha pins s1 Z H1 D I1 q1
 |false=>exact hb pins s1 Z H1 D I1 q1
end
noncomputable abbrev TG:=V->St->Hp->(St->Hp->Prop)->Prop
noncomputable abbrev oU:=List V->St->Hp->(St->Hp->Prop)->Prop
def PG(X:Cx)(target:Expr)(t:TG):Prop :=
 ∀(pins:List (Addr×Obj)) (s:Shared) (Z:St) (H:Hp) (v:V) (u:Value) (Q:St->Hp->Prop),Inv X pins Z H s->RelV v u->t v Z H Q ->
  wpAny (model X.prog X.w) X.A (assign target X.env u) (λ_ s'=>∃bI H',Inv X pins bI H' s'/\Q bI H') X.xe s
def vD(X:Cx)(ts:List Expr)(t:oU):Prop :=
 ∀(pins:List (Addr×Obj)) (s:Shared) (Z:St) (H:Hp) (vs:List V) (us:List Value) (Q:St->Hp->Prop),Inv X pins Z H s->Vals vs us->t vs Z H Q ->
  wpAny (model X.prog X.w) X.A (assignInOrder ((assignEach ts X.env).map (·.2)) us) (λ_ s'=>∃bI H',Inv X pins bI H' s'/\Q bI H') X.xe s
noncomputable abbrev Cm:=V->V->V->Hp->(Hp->Prop)->Prop
def Ck(X:Cx)(t:Cm):Prop :=
 ∀(pins:List (Addr×Obj)) (s:Shared) (Z:St) (H:Hp) (o i v:V) (ov iv u:Value) (Q:Hp->Prop),Inv X pins Z H s->RelV o ov->RelV i iv->RelV v u->t o i v H Q ->
  wpAny (model X.prog X.w) X.A (setItem ov iv u) (λ_ s'=>∃H',Inv X pins Z H' s'/\Q H') X.xe s
noncomputable abbrev Cz:=V->V->Hp->VK->Prop
def Jl(X:Cx)(op:Operator)(t:Cz):Prop :=
 ∀(pins:List (Addr×Obj)) (s:Shared) (Z:St) (H:Hp) (x y:V) (v u:Value) (Q:VK),Inv X pins Z H s->RelV x v->RelV y u->t x y H Q ->
  wpAny (model X.prog X.w) X.A (inplaceOp op v u) (EP X pins Z Q) X.xe s
section
variable{X:Cx}{pos:Pos}
def rS(i:Nat):TG:=λv Z H Q=>Q (Z.set i (some v)) H
theorem HX{i:Nat}{x:Str}(hN:X.N.Nodup)(hi:X.N[i]?=some x)(hx:Loc X.env.scope x)(hf:X.fn x=true\/X.env.scope.names.lookup x=some .local:=by first|exact .inl rfl|exact .inr rfl|assumption):PG X (.Name x pos) (rS i):=by
 intro pins s Z H v u Q I r h;exact wpAny_assign_Name (Q1 I hN hi hx r (λs' I'=>⟨_,H,I',h⟩) hf)
def EY:oU:=λvs Z H Q=>vs=[]/\Q Z H
def IQ(t:TG)(u:oU):oU:=λvs Z H Q=>∃v r,vs=v::r/\t v Z H λbI H'=>u r bI H' Q
theorem RB:vD X [] EY:=by
 intro pins s Z H vs us Q I r h;obtain⟨e,h⟩:=h;subst e;cases r;exact assignInOrder_nil ⟨Z,H,I,h⟩
theorem ZM{e:Expr}{es:List Expr}{t:TG}{u:oU}(h1:PG X e t)(h2:vD X es u)(hs:(assignEach (e::es) X.env).map (·.2)=assign e X.env::(assignEach es X.env).map (·.2):=by rfl):vD X (e::es) (IQ t u):=by
 intro pins s Z H vs us Q I r h;obtain⟨v,vr,e1,h⟩:=h;subst e1;cases r with
 |cons r rr =>
  rw[hs];refine vJ (bX (h1 pins s Z H _ _ _ I r h) λ_ s1 aZ=>?_);obtain⟨gZ,H1,I1,q1⟩:=aZ;exact h2 pins s1 gZ H1 _ _ Q I1 rr q1
def SY(K:PySem.W.Frag)(n:Nat)(t:oU):TG:=λv Z H Q=>∃a xs,v=.ref a/\gU K H a xs/\xs.length=n/\t xs Z H Q
theorem Ph{es:List Expr}{k:Nat}{t:oU}{n:Nat}(hc:X.calm=true)(h:vD X es t)(hn:(assignEach es X.env).length=n:=by rfl)(cV:(assignEach es X.env).findIdx? (·.1)=none:=by rfl):PG X (.Tuple es k pos) (SY X.K n t):=by
 intro pins s Z H v u Q I r hw;obtain⟨a,xs,e1,hq,hl,hw⟩:=hw;subst e1;cases r;obtain⟨aQ,rv,ht,hz⟩:=I.tuple hq;refine assign_Tuple_tuple (I.ok.hd hc) ht (by simp[hn,<- hl,rv.length]) cV λh' hx=>?_;have I1:Inv X pins Z H { s with heap:=h' }:=I.kept (t':=s.toks) λb o e=>hx b o (aK (ay e)) e;exact h pins _ Z H xs _ Q I1 (by simpa using rv) hw
def SX(to ti:TE)(t:Cm):TG:=λv Z H Q=>to Z H λo H1=>ti Z H1 λi H2=>t o i v H2 λH3=>Q Z H3
theorem Pf{o i:Expr}{to ti:TE}{t:Cm}(ho:PE X o to)(hi:PE X i ti)(hs:Ck X t)(ha:∀ v,assign (.Subscript o i pos) X.env v=(do
   let ov <- holding [v] (eval o X.env)
   let iv <- holding [v,ov] (eval i X.env)
   standAt pos
   holding [v,ov,iv] (setItem ov iv v)
   release [v,ov,iv] []):=by intro _;rfl):PG X (.Subscript o i pos) (SX to ti t):=by
 intro pins s Z H v u Q I r h;rw[ha];refine ae (bY (bX (ho pins s Z H _ I h) λov s1 aZ=>?_));obtain⟨x,H1,I1,r1,q1⟩:=aZ;refine ae (bY (bX (hi pins s1 Z H1 _ I1 q1) λiv s2 aZ=>?_));obtain⟨y,H2,I2,r2,q2⟩:=aZ;refine ae (du (ae (bY (bX (hs pins s2 Z H2 x y v ov iv u _ I2 r1 r2 r q2) λ_ s3 ⟨H3,I3,q3⟩=>?_))));exact wpAny_release ⟨Z,H3,I3,q3⟩
def uU(te:TE)(g:TG):TS:=λD Z H=>te Z H λx H1=>g x Z H1 D.nx
theorem Ho{tg e:Expr}{te:TE}{g:TG}(he:PE X e te)(hg:PG X tg g)(hs:swapsWithSole [tg] e pos.line X.env=pure false:=by rfl)(hw:swappedStores [tg] e X.env=pure none:=by rfl)(h1:(assignEach [tg] X.env).map (·.2)=[assign tg X.env]:=by rfl):PS X (.Assign [tg] e pos) (uU te g):=by
 intro pins s Z H D I h;refine wpAny_Assign_stores (bX (he pins s Z H _ I h) λv s1 aZ=>?_) hs hw;obtain⟨x,H1,I1,r1,q1⟩:=aZ;rw[h1];exact bX (hg pins s1 Z H1 x v _ I1 r1 q1) λ_ s2 q=>q
theorem Hq{i:Nat}{x:Str}{e:Expr}{te:TE}{pos':Pos}(hN:X.N.Nodup)(hi:X.N[i]?=some x)(hx:Loc X.env.scope x)(he:PE X e te)(hs:swapsWith e (some (.Name x pos')) pos.line X.env=pure false:=by rfl)(hf:X.fn x=true\/X.env.scope.names.lookup x=some .local:=by first|exact .inl rfl|exact .inr rfl|assumption) :
  PS X (.Assign [.Name x pos'] e pos) (uU te (rS i)):=by
 intro pins s Z H D I h;refine wpAny_Assign_Name (bX (he pins s Z H _ I h) λv s1 aZ=>?_) hs;obtain⟨y,H1,I1,r1,q1⟩:=aZ;exact Q1 I1 hN hi hx r1 (λs2 I2=>⟨_,H1,I2,q1⟩) hf
def Ui(i j:Nat)(ta:TA):TS:=λD Z H=>ta Z H λvs H1=>∃v w,vs=[v,w]/\D.nx ((Z.set i (some v)).set j (some w)) H1
theorem Po{i j:Nat}{x y:Str}{a b:Expr}{ta:TA}{px py pt:Pos}{kt k2 nZ}(hc:X.calm=true)(hN:X.N.Nodup)(hi:X.N[i]?=some x)(hj:X.N[j]?=some y)(iY:i≠j)(hx:X.env.scope.names.lookup x=some .local)(hy:X.env.scope.names.lookup y=some .local)(ha:PA X [a,b] ta)(hw:swappedStores [.Tuple [.Name x px,.Name y py] kt pt] (.Tuple [a,b] k2 nZ) X.env=pure (some [x,y]))(hs:swapsWithSole [.Tuple [.Name x px,.Name y py] kt pt] (.Tuple [a,b] k2 nZ) pos.line X.env=pure false:=by rfl) :
  PS X (.Assign [.Tuple [.Name x px,.Name y py] kt pt] (.Tuple [a,b] k2 nZ) pos) (Ui i j ta):=by
 intro pins s Z H D I h;rw[exec_Assign_arm];refine ae (du ?_);rw[hs];refine ae (ai ?_);rw[az (by decide)];refine ae (Tuple_ (bX (ha _ pins s Z H _ I h) λus s1 aZ=>?_));obtain⟨vs,H1,I1,r1,q1⟩:=aZ;obtain⟨v,w,e1,q1⟩:=q1;subst e1;obtain⟨u1,u2,rfl,rv,fz⟩:∃u1 u2,us=[u1,u2]/\RelV v u1/\RelV w u2:=by
  cases r1 with
  |cons p q =>
   cases q with
   |cons p' q' =>
    cases q';exact⟨_,_,rfl,p,p'⟩
 refine bS ?_ (by show 2<=sizeLine;decide);have I2:Inv X pins Z H1 { s1 with heap:=s1.heap.push { cls:=.type "tuple",data:=.seq [u1,u2].toArray } }:=I1.kept (t':=s1.toks) λb o e=>aj _ e;rw[hw];refine ae (ai ?_);show wpAny (model X.prog X.w) X.A (do rule "assign.swapped-stores";let items <- unpackItems (.ref s1.heap.objs.size) 2 none;assignInOrder [λv=>bindName X.env y v,λv=>bindName X.env x v] items.reverse;pure Flow.next) _ _ _;refine ae (fB (ae (unpackItems_tuple (items:=#[u1,u2]) (I.ok.hd hc) (IsTup.new s1.heap _) λh' oq=>?_)));have I3:=I2.kept (h':=h') (t':=s1.toks) λb o e=>oq b o (aK (ay e)) e;show wpAny _ _ (assignInOrder [λv=>bindName X.env y v,λv=>bindName X.env x v] [u2,u1] >>= λ_=>pure Flow.next) _ _ _;refine ae (vJ (wpAny_bindName (Q1 I3 hN hj (.inl hy) fz (λs2 I4=>?_) (.inr hy))));refine vJ (wpAny_bindName (Q1 I4 hN hi (.inl hx) rv (λs3 I5=>assignInOrder_nil (ai ?_)) (.inr hx)));rw[List.set_comm _ _ (bA iY)] at I5;exact⟨_,H1,I5,q1⟩
def TZ(i:Nat)(te:TE)(ti:Cz):TS:=λD Z H=>∃x,Z[i]?=some (some x)/\te Z H λy H1=>ti x y H1 λz H2=>D.nx (Z.set i (some z)) H2
theorem Pl{i:Nat}{x:Str}{e:Expr}{te:TE}{op:Operator}{ti:Cz}{pos':Pos}(hN:X.N.Nodup)(hi:X.N[i]?=some x)(hx:Loc X.env.scope x)(he:PE X e te)(ho:Jl X op ti)(hf:X.fn x=true\/X.env.scope.names.lookup x=some .local:=by first|exact .inl rfl|exact .inr rfl|assumption) :
  PS X (.AugAssign (.Name x pos') op e pos) (TZ i te ti):=by
 intro pins s Z H D I h;obtain⟨v,e1,h⟩:=h;obtain⟨m,hn,hl⟩:=I.loc;have qL:vz X.env.scope x:=by rcases hx with k|k;exact .inl k;exact .inr (.inl k)
 obtain⟨u,r,l⟩:=hl i x v hi e1 qL;refine wpAny_AugAssign_Name ?_;have go:wpAny (model X.prog X.w) X.A (eval e X.env) (λw fm=>wpAny (model X.prog X.w) X.A (inplaceOp op u w) (λr ei=>wpAny (model X.prog X.w) X.A (storeName X.env x r) (λ_=>SP X pins D .next) X.xe ei) X.xe fm) X.xe s:=by
  refine bX (he pins s Z H _ I h) λw s1 aZ=>?_;obtain⟨y,H1,I1,r1,q1⟩:=aZ;refine bX (ho pins s1 Z H1 v y u w _ I1 r r1 q1) λz s2 aZ=>?_;obtain⟨zv,H2,I2,r2,q2⟩:=aZ;exact Q1 I2 hN hi hx r2 (λs3 I3=>⟨_,H2,I3,q2⟩) hf
 rcases l with⟨hk,hm⟩|⟨hk,c,hc,ku⟩
 ·exact wpAny_loadName_local I.ok.kind hk hn hm go
 ·rcases hk with hk|hk
  ·exact wpAny_loadName_cell I.ok.kind hk hc ku go
  ·rcases hx with k|k
   ·have:X.env.scope.names.lookup x=some .free:=hk;rw[k] at this;cases this
   ·have:X.env.scope.names.lookup x=some .free:=hk;rw[k] at this;cases this
end
section
variable{X:Cx}{pos:Pos}
def Qu(c:TT)(tb:TS):TS:=λD Z H=>∃W:Nat->St->Hp->Prop,(∃m,W m Z H)/\∀m Z H,W m Z H ->
 c Z H λb H1=>if b=true then ∃N:St->Hp->Prop,(∀bI H',N bI H'->∃m',m'<m/\W m' bI H')/\tb { D with nx:=N,ct:=N,bk:=D.nx } Z H1 else D.nx Z H1
theorem ZR{c:Expr}{body:List Stmt}{tc:TT}{tb:TS}(hp:PassesOwn (model X.prog X.w) X.A X.env X.xe)(hc:PT X c tc)(hb:iJ X body tb):PS X (.While c body [] pos) (Qu tc tb):=by
 intro pins s Z H D I h;obtain⟨W,⟨m0,w0⟩,turn⟩:=h;refine wpAny_While (codeAny_whileLoop (λn s'=>∃bI H',Inv X pins bI H' s'/\W n bI H') ?_ m0 ⟨Z,H,I,w0⟩);rintro n s1 ⟨gZ,H1,I1,w1⟩;refine dq hp (bX (hc pins s1 gZ H1 _ I1 (turn n gZ H1 w1)) λb s2 ⟨H2,I2,q2⟩=>?_);cases b with
 |true =>
  obtain⟨N,hN,q2⟩:=q2;rw[aH rfl];refine dq hp (bX (hb pins s2 gZ H2 _ I2 q2) λf s3 q3=>?_);cases f with
  |next =>
   obtain⟨gR,H3,I3,n3⟩:=q3;obtain⟨m',hm,w3⟩:=hN gR H3 n3;exact⟨m',hm,gR,H3,I3,w3⟩
  |cont =>
   obtain⟨gR,H3,I3,n3⟩:=q3;obtain⟨m',hm,w3⟩:=hN gR H3 n3;exact⟨m',hm,gR,H3,I3,w3⟩
  |brk=>exact q3
  |ret v=>exact q3
 |false =>
  rw[az cZ];exact jm ⟨gZ,H2,I2,q2⟩
end
structure It where
 go:Nat->Hp->Prop
 pj:Nat->Hp->V->Hp->Prop
 stop:Nat->Hp->Prop
def B4(X:Cx)(pins:List (Addr×Obj))(H:Hp)(b:Addr):Prop :=
 H b=none/\b≠X.env.locals/\b∉X.fs/\(b∈X.ex\/X.cL.heap.objs.size<=b)/\(∀x c,X.env.cells.lookup x=some c->c≠b)/\∀p∈X.pn++pins,p.1≠b
theorem Inv.oS{X:Cx}{pins:List (Addr×Obj)}{Z:St}{H H':Hp}{s:Shared}{b:Addr}(I:Inv X pins Z H s)(hb:s.heap.objs.size<=b)(hn:H' b=none):B4 X pins H' b:=by
 refine⟨hn,bB (ax I.lt hb),I.uT hb,.inr (aC I.sz hb),λx c e z=>?_,λp hp z=>?_⟩
 ·obtain⟨v,q⟩:=I.cell x c e;exact absurd (ax q.lt (by rw[z];exact hb)) (bj _)
 ·exact absurd (ax (ay (I.pin p hp).1) (by rw[z];exact hb)) (bj _)
structure Turn(P:Program)(w:World)(K:PySem.W.Frag)(tg:Expr)(J:It)(fp:List Addr)(it:Addr)(tn:Nat->Heap->Prop):Prop where
 mem:it∈fp
 obj:∀i h,tn i h->∀b∈fp,∃o,h.get? b=some o/\∀v,o.data≠.cell v
 keep:∀i h h',tn i h->(∀b∈fp,∀o,h.get? b=some o->h'.get? b=some o)->tn i h'
 item:∀(X:Cx),X.prog=P->X.w=w->X.K=K->X.calm=true->∀(i:Nat) (pins:List (Addr×Obj)) (s:Shared) (Z:St) (H:Hp) (E:Value->Shared->Prop),Inv X pins Z H s->(∀b∈fp,B4 X pins H b)->tn i s.heap->J.go i H ->
  wpAny (model P w) X.A (pyNext (.ref it)) (λr s1=>∃ u,r=some u /\
   wpAny (model P w) X.A (letOwnedTupleGo tg (.ref it) u) (λ_ s2=>∃ x H',Inv X pins Z H' s2/\RelV x u/\J.pj i H x H'/\tn (i + 1) s2.heap/\∀ b ∈ fp,H' b=none) E s1) E s
 done:∀(X:Cx),X.prog=P->X.w=w->X.K=K->X.calm=true->∀(i:Nat) (pins:List (Addr×Obj)) (s:Shared) (Z:St) (H:Hp) (E:Value->Shared->Prop),Inv X pins Z H s->(∀b∈fp,B4 X pins H b)->tn i s.heap->J.stop i H ->
  wpAny (model P w) X.A (pyNext (.ref it)) (λr s1=>r=none/\Inv X pins Z H s1) E s
 self:∀(A:Around) (i:Nat) (s:Shared) (Q:Value->Shared->Prop) (E:Value->Shared->Prop),tn i s.heap->Q (.ref it) s->wpAny (model P w) A (pyIter (.ref it)) Q E s
noncomputable abbrev TI:=St->Hp->(It->Hp->Prop)->Prop
def Jm(X:Cx)(pins:List (Addr×Obj))(Z:St)(tg:Expr)(R:It->Hp->Prop)(tP:Value)(s2:Shared):Prop :=
 ∃(it:Addr) (fp:List Addr) (tn:Nat->Heap->Prop) (J:It) (H':Hp),tP=.ref it/\Inv X pins Z H' s2/\Turn X.prog X.w X.K tg J fp it tn/\tn 0 s2.heap/\(∀b∈fp,B4 X pins H' b)/\R J H'
def PI(X:Cx)(tg iter:Expr)(wi:TI):Prop :=
 ∀(pins:List (Addr×Obj)) (s:Shared) (Z:St) (H:Hp) (R:It->Hp->Prop),Inv X pins Z H s->wi Z H R ->
  wpAny (model X.prog X.w) X.A (eval iter X.env) (λv s1=>wpAny (model X.prog X.w) X.A (pyIter v) (Jm X pins Z tg R) X.xe s1) X.xe s
theorem wZ{M:Model}{A:Around}{E:Value->Shared->Prop}{s:Shared}{tg:Expr}{it:Addr}{u:Value}{o:Obj}{n:String}{vs:Array Value}{Q:Unit->Shared->Prop}(ho:s.heap.get? it=some o)(hc:o.cls=.type n)(hd:o.data=.fields vs)(hn:["enumerate","zip","dict_itemiterator","dict_reverseitemiterator","odict_iterator","itertools.zip_longest","itertools.pairwise"].contains n=false)(hQ:Q () s):wpAny M A (letOwnedTupleGo tg (.ref it) u) Q E s:=by
  unfold letOwnedTupleGo;cases tg<;>first
    |exact ai hQ
    | (cases u <;> first
        |exact ai hQ
        | (refine ae (wpAny_load ho ?_)
           rw[hc,hd];show wpAny M A (if(["enumerate","zip","dict_itemiterator","dict_reverseitemiterator","odict_iterator","itertools.zip_longest","itertools.pairwise"].contains n&&vs[0]?==some (rawInt _))=true then _ else _) Q E s;rw[az (by intro h;rw[hn,Bool.false_and] at h;cases h)];exact ai hQ))
def CD(K:PySem.W.Frag)(a:Addr):It :=
 ⟨λi H=>∃xs x,fh K H a xs/\xs[i]?=some x,λi H x H'=>H'=H/\∀xs,fh K H a xs->xs[i]?=some x,λi H=>∃xs,fh K H a xs/\xs.length<=i⟩
def CC(K:PySem.W.Frag)(a:Addr):It :=
 ⟨λi H=>∃xs x,gU K H a xs/\xs[i]?=some x,λi H x H'=>H'=H/\∀xs,gU K H a xs->xs[i]?=some x,λi H=>∃xs,gU K H a xs/\xs.length<=i⟩
def vF(lo:Int)(n:Nat):It:=⟨λi _=>i<n,λi H x H'=>H'=H/\x=.int (lo+i),λi _=>n<=i⟩
theorem XF{P:Program}{w:World}{K:PySem.W.Frag}{tg:Expr}(a it:Addr):Turn P w K tg (CD K a) [it] it (λi h=>h.IsListIter it a i) where
 mem:=by simp
 obj:=λi h st b hb=>by
  have e:b=it:=by simpa using hb
  subst e;obtain⟨o,e,c,d⟩:=st;exact⟨o,e,λv z=>by rw[d] at z;cases z⟩
 keep:=λi h h' st k=>st.at λo e=>k it (by simp) o e
 item:=by
  intro X hP hw hK hc i pins s Z H E I hf st hg;subst hP hw hK;obtain⟨xs,x,hq,hx⟩:=hg;obtain⟨aQ,rv,p,hz⟩:=I.list hq;obtain⟨u,hu,ru⟩:=rv.get hx;obtain⟨f0,f1,f2,f3,f4,f5⟩:=hf it (by simp);refine wpAny_pyNext_list_item st p.isList (x:=u) (by simpa using hu) λh' kL sb=>?_;have I1:Inv X pins Z H { s with heap:=h' }:=I.turned (t':=s.toks) (λb o hb e=>(sb.2 b hb).trans e) f0 f1 f3 f4 f5;obtain⟨o,e,c,d⟩:=id kL;exact⟨u,rfl,wZ (s:={ s with heap:=h' }) e c d (by decide) ⟨x,H,I1,ru,⟨rfl,λys hy=>by rw[I.Be hy hq];exact hx⟩,kL,λb hb=>(hf b hb).1⟩⟩
 done:=by
  intro X hP hw hK hc i pins s Z H E I hf st hg;subst hP hw hK;obtain⟨xs,hq,hx⟩:=hg;obtain⟨aQ,rv,p,hz⟩:=I.list hq;obtain⟨f0,f1,f2,f3,f4,f5⟩:=hf it (by simp);have hl:=rv.length;exact wpAny_pyNext_list_end (I.ok.hd hc) st p.isList (by simp;omega) λh' eb=>⟨rfl,I.turned (t':=s.toks) (λb o hb e=>eb b o hb e) f0 f1 f3 f4 f5⟩
 self:=λ_ _ _ _ _ st h=>wpAny_pyIter_listiter st h
theorem Yu{P:Program}{w:World}{K:PySem.W.Frag}{tg:Expr}(a it:Addr):Turn P w K tg (CC K a) [it] it (λi h=>h.IsTupleIter it a i) where
 mem:=by simp
 obj:=λi h st b hb=>by
  have e:b=it:=by simpa using hb
  subst e;obtain⟨o,e,c,d⟩:=st;exact⟨o,e,λv z=>by rw[d] at z;cases z⟩
 keep:=λi h h' st k=>st.at λo e=>k it (by simp) o e
 item:=by
  intro X hP hw hK hc i pins s Z H E I hf st hg;subst hP hw hK;obtain⟨xs,x,hq,hx⟩:=hg;obtain⟨aQ,rv,p,hz⟩:=I.tuple hq;obtain⟨u,hu,ru⟩:=rv.get hx;obtain⟨f0,f1,f2,f3,f4,f5⟩:=hf it (by simp);refine wpAny_pyNext_tuple_item st (show s.heap.IsTuple a aQ.toArray from p) (x:=u) (by simpa using hu) λh' kL sb=>?_;have I1:Inv X pins Z H { s with heap:=h' }:=I.turned (t':=s.toks) (λb o hb e=>(sb.2 b hb).trans e) f0 f1 f3 f4 f5;obtain⟨o,e,c,d⟩:=id kL;exact⟨u,rfl,wZ (s:={ s with heap:=h' }) e c d (by decide) ⟨x,H,I1,ru,⟨rfl,λys hy=>by rw[I.XC hy hq];exact hx⟩,kL,λb hb=>(hf b hb).1⟩⟩
 done:=by
  intro X hP hw hK hc i pins s Z H E I hf st hg;subst hP hw hK;obtain⟨xs,hq,hx⟩:=hg;obtain⟨aQ,rv,p,hz⟩:=I.tuple hq;obtain⟨f0,f1,f2,f3,f4,f5⟩:=hf it (by simp);have hl:=rv.length;exact wpAny_pyNext_tuple_end (I.ok.hd hc) st (show s.heap.IsTuple a aQ.toArray from p) (by simp;omega) λh' eb=>⟨rfl,I.turned (t':=s.toks) (λb o hb e=>eb b o hb e) f0 f1 f3 f4 f5⟩
 self:=λ_ _ _ _ _ st h=>wpAny_pyIter_tupleiter st h
theorem Ys{P:Program}{w:World}{K:PySem.W.Frag}{tg:Expr}(it:Addr)(lo:Int)(n:Nat):Turn P w K tg (vF lo n) [it] it (λi h=>IsRangeIter h it (lo+(i:Nat)*1) ((n:Int)-(i:Nat)) 1) where
 mem:=by simp
 obj:=λi h st b hb=>by
  have e:b=it:=by simpa using hb
  subst e;exact ⟨_,st,λv z=>by
   have z':Data.fields _=Data.cell v:=z;cases z'⟩
 keep:=λi h h' st k=>k it (by simp) _ st
 item:=by
  intro X hP hw hK hc i pins s Z H E I hf st hg;subst hP hw hK;obtain⟨f0,f1,f2,f3,f4,f5⟩:=hf it (by simp);have W:=Walks.range (prog:=X.prog) (w:=X.w) (I.ok.hd hc) it lo 1 n;refine W.item i s _ _ hg st λv h' tk hv kL kk=>?_;obtain⟨t,rfl⟩:=hv;have I1:Inv X pins Z H { s with heap:=h',toks:=tk }:=I.turned (λb o hb e=>kk b o (by simpa using hb) e) f0 f1 f3 f4 f5;refine⟨_,rfl,wZ (s:={ s with heap:=h',toks:=tk }) (n:="range_iterator") kL rfl rfl (by decide) ⟨.int (lo+i),H,I1,⟨t,?_⟩,⟨rfl,rfl⟩,kL,λb hb=>(hf b hb).1⟩⟩;rw[Int.mul_one]
 done:=by
  intro X hP hw hK hc i pins s Z H E I hf st hg;subst hP hw hK;obtain⟨f0,f1,f2,f3,f4,f5⟩:=hf it (by simp);exact wpAny_pyNext_range_end (I.ok.hd hc) st (by have:n<=i:=hg;omega) λh' eb=>⟨rfl,I.turned (t':=s.toks) (λb o hb e=>eb b o hb e) f0 f1 f3 f4 f5⟩
 self:=λ_ _ _ _ _ st h=>wpAny_pyIter_rangeiter st h
section
variable{X:Cx}{tg:Expr}
theorem Fu{pins:List (Addr×Obj)}{Z:St}{H:Hp}{s:Shared}{R:It->Hp->Prop}{E:Value->Shared->Prop}{lo hi:Int}{t u v:Tok}{tk:Nat}(I:Inv X pins Z H s)(h1:-(2 ^ 62)<=lo)(h2:lo<2 ^ 62)(h3:-(2 ^ 62)<=hi)(h4:hi<2 ^ 62)(q:R (vF lo (hi-lo).toNat) H):wpAny (model X.prog X.w) X.A (pyIter (.ref s.heap.objs.size)) (Jm X pins Z tg R) E { s with heap:=s.heap.push { cls:=.type "range",data:=.fields #[.int lo t,.int hi u,.int 1 v] },toks:=tk }:=by
 refine wpAny_pyIter_range (IsRange.new ..) (small_one h1 h2 h3 h4) ?_;have I1:Inv X pins Z H { s with heap:=s.heap.push { cls:=.type "range",data:=.fields #[.int lo t,.int hi u,.int 1 v] },toks:=tk }:=I.kept λb o e=>aj _ e;refine ⟨(s.heap.push { cls:=.type "range",data:=.fields #[.int lo t,.int hi u,.int 1 v] }).objs.size,[(s.heap.push { cls:=.type "range",data:=.fields #[.int lo t,.int hi u,.int 1 v] }).objs.size],_,_,H,rfl,
  I1.kept (t':=tk) λb o e=>aj _ e,Ys _ lo (hi - lo).toNat,?_,λb hb=>?_,q⟩
 ·have e1:lo+((0:Nat):Int)*1=lo:=by simp
  have e2:(((hi-lo).toNat:Nat):Int)-((0:Nat):Int)=Builtin.Range.rangeSize lo hi 1:=by rw[rangeSize_one];split<;>omega
  show IsRangeIter _ _ (lo+((0:Nat):Int)*1) ((((hi-lo).toNat:Nat):Int)-((0:Nat):Int)) 1;rw[e1,e2];exact aA _ rfl
 ·have e:b=(s.heap.push { cls:=.type "range",data:=.fields #[.int lo t,.int hi u,.int 1 v] }).objs.size:=by simpa using hb
  subst e;exact I1.oS (av _) (I1.bC.fresh (av _))
def UP(ta:TA):TI:=λZ H R=>ta Z H λvs H1=>∃j:Int,vs=[.int j]/\-(2 ^ 62)<=j/\j<2 ^ 62/\R (vF 0 j.toNat) H1
def UQ(ta:TA):TI:=λZ H R=>ta Z H λvs H1=>∃i j:Int,vs=[.int i,.int j]/\(-(2 ^ 62)<=i/\i<2 ^ 62/\-(2 ^ 62)<=j/\j<2 ^ 62)/\R (vF i (j-i).toNat) H1
theorem Xo{a:Expr}{ta:TA}{p pos:Pos}(hg:Gl X "range")(hm:X.mg "range"=none)(ha:PA X [a] ta)(hs:starEach [a] X.env=[(false,eval a X.env)]:=by rfl):PI X tg (.Call (.Name "range" p) [a] [] pos) (UP ta):=by
 intro pins s Z H R I h;refine Call_ (K4 I hg hm boot_range (bz (bX (ha pos pins s Z H _ I h) λus s1 aZ=>?_) hs rfl));obtain⟨vs,H1,I1,r1,q1⟩:=aZ;obtain⟨j,e,q1,q2,q⟩:=q1;subst e;cases r1 with
 |cons r rr =>
  cases rr;obtain⟨t,rfl⟩:=r;exact call_range_1 (Fu I1 (by omega) (by omega) q1 q2 (by simpa using q))
theorem Xp{a b:Expr}{ta:TA}{p pos:Pos}(hg:Gl X "range")(hm:X.mg "range"=none)(ha:PA X [a,b] ta)(hs:starEach [a,b] X.env=[(false,eval a X.env),(false,eval b X.env)]:=by rfl)(iH:starEach [b] X.env=[(false,eval b X.env)]:=by rfl) :
  PI X tg (.Call (.Name "range" p) [a,b] [] pos) (UQ ta):=by
 intro pins s Z H R I h;refine Call_ (K4 I hg hm boot_range (bz (bX (ha pos pins s Z H _ I h) λus s1 aZ=>?_) (by rw[hs,iH]) (by rw[iH];rfl)));obtain⟨vs,H1,I1,r1,q1⟩:=aZ;obtain⟨i,j,e,⟨q1,q2,q3,q4⟩,q⟩:=q1;subst e;cases r1 with
 |cons r rr =>
  cases rr with
  |cons r' rr =>
   cases rr;obtain⟨t,rfl⟩:=r;obtain⟨t',rfl⟩:=r';exact call_range_2 (Fu I1 q1 q2 q3 q4 q)
def Uc(wi:TI)(g:TG)(tb:TS):TS:=λD Z H=>wi Z H λJ H1=>∃W:Nat->Nat->St->Hp->Prop,(∃m,W 0 m Z H1)/\∀i m Z H,W i m Z H ->
 (J.stop i H/\D.nx Z H)\/(J.go i H/\∃N:St->Hp->Prop,(∀bI H',N bI H'->∃m',m'<m/\W (i+1) m' bI H')/\∀x H',J.pj i H x H'->g x Z H' λbW H2=>tb { D with nx:=N,ct:=N,bk:=D.nx } bW H2)
def V5(fp:List Addr)(h:Heap):List (Addr×Obj):=fp.filterMap λb=>(h.get? b).map λo=>(b,o)
theorem O7{fp:List Addr}{h:Heap}{b:Addr}{o:Obj}(hb:b∈fp)(e:h.get? b=some o):(b,o)∈V5 fp h:=jx.mpr ⟨b,hb,by rw[e];rfl⟩
theorem Xd{fp:List Addr}{h:Heap}{p:Addr×Obj}(hp:p∈V5 fp h):p.1∈fp/\h.get? p.1=some p.2:=by
 obtain⟨b,hb,e⟩:=jx.mp hp;cases q:h.get? b with
 |none=>rw[q] at e;cases e
 |some o =>
  rw[q] at e;have e':(b,o)=p:=aJ e;subst e';exact⟨hb,q⟩
theorem Inv.pinned{pins:List (Addr×Obj)}{Z:St}{H:Hp}{s:Shared}{fp:List Addr}(I:Inv X pins Z H s)(hf:∀b∈fp,B4 X pins H b)(ho:∀b∈fp,∃o,s.heap.get? b=some o/\∀v,o.data≠.cell v):Inv X (pins++V5 fp s.heap) Z H s :=
 I.J5 λp hp=>(bg.mp hp).elim (λz=>I.pin p (bo _ z)) λz=>by
  obtain⟨hb,e⟩:=Xd z;obtain⟨f0,f1,f2,_⟩:=hf p.1 hb;obtain⟨o,e',d⟩:=ho p.1 hb;rw[e] at e';cases e';exact⟨e,f0,f1,f2,d⟩
theorem Inv.Bi{pins pl:List (Addr×Obj)}{Z:St}{H:Hp}{s:Shared}(I:Inv X (pins++pl) Z H s):Inv X pins Z H s:=I.J5 λp hp=>I.pin p (bo _ (dt _ hp))
theorem Pn{iter:Expr}{body:List Stmt}{wi:TI}{g:TG}{tb:TS}{pos:Pos}(hp:PassesOwn (model X.prog X.w) X.A X.env X.xe)(hc:X.calm=true)(hi:PI X tg iter wi)(hg:PG X tg g)(hb:iJ X body tb)(hs:∀x,foldedSetIterable iter X.env x=pure x:=by intro _;rfl):PS X (.For tg iter body [] pos) (Uc wi g tb):=by
 intro pins s Z H D I h;refine wpAny_For (bX (hi pins s Z H _ I h) λv s1 h1=>bX h1 λtP s2 h2=>?_) hs;obtain⟨it,fp,tn,J,H2,e,I2,T,ka,f2,W,⟨m0,w0⟩,turn⟩:=h2;subst e;have pA:∀{H':Hp},(∀b∈fp,H' b=none)->∀b∈fp,B4 X pins H' b:=λhn b hb=>⟨hn b hb,(f2 b hb).2⟩
 refine codeAny_forLoop_any (λn s'=>∃i bI H',Inv X pins bI H' s'/\tn i s'.heap/\(∀b∈fp,H' b=none)/\W i n bI H') ?_ m0 ⟨0,Z,H2,I2,ka,λb hb=>(f2 b hb).1,w0⟩;rintro n s3 ⟨i,gR,H3,I3,nX,oK,w3⟩;rcases turn i n gR H3 w3 with⟨stop,qn⟩|⟨go,N,hN,step⟩
 ·refine dq hp (bX (T.done X rfl rfl rfl hc i pins s3 gR H3 X.xe I3 (pA oK) nX stop) λr s4 ⟨hr,I4⟩=>?_);subst hr;exact jm ⟨gR,H3,I4,qn⟩
 ·refine dq hp (bX (T.item X rfl rfl rfl hc i pins s3 gR H3 X.xe I3 (pA oK) nX go) λr s4 ⟨u,hr,h4⟩=>?_);subst hr;refine dq hp (bX h4 λ_ s5 aZ=>?_);obtain⟨x,H5,I5,r5,y5,lK,uC⟩:=aZ;have vG:=I5.pinned (pA uC) (T.obj _ _ lK);refine dq hp (bX (hg _ s5 gR H5 x u _ vG r5 (step x H5 y5)) λ_ s6 aZ=>?_);obtain⟨kG,H6,I6,q6⟩:=aZ;refine dq hp (bX (hb _ s6 kG H6 _ I6 q6) λf s7 q7=>?_);have again:∀{lH:St} {H7:Hp},Inv X (pins++V5 fp s5.heap) lH H7 s7->N lH H7->∃m,m<n/\∃i bI H',Inv X pins bI H' s7/\tn i s7.heap/\(∀b∈fp,H' b=none)/\W i m bI H':=λ{lH H7} I7 n7=>by
   obtain⟨m',hm,w7⟩:=hN lH H7 n7;refine⟨m',hm,i+1,lH,H7,I7.Bi,T.keep _ _ _ lK λb hb o e=>(I7.pin (b,o) (bo _ (bo _ (O7 hb e)))).1,λb hb=>?_,w7⟩;obtain⟨o,e,d⟩:=T.obj _ _ lK b hb;exact(I7.pin (b,o) (bo _ (bo _ (O7 hb e)))).2.1
  cases f with
  |next=>obtain⟨lH,H7,I7,n7⟩:=q7;exact again I7 n7
  |cont=>obtain⟨lH,H7,I7,n7⟩:=q7;exact again I7 n7
  |brk=>obtain⟨lH,H7,I7,q7⟩:=q7;exact⟨lH,H7,I7.Bi,q7⟩
  |ret v=>obtain⟨x7,lH,H7,I7,r7,q7⟩:=q7;exact⟨x7,lH,H7,I7.Bi,r7,q7⟩
end
noncomputable abbrev R2:=V->V->Hp->VK->Prop
def eZ(X:Cx)(f:Value->Value->Sem Value)(r:R2):Prop :=
 ∀(pins:List (Addr×Obj)) (s:Shared) (Z:St) (H:Hp) (x y:V) (v u:Value) (Q:VK),Inv X pins Z H s->RelV x v->RelV y u->r x y H Q ->
  wpAny (model X.prog X.w) X.A (f v u) (EP X pins Z Q) X.xe s
def yb(X:Cx)(f:Value->Sem Value)(r:V->Hp->VK->Prop):Prop :=
 ∀(pins:List (Addr×Obj)) (s:Shared) (Z:St) (H:Hp) (x:V) (v:Value) (Q:VK),Inv X pins Z H s->RelV x v->r x H Q ->
  wpAny (model X.prog X.w) X.A (f v) (EP X pins Z Q) X.xe s
def k9(X:Cx)(f:Value)(r:List V->Hp->VK->Prop):Prop :=
 ∀(pins:List (Addr×Obj)) (s:Shared) (Z:St) (H:Hp) (xs:List V) (us:List Value) (Q:VK),Inv X pins Z H s->Vals xs us->r xs H Q ->
  wpAny (model X.prog X.w) X.A (call f us) (EP X pins Z Q) X.xe s
def SD(X:Cx)(r:V->Hp->(Bool->Hp->Prop)->Prop):Prop :=
 ∀(pins:List (Addr×Obj)) (s:Shared) (Z:St) (H:Hp) (x:V) (v:Value) (Q:Bool->Hp->Prop),Inv X pins Z H s->RelV x v->r x H Q ->
  wpAny (model X.prog X.w) X.A (truthy v) (TP X pins Z Q) X.xe s
def qO(r:R2)(ta tb:TE):TE:=λZ H Q=>ta Z H λx H1=>tb Z H1 λy H2=>r x y H2 Q
def JN(r:V->Hp->VK->Prop)(ta:TE):TE:=λZ H Q=>ta Z H λx H1=>r x H1 Q
def rI(C:Int->Int->Prop)(g:Int->Int->V):R2:=λx y H Q=>∃i j,x=.int i/\y=.int j/\C i j/\Q (g i j) H
def lq(g:Int->Int->V):R2:=λx y H Q=>∃i j,x=.int i/\y=.int j/\Q (g i j) H
def rU(g:Int->V):V->Hp->VK->Prop:=λx H Q=>∃i,x=.int i/\Q (g i) H
section
variable{X:Cx}{a b c:Expr}{ta tb tc:TE}{pos:Pos}
theorem Cp(ha:PE X a ta)(hb:PE X b tb){pins:List (Addr×Obj)}{s:Shared}{Z:St}{H:Hp}{R:V->V->Hp->Prop}(I:Inv X pins Z H s)(h:ta Z H λx H1=>tb Z H1 λy H2=>R x y H2){Q:Value->Shared->Prop}{f:Value->Value->Sem Value}(hf:∀v u s2 x y H2,Inv X pins Z H2 s2->RelV x v->RelV y u->R x y H2->wpAny (model X.prog X.w) X.A (f v u) Q X.xe s2) :
  wpAny (model X.prog X.w) X.A (eval a X.env) (λv bK=>wpAny (model X.prog X.w) X.A (eval b X.env) (λu fm=>wpAny (model X.prog X.w) X.A (f v u) Q X.xe fm) X.xe bK) X.xe s:=by
 refine bX (ha pins s Z H _ I h) λv s1 aZ=>?_;obtain⟨x,H1,I1,r1,q1⟩:=aZ;refine bX (hb pins s1 Z H1 _ I1 q1) λu s2 aZ=>?_;obtain⟨y,H2,I2,r2,q2⟩:=aZ;exact hf v u s2 x y H2 I2 r1 r2 q2
theorem Vu{op:Operator}{r:R2}(ho:eZ X (binaryOp op) r)(ha:PE X a ta)(hb:PE X b tb):PE X (.BinOp a op b pos) (qO r ta tb):=by
 intro pins s Z H Q I h;exact wpAny_BinOp (Cp ha hb I h λv u s2 x y H2 I2 rx ry q=>ho pins s2 Z H2 x y v u Q I2 rx ry q)
theorem Nc{op:UnaryOp}{r:V->Hp->VK->Prop}(ho:yb X (unaryOp op) r)(ha:PE X a ta):PE X (.UnaryOp op a pos) (JN r ta):=by
 intro pins s Z H Q I h;exact UnaryOp_ (bX (ha pins s Z H _ I h) λv s1 ⟨x,H1,I1,r1,q1⟩=>ho pins s1 Z H1 x v Q I1 r1 q1)
theorem sV{f:Value->Value->Sem Value}{C:Int->Int->Prop}{g:Int->Int->Int}(rule:∀(i j:Int) (t u:Tok) (s:Shared) (Q:Value->Shared->Prop) (E:Value->Shared->Prop),C i j->Q (.int (g i j) s.toks) { s with toks:=s.toks+1 }->wpAny (model X.prog X.w) X.A (f (.int i t) (.int j u)) Q E s) :
  eZ X f (rI C λi j=>.int (g i j)):=by
 intro pins s Z H x y v u Q I rx ry h;obtain⟨i,j,rfl,rfl,hc,q⟩:=h;obtain⟨t,rfl⟩:=rx;obtain⟨t',rfl⟩:=ry;exact rule i j t t' s _ _ hc ⟨.int (g i j),H,I.tok _,⟨_,rfl⟩,q⟩
theorem rL{f:Value->Value->Sem Value}{g:Int->Int->Int}(rule:∀(i j:Int) (t u:Tok) (s:Shared) (Q:Value->Shared->Prop) (E:Value->Shared->Prop),Q (.int (g i j) s.toks) { s with toks:=s.toks+1 }->wpAny (model X.prog X.w) X.A (f (.int i t) (.int j u)) Q E s) :
  eZ X f (lq λi j=>.int (g i j)):=by
 intro pins s Z H x y v u Q I rx ry h;obtain⟨i,j,rfl,rfl,q⟩:=h;obtain⟨t,rfl⟩:=rx;obtain⟨t',rfl⟩:=ry;exact rule i j t t' s _ _ ⟨.int (g i j),H,I.tok _,⟨_,rfl⟩,q⟩
theorem xX{f:Value->Value->Sem Value}{g:Int->Int->Bool}(rule:∀(i j:Int) (t u:Tok) (s:Shared) (Q:Value->Shared->Prop) (E:Value->Shared->Prop),Q (.bool (g i j)) s->wpAny (model X.prog X.w) X.A (f (.int i t) (.int j u)) Q E s) :
  eZ X f (lq λi j=>.bl (g i j)):=by
 intro pins s Z H x y v u Q I rx ry h;obtain⟨i,j,rfl,rfl,q⟩:=h;obtain⟨t,rfl⟩:=rx;obtain⟨t',rfl⟩:=ry;exact rule i j t t' s _ _ ⟨.bl (g i j),H,I,rfl,q⟩
def Cj(i j:Int):Prop:=0<j/\j<1073741824
def V2(i j:Int):Prop:=0<=j/\j<=1000000/\i.natAbs<2 ^ 64
def qp(i j:Int):Prop:=(-(2 ^ 64)<i/\i<2 ^ 64)\/(-(2 ^ 64)<j/\j<2 ^ 64)
theorem qp.ok{i j:Int}(h:qp i j):IntMulOk i j:=by
 rcases h with⟨h1,h2⟩|⟨h1,h2⟩
 ·exact .of_left (intBits_le_64 h1 h2)
 ·exact .of_right (intBits_le_64 h1 h2)
theorem OK:eZ X (binaryOp .Add) (lq λi j=>.int (i+j)):=rL λ_ _ _ _ _ _ _ q=>add_int q
theorem OU:eZ X (binaryOp .Sub) (lq λi j=>.int (i-j)):=rL λ_ _ _ _ _ _ _ q=>sub_int q
theorem OQ:eZ X (binaryOp .Mult) (rI qp λi j=>.int (i*j)):=sV λ_ _ _ _ _ _ _ hc q=>mul_int q hc.ok
theorem Rn:eZ X (binaryOp .FloorDiv) (rI Cj λi j=>.int (i / j)):=sV λi j _ _ _ _ _ hc q=>by
 have h1:(0:Int)<j:=hc.1;have h2:j<1073741824:=hc.2;exact floordiv_int (by omega) (by rw[Int.fdiv_eq_ediv_of_nonneg i (by omega)];exact q) (.inl (PyProof.noPylong_small (by omega)))
theorem OP:eZ X (binaryOp .Mod) (rI (λ_ j=>0<j) λi j=>.int (i % j)):=sV λi j _ _ _ _ _ hc q=>by
 have h1:(0:Int)<j:=hc;exact mod_int' (by omega) (by rw[Int.fmod_eq_emod_of_nonneg i (by omega)];exact q)
theorem OR:eZ X (binaryOp .Pow) (rI V2 λi j=>.int (i ^ j.toNat)):=sV λ_ _ _ _ _ _ _ hc q=>pow_int_small hc.1 hc.2.1 hc.2.2 q
theorem OT:eZ X (binaryOp .LShift) (rI V2 λi j=>.int (i*2 ^ j.toNat)):=sV λ_ _ _ _ _ _ _ hc q=>lshift_int_small hc.1 hc.2.1 hc.2.2 q
theorem OL:eZ X (binaryOp .BitAnd) (lq λi j=>.int (Builtin.bitAnd i j)):=rL λ_ _ _ _ _ _ _ q=>and_int q
theorem Vo:eZ X (binaryOp .BitOr) (lq λi j=>.int (Builtin.bitOr i j)):=rL λ_ _ _ _ _ _ _ q=>or_int q
theorem QW:eZ X (inplaceOp .Add) (lq λi j=>.int (i+j)):=rL λ_ _ _ _ _ _ _ q=>iadd_int q
theorem QX:eZ X (inplaceOp .Sub) (lq λi j=>.int (i-j)):=rL λ_ _ _ _ _ _ _ q=>isub_int q
theorem JL{f:Value->Sem Value}{g:Int->Int}(rule:∀(i:Int) (t:Tok) (s:Shared) (Q:Value->Shared->Prop) (E:Value->Shared->Prop),Q (.int (g i) s.toks) { s with toks:=s.toks+1 }->wpAny (model X.prog X.w) X.A (f (.int i t)) Q E s) :
  yb X f (rU λi=>.int (g i)):=by
 intro pins s Z H x v Q I rx h;obtain⟨i,rfl,q⟩:=h;obtain⟨t,rfl⟩:=rx;exact rule i t s _ _ ⟨.int (g i),H,I.tok _,⟨_,rfl⟩,q⟩
theorem QA:yb X (unaryOp .USub) (rU λi=>.int (-i)):=JL λ_ _ _ _ _ q=>neg_int q
end
def Fg:V->V->Bool
 |.bx,.bx=>true|.bx,.int _=>true|.int _,.bx=>true|.bx,.bl _=>true|.bl _,.bx=>true|.bx,.str _=>true|.str _,.bx=>true
 |.int _,.int _=>true|.bl _,.bl _=>true|.str _,.str _=>true|.ky _,.ky _=>true
 |.int _,.str _=>true|.str _,.int _=>true|.bl _,.str _=>true|.str _,.bl _=>true
 |_,_=>false
def Kc:R2:=λx y H Q=>Fg x y=true/\Q (.bl (decide (x=y))) H
def Kb:R2:=λx y H Q=>Fg x y=true/\Q (.bl (!decide (x=y))) H
theorem xE{i j:Int}:decide (V.int i=V.int j)=(i==j):=by
 rw[bh];simp
theorem xk{i j:Bool}:decide (V.bl i=V.bl j)=(i==j):=by
 rw[bh];simp
theorem xF{i j:Str}:decide (V.str i=V.str j)=(i==j):=by
 rw[bh];simp
theorem HG{i j:Array UInt8}:decide (V.ky i=V.ky j)=(i.toList==j.toList):=by
 rw[bh];cases i;cases j;simp
section
variable{X:Cx}{a b c:Expr}{ta tb tc:TE}{pos:Pos}
theorem i7{pins:List (Addr×Obj)}{Z:St}{H:Hp}{s:Shared}{Q:VK}{k k':Bool}(I:Inv X pins Z H s)(q:Q (.bl k) H)(e:k=k'):EP X pins Z Q (.bool k') s:=by
 subst e;exact⟨.bl k,H,I,rfl,q⟩
theorem BJ:eZ X (compareOp .Eq) Kc:=by
 intro pins s Z H x y v u Q I rx ry h;obtain⟨hs,q⟩:=h;cases x with
 |bx =>
  cases rx;cases y with
  |bx=>cases ry;exact PySem.EqNone.eq_none_none (i7 I q (by simp))
  |bl j=>cases ry;exact PySem.EqNone.eq_none_bool (i7 I q (by simp))
  |int j=>obtain⟨t',rfl⟩:=ry;exact PySem.EqNone.eq_none_int (i7 I q (by simp))
  |str j=>obtain⟨t',rfl⟩:=ry;exact PySem.EqNone.eq_none_str (i7 I q (by simp))
  |_=>exact absurd (show false=true from hs) Bool.false_ne_true
 |bl i =>
  cases rx;cases y with
  |bx=>cases ry;exact PySem.EqNone.eq_bool_none (i7 I q (by simp))
  |bl j=>cases ry;exact eq_bool (i7 I q xk)
  |str j=>obtain⟨t',rfl⟩:=ry;exact PySem.EqMixed.eq_bool_str (i7 I q (by simp))
  |_=>exact absurd (show false=true from hs) Bool.false_ne_true
 |int i =>
  obtain⟨t,rfl⟩:=rx;cases y with
  |bx=>cases ry;exact PySem.EqNone.eq_int_none (i7 I q (by simp))
  |int j=>obtain⟨t',rfl⟩:=ry;exact eq_int (i7 I q xE)
  |str j=>obtain⟨t',rfl⟩:=ry;exact PySem.EqMixed.eq_int_str (i7 I q (by simp))
  |_=>exact absurd (show false=true from hs) Bool.false_ne_true
 |str i =>
  obtain⟨t,rfl⟩:=rx;cases y with
  |bx=>cases ry;exact PySem.EqNone.eq_str_none (i7 I q (by simp))
  |bl j=>cases ry;exact PySem.EqMixed.eq_str_bool (i7 I q (by simp))
  |int j=>obtain⟨t',rfl⟩:=ry;exact PySem.EqMixed.eq_str_int (i7 I q (by simp))
  |str j=>obtain⟨t',rfl⟩:=ry;exact eq_str (i7 I q xF)
  |_=>exact absurd (show false=true from hs) Bool.false_ne_true
 |ky i =>
  obtain⟨t,rfl⟩:=rx;cases y with
  |ky j=>obtain⟨t',rfl⟩:=ry;exact PySem.W.eq_bytes (i7 I q HG)
  |_=>exact absurd (show false=true from hs) Bool.false_ne_true
 |_=>cases y<;>exact absurd (show false=true from hs) cZ
theorem BK:eZ X (compareOp .NotEq) Kb:=by
 intro pins s Z H x y v u Q I rx ry h;obtain⟨hs,q⟩:=h;cases x with
 |bx =>
  cases rx;cases y with
  |bx=>cases ry;exact PySem.EqNone.ne_none_none (i7 I q (by simp))
  |bl j=>cases ry;exact PySem.EqNone.ne_none_bool (i7 I q (by simp))
  |int j=>obtain⟨t',rfl⟩:=ry;exact PySem.EqNone.ne_none_int (i7 I q (by simp))
  |str j=>obtain⟨t',rfl⟩:=ry;exact PySem.EqNone.ne_none_str (i7 I q (by simp))
  |_=>exact absurd (show false=true from hs) Bool.false_ne_true
 |bl i =>
  cases rx;cases y with
  |bx=>cases ry;exact PySem.EqNone.ne_bool_none (i7 I q (by simp))
  |bl j=>cases ry;exact ne_bool (i7 I q (congrArg not xk))
  |str j=>obtain⟨t',rfl⟩:=ry;exact PySem.EqMixed.ne_bool_str (i7 I q (by simp))
  |_=>exact absurd (show false=true from hs) Bool.false_ne_true
 |int i =>
  obtain⟨t,rfl⟩:=rx;cases y with
  |bx=>cases ry;exact PySem.EqNone.ne_int_none (i7 I q (by simp))
  |int j=>obtain⟨t',rfl⟩:=ry;exact ne_int (i7 I q (congrArg not xE))
  |str j=>obtain⟨t',rfl⟩:=ry;exact PySem.EqMixed.ne_int_str (i7 I q (by simp))
  |_=>exact absurd (show false=true from hs) Bool.false_ne_true
 |str i =>
  obtain⟨t,rfl⟩:=rx;cases y with
  |bx=>cases ry;exact PySem.EqNone.ne_str_none (i7 I q (by simp))
  |bl j=>cases ry;exact PySem.EqMixed.ne_str_bool (i7 I q (by simp))
  |int j=>obtain⟨t',rfl⟩:=ry;exact PySem.EqMixed.ne_str_int (i7 I q (by simp))
  |str j=>obtain⟨t',rfl⟩:=ry;exact ne_str (i7 I q (congrArg not xF))
  |_=>exact absurd (show false=true from hs) Bool.false_ne_true
 |ky i =>
  obtain⟨t,rfl⟩:=rx;cases y with
  |ky j=>obtain⟨t',rfl⟩:=ry;exact PySem.W.ne_bytes (i7 I q (congrArg not HG))
  |_=>exact absurd (show false=true from hs) Bool.false_ne_true
 |_=>cases y<;>exact absurd (show false=true from hs) cZ
theorem Vn:eZ X (compareOp .Lt) (lq λi j=>.bl (decide (i<j))):=xX λ_ _ _ _ _ _ _ q=>lt_int q
theorem Vm:eZ X (compareOp .LtE) (lq λi j=>.bl (decide (i<=j))):=xX λ_ _ _ _ _ _ _ q=>le_int q
theorem Vl:eZ X (compareOp .Gt) (lq λi j=>.bl (decide (j<i))):=xX λ_ _ _ _ _ _ _ q=>gt_int q
theorem Vk:eZ X (compareOp .GtE) (lq λi j=>.bl (decide (j<=i))):=xX λ_ _ _ _ _ _ _ q=>ge_int q
theorem OO:eZ X (compareOp .Is) (λx y H Q=>y=.bx/\Q (.bl (decide (x=.bx))) H):=by
 intro pins s Z H x y v u Q I rx ry h;obtain⟨rfl,q⟩:=h;cases ry;refine is_none_gen (i7 I q ?_);cases x<;>first
  |(cases rx;rfl)
  |(obtain⟨t,rfl⟩:=rx;rfl)
theorem Ro:eZ X (compareOp .IsNot) (λx y H Q=>y=.bx/\Q (.bl (!decide (x=.bx))) H):=by
 intro pins s Z H x y v u Q I rx ry h;obtain⟨rfl,q⟩:=h;cases ry;refine isnot_none_gen (i7 I q ?_);cases x<;>first
  |(cases rx;rfl)
  |(obtain⟨t,rfl⟩:=rx;rfl)
theorem HV{op:CmpOp}{r:R2}(ho:eZ X (compareOp op) r)(ha:PE X a ta)(hb:PE X b tb)(hm:behindInMarks op b=false):PE X (.Compare a [op] [b] pos) (qO r ta tb):=by
 intro pins s Z H Q I h;exact wpAny_Compare1 (Cp ha hb I h λv u s2 x y H2 I2 rx ry q=>ho pins s2 Z H2 x y v u Q I2 rx ry q) hm
def BS(t:TE):TT:=λZ H Q=>t Z H λx H'=>∃k,x=.bl k/\Q k H'
theorem HZ{op:CmpOp}{r:R2}(ho:eZ X (compareOp op) r)(ha:PE X a ta)(hb:PE X b tb)(hm:behindInMarks op b=false):PT X (.Compare a [op] [b] pos) (BS (qO r ta tb)):=by
 intro pins s Z H Q I h;refine wpAny_isTrue_Compare1 (bX (ha pins s Z H _ I h) λv s1 ⟨x,H1,I1,r1,q1⟩=>bX (hb pins s1 Z H1 _ I1 q1) λu s2 ⟨y,H2,I2,r2,q2⟩ =>
  bX (ho pins s2 Z H2 x y v u _ I2 r1 r2 q2) λc s3 ⟨z,H3,I3,r3,k,e,q3⟩=>?_) hm
 subst e;cases r3;exact bZ ⟨H3,I3,q3⟩
def Ay(r r':R2)(ta tb tc:TE):TE:=λZ H Q=>ta Z H λx H1=>tb Z H1 λy H2=>r x y H2 λz H3=>∃k,z=.bl k /\
 (if k=true then tc Z H3 λw' H4=>r' y w' H4 Q else Q (.bl false) H3)
theorem ZH{op gO:CmpOp}{r r':R2}(ho:eZ X (compareOp op) r)(lX:eZ X (compareOp gO) r')(ha:PE X a ta)(hb:PE X b tb)(hc:PE X c tc)(hm:lastMarks [op,gO] [b,c]=false:=by with_unfolding_all rfl):PE X (.Compare a [op,gO] [b,c] pos) (Ay r r' ta tb tc):=by
 intro pins s Z H Q I h;refine Compare_chain (bX (ha pins s Z H _ I h) λv s1 ⟨x,H1,I1,r1,q1⟩=>chain_link (bX (hb pins s1 Z H1 _ I1 q1) λu s2 ⟨y,H2,I2,r2,q2⟩ =>
  bX (ho pins s2 Z H2 x y v u _ I2 r1 r2 q2) λd s3 ⟨z,H3,I3,r3,k,e,q3⟩=>?_)) hm
 subst e;cases r3;refine bZ ?_;cases k with
 |false=>exact ite_ff ⟨.bl false,H3,I3,rfl,q3⟩
 |true=>exact ite_tt (chain_last (bX (hc pins s3 Z H3 _ I3 q3) λw' s4 ⟨z',H4,I4,r4,q4⟩=>lX pins s4 Z H4 y z' u w' Q I4 r2 r4 q4))
theorem ZT{op gO:CmpOp}{r r':R2}(ho:eZ X (compareOp op) r)(lX:eZ X (compareOp gO) r')(ha:PE X a ta)(hb:PE X b tb)(hc:PE X c tc)(hm:lastMarks [op,gO] [b,c]=false:=by with_unfolding_all rfl):PT X (.Compare a [op,gO] [b,c] pos) (BS (Ay r r' ta tb tc)):=by
 intro pins s Z H Q I h;refine isTrue_chain (bX (ha pins s Z H _ I h) λv s1 ⟨x,H1,I1,r1,q1⟩=>test_link (bX (hb pins s1 Z H1 _ I1 q1) λu s2 ⟨y,H2,I2,r2,q2⟩ =>
  bX (ho pins s2 Z H2 x y v u _ I2 r1 r2 q2) λd s3 ⟨z,H3,I3,r3,k,e,q3⟩=>?_)) hm
 subst e;cases r3;refine bZ ?_;cases k with
 |false =>
  obtain⟨k',e',q'⟩:=q3;cases e';exact ite_ff ⟨H3,I3,q'⟩
 |true =>
  refine ite_tt (test_last (bX (hc pins s3 Z H3 _ I3 q3) λw' s4 ⟨z',H4,I4,r4,q4⟩=>bX (lX pins s4 Z H4 y z' u w' _ I4 r2 r4 q4) λd' s5 aZ=>?_));obtain⟨z2,H5,I5,r5,k2,e2,q5⟩:=aZ;subst e2;cases r5;exact bZ ⟨H5,I5,q5⟩
def Cn(K:PySem.W.Frag)(x:V)(H:Hp)(k:Bool):Prop :=
 match x with
 |.bx=>k=false
 |.bl b=>k=b
 |.int i=>k=(i != 0)
 |.str y=>y.length<=sizeLine/\k=((y.length:Int) != 0)
 |.ky y=>y.size<=sizeLine/\k=((y.size:Int) != 0)
 |.ref p=>(∃xs,fh K H p xs/\k=!xs.isEmpty)\/(∃xs,gU K H p xs/\k=!xs.isEmpty)\/∃kvs,H p=some (.dK kvs)/\k=!kvs.isEmpty
 |_=>False
theorem XX{κ:Type}{kvs:List (κ×V)}{vs:List (κ×Value)}(r:KV kvs vs):(!vs.isEmpty)=!kvs.isEmpty:=by
 cases r<;>rfl
theorem Gv{xs:List V}{aQ:List Value}(r:Vals xs aQ):(!aQ.toArray.isEmpty)=!xs.isEmpty:=by
 cases r<;>simp
theorem R5:(sizeLine:Nat)<2 ^ 63:=by rw[jW];decide
theorem Qy:SD X (λx H Q=>∃k,Cn X.K x H k/\Q k H):=by
 intro pins s Z H x v Q I rx h;obtain⟨k,e,q⟩:=h;have hl:=R5;have hs:sizeLine=16777216:=jW;cases x with
 |bx =>
  cases rx;have e':k=false:=e;subst e';exact truthy_none ⟨H,I,q⟩
 |bl b =>
  cases rx;have e':k=b:=e;subst e';exact bZ ⟨H,I,q⟩
 |int i =>
  obtain⟨t,rfl⟩:=rx;have e':k=(i != 0):=e;subst e';exact PySem.P.truthy_int ⟨H,I,q⟩
 |str y =>
  obtain⟨t,rfl⟩:=rx;obtain⟨hy,e'⟩:y.length<=sizeLine/\k=((y.length:Int) != 0):=e;subst e';exact PySem.P.truthy_str (by omega) ⟨H,I.tok _,q⟩
 |ky y =>
  obtain⟨t,rfl⟩:=rx;obtain⟨hy,e'⟩:y.size<=sizeLine/\k=((y.size:Int) != 0):=e;subst e';exact PySem.W.truthy_bytes (by omega) ⟨H,I.tok _,q⟩
 |ref p =>
  cases rx;have e':(∃xs,fh X.K H p xs/\k=!xs.isEmpty)\/(∃xs,gU X.K H p xs/\k=!xs.isEmpty)\/∃kvs,H p=some (.dK kvs)/\k=!kvs.isEmpty:=e;rcases e' with⟨xs,hx,e'⟩|⟨xs,hx,e'⟩|⟨kvs,hx,e'⟩
  ·subst e';obtain⟨aQ,r,pl,hz⟩:=I.list hx;have hlen:=r.length;exact wpAny_truthy_list pl.isList (by simp only[List.size_toArray];omega) ⟨H,I.tok _,by rw[Gv r];exact q⟩
  ·subst e';obtain⟨aQ,r,pl,hz⟩:=I.tuple hx;have hlen:=r.length;exact truthy_tuple pl (by simp only[List.size_toArray];omega) ⟨H,I.tok _,by rw[Gv r];exact q⟩
  ·subst e';obtain⟨hz,hS,vs,r,m⟩:kvs.length<=sizeLine/\(p==sysModules)=false/\∃vs,KV kvs vs/\s.heap.DictOf (n9 X.prog X.w) p vs:=I.bC p _ hx;have hlen:kvs.length=vs.length:=kX r;exact wpAny_truthy_dict hS m (by omega) ⟨H,I.tok _,by rw[XX r];exact q⟩
 |_=>exact(show False from e).elim
theorem ZU(ha:PE X a ta)(he:∀whole,isTrue a X.env whole=(do let v <- whole;standAt a.pos;holding [v] (truthy v))) :
  PT X a (λZ H Q=>ta Z H λx H'=>∃k,Cn X.K x H' k/\Q k H'):=by
 intro pins s Z H Q I h;exact isTrue_plain (bX (ha pins s Z H _ I h) λv s1 ⟨x,H1,I1,r1,q1⟩=>Qy pins s1 Z H1 x v Q I1 r1 q1) (he _)
theorem Yh:eZ X (binaryOp .Add) (λx y H Q=>∃i j,x=.str i/\y=.str j/\i.length+j.length<=sizeLine/\Q (.str (i++j)) H):=by
 intro pins s Z H x y v u Q I rx ry h;obtain⟨i,j,rfl,rfl,hz,q⟩:=h;obtain⟨t,rfl⟩:=rx;obtain⟨t',rfl⟩:=ry;exact add_str (λt' tk=>⟨.str (i++j),H,I.tok _,⟨_,rfl⟩,q⟩) hz
theorem vals1{x:V}{us:List Value}(r:Vals [x] us):∃u,us=[u]/\RelV x u:=by
 cases r with
 |cons r1 r2=>cases r2;exact⟨_,rfl,r1⟩
theorem vals2{x y:V}{us:List Value}(r:Vals [x,y] us):∃u w',us=[u,w']/\RelV x u/\RelV y w':=by
 cases r with
 |cons r1 r2 =>
  cases r2 with
  |cons r3 r4=>cases r4;exact⟨_,_,rfl,r1,r3⟩
theorem WC(hc:X.calm=true):k9 X (.builtin "max") (λxs H Q=>∃i j,xs=[.int i,.int j]/\Q (.int (if j>i then j else i)) H):=by
 intro pins s Z H xs us Q I r h;obtain⟨i,j,rfl,q⟩:=h;obtain⟨u,w',rfl,⟨t,rfl⟩,⟨t',rfl⟩⟩:=vals2 r;refine max_two_ints (I.ok.hd hc) λh' tk k=>⟨_,H,I.kept k,?_,q⟩
 by_cases hj:j>i
 ·rw[aH hj,aH hj];exact⟨_,rfl⟩
 ·rw[az hj,az hj];exact⟨_,rfl⟩
theorem WE(hc:X.calm=true):k9 X (.builtin "min") (λxs H Q=>∃i j,xs=[.int i,.int j]/\Q (.int (if j<i then j else i)) H):=by
 intro pins s Z H xs us Q I r h;obtain⟨i,j,rfl,q⟩:=h;obtain⟨u,w',rfl,⟨t,rfl⟩,⟨t',rfl⟩⟩:=vals2 r;refine min_two_ints (I.ok.hd hc) λh' tk k=>⟨_,H,I.kept k,?_,q⟩
 by_cases hj:j<i
 ·rw[aH hj,aH hj];exact⟨_,rfl⟩
 ·rw[az hj,az hj];exact⟨_,rfl⟩
theorem FL:k9 X (.type "int") (λxs H Q=>(∃i,xs=[.int i]/\Q (.int i) H)\/∃k,xs=[.bl k]/\Q (.int (if k then 1 else 0)) H):=by
 intro pins s Z H xs us Q I r h;rcases h with⟨i,rfl,q⟩|⟨k,rfl,q⟩
 ·obtain⟨u,rfl,t,rfl⟩:=vals1 r;exact call_int_int ⟨.int i,H,I,⟨_,rfl⟩,q⟩
 ·obtain⟨u,rfl,r1⟩:=vals1 r;cases r1;exact call_int_bool ⟨.int (if k then 1 else 0),H,I.tok _,⟨_,rfl⟩,q⟩
end
structure rF(h:Heap)(x dx C:Addr)(mA:Str->Option Value):Prop where
 obj:h.get? x=some (PySem.W.instObj C dx)
 ns:h.Ns1 dx mA
 ne:dx≠x
theorem FX{h:Heap}{dx:Addr}{mA:Str->Option Value}(n:h.Ns1 dx mA):∃od,h.get? dx=some od/\∀name,PySem.W.lookIn name od=some (mA name):=by
 obtain⟨o,es,ep,ho,hd,hk,_,hm⟩:=n;refine⟨o,ho,λname=>?_⟩;have e:=hm name;unfold nsFind findBy at e;rw[<- Array.find?_toList] at e;unfold PySem.W.lookIn;rw[hd];dsimp only;split
 ·rename_i y q;rw[q] at e;exact gA some e
 ·rename_i q;rw[q] at e;have a:es.toList.any (·.refKey)=false:=by
   rw[List.any_eq_false];intro y hy;obtain⟨z,t,jL⟩:=hk y (Array.mem_toList_iff.mp hy);simp[DictEntry.refKey,jL]
  have a':¬es.toList.any (·.refKey)=true:=by rw[a];exact cZ
  rw[az a'];exact gA some e
theorem rF.look{h:Heap}{x dx C:Addr}{mA:Str->Option Value}(I:rF h x dx C mA):∃od,PySem.W.InstAt h x (PySem.W.instObj C dx) C (some od)/\∀name,PySem.W.lookIn name od=some (mA name) :=
 let ⟨od,ho,hl⟩:=FX I.ns
 ⟨od,⟨I.obj,rfl,rfl,ho⟩,hl⟩
section
variable{prog:Program}{w:World}{A:Around}{E:Value->Shared->Prop}{s:Shared}{K:PySem.W.Frag}{x dx C f:Addr}{mA:Str->Option Value}{name:Str}{v:Value}
theorem get_map{expr:Bool}{Q:Value->Shared->Prop}(X:K.In s.heap)(I:rF s.heap x dx C mA)(hg:PySem.W.plainGet K C name=true)(hh:PySem.W.hasDictIn K C=true)(ha:PySem.W.findIn K (.ref C) name=some none)(hv:mA name=some v)(yS:PySem.W.handedIn v=true)(h:Q v { s with toks:=s.toks+1 }) :
  wpAny (model prog w) A (getAttr (.ref x) name expr) Q E s:=by
 obtain⟨od,J,hl⟩:=I.look;exact PySem.W.get_value X J (PySem.W.plainGet_of hg).1 (PySem.W.findObj_own hh ha rfl (by rw[hl,hv])) yS h
theorem Sb{ns:List Str}{Q:Unit->Shared->Prop}(X:K.In s.heap)(I:rF s.heap x dx C mA)(hs:PySem.W.findIn K (.ref C) "__setattr__"=some (some (.builtin "object.__setattr__")))(hp:PySem.W.plainOver K C=true)(ht:PySem.W.takerIn K C name=some none)(hh:PySem.W.hasDictIn K C=true)(hw:PySem.Within mA ns)(hsz:ns.length<=sizeLine)(h:∀h',rF h' x dx C (λy=>if y=name then some v else mA y)->Heap.SameBut dx s.heap h'->Q () { s with heap:=h',toks:=s.toks+2 }) :
  wpAny (model prog w) A (setAttr (.ref x) name v) Q E s:=by
 obtain⟨od,J,hl⟩:=I.look;refine PySem.W.set_plain X J hs (PySem.W.osa_open (s:={ s with toks:=s.toks+1 }) (r:=none) X J hp ht λb=>?_);obtain⟨cd,hc,zq⟩:=PySem.W.any_some hh;have hx:s.heap.get? x=some ⟨.ref C,some dx,.plain,#[]⟩:=I.obj;refine ae (ai (ae (ae (wpAny_loadPart hx (ae (PySem.W.Looks.here (s:={ s with toks:=s.toks+1 }) (PySem.W.looks_clsIn X hc) ?_))))));rw[zq];refine ai (a:=some dx) (ae (ai (ae ?_)));refine wpAny_nsSet1 (s:={ s with toks:=s.toks+1 }) I.ns λh' ox iH=>?_;obtain⟨oD,esD,epD,KR,Lu,Lw⟩:=ox.count (PySem.Within.cons name v hw);refine ae (wpAny_lookBehind KR (by rw[Lu];exact pastItsLine_dict (aC Lw (by rw[cP];omega))) ?_);exact ai (h _ ⟨(iH.2 _ (bA I.ne)).trans I.obj,ox,I.ne⟩ iH)
theorem Zy{R:Result->Shared->Prop}{vs:List Value}{kw:List (Str×Value)}(X:K.In s.heap)(hm:PySem.W.makesIn K C=true)(hi:PySem.W.findIn K (.ref C) "__init__"=some (some (.ref f)))(hf:PySem.W.typeIn K (.ref f)=some (.type "function"))(h:codeAny (model prog w) (A.under (.builtin "type.__call__" ⟨.ref C :: vs,kw⟩)) (.call (.ref f) ⟨.ref (s.heap.objs.size + 1) :: vs,kw⟩) (PySem.W.InitBack (s.heap.objs.size + 1) R)
   { s with heap:=(s.heap.push PySem.W.emptyDict).push (PySem.W.instObj C s.heap.objs.size) }) :
  codeAny (model prog w) A (.call (.ref C) ⟨vs,kw⟩) R s:=by
 obtain⟨hh,g,d,t,os⟩:=s;exact PySem.W.make_core (PySem.W.makes_of X hm) (PySem.W.looks_findIn X hi) (λself=>PySem.W.bind_fn X self hf) (.inl rfl) h
end
def A2(f:Str)(v:V):List (Str×V)->List (Str×V)
 |[]=>[(f,v)]
 |(g,x)::r=>if g=f then(g,v)::r else(g,x)::A2 f v r
theorem GK(f g:Str)(v:V):∀fs:List (Str×V),(A2 f v fs).lookup g=if g=f then some v else fs.lookup g
 |[]=>by
  show List.lookup g [(f,v)]=_;by_cases h:g=f
  ·have hb:(g==f)=true:=eV.mpr h;simp only[List.lookup,hb,if_pos h]
  ·have hb:(g==f)=false:=cM.mpr h;simp only[List.lookup,hb,if_neg h]
 |(k,x)::r=>by
  have ih:=GK f g v r;rw[show A2 f v ((k,x)::r)=(if k=f then(k,v)::r else(k,x)::A2 f v r) from rfl];by_cases hk:k=f
  ·rw[aH hk];by_cases h:g=k
   ·have hb:(g==k)=true:=eV.mpr h;simp only[List.lookup,hb,if_pos (h.trans hk)]
   ·have hb:(g==k)=false:=cM.mpr h;simp only[List.lookup,hb,if_neg (λe:g=f=>h (e.trans hk.symm))]
  ·rw[az hk];by_cases h:g=k
   ·have hb:(g==k)=true:=eV.mpr h;simp only[List.lookup,hb,if_neg (λe:g=f=>hk (h.symm.trans e))]
   ·have hb:(g==k)=false:=cM.mpr h;simp only[List.lookup,hb];exact ih
theorem Bm(f:Str)(v:V):∀fs:List (Str×V),f∈(A2 f v fs).map (·.1)/\∀g,g∈fs.map (·.1)->g∈(A2 f v fs).map (·.1)
 |[]=>⟨by simp[A2],λg h=>by simp at h⟩
 |(k,x)::r=>by
  obtain⟨i1,i2⟩:=Bm f v r;rw[show A2 f v ((k,x)::r)=(if k=f then(k,v)::r else(k,x)::A2 f v r) from rfl];by_cases hk:k=f
  ·rw[aH hk];subst hk;exact⟨by simp,λg h=>by simpa using h⟩
  ·rw[az hk];refine⟨?_,λg h=>?_⟩
   ·rw[aW];exact bG _ i1
   ·rw[aW] at h ⊢;rcases aG.mp h with e|e
    ·exact aG.mpr (.inl e)
    ·exact bG _ (i2 g e)
theorem GJ(f:Str)(v:V):∀fs:List (Str×V),(A2 f v fs).length<=fs.length+1
 |[]=>by simp[A2]
 |(k,x)::r=>by
  have ih:=GJ f v r;rw[show A2 f v ((k,x)::r)=(if k=f then(k,v)::r else(k,x)::A2 f v r) from rfl];by_cases hk:k=f
  ·rw[aH hk,cP,cP];omega
  ·rw[az hk,cP,cP];omega
theorem E7.some_of{v:V}{o:Option Value}(r:E7 (some v) o):∃u,o=some u/\RelV v u:=by
 cases o with
 |none=>exact(show False from r).elim
 |some u=>exact⟨u,rfl,r⟩
theorem WQ{v:V}{u:Value}(r:RelV v u):PySem.W.handedIn u=true:=by
 cases v with
 |bx=>cases (show u=Value.none from r);rfl
 |bl b=>cases (show u=Value.bool b from r);rfl
 |int i=>obtain⟨t,e⟩:=(show ∃t,u=Value.int i t from r);cases e;rfl
 |str x=>obtain⟨t,e⟩:=(show ∃t,u=Value.str x t from r);cases e;rfl
 |ky b=>obtain⟨t,e⟩:=(show ∃t,u=Value.bytes b t from r);cases e;rfl
 |qj b=>obtain⟨t,e⟩:=(show ∃t,u=Value.float b t from r);cases e;rfl
 |ref a=>cases (show u=Value.ref a from r);rfl
 |ty n=>cases (show u=Value.type n from r);rfl
section
variable{P:Program}{w:World}{H H':Hp}{h h':Heap}{a C dx:Addr}{fs oJ:List (Str×V)}
theorem AS(bC:fF P w H h)(e:H a=some (.ins C dx fs)):∃mA,rF h a dx C mA/\(∀f,E7 (fs.lookup f) (mA f))/\PySem.Within mA (fs.map (·.1))/\fs.length<=1000/\H dx=some (.own a):=by
 obtain⟨d,z,ne,ob,mA,n,r,q⟩:=(show k8 P w H h a (.ins C dx fs) from bC a _ e)
 exact⟨mA,⟨ob,n,ne⟩,r,q,z,d⟩
end
structure jt(K:PySem.W.Frag)(C:Addr):Prop where
 pg:PySem.W.plainGet K C Str.empty=true
 hd:PySem.W.hasDictIn K C=true
 po:PySem.W.plainOver K C=true
 sa:PySem.W.findIn K (.ref C) "__setattr__"=some (some (.builtin "object.__setattr__"))
theorem jt.get{K:PySem.W.Frag}{C:Addr}(c:jt K C)(f:Str):PySem.W.plainGet K C f=true:=c.pg
def A7(K:PySem.W.Frag)(C:Addr)(f:Str):Prop:=PySem.W.findIn K (.ref C) f=some none
theorem A7.NH{K:PySem.W.Frag}{C:Addr}{f:Str}(n:A7 K C f):PySem.W.takerIn K C f=some none:=by
 unfold PySem.W.takerIn;rw[show PySem.W.findIn K (.ref C) f=some none from n]
 rfl
structure Meth(K:PySem.W.Frag)(C:Addr)(m:Str)(f:Addr):Prop where
 at_:PySem.W.findIn K (.ref C) m=some (some (.ref f))
 fn:PySem.W.isFn K (.ref f)=true
 kp:PySem.W.keepIn K (.ref f)=true
section
variable{X:Cx}{pins:List (Addr×Obj)}{Z:St}{H:Hp}{s:Shared}{a C dx:Addr}{fs:List (Str×V)}{f:Str}{v:V}{A:Around}{E:Value->Shared->Prop}
theorem XW{b:Bool}{Q:Value->Shared->Prop}(I:Inv X pins Z H s)(e:H a=some (.ins C dx fs))(c:jt X.K C)(n:A7 X.K C f)(l:fs.lookup f=some v)(h:∀u s',Inv X pins Z H s'->RelV v u->Q u s'):wpAny (model X.prog X.w) A (getAttr (.ref a) f b) Q E s:=by
 obtain⟨mA,O,r,_,_,_⟩:=AS I.bC e;obtain⟨u,hu,ru⟩:=E7.some_of (v:=v) (o:=mA f) (by rw[<- l];exact r f);exact get_map I.gf O (c.get f) c.hd n hu (WQ ru) (h u _ (I.tok _) ru)
theorem Ym{y:V}{u:Value}{Q:Unit->Shared->Prop}(I:Inv X pins Z H s)(e:H a=some (.ins C dx fs))(c:jt X.K C)(n:A7 X.K C f)(hl:fs.length<1000)(ry:RelV y u)(h:∀s',Inv X pins Z (upd H a (.ins C dx (A2 f y fs))) s'->Q () s'):wpAny (model X.prog X.w) A (setAttr (.ref a) f u) Q E s:=by
 obtain⟨mA,O,r,wi,_,ho⟩:=AS I.bC e;have hz:(fs.map (·.1)).length<=sizeLine:=by rw[ah,jW];omega
 refine Sb I.gf O c.sa c.po n.NH c.hd wi hz λh' O' sb=>h _ ?_;have hd:∃o,h'.get? dx=some o:=let ⟨o,_,_,e',_⟩:=O'.ns;⟨o,e'⟩
 refine I.write (x:=a) (e:=dx) (by rw[e];exact True.intro) (.inr ho) (λb q hb z=>(sb.2 b hb).trans z) hd ?_;refine⟨by rw[f9 O.ne];exact ho,?_,O.ne,O'.obj,_,O'.ns,λg=>?_,λg hg=>?_⟩
 ·have:=GJ f y fs;omega
 ·show E7 ((A2 f y fs).lookup g) (if g=f then some u else mA g);rw[GK];by_cases q:g=f
  ·rw[aH q,aH q];exact ry
  ·rw[az q,az q];exact r g
 ·by_cases q:g=f
  ·rw[q];exact(Bm f y fs).1
  ·refine(Bm f y fs).2 g (wi g λz=>hg ?_);show(if g=f then some u else mA g)=none;rw[az q];exact z
theorem Inv.made(I:Inv X pins Z H s):Inv X pins Z (upd (upd H s.heap.objs.size (.own (s.heap.objs.size+1))) (s.heap.objs.size+1) (.ins C s.heap.objs.size []))
  { s with heap:=(s.heap.push PySem.W.emptyDict).push (PySem.W.instObj C s.heap.objs.size) }:=by
 have e1:(s.heap.push PySem.W.emptyDict).get? s.heap.objs.size=some PySem.W.emptyDict:=aA s.heap rfl;have e2:((s.heap.push PySem.W.emptyDict).push (PySem.W.instObj C s.heap.objs.size)).get? (s.heap.objs.size+1)=some (PySem.W.instObj C s.heap.objs.size):=by
  have:=aA (s.heap.push PySem.W.emptyDict) (o:=PySem.W.instObj C s.heap.objs.size) rfl
  rwa [dM] at this
 have e3:(s.heap.push PySem.W.emptyDict).Ns s.heap.objs.size (λ_=>none):=⟨PySem.W.emptyDict,#[],_,e1,rfl,(λe he=>absurd he (by simp)),λ_=>rfl⟩
 have I1:=I.laid (a:=s.heap.objs.size) (o:=.own (s.heap.objs.size+1)) (h':=s.heap.push PySem.W.emptyDict) (t':=s.toks) (λb u q=>aj _ q) (av _) ⟨_,e1⟩;refine I1.laid (a:=s.heap.objs.size+1) (o:=.ins C s.heap.objs.size []) (t':=s.toks) (λb u q=>aj _ q) (Nat.le_of_eq (dM _ _)) ?_;have ne:s.heap.objs.size≠s.heap.objs.size+1:=aK (eW _);refine⟨by rw[f9 ne,n8],cz _,ne,e2,λ_=>none,(Heap.Ns1.of_empty e3).at λo q=>aj _ q,λ_=>True.intro,λy hy=>absurd rfl hy⟩
theorem QL{prog:Program}{w:World}{env:Env}{e:Expr}{f:Str}{pos:Pos}{s:Shared}{Q:Value->Shared->Prop}(hb:attributeBase e f env (eval e env)=eval e env)(h:wpAny (model prog w) A (eval e env) (λo bK=>wpAny (model prog w) A (getAttr o f true) Q E bK) E s):wpAny (model prog w) A (eval (.Attribute e f pos) env) Q E s :=
 Attribute_any_ h (by rw[arm_eval_Attribute,hb])
end
def Ub(K:PySem.W.Frag)(ta:TE)(f:Str):TE:=λZ H Q=>ta Z H λx H1=>∃a C dx fs v,x=.ref a/\H1 a=some (.ins C dx fs)/\jt K C/\A7 K C f/\fs.lookup f=some v/\Q v H1
def TL(K:PySem.W.Frag)(ta tv:TE)(f:Str):TS:=λD Z H=>tv Z H λy H1=>ta Z H1 λx H2=>∃a C dx fs,x=.ref a/\H2 a=some (.ins C dx fs)/\jt K C/\A7 K C f/\fs.length<1000 /\
 D.nx Z (upd H2 a (.ins C dx (A2 f y fs)))
def ES(X:Cx)(op:Operator)(rd:V->V->Hp->VK->Prop):Prop :=
 ∀(pins:List (Addr×Obj)) (s:Shared) (Z:St) (H:Hp) (x y:V) (u v:Value) (Q:VK),Inv X pins Z H s->RelV x u->RelV y v->rd x y H Q->wpAny (model X.prog X.w) X.A (inplaceOp op u v) (EP X pins Z Q) X.xe s
section
variable{X:Cx}{o e value:Expr}{f:Str}{pos pos' yq:Pos}{ta tv:TE}
theorem OZ(he:PE X e ta)(hb:attributeBase e f X.env (eval e X.env)=eval e X.env):PE X (.Attribute e f pos) (Ub X.K ta f):=by
 intro pins s Z H Q I h;refine QL hb (bX (he pins s Z H _ I h) λu s1 aZ=>?_);obtain⟨x,H1,I1,rx,a,C,dx,fs,v,ex,ea,c,n,l,q⟩:=aZ;subst ex;obtain rfl:u=Value.ref a:=rx;exact XW I1 ea c n l λu' s2 I2 ru=>⟨v,H1,I2,ru,q⟩
theorem Pm(ha:PE X o ta)(hv:PE X value tv)(hs:swapsWith value (some (.Attribute o f pos')) pos.line X.env=pure false):PS X (.Assign [.Attribute o f pos'] value pos) (TL X.K ta tv f):=by
 intro pins s Z H D I h;refine plainObj_wpAny_Assign_Attribute (bX (hv pins s Z H _ I h) λu s1 ⟨y,H1,I1,ry,q⟩=>bX (ha pins s1 Z H1 _ I1 q) λov s2 aZ=>?_) hs;obtain⟨x,H2,I2,rx,a,C,dx,fs,ex,ea,c,n,l,q2⟩:=aZ;subst ex;obtain rfl:ov=Value.ref a:=rx;exact Ym I2 ea c n l ry λs3 I3=>⟨Z,_,I3,q2⟩
def Tu:V->V->Hp->VK->Prop:=λx y H Q=>∃i j,x=.int i/\y=.int j/\Q (.int (i+j)) H
theorem Og:ES X .Add Tu:=by
 rintro pins s Z H x y u v Q I rx ry ⟨i,j,rfl,rfl,q⟩;obtain⟨t,rfl⟩:=(show ∃t,u=Value.int i t from rx)
 obtain⟨t',rfl⟩:=(show ∃t',v=Value.int j t' from ry)
 exact PyProof.Rows.iadd_int ⟨.int (i+j),H,I.tok _,⟨_,rfl⟩,q⟩
end
section
variable{X:Cx}{pins:List (Addr×Obj)}{Z:St}{H:Hp}{s:Shared}{A:Around}{E:Value->Shared->Prop}{Q:Value->Shared->Prop}{c:Value}{b:Bool}
inductive gp(K:PySem.W.Frag)(H:Hp):V->Value->Prop where
 |bx:gp K H .bx (.type "NoneType")
 |bl (x:Bool):gp K H (.bl x) (.type "bool")
 |int (i:Int):gp K H (.int i) (.type "int")
 |str (x:Str):gp K H (.str x) (.type "str")
 |qj (x:UInt64):gp K H (.qj x) (.type "float")
 |lst {a:Addr} {xs:List V} (e:H a=some (.lst xs)):gp K H (.ref a) (.type "list")
 |jj {a:Addr} {o:Obj} {xs:List V} (e:H a=some (.jj o (.lst xs))):gp K H (.ref a) (.type "list")
 |tup {a:Addr} {xs:List V} (e:H a=some (.tup xs)):gp K H (.ref a) (.type "tuple")
 |dK {a:Addr} {kvs:List (Key×V)} (e:H a=some (.dK kvs)):gp K H (.ref a) (.type "dict")
 |dT {a:Addr} {kvs:List (List Key×V)} (e:H a=some (.dT kvs)):gp K H (.ref a) (.type "dict")
 |ins {a C dx:Addr} {fs:List (Str×V)} (e:H a=some (.ins C dx fs)) (cl:jt K C) (ha:PySem.W.findIn K (.ref C) "__class__"=some (some (.builtin "object.__class__")))
   (hn:PySem.W.specialIn K (.builtin "object.__class__") "__get__"=some (some (.builtin "getset_descriptor.__get__"))) (wj:PySem.W.takesIn K (.builtin "object.__class__")=some true)
   (hm:PySem.W.mroIn K C (.type "object")=some true):gp K H (.ref a) (.ref C)
theorem WT{x:V}{u t:Value}(I:Inv X pins Z H s)(rx:RelV x u)(ty:gp X.K H x t)(e:PySem.W.kitOne X.K t c=some b)(h:∀tk,Q (.bool b) { s with toks:=tk }) :
  wpAny (model X.prog X.w) A (call (.builtin "isinstance") [u,c]) Q E s:=by
 cases ty with
 |bx=>cases (show u=Value.none from rx);exact bN PySem.W.kitx_none I.gf True.intro e (λz=>nomatch z) h
 |bl y=>cases (show u=Value.bool y from rx);exact bN PySem.W.kitx_bool I.gf True.intro e (λz=>nomatch z) h
 |int i=>obtain⟨t,q⟩:=(show ∃t,u=Value.int i t from rx);cases q;exact bN PySem.W.kitx_int I.gf True.intro e (λz=>nomatch z) h
 |str y=>obtain⟨t,q⟩:=(show ∃t,u=Value.str y t from rx);cases q;exact bN PySem.W.kitx_str I.gf True.intro e (λz=>nomatch z) h
 |qj y=>obtain⟨t,q⟩:=(show ∃t,u=Value.float y t from rx);cases q;exact bN PySem.W.kitx_float I.gf True.intro e (λz=>nomatch z) h
 |@lst a xs ea =>
  cases (show u=Value.ref a from rx);obtain⟨_,_,n,_,h1⟩:=(show k8 X.prog X.w H s.heap a (.lst xs) from I.bC a _ ea)
  exact bN PySem.W.kitx_list I.gf ⟨_,h1,rfl⟩ e (λz=>nomatch z) h
 |@jj a ob xs ea =>
  cases (show u=Value.ref a from rx);obtain⟨_,_,_,n,_,h1⟩:=(show k8 X.prog X.w H s.heap a (.jj ob (.lst xs)) from I.bC a _ ea)
  exact bN PySem.W.kitx_list I.gf ⟨_,h1,rfl⟩ e (λz=>nomatch z) h
 |@tup a xs ea =>
  cases (show u=Value.ref a from rx);obtain⟨_,_,_,p⟩:=(show k8 X.prog X.w H s.heap a (.tup xs) from I.bC a _ ea)
  obtain⟨o,h1,h2,_⟩:=p;exact bN Jx I.gf ⟨o,h1,h2⟩ e (λz=>nomatch z) h
 |@dK a kvs ea =>
  cases (show u=Value.ref a from rx);obtain⟨_,_,vs,_,p⟩:=(show k8 X.prog X.w H s.heap a (.dK kvs) from I.bC a _ ea)
  obtain⟨o,es,ep,h1,h2,_⟩:=p;exact bN PySem.W.kitx_dict I.gf ⟨o,h1,h2.1⟩ e (λz=>nomatch z) h
 |@dT a kvs ea =>
  cases (show u=Value.ref a from rx);obtain⟨_,_,xs,_,o,es,ep,h1,h2,_⟩:=(show k8 X.prog X.w H s.heap a (.dT kvs) from I.bC a _ ea)
  exact bN PySem.W.kitx_dict I.gf ⟨o,h1,h2.1⟩ e (λz=>nomatch z) h
 |@ins a C dx fs ea cl ha hn wj hm =>
  cases (show u=Value.ref a from rx);obtain⟨mA,O,_⟩:=AS I.bC ea;obtain⟨od,J,_⟩:=O.look;exact bN (PySem.W.kitx_own (cl.get _) cl.hd ha hn wj hm) I.gf J e (λz=>nomatch z) h
end
structure u3(k:Nat)(A:Around):Prop where
 hd:A.handled=none
 dp:A.depth+3*k+5<recursionLimit
 un:A.units+16*k+200<cLine
theorem u3.mono{j k:Nat}{A:Around}(r:u3 k A)(h:j<=k):u3 j A:=⟨r.hd,by have:=r.dp;omega,by have:=r.un;omega⟩
theorem u3.deeper{k:Nat}{A:Around}(r:u3 (k+1) A)(env:Env):u3 k (A.deeper env) :=
 ⟨r.hd,by have:=r.dp;show A.depth+1+3*k+5<_;omega,by have:=r.un;show A.units+3+16*k+200<_;omega⟩
theorem Ya{A:Around}{C:Addr}{us:List Value}{kw:List (Str×Value)}:(A.under (.builtin "type.__call__" ⟨.ref C::us,kw⟩)).depth=A.depth+1:=by
 first|rfl|simp[Around.under,Code.weight,Code.isCreation,Code.isGuard,Code.isCaller,Code.frames,Code.isFrame,guardIds]
theorem Yb{A:Around}{C:Addr}{us:List Value}{kw:List (Str×Value)}:(A.under (.builtin "type.__call__" ⟨.ref C::us,kw⟩)).units=A.units+1:=by
 first|rfl|simp[Around.under,Code.cUnits,Code.frames,Code.isFrame]
theorem u3.make{k:Nat}{A:Around}(r:u3 (k+1) A)(C:Addr)(us:List Value)(kw:List (Str×Value)):u3 k (A.under (.builtin "type.__call__" ⟨.ref C::us,kw⟩)) :=
 ⟨r.hd,by have:=r.dp;rw[Ya];omega,by have:=r.un;rw[Yb];omega⟩
theorem u3.depth{k:Nat}{A:Around}(r:u3 k A):A.depth<recursionLimit:=by have:=r.dp;omega
def Fl:TA:=λ_ H Q=>Q [] H
def Ny(ta:TE)(tr:TA):TA:=λZ H Q=>ta Z H λx H1=>tr Z H1 λxs H2=>Q (x::xs) H2
section
variable{X:Cx}{e:Expr}{es:List Expr}{te:TE}{t:TA}{pos:Pos}
theorem Q7:PA X [] Fl:=λ_ _ _ _ H Q I h=>Calls.spliced_nil ⟨[],H,I,.nil,h⟩
theorem L4(ha:PE X e te)(hr:PA X es t)(hs:starEach (e::es) X.env=(false,eval e X.env)::starEach es X.env:=by rfl):PA X (e::es) (Ny te t):=by
 intro pos pins s Z H Q I h;rw[hs];show wpAny _ _ (spliced ((false,eval e X.env)::backTo pos (starEach es X.env))) _ _ s;refine Calls.spliced_cons (bX (ha pins s Z H _ I h) λu s1 aZ=>?_);obtain⟨x,H1,I1,r1,q1⟩:=aZ;exact bX (hr pos pins s1 Z H1 _ I1 q1) λus s2 ⟨xs,H2,I2,r2,q2⟩=>⟨x::xs,H2,I2,.cons r1 r2,q2⟩
def Um(t:TA):TE:=λZ H Q=>t Z H λxs H1=>xs.length<=sizeLine/\∀p,H1 p=none->Q (.ref p) (upd H1 p (.tup xs))
def Ue(t:TA):TE:=λZ H Q=>t Z H λxs H1=>xs.length<=sizeLine/\∀p,H1 p=none->Q (.ref p) (upd H1 p (.lst xs))
theorem Pe{x1}(h:PA X es t):PE X (.Tuple es x1 pos) (Um t):=by
 intro pins s Z H Q I hq;refine wpAny_Tuple_spliced (bX (h pos pins s Z H _ I hq) λus s1 ⟨xs,H1,I1,r,z,q⟩=>⟨by rw[<- r.length];exact z,?_⟩);have hf:H1 s1.heap.objs.size=none:=I1.bC.fresh (av _);refine⟨.ref s1.heap.objs.size,upd H1 s1.heap.objs.size (.tup xs),I1.laid (t':=s1.toks) (λb u e=>aj _ e) (av _) ?_,rfl,q _ hf⟩;exact⟨z,us,r,⟨_,aA _ rfl,rfl,⟨_,rfl⟩,rfl⟩⟩
theorem Hm(h:PA X es t):PE X (.List es pos) (Ue t):=by
 intro pins s Z H Q I hq;refine wpAny_List_spliced (bX (h pos pins s Z H _ I hq) λus s1 ⟨xs,H1,I1,r,z,q⟩=>⟨by rw[<- r.length];exact z,?_⟩);have hf:H1 s1.heap.objs.size=none:=I1.bC.fresh (av _);refine⟨.ref s1.heap.objs.size,upd H1 s1.heap.objs.size (.lst xs),I1.laid (t':=s1.toks) (λb u e=>aj _ e) (av _) ?_,rfl,q _ hf⟩;exact⟨z,us,0,r,aA _ rfl⟩
end
noncomputable abbrev Sp:=List V->Hp->VK->XK->Prop
noncomputable abbrev mL:=List Env->Hp->Shared->XK->Value->Shared->Prop
structure qq(P:Program)(w:World)(K:PySem.W.Frag)(mg:Str->Option Value)(base:Heap)(A:Around)(outer:List Env)(s:Shared)(H:Hp):Prop where
 frames:A.frames=some outer
 mod:Mod K mg base
 bs:∀b o,base.get? b=some o->s.heap.get? b=some o/\H b=none
 mH:base.objs.size<=s.heap.objs.size
 I9:s.heap.FunFrames base outer
 mU:∀b∈fg outer,H b=none
 bC:fF P w H s.heap
 bare:AllBare s.gens
def CE(outer:List Env)(P:Program)(w:World)(H:Hp)(s:Shared)(Q:VK)(u:Value)(s':Shared):Prop :=
 ∃v H',s'.os=s.os/\AllBare s'.gens/\Un (fg outer) [] H H' s.heap s'.heap/\fF P w H' s'.heap/\RelV v u/\Q v H'
def CR(CX:mL)(outer:List Env)(P:Program)(w:World)(H:Hp)(s:Shared)(Q:VK)(E:XK)(r:Result)(s':Shared):Prop :=
 match r with
 |.ok (.ret u)=>CE outer P w H s Q u s'
 |.ok _=>False
 |.error e=>CX outer H s E e s'
structure gW(P:Program)(w:World)(K:PySem.W.Frag)(mg:Str->Option Value)(base:Heap)(CX:mL)(k:Nat)(f:Addr)(fd:FuncData)(ps:List Str)(sp:Sp):Prop where
 len:∀vs H Q E,sp vs H Q E->vs.length=ps.length
 run:∀(A:Around) (outer:List Env) (s:Shared) (H:Hp) (args:Args) (us:List Value) (vs:List V) (Q:VK) (E:XK),u3 k A->qq P w K mg base A outer s H->BindsTo s fd args (ps.zip us)->Vals vs us->sp vs H Q E ->
  codeAny (model P w) A (.call (.ref f) args) (CR CX outer P w H s Q E) s
theorem qq.make{P:Program}{w:World}{K:PySem.W.Frag}{mg:Str->Option Value}{base:Heap}{A:Around}{outer:List Env}{s:Shared}{H:Hp}(e:qq P w K mg base A outer s H)(C:Addr)(us:List Value)(kw:List (Str×Value)) :
  qq P w K mg base (A.under (.builtin "type.__call__" ⟨.ref C::us,kw⟩)) outer s H:=⟨by first|exact e.frames|(simpa[Around.under,Code.envs,Code.isFrame,pushEnvs] using e.frames),e.mod,e.bs,e.mH,e.I9,e.mU,e.bC,e.bare⟩
section
variable{X:Cx}{pins:List (Addr×Obj)}{Z:St}{H:Hp}{s s':Shared}
theorem Inv.EX(I:Inv X pins Z H s):qq X.prog X.w X.K X.mg X.base X.A X.stack s H :=
 ⟨I.ok.frames,I.ok.mod,I.bs,aC I.ok.mH I.sz,I.stack,I.xN,I.bC,I.bare⟩
theorem Inv.after{Q:VK}{u:Value}(I:Inv X pins Z H s)(h:CE X.stack X.prog X.w H s Q u s'):EP X pins Z Q u s':=by
 obtain⟨v,H',os,bare,un,bC,r,q⟩:=h;obtain⟨hh,g,d,t,sU⟩:=s';obtain rfl:sU=s.os:=os;exact⟨v,H',I.call (h':=hh) (g':=g) (d':=d) (t':=t) (ch:=[]) un bC bare (λb z=>absurd z (by simp)),r,q⟩
end
def Nx(sp:Sp)(jO:List V)(E:XK)(t:TA):TE:=λZ H Q=>t Z H λvs H1=>sp (vs++jO) H1 Q E
def Jf(C:Addr)(sp:Sp)(jO:List V)(E:XK)(t:TA):TE:=λZ H Q=>t Z H λvs H1=>∀x dx,H1 x=none->H1 dx=none->dx≠x ->
 sp (.ref x::(vs++jO)) (upd (upd H1 dx (.own x)) x (.ins C dx [])) (λv H2=>v=.bx/\Q (.ref x) H2) E
def Binds(K:PySem.W.Frag)(fd:FuncData)(ps:List Str)(ds:List Value):Prop :=
 ∀(s:Shared) (us:List Value),K.In s.heap->(us++ds).length=ps.length->BindsTo s fd ⟨us,[]⟩ (ps.zip (us++ds))
theorem Binds.all{K:PySem.W.Frag}{fd:FuncData}{ps:List Str}(h:∀us:List Value,us.length=ps.length->bindArgs fd ⟨us,[]⟩=pure (ps.zip us)):Binds K fd ps []:=λs us _ hl=>by
 rw[fj] at hl ⊢;exact .of_eq (h us hl)
def Passes(CX:mL)(X:Cx)(E:XK):Prop:=∀(pins:List (Addr×Obj)) (Z:St) (H:Hp) (s:Shared) (e:Value) (s':Shared),Inv X pins Z H s->CX X.stack H s E e s'->X.xe e s'
section
variable{X:Cx}{CX:mL}{k:Nat}{f C:Addr}{fd:FuncData}{ps:List Str}{sp:Sp}{jO:List V}{ds:List Value}{E:XK}{x m:Str}{p pos apos:Pos}{e o:Expr}{es:List Expr}{ta:TE}{t:TA}
theorem Hr{pins:List (Addr×Obj)}{Z:St}{H:Hp}{s:Shared}{Q:VK}{us:List Value}{vs:List V}(F:gW X.prog X.w X.K X.mg X.base CX k f fd ps sp)(hr:u3 k X.A)(hb:Binds X.K fd ps ds)(hd:Vals jO ds)(hx:Passes CX X E)(I:Inv X pins Z H s)(r:Vals vs us)(h:sp (vs++jO) H Q E):wpAny (model X.prog X.w) X.A (call (.ref f) us) (EP X pins Z Q) X.xe s:=by
 have r2:Vals (vs++jO) (us++ds):=r.append hd;have hl:(us++ds).length=ps.length:=by rw[<- r2.length];exact F.len _ _ _ _ h
 refine wpAny_call (gg (F.run X.A X.stack s H ⟨us,[]⟩ (us++ds) (vs++jO) Q E hr I.EX (hb s us I.gf hl) r2 h) λr s' hq=>?_);cases r with
 |error e=>exact hx pins Z H s e s' I hq
 |ok fl =>
  cases fl with
  |ret u=>exact I.after hq
  |next=>exact False.elim hq
  |brk=>exact False.elim hq
  |cont=>exact False.elim hq
theorem Rw(F:gW X.prog X.w X.K X.mg X.base CX k f fd ps sp)(hr:u3 k X.A)(hg:Gl X x)(hm:X.mg x=some (.ref f))(hk:PySem.W.keepIn X.K (.ref f)=true)(hb:Binds X.K fd ps ds)(hd:Vals jO ds)(hx:Passes CX X E)(ha:PA X (e::es) t)(hU:(x==("__debug__":Str))=false:=by decide)(he:starEach (e::es) X.env=(false,eval e X.env)::starEach es X.env:=by rfl)(fO:(backTo pos (starEach es X.env)).any (·.1)=false:=by rfl) :
  PE X (.Call (.Name x p) (e::es) [] pos) (Nx sp jO E t):=by
 intro pins s Z H Q I h;refine cF (P6 I hg hm ?_ hU);refine ju (h₀:=X.base) I.ok.mod.lR hk (bX (ha pos pins s Z H _ I h) λus s1 ⟨vs,H1,I1,r,q⟩=>⟨I1.gf,?_⟩) he fO;exact Hr F hr hb hd hx I1 r q
structure Mk(K:PySem.W.Frag)(C f:Addr):Prop where
 makes:PySem.W.makesIn K C=true
 init:PySem.W.findIn K (.ref C) "__init__"=some (some (.ref f))
 fn:PySem.W.isFn K (.ref f)=true
 kp:PySem.W.keepIn K (.ref C)=true
theorem Fv{pins:List (Addr×Obj)}{Z:St}{H:Hp}{s:Shared}{Q:VK}{us:List Value}{vs:List V}(M:Mk X.K C f)(F:gW X.prog X.w X.K X.mg X.base CX k f fd ps sp)(hr:u3 (k+1) X.A)(hb:Binds X.K fd ps ds)(hd:Vals jO ds)(hx:Passes CX X E)(I:Inv X pins Z H s)(r:Vals vs us)(h:∀x dx,H x=none->H dx=none->dx≠x->sp (.ref x::(vs++jO)) (upd (upd H dx (.own x)) x (.ins C dx [])) (λv H2=>v=.bx/\Q (.ref x) H2) E) :
  wpAny (model X.prog X.w) X.A (call (.ref C) us) (EP X pins Z Q) X.xe s:=by
 have hq:=h (s.heap.objs.size+1) s.heap.objs.size (I.bC.fresh (fV _)) (I.bC.fresh (av _)) (aK (eW _));have I2:=Inv.made (C:=C) I;have r2:Vals (V.ref (s.heap.objs.size+1)::(vs++jO)) (Value.ref (s.heap.objs.size+1)::(us++ds)):=.cons rfl (r.append hd);have hl:(Value.ref (s.heap.objs.size+1)::us++ds).length=ps.length:=by
  have e:=r2.length;rw[F.len _ _ _ _ hq] at e;exact e.symm
 refine wpAny_call (Zy (f:=f) I.gf M.makes M.init (eV.mp M.fn) (gg (F.run _ X.stack _ _ ⟨Value.ref (s.heap.objs.size + 1) :: us,[]⟩ (Value.ref (s.heap.objs.size + 1) :: (us ++ ds)) _ _ E (hr.make C us [])
  (I2.EX.make C us []) (hb _ (Value.ref (s.heap.objs.size + 1) :: us) I2.gf hl) r2 hq) λr s' lW=>?_))
 cases r with
 |error e=>exact hx pins Z _ _ e s' I2 lW
 |ok fl =>
  cases fl with
  |ret u =>
   obtain⟨v,H',I3,rv,ev,q3⟩:=I2.after lW;subst ev;exact⟨rv,⟨V.ref (s.heap.objs.size+1),H',I3,rfl,q3⟩⟩
  |next=>exact False.elim lW
  |brk=>exact False.elim lW
  |cont=>exact False.elim lW
theorem Rz(M:Mk X.K C f)(F:gW X.prog X.w X.K X.mg X.base CX k f fd ps sp)(hr:u3 (k+1) X.A)(hg:Gl X x)(hm:X.mg x=some (.ref C))(hb:Binds X.K fd ps ds)(hd:Vals jO ds)(hx:Passes CX X E)(ha:PA X (e::es) t)(hU:(x==("__debug__":Str))=false:=by decide)(he:starEach (e::es) X.env=(false,eval e X.env)::starEach es X.env:=by rfl)(fO:(backTo pos (starEach es X.env)).any (·.1)=false:=by rfl) :
  PE X (.Call (.Name x p) (e::es) [] pos) (Jf C sp jO E t):=by
 intro pins s Z H Q I h;refine cF (P6 I hg hm ?_ hU);refine ju (h₀:=X.base) I.ok.mod.lR M.kp (bX (ha pos pins s Z H _ I h) λus s1 ⟨vs,H1,I1,r,q⟩=>⟨I1.gf,?_⟩) he fO;exact Fv M F hr hb hd hx I1 r q
theorem ZK(M:Mk X.K C f)(F:gW X.prog X.w X.K X.mg X.base CX k f fd ps sp)(hr:u3 (k+1) X.A)(hg:Gl X x)(hm:X.mg x=some (.ref C))(hb:Binds X.K fd ps ds)(hd:Vals jO ds)(hx:Passes CX X E)(hU:(x==("__debug__":Str))=false:=by decide):PE X (.Call (.Name x p) [] [] pos) (Jf C sp jO E Fl):=by
 intro pins s Z H Q I h;refine cF (P6 I hg hm ?_ hU);exact PySem.W.callWith_K0 I.gf M.kp (Fv (us:=[]) M F hr hb hd hx I .nil h)
end
section
variable{X:Cx}{CX:mL}{k:Nat}{f C:Addr}{fd:FuncData}{ps ks:List Str}{sp:Sp}{E:XK}{x m:Str}{p pos apos Kr:Pos}{e o:Expr}{es:List Expr}{iQ:List Keyword}{te ta:TE}{t tk:TA}{nm:Option Str}
variable{g:List Value->List Value->List Value}{gV:List V->List V->List V}
end
structure hV(N P:List Str)(sc:Scope):Prop where
 kind:sc.kind=.function
 co:sc.isCoroutine=false
 gen:sc.isGenerator=false
 nd:N.Nodup
 pre:N.take P.length=P
 par:∀x∈P,sc.names.lookup x=some .local\/sc.names.lookup x=some .cell
 lO:∀y∈sc.names,y.2≠.free
theorem FK{kindOf:Str->Option NameKind}{x:Str}:∀{binds:List (Str×Value)} {m:Str->Option Value},(∀v,(x,v)∉binds)->bindL kindOf binds m x=m x
 |[],_,_=>rfl
 |(n,v)::r,m,h=>by
  unfold bindL;rw[FK λw hw=>h w (bG _ hw)];split
  ·have:x≠n:=by rintro rfl;exact h v fJ
   simp[this]
  ·rfl
theorem FI{kindOf:Str->Option NameKind}{x:Str}:∀{binds:List (Str×Value)} {m:Str->Option Value},(∀v,(x,v)∉binds)->bindC kindOf binds m x=m x
 |[],_,_=>rfl
 |(n,v)::r,m,h=>by
  unfold bindC;rw[FI λw hw=>h w (bG _ hw)];split
  ·rfl
  ·have:x≠n:=by rintro rfl;exact h v fJ
   simp[this]
theorem FJ{kindOf:Str->Option NameKind}{x:Str}{v:Value}:∀{P:List Str} {vs:List Value} {i:Nat} {m:Str->Option Value},P.Nodup->P[i]?=some x->vs[i]?=some v->kindOf x=some .local ->
  bindL kindOf (P.zip vs) m x=some v
 |[],_,_,_,_,h,_,_=>by simp at h
 |_::_,[],_,_,_,_,h,_=>by simp at h
 |p::P,w::vs,0,m,nd,h1,h2,hk=>by
  simp at h1 h2;subst h1;subst h2;show bindL kindOf ((p,w)::P.zip vs) m p=_;unfold bindL;rw[FK λv hv=>(dO.mp nd).1 (lF hv).1,aH hk];simp
 |p::P,w::vs,i+1,m,nd,h1,h2,hk=>by
  show bindL kindOf ((p,w)::P.zip vs) m x=_;unfold bindL;exact FJ (i:=i) (dO.mp nd).2 (by simpa using h1) (by simpa using h2) hk
theorem FH{kindOf:Str->Option NameKind}{x:Str}{v:Value}:∀{P:List Str} {vs:List Value} {i:Nat} {m:Str->Option Value},P.Nodup->P[i]?=some x->vs[i]?=some v->kindOf x≠some .local ->
  bindC kindOf (P.zip vs) m x=some v
 |[],_,_,_,_,h,_,_=>by simp at h
 |_::_,[],_,_,_,_,h,_=>by simp at h
 |p::P,w::vs,0,m,nd,h1,h2,hk=>by
  simp at h1 h2;subst h1;subst h2;show bindC kindOf ((p,w)::P.zip vs) m p=_;unfold bindC;rw[FI λv hv=>(dO.mp nd).1 (lF hv).1,az hk];simp
 |p::P,w::vs,i+1,m,nd,h1,h2,hk=>by
  show bindC kindOf ((p,w)::P.zip vs) m x=_;unfold bindC;exact FH (i:=i) (dO.mp nd).2 (by simpa using h1) (by simpa using h2) hk
def start(N:List Str)(vs:List V):St:=vs.map some++List.replicate (N.length-vs.length) none
def nO(CX:mL)(P:Program)(w:World)(K:PySem.W.Frag)(mg:Str->Option Value)(base:Heap)(N:List Str)(qual:Str)(scope:Scope)(f:Addr)(cd:Value)(A:Around)(outer:List Env)(s:Shared)(H:Hp)(E:XK):Cx where
 prog:=P
 w:=w
 K:=K
 mg:=mg
 base:=base
 A:=A.deeper (envOfC qual scope s.heap.objs.size f cd)
 N:=N
 cL:=s
 iR:=H
 env:=envOfC qual scope s.heap.objs.size f cd
 outer:=outer
 stack:=envOfC qual scope s.heap.objs.size f cd::outer
 ex:=[]
 calm:=true
 fn:=λ_=>true
 pn:=[]
 xe:=λe s'=>wpAny (model P w) (A.deeper (envOfC qual scope s.heap.objs.size f cd)) (leaving (envOfC qual scope s.heap.objs.size f cd) e) (λ_ nr=>CX outer H s E e nr) (λe' nr=>CX outer H s E e' nr) s'
theorem Bc{sc:Scope}{n:Nat}{x:Str}(h:sc.names.lookup x=some .cell):∃c,(cellsFrom n sc.names []).lookup x=some c:=by
 have q:=cX sc.names n [] (.inl h);exact dJ.mp q
theorem WS{CX:mL}{P:Program}{w:World}{K:PySem.W.Frag}{mg:Str->Option Value}{base:Heap}{N ps:List Str}{qual:Str}{scope:Scope}{f:Addr}{cd:Value}{A:Around}{outer:List Env}{s s1:Shared}{H:Hp}{E:XK}{us:List Value}{vs:List V}(S:hV N ps scope)(hd:A.handled=none)(e0:qq P w K mg base A outer s H)(hl:vs.length=ps.length)(r:Vals vs us)(x:InCallC s s.heap.objs.size (bindL (envOfC qual scope s.heap.objs.size f cd).kindOf (ps.zip us) λ_=>none) (cellsFrom (s.heap.objs.size+1) scope.names []) (bindC (envOfC qual scope s.heap.objs.size f cd).kindOf (ps.zip us) λ_=>none) s1) :
  Inv (nO CX P w K mg base N qual scope f cd A outer s H E) [] (start N vs) H s1:=by
 have fO:ps.length<=N.length:=by have:=gA List.length S.pre;rw[cO] at this;omega
 obtain⟨h1,tk,rfl,hk⟩:=x.done;have tq:∀b:Addr,b∉(nO CX P w K mg base N qual scope f cd A outer s H E).ex:=λb z=>absurd (show b∈([]:List Addr) from z) (by simp);refine ⟨⟨e0.mod,S.kind,rfl,rfl,av _,λy z c h1 h2=>?_,λy hy=>?_,λy c _ h=>?_,λ_=>hd,Around.frames_deeper e0.frames,.inr ⟨rfl,rfl⟩,λb z=>absurd z (tq b),e0.bs,e0.mH,λb _ _=>tq b,λb z=>absurd z (tq b),e0.I9,e0.mU⟩,
  rfl,e0.bare,Un.kept hk,⟨_,x.toInCall.ns,λi y v h1 h2 h3=>?_⟩,λy c h=>⟨_,x.cell y c h⟩,e0.bC.fresh (av _),λy c h=>?_,λp hp=>absurd (show p ∈ ([]:List (Addr × Obj)) from hp) (by simp),e0.bC.kept hk,?_⟩
 ·exact name_of_addr x.apart (aL h1) (aL h2)
 ·have hy:scope.names.lookup y=some .cell\/scope.names.lookup y=some .free:=hy;rcases hy with hy|hy
  ·exact Bc hy
  ·exact absurd rfl (S.lO _ (aL hy))
 ·exact dz (x.above y c (aL h))
 ·have hi:i<vs.length:=by
   unfold start at h2;by_cases hi:i<vs.length
   ·exact hi
   ·rw[cB (by simpa using hi)] at h2;rw[cR] at h2;split at h2<;>cases h2
  have ha:vs[i]?=some v:=by
   unfold start at h2;rw[aF (by simpa using hi),ao] at h2;cases e:vs[i]? with
   |none=>rw[e] at h2;cases h2
   |some a=>rw[e] at h2;cases h2;rfl
  obtain⟨u,hu,rv⟩:=r.get ha;have hp:ps[i]?=some y:=by
   rw[<- S.pre,gi (by omega)];exact h1
  have Dt:ps.Nodup:=by rw[<- S.pre];exact S.nd.sublist (List.take_sublist _ _)
  refine⟨u,rv,?_⟩;rcases S.par y (aM hp) with k|k
  ·exact .inl ⟨k,FJ Dt hp hu k⟩
  ·obtain⟨c,e⟩:=Bc (n:=s.heap.objs.size+1) k;refine .inr ⟨.inl k,c,e,?_⟩;have q:=x.cell y c e;rw[FH Dt hp hu (by show scope.names.lookup y≠_;rw[k];decide)] at q;exact q
 ·exact e0.bC.fresh (dz (x.above y c (aL h)))
 ·unfold start;show _=N.length;rw[aY,ah,ig];omega
theorem UM{CX:mL}{P:Program}{w:World}{K:PySem.W.Frag}{mg:Str->Option Value}{base:Heap}{k:Nat}{f:Addr}{name qual:Str}{params:Arguments}{body:List Stmt}{scope:Scope}{dV kV doc pm fe ct oc:Value}{an od:Option Addr}{lr:Array (Option Value)}{N ps:List Str}{sp:Sp}(lk:K.lookup f=some ⟨oc,od,.func (PySem.W.fnOf name qual params body scope dV kV doc pm an fe ct),lr⟩)(kP:PySem.W.codeIn K fe qual=true)(S:hV N ps scope)(len:∀vs H Q E,sp vs H Q E->vs.length=ps.length)(ug:∀ (A:Around) (outer:List Env) (s:Shared) (H:Hp) (vs:List V) (Q:VK) (E:XK),u3 k (A.deeper (envOfC qual scope s.heap.objs.size f fe))->sp vs H Q E ->
   ∃ t,iJ (nO CX P w K mg base N qual scope f fe A outer s H E) body t/\t { nx:=λ_ H'=>Q .bx H',rt:=Q } (start N vs) H) :
  gW P w K mg base CX (k+1) f (PySem.W.fnOf name qual params body scope dV kV doc pm an fe ct) ps sp:=by
 refine⟨len,λA outer s H args us vs Q E hr e0 hb r qV=>?_⟩;have hl:=len _ _ _ _ qV;have KX:K.In s.heap:=e0.mod.lR.keeps λb o e=>(e0.bs b o e).1;have lim:s.heap.NoLimit:=e0.mod.nolimit.keeps λb o e=>(e0.bs b o e).1;have tY:∀y∈ps.zip us,scope.names.lookup y.1=some .local\/(scope.names.lookup y.1=some .cell/\((cellsFrom (s.heap.objs.size+1) scope.names []).lookup y.1).isSome=true):=λ⟨n,v⟩ hy=>by
  rcases S.par n (lF hy).1 with q|q
  ·exact .inl q
  ·exact .inr ⟨q,cX _ _ _ (.inl q)⟩
 refine codeAny_call_function hr.depth (KX _ _ lk) rfl S.co S.gen rfl (PySem.W.codeRec_of KX kP) (hb _ _ _ _ ?_);refine wpAny_newFunctionEnv_cells S.kind tY λenv he s1 x=>?_;subst he;refine⟨lim.keeps x.toInCall.keep,codeAny_func ?_⟩;obtain⟨t,ht,hq⟩:=ug A outer s H vs Q E (hr.deeper _) qV;have I:Inv (nO CX P w K mg base N qual scope f fe A outer s H E) [] (start N vs) H s1:=WS S hr.hd e0 hl r x;refine bp (ht [] s1 (start N vs) H _ I hq) (λfl s' hs=>?_) λe s' hs=>hs;have fin:∀{bI:St} {H':Hp} {v:V} {u:Value},Inv (nO CX P w K mg base N qual scope f fe A outer s H E) [] bI H' s'->RelV v u->Q v H'->CE outer P w H s Q u s' :=
  λ{bI H' v u} J rv q=>⟨v,H',J.os,J.bare,J.base,J.bC,rv,q⟩
 cases fl with
 |ret u =>
  obtain⟨v,bI,H',J,rv,q⟩:=hs;exact fin J rv q
 |next =>
  obtain⟨bI,H',J,q⟩:=hs;exact fin (v:=V.bx) (u:=Value.none) J rfl q
 |brk =>
  obtain⟨_,_,_,q⟩:=hs;exact False.elim q
 |cont =>
  obtain⟨_,_,_,q⟩:=hs;exact False.elim q
section
variable{X:Cx}{x:Str}{p pos:Pos}{e:Expr}{es:List Expr}{t:TA}{id T:String}{r:List V->Hp->VK->Prop}
def yw(r:List V->Hp->VK->Prop)(t:TA):TE:=λZ H Q=>t Z H λvs H1=>r vs H1 Q
theorem Y3(hc:k9 X (.builtin id) r)(hg:Gl X x)(hm:X.mg x=none)(hv:bootBuiltins x=some (.builtin id))(ha:PA X (e::es) t)(hn:x≠"__name__":=by decide)(hU:(x==("__debug__":Str))=false:=by decide)(he:starEach (e::es) X.env=(false,eval e X.env)::starEach es X.env:=by rfl)(fO:(backTo pos (starEach es X.env)).any (·.1)=false:=by rfl):PE X (.Call (.Name x p) (e::es) [] pos) (yw r t):=by
 intro pins s Z H Q I h;refine cF (K4 I hg hm hv ?_ hn hU);exact PyProof.Rows.callWith_builtin1 (bX (ha pos pins s Z H _ I h) λus s1 ⟨vs,H1,I1,r1,q1⟩=>hc pins s1 Z H1 vs us Q I1 r1 q1) he fO
theorem N8(hc:k9 X (.type T) r)(hg:Gl X x)(hm:X.mg x=none)(hv:bootBuiltins x=some (.type T))(ha:PA X (e::es) t)(hn:x≠"__name__":=by decide)(hU:(x==("__debug__":Str))=false:=by decide)(he:starEach (e::es) X.env=(false,eval e X.env)::starEach es X.env:=by rfl)(fO:(backTo pos (starEach es X.env)).any (·.1)=false:=by rfl):PE X (.Call (.Name x p) (e::es) [] pos) (yw r t):=by
 intro pins s Z H Q I h;refine cF (K4 I hg hm hv ?_ hn hU);exact bz (bX (ha pos pins s Z H _ I h) λus s1 ⟨vs,H1,I1,r1,q1⟩=>hc pins s1 Z H1 vs us Q I1 r1 q1) he fO
end
end L2

namespace HT
open PySem PyProof.Rows
section
open PySem.SeqAt
open PySem.AutoSeq1 (wpAny_loadPart')
open PySem.MeetsSeq PySem.MeetsSeq2 PySem.MeetsSeq3
end
section
variable{prog:Program}{w:World}{A:Around}{E:Value->Shared->Prop}{s:Shared}
theorem QM{t b:Addr}{vs ws:List Value}{Q:Value->Shared->Prop}(ht:IsTup s.heap t vs.toArray)(hb:IsTup s.heap b ws.toArray)(hv:vs≠[])(h1:ws=[]->Q (.ref t) s)(h2:ws≠[]->Q (.ref s.heap.objs.size) { s with heap:=s.heap.push { cls:=.type "tuple",data:=.seq (vs++ws).toArray } })(hsz:vs.length+ws.length<=sizeLine):wpAny (model prog w) A (binaryOp .Add (.ref t) (.ref b)) Q E s:=by
 obtain⟨⟨cls,dd,data,sl⟩,ho,hc,n,hd⟩:=id ht;obtain⟨⟨uP,oO,data2,km⟩,iB,mx,n2,hd2⟩:=id hb;simp only at hc hd mx hd2;subst hc hd mx hd2;have e:vs.toArray++ws.toArray=(vs++ws).toArray:=by simp
 by_cases hw:ws=[]
 ·exact concat_meets ⟨_,ho,rfl⟩ ⟨_,iB,rfl⟩ iM kU gP gB (gh _ _)
   (tuple_addW1 t b vs.toArray ws.toArray n n2 dd oO sl km (by simpa using hv) (by simp[hw])) ⟨ho,iB,h1 hw⟩
 ·refine concat_meets ⟨_,ho,rfl⟩ ⟨_,iB,rfl⟩ iM kU gP gB (gh _ _)
   (tuple_addW2 t b vs.toArray ws.toArray n n2 dd oO sl km (by simpa using hv) (by simpa using hw) (by rw[aB,aB];exact hsz)) ⟨ho,iB,?_⟩
  rw[e];exact h2 hw
def da(n d:Nat):Option Int->Nat
 |none=>d
 |some v=>if v<0 then(v+(n:Int)).toNat else min v.toNat n
theorem Pz(n d:Nat)(hd:d<=n)(o:Option Int):da n d o<=n:=by
 cases o with
 |none=>exact hd
 |some v =>
  show(if v<0 then(v+(n:Int)).toNat else min v.toNat n)<=n;by_cases hv:v<0
  ·rw[aH hv];omega
  ·rw[az hv];exact Nat.min_le_right _ _
theorem HF(v:Int)(n d:Nat):(if v<0 then max (v+(n:Int)) 0 else min v (n:Int))=((da n d (some v):Nat):Int):=by
 show(if v<0 then max (v+(n:Int)) 0 else min v (n:Int))=(((if v<0 then(v+(n:Int)).toNat else min v.toNat n):Nat):Int);by_cases hv:v<0
 ·simp only[if_pos hv];omega
 ·simp only[if_neg hv];omega
theorem XG(lo hi:Option Int)(n:Nat):Builtin.Slice.sliceAdjust lo hi 1 (n:Int)=(((da n 0 lo:Nat):Int),((da n n hi:Nat):Int)):=by
 have h1:¬((1:Int)<0):=by omega
 unfold Builtin.Slice.sliceAdjust;simp only[h1,if_false];refine Prod.ext ?_ ?_
 ·cases lo with
  |none=>rfl
  |some v=>exact HF v n 0
 ·cases hi with
  |none=>rfl
  |some v=>exact HF v n n
theorem Yj(i j:Nat):Builtin.Slice.slicePlaces (i:Int) (j:Int) 1=j-i:=by
 unfold Builtin.Slice.slicePlaces;have h1:(1:Int)>0:=by omega
 simp only[h1,if_true,Int.ediv_one];split<;>omega
theorem GC{v:Value}{o:Option Int}{Q:Option Int->Shared->Prop}(p:IsPart v o)(h:Q o s):wpAny (model prog w) A (Builtin.Slice.slicePartIndex v) Q E s:=by
 cases p with
 |none=>exact slicePart_none h
 |int i t=>exact slicePart_int h
theorem Q4{sl:Addr}{vl vu:Value}{lo hi:Option Int}{n:Nat}{Q:Int×Int×Nat->Shared->Prop}(hs:s.heap.IsSliceOf sl vl vu .none)(pl:IsPart vl lo)(pu:IsPart vu hi)(h:Q (((da n 0 lo:Nat):Int),1,da n n hi-da n 0 lo) s):wpAny (model prog w) A (Builtin.Slice.sliceApplied (.ref sl) (pure (n:Int))) Q E s:=by
 obtain⟨os,pQ,wu,uc⟩:=id hs;unfold Builtin.Slice.sliceApplied Builtin.Slice.sliceFields;refine ae (ae (jV pQ uc (x:=vl) rfl (ae (jV pQ uc (x:=vu) rfl (ae (jV pQ uc (x:=.none) rfl (ai ?_)))))));refine ae (slicePart_none ?_);show wpAny _ _ (if((1:Int)==0)=true then _ else _) _ _ s;rw[az (by decide)];refine ae (GC pl (ae (GC pu (ae (ai ?_)))));show wpAny _ _ (match Builtin.Slice.sliceAdjust lo hi 1 (n:Int) with|(lo,hi)=>pure (lo,(1:Int),Builtin.Slice.slicePlaces lo hi 1)) _ _ s;rw[XG lo hi n];show wpAny _ _ (pure (((da n 0 lo:Nat):Int),(1:Int),Builtin.Slice.slicePlaces ((da n 0 lo:Nat):Int) ((da n n hi:Nat):Int) 1)) _ _ s;rw[Yj];exact ai h
theorem ZN(xs:Array Value)(i k:Nat):((List.range k).filterMap λ(m:Nat)=>xs[((i:Int)+(m:Int)*1).toNat]?).toArray=((xs.toList.drop i).take k).toArray:=by
 have e:(λ(m:Nat)=>xs[((i:Int)+(m:Int)*1).toNat]?)=λm=>xs[i+m]?:=by
  funext m
  have:((i:Int)+(m:Int)*1).toNat=i+m:=by omega
  rw[this]
 rw[e];have:=pick_run xs i k;rw[List.filterMap_map] at this;have e2:((λx=>xs[x]?) ∘ λx=>i+x)=λm=>xs[i+m]?:=rfl;rw[e2] at this;rw[this]
theorem VZ{t sl:Addr}{items:Array Value}{vl vu:Value}{lo hi:Option Int}{Q:Value->Shared->Prop}(ht:IsTup s.heap t items)(hs:s.heap.IsSliceOf sl vl vu .none)(pl:IsPart vl lo)(pu:IsPart vu hi)(hw:¬(da items.size 0 lo=0/\da items.size items.size hi=items.size))(h:Q (.ref s.heap.objs.size) { s with heap:=s.heap.push { cls:=.type "tuple",data:=.seq ((items.toList.drop (da items.size 0 lo)).take (da items.size items.size hi-da items.size 0 lo)).toArray } })(hsz:items.size<=sizeLine):wpAny (model prog w) A (getItem (.ref t) (.ref sl)) Q E s:=by
 have kq:sizeOk (.seq ((items.toList.drop (da items.size 0 lo)).take (da items.size items.size hi-da items.size 0 lo)).toArray):=by
  show((items.toList.drop (da items.size 0 lo)).take (da items.size items.size hi-da items.size 0 lo)).toArray.size<=sizeLine;rw[aB,cO,kE,br];omega
 have hj:da items.size items.size hi<=items.size:=Pz _ _ (av _) hi;obtain⟨os,pQ,wu,uc⟩:=id hs;have zB:s.TypeIs (.ref sl) "slice":=⟨os,pQ,wu⟩
 unfold getItem
 try with_reducible refine bY ?_
 first|refine ae (ai ?_)|skip
 refine ae (wpAny_sequenceKey ht.typeIs (by decide) ?_);refine ae (eQ (name:=Str.ofString "__getitem__") ht.typeIs bD
  (cu bD ht.typeIs entry_tuple_getitem ?_ (args_tuple_getitem _ _)))
 show wpAny _ _ (Builtin.Tuple.tupleItemsOf (.ref t) >>= _) _ _ s;refine ae (tupleItemsOf_ ht ?_);refine ae (dX zB ?_);rw[aH (by decide)];refine ae (Q4 hs pl pu ?_);have lz:¬((((da items.size 0 lo:Nat):Int)==0&&(1:Int)==1&&(da items.size items.size hi-da items.size 0 lo)==items.size)=true):=by
  intro q;rw[aN,aN] at q;have q1:((da items.size 0 lo:Nat):Int)=0:=eq_of_beq q.1.1;have q2:da items.size items.size hi-da items.size 0 lo=items.size:=eq_of_beq q.2;exact hw ⟨by omega,by omega⟩
 show wpAny _ _ (if(((da items.size 0 lo:Nat):Int)==0&&(1:Int)==1&&(da items.size items.size hi-da items.size 0 lo)==items.size)=true then _ else _) _ _ s;rw[az lz,ZN]
 first
  |exact wpAny_bind (m:=Builtin.Tuple.tupleExact _) (wpAny_newObj_type (wpAny_pure ⟨_,rfl,wpAny_pure h⟩) kq)
  |exact wpAny_bind (m:=Builtin.Tuple.tupleExact _) (wpAny_newObj_type (wpAny_bind (wpAny_pure (wpAny_pure ⟨_,rfl,wpAny_pure h⟩))) kq)
  |exact wpAny_bind (wpAny_bind (m:=Builtin.Tuple.tupleExact _) (wpAny_newObj_type (wpAny_pure (wpAny_pure ⟨_,rfl,wpAny_pure h⟩)) kq))
  |exact wpAny_bind (wpAny_bind (m:=Builtin.Tuple.tupleExact _) (wpAny_newObj_type (wpAny_pure ⟨_,rfl,wpAny_pure h⟩) kq))
end
end HT
namespace L2
open PySem PySem.Spec PyProof.Rows
noncomputable abbrev TO:=St->Hp->(Option Int->Hp->Prop)->Prop
def PO(X:Cx)(e:Option Expr)(t:TO):Prop :=
 ∀(pins:List (Addr×Obj)) (s:Shared) (Z:St) (H:Hp) (Q:Option Int->Hp->Prop),Inv X pins Z H s->t Z H Q ->
  wpAny (model X.prog X.w) X.A (evalPart e X.env) (λu s'=>∃o H',Inv X pins Z H' s'/\IsPart u o/\Q o H') X.xe s
def Sr:TO:=λ_ H Q=>Q none H
def NC(t:TE):TO:=λZ H Q=>t Z H λx H1=>∃i,x=.int i/\Q (some i) H1
section
variable{X:Cx}{e:Expr}{te:TE}{lo hi:Option Expr}{tl th:TO}{pos p2:Pos}
theorem xM:PO X none Sr:=by
 intro pins s Z H Q I h;rw[evalPart_none];exact ai ⟨none,H,I,.none,h⟩
theorem HY(h:PE X e te):PO X (some e) (NC te):=by
 intro pins s Z H Q I hw;rw[evalPart_some];refine bX (h pins s Z H _ I hw) λu s1 aZ=>?_;obtain⟨x,H1,I1,r1,q1⟩:=aZ;obtain⟨i,rfl,q⟩:=q1;obtain⟨t,rfl⟩:=r1;exact⟨some i,H1,I1,.int i t,q⟩
def vB(X:Cx)(r:V->Option Int->Option Int->Hp->VK->Prop):Prop :=
 ∀(pins:List (Addr×Obj)) (s:Shared) (Z:St) (H:Hp) (x:V) (v vl vu:Value) (lo hi:Option Int) (sl:Addr) (Q:VK),Inv X pins Z H s->RelV x v->s.heap.IsSliceOf sl vl vu .none->IsPart vl lo->IsPart vu hi->r x lo hi H Q ->
  ∃T id,typeLookup (.type T) "__getitem__"=pure (some (.builtin id))/\s.TypeIs v T/\wpAny (model X.prog X.w) X.A (getItem v (.ref sl)) (EP X pins Z Q) X.xe s
def JO(r:V->Option Int->Option Int->Hp->VK->Prop)(te:TE)(tl th:TO):TE:=λZ H Q=>te Z H λx H1=>tl Z H1 λl H2=>th Z H2 λu H3=>r x l u H3 Q
theorem Bf{r:V->Option Int->Option Int->Hp->VK->Prop}(hr:vB X r)(he:PE X e te)(hl:PO X lo tl)(hu:PO X hi th):PE X (.Subscript e (.Slice lo hi none p2) pos) (JO r te tl th):=by
 intro pins s Z H Q I h;refine Subscript_ (bX (he pins s Z H _ I h) λv s1 aZ=>?_);obtain⟨x,H1,I1,r1,q1⟩:=aZ;refine wpAny_Slice (bX (hl pins s1 Z H1 _ I1 q1) λvl s2 ⟨l,H2,I2,pl,q2⟩=>bX (hu pins s2 Z H2 _ I2 q2) λvu s3 aZ=>?_);obtain⟨u,H3,I3,pu,q3⟩:=aZ;rw[evalPart_none];refine ai ?_;have I4:Inv X pins Z H3 { s3 with heap:=s3.heap.push { cls:=.type "slice",data:=.fields #[vl,vu,.none] } }:=I3.kept (t':=s3.toks) λb ob q=>aj _ q;obtain⟨T,id,hT,ht,hg⟩:=hr pins { s3 with heap:=s3.heap.push { cls:=.type "slice",data:=.fields #[vl,vu,.none] } } Z H3 x v vl vu l u s3.heap.objs.size Q I4 r1 (Heap.IsSliceOf.new ..) pl pu q3;show wpAny (model X.prog X.w) X.A (subscriptTail e (.Slice lo hi none p2) v (.ref s3.heap.objs.size)) (EP X pins Z Q) X.xe { s3 with heap:=s3.heap.push { cls:=.type "slice",data:=.fields #[vl,vu,.none] } };exact tail_any (ops:=[.ref s3.heap.objs.size,v]) ht hT hg (by with_unfolding_all rfl)
def R9(xs:List V)(lo hi:Option Int):List V:=(xs.drop (HT.da xs.length 0 lo)).take (HT.da xs.length xs.length hi-HT.da xs.length 0 lo)
theorem GG(xs:List V)(lo hi:Option Int):(R9 xs lo hi).length<=xs.length:=by
 unfold R9;rw[cO,kE];omega
def TJ(K:PySem.W.Frag):V->Option Int->Option Int->Hp->VK->Prop:=λx lo hi H Q=>∃a xs,x=.ref a/\gU K H a xs /\
 ¬(HT.da xs.length 0 lo=0/\HT.da xs.length xs.length hi=xs.length)/\∀p,H p=none->Q (.ref p) (upd H p (.tup (R9 xs lo hi)))
theorem Qe:vB X (TJ X.K):=by
 intro pins s Z H x v vl vu lo hi sl Q I rx hs pl pu h;obtain⟨a,xs,rfl,hx,hw,q⟩:=h;cases rx;obtain⟨aQ,r,ht,hz⟩:=I.tuple hx;have hlen:aQ.toArray.size=xs.length:=by rw[aB];exact r.length.symm
 refine⟨"tuple",_,bD.lookup,ht.typeIs,?_⟩;refine HT.VZ ht hs pl pu (by rw[hlen];exact hw) ?_ (by rw[hlen];exact hz);rw[hlen];refine⟨.ref s.heap.objs.size,_,I.laid (t':=s.toks) (o:=.tup (R9 xs lo hi)) (λb ob q=>aj _ q) (av _) ?_,rfl,q _ (I.bC.fresh (av _))⟩;exact⟨aC (GG xs lo hi) hz,_,(r.drop (HT.da xs.length 0 lo)).take (HT.da xs.length xs.length hi-HT.da xs.length 0 lo),F9.new _ _⟩
def Nh(K:PySem.W.Frag):R2:=λx y H Q=>∃a b xs ys,x=.ref a/\y=.ref b/\gU K H a xs/\gU K H b ys/\xs≠[]/\xs.length+ys.length<=sizeLine /\
 (ys=[]->Q (.ref a) H)/\(ys≠[]->∀p,H p=none->Q (.ref p) (upd H p (.tup (xs++ys))))
theorem Vals.P5{xs:List V}{us:List Value}(r:Vals xs us):us=[]↔xs=[]:=by
 cases r with
 |nil=>simp
 |cons _ _=>simp
theorem Rm:eZ X (binaryOp .Add) (Nh X.K):=by
 intro pins s Z H x y v u Q I rx ry h;obtain⟨a,b,xs,ys,rfl,rfl,ha,hb,hx,hz,q1,q2⟩:=h;cases rx;cases ry;obtain⟨aQ,r1,p1,_⟩:=I.tuple ha;obtain⟨lS,r2,p2,_⟩:=I.tuple hb;refine HT.QM p1 p2 (λz=>hx (r1.P5.mp z)) (λz=>⟨.ref a,H,I,rfl,q1 (r2.P5.mp z)⟩) (λz=>?_) (by rw[<- r1.length,<- r2.length];exact hz);refine⟨.ref s.heap.objs.size,_,I.laid (t':=s.toks) (o:=.tup (xs++ys)) (λb ob q=>aj _ q) (av _) ?_,rfl,q2 (λw=>z (r2.P5.mpr w)) _ (I.bC.fresh (av _))⟩;exact⟨by rw[aY];exact hz,_,r1.append r2,F9.new _ _⟩
end
def ke(n:Nat)(i:Int):Option Nat:=if 0<=i then(if i<n then some i.toNat else none) else if -(n:Int)<=i then some (i+n).toNat else none
def fE{α:Type}(xs:List α)(i:Int):Option α:=(ke xs.length i).bind λj=>xs[j]?
theorem HM{n:Nat}{i:Int}{j:Nat}(h:ke n i=some j):seqIndex? i n=some j/\j<n/\-(n:Int)<=i/\i<n:=by
 unfold ke at h;by_cases h0:0<=i
 ·rw[aH h0] at h;by_cases h1:i<n
  ·rw[aH h1] at h;have e:i.toNat=j:=aJ h;exact⟨by rw[seqIndex_of h0 h1,e],by omega,by omega,h1⟩
  ·rw[az h1] at h;cases h
 ·rw[az h0] at h;by_cases h1:-(n:Int)<=i
  ·rw[aH h1] at h;have e:(i+n).toNat=j:=aJ h;exact⟨by rw[seqIndex_neg (by omega) h1,e],by omega,h1,by omega⟩
  ·rw[az h1] at h;cases h
theorem AK{α:Type}{xs:List α}{i:Int}{v:α}(h:fE xs i=some v):∃j,seqIndex? i xs.length=some j/\xs[j]?=some v/\j<xs.length/\-(xs.length:Int)<=i/\i<xs.length:=by
 unfold fE at h;cases e:ke xs.length i with
 |none=>rw[e] at h;cases h
 |some j =>
  rw[e] at h;obtain⟨h1,h2,h3,h4⟩:=HM e;exact⟨j,h1,h,h2,h3,h4⟩
theorem F4{α:Type}{xs:List α}{j:Nat}{v:α}(h:xs[j]?=some v):fE xs (j:Int)=some v:=by
 have hj:j<xs.length:=(ak.mp h).1;have e:ke xs.length (j:Int)=some j:=by
  unfold ke;rw[aH (by omega),aH (by omega)];simp
 unfold fE;rw[e];exact h
def xy(b:Expr):Prop:=∀o i,subscripted b false o i=operate [o,i] (getItem o i)
def qE(X:Cx)(r:R2):Prop :=
 ∀(value slice:Expr) (pins:List (Addr×Obj)) (s:Shared) (Z:St) (H:Hp) (x y:V) (v u:Value) (Q:VK),Inv X pins Z H s->RelV x v->RelV y u->r x y H Q ->
  subscripted slice false v u=operate [v,u] (getItem v u)->wpAny (model X.prog X.w) X.A (subscriptTail value slice v u) (EP X pins Z Q) X.xe s
def mK(X:Cx)(id:String)(r:V->List V->Hp->VK->Prop):Prop :=
 ∀(pins:List (Addr×Obj)) (s:Shared) (Z:St) (H:Hp) (x:V) (xs:List V) (v:Value) (us:List Value) (Q:VK),Inv X pins Z H s->RelV x v->Vals xs us->r x xs H Q ->
  wpAny (model X.prog X.w) X.A (call (.builtin id) (v::us)) (EP X pins Z Q) X.xe s
section
variable{X:Cx}{a b:Expr}{ta tb:TE}{pos:Pos}
theorem BO{r:R2}(hr:qE X r)(ha:PE X a ta)(hb:PE X b tb)(hs:xy b):PE X (.Subscript a b pos) (qO r ta tb):=by
 intro pins s Z H Q I h;exact Subscript_ (Cp ha hb I h λv u s2 x y H2 I2 rx ry q=>hr a b pins s2 Z H2 x y v u Q I2 rx ry q (hs _ _))
def Tw(K:PySem.W.Frag):R2:=λx y H Q=>∃p xs i v,x=.ref p/\y=.int i/\fh K H p xs/\fE xs i=some v/\Q v H
def Tz(K:PySem.W.Frag):R2:=λx y H Q=>∃p xs i v,x=.ref p/\y=.int i/\gU K H p xs/\fE xs i=some v/\Q v H
def Tx:R2:=λx y H Q=>∃z i c,x=.str z/\y=.int i/\z.length<=sizeLine/\fE z.cps.toList i=some c/\Q (.str ⟨#[c]⟩) H
theorem HN:qE X (Tw X.K):=by
 intro value slice pins s Z H x y v u Q I rx ry h hs;obtain⟨p,xs,i,z,rfl,rfl,hq,he,q⟩:=h;cases rx;obtain⟨t,rfl⟩:=ry;obtain⟨aQ,r,pl,hz⟩:=I.list hq;obtain⟨j,h1,h2,h3,h4,h5⟩:=AK he;obtain⟨w,ew,fz⟩:=r.get h2;have hl:=r.length;have hn:=R5;have fin:EP X pins Z Q w s:=⟨z,H,I,fz,q⟩
 by_cases h0:0<=i
 ·have hj:i.toNat=j:=by
   rw[seqIndex_of h0 h5] at h1;exact aJ h1
  exact item_listR pl.isList h0 (by omega) (by rw[hj];simpa using ew) fin hs
 ·have hj:(i+(aQ.toArray.size:Int)).toNat=j:=by
   rw[seqIndex_neg (by omega) h4] at h1;rw[aB,<- hl];exact aJ h1
  exact subscriptTail_builtinR (x:=w) pl.isList.typeIs slot_list_getitem.lookup
   (wpAny_getItem_list_neg (Q:=λr s'=>r=w/\EP X pins Z Q r s') pl.isList (by omega) (by rw[aB]<;>omega) (by omega) (by rw[hj];simpa using ew) ⟨rfl,fin⟩) hs
theorem Oq:qE X (Tz X.K):=by
 intro value slice pins s Z H x y v u Q I rx ry h hs;obtain⟨p,xs,i,z,rfl,rfl,hq,he,q⟩:=h;cases rx;obtain⟨t,rfl⟩:=ry;obtain⟨aQ,r,pl,hz⟩:=I.tuple hq;obtain⟨j,h1,h2,h3,h4,h5⟩:=AK he;obtain⟨w,ew,fz⟩:=r.get h2;have hl:=r.length;have hn:=R5;have fin:EP X pins Z Q w s:=⟨z,H,I,fz,q⟩
 exact subscriptTail_builtinR (x:=w) pl.typeIs slot_tuple_getitem.lookup
  (getItem_tuple (j:=j) (Q:=λr s'=>r=w/\EP X pins Z Q r s') pl (by omega) (by omega) (by rw[aB,<- hl];exact h1) (by simpa using ew) ⟨rfl,fin⟩) hs
theorem Oo:qE X Tx:=by
 intro value slice pins s Z H x y v u Q I rx ry h hs;obtain⟨z,i,c,rfl,rfl,hz,he,q⟩:=h;obtain⟨t,rfl⟩:=rx;obtain⟨t',rfl⟩:=ry;obtain⟨j,h1,h2,h3,h4,h5⟩:=AK he;have hl:z.cps.toList.length=z.length:=by simp[Str.length]
 rw[hl] at h1 h4 h5;have hn:=R5;exact tail_any (typeIs_str s z t) slot_str_getitem.lookup (getItem_str (c:=c) (by
  have e1:decide (i < -(2 ^ 63:Int))=false:=aE (by omega);have e2:decide (i>=2 ^ 63)=false:=aE (by omega);rw [e1,e2,Bool.or_false]) (by rw [h1];simpa using h2) ⟨.str ⟨#[c]⟩,H,I.tok _,⟨_,rfl⟩,q⟩) hs
theorem Yc(aQ:List Value)(n j:Nat)(u:Value):Obj.mapSeq (·.setIfInBounds j u) { cls:=.type "list",data:=.seq aQ.toArray n }={ cls:=.type "list",data:=.seq (aQ.set j u).toArray n }:=by
 simp[Obj.mapSeq]
theorem Inv.lst{pins:List (Addr×Obj)}{Z:St}{H:Hp}{s:Shared}{p:Addr}{xs:List V}(I:Inv X pins Z H s)(h:H p=some (.lst xs)) :
  ∃(aQ:List Value) (n:Nat),Vals xs aQ/\s.heap.get? p=some { cls:=.type "list",data:=.seq aQ.toArray n }/\xs.length<=sizeLine:=by
 obtain⟨z,aQ,n,r,e⟩:=I.bC p _ h;exact⟨aQ,n,r,e,z⟩
theorem Inv.OC{pins:List (Addr×Obj)}{Z:St}{H:Hp}{s:Shared}{p:Addr}{xs ys:List V}{aQ its':List Value}{n n':Nat}{f:Obj->Obj}(I:Inv X pins Z H s)(h:H p=some (.lst xs))(ho:s.heap.get? p=some { cls:=.type "list",data:=.seq aQ.toArray n })(hf:f { cls:=.type "list",data:=.seq aQ.toArray n }={ cls:=.type "list",data:=.seq its'.toArray n' })(r:Vals ys its')(hz:ys.length<=sizeLine)(t:Nat) :
  Inv X pins Z (upd H p (.lst ys)) { s with heap:=s.heap.update p f,toks:=t }:=by
 have e:(s.heap.update p f).get? p=some { cls:=.type "list",data:=.seq its'.toArray n' }:=by
  rw[aV f ho (by rw[hf]<;>rfl),hf]
 refine I.write (x:=p) (e:=p) (by rw[h];trivial) (.inl rfl) (λb u hb q=>(bP _ _ (bA hb)).trans q) ⟨_,e⟩ ?_;exact⟨hz,its',n',r,e⟩
def Nk:V->V->V->Hp->(Hp->Prop)->Prop:=λo i v H Q=>∃p xs k j,o=.ref p/\i=.int k/\H p=some (.lst xs)/\ke xs.length k=some j/\Q (upd H p (.lst (xs.set j v)))
theorem set_list:Ck X Nk:=by
 intro pins s Z H o i v ov iv u Q I ro ri rv h;obtain⟨p,xs,k,j,rfl,rfl,hp,hj,q⟩:=h;cases ro;obtain⟨t,rfl⟩:=ri;obtain⟨aQ,n,r,ho,hz⟩:=I.lst hp;obtain⟨h1,h2,h3,h4⟩:=HM hj;have hl:=r.length;have hn:=R5;have I':Inv X pins Z (upd H p (.lst (xs.set j v))) { s with heap:=s.heap.update p (Obj.mapSeq (·.setIfInBounds j u)) } :=
  I.OC hp ho (Yc aQ n j u) (r.set rv j) (by rw[List.length_set];exact hz) s.toks
 by_cases h0:0<=k
 ·have hk:k.toNat=j:=by
   rw[seqIndex_of h0 h4] at h1;exact aJ h1
  exact PySem.W.ki_setAt ho h0 (by omega) (by rw[aB,<- hl];exact h4) (by rw[hk];exact⟨_,I',q⟩)
 ·have hk:(k+(aQ.toArray.size:Int)).toNat=j:=by
   rw[seqIndex_neg (by omega) h3] at h1;rw[aB,<- hl];exact aJ h1
  exact PySem.W.ki_setBack ho (by omega) (by rw[aB,<- hl];exact h3) (by omega) (by rw[hk];exact⟨_,I',q⟩)
theorem VB(lo hi:Option Int)(n:Nat):(sliceBounds lo hi none n).1=((HT.da n 0 lo:Nat):Int)/\(sliceBounds lo hi none n).2.1=((HT.da n n hi:Nat):Int)/\(sliceBounds lo hi none n).2.2=1:=by
 refine⟨?_,?_,rfl⟩
 ·cases lo with
  |none=>simp[sliceBounds,HT.da]
  |some i =>
   simp only[sliceBounds,HT.da,Option.getD_none,show(1:Int)>0 by decide,if_true];by_cases h:i<0
   ·simp only[h,if_true]<;>omega
   ·simp only[h,if_false]<;>omega
 ·cases hi with
  |none=>simp[sliceBounds,HT.da]
  |some i =>
   simp only[sliceBounds,HT.da,Option.getD_none,show(1:Int)>0 by decide,if_true];by_cases h:i<0
   ·simp only[h,if_true]<;>omega
   ·simp only[h,if_false]<;>omega
theorem VN(aQ:List Value)(lo hi:Option Int):slicePick aQ.toArray lo hi none=((aQ.drop (HT.da aQ.length 0 lo)).take (HT.da aQ.length aQ.length hi-HT.da aQ.length 0 lo)).toArray:=by
 obtain⟨h1,h2,h3⟩:=VB lo hi aQ.toArray.size;unfold slicePick;rw[h1,h2,h3];simp only[sliceRange_one,pick_run,List.size_toArray]<;>rfl
def TH(K:PySem.W.Frag):V->Option Int->Option Int->Hp->VK->Prop:=λx lo hi H Q=>∃a xs,x=.ref a/\fh K H a xs/\∀p,H p=none->Q (.ref p) (upd H p (.lst (R9 xs lo hi)))
theorem Si:vB X (TH X.K):=by
 intro pins s Z H x v vl vu lo hi sl Q I rx hs pl pu h;obtain⟨a,xs,rfl,hx,q⟩:=h;cases rx;obtain⟨aQ,r,ht,hz⟩:=I.list hx;have hlen:=r.length;refine⟨"list",_,slot_list_getitem.lookup,ht.isList.typeIs,?_⟩;refine wpAny_getItem_list_slice ht.isList hs pl pu .none (by simp) ?_ (by rw[aB]<;>omega);rw[VN,<- hlen];refine⟨.ref s.heap.objs.size,_,I.laid (t':=s.toks) (o:=.lst (R9 xs lo hi)) (λb ob q=>aj _ q) (av _) ?_,rfl,q _ (I.bC.fresh (av _))⟩;exact⟨aC (GG xs lo hi) hz,_,0,(r.drop (HT.da xs.length 0 lo)).take (HT.da xs.length xs.length hi-HT.da xs.length 0 lo),aA _ rfl⟩
def Ey:V->V->Bool
 |.bx,.bx=>true
 |.bl a,.bl b=>a==b
 |.bl a,.int b=>(if a then 1 else 0)==b
 |.int a,.bl b=>a==(if b then 1 else 0)
 |.int a,.int b=>a==b
 |.str a,.str b=>a==b
 |_,_=>false
theorem YV:k9 X (.builtin "len") (λxs H Q=>∃p ys,xs=[.ref p]/\(fh X.K H p ys\/gU X.K H p ys)/\Q (.int ys.length) H):=by
 intro pins s Z H xs us Q I r h;obtain⟨p,ys,rfl,hq,q⟩:=h;obtain⟨u,rfl,rx⟩:=vals1 r;cases rx;have hn:=R5;rcases hq with hq|hq
 ·obtain⟨aQ,r',pl,hz⟩:=I.list hq;have hlen:=r'.length;exact Calls.call_len_list pl.isList (by simp only[List.size_toArray]<;>omega) ⟨.int ys.length,H,I.tok _,⟨s.toks+1,by rw[aB,hlen]⟩,q⟩
 ·obtain⟨aQ,r',pl,hz⟩:=I.tuple hq;have hlen:=r'.length;exact len_tuple pl (by simp only[List.size_toArray]<;>omega) ⟨.int ys.length,H,I.tok _,⟨s.toks+1,by rw[aB,hlen]⟩,q⟩
theorem YW:k9 X (.builtin "len") (λxs H Q=>∃z,xs=[.str z]/\z.length<=sizeLine/\Q (.int z.length) H):=by
 intro pins s Z H xs us Q I r h;obtain⟨z,rfl,hz,q⟩:=h;obtain⟨u,rfl,t,rfl⟩:=vals1 r;have hn:=R5;exact len_str (by omega) ⟨.int z.length,H,I.tok _,⟨_,rfl⟩,q⟩
theorem YX:k9 X (.type "list") (λxs H Q=>∃p ys,xs=[.ref p]/\(fh X.K H p ys\/gU X.K H p ys)/\∀l,H l=none->Q (.ref l) (upd H l (.lst ys))):=by
 intro pins s Z H xs us Q I r h;obtain⟨p,ys,rfl,hq,q⟩:=h;obtain⟨u,rfl,rx⟩:=vals1 r;cases rx;have fin:∀(aQ:List Value),Vals ys aQ->ys.length<=sizeLine->∀(h':Heap) (c':Nat),(∀b o',s.heap.get? b=some o'->h'.get? b=some o') ->
   h'.get? s.heap.objs.size=some { cls:=.type "list",dict:=none,data:=.seq aQ.toArray c',slots:=#[] }->EP X pins Z Q (.ref s.heap.objs.size) { s with heap:=h' }:=λaQ r' hz h' c' kp e =>
  ⟨.ref s.heap.objs.size,_,I.laid (t':=s.toks) kp (av _) (show k8 X.prog X.w _ h' _ (.lst ys) from⟨hz,aQ,c',r',e⟩),rfl,q _ (I.bC.fresh (av _))⟩
 rcases hq with hq|hq
 ·obtain⟨aQ,r',pl,hz⟩:=I.list hq;have hlen:=r'.length;obtain⟨o,ho,hc,n,hd⟩:=pl.isList;exact call_list_seq p (.inl rfl) ho hc hd (λh' c' kp e=>fin aQ r' hz h' c' kp e) (by simp only[List.size_toArray]<;>omega)
 ·obtain⟨aQ,r',pl,hz⟩:=I.tuple hq;have hlen:=r'.length;obtain⟨o,ho,hc,n,hd⟩:=pl;exact call_list_seq p (.inr rfl) ho hc hd (λh' c' kp e=>fin aQ r' hz h' c' kp e) (by simp only[List.size_toArray]<;>omega)
theorem VD:k9 X (.type "tuple") (λxs H Q=>∃p ys,xs=[.ref p]/\((fh X.K H p ys/\∀l,H l=none->Q (.ref l) (upd H l (.tup ys)))\/(gU X.K H p ys/\Q (.ref p) H))):=by
 intro pins s Z H xs us Q I r h;obtain⟨p,ys,rfl,h⟩:=h;obtain⟨u,rfl,rx⟩:=vals1 r;cases rx;rcases h with⟨hq,q⟩|⟨hq,q⟩
 ·obtain⟨aQ,r',pl,hz⟩:=I.list hq;have hlen:=r'.length;refine call_tuple_list pl.isList (λh' kp=>?_) (by simp only[List.size_toArray]<;>omega);have I1:Inv X pins Z H { s with heap:=h' }:=I.kept (t':=s.toks) kp;have I2:Inv X pins Z (upd H h'.objs.size (.tup ys)) { s with heap:=h'.push { cls:=.type "tuple",data:=.seq aQ.toArray } } :=
   I1.laid (t':=s.toks) (λb o e=>aj _ e) (av _) (show k8 X.prog X.w _ _ _ (.tup ys) from⟨hz,aQ,r',F9.new _ _⟩)
  exact⟨.ref h'.objs.size,_,I2,rfl,q _ (I1.bC.fresh (av _))⟩
 ·obtain⟨aQ,r',pl,hz⟩:=I.tuple hq;exact call_tuple_same pl ⟨.ref p,H,I,rfl,q⟩
def mO(K:PySem.W.Frag)(T:String)(x:V)(H:Hp):Prop:=match x with
 |.str _=>T="str"
 |.int _=>T="int"
 |.ref p=>(T="list"/\∃xs,fh K H p xs)\/(T="tuple"/\∃o,K.lookup p=some o/\o.cls=.type "tuple"/\o.dict=none) \/
   (T="dict"/\((∃kvs,H p=some (.dK kvs))\/∃kvs,H p=some (.dT kvs)))\/(T="set"/\∃S n,H p=some (.set S n))
 |_=>False
theorem HA{pins:List (Addr×Obj)}{Z:St}{H:Hp}{s:Shared}{T:String}{x:V}{v:Value}(I:Inv X pins Z H s)(r:RelV x v)(ty:mO X.K T x H) :
  s.TypeIs v T/\∀a,v=.ref a->∃ob,s.heap.get? a=some ob/\ob.dict=none:=by
 cases x with
 |str z =>
  obtain⟨t,rfl⟩:=r;cases (show T="str" from ty);exact⟨typeIs_str s z t,λ_ e=>nomatch e⟩
 |int i =>
  obtain⟨t,rfl⟩:=r;cases (show T="int" from ty);exact⟨lE s i t,λ_ e=>nomatch e⟩
 |ref p =>
  cases r;rcases ty with⟨rfl,xs,hq⟩|⟨rfl,o,hk,hc,hd⟩|⟨rfl,hk⟩|⟨rfl,S,n,hk⟩
  ·obtain⟨aQ,_,pl,_⟩:=I.list hq;refine⟨pl.isList.typeIs,λa e=>?_⟩;cases e;obtain⟨o,n,e,c,hd,_⟩:=pl;exact⟨o,e,hd⟩
  ·refine⟨⟨o,I.gf p o hk,hc⟩,λa e=>?_⟩;cases e;exact⟨o,I.gf _ o hk,hd⟩
  ·have z:∃o,s.heap.get? p=some o/\o.ExactDict:=by
    rcases hk with⟨kvs,hk⟩|⟨kvs,hk⟩
    ·obtain⟨_,_,_,_,o,_,_,e,ex,_⟩:=I.bC p _ hk;exact⟨o,e,ex⟩
    ·obtain⟨_,_,_,_,o,_,_,e,ex,_⟩:=I.bC p _ hk;exact⟨o,e,ex⟩
   obtain⟨o,e,ex⟩:=z;refine⟨⟨o,e,ex.1⟩,λa e2=>?_⟩;cases e2;exact⟨o,e,ex.2.1⟩
  ·obtain⟨o,_,_,_,e,ex,_⟩:=I.bC p _ hk;refine⟨⟨o,e,ex.1⟩,λa e2=>?_⟩;cases e2;exact⟨o,e,ex.2.1⟩
 |_=>exact False.elim ty
def Ua(K:PySem.W.Frag)(T:String)(r:V->List V->Hp->VK->Prop)(to:TE):TE:=λZ H Q=>to Z H λx H1=>mO K T x H1/\r x [] H1 Q
def JR(K:PySem.W.Frag)(T:String)(r:V->List V->Hp->VK->Prop)(to:TE)(t:TA):TE:=λZ H Q=>to Z H λx H1=>mO K T x H1/\t Z H1 λxs H2=>r x xs H2 Q
variable{o e:Expr}{es:List Expr}{to:TE}{t:TA}{name:Str}{apos ft:Pos}{T id:String}{r:V->List V->Hp->VK->Prop}
theorem OY(pa:PlainAttrs T)(slot:Slot T name id)(iW:typeOf (.builtin id)=pure (.type "method_descriptor"))(hm:mK X id r)(ho:PE X o to)(iE:attributeBase o name X.env (eval o X.env)=eval o X.env:=by rfl)(iC:(apos.endLine==ft.line)=true:=by rfl):PE X (.Call (.Attribute o name apos) [] [] ft) (Ua X.K T r to):=by
 intro pins s Z H Q I h;refine wpAny_Call_method0_late iE iC (bX (ho pins s Z H _ I h) λv s1 aZ=>?_);obtain⟨x,H1,I1,r1,ty,q1⟩:=aZ;obtain⟨h1,h2⟩:=HA I1 r1 ty;exact⟨T,id,pa,slot,iW,h1,h2,Calls.callWith_builtin rfl (PySem.evalArgs_none (hm pins s1 Z H1 x [] v [] Q I1 r1 .nil q1))⟩
theorem Vs(pa:PlainAttrs T)(slot:Slot T name id)(iW:typeOf (.builtin id)=pure (.type "method_descriptor"))(hm:mK X id r)(ho:PE X o to)(ha:PA X (e::es) t)(iE:attributeBase o name X.env (eval o X.env)=eval o X.env:=by rfl)(pT:((backTo ft (starEach (e :: es) X.env)).all (λx=>!x.1) && (backToKw ft (keywordEach [] X.env)).all (λx=>x.1.isSome)
   && decide ((e :: es).length + ([]:List Keyword).length + (if ([]:List Keyword).isEmpty then 0 else 1) < 30))=true:=by rfl)(iC:(apos.endLine==ft.line)=true:=by rfl)(hs:starEach (e::es) X.env=(false,eval e X.env)::starEach es X.env:=by rfl)(fS:(backTo ft (starEach es X.env)).any (·.1)=false:=by rfl) :
  PE X (.Call (.Attribute o name apos) (e::es) [] ft) (JR X.K T r to t):=by
 intro pins s Z H Q I h;refine wpAny_Call_method_late iE pT iC rfl (bX (ho pins s Z H _ I h) λv s1 aZ=>?_);obtain⟨x,H1,I1,r1,ty,q1⟩:=aZ;obtain⟨h1,h2⟩:=HA I1 r1 ty;refine⟨T,id,pa,slot,iW,h1,h2,?_⟩;have hA:=ha ft pins s1 Z H1 _ I1 q1;rw[hs] at hA ⊢;refine Calls.callWith_builtin (by show(false||(backTo ft (starEach es X.env)).any (·.1))=false;rw[fS]<;>rfl) (Calls.evalArgs_plain ?_);exact bX hA λus s2 ⟨vs,H2,I2,r2,q2⟩=>hm pins s2 Z H2 x vs v us Q I2 r1 r2 q2
end
def Jn(X:Cx)(id:String)(r:V->List V->Hp->VK->Prop):Prop :=
 ∀(pins:List (Addr×Obj)) (s:Shared) (Z:St) (H:Hp) (x:V) (xs:List V) (v:Value) (us:List Value) (Q:VK),Inv X pins Z H s->RelV x v->Vals xs us->r x xs H Q ->
  wpAny (model X.prog X.w) X.A (call (.builtin id) (v::us)) (EP X pins Z Q) X.xe s
theorem Vals.one{x:V}{us:List Value}(h:Vals [x] us):∃u,us=[u]/\RelV x u:=by
 cases h with
 |cons r h =>
  cases h;exact⟨_,rfl,r⟩
theorem Vals.zero:∀{us:List Value},Vals [] us->us=[]
 |_,.nil=>rfl
theorem Vals.eraseIdx:∀{xs:List V} {us:List Value} (i:Nat),Vals xs us->Vals (xs.eraseIdx i) (us.eraseIdx i)
 |_,_,_,.nil=>.nil
 |_,_,0,.cons _ t=>t
 |_,_,i+1,.cons r t=>.cons r (Vals.eraseIdx i t)
theorem Vals.reverse{xs:List V}{us:List Value}(h:Vals xs us):Vals xs.reverse us.reverse:=by
 induction h with
 |nil=>exact .nil
 |cons r t ih=>rw[fW,fW];exact Vals.append ih (.cons r .nil)
theorem Vals.rep{xs:List V}{us:List Value}(h:Vals xs us):∀k:Nat,Vals (List.replicate k xs).flatten (List.replicate k us).flatten
 |0=>.nil
 |k+1=>by
  rw[bO,bO,cG,cG];exact Vals.append h (Vals.rep h k)
theorem FW{α:Type}:∀(l:List α) (i:Nat),(l.eraseIdx i).length<=l.length
 |[],_=>av _
 |_::_,0=>fV _
 |_::r,i+1=>Nat.succ_le_succ (FW r i)
theorem foldl_rep(aQ:List Value):∀(k:Nat) (acc:List Value),
  List.foldl (λx1 x2=>x1++x2) acc.toArray (List.replicate k aQ.toArray)=(acc++(List.replicate k aQ).flatten).toArray
 |0,acc=>by simp
 |k+1,acc=>by
  have e:acc.toArray++aQ.toArray=(acc++aQ).toArray:=by simp
  have e2:(acc++aQ)++(List.replicate k aQ).flatten=acc++(List.replicate (k+1) aQ).flatten:=by
   rw[bO,cG,fZ]
  rw[<- e2,<- foldl_rep aQ k (acc++aQ),<- e,bO,List.foldl_cons]
section
variable{X:Cx}{pins:List (Addr×Obj)}{Z:St}{H:Hp}{s:Shared}{l b:Addr}{xs ys zs:List V}
theorem Inv.rH{aQ its':List Value}{n:Nat}{f:Array Value->Array Value}{t':Nat}(I:Inv X pins Z H s)(hH:H l=some (.lst xs))(e:s.heap.get? l=some { cls:=.type "list",data:=.seq aQ.toArray n })(hf:f aQ.toArray=its'.toArray)(hv:Vals ys its')(hz:ys.length<=sizeLine) :
  Inv X pins Z (upd H l (.lst ys)) { s with heap:=s.heap.update l (Obj.mapSeq f),toks:=t' }:=by
 have q:=PySem.IsL.update e f;rw[hf] at q;refine I.write (x:=l) (e:=l) (by rw[hH];exact trivial) (.inl rfl) (λb' u hb hu=>(bP s.heap (Obj.mapSeq f) (bA hb)).trans hu) ⟨_,q⟩ ?_;exact⟨hz,its',_,hv,q⟩
theorem Inv.Fc{aQ:List Value}{t':Nat}(I:Inv X pins Z H s)(hv:Vals ys aQ)(hz:ys.length<=sizeLine) :
  Inv X pins Z (upd H s.heap.objs.size (.lst ys)) { s with heap:=s.heap.push { cls:=.type "list",data:=.seq aQ.toArray },toks:=t' } :=
 I.laid (λ_ _ q=>aj _ q) (av _) ⟨hz,aQ,0,hv,aA _ rfl⟩
theorem Inv.fresh(I:Inv X pins Z H s):H s.heap.objs.size=none:=I.bC.fresh (av _)
theorem Inv.uS(I:Inv X pins Z H s)(hH:H l=some (.lst xs)):xs.length<=sizeLine/\∃(aQ:List Value) (n:Nat),Vals xs aQ/\xs.length=aQ.length/\s.heap.get? l=some { cls:=.type "list",data:=.seq aQ.toArray n }:=by
 obtain⟨z,aQ,n,r,e⟩:=I.bC l _ hH;exact⟨z,aQ,n,r,r.length,e⟩
theorem ZE{n:Nat}(h:n<=sizeLine):Builtin.List.listTooLong n=false:=by
 unfold Builtin.List.listTooLong;exact aE (by omega)
end
section
variable{X:Cx}
def RN:V->List V->Hp->VK->Prop:=λx vs H Q=>∃l xs y,x=.ref l/\vs=[y]/\H l=some (.lst xs)/\xs.length<sizeLine/\Q .bx (upd H l (.lst (xs++[y])))
theorem Xa:Jn X "list.append" RN:=by
 intro pins s Z H x vs v us Q I rx rv h;obtain⟨l,xs,y,rfl,rfl,hH,hz,q⟩:=h;cases rx;obtain⟨u,rfl,ru⟩:=rv.one;obtain⟨z,aQ,n,r,hl,e⟩:=I.uS hH;refine eK F.slot_list_append ⟨_,e,rfl⟩ F.entry_list_append (F.args_list_append_2 _ _) (PySem.list_append l aQ.toArray n u (by rw[aB];omega)) ⟨e,?_⟩;refine⟨.bx,_,I.rH (its':=aQ++[u]) hH e (by simp) (r.append (.cons ru .nil)) ?_,rfl,q⟩;rw[aY,ie];omega
def Py:V->List V->Hp->VK->Prop:=λx vs H Q=>∃l xs i k y,x=.ref l/\vs=[.int i]/\H l=some (.lst xs)/\-(2 ^ 63)<=i/\i<2 ^ 63/\seqIndex? i xs.length=some k/\xs[k]?=some y/\Q y (upd H l (.lst (xs.eraseIdx k)))
theorem Zz:Jn X "list.pop" Py:=by
 intro pins s Z H x vs v us Q I rx rv h;obtain⟨l,xs,i,k,y,rfl,rfl,hH,h1,h2,hk,hy,q⟩:=h;cases rx;obtain⟨u,rfl,ru⟩:=rv.one;obtain⟨t,rfl⟩:=ru;obtain⟨z,aQ,n,r,hl,e⟩:=I.uS hH;obtain⟨w,hw,fz⟩:=r.get hy;refine eK F.slot_list_pop ⟨_,e,rfl⟩ F.entry_list_pop (F.args_list_pop_2 _ _)
  (MeetsSeq.list_pop_at l aQ.toArray n i t k w (fitsIndex_both h1 h2) (by rw[aB,<- hl];exact hk) (by rw[<- ik];exact hw) (by rw[aB];omega)) ⟨e,?_⟩
 refine⟨y,_,I.rH (its':=aQ.eraseIdx k) hH e ?_ (r.eraseIdx k) ?_,fz,q⟩
 ·show aQ.toArray.eraseIdxIfInBounds k=(aQ.eraseIdx k).toArray;rw[List.eraseIdxIfInBounds_toArray]
 ·have:=FW xs k;omega
def Tv:R2:=λx y H Q=>∃l b xs zs,x=.ref l/\y=.ref b/\H l=some (.lst xs)/\H b=some (.lst zs)/\xs.length+zs.length<=sizeLine/\∀p,H p=none->Q (.ref p) (upd H p (.lst (xs++zs)))
theorem ON:eZ X (binaryOp .Add) Tv:=by
 intro pins s Z H x y v u Q I rx ry h;obtain⟨l,b,xs,zs,rfl,rfl,hH,hB,hz,q⟩:=h;cases rx;cases ry;obtain⟨z,aQ,n,r,hl,e⟩:=I.uS hH;obtain⟨z2,lS,n2,r2,hl2,e2⟩:=I.uS hB;refine PySem.P.add_list e e2 ?_ (by rw[aB,aB];omega);have ea:aQ.toArray++lS.toArray=(aQ++lS).toArray:=by simp
 rw[ea];exact⟨.ref _,_,I.Fc (t':=s.toks) (r.append r2) (by rw[aY];omega),rfl,q _ I.fresh⟩
def TB:R2:=λx y H Q=>∃l k xs,x=.ref l/\y=.int k/\H l=some (.lst xs)/\-(2 ^ 63)<=k/\k<2 ^ 63/\xs.length*k.toNat<=sizeLine /\
 ∀p,H p=none->Q (.ref p) (upd H p (.lst (List.replicate k.toNat xs).flatten))
theorem len_rep{α:Type}(xs:List α)(k:Nat):(List.replicate k xs).flatten.length=k*xs.length:=by
 induction k with
 |zero=>simp
 |succ k ih=>rw[bO,cG,aY,ih,Nat.succ_mul,Nat.add_comm]
theorem OS:eZ X (binaryOp .Mult) TB:=by
 intro pins s Z H x y v u Q I rx ry h;obtain⟨l,k,xs,rfl,rfl,hH,h1,h2,hz,q⟩:=h;cases rx;obtain⟨t,rfl⟩:=ry;obtain⟨z,aQ,n,r,hl,e⟩:=I.uS hH;have hlen:aQ.toArray.size*k.toNat<=sizeLine:=by rw[aB,<- hl];exact hz
 have zr:¬aQ.toArray.size*k.toNat>(2 ^ 63-1) / 8:=by
  have:(sizeLine:Nat)<=(2 ^ 63-1) / 8:=by decide
  omega
 have zo:¬(!Builtin.List.listFitsIndex k)=true:=by
  rw[fitsIndex_both h1 h2];exact cZ
 have tW:¬Builtin.List.listTooLong (aQ.toArray.size*k.toNat)=true:=by
  rw[ZE hlen];exact cZ
 have zb:List.foldl (λx1 x2=>x1++x2) #[] (List.replicate (if aQ.toArray.isEmpty=true then 0 else k.toNat) aQ.toArray)=(List.replicate k.toNat aQ).flatten.toArray:=by
  have f0:∀m:Nat,List.foldl (λx1 x2=>x1++x2) #[] (List.replicate m aQ.toArray)=(List.replicate m aQ).flatten.toArray:=λm=>by
   have:=foldl_rep aQ m [];rw[List.nil_append] at this;exact this
  rw[f0];cases aQ with
  |nil=>simp
  |cons a r'=>rw[if_neg (by simp)]
 refine CL (T:="list") (U:="int") (by decide) ⟨_,e,rfl⟩ (λs'=>lE s' k t) noFill_list_mul F.fills_int_mul jo repeat_list F.slot_int_index.lookup
  (eK jo (lE s k t) F.entry_int_rmul (F.args_int_rmul_2 _ _) (int___rmul___int_list k t l aQ.toArray n)
   ⟨e,rfl,⟨_,e,rfl⟩,eK F.slot_list_mul ⟨_,e,rfl⟩ F.entry_list_mul (F.args_list_mul_2 _ _) (AutoListH.list___mul___list_int_3 l aQ.toArray n k t zo zr tW) ⟨e,?_⟩⟩)
 rw[zb];exact⟨.ref _,_,I.Fc (t':=s.toks) (r.rep k.toNat) (by rw[len_rep,sk];exact hz),rfl,q _ I.fresh⟩
end
section
variable{prog:Program}{w:World}{A:Around}{E:Value->Shared->Prop}{s:Shared}
end
section
variable{X:Cx}
end
end L2

namespace L2
open PySem PySem.Spec PyProof.Rows
section
variable{κ:Type}[DecidableEq κ]
def J7(kvs:List (κ×V))(k:κ):Option V:=(kvs.find? λkv=>decide (kv.1=k)).map (·.2)
def putK(kvs:List (κ×V))(k:κ)(v:V):List (κ×V) :=
 if(kvs.any λkv=>decide (kv.1=k))=true then kvs.map (λkv=>if kv.1=k then(kv.1,v) else kv) else kvs++[(k,v)]
theorem Bk{p:κ×V}{r:List (κ×V)}{k:κ}(e:p.1=k):J7 (p::r) k=some p.2:=by simp[J7,List.find?_cons,e]
theorem Bj{p:κ×V}{r:List (κ×V)}{k:κ}(e:¬p.1=k):J7 (p::r) k=J7 r k:=by simp[J7,List.find?_cons,e]
theorem FD(k:κ):∀kvs:List (κ×V),(kvs.any λkv=>decide (kv.1=k))=(J7 kvs k).isSome
 |[]=>rfl
 |p::r=>by
  rw[eX];by_cases e:p.1=k
  ·simp only[Bk e,decide_eq_true e,Bool.true_or,Option.isSome_some]
  ·rw[Bj e,aE e,pe];exact FD k r
theorem U6(kvs:List (κ×V))(k:κ)(v:V):(putK kvs k v).length<=kvs.length+1:=by
 unfold putK;split
 ·rw[ah];omega
 ·rw[aY,cP,List.length_nil];omega
theorem E7.O0{o:Option V}{u:Option Value}(r:E7 o u):o.isSome=u.isSome:=by
 cases o with
 |none=>cases u with
  |none=>rfl
  |some _=>exact(show False from r).elim
 |some _=>cases u with
  |none=>exact(show False from r).elim
  |some _=>rfl
theorem E7.getD{o:Option V}{u:Option Value}{d:V}{d':Value}(r:E7 o u)(rd:RelV d d'):RelV (o.getD d) (u.getD d'):=by
 cases o with
 |none=>cases u with
  |none=>exact rd
  |some _=>exact(show False from r).elim
 |some _=>cases u with
  |none=>exact(show False from r).elim
  |some _=>exact r
theorem KV.val{kvs:List (κ×V)}{vs:List (κ×Value)}(r:KV kvs vs)(k:κ):E7 (J7 kvs k) (valueAt vs k):=by
 unfold KV at r
 induction r with
 |nil=>exact True.intro
 |@cons p q ps qs h t ih =>
  obtain⟨h1,h2⟩:=h;by_cases e:p.1=k
  ·have e':q.1=k:=h1.symm.trans e;have b:valueAt (q::qs) k=some q.2:=by simp[valueAt,List.find?_cons,e']
   rw[Bk e,b];exact h2
  ·have e':¬q.1=k:=λz=>e (h1.trans z);have b:valueAt (q::qs) k=valueAt qs k:=by simp[valueAt,List.find?_cons,e']
   rw[Bj e,b];exact ih
theorem KV.any{kvs:List (κ×V)}{vs:List (κ×Value)}(r:KV kvs vs)(k:κ):(kvs.any λkv=>decide (kv.1=k))=vs.any λkv=>decide (kv.1=k):=by
 unfold KV at r
 induction r with
 |nil=>rfl
 |cons h t ih=>rw[eX,eX,ih,h.1]
theorem KV.Cy{kvs:List (κ×V)}{vs:List (κ×Value)}(r:KV kvs vs)(k:κ){y:V}{u:Value}(ry:RelV y u) :
  KV (kvs.map λkv=>if kv.1=k then(kv.1,y) else kv) (vs.map λkv=>if kv.1=k then(kv.1,u) else kv):=by
 unfold KV at r ⊢
 induction r with
 |nil=>exact .nil
 |@cons p q ps qs h t ih =>
  rw[aW,aW];refine .cons ?_ ih;obtain⟨h1,h2⟩:=h;by_cases e:p.1=k
  ·rw[aH e,aH (h1.symm.trans e)];exact⟨h1,ry⟩
  ·rw[az e,az (λz=>e (h1.trans z))];exact⟨h1,h2⟩
theorem KV.put{kvs:List (κ×V)}{vs:List (κ×Value)}(r:KV kvs vs)(k:κ){y:V}{u:Value}(ry:RelV y u):KV (putK kvs k y) (stored vs k u):=by
 unfold putK stored;rw[r.any k];by_cases e:(vs.any λkv=>decide (kv.1=k))=true
 ·rw[aH e,aH e];exact r.Cy k ry
 ·rw[az e,az e];exact Paired.snoc r ⟨rfl,ry⟩
theorem KV.keys{kvs:List (κ×V)}{vs:List (κ×Value)}(r:KV kvs vs):kvs.map (·.1)=vs.map (·.1):=by
 unfold KV at r
 induction r with
 |nil=>rfl
 |cons h t ih=>rw[aW,aW,ih,h.1]
theorem KV.length{kvs:List (κ×V)}{vs:List (κ×Value)}(r:KV kvs vs):kvs.length=vs.length:=kX r
end
theorem Z4{P:Program}{w:World}{k:Key}{u:Value}(r:RelV (kV k) u):(n9 P w).is k u=true:=by
 cases k with
 |inl i=>obtain⟨t,e⟩:=(show ∃t,u=Value.int i t from r);subst e;exact YK P w i t
 |inr x=>obtain⟨t,e⟩:=(show ∃t,u=Value.str x t from r);subst e;exact YL P w x t
theorem FV{P:Program}{w:World}:∀{ks:List Key} {us:List Value},Vals (ks.map kV) us->ItemsAre (n9 P w) ks us
 |[],_,r=>by rw[sx] at r;cases r;exact .nil
 |k::ks,_,r=>by
  rw[aW] at r;cases r with
  |cons h t=>exact .cons (Z4 h) (FV t)
noncomputable abbrev KT(H:Hp):List (List Key×V)->List (List Key×Addr×Value)->Prop:=Paired λp q=>p.1=q.1/\H q.2.1=some (.tup (p.1.map kV))/\RelV p.2 q.2.2
theorem KT.val{H:Hp}{kvs:List (List Key×V)}{xs:List (List Key×Addr×Value)}(r:KT H kvs xs)(k:List Key):E7 (J7 kvs k) ((atKey xs k).map (·.2)):=by
 induction r with
 |nil=>exact True.intro
 |@cons p q ps qs h t ih =>
  obtain⟨h1,_,h2⟩:=h;by_cases e:p.1=k
  ·have e':q.1=k:=h1.symm.trans e;have b:atKey (q::qs) k=some q.2:=by simp[atKey,List.find?_cons,e']
   rw[Bk e,b];exact h2
  ·have e':¬q.1=k:=λz=>e (h1.trans z);have b:atKey (q::qs) k=atKey qs k:=by simp[atKey,List.find?_cons,e']
   rw[Bj e,b];exact ih
theorem KT.Cy{H:Hp}{kvs:List (List Key×V)}{xs:List (List Key×Addr×Value)}(r:KT H kvs xs)(k:List Key){y:V}{u:Value}(ry:RelV y u) :
  KT H (kvs.map λkv=>if kv.1=k then(kv.1,y) else kv) (xs.map (putAt k u)):=by
 induction r with
 |nil=>exact .nil
 |@cons p q ps qs h t ih =>
  rw[aW,aW];refine .cons ?_ ih;obtain⟨h1,h2,h3⟩:=h;unfold putAt;by_cases e:p.1=k
  ·rw[aH e,aH (h1.symm.trans e)];exact⟨h1,h2,ry⟩
  ·rw[az e,az (λz=>e (h1.trans z))];exact⟨h1,h2,h3⟩
theorem KT.put{H:Hp}{kvs:List (List Key×V)}{xs:List (List Key×Addr×Value)}(r:KT H kvs xs)(k:List Key){b:Addr}{y:V}{u:Value}(hb:H b=some (.tup (k.map kV)))(ry:RelV y u) :
  KT H (putK kvs k y) (storedH xs k b u):=by
 have e:(kvs.any λkv=>decide (kv.1=k))=(atKey xs k).isSome:=by
  rw[FD,(r.val k).O0,jX]
 unfold putK storedH;rw[e];by_cases q:(atKey xs k).isSome=true
 ·rw[aH q,aH q];exact r.Cy k ry
 ·rw[az q,az q];exact Paired.snoc r ⟨rfl,hb,ry⟩
theorem KT.keeps{H H':Hp}{kvs:List (List Key×V)}{xs:List (List Key×Addr×Value)}(r:KT H kvs xs)(ht:∀b ys,H b=some (.tup ys)->H' b=some (.tup ys)):KT H' kvs xs :=
 Paired.Fd r λ_ _ z=>⟨z.1,ht _ _ z.2.1,z.2.2⟩
section
variable{P:Program}{w:World}{H:Hp}{h:Heap}{a:Addr}
theorem IZ{u:HO}(ok:fF P w H h)(e:Rd H a u):k8 P w H h a u:=e.ok ok
theorem qz{kvs:List (Key×V)}(ok:fF P w H h)(e:Rd H a (.dK kvs)):kvs.length<=sizeLine/\(a==sysModules)=false/\∃vs,KV kvs vs/\h.DictOf (n9 P w) a vs :=
 show k8 P w H h a (.dK kvs) from IZ ok e
theorem IL{kvs:List (Key×V)}(ok:fF P w H h)(e:H a=some (.dK kvs)):kvs.length<=sizeLine/\(a==sysModules)=false/\∃vs,KV kvs vs/\h.DictOf (n9 P w) a vs:=qz ok (.inl e)
theorem W3{ks:List Key}(ok:fF P w H h)(e:H a=some (.tup (ks.map kV))):(tupleKind (n9 P w)).is h ks a:=by
 obtain⟨_,aQ,r,o,h1,h2,⟨n,h3⟩,_⟩:=(show k8 P w H h a (.tup (ks.map kV)) from ok a _ e)
 exact⟨o,aQ.toArray,n,h1,h2,h3,by simpa using FV r⟩
theorem rR{kvs:List (List Key×V)}(ok:fF P w H h)(e:Rd H a (.dT kvs)):kvs.length<=sizeLine/\(a==sysModules)=false /\
  ∃xs,KT H kvs xs/\h.DictOfH (tupleKind (n9 P w)) a xs:=by
 obtain⟨z,y,xs,r,o,es,ep,h1,h2,h3,h4,h5⟩:=(show k8 P w H h a (.dT kvs) from IZ ok e)
 refine⟨z,y,xs,r,o,es,ep,h1,h2,h3,h4,λx hx=>?_,h5⟩;have all:∀{l:List (List Key×V)} {m:List (List Key×Addr×Value)},KT H l m->∀x∈m,(tupleKind (n9 P w)).is h x.1 x.2.1:=by
  intro l m q
  induction q with
  |nil=>intro x hx;exact nomatch hx
  |@cons p q ps qs hq t ih =>
   intro x hx;rcases aG.mp hx with e|hx
   ·subst e;exact W3 ok (by rw[<- hq.1];exact hq.2.1)
   ·exact ih x hx
 exact all r x hx
theorem UL{kvs:List (List Key×V)}(ok:fF P w H h)(e:H a=some (.dT kvs)):kvs.length<=sizeLine/\(a==sysModules)=false /\
  ∃xs,KT H kvs xs/\h.DictOfH (tupleKind (n9 P w)) a xs:=rR ok (.inl e)
end
def O3(H:Hp)(a:Addr)(y:V)(r:Option V):Prop :=
 (∃kvs k,Rd H a (.dK kvs)/\y=kV k/\r=J7 kvs k)\/∃kvs k b,Rd H a (.dT kvs)/\y=.ref b/\H b=some (.tup (k.map kV))/\r=J7 kvs k
def xS(H:Hp)(a:Addr)(y v:V)(H':Hp):Prop :=
 (∃kvs k,H a=some (.dK kvs)/\y=kV k/\kvs.length<sizeLine/\H'=upd H a (.dK (putK kvs k v))) \/
 ∃kvs k b,H a=some (.dT kvs)/\y=.ref b/\H b=some (.tup (k.map kV))/\kvs.length<sizeLine/\H'=upd H a (.dT (putK kvs k v))
theorem O3.k{H:Hp}{a:Addr}{kvs:List (Key×V)}{k:Key}(e:H a=some (.dK kvs)):O3 H a (kV k) (J7 kvs k):=.inl ⟨kvs,k,.inl e,rfl,rfl⟩
theorem xS.k{H:Hp}{a:Addr}{kvs:List (Key×V)}{k:Key}{v:V}(e:H a=some (.dK kvs))(hl:kvs.length<sizeLine):xS H a (kV k) v (upd H a (.dK (putK kvs k v))):=.inl ⟨kvs,k,e,rfl,hl,rfl⟩
section
variable{X:Cx}{pins:List (Addr×Obj)}{Z:St}{H:Hp}{s:Shared}{a:Addr}{y v:V}{u r:Value}{o:Option V}{A:Around}{E:Value->Shared->Prop}
theorem Inv.big(I:Inv X pins Z H s):sysModules<s.heap.objs.size:=by
 have h:mainGlobals<s.heap.objs.size:=(I.mod.glob.keeps I.bk).lt;exact cy (by decide) h
theorem WK{Q:Value->Shared->Prop}(hu:A.units+1<cLine)(I:Inv X pins Z H s)(g:O3 H a y (some v))(ry:RelV y u)(h:∀w' s',Inv X pins Z H s'->RelV v w'->Q w' s') :
  wpAny (model X.prog X.w) A (getItem (.ref a) u) Q E s:=by
 rcases g with⟨kvs,k,e,ey,l⟩|⟨kvs,k,b,e,ey,eb,l⟩
 ·subst ey;obtain⟨z,hd,vs,rel,dd⟩:=qz I.bC e;obtain⟨w',hw,fz⟩:=E7.some_of (v:=v) (o:=valueAt vs k) (by rw[l];exact rel.val k);exact wpAny_getItem_of (Z4 ry) dd.mapOf hw (h w' _ (I.tok _) fz)
 ·subst ey;cases (show u=Value.ref b from ry);obtain⟨z,hd,xs,rel,dd⟩:=rR I.bC e;obtain⟨w',hw,fz⟩:=E7.some_of (v:=v) (o:=(atKey xs k).map (·.2)) (by rw[l];exact rel.val k);obtain⟨p,hp,tT⟩:=aa.mp hw;refine wpAny_getItem_heap (eJ hu) (W3 I.bC eb) dd hp ?_;rw[tT];exact h w' _ (I.tok _) fz
theorem SR{Q:Value->Shared->Prop}(hu:A.units+1<cLine)(I:Inv X pins Z H s)(g:O3 H a y o)(ry:RelV y u)(h:∀s',Inv X pins Z H s'->Q (.bool o.isSome) s') :
  wpAny (model X.prog X.w) A (compareOp .In u (.ref a)) Q E s:=by
 rcases g with⟨kvs,k,e,ey,l⟩|⟨kvs,k,b,e,ey,eb,l⟩
 ·subst ey;obtain⟨z,hd,vs,rel,dd⟩:=qz I.bC e;refine wpAny_in_of (Z4 ry) hd dd.mapOf ?_;rw[<- (rel.val k).O0,<- l];exact h _ (I.tok _)
 ·subst ey;cases (show u=Value.ref b from ry);obtain⟨z,hd,xs,rel,dd⟩:=rR I.bC e;refine wpAny_in_heap (eJ hu) (W3 I.bC eb) hd dd ?_;have q:=(rel.val k).O0;rw[jX] at q;rw[<- q,<- l];exact h _ (I.tok _)
theorem QO{Q:Value->Shared->Prop}(hu:A.units+1<cLine)(I:Inv X pins Z H s)(g:O3 H a y o)(ry:RelV y u)(h:∀s',Inv X pins Z H s'->Q (.bool (!o.isSome)) s') :
  wpAny (model X.prog X.w) A (compareOp .NotIn u (.ref a)) Q E s:=by
 rcases g with⟨kvs,k,e,ey,l⟩|⟨kvs,k,b,e,ey,eb,l⟩
 ·subst ey;obtain⟨z,hd,vs,rel,dd⟩:=qz I.bC e;refine wpAny_notIn_of (Z4 ry) hd dd.mapOf ?_;rw[<- (rel.val k).O0,<- l];exact h _ (I.tok _)
 ·subst ey;cases (show u=Value.ref b from ry);obtain⟨z,hd,xs,rel,dd⟩:=rR I.bC e;refine wpAny_notIn_heap (eJ hu) (W3 I.bC eb) hd dd ?_;have q:=(rel.val k).O0;rw[jX] at q;rw[<- q,<- l];exact h _ (I.tok _)
theorem AO{h':Heap}{t':Nat}{ob:HO}(I:Inv X pins Z H s)(mu:vE (H a))(hs:Heap.SameBut a s.heap h')(he:∃q,h'.get? a=some q)(new:k8 X.prog X.w (upd H a ob) h' a ob) :
  Inv X pins Z (upd H a ob) { s with heap:=h',toks:=t' } :=
 I.write (x:=a) (e:=a) mu (.inl rfl) (λb q hb z=>(hs.2 b hb).trans z) he new
theorem Hf{P:Program}{w:World}{H':Hp}{h':Heap}{kvs:List (Key×V)}{vs:List (Key×Value)}(z:kvs.length<=sizeLine)(hd:(a==sysModules)=false)(rel:KV kvs vs)(dd:h'.DictOf (n9 P w) a vs) :
  k8 P w H' h' a (.dK kvs):=⟨z,hd,vs,rel,dd⟩
theorem WL{H':Hp}{Q:Unit->Shared->Prop}(hu:A.units+1<cLine)(I:Inv X pins Z H s)(g:xS H a y v H')(ry:RelV y u)(rv:RelV v r)(h:∀s',Inv X pins Z H' s'->Q () s') :
  wpAny (model X.prog X.w) A (setItem (.ref a) u r) Q E s:=by
 rcases g with⟨kvs,k,e,ey,l,eH⟩|⟨kvs,k,b,e,ey,eb,l,eH⟩
 ·subst ey eH;obtain⟨z,hd,vs,rel,dd⟩:=IL I.bC e;have hz:vs.length<=sizeLine:=by rw[<- rel.length];exact z
  have hl:(putK kvs k v).length<=sizeLine:=by have:=U6 kvs k v;omega
  refine wpAny_setItem_pairs (hsz:=hz) (Z4 ry) dd λh' qk hs=>h _ ?_;have he:∃q,h'.get? a=some q:=let ⟨q,_,_,hq,_⟩:=qk;⟨q,hq⟩
  exact AO I (by rw[e];exact True.intro) hs he (Hf hl hd (rel.put k rv) qk)
 ·subst ey eH;cases (show u=Value.ref b from ry);obtain⟨z,hd,xs,rel,dd⟩:=UL I.bC e;have hz:xs.length<=sizeLine:=by rw[<- kX rel];exact z
  have hl:(putK kvs k v).length<=sizeLine:=by have:=U6 kvs k v;omega
  refine wpAny_setItem_heap (hsz:=hz) (eJ hu) (W3 I.bC eb) dd λh' qk hs=>h _ ?_;obtain⟨q,es,ep,hq,h2,h3,h4,_,h5⟩:=qk;refine AO I (by rw[e];exact True.intro) hs ⟨q,hq⟩ ⟨hl,hd,_,(rel.put k eb rv).keeps λc ys ec=>?_,q,es,ep,hq,h2,h3,h4,h5⟩;rw[f9 (Vi ec e (λz=>nomatch z))];exact ec
end
section
variable{X:Cx}{pins:List (Addr×Obj)}{Z:St}{H:Hp}{s:Shared}{a:Addr}{kvs:List (Key×V)}{k:Key}{u:Value}{A:Around}{E:Value->Shared->Prop}
theorem UJ{Q:Value->Shared->Prop}(I:Inv X pins Z H s)(e:Rd H a (.dK kvs))(h:∀t s',Inv X pins Z H s'->Q (.int kvs.length t) s'):wpAny (model X.prog X.w) A (call (.builtin "len") [.ref a]) Q E s:=by
 obtain⟨z,hd,vs,rel,dd⟩:=qz I.bC e;refine call_len_dict hd dd (by rw[<- rel.length];rw[jW] at z;omega) ?_;rw[<- rel.length];exact h _ _ (I.tok _)
end
theorem YE{X:Cx}{pins:List (Addr×Obj)}{Z:St}{H:Hp}{s:Shared}{a:Addr}{y:V}{o:Option V}(I:Inv X pins Z H s)(g:O3 H a y o):s.TypeIs (.ref a) "dict":=by
 rcases g with⟨kvs,k,e,_,_⟩|⟨kvs,k,b,e,_,_,_⟩
 ·obtain⟨_,_,vs,_,dd⟩:=qz I.bC e;exact dd.typeIs
 ·obtain⟨_,_,xs,_,dd⟩:=rR I.bC e;exact dd.typeIs
section
variable{X:Cx}{o i e value:Expr}{pos pos' yq:Pos}{td ty tv:TE}
end
theorem Iw{P:Program}{w:World}{H:Hp}(h:Heap)(hb:sysModules<h.objs.size):k8 P w H (h.push { cls:=.type "dict",data:=.dict #[] }) h.objs.size (.dK []) :=
 ⟨cz _,cM.mpr (bA (aK hb)),[],.nil,Heap.DictOf.new h⟩
def Qr:TE:=λ_ H Q=>∀p,H p=none->Q (.ref p) (upd H p (.dK []))
section
variable{X:Cx}{pos:Pos}
theorem ZI:PE X (.Dict [] [] pos) Qr:=λpins s Z H Q I h =>
 wpAny_Dict_empty ⟨.ref s.heap.objs.size,_,I.laid (a:=s.heap.objs.size) (o:=.dK []) (t':=s.toks) (λ_ _ q=>aj _ q) (av _) (Iw s.heap I.big),rfl,h _ (I.bC.fresh (av _))⟩
end
def xu:List (TE×TE)->St->Hp->(List (V×V)->Hp->Prop)->Prop
 |[],_,H,Q=>Q [] H
 |(tk,tv)::r,Z,H,Q=>tk Z H λx H1=>tv Z H1 λy H2=>xu r Z H2 λps H3=>Q ((x,y)::ps) H3
noncomputable abbrev VV:List (V×V)->List (Value×Value)->Prop:=Paired λp q=>RelV p.1 q.1/\RelV p.2 q.2
def vC(X:Cx)(pos:Pos)(keys:List (Option Expr))(values:List Expr)(gM:List (TE×TE)):Prop :=
 ∀(pins:List (Addr×Obj)) (s:Shared) (Z:St) (H:Hp) (Q:List (V×V)->Hp->Prop),Inv X pins Z H s->xu gM Z H Q ->
  wpAny (model X.prog X.w) X.A (evalPairs (pairTrees keys values X.env pos)) (λvs s'=>∃ps H',Inv X pins Z H' s'/\VV ps vs/\Q ps H') X.xe s
theorem RD{X:Cx}{pos:Pos}:vC X pos [] [] []:=λpins s Z H Q I h=>pairTrees_nil_walk ⟨[],H,I,.nil,h⟩
theorem ZP{X:Cx}{pos:Pos}{k v:Expr}{ks:List (Option Expr)}{vs:List Expr}{tk tv:TE}{gM:List (TE×TE)}(hk:PE X k tk)(hv:PE X v tv)(hr:vC X pos ks vs gM) :
  vC X pos (some k::ks) (v::vs) ((tk,tv)::gM):=λpins s Z H Q I h =>
 pairTrees_cons_walk (bX (hk pins s Z H _ I h) λu s1 ⟨x,H1,I1,rx,q1⟩=>bX (hv pins s1 Z H1 _ I1 q1) λw2 s2 ⟨y,H2,I2,ry,q2⟩ =>
  bX (hr pins s2 Z H2 _ I2 q2) λws s3 ⟨ps,H3,I3,rel,q3⟩=>⟨(x,y) :: ps,H3,I3,.cons ⟨rx,ry⟩ rel,q3⟩)
def Q8(kvs more:List (Key×V)):List (Key×V):=more.foldl (λacc kv=>putK acc kv.1 kv.2) kvs
theorem KV.merge:∀{more:List (Key×V)} {rs:List (Key×Value)} {kvs:List (Key×V)} {vs:List (Key×Value)},KV more rs->KV kvs vs->KV (Q8 kvs more) (merged vs rs):=by
 intro more rs kvs vs r;unfold KV at r
 induction r generalizing kvs vs with
 |nil=>intro q;exact q
 |@cons p q ps qs h t ih =>
  intro r0;have e:KV (putK kvs p.1 p.2) (stored vs q.1 q.2):=by
   have:=r0.put p.1 h.2;rw[<- h.1];exact this
  exact ih e
theorem Ha:∀(more kvs:List (Key×V)),(Q8 kvs more).length<=kvs.length+more.length
 |[],kvs=>by show kvs.length<=kvs.length+0;omega
 |p::r,kvs=>by
  have h1:=Ha r (putK kvs p.1 p.2);have h2:=U6 kvs p.1 p.2;show(Q8 (putK kvs p.1 p.2) r).length<=_;rw[cP];omega
theorem Gn{P:Program}{w:World}:∀{kvs:List (Key×V)} {ws:List (Value×Value)},VV (kvs.map λkv=>(kV kv.1,kv.2)) ws->∃rs,Carries (n9 P w) ws rs/\KV kvs rs
 |[],_,r=>by rw[sx] at r;cases r;exact⟨[],True.intro,.nil⟩
 |p::kvs,_,r=>by
  rw[aW] at r;cases r with
  |@cons a b as bs h t =>
   obtain⟨rs,c,q⟩:=Gn (P:=P) (w:=w) t;obtain⟨b1,b2⟩:=b;exact⟨(p.1,b2)::rs,⟨Z4 h.1,rfl,c⟩,.cons ⟨rfl,h.2⟩ q⟩
def Nz(gM:List (TE×TE)):TE:=λZ H Q=>∀p,H p=none->xu gM Z (upd H p (.dK [])) λps H2=>H2 p=some (.dK [])/\∃kvs:List (Key×V),ps=kvs.map (λkv=>(kV kv.1,kv.2))/\kvs.length<=15/\Q (.ref p) (upd H2 p (.dK (Q8 [] kvs)))
theorem Rx{X:Cx}{pos:Pos}{keys:List (Option Expr)}{values:List Expr}{gM:List (TE×TE)}(h:vC X pos keys values gM)(pZ:keys.all (·.isSome)=true)(hl:keys.length=values.length)(h0:keys≠[])(oB:keys.length<=15):PE X (.Dict keys values pos) (Nz gM):=by
 intro pins s Z H Q I q;have hn:=I.bC.fresh (av s.heap.objs.size);have I1:=I.laid (a:=s.heap.objs.size) (o:=.dK []) (h':=s.heap.push { cls:=.type "dict",data:=.dict #[] }) (t':=s.toks) (λ_ _ q=>aj _ q) (av _) (Iw s.heap I.big);refine wpAny_Dict_walk (knd:=n9 X.prog X.w) pZ hl h0 oB (bX (h pins _ Z _ _ I1 (q _ hn)) λws s2 aZ=>?_);obtain⟨ps,H2,I2,rel,e,kvs,ep,lk,q2⟩:=aZ;subst ep;obtain⟨rs,c,rk⟩:=Gn (P:=X.prog) (w:=X.w) rel;obtain⟨z,hd,vs0,r0,dd⟩:=IL I2.bC e;cases r0;refine⟨rs,c,dd,λh' qk hs=>⟨.ref s.heap.objs.size,_,?_,rfl,q2⟩⟩;have hz:(Q8 [] kvs).length<=sizeLine:=by
  have h1:=Ha kvs [];rw[List.length_nil] at h1;rw[jW];omega
 have he:∃q,h'.get? s.heap.objs.size=some q:=let ⟨q,_,_,hq,_⟩:=qk;⟨q,hq⟩
 exact AO I2 (by rw[e];exact True.intro) hs he (Hf hz hd (rk.merge .nil) qk)
section
variable{X:Cx}{pins:List (Addr×Obj)}{Z:St}{H:Hp}{s:Shared}{a:Addr}{y d:V}{u r:Value}{o:Option V}{A:Around}{E:Value->Shared->Prop}
theorem NZ{Q:Value->Shared->Prop}(hu:A.units+1<cLine)(I:Inv X pins Z H s)(g:O3 H a y o)(ry:RelV y u)(rd:RelV d r)(h:∀w' s',Inv X pins Z H s'->RelV (o.getD d) w'->Q w' s') :
  wpAny (model X.prog X.w) A (call (.builtin "dict.get") [.ref a,u,r]) Q E s:=by
 rcases g with⟨kvs,k,e,ey,l⟩|⟨kvs,k,b,e,ey,eb,l⟩
 ·subst ey;obtain⟨z,hd,vs,rel,dd⟩:=qz I.bC e;refine call_meetsIn hZ dd.typeIs sj (qH _ _ _) (meets_dict_get_default (n9 X.prog X.w) a (Z4 ry) hd r) ⟨_,dd.mapOf,h _ _ (I.tok _) ?_⟩;rw[l];exact(rel.val k).getD rd
 ·subst ey;cases (show u=Value.ref b from ry);obtain⟨z,hd,xs,rel,dd⟩:=rR I.bC e;refine call_meetsIn hZ dd.typeIs sj (qH _ _ _) (meetsH_dict_get_default (tupleKind (n9 X.prog X.w)) a b hd r) ⟨eJ hu,k,xs,W3 I.bC eb,dd,h _ _ (I.tok _) ?_⟩;rw[l];exact(rel.val k).getD rd
end
section
variable{X:Cx}{o e f:Expr}{apos ft:Pos}{td ty tx:TE}
end
section
variable{X:Cx}{pins:List (Addr×Obj)}{Z:St}{H:Hp}{s:Shared}{a:Addr}{kvs:List (Key×V)}{A:Around}{E:Value->Shared->Prop}
end
section
variable{X:Cx}{pins:List (Addr×Obj)}{Z:St}{H:Hp}{s:Shared}{a:Addr}{y:V}{u:Value}{A:Around}{E:Value->Shared->Prop}
end
end L2

namespace Jv
open PySem PySem.W PySem.Calls PyProof.Rows
theorem VX{P:Params}{h:Heap}:∀(ns:List Int) (vs:List Value),WellAll P h vs (ns.map WData.int)->IntsAre vs ns:=by
 intro ns
 induction ns with
 |nil =>
  intro vs w;rw[sx] at w;cases w;exact .nil
 |cons n ns ih =>
  intro vs w;rw[aW] at w;cases w with
  |cons a b =>
   cases a;exact .cons _ _ (ih _ b)
theorem Xv{l:OpenLaw}{n:Nat}(hn:l.most=some n){P:Params}{h:Heap}{args:List WData}{vals:List Value}(nB:l.row.toRowW.claim.pre args=true)(yR:WellAll P h vals args) :
  ∃a vs ns,vals=[Value.ref a]/\args=[WData.list (ns.map WData.int)]/\h.get? a=some { cls:=.type "list",data:=.seq vs.toArray }/\IntsAre vs ns/\ns.length<=n:=by
 have jh:WShape.hasAll [] args [.list .int]=true:=(pre_splitW nB).1;have hc:l.pre.holds [] { args:=args }=true:=(pre_splitW nB).2;obtain⟨d,r,rfl,h1,h2⟩:=hasAllW_cons jh;obtain rfl:=hasAllW_nil h2;obtain⟨xs,rfl,h3⟩:=hasW_list h1;obtain⟨ns,rfl⟩:=items_int h3;have hlen:ns.length<=n:=by
  unfold OpenLaw.pre at hc;have h4:(WTm.not (.lt (.lit (.int (n:Int))) (.len (.arg 0)))).holds [] { args:=[.list (ns.map .int)] }=true:=by
   have h4:=(holds_andW hc).1;rw[hn] at h4;exact h4
  have h5:=condW_of h4 (w_not (w_lt w_lit (w_len_list (w_arg rfl))));rw[ah] at h5;refine kC λq=>?_;have q':(n:Int)<((ns.length:Nat):Int):=by omega
  first
   |(rw[aD q'] at h5;exact absurd h5 (by decide))
   |(simp at h5;omega)
 cases yR with
 |cons w1 w2 =>
  cases w2;cases w1 with
  |list ho pZ=>exact⟨_,_,ns,rfl,rfl,ho,VX ns _ pZ,hlen⟩
theorem Xr(l:OpenLaw)(args:List WData):l.row.toRowW.claim.post args (.bool true) args=true :=
 postW_of (r:=l.row.toRowW) (X:=(true==true))
  (show WShape.has [] (.bool true) .bool=true by first|rfl|decide|simp[WShape.has,WShape.arms,WShape.armsAll])
  (show(WTm.eq .res (.lit (.bool true))).value [] { args:=args,res:=some (.bool true),after:=args }=some (.bool (true==true)) from w_eq_bool (w_res rfl) w_lit) rfl
theorem YB{l:OpenLaw}{n:Nat}{q:Program}{loose:List Str}{XP:(Str->Option Value)->Heap->Prop}{YP:World->Heap->Prop}{d:DefRec}(hn:l.most=some n)(ud:d.params.defaults=[])(call:∀ (w:World) (cL bK:Shared) (mg mb:Str->Option Value) (fa:Addr) (o:Obj) (pm cd doc:Value) (a:Addr) (vs:List Value) (ns:List Int),
   Ground q loose [] XP w cL mg mb bK.heap->YP w bK.heap ->
   bK.heap.get? fa=some o->o.data=.func (docDef d.name d.params d.body d.scope pm cd doc)->bK.heap.CodeRec cd d.name->mg d.name=some (.ref fa) ->
   bK.heap.get? a=some { cls:=.type "list",data:=.seq vs.toArray }->IntsAre vs ns->ns.length<=n->bK.gens=#[] ->
   codeAny (model l.prog w) callerA (.call (.ref fa) ⟨[.ref a],[]⟩) (λr s'=>r=.ok (.ret (.bool true))/\OldK bK.heap s'.heap/\s'.os=bK.os/\AllBare s'.gens) bK) :
  WalkO q loose XP YP l.row.toRowW d [] (λf vs=>PySem.call f vs):=by
 intro w cL bK mg mb G Y fa o pm cd doc dV kV ho hd kP hD hmg hg args vals as nB Lb hrd yR DP;obtain rfl:dV=.none:=Dflts.none hD ud;obtain rfl:kV=.none:=Dflts.noKw hD;obtain⟨a,vs,ns,rfl,rfl,iA,hints,hlen⟩:=Xv hn nB yR;refine enter_call (gg (call w cL bK mg mb fa o pm cd doc a vs ns G Y ho (fd_plain hd) kP hmg iA hints hlen hg) λr s' hq=>?_);obtain⟨rfl,h2,h3,h4⟩:=hq;exact⟨.inl ⟨.bool true,.bool true,[],rfl,λ_=>rfl,.bool true,Xr l _,λ_=>⟨List.Pairwise.nil,λ_ hm=>(nomatch hm)⟩⟩,h2,h3,h4⟩
section
variable{prog:Program}{w:World}{A:Around}{E:Value->Shared->Prop}{s:Shared}{K:Frag}
end
end Jv
namespace L2
open PySem PySem.Spec PyProof.Rows
theorem Gh:∀{vs:List Value} {ns:List Int},IntsAre vs ns->Vals (ns.map V.int) vs
 |_,_,.nil=>.nil
 |_,_,.cons n t h=>.cons ⟨t,rfl⟩ (Gh h)
def xT(H:Hp):Prop:=∀b,H b=none\/∃o xs,H b=some (.jj o (.lst xs))
theorem Zv{P:Program}{w:World}{K:PySem.W.Frag}{mg mb:Str->Option Value}{CX:mL}{k:Nat}{fa a:Addr}{fd:FuncData}{x:Str}{sp:Sp}{bK:Shared}{vs:List Value}{ns:List Int}(KX:K.In bK.heap)(pR:bK.heap.Ns mainGlobals mg)(hb:bK.heap.Ns builtinsNs mb)(zu:∀x:Str,x≠"__name__"->mb x=bootBuiltins x)(zh:bK.heap.NoLimit)(hg:bK.gens=#[])(ha:bK.heap.get? a=some { cls:=.type "list",data:=.seq vs.toArray })(hi:IntsAre vs ns)(hl:ns.length<=sizeLine)(hr:u3 k callerA)(F:∀base:Heap,K.In base->base.Ns mainGlobals mg->gW P w K mg base CX k fa fd [x] sp)(uh:∀(s:Shared) (u:Value),BindsTo s fd ⟨[u],[]⟩ [(x,u)])(qV:∀H:Hp,xT H->fh K H a (ns.map V.int)->sp [.ref a] H (λv _=>v=.bl true) λ_ _ _=>False)(zH:∀H e s',CX [] H bK (λ_ _ _=>False) e s'->False) :
  codeAny (model P w) callerA (.call (.ref fa) ⟨[.ref a],[]⟩) (λr s'=>r=.ok (.ret (.bool true))/\OldK bK.heap s'.heap/\s'.os=bK.os/\AllBare s'.gens) bK:=by
 have rv:=Gh hi;have yJ:=hi.length;have core:∀H:Hp,xT H->fh K H a (ns.map V.int)->fF P w H bK.heap->(∀b,H b≠none->b=a)->(H a≠none->K.lookup a=none) ->
   codeAny (model P w) callerA (.call (.ref fa) ⟨[.ref a],[]⟩) (λr s'=>r=.ok (.ret (.bool true))/\OldK bK.heap s'.heap/\s'.os=bK.os/\AllBare s'.gens) bK:=by
  intro H hO hS bC hA hK;have P8:∀{b:Addr} {o:Obj},bK.heap.get? b=some o->H b=none->(Z6 bK.heap H).get? b=some o:=λe n=>Zo e n;have tq:∀{b:Addr} {o:Obj} {es:Array DictEntry} {ep:Nat},bK.heap.get? b=some o->o.data=.dict es ep->H b=none:=λ{b o es ep} e d=>by
   cases q:H b with
   |none=>rfl
   |some u =>
    have e':b=a:=hA b (by rw[q];simp);subst e';rw[ha] at e;cases e;have d':Data.seq vs.toArray _=Data.dict es ep:=d;cases d'
  have wa:∀{b:Addr} {m:Str->Option Value},bK.heap.Ns b m->(Z6 bK.heap H).Ns b m:=λ{b m} ⟨o,es,ep,e,d,r⟩=>⟨o,es,ep,P8 e (tq e d),d,r⟩
  have Ek:K.In (Z6 bK.heap H):=λb o e=>P8 (KX b o e) (by
   cases q:H b with
   |none=>rfl
   |some u =>
    have e':b=a:=hA b (by rw[q];simp);subst e';rw [hK (by rw [q];simp)] at e;cases e)
  have hM:Mod K mg (Z6 bK.heap H):=⟨Ek,wa pR,⟨mb,wa hb,zu⟩,let ⟨mc,h1,h2⟩:=zh;⟨mc,wa h1,h2⟩⟩
  have e0:qq P w K mg (Z6 bK.heap H) callerA [] bK H:=⟨rfl,hM,λb o e=>Rj e,Nat.le_of_eq (WR _ _),trivial,λb hb=>absurd (show b∈([]:List Addr) from hb) (by simp),bC,.of_eq hg⟩
  refine gg ((F _ Ek (wa pR)).run callerA [] bK H ⟨[.ref a],[]⟩ [.ref a] [.ref a] _ _ hr e0 (uh bK (.ref a)) (.cons rfl .nil) (qV H hO hS)) λr s' h=>?_;cases r with
  |error e=>exact(zH H e s' h).elim
  |ok fl =>
   cases fl with
   |next=>exact False.elim h
   |brk=>exact False.elim h
   |cont=>exact False.elim h
   |ret u =>
    obtain⟨v,H',os,bare,un,yX,r',q⟩:=h;have q':v=.bl true:=q;subst q';obtain rfl:u=Value.bool true:=r';refine⟨rfl,OldK.of_keep λb o e=>?_,os,bare⟩;cases q:H b with
    |none=>exact un.keep b o e q (by intro z;exact absurd (show b∈([]:List Addr) from z) (by simp)) (by simp)
    |some u =>
     rcases hO b with z|⟨ob,xs,z⟩
     ·rw[q] at z;cases z
     ·have z2:=un.gn b ob _ z;obtain⟨e1,_⟩:=bC b _ z;obtain⟨e2,_⟩:=yX b _ z2;rw[e] at e1;cases e1;exact e2
 cases hk:K.lookup a with
 |some o =>
  have e:=KX a o hk;rw[ha] at e;cases e;refine core (λ_=>none) (λ_=>.inl rfl) (.inr ⟨_,vs.toArray,_,hk,rfl,rfl,rfl,by rw[aB,yJ];exact hl,by simpa using rv⟩) (λb u z=>by have z':(none:Option HO)=some u:=z;cases z') (λb z=>absurd rfl z) λz=>absurd rfl z
 |none =>
  refine core (λb=>if b=a then some (.jj { cls:=.type "list",data:=.seq vs.toArray } (.lst (ns.map V.int))) else none) (λb=>?_) (.inl (.inr ⟨{ cls:=.type "list",data:=.seq vs.toArray },aH rfl⟩)) (λb u z=>?_) (λb z=>?_) λ_=>hk
  ·by_cases hb:b=a
   ·exact .inr ⟨_,_,aH hb⟩
   ·exact .inl (az hb)
  ·by_cases hb:b=a
   ·have z':=(aH hb).symm.trans z;cases z';subst hb;exact⟨ha,by rw[ah];exact hl,vs,_,rv,ha⟩
   ·have z':=(az hb).symm.trans z;cases z'
  ·by_cases hb:b=a
   ·exact hb
   ·exact absurd (az hb) z
theorem Sw{l:PySem.W.OpenLaw}{n k:Nat}{q:Program}{loose:List Str}{XP:(Str->Option Value)->Heap->Prop}{YP:World->Heap->Prop}{d:DefRec}{K:Params->PySem.W.Frag}{CX:World->mL}{sp:World->Sp}{x:Str}(hn:l.most=some n)(ox:n<=sizeLine)(ud:d.params.defaults=[])(hr:u3 k callerA)(hY:∀(w:World) (h:Heap),YP w h->(K w.params).In h)(F:∀ (w:World) (mg:Str->Option Value) (fa:Addr) (h:Heap),(K w.params).In h->h.Ns mainGlobals mg->mg d.name=some (.ref fa) ->
   ∃fd:FuncData,(∀(s:Shared) (u:Value),BindsTo s fd ⟨[u],[]⟩ [(x,u)]) /\
    ∀ base:Heap,(K w.params).In base->base.Ns mainGlobals mg->gW l.prog w (K w.params) mg base (CX w) k fa fd [x] (sp w))(qV:∀(w:World) (H:Hp) (a:Addr) (ns:List Int),ns.length<=n->xT H->fh (K w.params) H a (ns.map V.int)->sp w [.ref a] H (λv _=>v=.bl true) λ_ _ _=>False)(zH:∀(w:World) (H:Hp) (s:Shared) (e:Value) (s':Shared),CX w [] H s (λ_ _ _=>False) e s'->False) :
  PySem.W.WalkO q loose XP YP l.row.toRowW d [] (λf vs=>PySem.call f vs):=by
 refine Jv.YB hn ud λw cL bK mg mb fa o pm cd doc a vs ns G Y ho hd kP hmg iA hints hlen hg=>?_;have KX:=hY w _ Y;obtain⟨fd,hb,hF⟩:=F w mg fa _ KX G.T.g hmg;exact Zv KX G.T.g G.T.b G.T.builtins G.T.nolimit hg iA hints (aC hlen ox) hr hF hb (λH hO hS=>qV w H a ns hlen hO hS) λH e s'=>zH w H bK e s'
def A5(s:Stmt):Arguments:=match s with
 |.FunctionDef _ a _ _ _ _ _ _ _ _=>a
 |_=>{ posonlyargs:=[],args:=[],vararg:=none,kwonlyargs:=[],kw_defaults:=[],kwarg:=none,defaults:=[] }
def n5(s:Stmt):List Stmt:=match s with
 |.FunctionDef _ _ b _ _ _ _ _ _ _=>b
 |_=>[]
def m9(s:Stmt):Scope:=match s with
 |.FunctionDef _ _ _ _ _ _ sc _ _ _=>sc
 |_=>{ kind:=.function,names:=[],isGenerator:=false,isCoroutine:=false }
structure oW(K:PySem.W.Frag)(x qual:Str)(st:Stmt)(f:Addr)(fd:FuncData):Prop where
 ex:∃(oc:Value) (od:Option Addr) (kV doc pm:Value) (an:Option Addr) (fe ct:Value) (lr:Array (Option Value)),
  fd=PySem.W.fnOf x qual (A5 st) (n5 st) (m9 st) .none kV doc pm an fe ct/\K.lookup f=some ⟨oc,od,.func fd,lr⟩/\PySem.W.codeIn K fe qual=true
 kp:PySem.W.keepIn K (.ref f)=true
section
variable{P:Program}{w:World}{K:PySem.W.Frag}{mg:Str->Option Value}{base:Heap}
theorem oW.binds{x qual:Str}{st:Stmt}{f:Addr}{fd:FuncData}{ps:List Str}(F:oW K x qual st f fd)(h:∀(kV doc pm:Value) (an:Option Addr) (fe ct:Value) (us:List Value),us.length=ps.length->bindArgs (PySem.W.fnOf x qual (A5 st) (n5 st) (m9 st) .none kV doc pm an fe ct) ⟨us,[]⟩=pure (ps.zip us)):Binds K fd ps []:=by
 obtain⟨oc,od,kV,doc,pm,an,fe,ct,lr,rfl,lk,kP⟩:=F.ex;exact .all (h kV doc pm an fe ct)
theorem Hh{x qual:Str}{st:Stmt}{f:Addr}{oc:Value}{od an:Option Addr}{lr:Array (Option Value)}{kV doc pm fe ct:Value}(l:K.lookup f=some ⟨oc,od,.func (PySem.W.fnOf x qual (A5 st) (n5 st) (m9 st) .none kV doc pm an fe ct),lr⟩)(c:PySem.W.codeIn K fe qual=true)(k:PySem.W.keepIn K (.ref f)=true):oW K x qual st f (PySem.W.fnOf x qual (A5 st) (n5 st) (m9 st) .none kV doc pm an fe ct):=⟨⟨oc,od,kV,doc,pm,an,fe,ct,lr,rfl,l,c⟩,k⟩
end
section
variable{X:Cx}
theorem WB:k9 X (.builtin "len") (λxs H Q=>∃a kvs,xs=[V.ref a]/\H a=some (.dK kvs)/\Q (.int kvs.length) H):=by
 intro pins s Z H xs us Q I r h;obtain⟨a,kvs,rfl,ha,q⟩:=h;obtain⟨u,rfl,ru⟩:=vals1 r;cases ru;exact UJ I (.inl ha) λt s' I'=>⟨.int kvs.length,H,I',⟨t,rfl⟩,q⟩
end
section
variable{κ:Type}[DecidableEq κ]
end
end L2

namespace L2
open PySem PySem.Spec PyProof.Rows
section
variable{prog:Program}{w:World}{A:Around}{R:Result->Shared->Prop}{s:Shared}
theorem YY{elt target iter:Expr}{ifs:List Expr}{scope:Scope}{pos:Pos}{it acc:Value}{env:Env}(I:Nat->Shared->Prop)(turn:∀ n s,I n s->wpAny (model prog w) A (pyNext it) (λr bK=>match r with
   |none=>R (.ok .next) bK
   | some v=>wpAny (model prog w) A (letOwnedTupleGo target it v) (λ_ bK=>wpAny (model prog w) A (assign target env v) (λ_ fm =>
     wpAny (model prog w) A (forIn ifs true λc r=>if r=true then do let ok <- isTrue c env (eval c env);pure (ForInStep.yield ok) else pure (ForInStep.yield r)) (λok ei =>
      if ok=true then wpAny (model prog w) A (eval elt env) (λx jd =>
       wpAny (model prog w) A (call (.builtin "list.append") [acc,x]) (λ_ lJ=>∃ m,m < n/\I m lJ) (λ_ _=>False) jd) (notedBy (model prog w) A env λe s'=>R (.error e) s') ei
      else ∃ m,m < n/\I m ei) (λ_ _=>False) fm) (λ_ _=>False) bK) (λ_ _=>False) bK) (λ_ _=>False) s)(n:Nat)(h:I n s) :
  codeAny (model prog w) A (.compLoop (.ListComp elt [⟨target,iter,ifs,0⟩] scope pos) 0 it acc env) R s:=by
 refine codeAny_loop rfl I (λn s hI=>?_) n h;show wpAny _ A ((compTurn (.ListComp elt [⟨target,iter,ifs,0⟩] scope pos) 0 it acc env).onRaise (λx=>do noteFrame x env;theTreesLotGoes x)) _ _ s;refine wpAny_noted ?_;rw[compTurn_list];refine ae (du (ae (bp (turn n s hI) (λr bK de=>?_) λ_ _ h'=>h'.elim)));cases r with
 |none=>exact ai de
 |some v =>
  refine ae (bp de (λ_ bK de=>?_) λ_ _ h'=>h'.elim);refine ae (bp de (λ_ fm iz=>ae (bp iz (λok ei lV=>?_) λ_ _ h'=>h'.elim)) λ_ _ h'=>h'.elim);cases ok with
  |false=>exact wpAny_pure ⟨rfl,lV⟩
  |true =>
   exact ae (ae (bp lV (λx jd pO=>ae (bp pO (λ_ lJ pN=>ai (ai ⟨rfl,pN⟩)) λ_ _ h'=>h'.elim)) λ_ _ h'=>h'))
end
def kB(X:Cx)(es:List Expr)(t:TT):Prop :=
 ∀(pins:List (Addr×Obj)) (s:Shared) (Z:St) (H:Hp) (Q:Bool->Hp->Prop),Inv X pins Z H s->t Z H Q ->
  wpAny (model X.prog X.w) X.A (forIn es true λc r=>if r=true then do let ok <- isTrue c X.env (eval c X.env);pure (ForInStep.yield ok) else pure (ForInStep.yield r)) (TP X pins Z Q) X.xe s
def Up:TT:=λ_ H Q=>Q true H
section
variable{X:Cx}
theorem RJ:kB X [] Up:=λpins s Z H Q I h=>ai ⟨H,I,h⟩
theorem RK{c:Expr}{t:TT}(h:PT X c t):kB X [c] t:=by
 intro pins s Z H Q I q;simp only[List.forIn_cons,List.forIn_nil,if_true];exact ae (ae (bp (h pins s Z H Q I q) (λb s' hb=>ai (ai hb)) λ_ _ x=>x))
end
def J1(scope:Scope)(cl:List (Str×Addr))(C:Addr):List (Str×Addr):=cellsFrom (C+1) scope.names []++cl
theorem C6:∀(names:List (Str×NameKind)) (n:Nat) (acc:List (Str×Addr)),cellsFrom n names acc=cellsFrom n names []++acc
 |[],_,_=>rfl
 |(y,k)::r,n,acc=>by
  unfold cellsFrom;split
  ·rw[C6 r (n+1) ((y,n)::acc),C6 r (n+1) [(y,n)],fZ]
   rfl
  ·exact C6 r n acc
theorem S0{x:Str}{c:Addr}:∀{names:List (Str×NameKind)} {n:Nat},(x,c)∈cellsFrom n names []->(x,NameKind.cell)∈names
 |[],_,h=>by simp[cellsFrom] at h
 |(y,k)::r,n,h=>by
  unfold cellsFrom at h;split at h
  ·rename_i hk;rw[C6] at h;rcases bg.mp h with z|z
   ·exact bG _ (S0 z)
   ·cases bE.mp z;rw[show k=NameKind.cell from by simpa using hk];exact fJ
  ·exact bG _ (S0 h)
theorem F2{α:Type}{x:Str}:∀{a b:List (Str×α)},(a++b).lookup x=(a.lookup x).or (b.lookup x)
 |[],_=>rfl
 |(y,v)::r,b=>by
  rw[List.cons_append,cg,cg];cases x==y
  ·exact F2
  ·rfl
theorem FN{scope:Scope}{cl:List (Str×Addr)}{C:Addr}{x:Str}(h:scope.names.lookup x=some .cell\/∃c,cl.lookup x=some c):∃c,(J1 scope cl C).lookup x=some c:=by
 unfold J1;rw[F2];cases e:(cellsFrom (C+1) scope.names []).lookup x with
 |some c=>exact⟨c,rfl⟩
 |none =>
  rcases h with h|h
  ·have q:=cX scope.names (C+1) [] (.inl h);rw[e] at q;cases q
  ·exact h
theorem L1{env:Env}:∀{names:List (Str×NameKind)} {x:Str},names.lookup x=some .cell ->
  (names.map λ(n,k)=>if(k==NameKind.free&&env.scope.kind==.function&&env.kindOf n==some .cell) then(n,NameKind.cell) else(n,k)).lookup x=some .cell
 |[],_,h=>by simp at h
 |(n,k)::r,x,h=>by
  have ih:=@L1 env r x;show List.lookup x ((if(k==NameKind.free&&env.scope.kind==.function&&env.kindOf n==some .cell)=true then(n,NameKind.cell) else(n,k))::_)=_;cases hx:x==n with
  |true =>
   simp only[List.lookup_cons,hx] at h;cases h;simp[List.lookup_cons,hx]
  |false =>
   simp only[List.lookup_cons,hx] at h;by_cases hc:(k==NameKind.free&&env.scope.kind==.function&&env.kindOf n==some .cell)=true
   ·rw[aH hc];simp only[List.lookup_cons,hx];exact ih h
   ·rw[az hc];simp only[List.lookup_cons,hx];exact ih h
theorem xR{scope:Scope}{cl:List (Str×Addr)}{C:Addr}{h:Heap}(ck:CellsOk h (C+1) (cellsFrom (C+1) scope.names [])){x:Str}{c:Addr}(e:(J1 scope cl C).lookup x=some c):C<c\/cl.lookup x=some c:=by
 unfold J1 at e;rw[F2] at e;cases e2:(cellsFrom (C+1) scope.names []).lookup x with
 |some c' =>
  rw[e2] at e;cases e;exact .inl (ck.empty x c (aL e2)).2
 |none =>
  rw[e2] at e;exact .inr e
theorem Hb{M:Model}{A:Around}{E:Value->Shared->Prop}{s:Shared}{scope:Scope}{globals:Addr}{cl:List (Str×Addr)}{qual:Str}{outer:Env}{Q:Env->Shared->Prop}(hQ:∀ de:Heap,de.Ns s.heap.objs.size (λ_=>none)->(∀ b o,s.heap.get? b=some o->de.get? b=some o)->CellsOk de (s.heap.objs.size + 1) (cellsFrom (s.heap.objs.size + 1) scope.names []) ->
   Q (newEnv scope s.heap.objs.size globals (J1 scope cl s.heap.objs.size) qual none .none (some outer) builtinsNs) { s with heap:=de }) :
  wpAny M A (newFunctionEnv scope globals cl [] qual none .none (some outer)) Q E s:=by
 simp only[newFunctionEnv,Option.isSome_some,if_true];refine ae (wpAny_alloc ?_);refine ae (wpAny_layCells _ (λname kind cells=>by cases Lf:kind==NameKind.cell<;>simp[Lf]) _ _ _ _ ?_);have ok:=cellsFrom_ok scope.names (s.heap.push { cls:=.type "dict",data:=.dict #[] }) (s.heap.objs.size+1) [] ⟨λ_ _ hm=>(nomatch hm),List.Pairwise.nil⟩ (by rw[dM];exact av _);rw[dM] at ok;rw[show({ s with heap:=s.heap.push { cls:=.type "dict",data:=.dict #[] } }:Shared).heap.objs.size=s.heap.objs.size+1 from dM ..];rw[List.forIn_nil];refine ae (ai (ai ?_));rw[C6];exact hQ _ ((Heap.Ns.new s.heap (.type "dict")).keeps (pushCells_keeps _ _)) (λb o e=>pushCells_keeps _ _ b o (aj _ e)) ok
def d6(X:Cx)(pins:List (Addr×Obj))(scope:Scope)(N':List Str)(cl:List (Str×Addr))(C:Addr)(s:Shared)(H:Hp)(fp:List Addr):Cx where
 prog:=X.prog
 w:=X.w
 K:=X.K
 mg:=X.mg
 base:=X.base
 A:=X.A
 N:=N'
 cL:=s
 iR:=H
 env:=compEnvC scope (J1 scope cl C) C X.env
 outer:=X.stack
 stack:=X.stack
 ex:=fp
 calm:=true
 fn:=λx=>decide (scope.names.lookup x=some .cell)
 pn:=X.pn++pins
 xe:=λ_ _=>False
structure cT(X:Cx)(scope:Scope)(N':List Str)(d4:List Nat)(cl:List (Str×Addr)):Prop where
 kind:scope.kind=.function
 cells:∀y∈scope.names,y.2=.cell->scope.names.lookup y.1=some .cell
 names:∀y∈scope.names,y.2=.local->scope.names.lookup y.1=some .local
 qm:closureFor scope X.env=pure cl
 cin:∀x c,cl.lookup x=some c->X.env.cells.lookup x=some c
 uQ:∀x,scope.names.lookup x=some .free->∃c,cl.lookup x=some c
 nd:N'.Nodup
 Na:∀(i j:Nat),d4[i]?=some j->∃x,N'[i]?=some x/\X.N[j]?=some x/\scope.names.lookup x=some .free/\(X.env.kindOf x=some .cell\/X.env.kindOf x=some .free)
 Am:d4.length<=N'.length
theorem C8{env:Env}:∀{names:List (Str×NameKind)} {x:Str},names.lookup x=some .free ->
  (names.map λ(n,k)=>if(k==NameKind.free&&env.scope.kind==.function&&env.kindOf n==some .cell) then(n,NameKind.cell) else(n,k)).lookup x=some .cell \/
  (names.map λ(n,k)=>if(k==NameKind.free&&env.scope.kind==.function&&env.kindOf n==some .cell) then(n,NameKind.cell) else(n,k)).lookup x=some .free
 |[],_,h=>by simp at h
 |(n,k)::r,x,h=>by
  have ih:=@C8 env r x;show List.lookup x ((if(k==NameKind.free&&env.scope.kind==.function&&env.kindOf n==some .cell)=true then(n,NameKind.cell) else(n,k))::_)=_\/List.lookup x ((if(k==NameKind.free&&env.scope.kind==.function&&env.kindOf n==some .cell)=true then(n,NameKind.cell) else(n,k))::_)=_;cases hx:x==n with
  |true =>
   simp only[List.lookup_cons,hx] at h;cases h;by_cases hc:(NameKind.free==NameKind.free&&env.scope.kind==.function&&env.kindOf n==some .cell)=true
   ·rw[aH hc];simp[List.lookup_cons,hx]
   ·rw[az hc];simp[List.lookup_cons,hx]
  |false =>
   simp only[List.lookup_cons,hx] at h;by_cases hc:(k==NameKind.free&&env.scope.kind==.function&&env.kindOf n==some .cell)=true
   ·rw[aH hc];simp only[List.lookup_cons,hx];exact ih h
   ·rw[az hc];simp only[List.lookup_cons,hx];exact ih h
theorem L3{env:Env}:∀{names:List (Str×NameKind)} {x:Str},((names.map λ(n,k)=>if(k==NameKind.free&&env.scope.kind==.function&&env.kindOf n==some .cell) then(n,NameKind.cell) else(n,k)).lookup x=some .cell \/
  (names.map λ(n,k)=>if (k == NameKind.free && env.scope.kind == .function && env.kindOf n == some .cell) then (n,NameKind.cell) else (n,k)).lookup x=some .free)->names.lookup x=some .free \/ names.lookup x=some .cell
 |[],_,h=>by simp at h
 |(n,k)::r,x,h=>by
  have ih:=@L3 env r x;rw[aW] at h;cases hx:x==n with
  |true =>
   simp only[List.lookup_cons,hx];by_cases hc:(k==NameKind.free&&env.scope.kind==.function&&env.kindOf n==some .cell)=true
   ·left;simp only[Bool.and_eq_true,beq_iff_eq] at hc;rw[hc.1.1]
   ·simp only[if_neg hc,List.lookup_cons,hx] at h;rcases h with h|h
    ·exact .inr h
    ·exact .inl h
  |false =>
   simp only[List.lookup_cons,hx];by_cases hc:(k==NameKind.free&&env.scope.kind==.function&&env.kindOf n==some .cell)=true
   ·simp only[if_pos hc,List.lookup_cons,hx] at h;exact ih h
   ·simp only[if_neg hc,List.lookup_cons,hx] at h;exact ih h
def B3(Z:St)(d4:List Nat)(n:Nat):St:=d4.map (λj=>(Z[j]?).join)++List.replicate (n-d4.length) none
section
variable{X:Cx}{pins:List (Addr×Obj)}{Z:St}{H:Hp}{s:Shared}
theorem Inv.Gq{scope:Scope}{N':List Str}{d4:List Nat}{cl:List (Str×Addr)}{C:Addr}{h1:Heap}{fp:List Addr}{tk:Nat}(I:Inv X pins Z H s)(S:cT X scope N' d4 cl)(hc:X.calm=true)(hf:∀b∈fp,B4 X pins H b)(ho:∀b∈fp,∃o,s.heap.get? b=some o)(hC:s.heap.objs.size<=C)(hn:∃m,h1.Ns C m)(k:∀b o,s.heap.get? b=some o->h1.get? b=some o)(ck:CellsOk h1 (C+1) (cellsFrom (C+1) scope.names [])) :
  Inv (d6 X pins scope N' cl C s H fp) [] (B3 Z d4 N'.length) H { s with heap:=h1,toks:=tk }:=by
 obtain⟨m,hm⟩:=hn;have Le:(relabel scope X.env).kind=.function:=S.kind;have Dq:∀b o,s.heap.get? b=some o->b≠C:=λb o e z=>absurd (ay e) (by rw[z];exact jv.mpr hC);have two:∀{x:Str} {c:Addr},(J1 scope cl C).lookup x=some c->(C<c/\h1.IsCell c none/\(x,c)∈cellsFrom (C+1) scope.names [])\/(cl.lookup x=some c/\(cellsFrom (C+1) scope.names []).lookup x=none):=λ{x c} h=>by
  unfold J1 at h;rw[F2] at h;cases e:(cellsFrom (C+1) scope.names []).lookup x with
  |some c' =>
   rw[e] at h;cases h;have hm:=aL e;exact .inl ⟨(ck.empty x c hm).2,(ck.empty x c hm).1,hm⟩
  |none =>
   rw[e] at h;exact .inr ⟨h,rfl⟩
 have sW:∀{x:Str} {c:Addr},cl.lookup x=some c->c<s.heap.objs.size:=λ{x c} h=>by
  obtain⟨v,o,e,_⟩:=I.cell x c (S.cin x c h);exact ay e
 have frees:∀{x:Str},scope.names.lookup x=some .free->(J1 scope cl C).lookup x=cl.lookup x:=λ{x} h=>by
  unfold J1;rw[F2];cases e:(cellsFrom (C+1) scope.names []).lookup x with
  |some c' =>
   have:=S.cells _ (S0 (aL e)) rfl;rw[h] at this;cases this
  |none=>rfl
 refine⟨⟨I.mod,Le,I.ok.glob,I.ok.blt,hC,?_,?_,?_,λ_=>I.ok.hd hc,I.ok.frames,.inl rfl,?_,I.bs,?_,?_,?_,I.stack,I.xN⟩,rfl,I.bare,Un.kept k,⟨m,hm,?_⟩,?_,?_,?_,?_,I.bC.kept k,?_⟩
 ·intro x y c h1 h2;rcases two h1 with⟨l1,_,q1⟩|⟨q1,_⟩<;>rcases two h2 with⟨l2,_,q2⟩|⟨q2,_⟩
  ·exact PySem.name_of_addr ck.apart q1 q2
  ·exact absurd (cy l1 (ax (sW q2) hC)) (bj _)
  ·exact absurd (cy l2 (ax (sW q1) hC)) (bj _)
  ·exact I.ok.inj x y c (S.cin x c q1) (S.cin y c q2)
 ·intro x hx;rcases L3 (env:=X.env) (names:=scope.names) hx with z|z
  ·obtain⟨c,hc⟩:=S.uQ x z;exact⟨c,(frees z).trans hc⟩
  ·have q:=cX scope.names (C+1) [] (.inl z);obtain⟨c,hc⟩:=dJ.mp q;refine⟨c,?_⟩;show(J1 scope cl C).lookup x=some c;unfold J1;rw[F2,hc]
   rfl
 ·intro x c hf h;have z:scope.names.lookup x=some .cell:=ba hf;have q:=cX scope.names (C+1) [] (.inl z);rcases two h with⟨l,_⟩|⟨_,e⟩
  ·exact dz (fI hC l)
  ·rw[e] at q;cases q
 ·intro b hb;obtain⟨f0,f1,f2,f3,f4,f5⟩:=hf b hb;obtain⟨o,e⟩:=ho b hb;refine⟨Dq b o e,λx c h=>?_⟩;rcases two h with⟨l,_⟩|⟨q,_⟩
  ·intro z;subst z;exact absurd (cy l (ax (ay e) hC)) (bj _)
  ·exact f4 x c (S.cin x c q)
 ·exact aC I.ok.mH I.sz
 ·intro b o e hb;obtain⟨f0,f1,f2,f3,f4,f5⟩:=hf b hb;rcases f3 with f3|f3
  ·exact I.ok.jF b o e f3
  ·exact absurd (ay (I.ok.bs b o e).1) (jv.mpr f3)
 ·intro b hb z;obtain⟨f0,f1,f2,f3,f4,f5⟩:=hf b hb;rcases aG.mp (I.K0 b z) with z|z
  ·exact f1 z
  ·exact f2 z
 ·intro i x v Mp h2 h3;have hi:i<d4.length:=by
   unfold B3 at h2;by_cases hi:i<d4.length
   ·exact hi
   ·rw[cB (by simpa using hi),cR] at h2;split at h2<;>cases h2
  obtain⟨j,hj⟩:∃j,d4[i]?=some j:=⟨_,au hi⟩
  have hs:Z[j]?=some (some v):=by
   unfold B3 at h2;rw[aF (by simpa using hi),ao,hj] at h2;simp only[Option.map_some] at h2;cases e:Z[j]? with
   |none=>rw[e] at h2;cases h2
   |some a=>rw[e] at h2;exact gA some (aJ h2)
  obtain⟨y,Kw,Kv,yP,DF⟩:=S.Na i j hj;have ey:y=x:=by
   have uy:N'[i]?=some x:=Mp;rw[Kw] at uy;exact aJ uy
  subst ey;obtain⟨m0,hm0,hl⟩:=I.loc;obtain ⟨u,ru,hu⟩:=hl j y v Kv hs (by
   rcases DF with z|z
   ·exact .inr (.inl z)
   ·exact .inr (.inr z))
  refine⟨u,ru,.inr ⟨C8 (env:=X.env) (names:=scope.names) yP,?_⟩⟩;rcases hu with⟨z,_⟩|⟨_,c,pW,mx⟩
  ·rcases DF with z'|z'<;>(rw[z'] at z;cases z)
  ·obtain⟨c',iD⟩:=S.uQ y yP;have e:=S.cin y c' iD;rw[pW] at e;cases e;obtain⟨o,e1,e2⟩:=mx;exact⟨c,(frees yP).trans iD,o,k _ _ e1,e2⟩
 ·intro x c h;rcases two h with⟨_,q,_⟩|⟨q,_⟩
  ·exact⟨none,q⟩
  ·obtain⟨v,o,e1,e2⟩:=I.cell x c (S.cin x c q);exact⟨v,o,k _ _ e1,e2⟩
 ·exact I.bC.fresh hC
 ·intro x c h;rcases two h with⟨l,_⟩|⟨q,_⟩
  ·exact I.bC.fresh (dz (fI hC l))
  ·exact I.dG x c (S.cin x c q)
 ·intro p hp;have ji:p∈X.pn++pins:=by simpa[d6] using hp
  obtain⟨p1,p2,p3,p4,p5⟩:=I.pin p ji;refine⟨k _ _ p1,p2,Dq _ _ p1,λz=>?_,p5⟩;rcases aG.mp (I.K0 _ z) with z|z
  ·exact p3 z
  ·exact p4 z
 ·unfold B3;show _=N'.length;rw[aY,ah,ig];have:=S.Am;omega
theorem Inv.Iu{scope:Scope}{N':List Str}{cl:List (Str×Addr)}{C:Addr}{fp:List Addr}{ip:List (Addr×Obj)}{bI:St}{H':Hp}{s':Shared}(I:Inv X pins Z H s)(hf:∀b∈fp,B4 X pins H b)(J:Inv (d6 X pins scope N' cl C s H fp) ip bI H' s'):Inv X pins Z H' s' :=
 I.BD (ch:=fp) J.os J.base J.bC J.bare λb hb=>by
  obtain⟨f0,f1,f2,f3,f4,f5⟩:=hf b hb;exact⟨f3,f1,f4,f5⟩
theorem Inv.NJ{D:Addr}{ys:List V}{aQ:List Value}{n:Nat}(I:Inv X pins Z H s)(f:B4 X pins H D)(hs:X.cL.heap.objs.size<=D)(hv:Vals ys aQ)(hz:ys.length<=sizeLine)(ho:s.heap.get? D=some { cls:=.type "list",data:=.seq aQ.toArray n }):Inv X pins Z (upd H D (.lst ys)) s:=by
 obtain⟨f0,f1,f2,f3,f4,f5⟩:=f;have dw:∀b o,X.cL.heap.get? b=some o->b≠D:=λb o e z=>absurd (ay e) (by rw[z];exact jv.mpr hs);have tup:∀b u,H b=some u->upd H D (.lst ys) b=some u:=λb u e=>by rw[f9 (j8 e f0)];exact e
 refine⟨I.ok,I.os,I.bare,⟨?_,?_,?_,I.base.there,?_,?_,?_⟩,I.loc,I.cell,?_,?_,?_,?_,I.len⟩
 ·exact λb o e n1 n2 n3=>I.base.keep b o e n1 n2 n3
 ·exact λb o e n1 n2 n3=>I.base.slot b o e n1 n2 n3
 ·exact λb o e n1 n2=>by rw[f9 (dw b o e)];exact I.base.free b o e n1 n2
 ·exact λb xs e=>tup _ _ (I.base.gC b xs e)
 ·exact λb o u e=>tup _ _ (I.base.gn b o u e)
 ·exact λb ps e=>by
   obtain⟨more,q⟩:=I.base.gD b ps e;exact⟨more,tup _ _ q⟩
 ·rw[f9 f1.symm];exact I.free
 ·exact λx c e=>by rw[f9 (f4 x c e)];exact I.dG x c e
 ·intro p hp;obtain⟨p1,p2,p3⟩:=I.pin p hp;exact⟨p1,by rw[f9 (f5 p hp)];exact p2,p3⟩
 ·intro a o e;by_cases ha:a=D
  ·subst ha;rw[n8] at e;cases e;exact⟨hz,aQ,n,hv,ho⟩
  ·rw[f9 ha] at e;have q:=I.bC a o e;refine q.Q2 (λb u _ h=>h) (λb hb=>tup _ _ hb) (λb xs hb=>tup _ _ hb)
end
end L2

namespace L2
open PySem PySem.Spec PyProof.Rows
def BR(wi:TI)(d4:List Nat)(n:Nat)(g:TG)(tc:TT)(te:TE):TE:=λZ H Q=>wi Z H λJ H1=>∃W:Nat->Nat->List V->St->Hp->Prop,(∃m,W 0 m [] (B3 Z d4 n) H1)/\∀i m ys Z H,W i m ys Z H ->
 (J.stop i H/\∀p,H p=none->Q (.ref p) (upd H p (.lst ys))) \/
 (J.go i H/\ys.length < sizeLine/\∀ x H',J.pj i H x H'->g x Z H' λbW H2=>tc bW H2 λb H3 =>
  if b=true then te bW H3 λy H4=>∃ m',m' < m/\W (i + 1) m' (ys ++ [y]) bW H4 else ∃ m',m' < m/\W (i + 1) m' ys bW H3)
noncomputable abbrev L5(aQ:List Value)(n:Nat):Obj:={ cls:=.type "list",data:=.seq aQ.toArray n }
section
variable{X:Cx}{pins:List (Addr×Obj)}{Z:St}{H:Hp}{s:Shared}
theorem Gp{elt tg iter:Expr}{ifs:List Expr}{scope:Scope}{N':List Str}{d4:List Nat}{cl:List (Str×Addr)}{pos:Pos}{it:Addr}{fp:List Addr}{tn:Nat->Heap->Prop}{J:It}{g:TG}{tc:TT}{te:TE}{xx:Addr->Shared->Hp->Value->Shared->Prop}{RR:Value->Addr->Result->Shared->Prop}{E:Value->Shared->Prop}{W:Nat->Nat->List V->St->Hp->Prop}{m0:Nat}{Q:VK}(S:cT X scope N' d4 cl)(hc:X.calm=true)(hg:∀C s H,PG (d6 X pins scope N' cl C s H fp) tg g)(ht:∀C s H,kB (d6 X pins scope N' cl C s H fp) ifs tc)(he:∀C s H,PE ((d6 X pins scope N' cl C s H fp).X8 (xx C s H)) elt te)(I:Inv X pins Z H s)(T:Turn X.prog X.w X.K tg J fp it tn)(st:tn 0 s.heap)(hf:∀b∈fp,B4 X pins H b)(w0:W 0 m0 [] (B3 Z d4 N'.length) H)(turn:∀ i m ys Z H,W i m ys Z H->(J.stop i H/\∀ p,H p=none->Q (.ref p) (upd H p (.lst ys))) \/
   (J.go i H/\ys.length < sizeLine/\∀ x H',J.pj i H x H'->g x Z H' λbW H2=>tc bW H2 λb H3 =>
    if b=true then te bW H3 λy H4=>∃ m',m' < m/\W (i + 1) m' (ys ++ [y]) bW H4 else ∃ m',m' < m/\W (i + 1) m' ys bW H3))(zD:∀D C s' H' m,Inv X pins Z H' s'->Q (.ref D) H'->s'.heap.Ns C m->H' C=none->s.heap.objs.size<=C->RR (.ref D) C (.ok .next) s')(LR:∀D C e s',s.heap.objs.size<=C->xx C s H e s'->notedBy (model X.prog X.w) X.A (compEnvC scope (J1 scope cl C) C X.env) (λe s'=>RR (.ref D) C (.error e) s') e s') :
  wpAny (model X.prog X.w) X.A (newList []) (λacc ei=>wpAny (model X.prog X.w) X.A (newFunctionEnv scope X.env.globals cl [] X.env.qual none .none (some X.env)) (λkS jd =>
   kS.frame=X.env.frame/\codeAny (model X.prog X.w) X.A (.compStart (.ListComp elt [⟨tg,iter,ifs,0⟩] scope pos) 0 (.ref it) acc { kS with scope:=relabel scope X.env }) (RR acc kS.locals) jd) E ei) E s:=by
 refine bS (Hb λde fT fc mr=>?_);dsimp only at fT fc mr ⊢;generalize qb:s.heap.push { cls:=.type "list",dict:=none,data:=.seq ([]:List Value).toArray }=H2 at fT fc mr ⊢;generalize eD:s.heap.objs.size=D at *;have hC:H2.objs.size=D+1:=by rw[<- qb,dM,eD]
 generalize eC:H2.objs.size=C at *;have uq:D≠C:=by omega
 have lt:∀b o,s.heap.get? b=some o->b<D:=λb o e=>by rw[<- eD];exact ay e
 have pM:D<=C:=by omega
 have oh:∀b o,s.heap.get? b=some o->b≠C:=λb o e=>aK (ax (lt b o e) pM);have lP:∀b o,s.heap.get? b=some o->b≠D:=λb o e=>aK (lt b o e);have old:∀b o,s.heap.get? b=some o->de.get? b=some o:=λb o e=>fc b o (qb▸aj _ e);have kh:de.get? D=some (L5 [] 0):=fc _ _ (by rw[<- qb,<- eD];exact aA _ rfl);have iA:∀b∈fp,∃o,s.heap.get? b=some o:=λb hb=>by
  obtain⟨o,e,_⟩:=T.obj _ _ st b hb;exact⟨o,e⟩
 have uo:D∉fp:=λhm=>by
  obtain⟨o,e⟩:=iA D hm;exact lP D o e rfl
 have X1:Inv (d6 X pins scope N' cl C s H fp) [] (B3 Z d4 N'.length) H { s with heap:=de } :=
  I.Gq S hc hf iA (by rw[eD];omega) ⟨_,fT⟩ old mr
 have sJ:tn 0 de:=T.keep _ _ _ st λb _ o e=>old b o e;have zW:∀{H':Hp},(∀b∈fp,H' b=none)->∀b∈fp,B4 (d6 X pins scope N' cl C s H fp) [] H' b:=λhn b hb=>by
  obtain⟨f0,f1,f2,f3,f4,f5⟩:=hf b hb;obtain⟨o,e⟩:=iA b hb;refine⟨hn b hb,?_,?_,.inl hb,λx c q=>(xR mr q).elim (λl z=>absurd (cy (z▸l) (ax (lt b o e) pM)) (bj _)) λq=>f4 x c (S.cin x c q),λp hp=>?_⟩
  ·exact oh b o e
  ·exact λz=>by
    rcases aG.mp (I.K0 b z) with z|z
    ·exact f1 z
    ·exact f2 z
  ·have ji:p∈X.pn++pins:=by simpa[d6] using hp
   exact f5 p ji
 have fD:∀{H':Hp},H' D=none->B4 (d6 X pins scope N' cl C s H fp) [] H' D:=λhn=>by
  refine⟨hn,uq,λz=>?_,.inr (by show s.heap.objs.size<=D;omega),λx c q=>?_,λp hp=>?_⟩
  ·exact absurd (I.uT (a:=D) (by omega)) λlz=>by
    rcases aG.mp (I.K0 D z) with z|z
    ·exact absurd I.lt (by rw[<- z,eD];exact bj _)
    ·exact lz z
  ·rcases xR mr q with l|q
   ·exact λz=>absurd (ax (z▸l) pM) (bj _)
   ·obtain⟨v,o,e,_⟩:=I.cell x c (S.cin x c q);exact lP c o e
  ·have ji:p∈X.pn++pins:=by simpa[d6] using hp
   exact lP _ _ (I.pin p ji).1
 have pI:∀{H':Hp} {s':Shared} {bI:St} {aQ:List Value} {n:Nat},Inv (d6 X pins scope N' cl C s H fp) [] bI H' s'->H' D=none->s'.heap.get? D=some (L5 aQ n) ->
   Inv (d6 X pins scope N' cl C s H fp) [(D,L5 aQ n)] bI H' s':=λ{H' s' bI aQ n} J0 hn e=>J0.J5 λp hp=>by
  have z:p=(D,L5 aQ n):=by simpa using hp
  subst z;obtain⟨f0,f1,f2,_⟩:=fD hn;exact⟨e,f0,f1,f2,λv z=>nomatch z⟩
 have qi:∀{H':Hp} {aQ:List Value} {n:Nat},(∀b∈fp,H' b=none)->∀b∈fp,B4 (d6 X pins scope N' cl C s H fp) [(D,L5 aQ n)] H' b:=λ{H' aQ n} hn b hb=>by
  obtain⟨f0,f1,f2,f3,f4,f5⟩:=zW hn b hb;refine⟨f0,f1,f2,f3,f4,λp hp=>?_⟩;have ji:p∈(d6 X pins scope N' cl C s H fp).pn\/p=(D,L5 aQ n):=by simpa using hp
  rcases ji with z|z
  ·exact f5 p (dt _ z)
  ·subst z;exact λz=>uo (by rw[show D=b from z];exact hb)
 have loop:∀ei:Shared,ei={ s with heap:=de } ->
   codeAny (model X.prog X.w) X.A (.compLoop (.ListComp elt [⟨tg,iter,ifs,0⟩] scope pos) 0 (.ref it) (.ref D) (compEnvC scope (J1 scope cl C) C X.env)) (RR (.ref D) C) ei:=by
  rintro ei rfl;refine YY (λn s'=>∃ i ys bI H' aQ nn,Inv (d6 X pins scope N' cl C s H fp) [] bI H' s'/\tn i s'.heap/\(∀ b ∈ fp,H' b=none)/\H' D=none/\Vals ys aQ/\ys.length <= sizeLine /\
   s'.heap.get? D=some (L5 aQ nn)/\W i n ys bI H') ?_ m0 ⟨0,[],_,H,[],0,X1,sJ,λb hb=>(hf b hb).1,I.bC.fresh (by omega),.nil,cz _,kh,w0⟩
  rintro n s3 ⟨i,ys,gR,H3,aQ,nn,I3,nX,oK,d3,v3,z3,o3,w3⟩;have vH:=pI I3 d3 o3;rcases turn i n ys gR H3 w3 with⟨stop,q⟩|⟨go,hz,step⟩
  ·refine bX (T.done (d6 X pins scope N' cl C s H fp) rfl rfl rfl rfl i _ s3 _ H3 _ vH (qi oK) nX stop) λr s4 ⟨hr,I4⟩=>?_;subst hr;have o4:=(I4.pin (D,L5 aQ nn) (by simp)).1;have J4:Inv X pins Z H3 s4:=I.Iu hf I4;have zX:B4 X pins H3 D:=by
    refine⟨d3,bB (by rw[<- eD];exact I.lt),I.uT (by omega),.inr (by have:=I.sz;omega),λx c q=>?_,λp hp=>?_⟩
    ·obtain⟨v,o,e,_⟩:=I.cell x c q;exact lP c o e
    ·exact lP _ _ (I.pin p hp).1
   obtain⟨mC,ze,_⟩:=I4.loc;exact zD D C s4 (upd H3 D (.lst ys)) mC (J4.NJ zX (by have:=I.sz;omega) v3 z3 o4) (q D d3) ze (by rw[f9 uq.symm];exact I4.free) (by omega)
  ·refine bX (T.item (d6 X pins scope N' cl C s H fp) rfl rfl rfl rfl i _ s3 _ H3 _ vH (qi oK) nX go) λr s4 ⟨u,hr,h4⟩=>?_;subst hr;refine bX h4 λ_ s5 aZ=>?_;obtain⟨x,H5,I5,r5,y5,lK,uC⟩:=aZ;have o5:=I5.pin (D,L5 aQ nn) (by simp);have vG:=I5.pinned (qi uC) (T.obj _ _ lK);refine bX (hg C s H _ s5 _ H5 x u _ vG r5 (step x H5 y5)) λ_ s6 aZ=>?_;obtain⟨kG,H6,I6,q6⟩:=aZ;refine bX (ht C s H _ s6 kG H6 _ I6 q6) λok s7 ⟨H7,I7,q7⟩=>?_;have back:∀{sE:St} {H8:Hp} {s8:Shared},Inv (d6 X pins scope N' cl C s H fp) ([(D,L5 aQ nn)]++V5 fp s5.heap) sE H8 s8->(∀b∈fp,H8 b=none)/\tn (i+1) s8.heap/\H8 D=none/\s8.heap.get? D=some (L5 aQ nn) :=
    λ{sE H8 s8} I8=>by
     have pf:∀b∈fp,∀o,s5.heap.get? b=some o->s8.heap.get? b=some o/\H8 b=none:=λb hb o e=>by
      have:=I8.pin (b,o) (bo _ (bo _ (O7 hb e)));exact⟨this.1,this.2.1⟩
     have pd:=I8.pin (D,L5 aQ nn) (by simp);refine⟨λb hb=>?_,T.keep _ _ _ lK λb hb o e=>(pf b hb o e).1,pd.2.1,pd.1⟩;obtain⟨o,e,_⟩:=T.obj _ _ lK b hb;exact(pf b hb o e).2
   cases ok with
   |false =>
    obtain⟨m',hm,w7⟩:=q7;obtain⟨b1,b2,b3,b4⟩:=back I7;exact⟨m',hm,i+1,ys,kG,H7,aQ,nn,I7.J5 λp hp=>absurd hp (by simp),b2,b1,b3,v3,z3,b4,w7⟩
   |true =>
    refine bp (he C s H _ s7 kG H7 _ (I7.X8 _) q7) (λxv s8 aZ=>?_) λe s' hx=>LR D C e s' (by omega) hx;obtain⟨y,H8,I8,r8,m',hm,w8⟩:=aZ;have I8:=I8.AB;obtain⟨b1,b2,b3,b4⟩:=back I8;refine eK F.slot_list_append ⟨_,b4,rfl⟩ F.entry_list_append (F.args_list_append_2 _ _) (PySem.list_append D aQ.toArray nn xv (by rw[aB];have:=v3.length;omega)) ⟨b4,?_⟩;have q:∃n',(s8.heap.update D (Obj.mapSeq (·.push xv))).get? D=some (L5 (aQ++[xv]) n'):=by
     have q0:=PySem.IsL.update b4 (·.push xv);have e0:aQ.toArray.push xv=(aQ++[xv]).toArray:=by simp
     rw[e0] at q0;exact⟨_,q0⟩
    obtain⟨n',q⟩:=q;have CH:Inv (d6 X pins scope N' cl C s H fp) [] kG H8 s8:=I8.J5 λp hp=>absurd hp (by simp);obtain⟨f0,f1,f2,f3,f4,f5⟩:=fD (H':=H8) b3;have kp:∀b o,b≠D->s8.heap.get? b=some o->(s8.heap.update D (Obj.mapSeq (·.push xv))).get? b=some o:=λb' u hb hu=>(bP s8.heap (Obj.mapSeq (·.push xv)) (bA hb)).trans hu;refine⟨m',hm,i+1,ys++[y],kG,H8,aQ++[xv],n',CH.turned (it:=D) (t':=s8.toks) kp f0 f1 f3 f4 f5,T.keep _ _ _ b2 λb hb o e=>kp b o (λz=>uo (by rw[<- z];exact hb)) e,b1,b3,v3.append (.cons r8 .nil),?_,q,w8⟩;rw[aY,ie];omega
 exact⟨rfl,codeAny_compStart_list (loop _ rfl) (T.self _ 0 _ _ _ sJ (loop _ rfl))⟩
theorem Inv.BG{C:Addr}{h':Heap}{s2:Shared}{H2:Hp}(I:Inv X pins Z H s)(hC:s2.heap.objs.size<=C)(I2:Inv X pins Z H2 s2)(hn:H C=none)(sb:Heap.SameBut C s.heap h'):Inv X pins Z H { s with heap:=h' }:=by
 have f:=I2.oS (b:=C) (H':=H) hC hn;obtain⟨f0,f1,f2,f3,f4,f5⟩:=f;exact I.turned (t':=s.toks) (λb o hb e=>sb.extBut b o hb e) f0 f1 f3 f4 f5
theorem Gu{M:Model}{A:Around}{E:Value->Shared->Prop}{s:Shared}{a:Sem Value}{b:Sem Env}{P:Env->Prop}{Q:Value->Env->Shared->Prop}(h:wpAny M A a (λx s1=>wpAny M A b (λy s2=>P y/\Q x y s2) E s1) E s):wpAny M A a (λx s1=>wpAny M A b (λy s2=>Q x y s2) E s1) E s :=
 bp h (λ_ _ h=>bp h (λ_ _ h=>h.2) λ_ _ z=>z) λ_ _ z=>z
theorem HW{elt tg iter:Expr}{ifs:List Expr}{scope:Scope}{N':List Str}{d4:List Nat}{cl:List (Str×Addr)}{pos:Pos}{wi:TI}{g:TG}{tc:TT}{te:TE}(S:cT X scope N' d4 cl)(hc:X.calm=true)(hi:PI X tg iter wi)(hg:∀pins C s H fp,PG (d6 X pins scope N' cl C s H fp) tg g)(ht:∀pins C s H fp,kB (d6 X pins scope N' cl C s H fp) ifs tc)(he:∀pins C s H fp,PE (d6 X pins scope N' cl C s H fp) elt te)(hs:∀x,foldedSetIterable iter X.env x=pure x):PE X (.ListComp elt [⟨tg,iter,ifs,0⟩] scope pos) (BR wi d4 N'.length g tc te):=by
 intro pins s Z H Q I h;rw[eval_ListComp];refine hX (use:=none) rfl hs S.qm S.kind S.names (bX (hi pins s Z H _ I h) λxv bK de=>bX de λtP fm iz=>?_);obtain⟨it,fp,tn,J,H2,e,I2,T,ka,f2,W,⟨m0,w0⟩,turn⟩:=iz;subst e;refine Gu (Gp (xx:=λ_ _ _ _ _=>False) (RR:=λacc C=>compPost (model X.prog X.w) X.A X.xe none (EP X pins Z Q) acc C) S hc (λC s H=>hg pins C s H fp) (λC s H=>ht pins C s H fp) (λC s H=>he pins C s H fp) I2 T ka f2 w0 turn ?_ λ_ _ _ _ _ z=>z.elim);intro D C s' H' m I' q hn hC hsz;exact⟨m,hn,λh' sb=>⟨.ref D,H',I'.BG hsz I2 hC sb,rfl,q⟩⟩
theorem YO{elt tg iter:Expr}{ifs:List Expr}{scope:Scope}{N':List Str}{d4:List Nat}{cl:List (Str×Addr)}{pos sN px:Pos}{wi:TI}{g:TG}{tc:TT}{te:TE}{i:Nat}{x:Str}(S:cT X scope N' d4 cl)(hc:X.calm=true)(hi:PI X tg iter wi)(hg:∀pins C s H fp,PG (d6 X pins scope N' cl C s H fp) tg g)(ht:∀pins C s H fp,kB (d6 X pins scope N' cl C s H fp) ifs tc)(he:∀pins C s H fp,PE (d6 X pins scope N' cl C s H fp) elt te)(hs:∀x,foldedSetIterable iter X.env x=pure x)(hN:X.N.Nodup)(ua:X.N[i]?=some x)(hx:Loc X.env.scope x)(hf:X.fn x=true\/X.env.scope.names.lookup x=some .local) :
  PS X (.Assign [.Name x px] (.ListComp elt [⟨tg,iter,ifs,0⟩] scope pos) sN) (uU (BR wi d4 N'.length g tc te) (rS i)):=by
 intro pins s Z H D I h;have wk:∃b,swapsWith (.ListComp elt [⟨tg,iter,ifs,0⟩] scope pos) (some (.Name x px)) sN.line X.env=pure b:=⟨_,rfl⟩
 obtain⟨b,wk⟩:=wk;cases b with
 |false=>exact Hq hN ua hx (HW S hc hi hg ht he hs) wk hf pins s Z H D I h
 |true =>
  rw[exec_Assign_Name_used _ _ _ _ wk];refine ae (du (ae ?_));show wpAny _ X.A (do let _ <- comprehension (.ListComp elt [⟨tg,iter,ifs,0⟩] scope pos) scope X.env _ (newList []) false (eval iter X.env) (some (assign (.Name x px) X.env))) _ _ s;refine ae (bp (hX (use:=some (assign (.Name x px) X.env)) (Q:=λ_ s'=>SP X pins D .next s') rfl hs S.qm S.kind S.names
   (bX (hi pins s Z H _ I h) λxv bK de=>bX de λtP fm iz=>?_)) (λ_ s' hq=>ai (ai hq)) λ_ _ e=>e)
  obtain⟨it,fp,tn,J,H2,e,I2,T,ka,f2,W,⟨m0,w0⟩,turn⟩:=iz;subst e;refine Gu (Gp (xx:=λ_ _ _ _ _=>False) (Q:=λv H1=>rS i v Z H1 D.nx) (RR:=λacc C=>compPost (model X.prog X.w) X.A X.xe (some (assign (.Name x px) X.env)) (λ_ s'=>SP X pins D .next s') acc C) S hc (λC s H=>hg pins C s H fp) (λC s H=>ht pins C s H fp) (λC s H=>he pins C s H fp) I2 T ka f2 w0 turn ?_ λ_ _ _ _ _ z=>z.elim);intro Dl C s' H' m I' q hn hC hsz;show wpAny _ X.A (assign (.Name x px) X.env (.ref Dl)) _ _ _;refine wpAny_assign_Name (Gg I' hN ua hx (v:=.ref Dl) rfl (λs3 I3 ⟨a,sb,ha⟩=>?_) hf);have LU:C≠a:=by
   obtain⟨f0,f1,f2,f3,f4,f5⟩:=I2.oS (b:=C) (H':=H') hsz hC;rcases ha with z|z
   ·rw[z];exact f1
   ·exact λz'=>f4 _ _ z z'.symm
  obtain⟨f0,f1,f2,f3,f4,f5⟩:=I2.oS (b:=C) (H':=H') hsz hC;refine⟨m,hn.sameBut sb LU,λh3 JY=>⟨_,H',I3.turned (t':=s3.toks) (λb o hb e=>JY.extBut b o hb e) f0 f1 f3 f4 f5,q⟩⟩
end
end L2

namespace HT
open PySem PyProof.Rows
section
variable{prog:Program}{w:World}{A:Around}{E:Value->Shared->Prop}{s:Shared}
theorem Zg{t b:Addr}{ws:List Value}{Q:Value->Shared->Prop}(ht:IsTup s.heap t #[])(hb:IsTup s.heap b ws.toArray)(h1:Q (.ref b) s):wpAny (model prog w) A (binaryOp .Add (.ref t) (.ref b)) Q E s:=by
 obtain⟨⟨cls,dd,data,sl⟩,ho,hc,n,hd⟩:=id ht;obtain⟨⟨uP,oO,data2,km⟩,iB,mx,n2,hd2⟩:=id hb;simp only at hc hd mx hd2;subst hc hd mx hd2;exact concat_meets ⟨_,ho,rfl⟩ ⟨_,iB,rfl⟩ iM kU gP gB (gh _ _)
   (tuple_addW0 t b #[] ws.toArray n n2 dd oO sl km rfl) ⟨ho,iB,h1⟩
theorem Wa{t sl:Addr}{items:Array Value}{vl vu:Value}{lo hi:Option Int}{Q:Value->Shared->Prop}(ht:IsTup s.heap t items)(hs:s.heap.IsSliceOf sl vl vu .none)(pl:IsPart vl lo)(pu:IsPart vu hi)(hw:da items.size 0 lo=0/\da items.size items.size hi=items.size)(h:Q (.ref t) s):wpAny (model prog w) A (getItem (.ref t) (.ref sl)) Q E s:=by
 obtain⟨os,pQ,wu,uc⟩:=id hs;have zB:s.TypeIs (.ref sl) "slice":=⟨os,pQ,wu⟩
 unfold getItem
 try with_reducible refine bY ?_
 first|refine ae (ai ?_)|skip
 refine ae (wpAny_sequenceKey ht.typeIs (by decide) ?_);refine ae (eQ (name:=Str.ofString "__getitem__") ht.typeIs bD
  (cu bD ht.typeIs entry_tuple_getitem ?_ (args_tuple_getitem _ _)))
 show wpAny _ _ (Builtin.Tuple.tupleItemsOf (.ref t) >>= _) _ _ s;refine ae (tupleItemsOf_ ht ?_);refine ae (dX zB ?_);rw[aH (by decide)];refine ae (Q4 hs pl pu ?_);have pP:((((da items.size 0 lo:Nat):Int)==0&&(1:Int)==1&&(da items.size items.size hi-da items.size 0 lo)==items.size)=true):=by
  rw[hw.1,hw.2];simp
 show wpAny _ _ (if(((da items.size 0 lo:Nat):Int)==0&&(1:Int)==1&&(da items.size items.size hi-da items.size 0 lo)==items.size)=true then _ else _) _ _ s;rw[aH pP];obtain⟨o,ho,hc,_⟩:=id ht;unfold Builtin.Tuple.tupleIsExact;refine ae (ae (dX ht.typeIs (ai ?_)));rw[aH (by decide)]
 first
  |exact wpAny_bind (wpAny_rule (wpAny_bind (wpAny_pure ⟨_,rfl,wpAny_pure h⟩)))
  |exact wpAny_bind (wpAny_rule (wpAny_pure ⟨_,rfl,wpAny_pure h⟩))
  |exact wpAny_bind (wpAny_rule (wpAny_bind (wpAny_pure (wpAny_pure ⟨_,rfl,wpAny_pure h⟩))))
end
end HT
namespace L2
open PySem PySem.Spec PyProof.Rows
section
variable{X:Cx}
def Px(K:PySem.W.Frag):R2:=λx y H Q=>∃a b xs ys,x=.ref a/\y=.ref b/\gU K H a xs/\gU K H b ys/\xs.length+ys.length<=sizeLine /\
 (xs=[]->Q (.ref b) H)/\(ys=[]->Q (.ref a) H)/\(∀p,H p=none->Q (.ref p) (upd H p (.tup (xs++ys))))
theorem ZF:eZ X (binaryOp .Add) (Px X.K):=by
 intro pins s Z H x y v u Q I rx ry h;obtain⟨a,b,xs,ys,rfl,rfl,ha,hb,hz,q0,q1,q2⟩:=h;by_cases hx:xs=[]
 ·subst hx;cases rx;cases ry;obtain⟨aQ,r1,p1,_⟩:=I.tuple ha;obtain⟨lS,r2,p2,_⟩:=I.tuple hb;cases r1;exact HT.Zg p1 p2 ⟨.ref b,H,I,rfl,q0 rfl⟩
 ·exact Rm pins s Z H _ _ v u Q I rx ry ⟨a,b,xs,ys,rfl,rfl,ha,hb,hx,hz,q1,λ_=>q2⟩
def Nl(K:PySem.W.Frag):V->Option Int->Option Int->Hp->VK->Prop:=λx lo hi H Q=>∃a xs,x=.ref a/\gU K H a xs /\
 (R9 xs lo hi=xs->Q (.ref a) H)/\∀p,H p=none->Q (.ref p) (upd H p (.tup (R9 xs lo hi)))
theorem Sj:vB X (Nl X.K):=by
 intro pins s Z H x v vl vu lo hi sl Q I rx hs pl pu h;obtain⟨a,xs,rfl,hx,q0,q⟩:=h;by_cases hw:HT.da xs.length 0 lo=0/\HT.da xs.length xs.length hi=xs.length
 ·cases rx;obtain⟨aQ,r,ht,hz⟩:=I.tuple hx;have hlen:aQ.toArray.size=xs.length:=by rw[aB];exact r.length.symm
  refine⟨"tuple",_,bD.lookup,ht.typeIs,?_⟩;exact HT.Wa ht hs pl pu (by rw[hlen];exact hw) ⟨.ref a,H,I,rfl,q0 (by unfold R9;rw[hw.1,hw.2];simp)⟩
 ·exact Qe pins s Z H _ v vl vu lo hi sl Q I rx hs pl pu ⟨a,xs,rfl,hx,hw,q⟩
theorem YC:k9 X (.builtin "isinstance") (λxs H Q=>∃x t c b,xs=[x,.ty c]/\gp X.K H x t/\PySem.W.kitOne X.K t (.type c)=some b/\Q (.bl b) H):=by
 intro pins s Z H xs us Q I r h;obtain⟨x,t,c,b,rfl,hT,hk,q⟩:=h;obtain⟨u,w',rfl,ru,fz⟩:=vals2 r;cases (show w'=Value.type c from fz);exact WT I ru hT hk λtk=>⟨.bl b,H,I.tok tk,rfl,q⟩
theorem Wz(hc:X.calm=true):k9 X (.builtin "all") (λxs H Q=>∃(a:Addr) (bs:List Bool),xs=[.ref a]/\fh X.K H a (bs.map V.bl)/\Q (.bl (bs.all id)) H):=by
 intro pins s Z H xs us Q I r h;obtain⟨a,bs,rfl,ha,q⟩:=h;obtain⟨u,rfl,ru⟩:=vals1 r;cases ru;obtain⟨aQ,rv,p,hz⟩:=I.list ha;refine call_all_walk ?_;refine gX p.isList ?_;have dw:a≠s.heap.objs.size:=by
  obtain⟨o,e,_⟩:=id p.isList;exact aK (ay e)
 have hl:=rv.length;rw[ah] at hl;refine⟨s.heap.objs.size,_,_,_,_,_,λi=>bs.getD i true,rfl,Walks.list (A:=X.A.in1) (I.ok.hd hc) _ a dw aQ.toArray,⟨⟨_,aA _ rfl,rfl,rfl⟩,?_⟩,?_,λh' tk k=>?_⟩
 ·obtain⟨o,e,q1⟩:=id p.isList;exact⟨o,aj _ e,q1⟩
 ·intro i v s' Q' E' hP hQ;have hv:aQ[i]?=some v:=by simpa using hP
  have hi:i<bs.length:=by rw[hl];exact(ak.mp hv).1
  obtain⟨u',tR,yA⟩:=rv.get (i:=i) (x:=V.bl bs[i]) (by rw[ao,au hi];rfl);rw[hv] at tR;cases tR;cases (show v=Value.bool bs[i] from yA);refine bZ ?_;have:bs.getD i true=bs[i]:=by simp[List.getD,hi]
  dsimp only at hQ;rw[this] at hQ;exact hQ
 ·have e1:(List.range aQ.toArray.size).all (λi=>bs.getD i true)=bs.all id:=by
   rw[aB,<- hl];rw[bh];simp only[List.all_eq_true,List.mem_range,id];constructor
   ·intro hh x hx;obtain⟨i,hi,rfl⟩:=cq.mp hx;have:=hh i hi;simpa[List.getD,hi] using this
   ·intro hh i hi;have:=hh bs[i] (cQ hi);simpa[List.getD,hi] using this
  rw[e1];exact ⟨.bl (bs.all id),H,I.kept (t':=tk) λb o e=>k b o (by
   intro hb;have:b=s.heap.objs.size:=by simpa using hb
   exact absurd (ay e) (by rw [this];exact bj _)) (aj _ e),rfl,q⟩
end
end L2

namespace HT
open PySem PyProof.Rows
section
variable{prog:Program}{w:World}{A:Around}{E:Value->Shared->Prop}{s:Shared}
end
end HT
namespace L2
open PySem PySem.Spec PyProof.Rows
section
variable{X:Cx}{e st:Expr}{te ts:TE}{pos p2:Pos}
end
end L2

namespace L2
open PySem PySem.Spec PyProof.Rows
theorem k8.get{P:Program}{w:World}{H:Hp}{h:Heap}{a:Addr}:∀{o:HO},k8 P w H h a o->∃ob,h.get? a=some ob
 |.lst _,x=>by obtain⟨_,_,_,_,e⟩:=x;exact⟨_,e⟩
 |.tup _,x=>by obtain⟨_,_,_,o,e,_⟩:=x;exact⟨o,e⟩
 |.dK _,x=>by obtain⟨_,_,_,_,o,es,ep,e,_⟩:=x;exact⟨o,e⟩
 |.dT _,x=>by obtain⟨_,_,_,_,o,es,ep,e,_⟩:=x;exact⟨o,e⟩
 |.set _ _,x=>by obtain⟨o,es,ep,t,e,_⟩:=x;exact⟨o,e⟩
 |.ins _ _ _,x=>by obtain⟨_,_,_,e,_⟩:=x;exact⟨_,e⟩
 |.own _,x=>x
 |.xd _,x=>by obtain⟨mA,n,_⟩:=x;obtain⟨od,e,_⟩:=FX n;exact⟨od,e⟩
 |.lh _ _,x=>by obtain⟨_,_,_,e⟩:=x;exact⟨_,e⟩
 |.jj _ _,x=>⟨_,x.1⟩
 |.nU _,x=>⟨_,x⟩
 |.met _ _,x=>⟨_,x⟩
 |.ext _,x=>x.2.1
def Bz(H':Hp)(h0:Heap)(l:List Env)(e:Value)(C:Addr)(h:Heap):Prop :=
 ∃(ea:Addr) (a0:Value) (B:Heap),e=.ref ea/\Heap.FlyingW B l ea (.ref C) a0 h/\∀b o,h.get? b=some o->b∉fg l->(H' b≠none\/∃o0,h0.get? b=some o0)->B.get? b=some o
def iG(P:Program)(w:World):mL:=λouter H s E e s'=>∃(C:Addr) (H':Hp),s'.os=s.os/\AllBare s'.gens/\Un (fg outer) [] H H' s.heap s'.heap/\fF P w H' s'.heap/\Bz H' s.heap outer e C s'.heap/\E (.ref C) none H'
section
variable{X:Cx}{pins:List (Addr×Obj)}{Z:St}{H:Hp}{s s':Shared}{E:XK}{e:Value}
theorem Inv.flew(I:Inv X pins Z H s)(h:iG X.prog X.w X.stack H s E e s'):∃C H',Inv X pins Z H' s'/\Bz H' s.heap X.stack e C s'.heap/\E (.ref C) none H':=by
 obtain⟨C,H',ho,hb,hu,bC,fl,hE⟩:=h;exact⟨C,H',I.BD (ch:=[]) ho hu bC hb (by simp),fl,hE⟩
theorem Z7(I:Inv X pins Z H s){b:Addr}(hb:b∈fg X.stack):∃o,s.heap.get? b=some o/\∀vs,o.data≠.fields vs:=(I.stack.mem hb).2
theorem BE{mT:Heap}{B:Heap}{ea C:Addr}{a0:Value}(I:Inv X pins Z H s)(cV:X.stack=X.env::X.outer)(hex:X.ex=[])(hf:X.env.frame=some X.env.locals)(oo:∀b o,s.heap.get? b=some o->b∉fg X.stack->(H b≠none\/∃o0,X.cL.heap.get? b=some o0)->B.get? b=some o)(sl:∀b∈fg X.stack,∀o,s.heap.get? b=some o->∃sl,mT.get? b=some { o with slots:=sl })(fw:Heap.FlyingW B X.outer ea (.ref C) a0 mT)(hE:E (.ref C) none H):iG X.prog X.w X.outer X.iR X.cL E (.ref ea) { s with heap:=mT }:=by
 have yT:∀b,b∈fg X.outer->b∈fg X.stack:=λb hb=>by rw[cV];unfold fg at hb ⊢;rw[dE,hf];exact bG _ hb
 have tj:∀b o,X.cL.heap.get? b=some o->b∉fg X.outer->b∉fg X.stack:=λb o e hb z=>by
  rcases aG.mp (I.K0 b z) with z|z
  ·exact absurd (ay e) (by rw[z];exact jv.mpr I.ok.above)
  ·exact hb z
 have nk:∀b u,H b=some u->b∉fg X.stack:=λb u e z=>by rw[I.xN b z] at e;cases e
 have kept:∀b o,s.heap.get? b=some o->b∉fg X.stack->(H b≠none\/∃o0,X.cL.heap.get? b=some o0)->mT.get? b=some o:=λb o e n q=>fw.1 b o (oo b o e n q);have tu:∀b,b∉X.ex:=λb=>by rw[hex];simp
 refine⟨C,H,I.os,I.bare,⟨?_,?_,?_,?_,I.base.gC,I.base.gn,I.base.gD⟩,?_,⟨ea,a0,B,rfl,fw,?_⟩,hE⟩
 ·exact λb o e n1 n2 _=>kept b o (I.base.keep b o e n1 n2 (tu b)) (tj b o e n2) (.inr ⟨o,e⟩)
 ·intro b o e n1 n2 _;obtain⟨JW,e1⟩:=I.base.slot b o e n1 n2 (tu b);obtain⟨km,e2⟩:=sl b (yT b n2) _ e1;exact⟨km,e2⟩
 ·exact λb o e n1 _=>I.base.free b o e n1 (tu b)
 ·intro b o e _;obtain⟨o1,e1⟩:=I.base.there b o e (tu b);by_cases hb:b∈fg X.stack
  ·obtain⟨km,e2⟩:=sl b hb _ e1;exact⟨_,e2⟩
  ·exact⟨o1,kept b o1 e1 hb (.inr ⟨o,e⟩)⟩
 ·intro a o e;exact (I.bC a o e).Q2 (λb u hb q=>by
   have jS:∃v,H b=some v:=by
    rcases hb with rfl|hb
    ·exact⟨o,e⟩
    ·exact⟨_,hb⟩
   obtain⟨v,hv⟩:=jS;exact kept b u q (nk b v hv) (.inl (by rw [hv];simp))) (λb hb=>hb) (λb xs hb=>hb)
 ·intro b o e n q;rcases q with q|⟨o0,q⟩
  ·obtain⟨v,hv⟩:=ng.mp q;obtain⟨o1,e1⟩:=(I.bC b v hv).get;have z:=oo b o1 e1 (nk b v hv) (.inl (by rw[hv];simp));have z':=fw.1 b o1 z;have:o=o1:=by
    have e':mT.get? b=some o:=e;rw[z'] at e';exact(aJ e').symm
   subst this;exact z
  ·obtain⟨o1,e1⟩:=I.base.there b o0 q (tu b);have z:=oo b o1 e1 (tj b o0 q n) (.inr ⟨o0,q⟩);have z':=fw.1 b o1 z;have:o=o1:=by
    have e':mT.get? b=some o:=e;rw[z'] at e';exact(aJ e').symm
   subst this;exact z
theorem Vv{h0:Heap}{C:Addr}{Ex:Value->Shared->Prop}(I:Inv X pins Z H s)(fl:Bz H h0 X.stack e C s.heap)(Mr:∀b o,X.cL.heap.get? b=some o->∃o',h0.get? b=some o')(cV:X.stack=X.env::X.outer)(hex:X.ex=[])(hf:X.env.frame=some X.env.locals)(hE:E (.ref C) none H):wpAny (model X.prog X.w) X.A (leaving X.env e) (λ_ nr=>iG X.prog X.w X.outer X.iR X.cL E e nr) Ex s:=by
 obtain⟨ea,a0,B,rfl,fw,hB⟩:=fl;have fw0:=fw;rw[cV] at fw;refine wpAny_leaves_onW (by rw[I.ok.frames,cV]) hf fw λmT wJ us=>?_;refine BE I cV hex hf (λb o e n q=>hB b o e n (q.imp id λ⟨o0,q⟩=>Mr b o0 q)) (λb hb o e=>?_) wJ hE;obtain⟨o1,e1,nf⟩:=Z7 I hb;rw[e] at e1;cases e1;exact us b o e nf
theorem X'{h':Heap}{ea C:Addr}{vs:List Value}{Ex:Value->Shared->Prop}(I:Inv X pins Z H s)(hx:Heap.MadeExcOf s.heap h' ea (.ref C) vs)(cV:X.stack=X.env::X.outer)(hex:X.ex=[])(hf:X.env.frame=some X.env.locals)(hE:E (.ref C) none H):wpAny (model X.prog X.w) X.A (leaving X.env (.ref ea)) (λ_ nr=>iG X.prog X.w X.outer X.iR X.cL E (.ref ea) nr) Ex { s with heap:=h' }:=by
 have rf:=I.stack;rw[cV] at rf;have mj:∀env∈(X.env::X.outer),∀b,env.frame=some b->b∈fg X.stack:=λenv he b hb=>by rw[cV];exact jx.mpr ⟨env,he,hb⟩
 refine wpAny_leaves_madeW (s:={ s with heap:=h' }) (base:=PySem.W.hideAll s.heap (fg X.stack)) (h:=s.heap) (by rw[I.ok.frames,cV]) hf (λb o q=>Jw _ q) (PySem.W.funFrames_hide rf mj) hx λmT t fw _ _ us=>?_;refine(show iG X.prog X.w X.outer X.iR X.cL E (.ref ea) { s with heap:=mT } from BE I cV hex hf (λb o e n _=>CM _ e n) (λb hb o e=>?_) fw hE);obtain⟨o1,e1,nf⟩:=Z7 I hb;rw[e] at e1;cases e1;exact us b o (hx.keeps b o e) nf
theorem Wr{l:List Env}{H H':Hp}{h0 h h1 B:Heap}{Pg:Program}{w:World}(u:Un (fg l) [] H H' h0 h)(ok:fF Pg w H' h)(hB:∀b o,h.get? b=some o->b∉fg l->(H' b≠none\/∃o0,h0.get? b=some o0)->B.get? b=some o)(st:B.StaysIn h1)(us:h.UpToSlots h1)(DX:∀b∈fg l,H' b=none/\∃o,h.get? b=some o/\∀vs,o.data≠.fields vs):Un (fg l) [] H H' h0 h1/\fF Pg w H' h1/\∀b o,h1.get? b=some o->b∉fg l->(H' b≠none\/∃o0,h0.get? b=some o0)->B.get? b=some o:=by
 have nk:∀b u,H' b=some u->b∉fg l:=λb u e z=>by rw[(DX b z).1] at e;cases e
 have kept:∀b o,h.get? b=some o->b∉fg l->(H' b≠none\/∃o0,h0.get? b=some o0)->h1.get? b=some o:=λb o e n q=>st b o (hB b o e n q);have Es:∀b∈fg l,∀o,h.get? b=some o->∃sl,h1.get? b=some { o with slots:=sl }:=λb hb o e=>by
  obtain⟨_,o1,e1,nf⟩:=DX b hb;rw[e] at e1;cases e1;exact us b o e nf
 refine⟨⟨?_,?_,u.free,?_,u.gC,u.gn,u.gD⟩,?_,?_⟩
 ·exact λb o e n1 n2 n3=>kept b o (u.keep b o e n1 n2 n3) n2 (.inr ⟨o,e⟩)
 ·intro b o e n1 n2 n3;obtain⟨JW,e1⟩:=u.slot b o e n1 n2 n3;obtain⟨km,e2⟩:=Es b n2 _ e1;exact⟨km,e2⟩
 ·intro b o e n;obtain⟨o1,e1⟩:=u.there b o e n;by_cases hb:b∈fg l
  ·obtain⟨km,e2⟩:=Es b hb _ e1;exact⟨_,e2⟩
  ·exact⟨o1,kept b o1 e1 hb (.inr ⟨o,e⟩)⟩
 ·intro a o e;exact (ok a o e).Q2 (λb u hb q=>by
   have jS:∃v,H' b=some v:=by
    rcases hb with rfl|hb
    ·exact⟨o,e⟩
    ·exact⟨_,hb⟩
   obtain⟨v,hv⟩:=jS;exact kept b u q (nk b v hv) (.inl (by rw [hv];simp))) (λb hb=>hb) (λb xs hb=>hb)
 ·intro b o e n q;have:∃o1,h.get? b=some o1:=by
   rcases q with q|⟨o0,q⟩
   ·obtain⟨v,hv⟩:=ng.mp q;exact(ok b v hv).get
   ·exact u.there b o0 q (by simp)
  obtain⟨o1,e1⟩:=this;have z:=hB b o1 e1 n q;rw[st b o1 z] at e;cases e;exact z
section
variable{s':Shared}
structure Lies(X:Cx)(H H':Hp)(s:Shared)(B:Heap)(ea C:Addr)(a0:Value)(s':Shared):Prop where
 os:s'.os=s.os
 bare:AllBare s'.gens
 un:Un (fg X.stack) [] H H' s.heap s'.heap
 bC:fF X.prog X.w H' s'.heap
 oo:∀b o,s'.heap.get? b=some o->b∉fg X.stack->(H' b≠none\/∃o0,s.heap.get? b=some o0)->B.get? b=some o
theorem Lies.inv{H':Hp}{B:Heap}{ea C:Addr}{a0:Value}(I:Inv X pins Z H s)(l:Lies X H H' s B ea C a0 s'):Inv X pins Z H' s':=I.BD (ch:=[]) l.os l.un l.bC l.bare (by simp)
theorem leave_held{H':Hp}{B:Heap}{ea C:Addr}{a0:Value}{Ex:Value->Shared->Prop}(I:Inv X pins Z H s)(l:Lies X H H' s B ea C a0 s')(hh:Heap.HeldW B X.stack ea (.ref C) a0 X.env.locals s'.heap)(cV:X.stack=X.env::X.outer)(hex:X.ex=[])(hf:X.env.frame=some X.env.locals)(hE:E (.ref C) none H'):wpAny (model X.prog X.w) X.A (leaving X.env (.ref ea)) (λ_ nr=>iG X.prog X.w X.outer X.iR X.cL E (.ref ea) nr) Ex s':=by
 have J:=l.inv I;have zm:=hh;rw[cV] at zm;unfold leaving;refine ae (wpAny_noteFrame_againW hf zm.2.2.2 ?_);refine wpAny_landsW zm λmT fl us=>?_;obtain⟨k1,k2,⟨_,_,k3⟩,k4⟩:=fl;refine BE J cV hex hf (λb o e n q=>l.oo b o e n (q.imp id λ⟨o0,q⟩=>I.base.there b o0 q (by rw[hex];simp))) (λb hb o e=>?_) ⟨k1,k2,k3,k4⟩ hE;obtain⟨o1,e1,nf⟩:=Z7 J hb;rw[e] at e1;cases e1;exact us b o e nf
end
def xA(X:Cx)(Ξ:XK):Prop:=∀(pins:List (Addr×Obj)) (Z:St) (H:Hp) (s:Shared) (h':Heap) (ea C:Addr) (vs:List Value),Inv X pins Z H s->Heap.MadeExcOf s.heap h' ea (.ref C) vs->Ξ (.ref C) none H->X.xe (.ref ea) { s with heap:=h' }
def vn(X:Cx)(Ξ:XK):Prop:=∀(pins:List (Addr×Obj)) (Z:St) (H H':Hp) (s s':Shared) (B:Heap) (ea C:Addr) (a0:Value),Inv X pins Z H s->Lies X H H' s B ea C a0 s'->Heap.HeldW B X.stack ea (.ref C) a0 X.env.locals s'.heap->Ξ (.ref C) none H'->X.xe (.ref ea) s'
def Qs(C:Addr)(Ξ:XK)(t:TA):TS:=λ_ Z H=>t Z H λvs H1=>vs.length<=sizeLine/\Ξ (.ref C) none H1
theorem ZQ{x:Str}{C:Addr}{B newId fR:String}{bm:List Value}{np ft pos:Pos}{jl:Expr}{rest:List Expr}{t:TA}{Ξ:XK}(hc:X.calm=true)(O:OwnCls x C bm newId X.mg X.base)(FB:ExcBaseFacts B newId fR bm)(hg:Gl X x)(ha:PA X (jl::rest) t)(hr:xA X Ξ)(he:starEach (jl::rest) X.env=(false,eval jl X.env)::starEach rest X.env)(fS:(backTo ft (starEach rest X.env)).any (·.1)=false)(hd:(x==("__debug__":Str))=false) :
  PS X (.Raise (some (.Call (.Name x np) (jl::rest) [] ft)) none pos) (Qs C Ξ t):=by
 intro pins s Z H D I h;obtain⟨tl,N,nm,q,bs,hdct,sn,sub,ab,col,dd,k0,k1,k2,k3,k5,mN,hC,hN,wo,T⟩:=O.obj;refine wpAny_Raise_call_subT (C:=C) (nm:=nm) (q:=q) (N:=N) (bs:=bs) (bm:=tl) (hdct:=hdct) (sn:=sn) (sub:=sub) (ab:=ab) (col:=col) (dd:=dd) (k0:=k0) (k1:=k1) (k2:=k2) (k3:=k3) (k5:=k5)
  FB (mN:=mN) (T.hasType FB.hasBase) (I.ok.hd hc) (by rw[he];show(false||(backTo ft (starEach rest X.env)).any (·.1))=false;rw[fS];rfl) wo (P6 I hg O.bound ⟨rfl,?_⟩ hd)
 have h':=ha ft pins s Z H _ I h;rw[he] at h' ⊢;refine Calls.evalArgs_plain (bp h' (λvs fm iz=>?_) λ_ _ y=>y);obtain⟨ws,H1,I1,rv,hz,hE⟩:=iz;exact⟨rfl,by rw[<- rv.length];exact hz,I1.bk _ _ hC,hN.keeps I1.bk,T.keeps I1.bk,λh2 ea hm=>hr pins Z H1 fm h2 ea C vs I1 hm hE⟩
def S4(X:Cx)(pins:List (Addr×Obj))(xe:Value->Shared->Prop):Cx:={ X with pn:=X.pn++pins,xe:=xe }
def C5(X:Cx)(ea:Addr):Cx:={ X with A:=X.A.mark (some (.ref ea)),calm:=false,xe:=λ_ _=>False }
theorem Inv.NI{xe:Value->Shared->Prop}(I:Inv X pins Z H s):Inv (S4 X pins xe) [] Z H s :=
 ⟨⟨I.ok.mod,I.ok.kind,I.ok.glob,I.ok.blt,I.ok.above,I.ok.inj,I.ok.has,I.ok.oQ,I.ok.hd,I.ok.frames,I.ok.pz,I.ok.uE,I.ok.bs,I.ok.mH,I.ok.jF,I.ok.ki,I.ok.I9,I.ok.mU⟩,I.os,I.bare,I.base,I.loc,I.cell,I.free,I.dG,
  λp hp=>I.pin p (by simpa [S4] using hp),I.bC,I.len⟩
theorem Inv.Y5{xe:Value->Shared->Prop}{ip:List (Addr×Obj)}(I:Inv (S4 X pins xe) ip Z H s):Inv X pins Z H s :=
 ⟨⟨I.ok.mod,I.ok.kind,I.ok.glob,I.ok.blt,I.ok.above,I.ok.inj,I.ok.has,I.ok.oQ,I.ok.hd,I.ok.frames,I.ok.pz,I.ok.uE,I.ok.bs,I.ok.mH,I.ok.jF,I.ok.ki,I.ok.I9,I.ok.mU⟩,I.os,I.bare,I.base,I.loc,I.cell,I.free,I.dG,
  λp hp=>I.pin p (dt _ hp),I.bC,I.len⟩
theorem Inv.Hz{ea:Addr}(I:Inv X pins Z H s):Inv (C5 X ea) pins Z H s :=
 ⟨⟨I.ok.mod,I.ok.kind,I.ok.glob,I.ok.blt,I.ok.above,I.ok.inj,I.ok.has,I.ok.oQ,λz=>(by cases z),I.ok.frames,I.ok.pz,I.ok.uE,I.ok.bs,I.ok.mH,I.ok.jF,I.ok.ki,I.ok.I9,I.ok.mU⟩,I.os,I.bare,I.base,I.loc,I.cell,I.free,I.dG,I.pin,I.bC,I.len⟩
theorem Inv.V8{ea:Addr}(J:X.Ok)(I:Inv (C5 X ea) pins Z H s):Inv X pins Z H s :=
 ⟨J,I.os,I.bare,I.base,I.loc,I.cell,I.free,I.dG,I.pin,I.bC,I.len⟩
theorem SP.Y5{xe:Value->Shared->Prop}{D:Ends}{f:Flow}(h:SP (S4 X pins xe) [] D f s):SP X pins D f s:=by
 cases f with
 |next=>obtain⟨a,b,I,q⟩:=h;exact⟨a,b,I.Y5,q⟩
 |brk=>obtain⟨a,b,I,q⟩:=h;exact⟨a,b,I.Y5,q⟩
 |cont=>obtain⟨a,b,I,q⟩:=h;exact⟨a,b,I.Y5,q⟩
 |ret u=>obtain⟨v,a,b,I,r,q⟩:=h;exact⟨v,a,b,I.Y5,r,q⟩
theorem SP.V8{ea:Addr}{D:Ends}{f:Flow}(J:X.Ok)(h:SP (C5 X ea) pins D f s):SP X pins D f s:=by
 cases f with
 |next=>obtain⟨a,b,I,q⟩:=h;exact⟨a,b,I.V8 J,q⟩
 |brk=>obtain⟨a,b,I,q⟩:=h;exact⟨a,b,I.V8 J,q⟩
 |cont=>obtain⟨a,b,I,q⟩:=h;exact⟨a,b,I.V8 J,q⟩
 |ret u=>obtain⟨v,a,b,I,r,q⟩:=h;exact⟨v,a,b,I.V8 J,r,q⟩
def qx(X:Cx)(D:Ends)(C:Addr)(H:Hp):List ExceptHandler->Prop
 |.ExceptHandler (some (.Name x _)) none (uR::nV) _::rest=>Gl X x/\(x==("__debug__":Str))=false/\∃C' b,X.mg x=some (.ref C')/\PySem.W.exmOne X.K (.ref C) (.ref C')=some b /\
   (if b=true then ∃t:TS,(∀ea,iJ (C5 X ea) (uR::nV) t)/\t D (List.replicate X.N.length none) H else qx X D C H rest)
 |[]=>∃Ξ:XK,vn X Ξ/\Ξ (.ref C) none H
 |_=>False
end
end L2

namespace L2
open PySem PySem.Spec PyProof.Rows
section
variable{X:Cx}{pins:List (Addr×Obj)}{Z:St}{H H':Hp}{s s':Shared}{e:Value}{D:Ends}
def rY(X:Cx)(pins:List (Addr×Obj))(D:Ends)(hs:List ExceptHandler):Value->Shared->Prop:=λe bK =>
 wpAny (model X.prog X.w) X.A (noteFrame e X.env) (λ_ fm=>wpAny (model X.prog X.w) X.A (setFlight e none) (λ_ ei=>wpAny (model X.prog X.w) X.A (handleBy e X.env hs) (SP X pins D) X.xe ei) X.xe fm) X.xe bK
theorem Lies.step{B h1:Heap}{ea C:Addr}{a0:Value}(I:Inv X pins Z H s)(l:Lies X H H' s B ea C a0 s')(st:B.StaysIn h1)(us:s'.heap.UpToSlots h1):Lies X H H' s B ea C a0 { s' with heap:=h1 }:=by
 have J:=l.inv I;obtain⟨u,ok,ib⟩:=Wr l.un l.bC l.oo st us λb hb=>⟨J.xN b hb,Z7 J hb⟩
 exact⟨l.os,l.bare,u,ok,ib⟩
theorem YH{s:Shared}{B:Heap}{l:List Env}{ea L:Addr}{cls a0:Value}{A:Around}{M:Model}{E:Value->Shared->Prop}{Q:Unit->Shared->Prop}(fw:Heap.FlyingW B l ea cls a0 s.heap)(h:∀h',Heap.HeldW B l ea cls a0 L h'->(∀b o,s.heap.get? b=some o->(∀vs,o.data≠.fields vs)->h'.get? b=some o)->Q () { s with heap:=h' }):wpAny M A (setFlight (.ref ea) (some L)) Q E s:=by
 obtain⟨f1,f2,f3,oe,vs,T,oT,ts,he,kO,hd,h1,qW,wC,hT,rg,h3⟩:=fw;have tS:3<ts.size:=(Array.getElem?_eq_some_iff.mp h3).1;have other:∀b,b≠T->(s.heap.update T (Obj.mapFields (·.setIfInBounds 3 ((some L).elim Value.none λf=>rawInt f)))).get? b=s.heap.get? b :=
  λb hb=>bP _ _ (bA hb)
 have jG:∀b o,s.heap.get? b=some o->(∀vs,o.data≠.fields vs)->b≠T:=λb o hb tV q=>by
  rw[q,hT] at hb;injection hb with hb;subst hb;exact tV ts rg
 unfold setFlight;refine ae (jV he hd h1 ?_);rw[aH (show(Value.ref T != Value.none)=true from by simp)];refine df hT rg tS (h _ ⟨λb o zt=>(other b λq=>by rw [q,qW] at zt;cases zt).trans (f1 b o zt),f2,
  f3.of_keeps λb o hb tV=>⟨o,(other b (jG b o hb tV)).trans hb,rfl⟩,?_⟩ λb o hb tV=>(other b (jG b o hb tV)).trans hb)
 exact⟨oe,vs,T,_,_,(other ea (bA wC)).trans he,kO,hd,h1,qW,wC,aV _ hT (cJ (bq rg _)),bq rg _,by simp[tS]⟩
theorem FQ{B:Heap}{ea C:Addr}{a0:Value}(hf:X.env.frame=some X.env.locals):∀(hs:List ExceptHandler) (s':Shared),Inv X pins Z H s->Lies X H H' s B ea C a0 s'->Heap.FlyingW B X.stack ea (.ref C) a0 s'.heap->qx X D C H' hs ->
  wpAny (model X.prog X.w) X.A (handleBy (.ref ea) X.env hs) (SP X pins D) X.xe s'
 |[],s',I,l,fw,t=>by
  obtain⟨Ξ,hh,hE⟩:=t;refine wpAny_handleBy_nil ?_;unfold PySem.passOn;obtain⟨f1,f2,f3,oe,vs,T,oT,ts,he,kO,hd,h1,_⟩:=id fw;refine ae (jV he hd h1 ?_);rw[az (by simp),hf];refine ae (YH fw λh2 held k=>wpAny_throw ?_);have l2:=l.step I held.1 (λb o hb hn=>⟨o.slots,k b o hb hn⟩);exact hh pins Z H H' s _ B ea C a0 I l2 held hE
 |.ExceptHandler none _ _ _::_,_,_,_,_,t=>t.elim
 |.ExceptHandler (some e) nm bd pos::rest,s',I,l,fw,t=>by
  cases e
  case Name x np =>
   cases nm with
   |some y=>exact t.elim
   |none =>
    cases bd with
    |nil=>exact t.elim
    |cons uR nV =>
     obtain⟨hg,hU,C',b,hm,hx,q⟩:=t;have J:=l.inv I;have JM:Inv (C5 X ea) pins Z H' s':=J.Hz;have LT:PySem.W.Looks (model X.prog X.w) s'.heap (typeOf (.ref ea)) (.ref C):=λA Q E s2 k q=>by
      obtain⟨ob,ho,hc⟩:=fw.there;exact wpAny_typeOf_ref (k _ _ ho) (by rw[hc];exact q)
     refine wpAny_handleBy_cons (codeAny_handlers_test ?_) (by intro z;cases z);refine P6 (X:=C5 X ea) JM hg hm ?_ hU;refine(PySem.W.exm_one (M:=model X.prog X.w) J.gf LT hx).here ?_;cases b with
     |false =>
      simp only[Bool.false_eq_true,if_false] at q;exact FQ hf rest s' I l fw q
     |true =>
      simp only[if_true] at q;obtain⟨t,ht,hq⟩:=q;refine codeAny_handlers_suite ?_;refine wpAny_setFlight_noneW fw.1 fw.2.2.1 fw.2.2.2.at λh2 k1 k2 k3 k4=>?_;have l2:=l.step I k1 (λb o hb hn=>⟨o.slots,k4 b o hb hn⟩);have J2:=l2.inv I;have J3:Inv (C5 X ea) pins (List.replicate X.N.length none) H' { s' with heap:=h2 }:=(J2.weak (by rw [ig,J2.len]) λi v z=>by
       rw [cR] at z;split at z <;> cases z).Hz
      refine bp (ht ea pins _ _ H' D J3 hq) (λf s2 hf=>hf.V8 I.ok) λ_ _ z=>z.elim
  all_goals exact t.elim
theorem ZG{hs:List ExceptHandler}{Ξ:XK}(cV:X.stack=X.env::X.outer)(hf:X.env.frame=some X.env.locals)(hT:∀C H',Ξ (.ref C) none H'->qx X D C H' hs) :
  Passes (iG X.prog X.w) (S4 X pins (rY X pins D hs)) Ξ:=by
 intro ip Z H s e s' I0 h;have I:Inv X pins Z H s:=I0.Y5;obtain⟨C,H',ho,hb,hu,bC,⟨ea,a0,B,rfl,fw,hB⟩,hE⟩:=h;have l:Lies X H H' s B ea C a0 s':=⟨ho,hb,hu,bC,hB⟩
 have fw:Heap.FlyingW B X.stack ea (.ref C) a0 s'.heap:=fw;show rY X pins D hs (.ref ea) s';unfold rY;have wJ:=fw;rw[cV] at wJ;refine wpAny_looks_onW (by rw[I.ok.frames,cV]) hf wJ λh1 held us=>?_;have l1:=l.step I held.1 us;refine wpAny_landsW held λh2 fl JJ=>?_;have l2:=l1.step I fl.1 JJ;rw[<- cV] at fl;exact FQ hf hs _ I l2 fl (hT C H' hE)
theorem Pq{hs:List ExceptHandler}{h₀:ExceptHandler}{body:List Stmt}{pos:Pos}{t:Ends->TS}{Ξ:Ends->XK}(cV:X.stack=X.env::X.outer)(hf:X.env.frame=some X.env.locals)(hb:∀pins D,(∀C H',Ξ D (.ref C) none H'->qx X D C H' (h₀::hs))->iJ (S4 X pins (rY X pins D (h₀::hs))) body (t D)) :
  PS X (.Try body (h₀::hs) [] [] pos) (λD Z H=>(∀C H',Ξ D (.ref C) none H'->qx X D C H' (h₀::hs))/\t D D Z H):=by
 intro pins s Z H D I ⟨hT,h⟩;refine wpAny_Try_except (bp (hb pins D hT [] s Z H D I.NI h) (λf s1 q=>?_) λe s1 q=>q);have q:=q.Y5;cases f with
 |next =>
  obtain⟨bI,H',I',q⟩:=q;exact bX (jm ⟨bI,H',I',q⟩) λ_ _ z=>z
 |brk=>exact q
 |cont=>exact q
 |ret u=>exact q
end
end L2

namespace L2
open PySem PySem.Spec PyProof.Rows
section
variable{M:Model}{A:Around}{E:Value->Shared->Prop}{env:Env}{s:Shared}
end
end L2

namespace L2
open PySem PySem.Spec PyProof.Rows
theorem GX{B B' h h2:Heap}{C:Addr}(hB:∀b,b≠C->B'.get? b=B.get? b)(hh:∀b,b≠C->h2.get? b=h.get? b){oC:Obj}(hC:B.get? C=some oC):∀{l:List Env},h.FunFrames B l->h2.FunFrames B' l
 |[],x=>x
 |env::r,⟨x1,⟨L,o,x2,x3,x4,x5⟩,x6⟩=>by
  have hL:L≠C:=λz=>by rw[z,hC] at x3;cases x3
  exact⟨x1,⟨L,o,x2,(hB L hL).trans x3,(hh L hL).trans x4,x5⟩,GX hB hh hC x6⟩
section
variable{X:Cx}{pins:List (Addr×Obj)}{Z:St}{H H':Hp}{s s':Shared}
theorem Lies.BG{B h2:Heap}{ea Cc C L:Addr}{a0:Value}{o o2:Obj}(l:Lies X H H' s B ea Cc a0 s')(held:Heap.HeldW B X.stack ea (.ref Cc) a0 L s'.heap)(sb:Heap.SameBut C s'.heap h2)(wF:h2.get? C=some o2)(Dp:o2.isFreed=false)(hn:H C=none)(hs:s.heap.get? C=some o)(nf:C∉fg X.stack) :
  ∃B',Lies X H H' { s with heap:=s.heap.update C λ_=>o2 } B' ea Cc a0 { s' with heap:=h2 }/\Heap.HeldW B' X.stack ea (.ref Cc) a0 L h2:=by
 obtain⟨oC,eC⟩:=l.un.there C o hs (by simp);have n':H' C=none:=l.un.free C o hs hn (by simp);have hB:B.get? C=some oC:=l.oo C oC eC nf (.inr ⟨o,hs⟩);have b1:(B.update C λ_=>o2).get? C=some o2:=aV _ hB Dp;have b2:∀b,b≠C->(B.update C λ_=>o2).get? b=B.get? b:=λb hb=>bP _ _ (bA hb);have s1:(s.heap.update C λ_=>o2).get? C=some o2:=aV _ hs Dp;have s2:∀b,b≠C->(s.heap.update C λ_=>o2).get? b=s.heap.get? b:=λb hb=>bP _ _ (bA hb);have nF:∀b,b≠C->h2.get? b=s'.heap.get? b:=sb.2;have ne:∀{b:Addr},B.get? b=none->b≠C:=λ{b} h z=>by rw[z,hB] at h;cases h
 obtain⟨f1,f2,f3,oe,vs,T,oT,ts,he,kO,hd,h1,qW,wC,hT,rg,h3⟩:=held;refine⟨B.update C λ_=>o2,⟨l.os,l.bare,⟨λb u e n1 n2 n3=>?_,λb u e n1 n2 n3=>?_,λb u e n1 n2=>?_,λb u e n1=>?_,l.un.gC,l.un.gn,l.un.gD⟩,?_,λb u e n1 q=>?_⟩,λb u e=>?_,(b2 ea (ne f2)).trans f2,GX b2 nF hB f3,oe,vs,T,oT,ts,(nF ea (ne f2)).trans he,kO,hd,h1,(b2 T (ne qW)).trans qW,wC,(nF T (ne qW)).trans hT,rg,h3⟩
 ·by_cases z:b=C
  ·subst z;rw[show({ s with heap:=s.heap.update b λ_=>o2 }:Shared).heap.get? b=_ from s1] at e;cases e;exact wF
  ·exact(nF b z).trans (l.un.keep b u ((s2 b z).symm.trans e) n1 n2 n3)
 ·have z:b≠C:=λz=>nf (z▸n2);obtain⟨sl,q⟩:=l.un.slot b u ((s2 b z).symm.trans e) n1 n2 n3;exact⟨sl,(nF b z).trans q⟩
 ·by_cases z:b=C
  ·subst z;exact n'
  ·exact l.un.free b u ((s2 b z).symm.trans e) n1 n2
 ·by_cases z:b=C
  ·subst z;exact⟨_,wF⟩
  ·obtain⟨w,q⟩:=l.un.there b u ((s2 b z).symm.trans e) n1;exact⟨w,(nF b z).trans q⟩
 ·intro a u e;exact (l.bC a u e).Q2 (λb w hb q=>by
   have:b≠C:=λz=>by
    rcases hb with rfl|hb
    ·rw[z,n'] at e;cases e
    ·rw[z,n'] at hb;cases hb
   exact (nF b this).trans q) (λb hb=>hb) (λb xs hb=>hb)
 ·by_cases z:b=C
  ·subst z;rw[show({ s' with heap:=h2 }:Shared).heap.get? b=_ from wF] at e;cases e;exact b1
  ·refine(b2 b z).trans (l.oo b u ((nF b z).symm.trans e) n1 ?_);rcases q with q|⟨o0,q⟩
   ·exact .inl q
   ·exact .inr ⟨o0,(s2 b z).symm.trans q⟩
 ·by_cases z:b=C
  ·subst z;rw[b1] at e;cases e;exact wF
  ·exact(nF b z).trans (f1 b u ((b2 b z).symm.trans e))
end
end L2

namespace L2
open PySem PySem.Spec PyProof.Rows
def CG(K:PySem.W.Frag)(a:Addr):It :=
 ⟨λi H=>∃xs x,fh K H a xs/\xs[i]?=some x,λi H v H'=>∃p x,H p=none/\v=.ref p/\(∀xs,fh K H a xs->xs[i]?=some x)/\H'=upd H p (.tup [.int i,x]),λi H=>∃xs,fh K H a xs/\xs.length<=i⟩
theorem XE{P:Program}{w:World}{K:PySem.W.Frag}{elts:List Expr}{x1:Nat}{tp:Pos}(a e it:Addr)(Ea:e≠it):Turn P w K (.Tuple elts x1 tp) (CG K a) [e,it] e (λi h=>(∃old,IsEnum h e it i old)/\h.IsListIter it a i) where
 mem:=by simp
 obj:=λi h st b hb=>by
  obtain⟨⟨old,h1⟩,o,h2,c,d⟩:=st;rcases aG.mp hb with z|z
  ·subst z;exact ⟨_,h1,λv z=>by
    have z':Data.fields _=Data.cell v:=z;cases z'⟩
  ·have z:b=it:=by simpa using z
   subst z;exact⟨o,h2,λv z=>by rw[d] at z;cases z⟩
 keep:=λi h h' st k=>by
  obtain⟨⟨old,h1⟩,h2⟩:=st;exact⟨⟨old,k e (by simp) _ h1⟩,h2.at λo x=>k it (by simp) o x⟩
 item:=by
  intro X hP hw hK hc i pins s Z H E I hf st hg;subst hP hw hK;obtain⟨⟨old,h1⟩,h2⟩:=st;obtain⟨xs,x,hq,hx⟩:=hg;obtain⟨aQ,rv,p,hz⟩:=I.list hq;obtain⟨u,hu,ru⟩:=rv.get hx;obtain⟨e0,e1,e2,e3,e4,e5⟩:=hf e (by simp);obtain⟨f0,f1,f2,f3,f4,f5⟩:=hf it (by simp);refine wpAny_pyNext_enum_item h1 h2 p.isList (x:=u) (by simpa using hu) Ea λh' oy zj ny tQ mR=>?_;refine⟨_,rfl,wpAny_letOwnedTupleGo_enum oy λuu Ls iH=>?_⟩;have iH:Heap.SameBut e h' uu:=iH;have elt:e<s.heap.objs.size:=ay h1;have kp:∀b o,b≠e->b≠it->s.heap.get? b=some o->uu.get? b=some o:=λb o b1 b2 q=>(iH.2 b b1).trans (mR b o b1 b2 q);have hn:H s.heap.objs.size=none:=I.bC.fresh (av _);have yp:uu.get? s.heap.objs.size=some { cls:=.type "tuple",data:=.seq #[.int i s.toks,u] }:=(iH.2 _ (bB elt)).trans ny;have ne:∀b u',H b=some u'->b≠e/\b≠it:=λb u' q=>And.intro (λ(z:b=e)=>by rw[z,e0] at q;cases q) (λ(z:b=it)=>by rw[z,f0] at q;cases q);have bC:fF X.prog X.w (upd H s.heap.objs.size (.tup [.int i,x])) uu:=λb o q=>by
   by_cases hb:b=s.heap.objs.size
   ·subst hb;rw[n8] at q;cases q;exact⟨by show 2<=sizeLine;decide,[.int i s.toks,u],.cons ⟨_,rfl⟩ (.cons ru .nil),_,yp,rfl,⟨_,rfl⟩,rfl⟩
   ·rw[f9 hb] at q;refine(I.bC b o q).Q2 (λc v hc q'=>?_) (λc q'=>by rw[f9 (j8 q' hn)];exact q') λc ys q'=>by rw[f9 (j8 q' hn)];exact q'
    rcases hc with z|z
    ·subst z;exact kp _ _ (ne _ _ q).1 (ne _ _ q).2 q'
    ·exact kp _ _ (ne _ _ z).1 (ne _ _ z).2 q'
  have I2:Inv X pins Z (upd H s.heap.objs.size (.tup [.int i,x])) { s with heap:=uu,toks:=s.toks+1 }:=by
   refine I.step (g':=s.gens) (d':=s.drawn) (t':=s.toks+1) (ch:=[e,it]) (λb hb=>?_) (λb o _ _ hb q _=>kp b o (λz=>hb (by simp[z])) (λz=>hb (by simp[z])) q) (λb o _ _ hb q _=>⟨o.slots,kp b o (λz=>hb (by simp[z])) (λz=>hb (by simp[z])) q⟩)
    (λb o _ q n=>by rw[f9 (aK (ay q))];exact n) (λb o hb q=>⟨o,kp b o (λz=>hb (by simp[z])) (λz=>hb (by simp[z])) q⟩)
    (λb ys q=>by rw[f9 (j8 q hn)];exact q) (λb o' ys q=>by rw[f9 (j8 q hn)];exact q) (λb ps q=>⟨#[],by rw[f9 (j8 q hn),q];simp⟩) (λm hm=>?_) bC I.bare
   ·rcases aG.mp hb with z|z
    ·subst z;exact⟨e3,e1,e4,e5⟩
    ·have z:b=it:=by simpa using z
     subst z;exact⟨f3,f1,f4,f5⟩
   ·obtain⟨o,es,ep,ho,r⟩:=hm;exact⟨o,es,ep,kp _ o (bA e1) (bA f1) ho,r⟩
  refine⟨.ref s.heap.objs.size,_,I2,rfl,⟨s.heap.objs.size,x,hn,rfl,λys hy=>by rw[I.Be hy hq];exact hx,rfl⟩,⟨⟨u,by simpa using Ls⟩,zj.at λo y=>(iH.2 it Ea.symm).trans y⟩,λb hb=>?_⟩;have jS:b<s.heap.objs.size:=by
   rcases aG.mp hb with z|z
   ·subst z;exact elt
   ·have z:b=it:=by simpa using z
    subst z;obtain⟨o,h2,_⟩:=h2;exact ay h2
  rw[f9 (aK jS)];exact(hf b hb).1
 done:=by
  intro X hP hw hK hc i pins s Z H E I hf st hg;subst hP hw hK;obtain⟨⟨old,h1⟩,h2⟩:=st;obtain⟨xs,hq,hx⟩:=hg;obtain⟨aQ,rv,p,hz⟩:=I.list hq;obtain⟨f0,f1,f2,f3,f4,f5⟩:=hf it (by simp);have hl:=rv.length;exact wpAny_pyNext_enum_end (I.ok.hd hc) h1 h2 p.isList (by simp;omega) λh' eb=>⟨rfl,I.turned (t':=s.toks) (λb o hb e=>eb b o hb e) f0 f1 f3 f4 f5⟩
 self:=λ_ _ _ _ _ st h=>by
  obtain⟨⟨old,h1⟩,h2⟩:=st;exact wpAny_pyIter_enum h1 h
section
variable{X:Cx}
theorem RC{l:Expr}{ta:TA}{p pos tp:Pos}{elts:List Expr}{x1:Nat}(hg:Gl X "enumerate")(hm:X.mg "enumerate"=none)(ha:PA X [l] ta)(hs:starEach [l] X.env=[(false,eval l X.env)]) :
  PI X (.Tuple elts x1 tp) (.Call (.Name "enumerate" p) [l] [] pos) (λZ H R=>ta Z H λvs H1=>∃a,vs=[.ref a]/\(∃xs,fh X.K H1 a xs)/\R (CG X.K a) H1):=by
 intro pins s Z H R I h;refine Call_ (K4 I hg hm PyProof.Rows.boot_enumerate (bz (bX (ha pos pins s Z H _ I h) λus s1 aZ=>?_) hs rfl));obtain⟨vs,H1,I1,r1,q1⟩:=aZ;obtain⟨a,e,⟨xs,hq⟩,q⟩:=q1;subst e;cases r1 with
 |cons r rr =>
  cases rr;cases r;obtain⟨aQ,rv,p,hz⟩:=I1.list hq;refine call_enumerate_list p.isList λh' he hit hsz hk=>wpAny_pyIter_enum he ?_;refine⟨s1.heap.objs.size+1,[s1.heap.objs.size+1,s1.heap.objs.size],_,_,H1,rfl,I1.kept (t':=s1.toks) hk,XE a _ _ (by simp),⟨⟨_,he⟩,hit⟩,λb hb=>?_,q⟩;have jS:s1.heap.objs.size<=b:=by
   rcases aG.mp hb with z|z
   ·rw[z];exact fV _
   ·have z:b=s1.heap.objs.size:=by simpa using z
    rw[z];exact av _
  exact I1.oS jS (I1.bC.fresh jS)
theorem Vt{e:Expr}{t:TE}{pos:Pos}(he:PE X e t):PE X (.FormattedValue e (-1) none pos) (λZ H Q=>t Z H λx H1=>(∃i,x=.int i/\i.natAbs.log2<1920/\Q (.str (toString i)) H1)\/∃y,x=.str y/\y.length<=sizeLine/\Q (.str y) H1):=by
 intro pins s Z H Q I h;refine wpAny_FormattedValue_plain (bX (he pins s Z H _ I h) λv s1 aZ=>?_);obtain⟨x,H1,I1,r1,q1⟩:=aZ;rcases q1 with⟨i,rfl,hd,q⟩|⟨y,rfl,hy,q⟩
 ·obtain⟨t,rfl⟩:=r1;exact wpAny_formatField_int hd ⟨.str _,H1,I1.tok _,⟨_,rfl⟩,q⟩
 ·obtain⟨t,rfl⟩:=r1;exact wpAny_formatField_str ⟨.str _,H1,I1,⟨_,rfl⟩,q⟩ ⟨.str _,H1,I1.tok _,⟨_,rfl⟩,q⟩ hy
inductive sf(X:Cx):List Expr->List TE->Prop
 |nil:sf X [] []
 |cons {e:Expr} {t:TE} {es:List Expr} {ts:List TE} (h:PE X e t) (r:sf X es ts):sf X (e::es) (t::ts)
def xg:List TE->St->Hp->Str->(Str->Hp->Prop)->Prop
 |[],_,H,acc,Q=>Q acc H
 |t::ts,Z,H,acc,Q=>t Z H λx H1=>∃y,x=.str y/\(acc++y).length<=sizeLine/\xg ts Z H1 (acc++y) Q
theorem Fp{pins:List (Addr×Obj)}{Z:St}{Q:Str->Hp->Prop}:∀{es:List Expr} {ts:List TE},sf X es ts->∀{s:Shared} {H:Hp} {acc:Str},Inv X pins Z H s->xg ts Z H acc Q ->
  Joins (model X.prog X.w) X.A X.xe (evalEach es X.env) acc (λout s1=>∃H1,Inv X pins Z H1 s1/\Q out H1) s
 |_,_,.nil,s,H,acc,I,h=>⟨H,I,h⟩
 |_,_,.cons he r,s,H,acc,I,h=>by
  rw[arm_evalEach_cons];refine bX (he pins s Z H _ I h) λv s1 aZ=>?_;obtain⟨x,H1,I1,r1,y,ey,hy,q1⟩:=aZ;subst ey;obtain⟨t,rfl⟩:=r1;exact⟨y,t,rfl,hy,Fp r I1 q1⟩
theorem Gk{M:Model}{A:Around}{E:Value->Shared->Prop}{Q Q':Str->Shared->Prop}(hq:∀x s,Q x s->Q' x s):∀{l:List (Sem Value)} {acc:Str} {s:Shared},Joins M A E l acc Q s->Joins M A E l acc Q' s
 |[],acc,s,h=>hq _ _ h
 |x::r,acc,s,h=>bX h λv s1 ⟨y,t,e,hz,h1⟩=>⟨y,t,e,hz,Gk hq h1⟩
theorem Ry{kI kH:Expr}{rest:List Expr}{ts:List TE}{pos:Pos}(h:sf X (kI::kH::rest) ts):PE X (.JoinedStr (kI::kH::rest) pos) (λZ H Q=>xg ts Z H Str.empty λout H1=>out.length<=sizeLine/\Q (.str out) H1):=by
 intro pins s Z H Q I hw;refine wpAny_JoinedStr (Gk (λx s1 ⟨H1,I1,hl,q⟩=>⟨hl,.str x,H1,I1.tok _,⟨_,rfl⟩,q⟩) (Fp h I hw))
theorem XY{lo:Int}{acc:Array Value}{n:Nat}(h:ItemsOf (λi v=>∃t,v=.int (lo+i*1) t) acc n):Vals ((List.range n).map λ(k:Nat)=>V.int (lo+k)) acc.toList:=by
 have hl:acc.toList.length=n:=by
  have:=h.1;simpa using this
 have go:∀(m:Nat) (l:List Value),l.length<=n->m+l.length=n->(∀i v,l[i]?=some v->∃t,v=Value.int (lo+((m+i:Nat):Int)) t)->Vals ((List.range' m l.length).map λ(k:Nat)=>V.int (lo+k)) l:=by
  intro m l
  induction l generalizing m with
  |nil=>intro _ _ _;exact .nil
  |cons x r ih =>
   intro h1 h2 h3;simp only[List.length_cons,List.range'_succ,List.map_cons];refine .cons ?_ (ih (m+1) (by simp at h1;omega) (by simp at h2;omega) λi v hv=>?_)
   ·obtain⟨t,e⟩:=h3 0 x rfl;exact⟨t,by rw[e];simp⟩
   ·obtain⟨t,e⟩:=h3 (i+1) v (by simpa using hv);exact⟨t,by rw[e,show m+(i+1)=m+1+i by omega]⟩
 have:=go 0 acc.toList (by omega) (by omega) λi v hv=>?_
 ·rw[hl,<- List.range_eq_range'] at this;exact this
 ·have hi:i<n:=by
   have:=(ak.mp hv).1;omega
  have:acc[i]?=some v:=by rw[<- ik];exact hv
  obtain⟨t,e⟩:=h.2 i v this;refine⟨t,?_⟩;rw[e];simp
theorem GY(hc:X.calm=true):k9 X (.type "list") (λxs H Q=>∃a lo hi,xs=[.ref a]/\H a=some (.lh lo hi)/\(-(2 ^ 62)<=lo/\lo<2 ^ 62/\-(2 ^ 62)<=hi/\hi<2 ^ 62/\hi-lo<=100000)/\∀p,H p=none->Q (.ref p) (upd H p (.lst ((List.range (hi-lo).toNat).map λ(k:Nat)=>V.int (lo+k))))):=by
 intro pins s Z H xs us Q I r h;obtain⟨a,lo,hi,rfl,ha,⟨h1,h2,h3,h4,h5⟩,q⟩:=h;obtain⟨t,u,v,ho⟩:=I.bC a _ ha;cases r with
 |cons r rr =>
 cases rr;cases r;have hn:Builtin.Range.rangeSize lo hi 1=((hi-lo).toNat:Nat):=by rw[rangeSize_one];split<;>omega
 refine call_list_range (n:=(hi-lo).toNat) (I.ok.hd hc) ho (small_one h1 h2 h3 h4) hn (by omega) λh' lI acc c hk hS jM=>?_;have hp:H s.heap.objs.size=none:=I.bC.fresh (av _);refine⟨.ref _,_,I.laid (a:=s.heap.objs.size) (o:=.lst ((List.range (hi-lo).toNat).map λ(k:Nat)=>V.int (lo+k))) (t':=lI) hk (av _) ⟨?_,acc.toList,c,XY jM,by simpa using hS⟩,rfl,q _ hp⟩;rw[ah,List.length_range];have:(hi-lo).toNat<=100000:=by omega
 exact aC this (by decide)
theorem Xj{a:Expr}{ta:TA}{p pos:Pos}(hg:Gl X "range")(hm:X.mg "range"=none)(ha:PA X [a] ta)(hs:starEach [a] X.env=[(false,eval a X.env)]):PE X (.Call (.Name "range" p) [a] [] pos) (λZ H Q=>ta Z H λvs H1=>∃j:Int,vs=[.int j]/\∀q,H1 q=none->Q (.ref q) (upd H1 q (.lh 0 j))):=by
 intro pins s Z H Q I h;refine cF (K4 I hg hm boot_range (bz (bX (ha pos pins s Z H _ I h) λus s1 aZ=>?_) hs rfl));obtain⟨vs,H1,I1,r1,q1⟩:=aZ;obtain⟨j,e,q⟩:=q1;subst e;cases r1 with
 |cons r rr =>
  cases rr;obtain⟨t,rfl⟩:=r;exact call_range_1 ⟨.ref s1.heap.objs.size,_,I1.laid (a:=s1.heap.objs.size) (o:=.lh 0 j) (λb o e=>aj _ e) (av _) ⟨_,_,_,aA _ rfl⟩,rfl,q _ (I1.bC.fresh (av _))⟩
theorem Xk{a b:Expr}{ta:TA}{p pos:Pos}(hg:Gl X "range")(hm:X.mg "range"=none)(ha:PA X [a,b] ta)(hs:starEach [a,b] X.env=[(false,eval a X.env),(false,eval b X.env)])(iH:starEach [b] X.env=[(false,eval b X.env)]):PE X (.Call (.Name "range" p) [a,b] [] pos) (λZ H Q=>ta Z H λvs H1=>∃i j:Int,vs=[.int i,.int j]/\∀q,H1 q=none->Q (.ref q) (upd H1 q (.lh i j))):=by
 intro pins s Z H Q I h;refine cF (K4 I hg hm boot_range (bz (bX (ha pos pins s Z H _ I h) λus s1 aZ=>?_) (by rw[hs,iH]) (by rw[iH];rfl)));obtain⟨vs,H1,I1,r1,q1⟩:=aZ;obtain⟨i,j,e,q⟩:=q1;subst e;cases r1 with
 |cons r rr =>
  cases rr with
  |cons r' rr =>
   cases rr;obtain⟨t,rfl⟩:=r;obtain⟨t',rfl⟩:=r';exact call_range_2 ⟨.ref s1.heap.objs.size,_,I1.laid (a:=s1.heap.objs.size) (o:=.lh i j) (λb o e=>aj _ e) (av _) ⟨_,_,_,aA _ rfl⟩,rfl,q _ (I1.bC.fresh (av _))⟩
def uZ(K:PySem.W.Frag)(P:Params)(a:Addr)(kvs:List (Str×V)):Prop :=
 ∃es n,K.lookup a=some ⟨.type "dict",none,.dict es n,#[]⟩/\PySem.W.KeysLit P es.toList/\(a==sysModules)=false/\∀x,E7 (kvs.lookup x) (findBy Value.isStrOf es x)
theorem Hj{kvs:List (Str×V)}(neg:Bool):eZ X (compareOp (if neg then .NotIn else .In)) (λx y H Q=>∃a z,y=.ref a/\uZ X.K X.w.params a kvs/\x=.str z/\Q (.bl (xor neg (kvs.lookup z).isSome)) H):=by
 intro pins s Z H x y v u Q I rx ry h;obtain⟨a,z,rfl,⟨es,n,hl,hk,lo,hf⟩,rfl,q⟩:=h;obtain⟨t,rfl⟩:=rx;cases ry;have hm:=PySem.W.mapOf_K (prog:=X.prog) (w:=X.w) I.gf hl hk;have e:=hf z;have ee:(findBy Value.isStrOf es z).isSome=(kvs.lookup z).isSome:=by
  cases h1:kvs.lookup z<;>cases h2:findBy Value.isStrOf es z<;>rw[h1,h2] at e<;>first|rfl|exact e.elim
 cases neg
 ·exact wpAny_in_of (strKind_is X.prog X.w z t) lo hm ⟨.bl _,H,I.tok _,by rw[ee];rfl,by simpa using q⟩
 ·exact wpAny_notIn_of (strKind_is X.prog X.w z t) lo hm ⟨.bl _,H,I.tok _,by rw[ee];rfl,by simpa using q⟩
theorem UW{kvs:List (Str×V)}:qE X (λx y H Q=>∃a z v,x=.ref a/\uZ X.K X.w.params a kvs/\y=.str z/\kvs.lookup z=some v/\Q v H):=by
 intro value slice pins s Z H x y v u Q I rx ry h hs;obtain⟨a,z,d,rfl,⟨es,n,hl,hk,lo,hf⟩,rfl,hz,q⟩:=h;cases rx;obtain⟨t,rfl⟩:=ry;have hm:=PySem.W.mapOf_K (prog:=X.prog) (w:=X.w) I.gf hl hk;have e:=hf z;rw[hz] at e;cases h2:findBy Value.isStrOf es z with
 |none=>rw[h2] at e;exact e.elim
 |some r =>
  rw[h2] at e;exact tail_any hm.typeIs slot_dict_getitem.lookup (wpAny_getItem_of (strKind_is X.prog X.w z t) hm h2 ⟨d,H,I.tok _,e,q⟩) hs
theorem QZ(hu:X.A.units+1<cLine):qE X (λx y H Q=>∃a v,x=.ref a/\O3 H a y (some v)/\Q v H):=by
 intro value slice pins s Z H x y v u Q I rx ry h hs;obtain⟨a,d,rfl,g,q⟩:=h;cases rx;exact tail_any (YE I g) slot_dict_getitem.lookup (WK hu I g ry λw' s3 I3 fz=>⟨d,H,I3,fz,q⟩) hs
end
end L2

namespace ST
open PySem PyProof.Rows
noncomputable abbrev jU(xs:Array Nat):Prop:=xs.toList.Pairwise (· < ·)
theorem jU.lt{xs:Array Nat}(h:jU xs){i k:Nat}(ub:i<k)(hk:k<xs.size):xs.getD i 0<xs.getD k 0:=by
 have:=fP.mp h i k (by simpa using cy ub hk) (by simpa using hk) ub;simp only[Array.getElem_toList] at this;rw[<- dg (h:=cy ub hk),<- dg (h:=hk)];exact this
theorem jU.le{xs:Array Nat}(h:jU xs){i k:Nat}(ub:i<=k)(hk:k<xs.size):xs.getD i 0<=xs.getD k 0:=by
 rcases Nat.eq_or_lt_of_le ub with e|e
 ·rw[e];exact av _
 ·exact dz (h.lt e hk)
theorem AR{xs:Array Nat}{j:Nat}(h:jU xs):∀(fuel lo hi:Nat),hi-lo<=fuel->lo<=hi->hi<=xs.size->(∀i,i<lo->xs.getD i 0<j)->(∀i,hi<=i->i<xs.size->j<=xs.getD i 0) ->
  SetTable.below.go xs j fuel lo hi<=xs.size/\(∀i,i<SetTable.below.go xs j fuel lo hi->xs.getD i 0<j)/\∀i,SetTable.below.go xs j fuel lo hi<=i->i<xs.size->j<=xs.getD i 0
 |0,lo,hi,h1,h2,h3,h4,h5=>by
  unfold SetTable.below.go;have:lo=hi:=by omega
  subst this;exact⟨h3,h4,h5⟩
 |fuel+1,lo,hi,h1,h2,h3,h4,h5=>by
  unfold SetTable.below.go;split
  ·rename_i hl;have hm:(lo+hi) / 2<xs.size:=by omega
   have em:xs.getD ((lo+hi) / 2) j=xs.getD ((lo+hi) / 2) 0:=by simp[Array.getD,hm]
   dsimp only;rw[em];by_cases hc:xs.getD ((lo+hi) / 2) 0<j
   ·rw[aH hc];exact AR h fuel _ hi (by omega) (by omega) h3 (λi jM=>fI (h.le (by omega) hm) hc) h5
   ·rw[az hc];exact AR h fuel lo _ (by omega) (by omega) (by omega) h4 λi jM hs=>aC (kC hc) (h.le jM hs)
  ·have:lo=hi:=by omega
   subst this;exact⟨h3,h4,h5⟩
theorem P1{xs:Array Nat}(j:Nat)(h:jU xs):SetTable.below xs j<=xs.size/\(∀i,i<SetTable.below xs j->xs.getD i 0<j)/\∀i,SetTable.below xs j<=i->i<xs.size->j<=xs.getD i 0 :=
 AR h _ 0 _ (by omega) (by omega) (av _) (λi hi=>absurd hi (Nat.not_lt_zero _)) λi h1 h2=>absurd h2 (by omega)
theorem below_at{xs:Array Nat}(h:jU xs){i:Nat}(hi:i<xs.size):SetTable.below xs (xs.getD i 0)=i:=by
 obtain⟨h1,h2,h3⟩:=P1 (xs.getD i 0) h;rcases eB (SetTable.below xs (xs.getD i 0)) i with z|z|z
 ·exact absurd (h3 _ (av _) (by omega)) (Nat.not_le_of_lt (h.lt z hi))
 ·exact z
 ·exact absurd (h2 i z) (bj _)
theorem XN{xs:Array Nat}(h:jU xs){i:Nat}(hi:i<xs.size):SetTable.below xs (xs.getD i 0+1)=i+1:=by
 obtain⟨h1,h2,h3⟩:=P1 (xs.getD i 0+1) h;rcases eB (SetTable.below xs (xs.getD i 0+1)) (i+1) with z|z|z
 ·have:=h3 i (by omega) hi;omega
 ·exact z
 ·have:=h2 (i+1) z;have:=h.lt (eW i) (k:=i+1) (by omega);omega
theorem XO{xs:Array Nat}(h:jU xs):SetTable.below xs 0=0:=by
 obtain⟨_,h2,_⟩:=P1 0 h;rcases Nat.eq_zero_or_pos (SetTable.below xs 0) with z|z
 ·exact z
 ·exact absurd (h2 0 z) (Nat.not_lt_zero _)
theorem getD_mem{xs:Array Nat}{i:Nat}(hi:i<xs.size):xs[i]?=some (xs.getD i 0):=by simp[Array.getD,hi]
theorem Yo{t:SetTable}{j:Nat}(h:jU t.place)(hs:t.slot j=.empty):j∉t.place.toList:=by
 intro hm;obtain⟨i,hi,e⟩:=cq.mp hm;have jM:i<t.place.size:=by simpa using hi
 have ej:t.place.getD i 0=j:=by rw[<- dg (h:=jM)];simpa using e
 have hb:=below_at h jM;rw[ej] at hb;unfold SetTable.slot at hs;dsimp only at hs;rw[hb,getD_mem jM,ej] at hs;simp at hs
theorem Yk{xs:Array Nat}{j:Nat}(h:jU xs)(hj:j∉xs.toList):jU (SetTable.insertAt xs (SetTable.below xs j) j):=by
 obtain⟨h1,h2,h3⟩:=P1 j h;show(SetTable.insertAt xs (SetTable.below xs j) j).toList.Pairwise (· < ·);rw[SetTable.toList_insertAt,yf];have tk:∀a∈xs.toList.take (SetTable.below xs j),a<j:=λa ha=>by
  obtain⟨i,hi,e⟩:=cq.mp ha;rw[cO] at hi;rw[List.getElem_take] at e;have hs:i<xs.size:=by simp at hi;omega
  have:=h2 i (by omega);rw[<- dg (h:=hs)] at this;simp at e;omega
 have dp:∀b∈xs.toList.drop (SetTable.below xs j),j<b:=λb hb=>by
  obtain⟨i,hi,e⟩:=cq.mp hb;rw[kE] at hi;rw[List.getElem_drop] at e;have hs:SetTable.below xs j+i<xs.size:=by simp at hi;omega
  have:=h3 (SetTable.below xs j+i) (by omega) hs;rw[<- dg (h:=hs)] at this;have dw:b≠j:=λz=>hj (by rw[<- z];exact List.mem_of_mem_drop hb);simp at e;omega
 refine⟨h.take,jw.mpr ⟨dp,h.drop⟩,λa ha b hb=>?_⟩;have kQ:=tk a ha;rcases aG.mp hb with z|z
 ·omega
 ·have:=dp b z;omega
theorem Xu(n:Nat):jU (Array.range n):=by
 show(Array.range n).toList.Pairwise (· < ·);rw[Array.toList_range];exact sv
structure Well(L:Bool)(t:SetTable):Prop where
 vY:jU t.place
 Ag:t.dummies=#[]
 led:t.led=L
theorem ZD{t:SetTable}(hd:t.dummies=#[])(j:Nat):t.slot j≠.dummy:=by
 unfold SetTable.slot;dsimp only;split
 ·intro z;cases z
 ·rw[hd];split
  ·rename_i z;simp[SetTable.has] at z
  ·intro z;cases z
theorem GO{t:SetTable}(hd:t.dummies=#[]){hashAt:Nat->Int}{h:Int}:∀(fuel:Nat) (p:SetTable.Probe) {j:Nat} {dm:Option Nat},p.dummy=none->SetTable.probe.go t hashAt h fuel p=some (.empty j dm)->t.slot j=.empty/\dm=none
 |0,p,j,dm,_,e=>by simp[SetTable.probe.go] at e
 |fuel+1,p,j,dm,hp,e=>by
  unfold SetTable.probe.go at e;have ad:∀q:SetTable.Probe,q.dummy=none->(t.advance q).dummy=none:=λq hq=>by
   unfold SetTable.advance;split
   ·exact hq
   ·exact hq
  split at e
  ·rename_i hs;cases e;exact⟨hs,hp⟩
  ·rename_i hs;exact absurd hs (ZD hd _)
  ·split at e
   ·cases e
   ·exact GO hd fuel _ (ad p hp) e
theorem WN{t:SetTable}(hd:t.dummies=#[]){h:Int}{j:Nat}{wd:Bool}(e:t.freeSlot h=some (j,wd)):t.slot j=.empty/\wd=false:=by
 unfold SetTable.freeSlot at e;split at e
 ·rename_i j' dm hp;obtain⟨h1,h2⟩:=GO hd _ _ rfl hp;subst h2;cases e;exact⟨h1,rfl⟩
 ·cases e
theorem K1{L:Bool}{t:SetTable}(h:Well L t)(n:Nat):Well L (t.standIn n):=⟨Xu n,rfl,h.led⟩
theorem YJ{L:Bool}{t:SetTable}{es:Array (Int×Value)}{h:Int}{x:Value}(hw:Well L t):Well L (layNew t es h x).2.1/\(layNew t es h x).2.2.1=false:=by
 unfold layNew;split
 ·rename_i slot wd e;obtain⟨h1,h2⟩:=WN hw.Ag e;refine⟨?_,h2⟩;have hd:SetTable.has t.dummies slot=false:=by rw[hw.Ag];simp[SetTable.has]
  have w2:Well L (t.put slot).1:=⟨Yk hw.vY (Yo hw.vY h1),by simp only[SetTable.put,hd];exact hw.Ag,hw.led⟩
  dsimp only;unfold SetTable.orStandIn;split
  ·exact w2
  ·exact K1 w2 _
 ·exact⟨K1 hw _,rfl⟩
theorem WX{L:Bool}{mask finger moves:Nat}{led plain:Bool}{hashes:Array Int}{t:SetTable}{o:Array Nat}(hl:led=L)(e:SetTable.laid mask finger moves led plain hashes=some (t,o)):Well L t:=by
 unfold SetTable.laid at e;cases ho:SetTable.layClean mask hashes with
 |none=>rw[ho] at e;cases e
 |some owner =>
  rw[ho] at e;simp only[Option.bind_eq_bind,Option.bind_some,Option.pure_def,Option.some.injEq,Prod.mk.injEq] at e;obtain⟨rfl,_⟩:=e;refine⟨?_,rfl,hl⟩;show(List.map _ _).toArray.toList.Pairwise (· < ·);rw[List.toList_toArray];have sub:((List.range (mask+1)).filterMap λj=>(owner.getD j none).map (j,·)).map (·.1) |>.Sublist (List.range (mask+1)):=by
   generalize List.range (mask+1)=l
   induction l with
   |nil=>simp
   |cons a r ih =>
    rw[dE];cases owner.getD a none with
    |none=>exact ih.cons a
    |some k=>exact ih.cons_cons a
  exact List.Pairwise.sublist sub sv
theorem VL{L:Bool}{t:SetTable}{es:Array (Int×Value)}{n:Nat}(hw:Well L t):Well L (relayAll t es n).2.1:=by
 unfold relayAll;split
 ·rename_i t' order e;dsimp only;split
  ·exact WX hw.led e
  ·exact K1 hw _
 ·exact K1 hw _
end ST

namespace ST
open PySem PyProof.Rows
def toI:Value->Int
 |.int k _=>k
 |_=>0
def Led(w:World):Bool:=!(w.params.followText "set-order")
section
variable{prog:Program}{w:World}
def s9(prog:Program)(w:World)(h:Heap)(a:Addr)(ks:List Int):Prop :=
 ∃o es ep t,h.get? a=some o/\o.ExactSet/\o.data=.set es ep t/\ElemsOf (intKind prog w) es.toList/\(es.toList.map λe=>toI e.2).Perm ks/\ks.Nodup/\es.size<scanBound/\t.fits es.size=true/\Well (Led w) t
theorem s9.at{h h':Heap}{a:Addr}{ks:List Int}(x:s9 prog w h a ks)(k:∀o,h.get? a=some o->h'.get? a=some o):s9 prog w h' a ks:=by
 obtain⟨o,es,ep,t,e,r⟩:=x;exact⟨o,es,ep,t,k o e,r⟩
theorem HH{e:Int×Value}{es:List (Int×Value)}(h:ElemsOf (intKind prog w) es)(he:e∈es):∃tk,e.2=.int (toI e.2) tk/\e.1=(intKind prog w).hash (toI e.2):=by
 obtain⟨⟨k,h1,h2⟩,_⟩:=h e he;obtain⟨t,ht⟩:=mZ (k:=k) (v:=e.2) h1;refine⟨t,by rw[ht];rfl,?_⟩;rw[h2,ht]
 rfl
theorem Hg{e:Int×Value}{es:List (Int×Value)}(h:ElemsOf (intKind prog w) es)(he:e∈es)(k:Int):(intKind prog w).is k e.2=decide (toI e.2=k):=by
 obtain⟨t,ht,_⟩:=HH h he;show Value.isInt k e.2=_;rw[ht];generalize toI e.2=m;show Value.isInt k (.int m t)=decide (m=k);by_cases z:m=k
 ·subst z;simp[Value.isInt]
 ·rw[aE z];cases hv:Value.isInt k (.int m t) with
  |false=>rfl
  |true =>
   obtain⟨t',e'⟩:=mZ hv;cases e';exact absurd rfl z
theorem s9.mem{a:Addr}{es:List (Int×Value)}{ks:List Int}(h:ElemsOf (intKind prog w) es)(hp:(es.map λe=>toI e.2).Perm ks)(k:Int):(es.findIdx? λe=>(intKind prog w).is k e.2).isSome=decide (k∈ks):=by
 rw[bh,cW,<- hp.mem_iff,aR,dJ];constructor
 ·rintro⟨i,hi⟩;obtain⟨h1,h2,_⟩:=jR.mp hi;have hm:=cQ h1;rw[Hg h hm] at h2;exact⟨_,hm,ba h2⟩
 ·rintro⟨e,he,rfl⟩;cases hf:es.findIdx? λe'=>(intKind prog w).is (toI e.2) e'.2 with
  |some i=>exact⟨i,rfl⟩
  |none =>
   have:=List.findIdx?_eq_none_iff.mp hf e he;rw[Hg h he] at this;simp at this
variable{A:Around}{E:Value->Shared->Prop}{s:Shared}
def C0(ks:List Int)(k:Int):List Int:=if k∈ks then ks else ks++[k]
theorem Zc(ks:List Int)(k:Int):(C0 ks k).length<=ks.length+1:=by unfold C0;split<;>simp
theorem IB{a:Addr}{ks:List Int}{k:Int}{tk:Tok}{Q:Bool->Shared->Prop}(hS:s9 prog w s.heap a ks)(hr:ks.length+1<scanBound)(h:∀h' b,Heap.SameBut a s.heap h'->s9 prog w h' a (C0 ks k)->Q b { s with heap:=h' }):wpAny (model prog w) A (setAddHashed a (.int k tk) ((intKind prog w).hash k)) Q E s:=by
 obtain⟨o,es,ep,t,ho,hx,hd,pU,hp,hn,hb,hf,hw⟩:=hS;have hlen:es.size=ks.length:=by rw[<- hp.length_eq];simp
 have jL:(intKind prog w).is k (.int k tk)=true:=fC _ _ _ _;have gv:∀(b:Bool) (s1:Shared) (Q':Unit->Shared->Prop),Q' () s1->wpAny (model prog w) A (match b with|true=>rule "set.scan.the-table-gave-way"|false=>pure ()) Q' E s1:=λb s1 Q' q=>by
  cases b
  ·exact ai q
  ·exact fB q
 unfold setAddHashed setAddHashedIn;refine bY (ae (cb ho hd hf ?_));dsimp only;rw[byScan_of rfl hb pU,aH rfl];unfold setAddByScan;refine ae (ae (fB (ae (wpAny_setScan_of jL ho hd hf pU ?_))));have hm:=s9.mem (a:=a) pU hp k;cases ly:es.toList.findIdx? (λe=>(intKind prog w).is k e.2) with
 |some j =>
  rw[ly] at hm;have hk:k∈ks:=by simpa using hm.symm
  refine ai (ai ?_);have e0:s={ s with heap:=s.heap }:=rfl;rw[e0];refine h s.heap _ (Heap.SameBut.refl a s.heap) ?_;unfold C0;rw[aH hk];exact⟨o,es,ep,t,ho,hx,hd,pU,hp,hn,hb,hf,hw⟩
 |none =>
  rw[ly] at hm;have hk:k∉ks:=by simpa using hm.symm
  dsimp only;have p1:=layNew_perm t es ((intKind prog w).hash k) (.int k tk);have f1:=layNew_fits t es ((intKind prog w).hash k) (.int k tk);obtain⟨w1,yn⟩:=YJ (es:=es) (h:=(intKind prog w).hash k) (x:=.int k tk) hw;generalize layNew t es ((intKind prog w).hash k) (.int k tk)=R1 at p1 f1 w1 yn ⊢;obtain⟨fU,t1,wd,Mx⟩:=R1;dsimp only at p1 f1 w1 yn ⊢;subst yn;rw[Array.toList_push] at p1;have Ez:ElemsOf (intKind prog w) fU.toList:=(pU.push jL rfl).perm p1;have sz1:fU.size=es.size+1:=by rw[<- br,p1.length_eq];simp
  have k1:(fU.toList.map λe=>toI e.2).Perm (C0 ks k):=by
   unfold C0;rw[az hk];refine(p1.map _).trans ?_;rw[dP];exact hp.append_right _
  have n1:(C0 ks k).Nodup:=by
   unfold C0;rw[az hk,dj];exact⟨hn,by simp,λx hx y hy=>by simp at hy;subst hy;exact λz=>hk (z▸hx)⟩
  refine ae (gv _ _ _ ?_);have fin:∀ (t2:SetTable),t2.fits fU.size=true->Well (Led w) t2->wpAny (model prog w) A (do
    storeSet a fU t2
    if(!false&&t2.tooFull)=true then do
      (match(relayAll t2 fU (SetTable.grown fU.size)).2.2 with|true=>rule "set.scan.the-table-gave-way"|false=>pure ())
      storeSet a (relayAll t2 fU (SetTable.grown fU.size)).1 (relayAll t2 fU (SetTable.grown fU.size)).2.1
      pure (some true)
     else pure (some true)) (λr s'=>wpAny (model prog w) A (match r with | some added=>pure added | none=>setAddHashedIn a (.int k tk) ((intKind prog w).hash k) 99999) Q E s') E s:=λt2 f2 w2=>by
   have g1:(s.heap.update a (Obj.putSet fU t2)).get? a=some { o with data:=.set fU (ep+1) t2 }:=by
    have:=aV (Obj.putSet fU t2) ho (by rw[putSet_of fU t2 hd];rfl);rw[putSet_of fU t2 hd] at this;exact this
   refine ae (wpAny_storeSet_of ho hd ?_ (fits_of_scanBound (by omega)));have De:=bR s.heap a (Obj.putSet fU t2);split
   ·have p2:=relayAll_perm t2 fU (SetTable.grown fU.size);have f3:=relayAll_fits t2 fU (SetTable.grown fU.size);have w3:=VL (es:=fU) (n:=SetTable.grown fU.size) w2;generalize relayAll t2 fU (SetTable.grown fU.size)=R2 at p2 f3 w3 ⊢;obtain⟨mG,t3,gv2⟩:=R2;dsimp only at p2 f3 w3 ⊢;have sz2:mG.size=fU.size:=by rw[<- br,p2.length_eq,br]
    refine ae (gv _ _ _ ?_);refine ae (wpAny_storeSet_of g1 rfl ?_ (fits_of_scanBound (by omega)));refine ai (ai (h _ _ (De.trans (bR _ a _)) ?_));have g2:((s.heap.update a (Obj.putSet fU t2)).update a (Obj.putSet mG t3)).get? a=some { o with data:=.set mG (ep+1+1) t3 }:=by
     have:=aV (Obj.putSet mG t3) g1 (by rw[putSet_of mG t3 rfl];rfl);rw[putSet_of mG t3 rfl] at this;exact this
    exact⟨_,mG,_,t3,g2,hx,rfl,Ez.perm p2,(p2.map _).trans k1,n1,by omega,f3,w3⟩
   ·exact ai (ai (h _ _ De ⟨_,fU,_,t2,g1,hx,rfl,Ez,k1,n1,by omega,f1 |> λ_=>f2,w2⟩))
  split
  ·refine ae (dI (hashByValue_scannable 8 rfl) ?_);exact fin _ f1 w1
  ·refine ae (ai ?_);exact fin _ f1 w1
end
end ST

namespace ST
open PySem PyProof.Rows
theorem YZ:entryFor table "set.__iter__"=some Builtin.«frozenset.__iter__» :=
 entryFor_alias (id':="frozenset.__iter__") (by kernel_rfl) rfl (by decide +kernel) (by kernel_rfl)
theorem A9:Slot "set_iterator" "__next__" "set_iterator.__next__" :=
 .of (owner:="set_iterator") (n:="__next__") (by rw[jn,fu];kernel_rfl) (by decide +kernel) (by decide +kernel) (by decide +kernel)
  (by first|exact .inl (by decide +kernel)|exact .inr (by decide +kernel)) (by rw[gz];kernel_rfl)
theorem GH:entryFor table "set_iterator.__next__"=some Builtin.«set_iterator.__next__»:=entryFor_of_tree (by kernel_rfl)
theorem GS(a:Value):argsOk "set_iterator.__next__" ⟨[a],[]⟩:=by
 unfold argsOk
 kernel_rfl
theorem GW:Slot "set_iterator" "__iter__" "set_iterator.__iter__" :=
 .of (owner:="set_iterator") (n:="__iter__") (by rw[jn,fu];kernel_rfl) (by decide +kernel) (by decide +kernel) (by decide +kernel)
  (by first|exact .inl (by decide +kernel)|exact .inr (by decide +kernel)) (by rw[gz];kernel_rfl)
theorem YG:entryFor table "set_iterator.__iter__"=some Builtin.«dict_keyiterator.__iter__» :=
 entryFor_alias (id':="dict_keyiterator.__iter__") (by kernel_rfl) rfl (by decide +kernel) (by kernel_rfl)
theorem YU(a:Value):argsOk "set_iterator.__iter__" ⟨[a],[]⟩:=by
 unfold argsOk
 kernel_rfl
end ST

namespace ST
open PySem PyProof.Rows
inductive Rd|text|plain|drawn
structure Lies(h:Heap)(a:Addr)(es:Array (Int×Value))(ep:Nat)(t:SetTable):Prop where
 at_:∃o,h.get? a=some o/\o.cls=.type "set"/\o.data=.set es ep t
 fit:t.fits es.size=true
theorem Lies.at{h h':Heap}{a:Addr}{es:Array (Int×Value)}{ep:Nat}{t:SetTable}(x:Lies h a es ep t)(k:∀o,h.get? a=some o->h'.get? a=some o):Lies h' a es ep t :=
 ⟨let ⟨o,e,r⟩:=x.at_;⟨o,k o e,r⟩,x.fit⟩
def C2(h:Heap)(I a:Addr)(f:Value)(i n ep:Nat):Prop:=∃o,h.get? I=some o/\o.cls=.type "set_iterator"/\o.data=.fields #[f,rawInt i,.ref a,rawInt n,rawInt ep]
theorem C2.at{h h':Heap}{I a:Addr}{f:Value}{i n ep:Nat}(x:C2 h I a f i n ep)(k:∀o,h.get? I=some o->h'.get? I=some o):C2 h' I a f i n ep:=let ⟨o,e,r⟩:=x;⟨o,k o e,r⟩
theorem C2.ty{s:Shared}{I a:Addr}{f:Value}{i n ep:Nat}(x:C2 s.heap I a f i n ep):s.TypeIs (.ref I) "set_iterator":=let ⟨o,e,c,_⟩:=x;⟨o,e,c⟩
def vh(w:World)(a:Addr)(es:Array (Int×Value))(ep:Nat)(pl:List Nat):Rd->List Value
 |.text=>(pickOrder (w.params.setOrder a ep) es).toList.map (·.2)
 |.plain=>es.toList.map (·.2)
 |.drawn=>pl.map λj=>(es.getD j (0,.none)).2
def slotAt(t:SetTable):Nat->Nat
 |0=>0
 |i+1=>t.place.getD i 0+1
def M1(h:Heap)(t:SetTable)(b:Addr)(pl:List Nat)(i:Nat)(f:Value):Rd->Prop
 |.text=>∃k:Nat,f=rawInt k
 |.plain=>f=rawInt (slotAt t i)
 |.drawn=>f=.ref b/\∃o e,h.get? b=some o/\o.cls=.type "tuple"/\o.data=.seq (pl.map λj=>rawInt (j:Nat)).toArray e
def rG(w:World)(es:Array (Int×Value))(t:SetTable)(pl:List Nat):Rd->Prop
 |.text=>w.params.followText "set-order"=true
 |.plain=>w.params.followText "set-order"=false/\(t.plain=true\/es.size<=1)/\Well true t
 |.drawn=>w.params.followText "set-order"=false/\pl.Perm (List.range es.size)
section
variable{prog:Program}{w:World}{A:Around}{E:Value->Shared->Prop}{s:Shared}{a:Addr}{es:Array (Int×Value)}{ep:Nat}{t:SetTable}
theorem vo{Q:Bool->Shared->Prop}(h:Q (w.params.followText "set-order") s):wpAny (model prog w) A setsByText Q E s:=by
 unfold setsByText;exact ae (oX (ai h))
theorem Ga(hL:Lies s.heap a es ep t)(ht:w.params.followText "set-order"=true){sl g:Nat}{Q:Option (Value×Nat)->Shared->Prop}(h:Q (((pickOrder (w.params.setOrder a ep) es)[g]?).map λe=>(e.2,sl)) s) :
  wpAny (model prog w) A (setNext a sl g ep) Q E s:=by
 obtain⟨o,ho,_,hd⟩:=hL.at_;unfold setNext;refine ae (cb ho hd hL.fit ?_);refine ae (vo ?_);rw[ht,aH rfl,az (by simp)];unfold setWalk;refine ae (ae (cb ho hd hL.fit ?_));refine ae (vo ?_);rw[ht,aH rfl];exact ae (oX (ai (ai h)))
theorem Gx(hL:Lies s.heap a es ep t)(ht:w.params.followText "set-order"=false)(hp:t.plain=true\/es.size<=1)(hl:t.led=true){sl g:Nat}{Q:Option (Value×Nat)->Shared->Prop}(h:Q (match es[SetTable.below t.place sl]?,t.place[SetTable.below t.place sl]? with|some (_,x),some j=>some (x,j+1)|_,_=>none) s):wpAny (model prog w) A (setNext a sl g ep) Q E s:=by
 obtain⟨o,ho,_,hd⟩:=hL.at_;unfold setNext;refine ae (cb ho hd hL.fit ?_);refine ae (vo ?_);rw[ht,az (by decide)];show wpAny _ _ (if(!t.plain&&decide (es.size>1))=true then _ else _) _ _ _;rw[az (by rcases hp with e|e<;>simp[e])];refine ae (dI (a:=()) ?_ (ai h));show((if(!t.led&&!es.isEmpty)=true then unsupported "set:maker-not-led" else pure ()):Sem Unit)=pure ();rw[hl]
 rfl
theorem Yg(hL:Lies s.heap a es ep t){j:Nat}(hj:j<es.size){Q:Value->Shared->Prop}(h:Q (es.getD j (0,.none)).2 s):wpAny (model prog w) A (setNextDrawn a j ep) Q E s:=by
 obtain⟨o,ho,_,hd⟩:=hL.at_;unfold setNextDrawn;refine ae (cb ho hd hL.fit ?_);dsimp only;rw[az (by simp)];have e:es[j]?=some (es.getD j (0,.none)):=by simp[Array.getD,hj]
 rw[e];exact ai h
end
end ST

namespace ST
open PySem PyProof.Rows
section
variable{prog:Program}{w:World}{A:Around}{E:Value->Shared->Prop}{s:Shared}{a I b:Addr}{es:Array (Int×Value)}{ep:Nat}{t:SetTable}{pl:List Nat}
theorem Fz(hL:Lies s.heap a es ep t):t.place.size=es.size:=by
 have:=hL.fit;unfold SetTable.fits at this;simp at this;exact this.1
theorem Gm(hw:jU t.place){i:Nat}(hi:i<=t.place.size):SetTable.below t.place (slotAt t i)=i:=by
 cases i with
 |zero=>exact XO hw
 |succ i=>exact XN hw (by omega)
theorem entries{Q:Array (Int×Value)->Shared->Prop}(hL:Lies s.heap a es ep t)(h:Q es s):wpAny (model prog w) A (setEntries a) Q E s:=by
 obtain⟨o,ho,_,hd⟩:=hL.at_;unfold setEntries;exact ae (cb ho hd hL.fit (ai h))
theorem SV{f f':Value}{i n:Nat}{h:Heap}(hi:C2 h I a f i n ep){x:Value}(hx:x=rawInt ((i:Int)+1)):C2 ((h.update I (Obj.mapFields (·.setIfInBounds 0 f'))).update I (Obj.mapFields (·.setIfInBounds 1 x))) I a f' (i+1) n ep:=by
 obtain⟨o,ho,hc,hd⟩:=hi;have h1:=aV (Obj.mapFields (·.setIfInBounds 0 f')) ho (cJ (bq hd _));have d1:(Obj.mapFields (·.setIfInBounds 0 f') o).data=.fields #[f',rawInt i,.ref a,rawInt n,rawInt ep]:=by rw[bq hd];simp
 have h2:=aV (Obj.mapFields (·.setIfInBounds 1 x)) h1 (cJ (bq d1 _));refine⟨_,h2,(nh ..).trans ((nh ..).trans hc),?_⟩;rw[bq d1];subst hx;simp[rawInt]
theorem SU{f:Value}{i n:Nat}{h:Heap}(hi:C2 h I a f i n ep){x:Value}(hx:x=rawInt ((i:Int)+1)):C2 (h.update I (Obj.mapFields (·.setIfInBounds 1 x))) I a f (i+1) n ep:=by
 obtain⟨o,ho,hc,hd⟩:=hi;have h2:=aV (Obj.mapFields (·.setIfInBounds 1 x)) ho (cJ (bq hd _));refine⟨_,h2,(nh ..).trans hc,?_⟩;rw[bq hd];subst hx;simp[rawInt]
theorem Fi{α:Type}{f f' x:Value}{i n:Nat}{m:Sem α}{Q':α->Shared->Prop}(hi:C2 s.heap I a f i n ep)(hx:x=rawInt ((i:Int)+1))(h:∀h',C2 h' I a f' (i+1) n ep->Heap.SameBut I s.heap h'->wpAny (model prog w) A m Q' E { s with heap:=h' }) :
  wpAny (model prog w) A (do setField (.ref I) 0 f';setField (.ref I) 1 x;m) Q' E s:=by
 obtain⟨o,ho,hc,hd⟩:=id hi;refine ae (df ho hd (by simp) ?_);have h1:=aV (Obj.mapFields (·.setIfInBounds 0 f')) ho (cJ (bq hd _));have d1:(Obj.mapFields (·.setIfInBounds 0 f') o).data=.fields #[f',rawInt i,.ref a,rawInt n,rawInt ep]:=by rw[bq hd];simp
 refine ae (df (s:={ s with heap:=_ }) h1 d1 (by simp) ?_);exact h _ (SV hi hx) ((bR ..).trans (bR ..))
theorem TM{α:Type}{f x:Value}{i n:Nat}{m:Sem α}{Q':α->Shared->Prop}(hi:C2 s.heap I a f i n ep)(hx:x=rawInt ((i:Int)+1))(h:∀h',C2 h' I a f (i+1) n ep->Heap.SameBut I s.heap h'->wpAny (model prog w) A m Q' E { s with heap:=h' }) :
  wpAny (model prog w) A (do setField (.ref I) 1 x;m) Q' E s:=by
 obtain⟨o,ho,hc,hd⟩:=id hi;refine ae (df ho hd (by simp) ?_);exact h _ (SU hi hx) (bR ..)
theorem Bg{α:Type}(next:Nat->Nat)(xs:Array α):(pickOrder next xs).toList.Perm xs.toList:=by
 have go:∀(fuel k:Nat) (left:List α) (out:Array α),fuel=left.length->(pickOrder.go next fuel k left out).toList.Perm (out.toList++left):=by
  intro fuel
  induction fuel with
  |zero =>
   intro k left out e;have:left=[]:=fb e.symm;subst this;simp[pickOrder.go]
  |succ n ih =>
   intro k left out e;have dW:next k % left.length<left.length:=Jy _ (by omega)
   unfold pickOrder.go;rw[au dW];refine(ih _ _ _ (by rw[fK dW];omega)).trans ?_;rw[Array.toList_push,fZ];refine List.Perm.append_left _ ?_;have:left.Perm (left[next k % left.length]::left.eraseIdx (next k % left.length)):=by
    rw[kj]
    conv=>lhs;rw[<- ic (next k % left.length) left,dC dW]
    exact List.perm_middle
   exact this.symm
 have:=go xs.size 0 xs.toList #[] (by simp);simpa[pickOrder] using this
theorem next_item{r:Rd}{i:Nat}{f:Value}{Q:Option Value->Shared->Prop}(hL:Lies s.heap a es ep t)(hr:rG w es t pl r)(hi:C2 s.heap I a f i es.size ep)(hf:M1 s.heap t b pl i f r)(dw:b≠I)(dW:i<es.size)(h:∀v h' f',(vh w a es ep pl r)[i]?=some v->C2 h' I a f' (i+1) es.size ep->M1 h' t b pl (i+1) f' r->Heap.SameBut I s.heap h'->Q (some v) { s with heap:=h' }):wpAny (model prog w) A (pyNext (.ref I)) Q E s:=by
 obtain⟨o,ho,hc,hd⟩:=id hi;unfold pyNext;refine ae (wpAny_attempt (eQ (name:=Str.ofString "__next__") hi.ty A9 (cu A9 hi.ty GH ?_ (GS _))));unfold Builtin.«set_iterator.__next__»;refine ae (ai ?_);refine ae (wpAny_fieldsOf ho hd ?_);dsimp only[rawInt];refine ae (entries hL ?_);rw[az (by simp)];rw[bV,bV];cases r with
 |text =>
  obtain⟨k,rfl⟩:=hf;dsimp only[rawInt];refine ae (Ga hL hr ?_);have hl:i<(pickOrder (w.params.setOrder a ep) es).size:=by
   have:=(Bg (w.params.setOrder a ep) es).length_eq;simp at this;omega
  rw[nR hl];refine Fi hi rfl λh' h1 h2=>ai ⟨_,rfl,ai (h _ _ _ ?_ h1 ⟨_,rfl⟩ h2)⟩;show((pickOrder (w.params.setOrder a ep) es).toList.map (·.2))[i]?=_;simp[hl]
 |plain =>
  obtain⟨r1,r2,r3⟩:=hr;have hs:=Fz hL;obtain rfl:=hf;dsimp only[rawInt];rw[bV];refine ae (Gx hL r1 r2 r3.led ?_);rw[Gm r3.vY (by omega),nR dW,getD_mem (by omega)];refine Fi hi rfl λh' h1 h2=>ai ⟨_,rfl,ai (h _ _ _ ?_ h1 rfl h2)⟩;show(es.toList.map (·.2))[i]?=_;simp[dW]
 |drawn =>
  obtain⟨r1,r2⟩:=hr;obtain⟨rfl,ob,e,hb,Ee,wz⟩:=hf;have fO:i<pl.length:=by rw[r2.length_eq];simpa using dW
  dsimp only;refine ae (wpAny_seqItems hb wz ?_);have hj:pl[i]<es.size:=by
   have:=r2.mem_iff.mp (cQ fO);simpa using this
  have e1:(pl.map λj=>rawInt (j:Nat)).toArray[i]?=some (rawInt (pl[i]:Nat)):=by simp[fO]
  dsimp only;rw[e1];dsimp only[rawInt];rw[bV];refine ae (Yg hL hj ?_);refine TM hi rfl λh' h1 h2=>ai ⟨_,rfl,ai (h _ _ _ ?_ h1 ⟨rfl,ob,e,by rw[h2.2 b dw];exact hb,Ee,wz⟩ h2)⟩;show(pl.map λj=>(es.getD j (0,.none)).2)[i]?=_;simp[fO]
theorem Bh{Q:Option Value->Shared->Prop}{I:Addr}{h0:Heap}(hh:A.handled=none)(Mq:Heap.ExtBut I h0 s.heap)(h:∀h',Heap.ExtBut I h0 h'->Q none { s with heap:=h' }) :
  wpAny (model prog w) A.in1 (newExc (.type "StopIteration") [] >>= λe=>(raiseNew e:Sem Fin)) (λfin s'=>∃v,fin=Fin.done (Flow.ret v)/\wpAny (model prog w) A (pure (some v)) Q E s')
   (λe s'=>wpAny (model prog w) A (do
     let x <- isInstance e (Value.type "StopIteration")
     if x=true then pure none else throw e) Q E s') s:=by
 refine ae ?_;simp only[newExc,newTuple];refine ae (bS ?_ (by size_fits));refine ae (m:=firstArgMember _ _) (dI (a:=Value.none) (by first|rfl|(simp only[firstArgMember];rfl)) ?_);refine bS ?_ (by size_fits);simp only[raiseNew];refine ae (wpAny_handled ?_);rw[show A.in1.handled=none from hh];refine ae (ai (wpAny_throw ?_));refine ae (iL (T:="StopIteration") (b:=true) ⟨_,aA _ rfl,rfl⟩ isSubtype_stop ?_);exact ai (h _ ((Mq.push _).push _))
theorem next_end{r:Rd}{f:Value}{Q:Option Value->Shared->Prop}(hh:A.handled=none)(hL:Lies s.heap a es ep t)(hr:rG w es t pl r)(hi:C2 s.heap I a f es.size es.size ep)(hf:M1 s.heap t b pl es.size f r)(dw:b≠I)(h:∀h',Heap.ExtBut I s.heap h'->Q none { s with heap:=h' }):wpAny (model prog w) A (pyNext (.ref I)) Q E s:=by
 obtain⟨o,ho,hc,hd⟩:=id hi;unfold pyNext;refine ae (wpAny_attempt (eQ (name:=Str.ofString "__next__") hi.ty A9 (cu A9 hi.ty GH ?_ (GS _))));unfold Builtin.«set_iterator.__next__»;refine ae (ai ?_);refine ae (wpAny_fieldsOf ho hd ?_);dsimp only[rawInt];refine ae (entries hL ?_);rw[az (by simp)];rw[bV,bV];cases r with
 |text =>
  obtain⟨k,rfl⟩:=hf;dsimp only[rawInt];refine ae (Ga hL hr ?_);have hl:(pickOrder (w.params.setOrder a ep) es).size<=es.size:=by
   have:=(Bg (w.params.setOrder a ep) es).length_eq;simp at this;omega
  rw[sD hl];refine ae (df ho hd (by simp) ?_);exact Bh (s:={ s with heap:=_ }) hh (bR ..).extBut h
 |plain =>
  obtain⟨r1,r2,r3⟩:=hr;have hs:=Fz hL;obtain rfl:=hf;dsimp only[rawInt];rw[bV];refine ae (Gx hL r1 r2 r3.led ?_);rw[Gm r3.vY (by omega),sD (av _)];refine ae (df ho hd (by simp) ?_);exact Bh (s:={ s with heap:=_ }) hh (bR ..).extBut h
 |drawn =>
  obtain⟨r1,r2⟩:=hr;obtain⟨rfl,ob,e,hb,Ee,wz⟩:=hf;have fO:pl.length=es.size:=by rw[r2.length_eq];simp
  dsimp only;refine ae (wpAny_seqItems hb wz ?_);have e1:(pl.map λj=>rawInt (j:Nat)).toArray[es.size]?=none:=by simp[fO]
  dsimp only;rw[e1];dsimp only[rawInt];refine ae (df ho hd (by simp) ?_);have h1:=aV (Obj.mapFields (·.setIfInBounds 0 (Value.int 0 0))) ho (cJ (bq hd _));refine ae (df (s:={ s with heap:=_ }) h1 (bq hd _) (by simp) ?_);exact Bh (s:={ s with heap:=_ }) hh ((bR ..).trans (bR ..)).extBut h
end
end ST

namespace ST
open PySem PyProof.Rows
section
variable{prog:Program}{w:World}{A:Around}{E:Value->Shared->Prop}{s:Shared}{a I b:Addr}{es:Array (Int×Value)}{ep:Nat}{t:SetTable}{pl:List Nat}
theorem Xl{α:Type}{l:List α}{k:Nat}(dW:k<l.length):(l[k]::l.eraseIdx k).Perm l:=by
 rw[kj]
 conv=>rhs;rw[<- ic k l,dC dW]
 exact List.perm_middle.symm
theorem Gs{α:Type}:∀(n:Nat) (xs:List α) (s:Shared) (Q:List α->Shared->Prop),n=xs.length->(∀ys d,ys.Perm xs->Q ys { s with drawn:=d })->wpAny (model prog w) A (drawOrder n xs) Q E s
 |0,xs,s,Q,e,h=>by
  have:xs=[]:=fb e.symm;subst this;exact ai (h [] s.drawn (List.Perm.refl _))
 |n+1,[],s,Q,e,h=>by simp at e
 |n+1,x::xs,s,Q,e,h=>by
  unfold drawOrder;refine ae ?_;intro Γ p hΓ;refine⟨by simp,?_⟩;generalize (model prog w).w.draws .order (s.drawn.get .order)=k;have dW:k % (x::xs).length<(x::xs).length:=Jy _ (by simp);have go:wpAny (model prog w) A (match (x :: xs)[k % (x :: xs).length]? with
   |some y=>do
    let ys <- drawOrder n ((x::xs).eraseIdx (k % (x::xs).length))
    pure (y::ys)
   | none=>unsupported "internal:drawOrder") Q E { s with drawn:=s.drawn.bump .order }:=by
   rw[au dW];refine ae (Gs n _ _ _ (by rw[fK dW];simp at e ⊢;omega) λys d hp=>ai ?_);exact h _ d ((List.Perm.cons _ hp).trans (Xl dW))
  exact go
theorem Ft{r:Rd}(hr:rG w es t pl r):(vh w a es ep pl r).Perm (es.toList.map (·.2)):=by
 cases r with
 |text=>exact(Bg _ es).map _
 |plain=>exact List.Perm.refl _
 |drawn =>
  refine(hr.2.map _).trans ?_;have:(List.range es.size).map (λj=>(es.getD j (0,.none)).2)=es.toList.map (·.2):=by
   apply List.ext_getElem
   ·simp
   ·intro i h1 h2;simp at h1;simp[Array.getD,h1]
  rw[this]
theorem Lies.ty(hL:Lies s.heap a es ep t):s.TypeIs (.ref a) "set":=let ⟨o,e,c,_⟩:=hL.at_;⟨o,e,c⟩
theorem Wh(hL:Lies s.heap a es ep t)(hw:Well (Led w) t)(hz:es.size<=10000){Q:Value->Shared->Prop}(h:∀r pl b f I h' d',rG w es t pl r->C2 h' I a f 0 es.size ep->M1 h' t b pl 0 f r->b≠I->(b=a\/s.heap.objs.size<=b)->(∀c o,s.heap.get? c=some o->h'.get? c=some o)->s.heap.objs.size<=I->s.heap.objs.size<=h'.objs.size->Q (.ref I) { s with heap:=h',drawn:=d' }) :
  wpAny (model prog w) A (pyIter (.ref a)) Q E s:=by
 obtain⟨o,ho,yZ,hd⟩:=hL.at_;refine wpAny_pyIter_slot hL.ty F.slot_set_iter (cu F.slot_set_iter hL.ty YZ ?_ (F.args_set_iter_1 _));unfold Builtin.«frozenset.__iter__»;refine ae (ai ?_);unfold Builtin.Frozenset.sizeOf;refine ae (ae (entries hL (ai ?_)));unfold setDrawn;refine ae (ae (cb ho hd hL.fit ?_));refine ae (vo (ai ?_));have dW:=ay ho;have fin:∀(r:Rd) (f:Value) (b:Addr) (pl:List Nat) (h1:Heap) (d1:Drawn),rG w es t pl r->(∀h',(∀c o,h1.get? c=some o->h'.get? c=some o)->M1 h' t b pl 0 f r)->b<h1.objs.size->(b=a\/s.heap.objs.size<=b)->(∀c o,s.heap.get? c=some o->h1.get? c=some o)->s.heap.objs.size<=h1.objs.size ->
   wpAny (model prog w) A.in1 (do
    let e <- setEpoch a
    ret (<- newFields "set_iterator" [f,rawInt 0,.ref a,rawInt es.size,rawInt e])) (λfin s'=>∃ v,fin=Fin.done (Flow.ret v)/\∃ T' r,s'.TypeIs v T'/\typeLookup (.type T') "__next__"=pure (some r)/\Q v s') E { s with heap:=h1,drawn:=d1 }:=λr f b pl h1 d1 hr hf hb zw he hsz=>by
  have rq:Lies h1 a es ep t:=hL.at λo e=>he a o e;obtain⟨o1,KS,_,Ed⟩:=rq.at_;unfold setEpoch;refine ae (ae (cb (s:={ s with heap:=h1,drawn:=d1 }) KS Ed rq.fit (ai ?_)));refine ae (bS (ai ⟨_,rfl,"set_iterator",_,⟨_,aA _ rfl,rfl⟩,A9.lookup,?_⟩));refine h r pl b f h1.objs.size _ d1 hr ⟨_,aA _ rfl,rfl,rfl⟩ (hf _ λc o e=>aj _ e) (aK hb) zw (λc o e=>aj _ (he c o e)) hsz (by rw[vI];exact Nat.le_succ_of_le hsz)
 have e0:s={ s with heap:=s.heap,drawn:=s.drawn }:=rfl;cases hT:w.params.followText "set-order" with
 |true =>
  dsimp only[Bool.not_true,Bool.false_and];rw[az (by simp)];refine ae (ai ?_);rw[e0];exact fin .text (rawInt 0) a [] s.heap s.drawn hT (λh' _=>⟨0,rfl⟩) dW (.inl rfl) (λc o e=>e) (av _)
 |false =>
  show wpAny _ _ (if(!false&&(!t.plain&&decide (es.size>1)))=true then _ else _ ) _ _ _;by_cases hp:t.plain=true\/es.size<=1
  ·rw[az (by rcases hp with e|e<;>simp[e])];refine ae (ai ?_);rw[e0];refine fin .plain (rawInt 0) a [] s.heap s.drawn ⟨hT,hp,?_⟩ (λh' _=>rfl) dW (.inl rfl) (λc o e=>e) (av _);have:Led w=true:=by unfold Led;rw[hT];rfl
   rw[<- this];exact hw
  ·have h1:t.plain=false:=by cases hq:t.plain with|true=>exact absurd (.inl hq) hp|false=>rfl
   have h2:¬es.size<=1:=λz=>hp (.inr z);rw[aH (by simp[h1];omega)];refine ae (Gs _ _ _ _ (List.length_range).symm λys d hy=>?_);have hl:ys.length=es.size:=by rw[hy.length_eq];simp
   refine ae (bS ?_ (by show(List.map _ ys).toArray.size<=sizeLine;rw[aB,ah,hl];exact aC hz (by decide)));refine fin .drawn (.ref s.heap.objs.size) s.heap.objs.size ys _ d ⟨hT,hy⟩ (λh' hk=>⟨rfl,_,_,hk _ _ (aA _ rfl),rfl,rfl⟩) (by rw[vI];exact eW _) (.inr (av _)) (λc o e=>aj _ e) (by rw[vI];exact fV _)
theorem Xx(hh:A.handled=none){r:Rd}(hr:rG w es t pl r)(dw:b≠I)(KW:a≠I) :
  Walks prog w A I [I,a,b] [I] es.size (λi v=>(vh w a es ep pl r)[i]?=some v) (λi h=>Lies h a es ep t/\∃f,C2 h I a f i es.size ep/\M1 h t b pl i f r) where
 sub:=λc hc=>by simp at hc;simp[hc]
 frame:=λi h h' st hk=>by
  obtain⟨hL,f,hi,hf⟩:=st;refine⟨hL.at λo e=>hk a (by simp) o e,f,hi.at λo e=>hk I (by simp) o e,?_⟩;cases r with
  |text=>exact hf
  |plain=>exact hf
  |drawn =>
   obtain⟨e1,o,e,h1,h2⟩:=hf;exact⟨e1,o,e,hk b (by simp) o h1,h2⟩
 item:=λi s Q E hi st hQ=>by
  obtain⟨hL,f,hI,hf⟩:=st;exact next_item hL hr hI hf dw hi λv h' f' hv h1 h2 h3=>hQ v h' s.toks hv ⟨hL.at λo e=>by rw[h3.2 a KW];exact e,f',h1,h2⟩ λc o hc e=>h3.extBut c o (λz=>hc (by simp[z])) e
 done:=λs Q E st hQ=>by
  obtain⟨hL,f,hI,hf⟩:=st;exact next_end hh hL hr hI hf dw λh' he=>hQ h' s.toks λc o hc e=>he c o (λz=>hc (by simp[z])) e
 self:=λi s Q E st hQ=>by
  obtain⟨hL,f,hI,hf⟩:=st;refine wpAny_pyIter_slot hI.ty GW (cu GW hI.ty YG ?_ (YU _));exact ae (ai (ai ⟨_,rfl,"set_iterator",_,hI.ty,A9.lookup,hQ⟩))
end
end ST

namespace ST
open PySem PyProof.Rows
theorem Vw:typeLookup (.type "set") "__len__"=pure (some (.builtin "set.__len__")):=by rw[jn,fu];kernel_rfl
section
variable{prog:Program}{w:World}{A:Around}{E:Value->Shared->Prop}{s:Shared}{a I b:Addr}{es:Array (Int×Value)}{ep:Nat}{t:SetTable}{pl:List Nat}
theorem YR(hh:A.handled=none)(hL:Lies s.heap a es ep t)(hw:Well (Led w) t)(hz:es.size<=10000){Q:List Value->Shared->Prop}(h:∀(vs:List Value) h' d' lI,vs.Perm (es.toList.map (·.2))->(∀c o,s.heap.get? c=some o->h'.get? c=some o)->s.heap.objs.size<=h'.objs.size->s.toks<=lI->Q vs { s with heap:=h',drawn:=d',toks:=lI }) :
  wpAny (model prog w) A (collect (.ref a)) Q E s:=by
 have dW:a<s.heap.objs.size:=let ⟨o,ho,_⟩:=hL.at_;ay ho
 unfold collect;refine ae (wpAny_runValue (eI F.entry_proto_collect ?_));rw[dN F.plain_proto_collect _];show wpAny _ A.in1 (newList [] >>= λl=>again (.builtin "list.__iadd__" ⟨[l,.ref a],[]⟩)) _ _ s;refine ae (bS ?_);refine ai ⟨kW F.plain_list_iadd _,eI F.entry_list_iadd ?_⟩;rw[dN F.plain_list_iadd _];have rq:Lies (s.heap.push { cls:=.type "list",data:=.seq ([]:List Value).toArray }) a es ep t:=hL.at λo e=>aj _ e;have LO:(s.heap.push { cls:=.type "list",data:=.seq ([]:List Value).toArray }).get? s.heap.objs.size=some { cls:=.type "list",data:=.seq ([]:List Value).toArray }:=aA _ rfl;have dw:s.heap.objs.size≠a:=bB dW;have h1:Builtin.List.listSameRef (.ref s.heap.objs.size) (.ref a)=false:=by simp[Builtin.List.listSameRef,dw]
 show wpAny _ A.in1 (Builtin.List.listExtendWith (.ref s.heap.objs.size) (.ref a) (.ref s.heap.objs.size)) _ _ _;unfold Builtin.List.listExtendWith;refine ae (dX (Lies.ty (s:={ s with heap:=_ }) rq) ?_);rw[az (by rw[h1];decide)];refine ae (Wh (s:={ s with heap:=_ }) rq hw hz λr pl b f I h2 d2 hr hI hf hb LB he zF h2z=>?_);have qa:Lies h2 a es ep t:=rq.at λo e=>he a o e;have uk:=he _ _ LO;refine ae (bY ?_);unfold Builtin.List.listLengthHint;refine ae (wpAny_specialOf (Lies.ty (s:={ s with heap:=h2,drawn:=d2 }) qa) Vw ?_);generalize DU:("set.__len__":String)=Kt;dsimp only;rw[show splitId Kt=some ("set","__len__") from by subst DU;decide +kernel];dsimp only;refine ae (iL (b:=true) (Lies.ty (s:={ s with heap:=h2,drawn:=d2 }) qa) (by rw[gz];kernel_rfl) ?_);rw[az (by decide)];subst DU;rw[aH (by decide +kernel)];refine ae (dX (Lies.ty (s:={ s with heap:=h2,drawn:=d2 }) qa) ?_);refine ai ?_;rw[aH (by decide +kernel)];refine ae (fB ?_);refine ae ?_;show wpAny _ A.in1 (updateSeq s.heap.objs.size (·.push .none) >>= λ_=>updateSeq s.heap.objs.size (·.pop)) _ _ _;refine ae (wpAny_updateSeq (s:={ s with heap:=h2,drawn:=d2 }) uk rfl ?_);have Ej:=aV (Obj.mapSeq (·.push Value.none)) uk rfl;refine wpAny_updateSeq (s:={ s with heap:=_,drawn:=d2 }) Ej rfl ?_;have LM:=aV (Obj.mapSeq (·.pop)) Ej rfl;have Dm:∀c o,c≠s.heap.objs.size->h2.get? c=some o->((h2.update s.heap.objs.size (Obj.mapSeq (·.push Value.none))).update s.heap.objs.size (Obj.mapSeq (·.pop))).get? c=some o :=
  λc o hc e=>(bP _ _ (bA hc)).trans ((bP _ _ (bA hc)).trans e)
 have qU:s.heap.objs.size<(s.heap.push { cls:=.type "list",data:=.seq ([]:List Value).toArray }).objs.size:=by rw[vI];exact eW _
 have hSI:I≠s.heap.objs.size:=bB (ax qU zF);have hSb:b≠s.heap.objs.size:=by
  rcases LB with z|z
  ·rw[z];exact bA dw
  ·exact bB (ax qU z)
 have W:=(Xx (prog:=prog) (w:=w) (A:=A.in1) (a:=a) (b:=b) (I:=I) (es:=es) (ep:=ep) (t:=t) (pl:=pl) hh hr hb (aK (ax (cy dW qU) zF))).toS;have st:Lies h2 a es ep t/\∃f,C2 h2 I a f 0 es.size ep/\M1 h2 t b pl 0 f r:=⟨qa,f,hI,hf⟩
 have ka:=W.frame 0 ({ s with heap:=h2,drawn:=d2 }:Shared) _ s.toks st (av _) λc hc o e=>Dm c o (λz=>by simp at hc;rcases hc with y|y|y<;>simp_all) e;refine ai ⟨kW F.plain_extend_loop _,codeAny_extend_loopS W (aC hz (by decide)) _ (λz=>by simp at z;rcases z with y|y|y<;>simp_all) _ es.size 0 _ _ _ rfl (cz _) ka LM (ItemsOf.nil _) λs' vp c' hm my kh=>?_⟩;show wpAny _ A (load s.heap.objs.size >>= _) _ _ s';refine ae (wpAny_load my ?_);refine ai ?_;have eS:s'={ s with heap:=s'.heap,drawn:=d2,toks:=s'.toks }:=by
  obtain⟨ji,g',d',lI,sU⟩:=s';have m1:g'=s.gens:=hm.gens;have m2:d'=d2:=hm.drawn;have m3:sU=s.os:=hm.os;subst m1;subst m2;subst m3
  rfl
 have eo:vp.toList=vh w a es ep pl r:=by
  have l1:(vh w a es ep pl r).length=es.size:=by rw[(Ft hr).length_eq];simp
  apply List.ext_getElem
  ·rw[l1];simpa using kh.1
  ·intro i h1 h2;have:=kh.2 i vp.toList[i] (by simp at h1 ⊢);dsimp only at this;rw[au h2] at this;exact(aJ this).symm
 rw[eo,eS];refine h _ _ d2 s'.toks (Ft hr) (λc o e=>?_) (dz (ay my)) hm.toks;have hc:c<s.heap.objs.size:=ay e;have n1:c≠s.heap.objs.size:=aK hc;have n2:c≠I:=aK (ax (cy hc qU) zF);exact hm.heap c o (by simp[n1,n2]) (Dm c o n1 (he c o (aj _ e)))
theorem Yq{ks:List Int}(hh:A.handled=none)(hS:s9 prog w s.heap a ks)(h64:ks.length<64){Q:Value->Shared->Prop}(h:∀(S:Addr) (vs:List Value) (ns:List Int) e h' d' lI,IntsAre vs ns->ns.Perm ks->ns.Pairwise (·<=·)->h'.get? S=some (seqObj "list" vs.toArray e)->s.heap.objs.size<=S->(∀c o,s.heap.get? c=some o->h'.get? c=some o)->s.toks<=lI->Q (.ref S) { s with heap:=h',drawn:=d',toks:=lI }) :
  wpAny (model prog w) A (call (.builtin "sorted") [.ref a]) Q E s:=by
 obtain⟨o,es,ep,t,ho,hx,hd,pU,hp,hn,hb,hf,hw⟩:=hS;have hL:Lies s.heap a es ep t:=⟨⟨o,ho,hx.1,hd⟩,hf⟩
 have hz:es.size=ks.length:=by rw[<- hp.length_eq];simp
 refine Calls.call_function_entry kind_sorted plain_sorted entry_sorted (args_sorted1 _) ?_;unfold Builtin.«sorted»;refine ae (m:=checkCount "sorted" 1 1 _) (ai ?_);refine ae (YR (A:=A.in1) hh hL hw (by omega) λvs h1 d1 yt hv he qU wj=>?_);have hI:IntsAre vs (vs.map toI):=by
  have all:∀v∈vs,∃tk,v=.int (toI v) tk:=λv yS=>by
   obtain⟨e,zp,rfl⟩:=aR.mp (hv.mem_iff.mp yS);obtain⟨tk,h1,_⟩:=HH pU zp;exact⟨tk,h1⟩
  clear hv
  induction vs with
  |nil=>exact .nil
  |cons v r ih =>
   obtain⟨tk,e⟩:=all v (by simp);have:=IntsAre.cons (toI v) tk (ih λu hu=>all u (by simp[hu]));rw[<- e] at this;exact this
 have hk:(vs.map toI).Perm ks:=by
  refine(hv.map toI).trans ?_;rw[eF];exact hp
 have hl:vs.length<64:=by rw[hv.length_eq];simp;omega
 refine ae (wpAny_newList (s:={ s with heap:=h1,drawn:=d1,toks:=yt }) ?_);have tU:(h1.push (seqObj "list" vs.toArray 0)).get? h1.objs.size=some (seqObj "list" vs.toArray 0):=aA _ rfl;refine ae (bY (cu (s:={ s with heap:=h1.push (seqObj "list" vs.toArray 0),drawn:=d1,toks:=yt }) slot_list_sort ⟨_,tU,rfl⟩ entry_list_sort (list_sort_tree tU hI hl λout yF a1 a2 a3=>⟨_,rfl,?_⟩) (args_list_sort _)));obtain⟨e,zp⟩:=sortedHeap_at (vs:=vs) (out:=out) tU;refine ai ⟨_,rfl,h h1.objs.size out.toList yF e _ d1 yt a1 (a2.trans hk) a3 zp qU (λc o' e'=>?_) wj⟩;have hc:=ay (he c o' e');rw[sortedHeap_old (aK hc) (by rw[vI];exact Nat.lt_succ_of_lt hc)];exact aj _ (he c o' e')
end
end ST

namespace ST
open PySem PyProof.Rows
def i8(ks xs:List Int):List Int:=xs.foldl C0 ks
theorem K9:∀(xs ks:List Int),(i8 ks xs).length<=ks.length+xs.length
 |[],ks=>by simp[i8]
 |x::xs,ks=>by
  have:=K9 xs (C0 ks x);have h2:=Zc ks x;show(i8 (C0 ks x) xs).length<=_;simp only[List.length_cons];omega
theorem Gw:∀(xs ks:List Int) (k:Int),k∈i8 ks xs↔k∈ks\/k∈xs
 |[],ks,k=>by simp[i8]
 |x::xs,ks,k=>by
  show k∈i8 (C0 ks x) xs↔_;rw[Gw xs];unfold C0;split
  ·rename_i h;constructor
   ·rintro(a|a)
    ·exact .inl a
    ·exact .inr (by simp[a])
   ·rintro(a|a)
    ·exact .inl a
    ·rcases aG.mp a with rfl|b
     ·exact .inl h
     ·exact .inr b
  ·simp[or_assoc]
theorem FZ:∀(xs ks:List Int),ks.Nodup->(i8 ks xs).Nodup
 |[],ks,h=>h
 |x::xs,ks,h=>by
  show(i8 (C0 ks x) xs).Nodup;refine FZ xs _ ?_;unfold C0;split
  ·exact h
  ·rename_i hk;rw[dj];exact⟨h,by simp,λa ha b hb=>by simp at hb;subst hb;exact λz=>hk (z▸ha)⟩
section
variable{prog:Program}{w:World}{A:Around}{E:Value->Shared->Prop}{s:Shared}{a:Addr}
theorem XU:Well (Led w) (SetTable.fresh 0 0 (Led w)):=⟨by simp[jU,SetTable.fresh],rfl,rfl⟩
theorem FO{h:Heap}(e:h.get? a=some { cls:=.type "set",dict:=none,data:=.set #[] 0 (.fresh 0 0 (Led w)) }):s9 prog w h a [] :=
 ⟨_,#[],0,_,e,⟨rfl,rfl,rfl⟩,rfl,(by intro e he;simp at he),by simp,by simp,by decide,by rfl,XU⟩
theorem Ws{R:Result->Shared->Prop}{I:Addr}{fp wr:List Addr}{G:Array GenState->Array GenState->Prop}{n:Nat}{P:Nat->Value->Prop}{St:Nat->Shared->Prop}(W:WalksS prog w A.in1 I fp wr G n P St)(Ei:a∉fp){ns:List Int}(hn:n=ns.length)(hv:∀i v,P i v->∃tk,v=.int (ns.getD i 0) tk)(hb:n+1<scanBound):∀(k i:Nat) (s:Shared),i+k=n->St i s->s9 prog w s.heap a (i8 [] (ns.take i)) ->
   (∀s',Moved (a::wr) G s s'->s9 prog w s'.heap a (i8 [] ns)->R (.ok (.ret .none)) s')->codeAny (model prog w) A (.builtin "set.update.loop" ⟨[.ref a,.ref I],[]⟩) R s:=by
 have hw:a∉wr:=λh=>Ei (W.sub _ h);have sI:∀b∈wr,b∈a::wr:=λb hb=>by simp[hb]
 intro k
 induction k with
 |zero =>
  intro i s e st hS hR;obtain rfl:i=n:=by omega
  refine eI jc ?_;rw[dN dD _];unfold Builtin.«set.update.loop»;refine ae (W.done s _ _ st λs' m=>ai (hR s' (m.mono sI) (s9.at ?_ λo e=>m.heap a o hw e)));rw[hn,cc] at hS;exact hS
 |succ k ih =>
  intro i s e st hS hR;have dW:i<ns.length:=by omega
  refine eI jc ?_;rw[dN dD _];unfold Builtin.«set.update.loop»;refine ae (W.item i s _ _ (by omega) st λv s' hP kL m=>?_);obtain⟨tk,rfl⟩:=hv i v hP;have my:=s9.at hS λo e=>m.heap a o hw e;have hl:=K9 (ns.take i) [];rw[cO] at hl;simp only[List.length_nil] at hl;refine ae (bY ?_);unfold setAdd;refine bY (ae ((intKind prog w).pyHash (k:=ns.getD i 0) (fC _ _ _ _) ?_));refine IB (s:={ s' with toks:=s'.toks+1 }) my (by omega) λh' bb sb uk=>?_;have e2:C0 (i8 [] (ns.take i)) (ns.getD i 0)=i8 [] (ns.take (i+1)):=by
   unfold i8;rw[bU,List.foldl_append,au dW];simp[List.getD,dW]
  rw[e2] at uk;refine ai ⟨kW dD _,ih (i+1) _ (by omega) (W.frame _ s' _ _ kL (fV _) λb hb o e=>by rw[sb.2 b λz=>Ei (z▸hb)];exact e) uk λs2 m2 h2=>?_⟩;exact hR s2 (Moved.trans W.gtrans ((m.mono sI).then_heap (fV _) λb o hb e=>by rw[sb.2 b λz=>hb (by rw[z];simp)];exact e) m2) h2
end
end ST

namespace ST
open PySem PyProof.Rows
section
variable{prog:Program}{w:World}{A:Around}{E:Value->Shared->Prop}{s:Shared}{a:Addr}
noncomputable abbrev v8(w:World):Obj:={ cls:=.type "set",dict:=none,data:=.set #[] 0 (.fresh 0 0 (Led w)) }
theorem HS{Q:Value->Shared->Prop}(h:Q (.ref s.heap.objs.size) { s with heap:=s.heap.push (v8 w) }):wpAny (model prog w) A (newSet (.type "set")) Q E s:=by
 unfold newSet;refine ae (vo ?_);exact bS h (cz _)
theorem Zi(x:Value){Q:Value->Shared->Prop}(h:Q (.ref s.heap.objs.size) { s with heap:=s.heap.push (v8 w) }):codeAny (model prog w) A (.call (.builtin "set.__new__") ⟨[.type "set",x],[]⟩) (wants Q E) s:=by
 refine si (?_:wpAny _ A.in1 (do
  checkBuiltinCall "set.__new__" ⟨[.type "set",x],[]⟩
  again (.builtin "set.__new__" ⟨[.type "set",x],[]⟩)) _ _ s)
 refine ae (dI (F.newCall_set_1 x) (ai ⟨kW F.plain_set_new _,?_⟩));refine eI F.entry_set_new ?_;rw[dN F.plain_set_new _];unfold Builtin.«set.__new__»;have sub:=sub_set_self;refine ae (m:=Builtin.Frozenset.newClass "set" _) ?_;unfold Builtin.Frozenset.newClass;dsimp only;refine ae (dI (a:=true) (by first|rfl|(simp[isType];rfl)) ?_);rw[az (by decide)];refine ae (dI sub ?_);rw[az (by decide)];refine ai ?_;exact ae (HS (ai h))
theorem IA{vs:List Value}{ns:List Int}(h:IntsAre vs ns):vs.length=ns.length:=by
 induction h with
 |nil=>rfl
 |cons n t r ih=>simp[ih]
def vx(h:Heap)(l:Addr)(items:Array Value):Prop:=h.IsList l items\/h.IsTuple l items
theorem vx.lt{h:Heap}{l:Addr}{items:Array Value}(x:vx h l items):l<h.objs.size:=by
 rcases x with⟨_,e,_⟩|⟨_,e,_⟩<;>exact ay e
theorem Zr{l:Addr}{items:Array Value}{ns:List Int}{Q:Fin->Shared->Prop}(hh:A.handled=none)(hS:s.heap.get? a=some (v8 w))(hl:vx s.heap l items)(hi:IntsAre items.toList ns)(hb:items.size+1<scanBound)(dw:a≠l)(h:∀h' tk,s9 prog w h' a (i8 [] ns)->(∀b o,b≠a->s.heap.get? b=some o->h'.get? b=some o)->s.toks<=tk->wpAny (model prog w) A (ret .none) Q E { s with heap:=h',toks:=tk }) :
  wpAny (model prog w) A (Builtin.«set.__init__» ⟨[.ref a,.ref l],[]⟩) Q E s:=by
 have hT:s.TypeIs (.ref a) "set":=⟨_,hS,rfl⟩
 have hLi:Lies s.heap a #[] 0 (SetTable.fresh 0 0 (Led w)):=⟨⟨_,hS,rfl,rfl⟩,rfl⟩
 have dW:=hl.lt;have DN:l≠s.heap.objs.size:=aK dW;unfold Builtin.«set.__init__» noKeywords;dsimp only;refine ae (dI (a:=()) rfl ?_);have nm:∀{Q':String->Shared->Prop},(∀x,Q' x s)->wpAny (model prog w) A (typeNameOfCut 200 (.ref a)) Q' E s:=λ{Q'} q=>by
  unfold typeNameOfCut shownTypeOf;refine ae (ae (dX hT ?_));rw[az (by decide)];refine ai (dI (a:="set") ?_ (q _));unfold typeNameCut;dsimp only
  first|(unfold typeName;rw[find?_eq_fast];kernel_rfl)|kernel_rfl
 refine ae (nm λx=>?_);refine ae (m:=checkCount _ 0 1 _) (ai ?_);refine ae (m:=Builtin.Frozenset.addrOf _) (ai ?_);unfold setUsed;refine ae (ae (cb hS rfl rfl (ai ?_)));rw[az (by show ¬((SetTable.fill (SetTable.fresh 0 0 (Led w)) != 0)=true);unfold SetTable.fill;simp[SetTable.fresh])];unfold Builtin.Frozenset.updateFrom Builtin.Frozenset.isAnySet;obtain⟨c,rh,zC,it,hit,DQ,St,W,cV⟩:∃c:String,(c="list"\/c="tuple")/\s.TypeIs (.ref l) c/\∃it:Obj,(∀Q':Value->Shared->Prop,Q' (.ref s.heap.objs.size) { s with heap:=s.heap.push it }->wpAny (model prog w) A (pyIter (.ref l)) Q' E s) /\
   (∀b o,s.heap.get? b=some o->(s.heap.push it).get? b=some o)/\∃St:Nat->Shared->Prop,WalksS prog w A.in1 s.heap.objs.size [s.heap.objs.size,l] [s.heap.objs.size] (λa b=>b=a) items.size (λi v=>items[i]?=some v) St/\St 0 { s with heap:=s.heap.push it }:=by
  rcases hl with hl|hl
  ·obtain⟨o,ho,hc,_⟩:=id hl;exact⟨"list",.inl rfl,⟨o,ho,hc⟩,_,λQ' q=>gX hl q,λb o e=>aj _ e,_,(Walks.list (A:=A.in1) hh _ l DN items).toS,⟨⟨_,aA _ rfl,rfl,rfl⟩,hl.push _⟩⟩
  ·obtain⟨o,ho,hc,_⟩:=id hl;exact⟨"tuple",.inr rfl,⟨o,ho,hc⟩,_,λQ' q=>wpAny_pyIter_tuple hl q,λb o e=>aj _ e,_,(Walks.tuple (A:=A.in1) hh _ l DN items).toS,⟨⟨_,aA _ rfl,rfl,rfl⟩,hl.push _⟩⟩
 refine ae (ae (ae (iL (b:=false) zC (by rcases rh with rfl|rfl<;>(rw[gz];kernel_rfl)) ?_)));show wpAny (model prog w) A (isInstance (Value.ref l) (Value.type "frozenset")) _ _ _;refine iL (b:=false) zC (by rcases rh with rfl|rfl<;>(rw[gz];kernel_rfl)) ?_;rw[az (by decide)];refine ae (dX zC ?_);rw[az (by rcases rh with rfl|rfl<;>decide)];refine ae (hit _ ?_);refine ae (wpAny_runValue ?_);have LH:a<s.heap.objs.size:=ay hS;have hsz:items.size=ns.length:=by rw[<- br];exact IA hi
 refine Ws (a:=a) (ns:=ns) W (by simp only[List.mem_cons,List.not_mem_nil,or_false,not_or];exact⟨aK LH,dw⟩) hsz (λi v hv=>IntsAre.int_at hi i v (by rw[ik];exact hv)) hb items.size 0 _ (by omega)
  cV (FO (DQ _ _ hS)) λs' m my=>?_
 have eS:s'={ s with heap:=s'.heap,toks:=s'.toks }:=by
  obtain⟨ji,g',d',lI,sU⟩:=s';have m1:g'=s.gens:=m.gens;have m2:d'=s.drawn:=m.drawn;have m3:sU=s.os:=m.os;subst m1;subst m2;subst m3
  rfl
 rw[eS];refine ai (h _ _ my (λb o hb e=>?_) m.toks);exact m.heap b o (by simp only[List.mem_cons,List.not_mem_nil,or_false,not_or];exact⟨hb,aK (ay e)⟩) (DQ _ _ e)
theorem Zf{l:Addr}{items:Array Value}{ns:List Int}{Q:Value->Shared->Prop}(hh:A.handled=none)(hl:vx s.heap l items)(hi:IntsAre items.toList ns)(hb:items.size+1<scanBound)(h:∀h' tk,s9 prog w h' s.heap.objs.size (i8 [] ns)->(∀b o,s.heap.get? b=some o->h'.get? b=some o)->s.toks<=tk->Q (.ref s.heap.objs.size) { s with heap:=h',toks:=tk }) :
  wpAny (model prog w) A (call (.type "set") [.ref l]) Q E s:=by
 have cs:=F.called_set;obtain⟨_,_,y1⟩:=cs.mro;have y2:=cs.made;have y3:=cs.sub;have y4:=cs.notType;have y5:=cs.canCreate;have y6:=F.typeCall_set_1 (.ref l);refine wpAny_call (si (?_:wpAny _ _ (callAny (.type "set") _) _ _ _));refine ai ⟨Code.quiet_builtin _ (by decide +kernel),eI F.entry_type_call ?_⟩;rw[Around.under_plain (weight_type_call_type "set" [.ref l] []) rfl]
 repeat (any_goals (first|assumption|wp_step))
 refine gg (Zi (.ref l) (E:=E) (Q:=λv s1=>v=.ref s.heap.objs.size/\s1={ s with heap:=s.heap.push (v8 w) }) ⟨rfl,rfl⟩) ?_;rintro(e|fl) s1 hr
 ·exact hr
 cases fl with
 |next=>exact hr
 |brk=>exact hr
 |cont=>exact hr
 |ret v =>
 obtain⟨rfl,rfl⟩:=hr;have hS:(s.heap.push (v8 w)).get? s.heap.objs.size=some (v8 w):=aA _ rfl;have hT:Shared.TypeIs { s with heap:=s.heap.push (v8 w) } (.ref s.heap.objs.size) "set":=⟨_,hS,rfl⟩
 have y7:=cs.init.lookup;have y8:=cs.init.bind (.ref s.heap.objs.size)
 repeat (any_goals (first|assumption|wp_step))
 refine gg (codeAny_call_builtin (R:=wants (λv s2=>v=.none/\∃h' tk,s2={ s with heap:=h',toks:=tk }/\s9 prog w h' s.heap.objs.size (i8 [] ns)/\(∀b o,s.heap.get? b=some o->h'.get? b=some o)/\s.toks<=tk) E) cs.init.plain F.entry_set_init (check_set_init_1 hT ?_)) ?_
 ·have iX:vx (s.heap.push (v8 w)) l items:=hl.imp (·.push _) (·.push _);have La:=hl.lt;refine Zr (s:={ s with heap:=s.heap.push (v8 w) }) (by simp[hh]) hS iX hi hb (bB La) λh' tk h1 h2 h3=>ai ⟨rfl,h',tk,rfl,h1,λb o e=>h2 b o (aK (ay e)) (aj _ e),h3⟩
 ·rintro(e|fl) s2 hr
  ·exact hr
  cases fl with
  |next=>exact hr
  |brk=>exact hr
  |cont=>exact hr
  |ret v =>
  obtain⟨rfl,h',tk,rfl,h1,h2,h3⟩:=hr
  repeat (any_goals (first|assumption|wp_step))
  exact h _ _ h1 h2 h3
end
end ST

namespace L2
open PySem PySem.Spec PyProof.Rows
def qv(X:Cx)(a:Addr)(ks:List Int):HO:=.ext λh=>ST.s9 X.prog X.w h a ks
def l9(ns:List Int):List Int:=(ST.i8 [] ns).mergeSort (λa b=>decide (a<=b))
theorem Ge:∀{a b:List Int},a.Perm b->a.Pairwise (·<=·)->b.Pairwise (·<=·)->a=b
 |[],b,h,_,_=>by rw[List.nil_perm.mp h]
 |x::a,[],h,_,_=>absurd h.length_eq (by simp)
 |x::a,y::b,h,h1,h2=>by
  rw[jw] at h1 h2;have e:x=y:=by
   have m1:=h.mem_iff (a:=y);have m2:=h.mem_iff (a:=x);simp only[List.mem_cons,true_or,true_iff,iff_true] at m1 m2;rcases m1 with z|z
   ·exact z.symm
   ·rcases m2 with z'|z'
    ·exact z'
    ·have:=h1.1 y z;have:=h2.1 x z';omega
  subst e;rw[Ge (h.cons_inv) h1.2 h2.2]
theorem Yp(ns:List Int):(l9 ns).Pairwise (·<=·):=by
 have:=List.pairwise_mergeSort (le:=λa b:Int=>decide (a<=b)) (λa b c h1 h2=>by simp at *;omega) (λa b=>by simp;omega) (ST.i8 [] ns);exact this.imp λh=>by simpa using h
theorem O5(ns:List Int):(l9 ns).Perm (ST.i8 [] ns):=List.mergeSort_perm _ _
theorem N6(ns:List Int):(l9 ns).length<=ns.length:=by
 rw[(O5 ns).length_eq];have:=ST.K9 ns [];simpa using this
section
variable{X:Cx}{pins:List (Addr×Obj)}{Z:St}{H:Hp}{s:Shared}
theorem Inv.draw(I:Inv X pins Z H s)(d:Drawn):Inv X pins Z H { s with drawn:=d } :=
 I.step (g':=s.gens) (t':=s.toks) (d':=d) (ch:=[]) (by simp) (λb o _ _ _ e _=>e) (λb o _ _ _ e _=>⟨o.slots,e⟩) (λb o _ _ e=>e) (λb o _ e=>⟨o,e⟩) (λ_ _ e=>e) (λ_ _ _ e=>e) (λb ps e=>⟨#[],by simp[e]⟩) (λm hm=>hm) I.bC I.bare
theorem Ih{h:Heap}{H:Hp}{a:Addr}{ks:List Int}(x:ST.s9 X.prog X.w h a ks):k8 X.prog X.w H h a (qv X a ks) :=
 ⟨x,by obtain⟨o,_,_,_,e,_⟩:=x;exact⟨o,e⟩,λh1 h2 y k=>y.at k⟩
theorem Yw{ns:List Int}{vs:List Value}(h:IntsAre vs ns):Vals (ns.map V.int) vs:=by
 induction h with
 |nil=>exact .nil
 |cons n t r ih=>exact .cons ⟨t,rfl⟩ ih
theorem K6:∀{ns:List Int} {vs:List Value},Vals (ns.map V.int) vs->IntsAre vs ns
 |[],_,h=>by cases h;exact .nil
 |n::ns,_,h=>by
  cases h with
  |cons r rr =>
   obtain⟨t,rfl⟩:=r;exact .cons n t (K6 rr)
theorem GU(hc:X.calm=true):k9 X (.type "set") (λxs H Q=>∃a ns,xs=[.ref a]/\fh X.K H a (ns.map V.int)/\ns.length<60/\∀p,H p=none->Q (.ref p) (upd H p (qv X p (ST.i8 [] ns)))):=by
 intro pins s Z H xs us Q I r h;obtain⟨a,ns,rfl,hq,hl,q⟩:=h;cases r with
 |cons r rr =>
 cases rr;cases r;obtain⟨aQ,rv,p,hz⟩:=I.list hq;have hI:=K6 rv;have hlen:=ST.IA hI;refine ST.Zf (ns:=ns) (I.ok.hd hc) (.inl p.isList) (by simpa using hI) (by rw[aB,hlen];exact ax (Nat.succ_lt_succ hl) (by decide)) λh' tk hS hk _=>?_;exact⟨.ref _,_,I.laid (a:=s.heap.objs.size) (t':=tk) hk (av _) (Ih hS),rfl,q _ (I.bC.fresh (av _))⟩
theorem T8(hc:X.calm=true):k9 X (.builtin "sorted") (λxs H Q=>∃a ns,xs=[.ref a]/\H a=some (qv X a (ST.i8 [] ns))/\ns.length<60/\∀p,H p=none->Q (.ref p) (upd H p (.lst ((l9 ns).map V.int)))):=by
 intro pins s Z H xs us Q I r h;obtain⟨a,ns,rfl,ha,hl,q⟩:=h;cases r with
 |cons r rr =>
 cases rr;cases r;have hS:ST.s9 X.prog X.w s.heap a (ST.i8 [] ns):=(I.bC a _ ha).1;have hn:=ST.K9 ns [];simp only[List.length_nil] at hn;refine ST.Yq (I.ok.hd hc) hS (by omega) λS vs yF e h' d' lI h1 h2 h3 h4 h5 h6 _=>?_;have e1:yF=l9 ns:=Ge (h2.trans (O5 ns).symm) h3 (Yp ns);subst e1;have hz:=N6 ns;exact⟨.ref S,_,(I.laid (a:=S) (o:=.lst ((l9 ns).map V.int)) (t':=lI) h6 h5 ⟨by rw[ah];exact aC hz (aC (dz hl) (by decide)),vs,e,Yw h1,h4⟩).draw d',rfl,q S (I.bC.fresh h5)⟩
end
end L2

namespace ST
open PySem PyProof.Rows
theorem Ze{prog:Program}{w:World}{A:Around}{E:Value->Shared->Prop}{s:Shared}{a:Addr}{ks:List Int}{k:Int}{tk:Tok}{Q:Value->Shared->Prop}(hS:s9 prog w s.heap a ks)(hr:ks.length+1<scanBound)(h:∀h',Heap.SameBut a s.heap h'->s9 prog w h' a (C0 ks k)->Q .none { s with heap:=h',toks:=s.toks+1 }):wpAny (model prog w) A (call (.builtin "set.add") [.ref a,.int k tk]) Q E s:=by
 have hT:s.TypeIs (.ref a) "set":=let ⟨o,_,_,_,e,x,_⟩:=hS;⟨o,e,x.1⟩
 refine cu F.slot_set_add hT F.entry_set_add ?_ (F.args_set_add_2 _ _);have go:∀(Q':Fin->Shared->Prop),(∀h',Heap.SameBut a s.heap h'->s9 prog w h' a (C0 ks k)->wpAny (model prog w) A.in1 (ret .none) Q' E { s with heap:=h',toks:=s.toks+1 })->wpAny (model prog w) A.in1 (do let _ <- setAdd a (.int k tk);ret .none) Q' E s:=λQ' q=>by
  unfold setAdd;refine ae (bY (ae ((intKind prog w).pyHash (k:=k) (fC _ _ _ _) ?_)));exact IB (s:={ s with toks:=s.toks+1 }) hS hr λh' b sb S2=>q h' sb S2
 unfold Builtin.«set.add» Builtin.Frozenset.oneOther;simp only[List.isEmpty_nil,bind_assoc];unfold Builtin.Frozenset.addrOf;refine ae (ai ?_)
 try dsimp only
 refine ae (ai ?_)
 try dsimp only
 exact go _ λh' sb S2=>ai ⟨_,rfl,h h' sb S2⟩
end ST
namespace L2
open PySem PySem.Spec PyProof.Rows
section
variable{prog:Program}{w:World}{A:Around}{R:Result->Shared->Prop}{s:Shared}
theorem Yt(elt target iter:Expr)(ifs:List Expr)(scope:Scope)(pos:Pos)(it acc:Value)(env:Env):compTurn (.SetComp elt [⟨target,iter,ifs,0⟩] scope pos) 0 it acc env=(do
      standAt iter.pos
      match <- pyNext it with
      |none=>pure (.done .next)
      |some v =>
        letOwnedTupleGo target it v
        assign target env v
        let mut ok:=true
        for c in ifs do if ok then ok <- isTrue c env (eval c env)
        if ok then(do let x <- eval elt env;standAt elt.pos;let _ <- call (.builtin "set.add") [acc,x])
        again (.compLoop (.SetComp elt [⟨target,iter,ifs,0⟩] scope pos) 0 it acc env)):=by rfl
theorem VM{elt target iter:Expr}{ifs:List Expr}{scope:Scope}{pos:Pos}{it acc:Value}{env:Env}(I:Nat->Shared->Prop)(turn:∀ n s,I n s->wpAny (model prog w) A (pyNext it) (λr bK=>match r with
   |none=>R (.ok .next) bK
   | some v=>wpAny (model prog w) A (letOwnedTupleGo target it v) (λ_ bK=>wpAny (model prog w) A (assign target env v) (λ_ fm =>
     wpAny (model prog w) A (forIn ifs true λc r=>if r=true then do let ok <- isTrue c env (eval c env);pure (ForInStep.yield ok) else pure (ForInStep.yield r)) (λok ei =>
      if ok=true then wpAny (model prog w) A (eval elt env) (λx jd =>
       wpAny (model prog w) A (call (.builtin "set.add") [acc,x]) (λ_ lJ=>∃ m,m < n/\I m lJ) (λ_ _=>False) jd) (λ_ _=>False) ei
      else ∃ m,m < n/\I m ei) (λ_ _=>False) fm) (λ_ _=>False) bK) (λ_ _=>False) bK) (λ_ _=>False) s)(n:Nat)(h:I n s) :
  codeAny (model prog w) A (.compLoop (.SetComp elt [⟨target,iter,ifs,0⟩] scope pos) 0 it acc env) R s:=by
 refine codeAny_loop rfl I (λn s hI=>?_) n h;show wpAny _ A ((compTurn (.SetComp elt [⟨target,iter,ifs,0⟩] scope pos) 0 it acc env).onRaise (λx=>do noteFrame x env;theTreesLotGoes x)) _ _ s;refine wpAny_noted ?_;rw[Yt];refine ae (du (ae (bp (turn n s hI) (λr bK de=>?_) λ_ _ h'=>h'.elim)));cases r with
 |none=>exact ai de
 |some v =>
  refine ae (bp de (λ_ bK de=>?_) λ_ _ h'=>h'.elim);refine ae (bp de (λ_ fm iz=>ae (bp iz (λok ei lV=>?_) λ_ _ h'=>h'.elim)) λ_ _ h'=>h'.elim);cases ok with
  |false=>exact wpAny_pure ⟨rfl,lV⟩
  |true =>
   exact ae (ae (bp lV (λx jd pO=>ae (du (ae (bp pO (λ_ lJ pN=>ai (ai ⟨rfl,pN⟩)) λ_ _ h'=>h'.elim)))) λ_ _ h'=>h'.elim))
theorem Yl{elt target iter:Expr}{ifs:List Expr}{scope:Scope}{pos:Pos}{it acc:Value}{env:Env}(h0:codeAny (model prog w) A (.compLoop (.SetComp elt [⟨target,iter,ifs,0⟩] scope pos) 0 it acc env) R s)(h:wpAny (model prog w) A (pyIter it) (λDB s'=>codeAny (model prog w) A (.compLoop (.SetComp elt [⟨target,iter,ifs,0⟩] scope pos) 0 DB acc env) R s') (notedBy (model prog w) A env λx s'=>R (.error x) s') s) :
  codeAny (model prog w) A (.compStart (.SetComp elt [⟨target,iter,ifs,0⟩] scope pos) 0 it acc env) R s:=by
 refine si (?_:wpAny _ _ ((compStart (.SetComp elt [⟨target,iter,ifs,0⟩] scope pos) 0 it acc env).onRaise (λx=>do noteFrame x env;standAt theWindowsPlace)) _ _ s);refine wpAny_notedAt ?_;unfold compStart;refine ae (oX (wpAny_ite ?_));split
 ·first
   |exact ai ⟨rfl,h0⟩
   |exact ae (ai (ai ⟨rfl,h0⟩))
 ·refine ae (fB ?_);exact ae (du (ae (bp h (λDB s' h'=>ai ⟨rfl,h'⟩) λ_ _ x=>x)))
end
def Cb(o:Obj):Prop:=∀v,o.data≠.cell v
def Qt(X:Cx)(wi:TI)(d4:List Nat)(n:Nat)(g:TG)(tc:TT)(te:TE):TE:=λZ H Q=>wi Z H λJ H1=>∃W:Nat->Nat->List Int->St->Hp->Prop,(∃m,W 0 m [] (B3 Z d4 n) H1)/\∀i m ys Z H,W i m ys Z H ->
 (J.stop i H/\∀p,H p=none->Q (.ref p) (upd H p (qv X p (ST.i8 [] ys)))) \/
 (J.go i H/\ys.length < 60/\∀ x H',J.pj i H x H'->g x Z H' λbW H2=>tc bW H2 λb H3 =>
  if b=true then te bW H3 λy H4=>∃ k,y=.int k/\∃ m',m' < m/\W (i + 1) m' (ys ++ [k]) bW H4 else ∃ m',m' < m/\W (i + 1) m' ys bW H3)
section
variable{X:Cx}{pins:List (Addr×Obj)}{Z:St}{H:Hp}{s:Shared}
theorem Inv.Qw{D:Addr}{φ:Heap->Prop}(I:Inv X pins Z H s)(f:B4 X pins H D)(hs:X.cL.heap.objs.size<=D)(ho:k8 X.prog X.w (upd H D (.ext φ)) s.heap D (.ext φ)):Inv X pins Z (upd H D (.ext φ)) s:=by
 obtain⟨f0,f1,f2,f3,f4,f5⟩:=f;have dw:∀b o,X.cL.heap.get? b=some o->b≠D:=λb o e z=>absurd (ay e) (by rw[z];exact jv.mpr hs);have tup:∀b u,H b=some u->upd H D (.ext φ) b=some u:=λb u e=>by rw[f9 (j8 e f0)];exact e
 refine⟨I.ok,I.os,I.bare,⟨?_,?_,?_,I.base.there,?_,?_,?_⟩,I.loc,I.cell,?_,?_,?_,?_,I.len⟩
 ·exact λb o e n1 n2 n3=>I.base.keep b o e n1 n2 n3
 ·exact λb o e n1 n2 n3=>I.base.slot b o e n1 n2 n3
 ·exact λb o e n1 n2=>by rw[f9 (dw b o e)];exact I.base.free b o e n1 n2
 ·exact λb xs e=>tup _ _ (I.base.gC b xs e)
 ·exact λb o u e=>tup _ _ (I.base.gn b o u e)
 ·exact λb ps e=>by
   obtain⟨more,q⟩:=I.base.gD b ps e;exact⟨more,tup _ _ q⟩
 ·rw[f9 f1.symm];exact I.free
 ·exact λx c e=>by rw[f9 (f4 x c e)];exact I.dG x c e
 ·intro p hp;obtain⟨p1,p2,p3⟩:=I.pin p hp;exact⟨p1,by rw[f9 (f5 p hp)];exact p2,p3⟩
 ·intro a o e;by_cases ha:a=D
  ·subst ha;rw[n8] at e;cases e;exact ho
  ·rw[f9 ha] at e;have q:=I.bC a o e;refine q.Q2 (λb u _ h=>h) (λb hb=>tup _ _ hb) (λb xs hb=>tup _ _ hb)
theorem YQ{elt tg iter:Expr}{ifs:List Expr}{scope:Scope}{N':List Str}{d4:List Nat}{cl:List (Str×Addr)}{pos:Pos}{it:Addr}{fp:List Addr}{tn:Nat->Heap->Prop}{J:It}{g:TG}{tc:TT}{te:TE}{RR:Value->Addr->Result->Shared->Prop}{E:Value->Shared->Prop}{W:Nat->Nat->List Int->St->Hp->Prop}{m0:Nat}{Q:VK}(S:cT X scope N' d4 cl)(hc:X.calm=true)(hg:∀C s H,PG (d6 X pins scope N' cl C s H fp) tg g)(ht:∀C s H,kB (d6 X pins scope N' cl C s H fp) ifs tc)(he:∀C s H,PE (d6 X pins scope N' cl C s H fp) elt te)(I:Inv X pins Z H s)(T:Turn X.prog X.w X.K tg J fp it tn)(st:tn 0 s.heap)(hf:∀b∈fp,B4 X pins H b)(w0:W 0 m0 [] (B3 Z d4 N'.length) H)(turn:∀ i m ys Z H,W i m ys Z H->(J.stop i H/\∀ p,H p=none->Q (.ref p) (upd H p (qv X p (ST.i8 [] ys)))) \/
   (J.go i H/\ys.length < 60/\∀ x H',J.pj i H x H'->g x Z H' λbW H2=>tc bW H2 λb H3 =>
    if b=true then te bW H3 λy H4=>∃ k,y=.int k/\∃ m',m' < m/\W (i + 1) m' (ys ++ [k]) bW H4 else ∃ m',m' < m/\W (i + 1) m' ys bW H3))(zD:∀D C s' H' m,Inv X pins Z H' s'->Q (.ref D) H'->s'.heap.Ns C m->H' C=none->s.heap.objs.size<=C->RR (.ref D) C (.ok .next) s') :
  wpAny (model X.prog X.w) X.A (newSet (.type "set")) (λacc ei=>wpAny (model X.prog X.w) X.A (newFunctionEnv scope X.env.globals cl [] X.env.qual none .none (some X.env)) (λkS jd =>
   codeAny (model X.prog X.w) X.A (.compStart (.SetComp elt [⟨tg,iter,ifs,0⟩] scope pos) 0 (.ref it) acc { kS with scope:=relabel scope X.env }) (RR acc kS.locals) jd) E ei) E s:=by
 refine ST.HS (Hb λde fT fc mr=>?_);dsimp only at fT fc mr ⊢;generalize qb:s.heap.push (ST.v8 X.w)=H2 at fT fc mr ⊢;generalize eD:s.heap.objs.size=D at *;have hC:H2.objs.size=D+1:=by rw[<- qb,dM,eD]
 generalize eC:H2.objs.size=C at *;have uq:D≠C:=by omega
 have lt:∀b o,s.heap.get? b=some o->b<D:=λb o e=>by rw[<- eD];exact ay e
 have pM:D<=C:=by omega
 have oh:∀b o,s.heap.get? b=some o->b≠C:=λb o e=>aK (ax (lt b o e) pM);have lP:∀b o,s.heap.get? b=some o->b≠D:=λb o e=>aK (lt b o e);have old:∀b o,s.heap.get? b=some o->de.get? b=some o:=λb o e=>fc b o (qb▸aj _ e);have kh:de.get? D=some (ST.v8 X.w):=fc _ _ (by rw[<- qb,<- eD];exact aA _ rfl);have iA:∀b∈fp,∃o,s.heap.get? b=some o:=λb hb=>by
  obtain⟨o,e,_⟩:=T.obj _ _ st b hb;exact⟨o,e⟩
 have uo:D∉fp:=λhm=>by
  obtain⟨o,e⟩:=iA D hm;exact lP D o e rfl
 have X1:Inv (d6 X pins scope N' cl C s H fp) [] (B3 Z d4 N'.length) H { s with heap:=de } :=
  I.Gq S hc hf iA (by rw[eD];omega) ⟨_,fT⟩ old mr
 have sJ:tn 0 de:=T.keep _ _ _ st λb _ o e=>old b o e;have zW:∀{H':Hp},(∀b∈fp,H' b=none)->∀b∈fp,B4 (d6 X pins scope N' cl C s H fp) [] H' b:=λhn b hb=>by
  obtain⟨f0,f1,f2,f3,f4,f5⟩:=hf b hb;obtain⟨o,e⟩:=iA b hb;refine⟨hn b hb,?_,?_,.inl hb,λx c q=>(xR mr q).elim (λl z=>absurd (cy (z▸l) (ax (lt b o e) pM)) (bj _)) λq=>f4 x c (S.cin x c q),λp hp=>?_⟩
  ·exact oh b o e
  ·exact λz=>by
    rcases aG.mp (I.K0 b z) with z|z
    ·exact f1 z
    ·exact f2 z
  ·have ji:p∈X.pn++pins:=by simpa[d6] using hp
   exact f5 p ji
 have fD:∀{H':Hp},H' D=none->B4 (d6 X pins scope N' cl C s H fp) [] H' D:=λhn=>by
  refine⟨hn,uq,λz=>?_,.inr (by show s.heap.objs.size<=D;omega),λx c q=>?_,λp hp=>?_⟩
  ·exact absurd (I.uT (a:=D) (by omega)) λlz=>by
    rcases aG.mp (I.K0 D z) with z|z
    ·exact absurd I.lt (by rw[<- z,eD];exact bj _)
    ·exact lz z
  ·rcases xR mr q with l|q
   ·exact λz=>absurd (ax (z▸l) pM) (bj _)
   ·obtain⟨v,o,e,_⟩:=I.cell x c (S.cin x c q);exact lP c o e
  ·have ji:p∈X.pn++pins:=by simpa[d6] using hp
   exact lP _ _ (I.pin p ji).1
 have pI:∀{H':Hp} {s':Shared} {bI:St} {oD:Obj},Cb oD->Inv (d6 X pins scope N' cl C s H fp) [] bI H' s'->H' D=none->s'.heap.get? D=some oD ->
   Inv (d6 X pins scope N' cl C s H fp) [(D,oD)] bI H' s':=λ{H' s' bI oD} jr J0 hn e=>J0.J5 λp hp=>by
  have z:p=(D,oD):=by simpa using hp
  subst z;obtain⟨f0,f1,f2,_⟩:=fD hn;exact⟨e,f0,f1,f2,jr⟩
 have qi:∀{H':Hp} {oD:Obj},(∀b∈fp,H' b=none)->∀b∈fp,B4 (d6 X pins scope N' cl C s H fp) [(D,oD)] H' b:=λ{H' oD} hn b hb=>by
  obtain⟨f0,f1,f2,f3,f4,f5⟩:=zW hn b hb;refine⟨f0,f1,f2,f3,f4,λp hp=>?_⟩;have ji:p∈(d6 X pins scope N' cl C s H fp).pn\/p=(D,oD):=by simpa using hp
  rcases ji with z|z
  ·exact f5 p (dt _ z)
  ·subst z;exact λz=>uo (by rw[show D=b from z];exact hb)
 have loop:∀ei:Shared,ei={ s with heap:=de } ->
   codeAny (model X.prog X.w) X.A (.compLoop (.SetComp elt [⟨tg,iter,ifs,0⟩] scope pos) 0 (.ref it) (.ref D) (compEnvC scope (J1 scope cl C) C X.env)) (RR (.ref D) C) ei:=by
  rintro ei rfl;refine VM (λn s'=>∃ (i:Nat) (ys:List Int) (bI:St) (H':Hp) (oD:Obj),Inv (d6 X pins scope N' cl C s H fp) [] bI H' s'/\tn i s'.heap/\(∀ b ∈ fp,H' b=none)/\H' D=none/\ys.length <= 60/\Cb oD /\
   s'.heap.get? D=some oD/\ST.s9 X.prog X.w s'.heap D (ST.i8 [] ys)/\W i n ys bI H') ?_ m0 ⟨0,[],_,H,ST.v8 X.w,X1,sJ,λb hb=>(hf b hb).1,I.bC.fresh (by omega),cz _,(λv (z:Data.set _ _ _=_)=>by cases z),kh,ST.FO kh,w0⟩
  rintro n s3 ⟨i,ys,gR,H3,oD,I3,nX,oK,d3,z3,c3,o3,S3,w3⟩;have vH:=pI c3 I3 d3 o3;rcases turn i n ys gR H3 w3 with⟨stop,q⟩|⟨go,hz,step⟩
  ·refine bX (T.done (d6 X pins scope N' cl C s H fp) rfl rfl rfl rfl i _ s3 _ H3 _ vH (qi oK) nX stop) λr s4 ⟨hr,I4⟩=>?_;subst hr;have o4:=(I4.pin (D,oD) (by simp)).1;have J4:Inv X pins Z H3 s4:=I.Iu hf I4;have zX:B4 X pins H3 D:=by
    refine⟨d3,bB (by rw[<- eD];exact I.lt),I.uT (by omega),.inr (by have:=I.sz;omega),λx c q=>?_,λp hp=>?_⟩
    ·obtain⟨v,o,e,_⟩:=I.cell x c q;exact lP c o e
    ·exact lP _ _ (I.pin p hp).1
   obtain⟨mC,ze,_⟩:=I4.loc;exact zD D C s4 (upd H3 D (qv X D (ST.i8 [] ys))) mC (J4.Qw zX (by have:=I.sz;omega) (Ih (S3.at λo e=>by rw[o3] at e;cases e;exact o4))) (q D d3) ze (by rw[f9 uq.symm];exact I4.free) (by omega)
  ·refine bX (T.item (d6 X pins scope N' cl C s H fp) rfl rfl rfl rfl i _ s3 _ H3 _ vH (qi oK) nX go) λr s4 ⟨u,hr,h4⟩=>?_;subst hr;refine bX h4 λ_ s5 aZ=>?_;obtain⟨x,H5,I5,r5,y5,lK,uC⟩:=aZ;have o5:=I5.pin (D,oD) (by simp);have vG:=I5.pinned (qi uC) (T.obj _ _ lK);refine bX (hg C s H _ s5 _ H5 x u _ vG r5 (step x H5 y5)) λ_ s6 aZ=>?_;obtain⟨kG,H6,I6,q6⟩:=aZ;refine bX (ht C s H _ s6 kG H6 _ I6 q6) λok s7 ⟨H7,I7,q7⟩=>?_;have back:∀{sE:St} {H8:Hp} {s8:Shared},Inv (d6 X pins scope N' cl C s H fp) ([(D,oD)]++V5 fp s5.heap) sE H8 s8->(∀b∈fp,H8 b=none)/\tn (i+1) s8.heap/\H8 D=none/\s8.heap.get? D=some oD :=
    λ{sE H8 s8} I8=>by
     have pf:∀b∈fp,∀o,s5.heap.get? b=some o->s8.heap.get? b=some o/\H8 b=none:=λb hb o e=>by
      have:=I8.pin (b,o) (bo _ (bo _ (O7 hb e)));exact⟨this.1,this.2.1⟩
     have pd:=I8.pin (D,oD) (by simp);refine⟨λb hb=>?_,T.keep _ _ _ lK λb hb o e=>(pf b hb o e).1,pd.2.1,pd.1⟩;obtain⟨o,e,_⟩:=T.obj _ _ lK b hb;exact(pf b hb o e).2
   cases ok with
   |false =>
    obtain⟨m',hm,w7⟩:=q7;obtain⟨b1,b2,b3,b4⟩:=back I7;exact⟨m',hm,i+1,ys,kG,H7,oD,I7.J5 λp hp=>absurd hp (by simp),b2,b1,b3,z3,c3,b4,S3.at λo e=>by rw[o3] at e;cases e;exact b4,w7⟩
   |true =>
    refine bX (he C s H _ s7 kG H7 _ I7 q7) λxv s8 aZ=>?_;obtain⟨y,H8,I8,r8,kk,ey,m',hm,w8⟩:=aZ;subst ey;obtain⟨tk,rfl⟩:=r8;obtain⟨b1,b2,b3,b4⟩:=back I8;have S8:ST.s9 X.prog X.w s8.heap D (ST.i8 [] ys):=S3.at λo e=>by rw[o3] at e;cases e;exact b4
    have yK:=ST.K9 ys [];simp only[List.length_nil] at yK;refine ST.Ze S8 (ax (by omega:_<62) (by decide)) λh' sb S9=>?_;have e9:ST.C0 (ST.i8 [] ys) kk=ST.i8 [] (ys++[kk]):=by unfold ST.i8;rw[List.foldl_append];rfl
    rw[e9] at S9;obtain⟨o9,es9,ep9,t9,g9,x9,d9,r9⟩:=id S9;have c9:Cb o9:=λv z=>by rw[d9] at z;cases z
    have CH:Inv (d6 X pins scope N' cl C s H fp) [] kG H8 s8:=I8.J5 λp hp=>absurd hp (by simp);obtain⟨f0,f1,f2,f3,f4,f5⟩:=fD (H':=H8) b3;have kp:∀b o,b≠D->s8.heap.get? b=some o->h'.get? b=some o:=λb' u hb hu=>by rw[sb.2 b' hb];exact hu
    refine⟨m',hm,i+1,ys++[kk],kG,H8,o9,CH.turned (it:=D) (t':=s8.toks+1) kp f0 f1 f3 f4 f5,T.keep _ _ _ b2 λb hb o e=>kp b o (λz=>uo (by rw[<- z];exact hb)) e,b1,b3,?_,c9,g9,S9,w8⟩;rw[aY,ie];omega
 exact Yl (loop _ rfl) (T.self _ 0 _ _ _ sJ (loop _ rfl))
theorem ZL{elt tg iter:Expr}{ifs:List Expr}{scope:Scope}{N':List Str}{d4:List Nat}{cl:List (Str×Addr)}{pos:Pos}{wi:TI}{g:TG}{tc:TT}{te:TE}(S:cT X scope N' d4 cl)(hc:X.calm=true)(hi:PI X tg iter wi)(hg:∀pins C s H fp,PG (d6 X pins scope N' cl C s H fp) tg g)(ht:∀pins C s H fp,kB (d6 X pins scope N' cl C s H fp) ifs tc)(he:∀pins C s H fp,PE (d6 X pins scope N' cl C s H fp) elt te)(hs:∀x,foldedSetIterable iter X.env x=pure x):PE X (.SetComp elt [⟨tg,iter,ifs,0⟩] scope pos) (Qt X wi d4 N'.length g tc te):=by
 intro pins s Z H Q I h;rw[arm_eval_SetComp];refine hX (use:=none) rfl hs S.qm S.kind S.names (bX (hi pins s Z H _ I h) λxv bK de=>bX de λtP fm iz=>?_);obtain⟨it,fp,tn,J,H2,e,I2,T,ka,f2,W,⟨m0,w0⟩,turn⟩:=iz;subst e;refine YQ (RR:=λacc C=>compPost (model X.prog X.w) X.A X.xe none (EP X pins Z Q) acc C) S hc (λC s H=>hg pins C s H fp) (λC s H=>ht pins C s H fp) (λC s H=>he pins C s H fp) I2 T ka f2 w0 turn ?_;intro D C s' H' m I' q hn hC hsz;exact⟨m,hn,λh' sb=>⟨.ref D,H',I'.BG hsz I2 hC sb,rfl,q⟩⟩
end
end L2

namespace HT
open PySem PyProof.Rows Builtin
theorem VY:fillsNumberSlot (.type "tuple") "mul"=pure false :=
 PySem.fillsNumberSlot_seq (id:="tuple.__mul__") (r:=some (.builtin "tuple.__rmul__")) oZ.lookup (by decide +kernel) F.slot_tuple_rmul.lookup (by decide +kernel)
theorem VA:seqRepeat? (.type "tuple")=pure (some (.builtin "tuple.__mul__")):=by
 unfold seqRepeat?;rw[PySem.seqSlot_of (T:="tuple") (name:="__mul__") (id:="tuple.__mul__") oZ.lookup (by decide +kernel),PySem.seqSlot_of (T:="tuple") (name:="__rmul__") (id:="tuple.__rmul__") F.slot_tuple_rmul.lookup (by decide +kernel)]
 rfl
theorem VS(a:Int)(t:Tok)(l:Addr)(items:Array Value)(n:Nat)(dd:Option Addr)(sl:Array (Option Value)) :
  Meets (Builtin.«int.__rmul__» ⟨[.int a t,.ref l],[]⟩) (λ_ R s=>s.heap.get? l=some { cls:=.type "tuple",dict:=dd,data:=.seq items n,slots:=sl }/\R (.ok (.ret Value.notImplemented)) s) :=
 .of_wp λprog w A R s h=>by obtain⟨hp,g,d,tk,os⟩:=s;obtain⟨hl,h⟩:=h;wp_walk;exact⟨_,rfl,h⟩
theorem VU(t:Value)(c:Value):Builtin.«tuple.__mul__» ⟨[t,c],[]⟩=(do
 let n <- asIndex c
 if n < -(2 ^ 63)||n>=2 ^ 63 then
  rule "tuple.repeat.overflow";raiseError "OverflowError" s!"cannot fit '{<- typeNameOf c}' into an index-sized integer"
 let xs <- Builtin.Tuple.tupleItemsOf t
 if xs.isEmpty||n==1 then
  if <- Builtin.Tuple.tupleIsExact t then rule "tuple.repeat.same-object";return <- ret t
 if n<=0||xs.isEmpty then return <- ret (<- Builtin.Tuple.tupleExact #[])
 if xs.size*n>(2 ^ 63-1) / 8 then rule "tuple.repeat.no-memory";raiseNew (<- newExc (.type "MemoryError") [])
 if Builtin.Tuple.tupleTooMany (xs.size*n) then unsupported "tuple.__mul__:memory"
 ret (<- Builtin.Tuple.tupleExact ((List.replicate n.toNat xs).foldl (· ++ ·) #[]))):=rfl
section
variable{prog:Program}{w:World}{A:Around}{E:Value->Shared->Prop}{s:Shared}
theorem XS(aQ:List Value):∀(m:Nat) (acc:Array Value),List.foldl (λx1 x2=>x1++x2) acc (List.replicate m aQ.toArray)=acc++(List.replicate m aQ).flatten.toArray:=by
 intro m
 induction m with
 |zero=>intro acc;simp
 |succ m ih=>intro acc;rw[bO,List.foldl_cons,ih,bO,cG];simp
theorem XD{a:Addr}{aQ:List Value}{n:Int}{t:Tok}{Q:Value->Shared->Prop}(ht:IsTup s.heap a aQ.toArray)(dw:aQ≠[])(h1:1<=n)(h2:n<2 ^ 62)(hz:aQ.length*n.toNat<=sizeLine)(q1:n=1->Q (.ref a) s)(q2:Q (.ref s.heap.objs.size) { s with heap:=s.heap.push { cls:=.type "tuple",data:=.seq (List.replicate n.toNat aQ).flatten.toArray } }):wpAny (model prog w) A (binaryOp .Mult (.ref a) (.int n t)) Q E s:=by
 obtain⟨o,ho,hc,k,hd⟩:=id ht;obtain⟨cls,dict,data,slots⟩:=o;dsimp only at hc hd;subst hc hd;have he:aQ.toArray.isEmpty=false:=by cases aQ<;>first|exact absurd rfl dw|rfl
 refine CL (T:="tuple") (U:="int") (by decide) ht.typeIs (λs'=>lE s' n t) VY F.fills_int_mul jo VA F.slot_int_index.lookup
  (eK jo (lE s n t) F.entry_int_rmul (F.args_int_rmul_2 _ _) (VS n t a aQ.toArray k dict slots) ⟨ho,rfl,ht.typeIs,?_⟩)
 refine cu oZ ht.typeIs F.entry_tuple_mul ?_ (F.args_tuple_mul_2 _ _);rw[VU];refine ae (dI (show asIndex (.int n t)=pure n from rfl) ?_);dsimp only;rw[az (by simp only[Bool.or_eq_true,decide_eq_true_eq];omega)];refine ae (tupleItemsOf_ ht ?_);have big:¬((aQ.toArray.size:Int)*n>(2 ^ 63-1) / 8):=by
  rw[aB];have:((aQ.length*n.toNat:Nat):Int)=(aQ.length:Int)*n:=by rw[Int.natCast_mul];rw[show((n.toNat:Nat):Int)=n by omega]
  rw[<- this];have hs:sizeLine<2 ^ 59:=by decide
  omega
 have many:¬(Builtin.Tuple.tupleTooMany ((aQ.toArray.size:Int)*n)=true):=by
  unfold Builtin.Tuple.tupleTooMany;rw[aB,cW];have:((aQ.length*n.toNat:Nat):Int)=(aQ.length:Int)*n:=by rw[Int.natCast_mul];rw[show((n.toNat:Nat):Int)=n by omega]
  rw[<- this];omega
 have hsz:sizeOk (.seq (List.replicate n.toNat aQ).flatten.toArray):=by
  show(List.replicate n.toNat aQ).flatten.toArray.size<=sizeLine;simp only[List.size_toArray,List.length_flatten,List.map_replicate,List.sum_replicate_nat];rw[sk];exact hz
 by_cases e1:n=1
 ·subst e1;rw[aH (by rw[he];rfl)];unfold Builtin.Tuple.tupleIsExact;refine ae (ae (dX ht.typeIs (ai ?_)));rw[aH (by decide)]
  first
   |exact ae (fB (ae (ai ⟨_,rfl,ai (q1 rfl)⟩)))
   |exact ae (fB (ai ⟨_,rfl,(q1 rfl)⟩))
   |exact ae (fB (ai ⟨_,rfl,ai (q1 rfl)⟩))
 ·rw[az (by rw[he];simpa using e1)];rw[az (by rw[he];simp;omega),az big,az many];rw[show List.foldl (λx1 x2=>x1++x2) #[] (List.replicate n.toNat aQ.toArray)=(List.replicate n.toNat aQ).flatten.toArray by rw[XS];simp]
  first
   |exact ae (m:=Builtin.Tuple.tupleExact _) (bS (ai ⟨_,rfl,q2⟩) hsz)
   |exact ae (m:=Builtin.Tuple.tupleExact _) (bS (ai ⟨_,rfl,ai q2⟩) hsz)
end
end HT
namespace L2
open PySem PySem.Spec PyProof.Rows
section
variable{X:Cx}
def Nj(K:PySem.W.Frag):R2:=λx y H Q=>∃(a:Addr) (n:Int) (xs:List V),x=.ref a/\y=.int n/\gU K H a xs/\xs≠[]/\1<=n/\n<2 ^ 62/\xs.length*n.toNat<=sizeLine /\
 (n=1->Q (.ref a) H)/\(∀p,H p=none->Q (.ref p) (upd H p (.tup (List.replicate n.toNat xs).flatten)))
theorem Rp:eZ X (binaryOp .Mult) (Nj X.K):=by
 intro pins s Z H x y v u Q I rx ry h;obtain⟨a,n,xs,rfl,rfl,ha,dw,h1,h2,hz,q1,q2⟩:=h;cases rx;obtain⟨tk,rfl⟩:=ry;obtain⟨aQ,r,p,_⟩:=I.tuple ha;refine HT.XD p (λz=>dw (r.P5.mp z)) h1 h2 (by rw[<- r.length];exact hz) (λe=>⟨.ref a,H,I,rfl,q1 e⟩) ?_;refine⟨.ref s.heap.objs.size,_,I.laid (t':=s.toks) (o:=.tup (List.replicate n.toNat xs).flatten) (λb ob q=>aj _ q) (av _) ?_,rfl,q2 _ (I.bC.fresh (av _))⟩;exact⟨by rw[len_rep,sk];exact hz,_,r.rep _,F9.new _ _⟩
def Ra(sep:Str)(ys:List Str):Nat:=ys.foldl (λn y=>n+y.length+sep.length) 0
end
end L2

namespace HT
open PySem PyProof.Rows Builtin PySem.SeqAt
section
variable{prog:Program}{w:World}{A:Around}{E:Value->Shared->Prop}{s:Shared}
theorem Xc:typeLookup (.type "tuple") (dunderI "add")=pure none:=by
 show typeLookup (.type "tuple") "__iadd__"=pure none;rw[jn,fu];kernel_rfl
theorem Zp{t b:Addr}{vs ws:List Value}{Q:Value->Shared->Prop}(ht:IsTup s.heap t vs.toArray)(hb:IsTup s.heap b ws.toArray)(h0:vs=[]->Q (.ref b) s)(h1:ws=[]->Q (.ref t) s)(h2:Q (.ref s.heap.objs.size) { s with heap:=s.heap.push { cls:=.type "tuple",data:=.seq (vs++ws).toArray } })(hsz:vs.length+ws.length<=sizeLine):wpAny (model prog w) A (inplaceOp .Add (.ref t) (.ref b)) Q E s:=by
 obtain⟨⟨cls,dd,data,sl⟩,ho,hc,n,hd⟩:=id ht;obtain⟨⟨uP,oO,data2,km⟩,iB,mx,n2,hd2⟩:=id hb;simp only at hc hd mx hd2;subst hc hd mx hd2;have e:vs.toArray++ws.toArray=(vs++ws).toArray:=by simp
 refine wpAny_inplaceOp_concat (T:="tuple") ⟨_,ho,rfl⟩ ⟨_,iB,rfl⟩ Xc iM kU ?_;by_cases hv:vs=[]
 ·subst hv;exact eK pb ⟨_,ho,rfl⟩ ni (lG _ _) (tuple_addW0 t b #[] ws.toArray n n2 dd oO sl km rfl) ⟨ho,iB,h0 rfl⟩
 by_cases hw:ws=[]
 ·exact eK pb ⟨_,ho,rfl⟩ ni (lG _ _) (tuple_addW1 t b vs.toArray ws.toArray n n2 dd oO sl km (by simpa using hv) (by simp[hw])) ⟨ho,iB,h1 hw⟩
 ·refine eK pb ⟨_,ho,rfl⟩ ni (lG _ _) (tuple_addW2 t b vs.toArray ws.toArray n n2 dd oO sl km (by simpa using hv) (by simpa using hw) (by rw[aB,aB];exact hsz)) ⟨ho,iB,?_⟩;rw[e];exact h2
end
end HT
namespace L2
open PySem PySem.Spec PyProof.Rows
section
variable{X:Cx}
def Co(K:PySem.W.Frag)(H:Hp)(a:Addr)(xs:List V):Prop :=
 H a=some (.tup xs)\/∃(o:Obj) (aQ:Array Value) (n:Nat),K.lookup a=some o/\o.cls=.type "tuple"/\o.dict=none/\o.data=.seq aQ n/\aQ.size<=sizeLine/\Vals xs aQ.toList
theorem Co.sq{K:PySem.W.Frag}{H:Hp}{a:Addr}{xs:List V}(h:Co K H a xs):gU K H a xs:=by
 rcases h with h|⟨o,aQ,n,h1,h2,_,h3,h4,h5⟩
 ·exact .inl (.inl h)
 ·exact .inr ⟨o,aQ,n,h1,h2,h3,h4,h5⟩
def Ni(K:PySem.W.Frag):V->V->Hp->VK->Prop:=λx y H Q=>(∃i j,x=.int i/\y=.int j/\Q (.int (i+j)) H) \/
 ∃a b xs ys,x=.ref a/\y=.ref b/\gU K H a xs/\gU K H b ys/\xs.length+ys.length<=sizeLine/\(xs=[]->Q (.ref b) H)/\(ys=[]->Q (.ref a) H)/\(∀p,H p=none->Q (.ref p) (upd H p (.tup (xs++ys))))
theorem QU:ES X .Add (Ni X.K):=by
 rintro pins s Z H x y u v Q I rx ry h;rcases h with h|⟨a,b,xs,ys,rfl,rfl,ha,hb,hz,q0,q1,q2⟩
 ·exact Og pins s Z H x y u v Q I rx ry h
 ·cases rx;cases ry;obtain⟨aQ,r1,p1,_⟩:=I.tuple ha;obtain⟨lS,r2,p2,_⟩:=I.tuple hb;refine HT.Zp p1 p2 (λz=>⟨.ref b,H,I,rfl,q0 (r1.P5.mp z)⟩) (λz=>⟨.ref a,H,I,rfl,q1 (r2.P5.mp z)⟩) ?_ (by rw[<- r1.length,<- r2.length];exact hz);refine⟨.ref s.heap.objs.size,_,I.laid (t':=s.toks) (o:=.tup (xs++ys)) (λb ob q=>aj _ q) (av _) ?_,rfl,q2 _ (I.bC.fresh (av _))⟩;exact⟨by rw[aY];exact hz,_,r1.append r2,F9.new _ _⟩
end
end L2

namespace ST
open PySem PyProof.Rows
def Spot(k:Int):Prop:=0<=k/\k<8
structure Own(mask:Nat)(owner:Array (Option Nat))(pre:List Int):Prop where
 sz:owner.size=mask+1
 fwd:∀(i:Nat) (k:Int),pre[i]?=some k->owner[k.toNat]?=some (some i)
 bwd:∀(j i:Nat),owner[j]?=some (some i)->pre[i]?=some (j:Int)
end ST

namespace ST
open PySem PyProof.Rows
section
variable{prog:Program}{w:World}{A:Around}{E:Value->Shared->Prop}{s:Shared}{a:Addr}
def SA(prog:Program)(w:World)(h:Heap)(a:Addr)(ks:List Int):Prop :=
 ∃o es ep t,h.get? a=some o/\o.ExactSet/\o.data=.set es ep t/\ElemsOf (intKind prog w) es.toList/\(es.toList.map λe=>toI e.2).Perm ks/\ks.Nodup/\es.size<scanBound/\t.fits es.size=true/\Well (Led w) t/\(ks=[]->7<=t.mask)
theorem s9.toV{h:Heap}{ks:List Int}(x:s9 prog w h a ks)(hn:ks≠[]):SA prog w h a ks:=by
 obtain⟨o,es,ep,t,h1,h2,h3,h4,h5,h6,h7,h8,h9⟩:=x;exact⟨o,es,ep,t,h1,h2,h3,h4,h5,h6,h7,h8,h9,λz=>absurd z hn⟩
theorem s9.same{h:Heap}{ks us:List Int}(x:s9 prog w h a ks)(hp:ks.Perm us):s9 prog w h a us:=by
 obtain⟨o,es,ep,t,h1,h2,h3,h4,h5,h6,h7⟩:=x;exact⟨o,es,ep,t,h1,h2,h3,h4,h5.trans hp,hp.nodup_iff.mp h6,h7⟩
theorem above:∀n,n<300->7<SetTable.sizeAbove n/\n<SetTable.sizeAbove n/\SetTable.sizeAbove n<=sizeLine:=by decide +kernel
end
end ST
namespace L2
open PySem PySem.Spec PyProof.Rows
variable{X:Cx}
end L2

namespace ST
open PySem PyProof.Rows
section
variable{prog:Program}{w:World}{A:Around}{E:Value->Shared->Prop}{s:Shared}{a:Addr}{ep:Nat}{K:Type}[DecidableEq K]{knd:PySem.KeyKind prog w K}{kvs:List (K×Value)}
end
end ST
namespace L2
open PySem PySem.Spec PyProof.Rows
section
variable{X:Cx}
end
end L2

namespace L2
open PySem PySem.Spec PyProof.Rows
section
variable{X:Cx}
theorem U8{aQ:List Value}{ns:List Int}(hi:IntsAre aQ ns):∃xs,aQ.toArray=intItems xs/\ns=xs.toList.map (·.1):=by
 obtain⟨xs,e⟩:=hi.allInts.items;exact⟨xs,e,by rw[<- hi.numsOf,<- nums_intItems,<- e]⟩
theorem WH(hc:X.calm=true):k9 X (.builtin "sum") (λxs H Q=>∃a,∃ns:List Int,xs=[.ref a]/\fh X.K H a (ns.map V.int)/\Q (.int ns.sum) H):=by
 intro pins s Z H xs us Q I r h;obtain⟨a,ns,rfl,ha,q⟩:=h;obtain⟨u,rfl,ru⟩:=vals1 r;cases ru;obtain⟨aQ,rv,p,hz⟩:=I.list ha;obtain⟨xs,e,en⟩:=U8 (K6 rv);refine sum_intListG (xs:=xs) (I.ok.hd hc) (by rw[<- e];exact p.isList) λh' tk t' k=>⟨.int ns.sum,H,I.kept k,⟨t',?_⟩,q⟩
 rw[preSum_eq,su (by simp),en]
theorem WD(hc:X.calm=true):k9 X (.builtin "max") (λxs H Q=>∃a,∃(ns:List Int) (M:Int),xs=[.ref a]/\fh X.K H a (ns.map V.int)/\M∈ns/\(∀x∈ns,x<=M)/\Q (.int M) H):=by
 intro pins s Z H xs us Q I r h;obtain⟨a,ns,M,rfl,ha,hm,hM,q⟩:=h;obtain⟨u,rfl,ru⟩:=vals1 r;cases ru;obtain⟨aQ,rv,p,hz⟩:=I.list ha;obtain⟨xs,e,en⟩:=U8 (K6 rv);have hsz:0<xs.size:=by
  have:=eG hm;rw[en,ah,br] at this;exact this
 refine max_intList (xs:=xs) (I.ok.hd hc) (by rw[<- e];exact p.isList) hsz λv h' tk hv k=>?_;obtain⟨t,rfl⟩:=intItems_at hv;obtain⟨h1,h2⟩:=argBest_gt (numAt xs) (xs.size-1);generalize argBest (λi j=>decide (numAt xs i>numAt xs j)) (xs.size-1)=j0 at *;have m1:numAt xs j0∈ns:=by rw[en,numAt_eq];exact getD_mem (by rw[ah,br];omega)
 have m2:M<=numAt xs j0:=by
  rw[en] at hm;obtain⟨j,hj,rfl⟩:=mem_getD hm;rw[ah,br] at hj;rw[<- numAt_eq];exact h2 j (by omega)
 have e2:numAt xs j0=M:=Int.le_antisymm (hM _ m1) m2;exact⟨.int M,H,I.kept k,⟨t,by rw[e2]⟩,q⟩
theorem WG(hc:X.calm=true):k9 X (.builtin "min") (λxs H Q=>∃a,∃(ns:List Int) (M:Int),xs=[.ref a]/\fh X.K H a (ns.map V.int)/\M∈ns/\(∀x∈ns,M<=x)/\Q (.int M) H):=by
 intro pins s Z H xs us Q I r h;obtain⟨a,ns,M,rfl,ha,hm,hM,q⟩:=h;obtain⟨u,rfl,ru⟩:=vals1 r;cases ru;obtain⟨aQ,rv,p,hz⟩:=I.list ha;obtain⟨xs,e,en⟩:=U8 (K6 rv);have hsz:0<xs.size:=by
  have:=eG hm;rw[en,ah,br] at this;exact this
 refine min_intList (xs:=xs) (I.ok.hd hc) (by rw[<- e];exact p.isList) hsz λv h' tk hv k=>?_;obtain⟨t,rfl⟩:=intItems_at hv;obtain⟨h1,h2⟩:=argBest_lt (numAt xs) (xs.size-1);generalize argBest (λi j=>decide (numAt xs i<numAt xs j)) (xs.size-1)=j0 at *;have m1:numAt xs j0∈ns:=by rw[en,numAt_eq];exact getD_mem (by rw[ah,br];omega)
 have m2:numAt xs j0<=M:=by
  rw[en] at hm;obtain⟨j,hj,rfl⟩:=mem_getD hm;rw[ah,br] at hj;rw[<- numAt_eq];exact h2 j (by omega)
 have e2:numAt xs j0=M:=Int.le_antisymm m2 (hM _ m1);exact⟨.int M,H,I.kept k,⟨t,by rw[e2]⟩,q⟩
theorem WA(hc:X.calm=true):k9 X (.builtin "all") (λxs H Q=>∃(a:Addr) (ns:List Int),xs=[.ref a]/\fh X.K H a (ns.map V.int)/\Q (.bl (ns.all λn=>n != 0)) H):=by
 intro pins s Z H xs us Q I r h;obtain⟨a,ns,rfl,ha,q⟩:=h;obtain⟨u,rfl,ru⟩:=vals1 r;cases ru;obtain⟨aQ,rv,p,hz⟩:=I.list ha;refine call_all_walk ?_;refine gX p.isList ?_;have dw:a≠s.heap.objs.size:=by
  obtain⟨o,e,_⟩:=id p.isList;exact aK (ay e)
 have hl:=rv.length;rw[ah] at hl;refine⟨s.heap.objs.size,_,_,_,_,_,λi=>ns.getD i 1 != 0,rfl,Walks.list (A:=X.A.in1) (I.ok.hd hc) _ a dw aQ.toArray,⟨⟨_,aA _ rfl,rfl,rfl⟩,?_⟩,?_,λh' tk k=>?_⟩
 ·obtain⟨o,e,q1⟩:=id p.isList;exact⟨o,aj _ e,q1⟩
 ·intro i v s' Q' E' hP hQ;have hv:aQ[i]?=some v:=by simpa using hP
  have hi:i<ns.length:=by rw[hl];exact(ak.mp hv).1
  obtain⟨u',tR,yA⟩:=rv.get (i:=i) (x:=V.int ns[i]) (by rw[ao,au hi];rfl);rw[hv] at tR;cases tR;obtain⟨t,rfl⟩:=yA;refine truthy_int ?_;have:ns.getD i 1=ns[i]:=by simp[List.getD,hi]
  dsimp only at hQ;rw[this] at hQ;exact hQ
 ·have e1:(List.range aQ.toArray.size).all (λi=>ns.getD i 1 != 0)=ns.all λn=>n != 0:=by
   rw[aB,<- hl];rw[bh];simp only[List.all_eq_true,List.mem_range];constructor
   ·intro hh x hx;obtain⟨i,hi,rfl⟩:=cq.mp hx;have:=hh i hi;simpa[List.getD,hi] using this
   ·intro hh i hi;have:=hh ns[i] (cQ hi);simpa[List.getD,hi] using this
  rw[e1];exact ⟨.bl _,H,I.kept (t':=tk) λb o e=>k b o (by
   intro hb;have:b=s.heap.objs.size:=by simpa using hb
   exact absurd (ay e) (by rw [this];exact bj _)) (aj _ e),rfl,q⟩
theorem VC:k9 X (.builtin "len") (λxs H Q=>∃a,∃ks:List Int,xs=[.ref a]/\H a=some (qv X a ks)/\Q (.int ks.length) H):=by
 intro pins s Z H xs us Q I r h;obtain⟨a,ks,rfl,ha,q⟩:=h;obtain⟨u,rfl,ru⟩:=vals1 r;cases ru;have hS:ST.s9 X.prog X.w s.heap a ks:=(I.bC a _ ha).1;obtain⟨o,es,ep,t,e,ex,ed,_,hp,nd,hz,hf,_⟩:=hS;have hl:es.size=ks.length:=by have:=hp.length_eq;simpa using this
 refine call_len_set e ex ed hf (by have:scanBound<2 ^ 62:=(by decide);omega) ⟨.int ks.length,H,I.tok _,⟨_,by rw[hl]⟩,q⟩
end
end L2

namespace L2
open PySem PySem.Spec PyProof.Rows
section
variable{X:Cx}
theorem RA{i:Int}{j:Nat}{p pos:Pos}(mq:PySem.W.kdsCode X.K X.env.code=true):PE X (.Set [.Constant (.int i) j p] 0 pos) (λZ H Q=>∀q,H q=none->Q (.ref q) (upd H q (.set (λk=>decide (k=i)) 1))):=by
 intro pins s Z H Q I h;rw[arm_eval_Set];refine ae (du ?_);refine ae (PySem.W.kds_main I.gf mq λb=>?_);rw[PySem.W.kds_star _ (by rfl),eF];refine PySem.W.kds_core (ts:=(evalEach [Expr.Constant (.int i) j p] X.env).map λt=>do let v <- t;standAt pos;pure v) (by rfl) (by rfl) (by show 1<=30;decide) (by rw[eF];rfl) λled=>?_;refine PySem.W.kds_all pos _ _ _ ?_;show wpAny _ _ (eval (.Constant (.int i) j p) X.env) _ _ _;refine wpAny_Constant_int ?_;refine PySem.W.kds_fill_cons ?_;have LP:(s.heap.push { cls:=.type "set",dict:=none,data:=.set #[] 0 (.fresh 0 0 led) }).SetOf (intKind X.prog X.w) s.heap.objs.size (λ_=>false) 0:=(setObjOf_fresh led).setOf (aA _ rfl) (by decide);unfold setAdd;refine bY (ae ((intKind X.prog X.w).pyHash (k:=i) (fC _ _ _ _) ?_));refine wpAny_setAddHashed_of (knd:=intKind X.prog X.w) (fC _ _ _ _) rfl LP (by decide) λh' yV my=>?_;refine PySem.W.kds_fill_nil (by rfl) ?_;have kp:∀b u,s.heap.get? b=some u->h'.get? b=some u:=λb u e=>(yV.2 b (aK (ay e))).trans (aj _ e);exact⟨.ref s.heap.objs.size,_,I.laid (a:=s.heap.objs.size) (o:=.set (λk=>decide (k=i)) 1) kp (av _) (by show Heap.SetOf _ _ _ _ _;simpa using my),rfl,h _ (I.bC.fresh (av _))⟩
theorem Xe:eZ X (compareOp .In) (λx y H Q=>∃i a S n,x=.int i/\y=.ref a/\H a=some (.set S n)/\Q (.bl (S i)) H):=by
 intro pins s Z H x y v u Q I rx ry h;obtain⟨i,a,S,n,rfl,rfl,ha,q⟩:=h;obtain⟨t,rfl⟩:=rx;cases ry;exact wpAny_inSet_of (knd:=intKind X.prog X.w) (k:=i) (fC _ _ _ _) rfl (I.bC a _ ha) ⟨.bl (S i),H,I.tok _,rfl,q⟩
theorem Vz:eZ X (compareOp .NotIn) (λx y H Q=>∃i a S n,x=.int i/\y=.ref a/\H a=some (.set S n)/\Q (.bl (!S i)) H):=by
 intro pins s Z H x y v u Q I rx ry h;obtain⟨i,a,S,n,rfl,rfl,ha,q⟩:=h;obtain⟨t,rfl⟩:=rx;cases ry;exact wpAny_notInSet_of (knd:=intKind X.prog X.w) (k:=i) (fC _ _ _ _) rfl (I.bC a _ ha) ⟨.bl (!S i),H,I.tok _,rfl,q⟩
theorem Yf:mK X "set.add" (λx xs H Q=>∃a i S n,x=.ref a/\xs=[.int i]/\H a=some (.set S n)/\n+1<4096/\Q .bx (upd H a (.set (λk=>S k||decide (k=i)) (if S i then n else n+1)))):=by
 intro pins s Z H x vs v us Q I rx rv h;obtain⟨a,i,S,n,rfl,rfl,ha,hn,q⟩:=h;cases rx;obtain⟨u,rfl,t,rfl⟩:=rv.one;refine call_set_add (knd:=intKind X.prog X.w) (k:=i) (fC _ _ _ _) rfl (I.bC a _ ha) (show n+1<scanBound from hn) λh' yV my=>?_;obtain⟨o,es,ep,tb,ho,_⟩:=id my;exact⟨.bx,_,I.write (x:=a) (e:=a) (o:=.set (λk=>S k||decide (k=i)) (if S i then n else n+1)) (by rw[ha];trivial) (.inl rfl) (λb u hb e=>(yV.2 b hb).trans e) ⟨o,ho⟩ my,rfl,q⟩
def CA(K:PySem.W.Frag)(a:Addr)(n:Nat):It :=
 ⟨λi H=>∃xs x,fh K H a xs/\xs.length=n/\i<n/\xs[n-1-i]?=some x,λi H x H'=>H'=H/\∀xs,fh K H a xs->xs[n-1-i]?=some x,λi H=>n<=i⟩
theorem Wo{P:Program}{w:World}{K:PySem.W.Frag}{tg:Expr}(a it:Addr)(n:Nat):Turn P w K tg (CA K a n) [it] it (λi h=>i<=n/\h.IsRevIter it a ((n:Int)-1-(i:Nat))) where
 mem:=by simp
 obj:=λi h st b hb=>by
  have e:b=it:=by simpa using hb
  subst e;obtain⟨o,e,c,d⟩:=st.2;exact⟨o,e,λv z=>by rw[d] at z;cases z⟩
 keep:=λi h h' st k=>⟨st.1,st.2.at λo e=>k it (by simp) o e⟩
 item:=by
  intro X hP hw hK hc i pins s Z H E I hf st hg;subst hP hw hK;obtain⟨xs,x,hq,hn,hi,hx⟩:=hg;obtain⟨aQ,rv,p,hz⟩:=I.list hq;obtain⟨u,hu,ru⟩:=rv.get hx;obtain⟨f0,f1,f2,f3,f4,f5⟩:=hf it (by simp);have ka:=st.2;rw[show(n:Int)-1-(i:Nat)=((n-1-i:Nat):Int) by omega] at ka;refine wpAny_pyNext_rev_item ka p.isList (x:=u) (by simpa using hu) λh' kL sb=>?_;have I1:Inv X pins Z H { s with heap:=h' }:=I.turned (t':=s.toks) (λb o hb e=>(sb.2 b hb).trans e) f0 f1 f3 f4 f5;obtain⟨o,e,c,d⟩:=id kL;refine⟨u,rfl,wZ (s:={ s with heap:=h' }) e c d (by decide) ⟨x,H,I1,ru,⟨rfl,λys hy=>by rw[I.Be hy hq];exact hx⟩,⟨by omega,?_⟩,λb hb=>(hf b hb).1⟩⟩;rw[show(n:Int)-1-((i+1:Nat):Int)=((n-1-i:Nat):Int)-1 by omega];exact kL
 done:=by
  intro X hP hw hK hc i pins s Z H E I hf st hg;subst hP hw hK;obtain⟨f0,f1,f2,f3,f4,f5⟩:=hf it (by simp);have ka:=st.2;have:n<=i:=hg;rw[show(n:Int)-1-(i:Nat)=-1 by have:=st.1;omega] at ka;exact wpAny_pyNext_rev_end (I.ok.hd hc) ka λh' eb=>⟨rfl,I.turned (t':=s.toks) (λb o hb e=>eb b o hb e) f0 f1 f3 f4 f5⟩
 self:=λ_ _ _ _ _ st h=>wpAny_pyIter_revIter st.2 h
theorem boot_reversed:bootBuiltins "reversed"=some (.type "reversed"):=by decide +kernel
theorem Pj{tg l:Expr}{ta:TA}{p pos:Pos}(hg:Gl X "reversed")(hm:X.mg "reversed"=none)(ha:PA X [l] ta)(hs:starEach [l] X.env=[(false,eval l X.env)]) :
  PI X tg (.Call (.Name "reversed" p) [l] [] pos) (λZ H R=>ta Z H λvs H1=>∃a xs,vs=[.ref a]/\fh X.K H1 a xs/\R (CA X.K a xs.length) H1):=by
 intro pins s Z H R I h;refine Call_ (K4 I hg hm boot_reversed (bz (bX (ha pos pins s Z H _ I h) λus s1 aZ=>?_) hs rfl));obtain⟨vs,H1,I1,r1,q1⟩:=aZ;obtain⟨a,xs,e,hq,q⟩:=q1;subst e;cases r1 with
 |cons r rr =>
  cases rr;cases r;obtain⟨aQ,rv,p,hz⟩:=I1.list hq;refine call_reversed_list p.isList ?_;have hl:=rv.length;have hit:(s1.heap.push (revObj a ((aQ.toArray.size:Int)-1))).IsRevIter s1.heap.objs.size a ((xs.length:Int)-1-((0:Nat):Int)):=⟨_,aA _ rfl,rfl,by simp[revObj,hl]⟩
  refine wpAny_pyIter_revIter hit ?_;refine⟨s1.heap.objs.size,[s1.heap.objs.size],_,_,H1,rfl,I1.kept (t':=s1.toks) λb o e=>aj _ e,Wo a _ xs.length,⟨cz _,hit⟩,λb hb=>?_,q⟩;have e:b=s1.heap.objs.size:=by simpa using hb
  subst e;exact I1.oS (av _) (I1.bC.fresh (av _))
end
end L2

namespace ST
open PySem PyProof.Rows
section
variable{prog:Program}{w:World}{A:Around}{E:Value->Shared->Prop}{s:Shared}{a:Addr}
end
end ST
namespace L2
open PySem PyProof.Rows
def Nr(ns:List Int):List Int:=ns.mergeSort (λa b=>decide (a<=b))
section
variable{X:Cx}
end
end L2

namespace M
open PySem L2
set_option genInjectivity true in
inductive D where
 |bx|bl (b:Bool)|int (i:Int)|str (x:Str)|ty (n:String)|ref (i:Nat)|tup (l:List D)
set_option genInjectivity true in
inductive O where
 |lst (l:List D)|nH (l:List D)
 |dy (kvs:List (Key×D))
 |ins (c:Str) (fs:List (Str×D))
 |set (S:Int->Bool) (n:Nat)
def O.mut:O->Bool
 |.nH _=>false
 |_=>true
def U7:D->Option Key
 |.int i=>some (.inl i)
 |.str x=>some (.inr x)
 |_=>none
def p6(kvs:List (Key×D))(k:Key):Option D:=(kvs.find? λkv=>decide (kv.1=k)).map (·.2)
def putD(kvs:List (Key×D))(k:Key)(v:D):List (Key×D) :=
 if(kvs.any λkv=>decide (kv.1=k))=true then kvs.map (λkv=>if kv.1=k then(kv.1,v) else kv) else kvs++[(k,v)]
def j6(f:Str)(v:D):List (Str×D)->List (Str×D)
 |[]=>[(f,v)]
 |(g,x)::r=>if g=f then(g,v)::r else(g,x)::j6 f v r
def M9:List D->Str->Option D
 |.tup [.str y,v]::r,x=>if x=y then some v else M9 r x
 |_::_,_=>none
 |[],_=>none
def T7:List D->Option Str
 |[]=>some Str.empty
 |.str x::r=>(T7 r).map λy=>x++y
 |_=>none
structure Xn where
 cls:Str
noncomputable abbrev G:=List O
noncomputable abbrev S:=List (Option D)
noncomputable abbrev KD:=D->G->Prop
noncomputable abbrev KX:=Xn->G->Prop
noncomputable abbrev iK:KX:=λ_ _=>False
def Ap:Option O->Option (List D)
 |some (.lst l)=>some l
 |some (.nH l)=>some l
 |_=>none
noncomputable abbrev d0(g:G)(a:Nat):Option (List D):=Ap g[a]?
def rd(g:G):Nat->D->Option PyData
 |_,.bx=>some .none
 |_,.bl b=>some (.bool b)
 |_,.int i=>some (.int i)
 |_,.str x=>some (.str x)
 |_,.ty _=>none
 |0,.ref _=>none
 |0,.tup _=>none
 |n+1,.ref a=>match d0 g a with
  |some l=>(l.mapM (rd g n)).map .list
  |none=>none
 |n+1,.tup l=>(l.mapM (rd g n)).map .tuple
def J'(g:G)(l:List D):Option (List PyData):=l.mapM (rd g 6)
def K5(g:G):D->Option (List D)
 |.tup l=>some l
 |.ref a=>d0 g a
 |_=>none
def N1:D->Bool
 |.bx=>true
 |_=>false
def cut{α:Type}(xs:List α)(lo hi:Option Int):List α:=(xs.drop (HT.da xs.length 0 lo)).take (HT.da xs.length xs.length hi-HT.da xs.length 0 lo)
def Ct(g:G)(x:D)(c:String):Option Bool:=match x with
 |.bx=>some (c=="NoneType")
 |.bl _=>some (c=="bool"||c=="int")
 |.int _=>some (c=="int")
 |.str _=>some (c=="str")
 |.tup _=>some (c=="tuple")
 |.ref a=>match g[a]? with
  |some (.lst _)=>some (c=="list")
  |_=>none
 |.ty _=>none
def j5(lo:Int)(n:Nat):List D:=(List.range n).map λ(k:Nat)=>.int (lo+k)
def T9:List D->Option Bool
 |[]=>some true
 |.bl b::r=>(T9 r).map λc=>b&&c
 |_=>none
inductive Pr where
 |bin (op:Operator)|un (op:UnaryOp)|cmp (op:CmpOp)
 |ix|lL (lo hi:Bool)|rev|tup|lst|Z9
 |len|list|tuple|isin|all|max|min|int|str|ir|jI|sset|JU|uJ
 |Ep|uA|mF|fv|kR|fld (f:Str)
 |append|pop|get|index|join|iadd|clear|yB|extend|any|sO|sum|rH|lT|jC|jB (i:Int)
noncomputable abbrev DR:=List D->G->D->G->Prop
def VO:Operator->Int->Int->Int->Prop
 |.Add,i,j,r=>r=i+j
 |.Sub,i,j,r=>r=i-j
 |.Mult,i,j,r=>qp i j/\r=i*j
 |.FloorDiv,i,j,r=>Cj i j/\r=i / j
 |.Mod,i,j,r=>0<j/\r=i % j
 |.Pow,i,j,r=>V2 i j/\r=i ^ j.toNat
 |.LShift,i,j,r=>V2 i j/\r=i*2 ^ j.toNat
 |.BitAnd,i,j,r=>r=Builtin.bitAnd i j
 |.BitOr,i,j,r=>r=Builtin.bitOr i j
 |_,_,_,_=>False
def SJ(op:Operator):DR:=λxs g d g' =>
 (∃i j r,xs=[.int i,.int j]/\VO op i j r/\d=.int r/\g'=g) \/
 (op=.Add/\((∃ l m,xs=[.tup l,.tup m]/\l.length + m.length <= 100000/\d=.tup (l ++ m)/\g'=g) \/
  (∃a b l m,xs=[.ref a,.ref b]/\g[a]?=some (.lst l)/\g[b]?=some (.lst m)/\l.length+m.length<=100000/\d=.ref g.length/\g'=g++[.lst (l++m)]) \/
  (∃ x y,xs=[.str x,.str y]/\x.length + y.length <= 100000/\d=.str (x ++ y)/\g'=g))) \/
 (op=.Mult/\((∃ a l n,xs=[.ref a,.int n]/\g[a]?=some (.lst l)/\-(2 ^ 62) <= n/\n < 2 ^ 62/\l.length * n.toNat <= 100000/\d=.ref g.length/\g'=g ++ [.lst (List.replicate n.toNat l).flatten]) \/
  (∃ l n,xs=[.tup l,.int n]/\l ≠ []/\1 <= n/\n < 2 ^ 62/\l.length * n.toNat <= 100000/\d=.tup (List.replicate n.toNat l).flatten/\g'=g)))
def JK(op:UnaryOp):DR:=λxs g d g'=>op=.USub/\∃i,xs=[.int i]/\d=.int (-i)/\g'=g
def uF(g:G)(x y:D)(b:Bool):Prop :=
 (∃i j,x=.int i/\y=.int j/\b=decide (i=j))\/(∃i j,x=.bl i/\y=.bl j/\b=(i==j))\/(∃i j,x=.str i/\y=.str j/\b=decide (i=j)) \/
 ∃p q,rd g 6 x=some p/\rd g 6 y=some q/\p.canLay0=true/\q.canLay0=true/\b=PyData.eqv p q
def inR(g:G)(x y:D)(b:Bool):Prop :=
 (∃a kvs c,y=.ref a/\g[a]?=some (.dy kvs)/\U7 x=some c/\b=(p6 kvs c).isSome) \/
 ∃l ps p,K5 g y=some l/\J' g l=some ps/\rd g 6 x=some p/\PyData.canLayAll0 ps=true/\p.canLay0=true/\b=(ps.any λq=>PyData.eqv q p)
def Fj(g:G)(x y:D)(b:Bool):Prop:=∃a S n i,y=.ref a/\g[a]?=some (.set S n)/\x=.int i/\b=S i
def EW(g:G)(x y:D)(b:Bool):CmpOp->Prop
 |.Eq=>uF g x y b
 |.NotEq=>uF g x y (!b)
 |.In=>inR g x y b\/Fj g x y b
 |.NotIn=>inR g x y (!b)\/Fj g x y (!b)
 |.Lt=>∃i j,x=.int i/\y=.int j/\b=decide (i<j)
 |.LtE=>∃i j,x=.int i/\y=.int j/\b=decide (i<=j)
 |.Gt=>∃i j,x=.int i/\y=.int j/\b=decide (j<i)
 |.GtE=>∃i j,x=.int i/\y=.int j/\b=decide (j<=i)
 |.Is=>y=.bx/\b=N1 x
 |.IsNot=>y=.bx/\b=!N1 x
def SQ(op:CmpOp):DR:=λxs g d g'=>∃x y b,xs=[x,y]/\EW g x y b op/\d=.bl b/\g'=g
def Fn(g:G)(x:D)(b:Bool):Prop :=
 (x=.bx/\b=false)\/x=.bl b\/(∃i,x=.int i/\b=(i != 0))\/(∃l,x=.tup l/\b=!l.isEmpty)\/∃a l,x=.ref a/\d0 g a=some l/\b=!l.isEmpty
def Ks:DR:=λxs g d g'=>g'=g/\((∃x l i,xs=[x,.int i]/\K5 g x=some l/\fE l i=some d)\/(∃a kvs y c,xs=[.ref a,y]/\g[a]?=some (.dy kvs)/\U7 y=some c/\p6 kvs c=some d) \/
 ∃ x i c,xs=[.str x,.int i]/\x.length <= 100000/\fE x.cps.toList i=some c/\d=.str ⟨#[c]⟩)
def sR(x:D)(lo hi:Option Int)(g:G)(d:D)(g':G):Prop:=(∃l,x=.tup l/\d=.tup (cut l lo hi)/\g'=g)\/∃a l,x=.ref a/\d0 g a=some l/\d=.ref g.length/\g'=g++[.lst (cut l lo hi)]
def TR:Bool->Bool->DR
 |false,false,xs,g,d,g'=>∃x,xs=[x]/\sR x none none g d g'
 |true,false,xs,g,d,g'=>∃x i,xs=[x,.int i]/\sR x (some i) none g d g'
 |false,true,xs,g,d,g'=>∃x j,xs=[x,.int j]/\sR x none (some j) g d g'
 |true,true,xs,g,d,g'=>∃x i j,xs=[x,.int i,.int j]/\sR x (some i) (some j) g d g'
def TK:DR:=λxs g d g'=>(∃l,xs=[.tup l]/\d=.tup l.reverse/\g'=g)\/∃a l,xs=[.ref a]/\d0 g a=some l/\d=.ref g.length/\g'=g++[.lst l.reverse]
def Ur:DR:=λxs g d g'=>xs.length<=1000/\d=.tup xs/\g'=g
def Tg:DR:=λxs g d g'=>xs.length<=1000/\d=.ref g.length/\g'=g++[.lst xs]
def vy:List D->List (Key×D)->Option (List (Key×D))
 |[],kvs=>some kvs
 |k::v::r,kvs=>(U7 k).bind λc=>vy r (putD kvs c v)
 |_,_=>none
def UK:DR:=λxs g d g'=>xs=[]/\d=.ref g.length/\g'=g++[.dy []]
def Tf:DR:=λxs g d g'=>g'=g/\((∃x l,xs=[x]/\K5 g x=some l/\d=.int l.length)\/(∃a kvs,xs=[.ref a]/\g[a]?=some (.dy kvs)/\d=.int kvs.length)\/∃x,xs=[.str x]/\x.length<=100000/\d=.int x.length)
def Vc:DR:=λxs g d g'=>(∃x l,xs=[x]/\K5 g x=some l/\d=.ref g.length/\g'=g++[.lst l])\/False
def Qz:DR:=λxs g d g'=>∃x l,xs=[x]/\K5 g x=some l/\d=.tup l/\g'=g
def UT:DR:=λxs g d g'=>∃x c b,xs=[x,.ty c]/\c∈["int","bool","str","tuple","list"]/\Ct g x c=some b/\d=.bl b/\g'=g
def allR:DR:=λxs g d g'=>∃a l b,xs=[.ref a]/\d0 g a=some l/\(T9 l=some b\/∃ns:List Int,l=ns.map .int/\b=ns.all λn=>n != 0)/\d=.bl b/\g'=g
def IC:List D->Option Bool
 |[]=>some false
 |.bl b::r=>(IC r).map λc=>b||c
 |_=>none
def anyR:DR:=λxs g d g'=>∃a l b,xs=[.ref a]/\d0 g a=some l/\IC l=some b/\d=.bl b/\g'=g
def Qf:DR:=λxs g d g'=>False\/∃x,∃ns:List Int,xs=[x]/\K5 g x=some (ns.map .int)/\ns.length<=10000/\d=.ref g.length/\g'=g++[.lst ((Nr ns).map .int)]
def Th:DR:=λxs g d g'=>g'=g/\((∃i j,xs=[.int i,.int j]/\d=.int (if j>i then j else i))\/∃a,∃(ns:List Int) (M:Int),xs=[.ref a]/\d0 g a=some (ns.map .int)/\M∈ns/\(∀x∈ns,x<=M)/\d=.int M)
def Ti:DR:=λxs g d g'=>g'=g/\((∃i j,xs=[.int i,.int j]/\d=.int (if j<i then j else i))\/∃a,∃(ns:List Int) (M:Int),xs=[.ref a]/\d0 g a=some (ns.map .int)/\M∈ns/\(∀x∈ns,M<=x)/\d=.int M)
def Nm:DR:=λxs g d g'=>∃a i S n,xs=[.ref a,.int i]/\g[a]?=some (.set S n)/\n+1<4096/\d=.bx/\g'=g.set a (.set (λk=>S k||decide (k=i)) (if S i then n else n+1))
def PD(i:Int):DR:=λxs g d g'=>xs=[]/\d=.ref g.length/\g'=g++[.set (λk=>decide (k=i)) 1]
def TV:DR:=λxs g d g'=>∃a,∃ns:List Int,xs=[.ref a]/\d0 g a=some (ns.map .int)/\d=.int ns.sum/\g'=g
def Vd:DR:=λxs g d g'=>∃a,∃ns:List Int,xs=[.ref a]/\d0 g a=some (ns.map .int)/\ns.length<60/\d=.int (ST.i8 [] ns).length/\g'=g
def UU:DR:=λxs g d g'=>∃i j,xs=[.int i,.int j]/\d=.int (i-j)/\g'=g
def Td:DR:=λxs g d g'=>g'=g/\((∃i,xs=[.int i]/\d=.int i)\/∃b,xs=[.bl b]/\d=.int (if b then 1 else 0))
def TU:DR:=λxs g d g'=>(∃i,xs=[.int i]/\i.natAbs.log2<1920/\d=.str (toString i)/\g'=g)\/∃x,xs=[.str x]/\d=.str x/\g'=g
def OA:DR:=λxs g d g'=>∃j,xs=[.int j]/\-(2 ^ 62)<=j/\j<=100000/\d=.ref g.length/\g'=g++[.lst (j5 0 j.toNat)]
def OB:DR:=λxs g d g'=>∃i j,xs=[.int i,.int j]/\(-(2 ^ 62)<=i/\i<2 ^ 62/\-(2 ^ 62)<=j/\j<2 ^ 62/\j-i<=100000)/\d=.ref g.length/\g'=g++[.lst (j5 i (j-i).toNat)]
def Nt:DR:=λxs g d g'=>∃a ns,xs=[.ref a]/\d0 g a=some (ns.map .int)/\ns.length<60/\d=.ref g.length/\g'=g++[.lst ((l9 ns).map .int)]
def TX:DR:=λxs g d g'=>∃ns ms:List Int,xs=[.tup (ns.map .int),.tup (ms.map .int)]/\(∀k∈ns,ST.Spot k)/\(∀k∈ms,ST.Spot k)/\ns.length+ms.length<50/\d=.ref g.length/\g'=g++[.lst ((l9 (ns++ms)).map .int)]
def Cs(neg:Bool):DR:=λxs g d g'=>∃kvs x,xs=[.tup kvs,.str x]/\d=.bl (xor neg (M9 kvs x).isSome)/\g'=g
def UO:DR:=λxs g d g'=>∃kvs x,xs=[.tup kvs,.str x]/\M9 kvs x=some d/\g'=g
def MA:DR:=λxs g d g'=>g'=g/\((∃i,xs=[.int i]/\i.natAbs.log2<1920/\d=.str (toString i))\/∃x,xs=[.str x]/\x.length<=2000/\d=.str x)
def UN:DR:=λxs g d g'=>∃x,T7 xs=some x/\d=.str x/\g'=g
def SW(f:Str):DR:=λxs g d g'=>∃a c fs,xs=[.ref a]/\g[a]?=some (.ins c fs)/\fs.lookup f=some d/\g'=g
def appendR:DR:=λxs g d g'=>∃a y l,xs=[.ref a,y]/\g[a]?=some (.lst l)/\l.length<100000/\d=.bx/\g'=g.set a (.lst (l++[y]))
def Tt:DR:=λxs g d g'=>∃a i l k,xs=[.ref a,.int i]/\g[a]?=some (.lst l)/\-(2 ^ 63)<=i/\i<2 ^ 63/\seqIndex? i l.length=some k/\l[k]?=some d/\g'=g.set a (.lst (l.eraseIdx k))
def Ta:DR:=λxs g d g'=>∃a y z kvs c,xs=[.ref a,y,z]/\g[a]?=some (.dy kvs)/\U7 y=some c/\d=(p6 kvs c).getD z/\g'=g
def IP:D->Bool
 |.bx=>true
 |.bl _=>true
 |.int _=>true
 |.str _=>true
 |_=>false
def toV:D->V
 |.bl b=>.bl b
 |.int i=>.int i
 |.str x=>.str x
 |_=>.bx
def NR(l:List D)(y:D)(n:Nat):Prop:=l.all IP=true/\IP y=true/\(∃z,l[n]?=some z/\Ey (toV z) (toV y)=true)/\∀(m:Nat) z,m<n->l[m]?=some z->Ey (toV z) (toV y)=false
def Oh:DR:=λxs g d g'=>∃x y l n,xs=[x,y]/\K5 g x=some l/\NR l y n/\l.length<=100000/\d=.int n/\g'=g
def joinR:DR:=λxs g d g'=>∃sep a ys,xs=[.str sep,.ref a]/\d0 g a=some (ys.map .str)/\Ra sep ys<=100000/\d=.str (Builtin.Str.glued sep ys)/\g'=g
def UR:DR:=λxs g d g'=>(∃i j,xs=[.int i,.int j]/\d=.int (i+j)/\g'=g)\/∃l m,xs=[.tup l,.tup m]/\l.length+m.length<=100000/\d=.tup (l++m)/\g'=g
def NX:DR:=λxs g d g'=>∃a l,xs=[.ref a]/\g[a]?=some (.lst l)/\d=.bx/\g'=g.set a (.lst [])
def Nd:DR:=λxs g d g'=>∃a l,xs=[.ref a]/\g[a]?=some (.lst (l++[d]))/\g'=g.set a (.lst l)
def QP:DR:=λxs g d g'=>∃a b l m,xs=[.ref a,.ref b]/\g[a]?=some (.lst l)/\g[b]?=some (.lst m)/\l.length+m.length<=100000/\d=.bx/\g'=g.set a (.lst (l++m))
def Oa:DR:=λxs g d g'=>∃a kvs,xs=[.ref a]/\g[a]?=some (.dy kvs)/\d=.ref g.length/\g'=g++[.dy kvs]
def PR:Pr->DR
 |.clear=>NX
 |.any=>anyR
 |.sum=>TV
 |.jC=>Nm
 |.jB i=>PD i
 |.rH=>Vd
 |.lT=>UU
 |.sO=>Qf
 |.extend=>QP
 |.yB=>Nd
 |.uJ=>Oa
 |.bin op=>SJ op
 |.un op=>JK op
 |.cmp op=>SQ op
 |.ix=>Ks
 |.lL a b=>TR a b
 |.rev=>TK
 |.tup=>Ur
 |.lst=>Tg
 |.Z9=>UK
 |.len=>Tf
 |.list=>Vc
 |.tuple=>Qz
 |.isin=>UT
 |.all=>allR
 |.max=>Th
 |.min=>Ti
 |.int=>Td
 |.str=>TU
 |.ir=>OA
 |.jI=>OB
 |.sset=>Nt
 |.JU=>TX
 |.Ep=>Cs false
 |.uA=>Cs true
 |.mF=>UO
 |.fv=>MA
 |.kR=>UN
 |.fld f=>SW f
 |.append=>appendR
 |.pop=>Tt
 |.get=>Ta
 |.index=>Oh
 |.join=>joinR
 |.iadd=>UR
def cx(p:Pr)(xs:List D)(g:G)(Q:KD):Prop:=∃d g',PR p xs g d g'/\Q d g'
def uG(g:G)(x y:D)(k:Bool->Prop):Prop:=∃b,uF g x y b/\k b
def om(g:G)(x y:D)(k:Bool->Prop):Prop:=∃b,inR g x y b/\k b
def Y0(g:G)(x:D)(k:Bool->Prop):Prop:=∃b,Fn g x b/\k b
def TQ(x y v:D)(g g':G):Prop:=(∃a i l j,x=.ref a/\y=.int i/\g[a]?=some (.lst l)/\ke l.length i=some j/\g'=g.set a (.lst (l.set j v))) \/
 ∃a kvs c,x=.ref a/\g[a]?=some (.dy kvs)/\U7 y=some c/\kvs.length<100000/\g'=g.set a (.dy (putD kvs c v))
def U0(x y v:D)(g:G)(k:G->Prop):Prop:=∃g',TQ x y v g g'/\k g'
def Jb(f:Str)(cs:List Str)(x v:D)(g g':G):Prop:=∃a c fs,x=.ref a/\g[a]?=some (.ins c fs)/\c∈cs/\fs.length<100/\g'=g.set a (.ins c (j6 f v fs))
def vi(f:Str)(cs:List Str)(x v:D)(g:G)(k:G->Prop):Prop:=∃g',Jb f cs x v g g'/\k g'
def lx:Pr->D->G->Prop
 |.get,x,g=>∃a kvs,x=.ref a/\g[a]?=some (.dy kvs)
 |.join,x,g=>∃y,x=.str y
 |.jC,x,g=>∃a S n,x=.ref a/\g[a]?=some (.set S n)
 |.index,x,g=>(∃l,x=.tup l)\/∃a l,x=.ref a/\d0 g a=some l
 |_,x,g=>∃a l,x=.ref a/\d0 g a=some l
inductive IK where
 |fix (l:List D)|lst (a:Nat)|nJ (a:Nat)|qR (a n:Nat)
def IK.at:IK->Nat->G->Option (Option D)
 |.fix l,i,_=>some l[i]?
 |.lst a,i,g=>match d0 g a with
  |some l=>some l[i]?
  |none=>none
 |.nJ a,i,g=>match d0 g a with
  |some l=>some (l[i]?.map λd=>.tup [.int i,d])
  |none=>none
 |.qR a n,i,g=>match d0 g a with
  |some l=>if l.length=n then some (if i<n then l[n-1-i]? else none) else none
  |none=>none
inductive MT where
 |one (i:Nat)|many (is:List Nat)
def C4:List Nat->List D->S->Option S
 |[],[],Z=>some Z
 |i::is,d::ds,Z=>C4 is ds (Z.set i (some d))
 |_,_,_=>none
def iT(t:MT)(x:D)(Z:S)(k:S->Prop):Prop:=match t with
 |.one i=>k (Z.set i (some x))
 |.many is=>∃l bI,x=.tup l/\C4 is l Z=some bI/\k bI
set_option genInjectivity false in
set_option genSizeOf false in
inductive ME where
 |var (i:Nat)|lit (d:D)
 |nil|cons (a b:ME)|prim (p:Pr) (es:ME)|dZ (p:Pr) (o es:ME)|oP (es:ME)
 |chain (o1 o2:CmpOp) (a b c:ME)
 |dB (a b:ME)|jE (a b:ME)|dY (a:ME)|ite (c a b:ME)
 |call (f:Nat) (es:ME)|je (fs:List Nat) (i:Nat) (k:Int) (es:ME)|make (c:Str) (f:Nat) (es:ME)|jH (m:Str) (cs:List (Str×Nat)) (o es:ME)
 |comp (d4:List Nat) (n:Nat) (tg:MT) (it cond elt:ME)|gk (d4:List Nat) (n:Nat) (tg:MT) (it cond elt:ME)|jD (d4:List Nat) (n:Nat) (tg:MT) (it cond elt:ME)
 |fA (e:ME)|et (a:ME)|jJ (a b:ME)|jK (e:ME)|mP (e:ME)|fk (e:ME)|no
noncomputable abbrev eO:=Nat->List D->G->KD->KX->Prop
def E1(Z:S)(d4:List Nat)(n:Nat):S:=d4.map (λj=>(Z[j]?).join)++List.replicate (n-d4.length) none
def turns(k:IK)(Z:S)(g:G)(fin:S->G->Prop)(turn:D->(S->G->Prop)->S->G->Prop):Prop :=
 ∃W:Nat->Nat->S->G->Prop,(∃m,W 0 m Z g)/\∀i m Z g,W i m Z g->(k.at i g=some none/\fin Z g)\/∃x,k.at i g=some (some x)/\∃N2:S->G->Prop,(∀bI g',N2 bI g'->∃m',m'<m/\W (i+1) m' bI g')/\turn x N2 Z g
def xw(k:IK)(Z:S)(g:G)(fin:List D->G->Prop)(turn:D->(Option D->S->G->Prop)->S->G->Prop):Prop :=
 ∃W:Nat->Nat->List D->S->G->Prop,(∃m,W 0 m [] Z g)/\∀i m ys Z g,W i m ys Z g->(k.at i g=some none/\fin ys g) \/
  ∃x,k.at i g=some (some x)/\ys.length<100000/\turn x (λy bI g'=>∃m',m'<m/\W (i+1) m' (ys++y.toList) bI g') Z g
def AA(k:IK)(Z:S)(g:G)(fin:List Int->G->Prop)(turn:D->(Option Int->S->G->Prop)->S->G->Prop):Prop :=
 ∃W:Nat->Nat->List Int->S->G->Prop,(∃m,W 0 m [] Z g)/\∀i m ys Z g,W i m ys Z g->(k.at i g=some none/\ys.length<60/\fin ys g) \/
  ∃x,k.at i g=some (some x)/\ys.length<60/\turn x (λy bI g'=>∃m',m'<m/\W (i+1) m' (ys++y.toList) bI g') Z g
mutual
noncomputable def aP(P:eO):ME->S->G->KD->KX->Prop
 |.var i,Z,g,Q,_=>∃d,Z[i]?=some (some d)/\Q d g
 |.lit d,_,g,Q,_=>Q d g
 |.prim p es,Z,g,Q,E=>eY P es Z g (λxs g1=>cx p xs g1 Q) E
 |.dZ p o es,Z,g,Q,E=>aP P o Z g (λx g1=>lx p x g1/\eY P es Z g1 (λxs g2=>cx p (x::xs) g2 Q) E) E
 |.oP es,Z,g,Q,E=>eY P es Z (g++[.dy []]) (λxs g1=>∃kvs,vy xs []=some kvs/\xs.length<=30/\g1[g.length]?=some (.dy [])/\Q (.ref g.length) (g1.set g.length (.dy kvs))) E
 |.chain o1 o2 a b c,Z,g,Q,E=>aP P a Z g (λx g1=>aP P b Z g1 (λy g2=>cx (.cmp o1) [x,y] g2 λz g3=>∃t,z=.bl t/\if t=true then aP P c Z g3 (λw g4=>cx (.cmp o2) [y,w] g4 Q) E else Q (.bl false) g3) E) E
 |.dB a b,Z,g,Q,E=>aP P a Z g (λx g1=>∃t,x=.bl t/\if t=true then aP P b Z g1 Q E else Q (.bl false) g1) E
 |.jE a b,Z,g,Q,E=>aP P a Z g (λx g1=>∃t,x=.bl t/\if t=true then Q (.bl true) g1 else aP P b Z g1 Q E) E
 |.dY a,Z,g,Q,E=>aP P a Z g (λx g1=>∃t,x=.bl t/\Q (.bl (!t)) g1) E
 |.ite c a b,Z,g,Q,E=>cK P c Z g (λt g1=>if t=true then aP P a Z g1 Q E else aP P b Z g1 Q E) E
 |.call f es,Z,g,Q,E=>eY P es Z g (λxs g1=>P f xs g1 Q E) E
 |.je fs i k es,Z,g,Q,E=>∃n f,Z[i]?=some (some (.int n))/\fE fs (n-k)=some f/\eY P es Z g (λxs g1=>P f xs g1 Q E) E
 |.make c f es,Z,g,Q,E=>eY P es Z g (λxs g1=>P f (.ref g1.length::xs) (g1++[.ins c []]) (λd g2=>d=.bx/\Q (.ref g1.length) g2) E) E
 |.jH m cs o es,Z,g,Q,E=>aP P o Z g (λx g1=>∃a c fs f,x=.ref a/\g1[a]?=some (.ins c fs)/\fs.lookup m=none/\cs.lookup c=some f/\eY P es Z g1 (λxs g2=>P f (x::xs) g2 Q E) E) E
 |.comp d4 n tg it cond elt,Z,g,Q,E=>gb P it Z g (λk g1=>xw k (E1 Z d4 n) g1 (λys g=>Q (.ref g.length) (g++[.lst ys])) λx N Z g=>iT tg x Z λbW=>cK P cond bW g (λb g3=>if b=true then aP P elt bW g3 (λy g4=>N (some y) bW g4) iK else N none bW g3) iK) E
 |.jD d4 n tg it cond elt,Z,g,Q,E=>gb P it Z g (λk g1=>xw k (E1 Z d4 n) g1 (λys g=>Q (.ref g.length) (g++[.lst ys])) λx N Z g=>iT tg x Z λbW=>cK P cond bW g (λb g3=>if b=true then aP P elt bW g3 (λy g4=>N (some y) bW g4) E else N none bW g3) iK) E
 |.gk d4 n tg it cond elt,Z,g,Q,E=>gb P it Z g (λk g1=>AA k (E1 Z d4 n) g1 (λys g=>Q (.ref g.length) (g++[.lst ((l9 ys).map .int)])) λx N Z g=>iT tg x Z λbW=>cK P cond bW g (λb g3=>if b=true then aP P elt bW g3 (λy g4=>∃j,y=.int j/\N (some j) bW g4) iK else N none bW g3) iK) E
 |.nil,_,_,_,_=>False
 |.cons _ _,_,_,_,_=>False
 |.fA _,_,_,_,_=>False
 |.et _,_,_,_,_=>False
 |.jJ _ _,_,_,_,_=>False
 |.jK _,_,_,_,_=>False
 |.mP _,_,_,_,_=>False
 |.fk _,_,_,_,_=>False
 |.no,_,_,_,_=>False
noncomputable def eY(P:eO):ME->S->G->(List D->G->Prop)->KX->Prop
 |.nil,_,g,Q,_=>Q [] g
 |.cons a b,Z,g,Q,E=>aP P a Z g (λx g1=>eY P b Z g1 (λxs g2=>Q (x::xs) g2) E) E
 |_,_,_,_,_=>False
noncomputable def cK(P:eO):ME->S->G->(Bool->G->Prop)->KX->Prop
 |.dB a b,Z,g,Q,E=>cK P a Z g (λt g1=>if t=true then cK P b Z g1 Q E else Q false g1) E
 |.jE a b,Z,g,Q,E=>cK P a Z g (λt g1=>if t=true then Q true g1 else cK P b Z g1 Q E) E
 |.dY a,Z,g,Q,E=>cK P a Z g (λt g1=>Q (!t) g1) E
 |.no,_,g,Q,_=>Q true g
 |.fk e,Z,g,Q,E=>aP P e Z g (λx g1=>Y0 g1 x λb=>Q b g1) E
 |_,_,_,_,_=>False
noncomputable def gb(P:eO):ME->S->G->(IK->G->Prop)->KX->Prop
 |.fA e,Z,g,R,E=>aP P e Z g (λx g1=>(∃l,x=.tup l/\R (.fix l) g1)\/∃a l,x=.ref a/\d0 g1 a=some l/\R (.lst a) g1) E
 |.et a,Z,g,R,E=>aP P a Z g (λx g1=>∃j:Int,x=.int j/\-(2 ^ 62)<=j/\j<2 ^ 62/\R (.fix (j5 0 j.toNat)) g1) E
 |.jJ a b,Z,g,R,E=>aP P a Z g (λx g1=>aP P b Z g1 (λy g2=>∃i j:Int,x=.int i/\y=.int j/\(-(2 ^ 62)<=i/\i<2 ^ 62/\-(2 ^ 62)<=j/\j<2 ^ 62)/\R (.fix (j5 i (j-i).toNat)) g2) E) E
 |.jK e,Z,g,R,E=>aP P e Z g (λx g1=>∃a l,x=.ref a/\d0 g1 a=some l/\R (.nJ a) g1) E
 |.mP e,Z,g,R,E=>aP P e Z g (λx g1=>∃a l,x=.ref a/\d0 g1 a=some l/\R (.qR a l.length) g1) E
 |_,_,_,_,_=>False
end
set_option genInjectivity false in
set_option genSizeOf false in
inductive MS where
 |pass|seq (a b:MS)|expr (e:ME)|set (i:Nat) (e:ME)|kJ (t:MT) (e:ME)|dF (o i v:ME)|gE (f:Str) (cs:List Str) (o v:ME)
 |uX (f:Str) (cs:List Str) (o v:ME)|jP (i:Nat) (p:Pr) (v:ME)|vT (o1 i1 o2 i2 e:ME)
 |ifs (c:ME) (a b:MS)|cS (t:MT) (it:ME) (b:MS)|jA (c:ME) (b:MS)|ret (e:ME)|pC|brk|cont
 |raise (x:Str) (es:ME)|X9 (b:MS) (hs:List (Str×ME))
structure Ends where
 nx:S->G->Prop
 rt:KD
 bk:S->G->Prop:=λ_ _=>False
 ct:S->G->Prop:=λ_ _=>False
def kl(P:eO)(N:Ends)(Z:S)(E:KX):List (Str×ME)->KX
 |[],x,g=>E x g
 |(y,e)::r,x,g=>if x.cls=y\/y="MintError" then aP P e Z g N.rt iK else kl P N Z E r x g
def wpS(P:eO):MS->Ends->S->G->KX->Prop
 |.pass,N,Z,g,_=>N.nx Z g
 |.seq a b,N,Z,g,E=>wpS P a { N with nx:=λgZ g1=>wpS P b N gZ g1 E } Z g E
 |.expr e,N,Z,g,E=>aP P e Z g (λ_ g1=>N.nx Z g1) E
 |.set i e,N,Z,g,E=>aP P e Z g (λx g1=>N.nx (Z.set i (some x)) g1) E
 |.kJ t e,N,Z,g,E=>aP P e Z g (λx g1=>iT t x Z λgZ=>N.nx gZ g1) E
 |.dF o i v,N,Z,g,E=>aP P v Z g (λx g1=>aP P o Z g1 (λy g2=>aP P i Z g2 (λz g3=>U0 y z x g3 λg4=>N.nx Z g4) E) E) E
 |.gE f cs o v,N,Z,g,E=>aP P v Z g (λx g1=>aP P o Z g1 (λy g2=>vi f cs y x g2 λg3=>N.nx Z g3) E) E
 |.uX f cs o v,N,Z,g,E=>aP P o Z g (λy g1=>∃a c fs x,y=.ref a/\g1[a]?=some (.ins c fs)/\c∈cs/\fs.lookup f=some x/\aP P v Z g1 (λz g3=>cx .iadd [x,z] g3 λw g4=>∃oJ,g4[a]?=some (.ins c oJ)/\oJ.length<100/\N.nx Z (g4.set a (.ins c (j6 f w oJ)))) E) E
 |.vT o1 i1 o2 i2 e,N,Z,g,E=>aP P e Z g (λx g1=>∃u v,x=.tup [u,v]/\aP P o1 Z g1 (λy1 g2=>aP P i1 Z g2 (λz1 g3=>U0 y1 z1 u g3 λg4=>aP P o2 Z g4 (λy2 g5=>aP P i2 Z g5 (λz2 g6=>U0 y2 z2 v g6 λg7=>N.nx Z g7) E) E) E) E) E
 |.jP i p v,N,Z,g,E=>∃x,Z[i]?=some (some x)/\aP P v Z g (λz g1=>cx p [x,z] g1 λw g2=>N.nx (Z.set i (some w)) g2) E
 |.ifs c a b,N,Z,g,E=>cK P c Z g (λt g1=>if t=true then wpS P a N Z g1 E else wpS P b N Z g1 E) E
 |.cS t it b,N,Z,g,E=>gb P it Z g (λk g1=>turns k Z g1 N.nx λx N2 Z g=>iT t x Z λbW=>wpS P b { N with nx:=N2,ct:=N2,bk:=N.nx } bW g E) E
 |.jA c b,N,Z,g,E=>∃W:Nat->S->G->Prop,(∃m,W m Z g)/\∀m Z g,W m Z g->cK P c Z g (λt g1=>if t=true then ∃N2:S->G->Prop,(∀bI g',N2 bI g'->∃m',m'<m/\W m' bI g')/\wpS P b { N with nx:=N2,ct:=N2,bk:=N.nx } Z g1 E else N.nx Z g1) E
 |.ret e,N,Z,g,E=>aP P e Z g N.rt E
 |.pC,N,_,g,_=>N.rt .bx g
 |.brk,N,Z,g,_=>N.bk Z g
 |.cont,N,Z,g,_=>N.ct Z g
 |.raise x es,_,Z,g,E=>eY P es Z g (λvs g1=>vs.length<=1000/\E ⟨x⟩ g1) E
 |.X9 b hs,N,Z,g,E=>wpS P b N Z g (kl P N (Z.map λ_=>none) E hs)
structure aS where
 ar:Nat
 n:Nat
 body:MS
def c8(m:aS)(ds:List D):S:=ds.map some++List.replicate (m.n-ds.length) none
def b7(T:Nat->Option aS):Nat->eO
 |0,_,_,_,_,_=>False
 |k+1,f,ds,g,Q,E=>∃m,T f=some m/\ds.length=m.ar/\wpS (b7 T k) m.body ⟨λ_ g'=>Q .bx g',Q,λ_ _=>False,λ_ _=>False⟩ (c8 m ds) g E
end M

namespace M
open PySem L2
theorem p8{p xs}{g:G}{Q Q':KD}(h:∀d g,Q d g->Q' d g)(q:cx p xs g Q):cx p xs g Q':=by
 obtain⟨d,g',a,b⟩:=q;exact⟨d,g',a,h _ _ b⟩
theorem XB{x}{g:G}{k k':Bool->Prop}(h:∀b,k b->k' b)(q:Y0 g x k):Y0 g x k':=by
 obtain⟨b,a,z⟩:=q;exact⟨b,a,h _ z⟩
theorem S7{x y v}{g:G}{k k':G->Prop}(h:∀g,k g->k' g)(q:U0 x y v g k):U0 x y v g k':=by
 obtain⟨b,a,z⟩:=q;exact⟨b,a,h _ z⟩
theorem Yn{f cs x v}{g:G}{k k':G->Prop}(h:∀g,k g->k' g)(q:vi f cs x v g k):vi f cs x v g k':=by
 obtain⟨b,a,z⟩:=q;exact⟨b,a,h _ z⟩
theorem v5{t x Z}{k k':S->Prop}(h:∀Z,k Z->k' Z)(q:iT t x Z k):iT t x Z k':=by
 cases t with
 |one i=>exact h _ q
 |many is=>obtain⟨l,bI,a,b,c⟩:=q;exact⟨l,bI,a,b,h _ c⟩
theorem Yv{k Z g}{fin jN:S->G->Prop}{turn gL:D->(S->G->Prop)->S->G->Prop}(h:∀Z g,fin Z g->jN Z g)(h2:∀x N Z g,turn x N Z g->gL x N Z g)(q:turns k Z g fin turn):turns k Z g jN gL:=by
 obtain⟨W,w0,q⟩:=q;refine⟨W,w0,λi m Z g w=>?_⟩;rcases q i m Z g w with⟨a,b⟩|⟨x,a,N2,b,c⟩
 ·exact .inl ⟨a,h _ _ b⟩
 ·exact .inr ⟨x,a,N2,b,h2 _ _ _ _ c⟩
theorem GR{k Z g}{fin jN:List D->G->Prop}{turn gL:D->(Option D->S->G->Prop)->S->G->Prop}(h:∀ys g,fin ys g->jN ys g)(h2:∀x N Z g,turn x N Z g->gL x N Z g)(q:xw k Z g fin turn):xw k Z g jN gL:=by
 obtain⟨W,w0,q⟩:=q;refine⟨W,w0,λi m ys Z g w=>?_⟩;rcases q i m ys Z g w with⟨a,b⟩|⟨x,a,b,c⟩
 ·exact .inl ⟨a,h _ _ b⟩
 ·exact .inr ⟨x,a,b,h2 _ _ _ _ c⟩
theorem YT{k Z g}{fin jN:List Int->G->Prop}{turn gL:D->(Option Int->S->G->Prop)->S->G->Prop}(h:∀ys g,fin ys g->jN ys g)(h2:∀x N Z g,turn x N Z g->gL x N Z g)(q:AA k Z g fin turn):AA k Z g jN gL:=by
 obtain⟨W,w0,q⟩:=q;refine⟨W,w0,λi m ys Z g w=>?_⟩;rcases q i m ys Z g w with⟨a,b,c⟩|⟨x,a,b,c⟩
 ·exact .inl ⟨a,b,h _ _ c⟩
 ·exact .inr ⟨x,a,b,h2 _ _ _ _ c⟩
theorem E3{t:Bool}{A B A' B':Prop}(h1:A->A')(h2:B->B')(q:if t=true then A else B):if t=true then A' else B':=by
 cases t
 ·exact h2 q
 ·exact h1 q
def i3(P:eO):Prop:=∀f xs g Q Q' E E',(∀d g,Q d g->Q' d g)->(∀x g,E x g->E' x g)->P f xs g Q E->P f xs g Q' E'
mutual
theorem b8{P:eO}(hP:i3 P):∀(e:ME) (Z:S) (g:G) (Q Q':KD) (E E':KX),(∀d g,Q d g->Q' d g)->(∀x g,E x g->E' x g)->aP P e Z g Q E->aP P e Z g Q' E'
 |.var i,Z,g,Q,Q',E,E',h,hx,q=>by
  obtain⟨d,a,b⟩:=q;exact⟨d,a,h _ _ b⟩
 |.lit d,Z,g,Q,Q',E,E',h,hx,q=>by exact h _ _ q
 |.prim p es,Z,g,Q,Q',E,E',h,hx,q=>by
  exact u5 hP es _ _ _ _ _ _ (λxs g1 q=>p8 h q) hx q
 |.dZ p o es,Z,g,Q,Q',E,E',h,hx,q=>by
  exact b8 hP o _ _ _ _ _ _ (λx g1 q=>⟨q.1,u5 hP es _ _ _ _ _ _ (λxs g2 q=>p8 h q) hx q.2⟩) hx q
 |.oP es,Z,g,Q,Q',E,E',h,hx,q=>by
  exact u5 hP es _ _ _ _ _ _ (λxs g1 ⟨kvs,a,b,c,d⟩=>⟨kvs,a,b,c,h _ _ d⟩) hx q
 |.chain o1 o2 a b c,Z,g,Q,Q',E,E',h,hx,q=>by
  refine b8 hP a _ _ _ _ _ _ (λx g1 q=>b8 hP b _ _ _ _ _ _ (λy g2 q=>p8 (λz g3 q=>?_) q) hx q) hx q;obtain⟨t,e,q⟩:=q;exact⟨t,e,E3 (λq=>b8 hP c _ _ _ _ _ _ (λw g4 q=>p8 h q) hx q) (h _ _) q⟩
 |.dB a b,Z,g,Q,Q',E,E',h,hx,q=>by
  refine b8 hP a _ _ _ _ _ _ (λx g1 q=>?_) hx q;obtain⟨t,e,q⟩:=q;exact⟨t,e,E3 (λq=>b8 hP b _ _ _ _ _ _ h hx q) (h _ _) q⟩
 |.jE a b,Z,g,Q,Q',E,E',h,hx,q=>by
  refine b8 hP a _ _ _ _ _ _ (λx g1 q=>?_) hx q;obtain⟨t,e,q⟩:=q;exact⟨t,e,E3 (h _ _) (λq=>b8 hP b _ _ _ _ _ _ h hx q) q⟩
 |.dY a,Z,g,Q,Q',E,E',h,hx,q=>by
  refine b8 hP a _ _ _ _ _ _ (λx g1 q=>?_) hx q;obtain⟨t,e,q⟩:=q;exact⟨t,e,h _ _ q⟩
 |.ite c a b,Z,g,Q,Q',E,E',h,hx,q=>by
  exact n6 hP c _ _ _ _ _ _ (λt g1 q=>E3 (λq=>b8 hP a _ _ _ _ _ _ h hx q) (λq=>b8 hP b _ _ _ _ _ _ h hx q) q) hx q
 |.call f es,Z,g,Q,Q',E,E',h,hx,q=>by
  exact u5 hP es _ _ _ _ _ _ (λxs g1 q=>hP _ _ _ _ _ _ _ h hx q) hx q
 |.je fs i k es,Z,g,Q,Q',E,E',h,hx,q=>by
  obtain⟨n,f,h1,h2,q⟩:=q;exact⟨n,f,h1,h2,u5 hP es _ _ _ _ _ _ (λxs g1 q=>hP _ _ _ _ _ _ _ h hx q) hx q⟩
 |.make c f es,Z,g,Q,Q',E,E',h,hx,q=>by
  exact u5 hP es _ _ _ _ _ _ (λxs g1 q=>hP _ _ _ _ _ _ _ (λd g2 q=>⟨q.1,h _ _ q.2⟩) hx q) hx q
 |.jH m cs o es,Z,g,Q,Q',E,E',h,hx,q=>by
  refine b8 hP o _ _ _ _ _ _ (λx g1 q=>?_) hx q;obtain⟨a,c,fs,f,q1,q2,q3,q4,q⟩:=q;exact⟨a,c,fs,f,q1,q2,q3,q4,u5 hP es _ _ _ _ _ _ (λxs g2 q=>hP _ _ _ _ _ _ _ h hx q) hx q⟩
 |.comp d4 n tg it cond elt,Z,g,Q,Q',E,E',h,hx,q=>by
  exact y9 hP it _ _ _ _ _ _ (λk g1 q=>GR (λys g q=>h _ _ q) (λ_ _ _ _ q=>q) q) hx q
 |.jD d4 n tg it cond elt,Z,g,Q,Q',E,E',h,hx,q=>by
  exact y9 hP it _ _ _ _ _ _ (λk g1 q=>GR (λys g q=>h _ _ q) (λx N Z g q=>v5 (λbW q=>n6 hP cond _ _ _ _ _ _ (λb g3 q=>by
   cases b
   ·exact q
   ·exact b8 hP elt _ _ _ _ _ _ (λ_ _ z=>z) hx q) (λ_ _ z=>z) q) q) q) hx q
 |.gk d4 n tg it cond elt,Z,g,Q,Q',E,E',h,hx,q=>by
  exact y9 hP it _ _ _ _ _ _ (λk g1 q=>YT (λys g q=>h _ _ q) (λ_ _ _ _ q=>q) q) hx q
 |.nil,Z,g,Q,Q',E,E',h,hx,q=>(show False from q).elim
 |.cons _ _,Z,g,Q,Q',E,E',h,hx,q=>(show False from q).elim
 |.fA _,Z,g,Q,Q',E,E',h,hx,q=>(show False from q).elim
 |.et _,Z,g,Q,Q',E,E',h,hx,q=>(show False from q).elim
 |.jJ _ _,Z,g,Q,Q',E,E',h,hx,q=>(show False from q).elim
 |.jK _,Z,g,Q,Q',E,E',h,hx,q|.mP _,Z,g,Q,Q',E,E',h,hx,q=>(show False from q).elim
 |.fk _,Z,g,Q,Q',E,E',h,hx,q=>(show False from q).elim
 |.no,Z,g,Q,Q',E,E',h,hx,q=>(show False from q).elim
theorem u5{P:eO}(hP:i3 P):∀(e:ME) (Z:S) (g:G) (Q Q':List D->G->Prop) (E E':KX),(∀d g,Q d g->Q' d g)->(∀x g,E x g->E' x g)->eY P e Z g Q E->eY P e Z g Q' E'
 |.nil,Z,g,Q,Q',E,E',h,hx,q=>by exact h _ _ q
 |.cons a b,Z,g,Q,Q',E,E',h,hx,q=>by
  exact b8 hP a _ _ _ _ _ _ (λx g1 q=>u5 hP b _ _ _ _ _ _ (λxs g2 q=>h _ _ q) hx q) hx q
 |.var _,Z,g,Q,Q',E,E',h,hx,q|.lit _,Z,g,Q,Q',E,E',h,hx,q|.prim _ _,Z,g,Q,Q',E,E',h,hx,q|.dZ _ _ _,Z,g,Q,Q',E,E',h,hx,q|.oP _,Z,g,Q,Q',E,E',h,hx,q|.chain _ _ _ _ _,Z,g,Q,Q',E,E',h,hx,q|.dB _ _,Z,g,Q,Q',E,E',h,hx,q|.jE _ _,Z,g,Q,Q',E,E',h,hx,q|.dY _,Z,g,Q,Q',E,E',h,hx,q|.ite _ _ _,Z,g,Q,Q',E,E',h,hx,q|.call _ _,Z,g,Q,Q',E,E',h,hx,q
 |.make _ _ _,Z,g,Q,Q',E,E',h,hx,q|.je _ _ _ _,Z,g,Q,Q',E,E',h,hx,q|.jH _ _ _ _,Z,g,Q,Q',E,E',h,hx,q|.comp _ _ _ _ _ _,Z,g,Q,Q',E,E',h,hx,q|.gk _ _ _ _ _ _,Z,g,Q,Q',E,E',h,hx,q|.jD _ _ _ _ _ _,Z,g,Q,Q',E,E',h,hx,q|.fA _,Z,g,Q,Q',E,E',h,hx,q|.et _,Z,g,Q,Q',E,E',h,hx,q|.jJ _ _,Z,g,Q,Q',E,E',h,hx,q|.jK _,Z,g,Q,Q',E,E',h,hx,q|.mP _,Z,g,Q,Q',E,E',h,hx,q|.fk _,Z,g,Q,Q',E,E',h,hx,q|.no,Z,g,Q,Q',E,E',h,hx,q=>(show False from q).elim
theorem n6{P:eO}(hP:i3 P):∀(e:ME) (Z:S) (g:G) (Q Q':Bool->G->Prop) (E E':KX),(∀d g,Q d g->Q' d g)->(∀x g,E x g->E' x g)->cK P e Z g Q E->cK P e Z g Q' E'
 |.dB a b,Z,g,Q,Q',E,E',h,hx,q=>by
  exact n6 hP a _ _ _ _ _ _ (λt g1 q=>E3 (λq=>n6 hP b _ _ _ _ _ _ h hx q) (h _ _) q) hx q
 |.jE a b,Z,g,Q,Q',E,E',h,hx,q=>by
  exact n6 hP a _ _ _ _ _ _ (λt g1 q=>E3 (h _ _) (λq=>n6 hP b _ _ _ _ _ _ h hx q) q) hx q
 |.dY a,Z,g,Q,Q',E,E',h,hx,q=>by exact n6 hP a _ _ _ _ _ _ (λt g1 q=>h _ _ q) hx q
 |.no,Z,g,Q,Q',E,E',h,hx,q=>by exact h _ _ q
 |.fk e,Z,g,Q,Q',E,E',h,hx,q=>by exact b8 hP e _ _ _ _ _ _ (λx g1 q=>XB (λb q=>h _ _ q) q) hx q
 |.var _,Z,g,Q,Q',E,E',h,hx,q|.lit _,Z,g,Q,Q',E,E',h,hx,q|.prim _ _,Z,g,Q,Q',E,E',h,hx,q|.dZ _ _ _,Z,g,Q,Q',E,E',h,hx,q|.oP _,Z,g,Q,Q',E,E',h,hx,q|.chain _ _ _ _ _,Z,g,Q,Q',E,E',h,hx,q|.ite _ _ _,Z,g,Q,Q',E,E',h,hx,q|.call _ _,Z,g,Q,Q',E,E',h,hx,q|.nil,Z,g,Q,Q',E,E',h,hx,q|.cons _ _,Z,g,Q,Q',E,E',h,hx,q
 |.make _ _ _,Z,g,Q,Q',E,E',h,hx,q|.je _ _ _ _,Z,g,Q,Q',E,E',h,hx,q|.jH _ _ _ _,Z,g,Q,Q',E,E',h,hx,q|.comp _ _ _ _ _ _,Z,g,Q,Q',E,E',h,hx,q|.gk _ _ _ _ _ _,Z,g,Q,Q',E,E',h,hx,q|.jD _ _ _ _ _ _,Z,g,Q,Q',E,E',h,hx,q|.fA _,Z,g,Q,Q',E,E',h,hx,q|.et _,Z,g,Q,Q',E,E',h,hx,q|.jJ _ _,Z,g,Q,Q',E,E',h,hx,q|.jK _,Z,g,Q,Q',E,E',h,hx,q|.mP _,Z,g,Q,Q',E,E',h,hx,q=>(show False from q).elim
theorem y9{P:eO}(hP:i3 P):∀(e:ME) (Z:S) (g:G) (Q Q':IK->G->Prop) (E E':KX),(∀d g,Q d g->Q' d g)->(∀x g,E x g->E' x g)->gb P e Z g Q E->gb P e Z g Q' E'
 |.fA e,Z,g,Q,Q',E,E',h,hx,q=>by
  exact b8 hP e _ _ _ _ _ _ (λx g1 q=>q.imp (λ⟨l,a,b⟩=>⟨l,a,h _ _ b⟩) λ⟨i,l,a,b,c⟩=>⟨i,l,a,b,h _ _ c⟩) hx q
 |.et a,Z,g,Q,Q',E,E',h,hx,q=>by
  exact b8 hP a _ _ _ _ _ _ (λx g1 ⟨j,a,b,c,d⟩=>⟨j,a,b,c,h _ _ d⟩) hx q
 |.jJ a b,Z,g,Q,Q',E,E',h,hx,q=>by
  exact b8 hP a _ _ _ _ _ _ (λx g1 q=>b8 hP b _ _ _ _ _ _ (λy g2 ⟨i,j,a,b,c,d⟩=>⟨i,j,a,b,c,h _ _ d⟩) hx q) hx q
 |.jK e,Z,g,Q,Q',E,E',h,hx,q=>by
  exact b8 hP e _ _ _ _ _ _ (λx g1 ⟨i,l,a,b,c⟩=>⟨i,l,a,b,h _ _ c⟩) hx q
 |.mP e,Z,g,Q,Q',E,E',h,hx,q=>by
  exact b8 hP e _ _ _ _ _ _ (λx g1 ⟨i,l,a,b,c⟩=>⟨i,l,a,b,h _ _ c⟩) hx q
 |.var _,Z,g,Q,Q',E,E',h,hx,q|.lit _,Z,g,Q,Q',E,E',h,hx,q|.prim _ _,Z,g,Q,Q',E,E',h,hx,q|.dZ _ _ _,Z,g,Q,Q',E,E',h,hx,q|.oP _,Z,g,Q,Q',E,E',h,hx,q|.chain _ _ _ _ _,Z,g,Q,Q',E,E',h,hx,q|.ite _ _ _,Z,g,Q,Q',E,E',h,hx,q|.call _ _,Z,g,Q,Q',E,E',h,hx,q|.nil,Z,g,Q,Q',E,E',h,hx,q|.cons _ _,Z,g,Q,Q',E,E',h,hx,q
 |.dB _ _,Z,g,Q,Q',E,E',h,hx,q|.jE _ _,Z,g,Q,Q',E,E',h,hx,q|.dY _,Z,g,Q,Q',E,E',h,hx,q|.fk _,Z,g,Q,Q',E,E',h,hx,q|.no,Z,g,Q,Q',E,E',h,hx,q
 |.make _ _ _,Z,g,Q,Q',E,E',h,hx,q|.je _ _ _ _,Z,g,Q,Q',E,E',h,hx,q|.jH _ _ _ _,Z,g,Q,Q',E,E',h,hx,q|.comp _ _ _ _ _ _,Z,g,Q,Q',E,E',h,hx,q|.gk _ _ _ _ _ _,Z,g,Q,Q',E,E',h,hx,q|.jD _ _ _ _ _ _,Z,g,Q,Q',E,E',h,hx,q=>(show False from q).elim
end
structure Ends.le(N N':Ends):Prop where
 nx:∀Z g,N.nx Z g->N'.nx Z g
 rt:∀d g,N.rt d g->N'.rt d g
 bk:∀Z g,N.bk Z g->N'.bk Z g
 ct:∀Z g,N.ct Z g->N'.ct Z g
theorem FF{P:eO}(hP:i3 P){N N':Ends}{E E':KX}(h:N.le N')(hx:∀x g,E x g->E' x g){Z:S}:∀(hs:List (Str×ME)) x g,kl P N Z E hs x g->kl P N' Z E' hs x g
 |[],x,g,q=>hx x g q
 |(y,e)::r,x,g,q=>by
  unfold kl at q ⊢;split
  ·rename_i hh;rw[aH hh] at q;exact b8 hP e _ _ _ _ _ _ h.rt (λ_ _ z=>z) q
  ·rename_i hh;rw[az hh] at q;exact FF hP h hx r x g q
theorem wpS_mono{P:eO}(hP:i3 P):∀(s:MS) (N N':Ends) (Z:S) (g:G) (E E':KX),N.le N'->(∀x g,E x g->E' x g)->wpS P s N Z g E->wpS P s N' Z g E'
 |.pass,N,N',Z,g,E,E',h,hx,q=>h.nx _ _ q
 |.seq a b,N,N',Z,g,E,E',h,hx,q=>wpS_mono hP a { N with nx:=λgZ g1=>wpS P b N gZ g1 E } { N' with nx:=λgZ g1=>wpS P b N' gZ g1 E' } _ _ _ _ ⟨λgZ g1 q=>wpS_mono hP b _ _ _ _ _ _ h hx q,h.rt,h.bk,h.ct⟩ hx q
 |.expr e,N,N',Z,g,E,E',h,hx,q=>b8 hP e _ _ _ _ _ _ (λx g1 q=>h.nx _ _ q) hx q
 |.set i e,N,N',Z,g,E,E',h,hx,q=>b8 hP e _ _ _ _ _ _ (λx g1 q=>h.nx _ _ q) hx q
 |.kJ t e,N,N',Z,g,E,E',h,hx,q=>b8 hP e _ _ _ _ _ _ (λx g1 q=>v5 (λZ q=>h.nx _ _ q) q) hx q
 |.dF o i v,N,N',Z,g,E,E',h,hx,q=>b8 hP v _ _ _ _ _ _ (λx g1 q=>b8 hP o _ _ _ _ _ _ (λy g2 q=>b8 hP i _ _ _ _ _ _ (λz g3 q=>S7 (λg q=>h.nx _ _ q) q) hx q) hx q) hx q
 |.gE f cs o v,N,N',Z,g,E,E',h,hx,q=>b8 hP v _ _ _ _ _ _ (λx g1 q=>b8 hP o _ _ _ _ _ _ (λy g2 q=>Yn (λg q=>h.nx _ _ q) q) hx q) hx q
 | .uX f cs o v,N,N',Z,g,E,E',h,hx,q=>b8 hP o _ _ _ _ _ _ (λy g1 q=>by
   obtain⟨a,c,fs,x,q1,q2,q3,q4,q⟩:=q;exact ⟨a,c,fs,x,q1,q2,q3,q4,b8 hP v _ _ _ _ _ _ (λz g3 q=>p8 (λw g4 q=>by
    obtain⟨oJ,k1,k2,k3⟩:=q;exact ⟨oJ,k1,k2,h.nx _ _ k3⟩) q) hx q⟩) hx q
 |.vT o1 i1 o2 i2 e,N,N',Z,g,E,E',h,hx,q=>b8 hP e _ _ _ _ _ _ (λx g1 q=>let ⟨u,v,q1,q⟩:=q;⟨u,v,q1,b8 hP o1 _ _ _ _ _ _ (λy g2 q=>b8 hP i1 _ _ _ _ _ _ (λz g3 q=>S7 (λg4 q=>b8 hP o2 _ _ _ _ _ _ (λy g5 q=>b8 hP i2 _ _ _ _ _ _ (λz g6 q=>S7 (λg q=>h.nx _ _ q) q) hx q) hx q) q) hx q) hx q⟩) hx q
 |.jP i p v,N,N',Z,g,E,E',h,hx,q=>let ⟨x,q1,q⟩:=q;⟨x,q1,b8 hP v _ _ _ _ _ _ (λz g1 q=>p8 (λw g2 q=>h.nx _ _ q) q) hx q⟩
 |.ifs c a b,N,N',Z,g,E,E',h,hx,q=>n6 hP c _ _ _ _ _ _ (λt g1 q=>E3 (λq=>wpS_mono hP a _ _ _ _ _ _ h hx q) (λq=>wpS_mono hP b _ _ _ _ _ _ h hx q) q) hx q
 |.cS t it b,N,N',Z,g,E,E',h,hx,q=>y9 hP it _ _ _ _ _ _ (λk g1 q=>Yv h.nx (λx N2 Z g q=>v5 (λbW q=>wpS_mono hP b { N with nx:=N2,ct:=N2,bk:=N.nx } { N' with nx:=N2,ct:=N2,bk:=N'.nx } _ _ _ _ ⟨λ_ _ z=>z,h.rt,h.nx,λ_ _ z=>z⟩ hx q) q) q) hx q
 |.jA c b,N,N',Z,g,E,E',h,hx,q=>by
  obtain⟨W,w0,q⟩:=q;refine⟨W,w0,λm Z g w=>n6 hP c _ _ _ _ _ _ (λt g1 q=>E3 (λq=>?_) (h.nx _ _) q) hx (q m Z g w)⟩;obtain⟨N2,a,q⟩:=q;exact⟨N2,a,wpS_mono hP b { N with nx:=N2,ct:=N2,bk:=N.nx } { N' with nx:=N2,ct:=N2,bk:=N'.nx } _ _ _ _ ⟨λ_ _ z=>z,h.rt,h.nx,λ_ _ z=>z⟩ hx q⟩
 |.ret e,N,N',Z,g,E,E',h,hx,q=>b8 hP e _ _ _ _ _ _ h.rt hx q
 |.pC,N,N',Z,g,E,E',h,hx,q=>h.rt _ _ q
 |.brk,N,N',Z,g,E,E',h,hx,q=>h.bk _ _ q
 |.cont,N,N',Z,g,E,E',h,hx,q=>h.ct _ _ q
 |.raise x es,N,N',Z,g,E,E',h,hx,q=>u5 hP es _ _ _ _ _ _ (λvs g1 q=>⟨q.1,hx _ _ q.2⟩) hx q
 |.X9 b hs,N,N',Z,g,E,E',h,hx,q=>wpS_mono hP b _ _ _ _ _ _ h (λx g q=>FF hP h hx hs x g q) q
theorem a9(T:Nat->Option aS):∀k,i3 (b7 T k)
 |0=>λf xs g Q Q' E E' h hx q=>q.elim
 |k+1=>λf xs g Q Q' E E' h hx q=>by
  obtain⟨m,a,b,q⟩:=q;exact⟨m,a,b,wpS_mono (a9 T k) m.body ⟨λ_ g'=>Q .bx g',Q,λ_ _=>False,λ_ _=>False⟩ _ _ _ _ _ ⟨λ_ _ z=>h _ _ z,h,λ_ _ z=>z,λ_ _ z=>z⟩ hx q⟩
end M

namespace M
open PySem L2
def TupAt(K:PySem.W.Frag)(H:Hp)(a:Addr)(vs:List V):Prop :=
 H a=some (.tup vs)\/∃(o:Obj) (aQ:Array Value) (n:Nat),K.lookup a=some o/\o.cls=.type "tuple"/\o.dict=none/\o.data=.seq aQ n/\aQ.size<=sizeLine/\Vals vs aQ.toList
theorem TupAt.d{K:PySem.W.Frag}{H:Hp}{a:Addr}{vs:List V}(h:TupAt K H a vs):Co K H a vs:=h
theorem TupAt.sq{K:PySem.W.Frag}{H:Hp}{a:Addr}{vs:List V}(h:TupAt K H a vs):gU K H a vs:=h.d.sq
mutual
inductive d7(K:PySem.W.Frag)(ρ:List Addr)(H:Hp):D->V->Prop
 |bx:d7 K ρ H .bx .bx
 |bl (b:Bool):d7 K ρ H (.bl b) (.bl b)
 |int (i:Int):d7 K ρ H (.int i) (.int i)
 |str (x:Str):d7 K ρ H (.str x) (.str x)
 |ty (n:String):d7 K ρ H (.ty n) (.ty n)
 |ref {i:Nat} {a:Addr} (h:ρ[i]?=some a):d7 K ρ H (.ref i) (.ref a)
 |tup {l:List D} {a:Addr} {vs:List V} (h:TupAt K H a vs) (r:b9 K ρ H l vs):d7 K ρ H (.tup l) (.ref a)
inductive b9(K:PySem.W.Frag)(ρ:List Addr)(H:Hp):List D->List V->Prop
 |nil:b9 K ρ H [] []
 |cons {d:D} {v:V} {ds:List D} {vs:List V} (h:d7 K ρ H d v) (r:b9 K ρ H ds vs):b9 K ρ H (d::ds) (v::vs)
end
structure Ext(ρ:List Addr)(H:Hp)(bt:List Addr)(H':Hp):Prop where
 pre:∃more,bt=ρ++more
 tup:∀a xs,H a=some (.tup xs)->H' a=some (.tup xs)
theorem Ext.refl(ρ:List Addr)(H:Hp):Ext ρ H ρ H:=⟨⟨[],by simp⟩,λ_ _ h=>h⟩
theorem Ext.trans{ρ H bJ H1 dS H2}(a:Ext ρ H bJ H1)(b:Ext bJ H1 dS H2):Ext ρ H dS H2:=by
 obtain⟨⟨m,rfl⟩,t⟩:=a;obtain⟨⟨m',rfl⟩,t'⟩:=b;exact⟨⟨m++m',by simp⟩,λx xs h=>t' _ _ (t _ _ h)⟩
theorem Ext.get{ρ H bt H'}(e:Ext ρ H bt H'){i:Nat}{a:Addr}(h:ρ[i]?=some a):bt[i]?=some a:=by
 obtain⟨⟨m,rfl⟩,_⟩:=e;rw[aF (ak.mp h).1];exact h
theorem TupAt.ext{K ρ H bt H'}(e:Ext ρ H bt H'){a:Addr}{vs:List V}(h:TupAt K H a vs):TupAt K H' a vs:=h.elim (λz=>.inl (e.tup _ _ z)) .inr
mutual
theorem d7.ext{K ρ H bt H'}(e:Ext ρ H bt H'):∀{d v},d7 K ρ H d v->d7 K bt H' d v
 |_,_,.bx=>.bx
 |_,_,.bl b=>.bl b
 |_,_,.int i=>.int i
 |_,_,.str x=>.str x
 |_,_,.ty n=>.ty n
 |_,_,.ref h=>.ref (e.get h)
 |_,_,.tup h r=>.tup (h.ext e) (b9.ext e r)
theorem b9.ext{K ρ H bt H'}(e:Ext ρ H bt H'):∀{ds vs},b9 K ρ H ds vs->b9 K bt H' ds vs
 |_,_,.nil=>.nil
 |_,_,.cons h r=>.cons (d7.ext e h) (b9.ext e r)
end
theorem b9.length{K ρ H}{ds:List D}{vs:List V}(h:b9 K ρ H ds vs):ds.length=vs.length:=by
 induction ds generalizing vs with
 |nil=>cases h;rfl
 |cons d ds ih =>
  cases h with
  |cons q r=>simp[ih r]
theorem b9.get{K ρ H}:∀{ds vs} {i:Nat} {d:D},b9 K ρ H ds vs->ds[i]?=some d->∃v,vs[i]?=some v/\d7 K ρ H d v
 |_,_,_,_,.nil,h=>by simp at h
 |_,_,0,_,.cons h _,e=>by simp at e;subst e;exact⟨_,rfl,h⟩
 |_,_,i+1,d,.cons _ r,e=>by
  obtain⟨v,h1,h2⟩:=b9.get (i:=i) (d:=d) r (by simpa using e);exact⟨v,by simpa using h1,h2⟩
theorem b9.set{K ρ H}{d:D}{v:V}(h:d7 K ρ H d v):∀{ds vs} (i:Nat),b9 K ρ H ds vs->b9 K ρ H (ds.set i d) (vs.set i v)
 |_,_,_,.nil=>.nil
 |_,_,0,.cons _ r=>.cons h r
 |_,_,i+1,.cons q r=>.cons q (b9.set h i r)
theorem b9.append{K ρ H}{ds es:List D}{vs ws:List V}(h:b9 K ρ H ds vs)(s:b9 K ρ H es ws):b9 K ρ H (ds++es) (vs++ws):=by
 induction ds generalizing vs with
 |nil=>cases h;exact s
 |cons d ds ih =>
  cases h with
  |cons q r=>exact .cons q (ih r)
theorem b9.rep{K ρ H}{ds:List D}{vs:List V}(r:b9 K ρ H ds vs):∀n,b9 K ρ H (List.replicate n ds).flatten (List.replicate n vs).flatten
 |0=>.nil
 |n+1=>by
  rw[bO,bO,cG,cG];exact b9.append r (b9.rep r n)
theorem b9.erase{K ρ H}:∀{ds:List D} {vs:List V} (i:Nat),b9 K ρ H ds vs->b9 K ρ H (ds.eraseIdx i) (vs.eraseIdx i)
 |_,_,_,.nil=>.nil
 |_,_,0,.cons _ r=>r
 |_,_,i+1,.cons q r=>.cons q (b9.erase i r)
theorem b9.take{K ρ H}:∀{ds:List D} {vs:List V} (n:Nat),b9 K ρ H ds vs->b9 K ρ H (ds.take n) (vs.take n)
 |_,_,0,_=>.nil
 |_,_,_+1,.nil=>.nil
 |_,_,n+1,.cons h r=>.cons h (b9.take n r)
theorem b9.drop{K ρ H}:∀{ds:List D} {vs:List V} (n:Nat),b9 K ρ H ds vs->b9 K ρ H (ds.drop n) (vs.drop n)
 |_,_,0,r=>r
 |_,_,_+1,.nil=>.nil
 |_,_,n+1,.cons _ r=>b9.drop n r
theorem b9.reverse{K ρ H}:∀{ds:List D} {vs:List V},b9 K ρ H ds vs->b9 K ρ H ds.reverse vs.reverse
 |_,_,.nil=>.nil
 |_,_,.cons h r=>by
  rw[fW,fW];exact b9.append (b9.reverse r) (.cons h .nil)
theorem b9.cut{K ρ H}{ds:List D}{vs:List V}(r:b9 K ρ H ds vs)(lo hi:Option Int):b9 K ρ H (M.cut ds lo hi) (R9 vs lo hi):=by
 unfold M.cut R9;rw[r.length];exact(r.drop _).take _
theorem b9.ints{K ρ H}:∀{ns:List Int} {vs:List V},b9 K ρ H (ns.map D.int) vs->vs=ns.map V.int
 |[],_,.nil=>rfl
 |_::_,_,.cons h r=>by cases h;rw[b9.ints r];rfl
theorem b9.ofInts{K ρ H}:∀(ns:List Int),b9 K ρ H (ns.map D.int) (ns.map V.int)
 |[]=>.nil
 |n::r=>.cons (.int n) (b9.ofInts r)
def rP(K:PySem.W.Frag)(H:Hp)(a:Addr)(vs:List V):Prop :=
 (∃o,H a=some (.jj o (.lst vs)))\/∃(o:Obj) (aQ:Array Value) (n:Nat),K.lookup a=some o/\o.cls=.type "list"/\o.dict=none/\o.data=.seq aQ n/\aQ.size<=sizeLine/\Vals vs aQ.toList
theorem rP.sq{K:PySem.W.Frag}{H:Hp}{a:Addr}{vs:List V}(h:rP K H a vs):fh K H a vs:=h.elim (λ⟨o,z⟩=>.inl (.inr ⟨o,z⟩)) .inr
inductive i6{α:Type}(K:PySem.W.Frag)(ρ:List Addr)(H:Hp):List (α×D)->List (α×V)->Prop
 |nil:i6 K ρ H [] []
 |cons {k:α} {d:D} {v:V} {ds:List (α×D)} {vs:List (α×V)} (h:d7 K ρ H d v) (r:i6 K ρ H ds vs):i6 K ρ H ((k,d)::ds) ((k,v)::vs)
theorem i6.ext{α:Type}{K ρ H bt H'}(e:Ext ρ H bt H'){ds:List (α×D)}{vs:List (α×V)}(h:i6 K ρ H ds vs):i6 K bt H' ds vs:=by
 induction h with
 |nil=>exact .nil
 |cons h r ih=>exact .cons (h.ext e) ih
theorem i6.length{α:Type}{K ρ H}{ds:List (α×D)}{vs:List (α×V)}(h:i6 K ρ H ds vs):ds.length=vs.length:=by
 induction h with
 |nil=>rfl
 |cons h r ih=>simp[ih]
def qw(K:PySem.W.Frag)(ρ:List Addr)(H:Hp):Option D->Option V->Prop
 |some d,some v=>d7 K ρ H d v
 |none,none=>True
 |_,_=>False
theorem i6.val{K ρ H}:∀{ds vs} (k:Key),i6 K ρ H ds vs->qw K ρ H (p6 ds k) (J7 vs k)
 |_,_,k,.nil=>trivial
 |_,_,k,.cons (k:=k') h r=>by
  unfold p6 J7;rw[dQ,dQ];by_cases e:k'=k
  ·simp only[e,decide_true];exact h
  ·simp only[e,decide_false];exact i6.val k r
theorem i6.ID{K ρ H}:∀{ds vs} (k:Key),i6 K ρ H ds vs->(ds.any λkv=>decide (kv.1=k))=(vs.any λkv=>decide (kv.1=k))
 |_,_,k,.nil=>rfl
 |_,_,k,.cons h r=>by simp only[List.any_cons,i6.ID k r]
theorem i6.snoc{K ρ H}{k:Key}{d:D}{v:V}(h:d7 K ρ H d v){ds vs}(t:i6 K ρ H ds vs):i6 K ρ H (ds++[(k,d)]) (vs++[(k,v)]):=by
 induction ds generalizing vs with
 |nil=>cases t;exact .cons h .nil
 |cons d ds ih =>
  cases t with
  |cons q r=>exact .cons q (ih r)
theorem i6.Au{K ρ H}{k:Key}{d:D}{v:V}(h:d7 K ρ H d v):∀{ds vs},i6 K ρ H ds vs->i6 K ρ H (ds.map λkv=>if kv.1=k then(kv.1,d) else kv) (vs.map λkv=>if kv.1=k then(kv.1,v) else kv)
 |_,_,.nil=>.nil
 |_,_,.cons (k:=k') q r=>by
  simp only[List.map_cons];by_cases e:k'=k
  ·rw[aH e,aH e];exact .cons h (i6.Au h r)
  ·rw[az e,az e];exact .cons q (i6.Au h r)
theorem i6.put{K ρ H}{k:Key}{d:D}{v:V}(h:d7 K ρ H d v){ds vs}(r:i6 K ρ H ds vs):i6 K ρ H (putD ds k d) (putK vs k v):=by
 unfold putD putK;rw[r.ID k];split
 ·exact r.Au h
 ·exact r.snoc h
noncomputable abbrev o8(K:PySem.W.Frag)(x:Str)(C:Addr):Prop:=PySem.W.nsIn K mainGlobals x=some (some (.ref C))
theorem i6.look{K ρ H}{ds:List (Str×D)}{vs:List (Str×V)}(f:Str)(h:i6 K ρ H ds vs):qw K ρ H (ds.lookup f) (vs.lookup f):=by
 induction h with
 |nil=>trivial
 |cons h r ih =>
  rename_i k d v ds vs;rw[cg,cg];cases f==k
  ·exact ih
  ·exact h
theorem i6.A2{K ρ H}{f:Str}{d:D}{v:V}(h:d7 K ρ H d v){ds:List (Str×D)}{vs:List (Str×V)}(r:i6 K ρ H ds vs):i6 K ρ H (j6 f d ds) (L2.A2 f v vs):=by
 induction r with
 |nil=>exact .cons h .nil
 |cons q r ih =>
  unfold j6 L2.A2;split
  ·exact .cons h r
  ·exact .cons q ih
theorem GA{f:Str}{d:D}{p:Str->Prop}(hf:p f):∀{ds:List (Str×D)},(∀x∈ds,p x.1)->∀x∈j6 f d ds,p x.1
 |[],_,x,hx=>by
  have:x=(f,d):=by simpa[j6] using hx
  rw[this];exact hf
 |(k,e)::r,h,x,hx=>by
  unfold j6 at hx;split at hx
  ·rcases aG.mp hx with z|z
   ·rw[z];exact h (k,e) (by simp)
   ·exact h x (by simp[z])
  ·rcases aG.mp hx with z|z
   ·rw[z];exact h (k,e) (by simp)
   ·exact GA hf (λy hy=>h y (by simp[hy])) x z
def OH(K:PySem.W.Frag)(ρ:List Addr)(H:Hp):O->HO->Prop
 |.lst l,.lst vs=>b9 K ρ H l vs
 |.dy kvs,.dK vs=>i6 K ρ H kvs vs
 |.set S n,.set S' n'=>S=S'/\n=n'
 |.ins c fs,.ins C _ vs=>o8 K c C/\jt K C/\i6 K ρ H fs vs/\∀x∈fs,A7 K C x.1
 |_,_=>False
theorem OH.ext{K ρ H bt H'}(e:Ext ρ H bt H'){o:O}{u:HO}(h:OH K ρ H o u):OH K bt H' o u:=by
 cases o<;>cases u<;>first|exact h.elim|exact b9.ext e h|exact i6.ext e h|exact⟨h.1,h.2.1,h.2.2.1.ext e,h.2.2.2⟩|exact h
theorem OH.rX{K ρ H}{o:O}{xs:List V}(h:OH K ρ H o (.tup xs)):False:=by cases o<;>exact h
theorem OH.Vj{K ρ H}{o:O}{ob:Obj}{u:HO}(h:OH K ρ H o (.jj ob u)):False:=by cases o<;>exact h
def F5(K:PySem.W.Frag)(ρ:List Addr)(H:Hp)(o:O)(a:Addr):Prop:=match o with
 |.nH l=>∃vs,rP K H a vs/\b9 K ρ H l vs
 |o=>∃u,H a=some u/\OH K ρ H o u
theorem F5.of{K ρ H}{o:O}{a:Addr}{u:HO}(hu:H a=some u)(h:OH K ρ H o u):F5 K ρ H o a:=by
 cases o<;>first|exact⟨u,hu,h⟩|(cases u<;>exact h.elim)
theorem F5.inv{K ρ H}{o:O}{a:Addr}(m:o.mut=true)(h:F5 K ρ H o a):∃u,H a=some u/\OH K ρ H o u:=by
 cases o<;>first|exact h|cases m
theorem F5.lst{K ρ H}{l:List D}{a:Addr}(h:F5 K ρ H (.lst l) a):∃vs,H a=some (.lst vs)/\b9 K ρ H l vs:=by
 obtain⟨u,h1,h2⟩:=h;cases u<;>first|exact⟨_,h1,h2⟩|exact h2.elim
theorem F5.dy{K ρ H}{l:List (Key×D)}{a:Addr}(h:F5 K ρ H (.dy l) a):∃vs,H a=some (.dK vs)/\i6 K ρ H l vs:=by
 obtain⟨u,h1,h2⟩:=h;cases u<;>first|exact⟨_,h1,h2⟩|exact h2.elim
theorem F5.set{K ρ H}{S:Int->Bool}{n:Nat}{a:Addr}(h:F5 K ρ H (.set S n) a):H a=some (.set S n):=by
 obtain⟨u,h1,h2⟩:=h;cases u<;>first|(obtain⟨rfl,rfl⟩:=(show _/\_ from h2);exact h1)|exact h2.elim
theorem F5.ins{K ρ H}{c:Str}{fs:List (Str×D)}{a:Addr}(h:F5 K ρ H (.ins c fs) a):∃C dx vs,H a=some (.ins C dx vs)/\o8 K c C/\jt K C/\i6 K ρ H fs vs/\∀x∈fs,A7 K C x.1:=by
 obtain⟨u,h1,h2⟩:=h;cases u<;>first|exact⟨_,_,_,h1,h2⟩|exact h2.elim
structure Rl(K:PySem.W.Frag)(ρ:List Addr)(g:G)(H:Hp):Prop where
 len:ρ.length=g.length
 obj:∀(i:Nat) o a,g[i]?=some o->ρ[i]?=some a->F5 K ρ H o a
 nd:∀(i j:Nat) o o' a,g[i]?=some o->g[j]?=some o'->o.mut=true->o'.mut=true->ρ[i]?=some a->ρ[j]?=some a->i=j
section
variable{K:PySem.W.Frag}{ρ:List Addr}{g:G}{H:Hp}
theorem Rl.lst(R:Rl K ρ g H){i:Nat}{l:List D}{a:Addr}(h:g[i]?=some (.lst l))(ha:ρ[i]?=some a):∃vs,H a=some (.lst vs)/\b9 K ρ H l vs:=(R.obj _ _ _ h ha).lst
theorem Rl.dy(R:Rl K ρ g H){i:Nat}{l:List (Key×D)}{a:Addr}(h:g[i]?=some (.dy l))(ha:ρ[i]?=some a):∃vs,H a=some (.dK vs)/\i6 K ρ H l vs:=(R.obj _ _ _ h ha).dy
theorem Rl.set(R:Rl K ρ g H){i:Nat}{S:Int->Bool}{n:Nat}{a:Addr}(h:g[i]?=some (.set S n))(ha:ρ[i]?=some a):H a=some (.set S n):=(R.obj _ _ _ h ha).set
theorem Rl.ins(R:Rl K ρ g H){i:Nat}{c:Str}{fs:List (Str×D)}{a:Addr}(h:g[i]?=some (.ins c fs))(ha:ρ[i]?=some a):∃C dx vs,H a=some (.ins C dx vs)/\o8 K c C/\jt K C/\i6 K ρ H fs vs/\∀x∈fs,A7 K C x.1:=(R.obj _ _ _ h ha).ins
theorem Rl.items(R:Rl K ρ g H){i:Nat}{l:List D}{a:Addr}(h:d0 g i=some l)(ha:ρ[i]?=some a):∃vs,fh K H a vs/\b9 K ρ H l vs:=by
 cases e:g[i]? with
 |none=>rw[d0,e] at h;cases h
 |some o =>
  rw[d0,e] at h;have q:=R.obj _ _ _ e ha;cases o with
  |lst m=>cases h;obtain⟨vs,z,r⟩:=q.lst;exact⟨vs,fh.of z,r⟩
  |nH m=>cases h;obtain⟨vs,z,r⟩:=q;exact⟨vs,z.sq,r⟩
  |_=>cases h
theorem t8{p:Addr}{o:HO}(hp:H p=none):Ext ρ H ρ (upd H p o):=⟨⟨[],by simp⟩,λa xs h=>by rw[f9 (j8 h hp)];exact h⟩
theorem rP.upd{p a:Addr}{o:HO}{vs:List V}(h:rP K H a vs)(hp:∀ob u,H p≠some (.jj ob u)):rP K (upd H p o) a vs:=by
 rcases h with⟨ob,z⟩|z
 ·refine .inl ⟨ob,?_⟩;rw[f9 ?_]
  ·exact z
  ·intro e;subst e;exact hp _ _ z
 ·exact .inr z
theorem F5.upd{p a:Addr}{o:O}{u:HO}{bt:List Addr}(h:F5 K ρ H o a)(dw:o.mut=true->a≠p)(hp:∀ob u,H p≠some (.jj ob u))(e:Ext ρ H bt (L2.upd H p u)):F5 K bt (L2.upd H p u) o a:=by
 cases hm:o.mut with
 |true =>
  obtain⟨u',h1,h2⟩:=h.inv hm;exact .of (by rw[f9 (dw hm)];exact h1) (h2.ext e)
 |false =>
  cases o<;>first|cases hm|skip
  obtain⟨vs,z,r⟩:=h;exact⟨vs,z.upd hp,r.ext e⟩
theorem Rl.grow{p:Addr}{o:HO}(R:Rl K ρ g H)(hp:H p=none):Rl K ρ g (upd H p o):=by
 have e:Ext ρ H ρ (upd H p o):=t8 hp;refine⟨R.len,λi ob a h1 h2=>?_,R.nd⟩;have q:=R.obj _ _ _ h1 h2;refine q.upd (λhm=>?_) (λob u z=>by rw[hp] at z;cases z) e;obtain⟨u,h1,_⟩:=q.inv hm;exact j8 h1 hp
theorem Rl.B6(R:Rl K ρ g H)(p:Addr):(ρ++[p])[g.length]?=some p:=by rw[<- R.len];simp
theorem L8{p:Addr}{o:HO}(hp:H p=none):Ext ρ H (ρ++[p]) (upd H p o):=⟨⟨[p],rfl⟩,(t8 (ρ:=ρ) hp).tup⟩
theorem Rl.new{p:Addr}{o:O}{u:HO}(R:Rl K ρ g H)(hp:H p=none)(r:OH K ρ H o u):Rl K (ρ++[p]) (g++[o]) (upd H p u):=by
 have e:Ext ρ H (ρ++[p]) (upd H p u):=L8 hp;have old:∀{i:Nat} {ob:O} {a:Addr},g[i]?=some ob->(ρ++[p])[i]?=some a->ρ[i]?=some a:=λ{i ob a} h1 h2=>by
  rw[aF (by rw[R.len];exact(ak.mp h1).1)] at h2;exact h2
 have split:∀{i:Nat} {ob:O},(g++[o])[i]?=some ob->g[i]?=some ob\/(i=g.length/\ob=o):=λ{i ob} h=>by
  rcases eB i g.length with q|q|q
  ·rw[aF q] at h;exact .inl h
  ·subst q;simp at h;exact .inr ⟨rfl,h.symm⟩
  ·rw[bf (by simp;omega)] at h;cases h
 refine⟨by simp[R.len],λi ob a h1 h2=>?_,λi j o1 o2 a h1 h2 m1 m2 h3 h4=>?_⟩
 ·rcases split h1 with q|⟨rfl,rfl⟩
  ·have z:=R.obj _ _ _ q (old q h2);refine z.upd (λhm=>?_) (λob u z=>by rw[hp] at z;cases z) e;obtain⟨u,h1,_⟩:=z.inv hm;exact j8 h1 hp
  ·rw[R.B6] at h2;cases h2;exact .of n8 (r.ext e)
 ·have nq:∀{i:Nat} {o:O} {a:Addr},g[i]?=some o->o.mut=true->ρ[i]?=some a->a≠p:=λ{i o a} h1 hm h2=>by
   obtain⟨u,z,_⟩:=(R.obj _ _ _ h1 h2).inv hm;exact j8 z hp
  rcases split h1 with q|⟨rfl,_⟩
  ·rcases split h2 with q'|⟨rfl,_⟩
   ·exact R.nd _ _ _ _ _ q q' m1 m2 (old q h3) (old q' h4)
   ·rw[R.B6] at h4;cases h4;exact absurd rfl (nq q m1 (old q h3))
  ·rcases split h2 with q'|⟨rfl,_⟩
   ·rw[R.B6] at h3;cases h3;exact absurd rfl (nq q' m2 (old q' h4))
   ·rfl
theorem Rl.alloc{p:Addr}{l:List D}{vs:List V}(R:Rl K ρ g H)(hp:H p=none)(r:b9 K ρ H l vs):Rl K (ρ++[p]) (g++[.lst l]) (upd H p (.lst vs)):=R.new hp r
theorem Rl.put{i:Nat}{a:Addr}{o o':O}{u:HO}(R:Rl K ρ g H)(h:g[i]?=some o)(hm:o.mut=true)(ha:ρ[i]?=some a)(r:OH K ρ H o' u) :
  Rl K ρ (g.set i o') (upd H a u)/\Ext ρ H ρ (upd H a u):=by
 obtain⟨u0,z0,Dn⟩:=(R.obj _ _ _ h ha).inv hm;have e:Ext ρ H ρ (upd H a u):=⟨⟨[],by simp⟩,λb xs q=>by rw[f9];exact q;intro z;subst z;rw[z0] at q;cases q;exact Dn.rX⟩
 refine⟨⟨by simp[R.len],λj ob b h1 h2=>?_,λj k o1 o2 b h1 h2 m1 m2 h3 h4=>?_⟩,e⟩
 ·by_cases iY:i=j
  ·subst iY;rw[ha] at h2;cases h2;have hi:i<g.length:=(ak.mp h).1;rw[aO hi] at h1;cases h1;exact .of n8 (r.ext e)
  ·rw[aw iY] at h1;refine(R.obj _ _ _ h1 h2).upd (λqY ez=>?_) (λob u z=>by rw[z0] at z;cases z;exact Dn.Vj) e;subst ez;exact iY (R.nd _ _ _ _ _ h h1 hm qY ha h2)
 ·have back:∀{j:Nat} {m:O},(g.set i o')[j]?=some m->m.mut=true->∃m',g[j]?=some m'/\m'.mut=true:=λ{j m} q qY=>by
   by_cases iY:i=j
   ·subst iY;exact⟨o,h,hm⟩
   ·rw[aw iY] at q;exact⟨m,q,qY⟩
  obtain⟨_,q1,n1⟩:=back h1 m1;obtain⟨_,q2,n2⟩:=back h2 m2;exact R.nd _ _ _ _ _ q1 q2 n1 n2 h3 h4
theorem Rl.write{i:Nat}{a:Addr}{l l':List D}{vs:List V}(R:Rl K ρ g H)(h:g[i]?=some (.lst l))(ha:ρ[i]?=some a)(r:b9 K ρ H l' vs) :
  Rl K ρ (g.set i (.lst l')) (upd H a (.lst vs))/\Ext ρ H ρ (upd H a (.lst vs)):=R.put h rfl ha r
end
structure m7(K:PySem.W.Frag)(ρ:List Addr)(H:Hp)(Z:S)(bH:St):Prop where
 len:Z.length=bH.length
 val:∀(i:Nat) d,Z[i]?=some (some d)->∃v,bH[i]?=some (some v)/\d7 K ρ H d v
section
variable{K:PySem.W.Frag}{ρ bt:List Addr}{H H':Hp}
theorem m7.ext{Z bH}(e:Ext ρ H bt H')(r:m7 K ρ H Z bH):m7 K bt H' Z bH:=⟨r.len,λi d h=>let ⟨v,a,b⟩:=r.val i d h;⟨v,a,b.ext e⟩⟩
theorem m7.set{Z bH d v}(r:m7 K ρ H Z bH)(i:Nat)(h:d7 K ρ H d v):m7 K ρ H (Z.set i (some d)) (bH.set i (some v)):=by
 refine⟨by simp[r.len],λj e q=>?_⟩;by_cases iY:i=j
 ·subst iY;have hi:i<Z.length:=by
   have:=(ak.mp q).1;simpa using this
  rw[aO hi] at q;cases q;exact⟨v,by rw[aO (by rw[<- r.len];exact hi)],h⟩
 ·rw[aw iY] at q ⊢;exact r.val j e q
theorem m7.start{ds vs}{n:Nat}(r:b9 K ρ H ds vs):m7 K ρ H (ds.map some++List.replicate (n-ds.length) none) (vs.map some++List.replicate (n-vs.length) none):=by
 refine⟨by simp[r.length],λi d h=>?_⟩;by_cases hi:i<ds.length
 ·rw[aF (by simpa using hi),ao] at h;cases e:ds[i]? with
  |none=>rw[e] at h;cases h
  |some x =>
   rw[e] at h;cases h;obtain⟨v,h1,h2⟩:=r.get e;refine⟨v,?_,h2⟩;rw[aF (by rw[ah,<- r.length];exact hi),ao,h1]
   rfl
 ·rw[cB (by simpa using hi),cR] at h;split at h<;>cases h
theorem m7.d4{Z bH}(r:m7 K ρ H Z bH)(d4:List Nat)(n:Nat):m7 K ρ H (E1 Z d4 n) (B3 bH d4 n):=by
 refine⟨by simp[E1,B3],λi d h=>?_⟩;unfold E1 at h;unfold B3;by_cases hi:i<d4.length
 ·rw[aF (by simpa using hi),ao,au hi] at h;rw[aF (by simpa using hi),ao,au hi];simp only[Option.map_some] at h ⊢;cases e:Z[d4[i]]? with
  |none=>rw[e] at h;cases h
  |some x =>
   rw[e] at h;have hx:x=some d:=aJ h;subst hx;obtain⟨v,h1,h2⟩:=r.val _ _ e;exact⟨v,by rw[h1];rfl,h2⟩
 ·rw[cB (by simpa using hi),cR] at h;split at h<;>cases h
end
end M

namespace M
open PySem L2 PySem.Spec PyProof.Rows
def LQ(K:PySem.W.Frag)(ρ:List Addr)(H:Hp)(Q:VK):KD:=λd g'=>∀bt H' v,Ext ρ H bt H'->Rl K bt g' H'->d7 K bt H' d v->Q v H'
theorem LQ.ext{K ρ H bJ H1 Q d g}(e:Ext ρ H bJ H1)(h:LQ K ρ H Q d g):LQ K bJ H1 Q d g:=λbt H' v e' R r=>h bt H' v (e.trans e') R r
theorem LQ.now{K ρ H Q d g v}(h:LQ K ρ H Q d g)(R:Rl K ρ g H)(r:d7 K ρ H d v):Q v H:=h ρ H v (.refl _ _) R r
theorem LQ.new{K ρ H Q}{g:G}{l:List D}{vs:List V}{p:Addr}(h:LQ K ρ H Q (.ref g.length) (g++[.lst l]))(R:Rl K ρ g H)(hp:H p=none)(r:b9 K ρ H l vs):Q (.ref p) (upd H p (.lst vs)) :=
 h (ρ++[p]) _ _ (L8 hp) (R.alloc hp r) (.ref (R.B6 p))
theorem LQ.tup{K ρ H Q}{g:G}{l:List D}{vs:List V}{p:Addr}(h:LQ K ρ H Q (.tup l) g)(R:Rl K ρ g H)(hp:H p=none)(r:b9 K ρ H l vs):Q (.ref p) (upd H p (.tup vs)) :=
 h ρ _ _ (t8 hp) (R.grow hp) (.tup (.inl n8) (r.ext (t8 hp)))
def r2(K:PySem.W.Frag)(p:Pr):R2:=λx y H Q=>∃d e g ρ,Rl K ρ g H/\d7 K ρ H d x/\d7 K ρ H e y/\cx p [d,e] g (LQ K ρ H Q)
def r1(K:PySem.W.Frag)(p:Pr):V->Hp->VK->Prop:=λx H Q=>∃d g ρ,Rl K ρ g H/\d7 K ρ H d x/\cx p [d] g (LQ K ρ H Q)
def rN(K:PySem.W.Frag)(p:Pr):List V->Hp->VK->Prop:=λxs H Q=>∃ds g ρ,Rl K ρ g H/\b9 K ρ H ds xs/\cx p ds g (LQ K ρ H Q)
theorem k6{n:Nat}(h:n<=100000):n<=sizeLine:=aC h (by decide)
theorem AU{n:Nat}(h:n<100000):n<sizeLine:=ax h (by decide)
theorem d7.i4{K ρ H i v}(h:d7 K ρ H (.int i) v):v=.int i:=by cases h;rfl
theorem d7.C3{K ρ H i v}(h:d7 K ρ H (.str i) v):v=.str i:=by cases h;rfl
theorem d7.K8{K ρ H i v}(h:d7 K ρ H (.bl i) v):v=.bl i:=by cases h;rfl
theorem d7.xo{K ρ H v}(h:d7 K ρ H .bx v):v=.bx:=by cases h;rfl
theorem d7.NL{K ρ H n v}(h:d7 K ρ H (.ty n) v):v=.ty n:=by cases h;rfl
theorem d7.i9{K ρ H i v}(h:d7 K ρ H (.ref i) v):∃a,v=.ref a/\ρ[i]?=some a:=by cases h;exact⟨_,rfl,by assumption⟩
theorem d7.J8{K ρ H l v}(h:d7 K ρ H (.tup l) v):∃a vs,v=.ref a/\TupAt K H a vs/\b9 K ρ H l vs:=by cases h;exact⟨_,_,rfl,by assumption,by assumption⟩
theorem b9.one{K ρ H d vs}(h:b9 K ρ H [d] vs):∃v,vs=[v]/\d7 K ρ H d v:=by
 cases h with
 |cons r rr=>cases rr;exact⟨_,rfl,r⟩
theorem b9.two{K ρ H d e vs}(h:b9 K ρ H [d,e] vs):∃v w,vs=[v,w]/\d7 K ρ H d v/\d7 K ρ H e w:=by
 cases h with
 |cons r rr=>obtain⟨w,rfl,q⟩:=rr.one;exact⟨_,_,rfl,r,q⟩
theorem w9{a b c d:D}(h:[a,b]=[c,d]):a=c/\b=d:=by cases h;exact⟨rfl,rfl⟩
section
variable{X:Cx}
theorem OM(op:Operator):eZ X (binaryOp op) (r2 X.K (.bin op)):=by
 intro pins s Z H x y v u Q I rx ry h;obtain⟨d,e,g,ρ,R,rd,re,d',g',h,q⟩:=h;rcases h with⟨i,j,r,ex,ha,rfl,rfl⟩|⟨rfl,h⟩|⟨rfl,h⟩
 ·obtain⟨rfl,rfl⟩:=w9 ex;obtain rfl:=rd.i4;obtain rfl:=re.i4;have fin:=q.now R (.int r);cases op<;>first|exact(show False from ha).elim|skip
  ·cases ha;exact OK pins s Z H _ _ v u Q I rx ry ⟨i,j,rfl,rfl,fin⟩
  ·cases ha;exact OU pins s Z H _ _ v u Q I rx ry ⟨i,j,rfl,rfl,fin⟩
  ·obtain⟨hc,rfl⟩:=ha;exact OQ pins s Z H _ _ v u Q I rx ry ⟨i,j,rfl,rfl,hc,fin⟩
  ·obtain⟨hc,rfl⟩:=ha;exact OP pins s Z H _ _ v u Q I rx ry ⟨i,j,rfl,rfl,hc,fin⟩
  ·obtain⟨hc,rfl⟩:=ha;exact OR pins s Z H _ _ v u Q I rx ry ⟨i,j,rfl,rfl,hc,fin⟩
  ·obtain⟨hc,rfl⟩:=ha;exact OT pins s Z H _ _ v u Q I rx ry ⟨i,j,rfl,rfl,hc,fin⟩
  ·cases ha;exact Vo pins s Z H _ _ v u Q I rx ry ⟨i,j,rfl,rfl,fin⟩
  ·cases ha;exact OL pins s Z H _ _ v u Q I rx ry ⟨i,j,rfl,rfl,fin⟩
  ·obtain⟨hc,rfl⟩:=ha;exact Rn pins s Z H _ _ v u Q I rx ry ⟨i,j,rfl,rfl,hc,fin⟩
 ·rcases h with⟨l,m,ex,hz,rfl,rfl⟩|⟨a,b,l,m,ex,ha,hb,hz,rfl,rfl⟩|⟨x',y',ex,hz,rfl,rfl⟩
  ·obtain⟨rfl,rfl⟩:=w9 ex;obtain⟨a,vs,rfl,ta,rs⟩:=rd.J8;obtain⟨b,ws,rfl,tb,rt⟩:=re.J8;refine ZF pins s Z H _ _ v u Q I rx ry ⟨a,b,vs,ws,rfl,rfl,ta.sq,tb.sq,?_,λz=>?_,λz=>?_,λp hp=>q.tup R hp (rs.append rt)⟩
   ·rw[<- rs.length,<- rt.length];exact k6 hz
   ·subst z;cases rs;exact q.now R (.tup tb rt)
   ·subst z;cases rt;rw[fj] at q;exact q.now R (.tup ta rs)
  ·obtain⟨rfl,rfl⟩:=w9 ex;obtain⟨a',rfl,ra⟩:=rd.i9;obtain⟨b',rfl,rb⟩:=re.i9;obtain⟨vs,z1,rs⟩:=R.lst ha ra;obtain⟨ws,z2,rt⟩:=R.lst hb rb;exact ON pins s Z H _ _ v u Q I rx ry ⟨_,_,vs,ws,rfl,rfl,z1,z2,by rw[<- rs.length,<- rt.length];exact k6 hz,λp hp=>q.new R hp (rs.append rt)⟩
  ·obtain⟨rfl,rfl⟩:=w9 ex;obtain rfl:=rd.C3;obtain rfl:=re.C3;exact Yh pins s Z H _ _ v u Q I rx ry ⟨_,_,rfl,rfl,k6 hz,q.now R (.str _)⟩
 ·rcases h with⟨a,l,n,ex,ha,h1,h2,hz,rfl,rfl⟩|⟨l,n,ex,dw,h1,h2,hz,rfl,rfl⟩
  rotate_left
  ·obtain⟨rfl,rfl⟩:=w9 ex;obtain⟨a',vs,rfl,ta,rs⟩:=rd.J8;obtain rfl:=re.i4;refine Rp pins s Z H _ _ v u Q I rx ry ⟨_,_,vs,rfl,rfl,ta.sq,λz=>?_,h1,h2,by rw[<- rs.length];exact k6 hz,λz=>?_,λp hp=>q.tup R hp (rs.rep _)⟩
   ·subst z;cases rs;exact dw rfl
   ·subst z;have:(List.replicate (Int.toNat 1) l).flatten=l:=by simp
    rw[this] at q;exact q.now R (.tup ta rs)
  obtain⟨rfl,rfl⟩:=w9 ex;obtain⟨a',rfl,ra⟩:=rd.i9;obtain rfl:=re.i4;obtain⟨vs,z1,rs⟩:=R.lst ha ra;exact OS pins s Z H _ _ v u Q I rx ry ⟨_,_,vs,rfl,rfl,z1,by omega,by omega,by rw[<- rs.length];exact k6 hz,λp hp=>q.new R hp (rs.rep _)⟩
theorem Vp(op:UnaryOp):yb X (unaryOp op) (r1 X.K (.un op)):=by
 intro pins s Z H x v Q I rx h;obtain⟨d,g,ρ,R,rd,d',g',⟨rfl,i,ex,rfl,rfl⟩,q⟩:=h;cases ex;obtain rfl:=rd.i4;exact QA pins s Z H _ v Q I rx ⟨_,rfl,q.now R (.int _)⟩
section
variable{ρ:List Addr}{g:G}{H:Hp}{pins:List (Addr×Obj)}{Z:L2.St}{s:Shared}
theorem GP(I:Inv X pins Z H s)(R:Rl X.K ρ g H)(n:Nat)(ih:∀{d:D} {v:V} {u:Value} {p:PyData},rd g n d=some p->d7 X.K ρ H d v->RelV v u->∃as,Reads s.heap u p as/\p.depth<=n){l:List D}:∀{vs:List V} {us:List Value} {ps:List PyData},l.mapM (rd g n)=some ps->b9 X.K ρ H l vs->Vals vs us->∃as,ReadsAll s.heap us ps as/\PyData.depthAll ps<=n:=by
 induction l with
 |nil =>
  intro vs us ps h rs rv;cases rs;cases rv;simp at h;subst h;exact⟨_,.nil,cz _⟩
 |cons d l il =>
  intro vs us ps h rs rv;cases rs with
  |cons gN rs =>
   cases rv with
   |cons ru rv =>
    rw[List.mapM_cons] at h;cases e:rd g n d with
    |none=>rw[e] at h;cases h
    |some p =>
     rw[e] at h;cases e2:l.mapM (rd g n) with
     |none=>rw[e2] at h;cases h
     |some qs =>
      rw[e2] at h;cases h;obtain⟨as,q1,d1⟩:=ih e gN ru;obtain⟨bs,q2,d2⟩:=il e2 rs rv;refine⟨_,.cons q1 q2,?_⟩;simp only[PyData.depthAll];omega
theorem Q6(I:Inv X pins Z H s)(R:Rl X.K ρ g H)(n:Nat):∀{d:D} {v:V} {u:Value} {p:PyData},rd g n d=some p->d7 X.K ρ H d v->RelV v u->∃as,Reads s.heap u p as/\p.depth<=n:=by
 induction n with
 |zero =>
  intro d v u p h r ru;cases r with
  |bx=>simp only[rd] at h;cases h;cases ru;exact⟨_,.none,Nat.zero_le _⟩
  |bl b=>simp only[rd] at h;cases h;cases ru;exact⟨_,.bool b,Nat.zero_le _⟩
  |int i=>simp only[rd] at h;cases h;obtain⟨t,rfl⟩:=ru;exact⟨_,.int i t,Nat.zero_le _⟩
  |str x=>simp only[rd] at h;cases h;obtain⟨t,rfl⟩:=ru;exact⟨_,.str x t,Nat.zero_le _⟩
  |_=>simp only[rd] at h;cases h
 |succ n ih =>
  intro d v u p h r ru;cases r with
  |bx=>simp only[rd] at h;cases h;cases ru;exact⟨_,.none,Nat.zero_le _⟩
  |bl b=>simp only[rd] at h;cases h;cases ru;exact⟨_,.bool b,Nat.zero_le _⟩
  |int i=>simp only[rd] at h;cases h;obtain⟨t,rfl⟩:=ru;exact⟨_,.int i t,Nat.zero_le _⟩
  |str x=>simp only[rd] at h;cases h;obtain⟨t,rfl⟩:=ru;exact⟨_,.str x t,Nat.zero_le _⟩
  |ty x=>simp only[rd] at h;cases h
  |ref ha =>
   rename_i i a;simp only[rd] at h;cases e:d0 g i with
   |none=>rw[e] at h;cases h
   |some l =>
    rw[e] at h;dsimp only at h;cases e2:l.mapM (rd g n) with
    |none=>rw[e2] at h;cases h
    |some ps =>
     rw[e2] at h;cases h;cases ru;obtain⟨vs,hq,rs⟩:=R.items e ha;obtain⟨aQ,rv,p,hz⟩:=I.list hq;obtain⟨as,q,hd⟩:=GP I R n ih e2 rs rv;obtain⟨o,ho,hc,k,pV⟩:=p.isList;refine⟨_,.list ho hc pV (by simpa using q),?_⟩;simp only[PyData.depth];omega
  |tup ht rs =>
   rename_i l a vs;simp only[rd] at h;cases e2:l.mapM (rd g n) with
   |none=>rw[e2] at h;cases h
   |some ps =>
    rw[e2] at h;cases h;cases ru;obtain⟨aQ,rv,pt,hz⟩:=I.tuple ht.sq;obtain⟨as,q,hd⟩:=GP I R n ih e2 rs rv;obtain⟨o,ho,hc,k,pV⟩:=id pt;refine⟨_,.tuple ho hc pV (by simpa using q),?_⟩;simp only[PyData.depth];omega
end
end
section
variable{X:Cx}
theorem xD{α:Type}[BEq α][LawfulBEq α][DecidableEq α](a b:α):decide (a=b)=(a==b):=by
 by_cases e:a=b
 ·subst e;simp
 ·rw[aE e];exact(cM.mpr e).symm
theorem W0{K ρ H}{d:D}{v:V}{c:Key}(h:U7 d=some c)(r:d7 K ρ H d v):v=kV c:=by
 cases r<;>first|(cases h;rfl)|cases h
theorem qw.some{K ρ H}{o:Option V}{d:D}(h:qw K ρ H (some d) o):∃v,o=some v/\d7 K ρ H d v:=by
 cases o with
 |none=>exact h.elim
 |some v=>exact⟨v,rfl,h⟩
theorem qw.isSome{K ρ H}{o:Option V}{d:Option D}(h:qw K ρ H d o):d.isSome=o.isSome:=by
 cases o<;>cases d<;>first|rfl|exact h.elim
theorem IM{pins:List (Addr×Obj)}{s:Shared}{Z:L2.St}{H:Hp}{ρ:List Addr}{g:G}{d e:D}{x y:V}{v u:Value}{b:Bool}{Q:VK}(hu:X.A.units+100<cLine)(I:Inv X pins Z H s)(rx:RelV x v)(ry:RelV y u)(R:Rl X.K ρ g H)(gN:d7 X.K ρ H d x)(re:d7 X.K ρ H e y)(h:uF g d e b)(neg:Bool)(q:Q (.bl (xor neg b)) H):wpAny (model X.prog X.w) X.A (compareOp (if neg then .NotEq else .Eq) v u) (EP X pins Z Q) X.xe s:=by
 rcases h with⟨i,j,rfl,rfl,rfl⟩|⟨i,j,rfl,rfl,rfl⟩|⟨i,j,rfl,rfl,rfl⟩|⟨p,p',h1,h2,c1,c2,rfl⟩
 ·obtain rfl:=gN.i4;obtain rfl:=re.i4;cases neg
  ·exact BJ pins s Z H _ _ v u Q I rx ry ⟨rfl,by rw[xE];simpa[xD] using q⟩
  ·exact BK pins s Z H _ _ v u Q I rx ry ⟨rfl,by rw[xE];simpa[xD] using q⟩
 ·obtain rfl:=gN.K8;obtain rfl:=re.K8;cases neg
  ·exact BJ pins s Z H _ _ v u Q I rx ry ⟨rfl,by rw[xk];simpa using q⟩
  ·exact BK pins s Z H _ _ v u Q I rx ry ⟨rfl,by rw[xk];simpa using q⟩
 ·obtain rfl:=gN.C3;obtain rfl:=re.C3;cases neg
  ·exact BJ pins s Z H _ _ v u Q I rx ry ⟨rfl,by rw[xF];simpa[xD] using q⟩
  ·exact BK pins s Z H _ _ v u Q I rx ry ⟨rfl,by rw[xF];simpa[xD] using q⟩
 ·obtain⟨as,q1,d1⟩:=Q6 I R 6 h1 gN rx;obtain⟨bs,q2,d2⟩:=Q6 I R 6 h2 re ry;have hr:X.A.units+min p.depth p'.depth<cLine:=by omega
  cases neg
  ·exact SeqAt.compareEq_reads q1 q2 c1 c2 hr ⟨.bl _,H,I,rfl,by simpa using q⟩
  ·exact SeqAt.compareNe_reads q1 q2 c1 c2 hr ⟨.bl _,H,I,rfl,by simpa using q⟩
theorem in_of{pins:List (Addr×Obj)}{s:Shared}{Z:L2.St}{H:Hp}{ρ:List Addr}{g:G}{d e:D}{x y:V}{v u:Value}{b:Bool}{Q:VK}(hu:X.A.units+100<cLine)(I:Inv X pins Z H s)(rx:RelV x v)(ry:RelV y u)(R:Rl X.K ρ g H)(gN:d7 X.K ρ H d x)(re:d7 X.K ρ H e y)(h:inR g d e b)(neg:Bool)(q:Q (.bl (xor neg b)) H):wpAny (model X.prog X.w) X.A (compareOp (if neg then .NotIn else .In) v u) (EP X pins Z Q) X.xe s:=by
 rcases h with⟨a,kvs,c,rfl,ha,hc,rfl⟩|⟨l,ps,p,h0,h1,h2,c1,c2,rfl⟩
 ·obtain⟨a',rfl,ra⟩:=re.i9;obtain⟨vs,z,rs⟩:=R.dy ha ra;have:=W0 hc gN;subst this;cases ry;rw[(rs.val c).isSome] at q;cases neg
  ·exact SR (by omega) I (O3.k z) rx λs' I'=>⟨.bl _,H,I',rfl,by simpa using q⟩
  ·exact QO (by omega) I (O3.k z) rx λs' I'=>⟨.bl _,H,I',rfl,by simpa using q⟩
 ·obtain⟨as,q1,d1⟩:=Q6 I R 6 h2 gN rx;cases e with
  |tup m =>
   cases h0;have h3:rd g 7 (.tup l)=some (.tuple ps):=by simp only[rd];rw[show l.mapM (rd g 6)=some ps from h1];rfl
   obtain⟨bs,q2,d2⟩:=Q6 I R 7 h3 re ry;have hr:X.A.units+1+min (PyData.depthAll ps) p.depth<cLine:=by omega
   cases neg
   ·exact SeqAt.in_tuple_reads q2 q1 c1 c2 hr ⟨.bl _,H,I,rfl,by simpa using q⟩
   ·exact SeqAt.notIn_tuple_reads q2 q1 c1 c2 hr ⟨.bl _,H,I,rfl,by simpa using q⟩
  |ref a =>
   have h3:rd g 7 (.ref a)=some (.list ps):=by
    simp only[rd];rw[show d0 g a=some l from h0];dsimp only;rw[show l.mapM (rd g 6)=some ps from h1]
    rfl
   obtain⟨bs,q2,d2⟩:=Q6 I R 7 h3 re ry;have hr:X.A.units+1+min (PyData.depthAll ps) p.depth<cLine:=by omega
   cases neg
   ·exact SeqAt.in_list_reads q2 q1 c1 c2 hr ⟨.bl _,H,I,rfl,by simpa using q⟩
   ·exact SeqAt.notIn_list_reads q2 q1 c1 c2 hr ⟨.bl _,H,I,rfl,by simpa using q⟩
  |_=>cases h0
theorem V7(hu:X.A.units+100<cLine)(op:CmpOp):eZ X (compareOp op) (r2 X.K (.cmp op)):=by
 intro pins s Z H x y v u Q I rx ry h;obtain⟨d,e,g,ρ,R,gN,re,d',g',⟨x',y',b,ex,h,rfl,rfl⟩,q⟩:=h;obtain⟨rfl,rfl⟩:=w9 ex;have fin:=q.now R (.bl b);have nv:∀{P:Int->Int->Bool},(∃i j,d=.int i/\e=.int j/\b=P i j)->∃i j,x=.int i/\y=.int j/\b=P i j:=λhh=>by
  obtain⟨i,j,z1,z2,z3⟩:=hh;exact⟨i,j,(z1▸gN).i4,(z2▸re).i4,z3⟩
 cases op
 ·exact IM hu I rx ry R gN re h false (by simpa using fin)
 ·exact IM hu I rx ry R gN re h true (by simpa using fin)
 ·obtain⟨i,j,e1,e2,e3⟩:=nv (P:=λi j=>decide (i<j)) h;exact Vn pins s Z H _ _ v u Q I rx ry ⟨i,j,e1,e2,by subst e3;exact fin⟩
 ·obtain⟨i,j,e1,e2,e3⟩:=nv (P:=λi j=>decide (i<=j)) h;exact Vm pins s Z H _ _ v u Q I rx ry ⟨i,j,e1,e2,by subst e3;exact fin⟩
 ·obtain⟨i,j,e1,e2,e3⟩:=nv (P:=λi j=>decide (j<i)) h;exact Vl pins s Z H _ _ v u Q I rx ry ⟨i,j,e1,e2,by subst e3;exact fin⟩
 ·obtain⟨i,j,e1,e2,e3⟩:=nv (P:=λi j=>decide (j<=i)) h;exact Vk pins s Z H _ _ v u Q I rx ry ⟨i,j,e1,e2,by subst e3;exact fin⟩
 ·obtain⟨rfl,rfl⟩:=(show _/\_ from h)
  obtain rfl:=re.xo;refine OO pins s Z H _ _ v u Q I rx ry ⟨rfl,?_⟩;have e:N1 d=decide (x=V.bx):=by cases gN<;>simp[N1]
  rw[<- e];exact fin
 ·obtain⟨rfl,rfl⟩:=(show _/\_ from h)
  obtain rfl:=re.xo;refine Ro pins s Z H _ _ v u Q I rx ry ⟨rfl,?_⟩;have e:N1 d=decide (x=V.bx):=by cases gN<;>simp[N1]
  rw[<- e];exact fin
 ·rcases h with h|⟨a,S,n,i,rfl,ha,rfl,rfl⟩
  ·exact in_of hu I rx ry R gN re h false (by simpa using fin)
  ·obtain⟨a',rfl,ra⟩:=re.i9;obtain rfl:=gN.i4;exact Xe pins s Z H _ _ v u Q I rx ry ⟨i,a',S,n,rfl,rfl,R.set ha ra,fin⟩
 ·rcases h with h|⟨a,S,n,i,rfl,ha,rfl,hb⟩
  ·exact in_of hu I rx ry R gN re h true (by simpa using fin)
  ·obtain⟨a',rfl,ra⟩:=re.i9;obtain rfl:=gN.i4;exact Vz pins s Z H _ _ v u Q I rx ry ⟨i,a',S,n,rfl,rfl,R.set ha ra,by rw[<- hb,sC];exact fin⟩
theorem empty_eq{K ρ H}{l:List D}{vs:List V}(r:b9 K ρ H l vs):l.isEmpty=vs.isEmpty:=by cases r<;>rfl
theorem Qx{K:PySem.W.Frag}{ρ:List Addr}{g:G}{H:Hp}{d:D}{x:V}{b:Bool}(R:Rl K ρ g H)(r:d7 K ρ H d x)(h:Fn g d b):Cn K x H b:=by
 rcases h with⟨rfl,rfl⟩|rfl|⟨i,rfl,rfl⟩|⟨l,rfl,rfl⟩|⟨a,l,rfl,hl,rfl⟩
 ·obtain rfl:=r.xo;rfl
 ·obtain rfl:=r.K8;rfl
 ·obtain rfl:=r.i4;rfl
 ·obtain⟨a,vs,rfl,ht,rs⟩:=r.J8;exact .inr (.inl ⟨_,ht.sq,by rw[empty_eq rs]⟩)
 ·obtain⟨a',rfl,ha⟩:=r.i9;obtain⟨vs,hq,rs⟩:=R.items hl ha;exact .inl ⟨_,hq,by rw[empty_eq rs]⟩
theorem QJ{K ρ H}{l:List D}{vs:List V}{i:Int}{d:D}(r:b9 K ρ H l vs)(h:fE l i=some d):∃v,fE vs i=some v/\d7 K ρ H d v:=by
 unfold fE at h ⊢;rw[<- r.length];cases e:ke l.length i with
 |none=>rw[e] at h;cases h
 |some j =>
  rw[e] at h;exact r.get h
theorem xt{K ρ H}{g:G}{x:D}{v:V}{l:List D}(R:Rl K ρ g H)(r:d7 K ρ H x v)(h:K5 g x=some l):∃a vs,v=.ref a/\b9 K ρ H l vs/\((∃i,x=.ref i/\ρ[i]?=some a)/\fh K H a vs\/x=.tup l/\TupAt K H a vs):=by
 cases r with
 |tup ht rs=>cases h;exact⟨_,_,rfl,rs,.inr ⟨rfl,ht⟩⟩
 |ref ha=>obtain⟨vs,hq,rs⟩:=R.items h ha;exact⟨_,_,rfl,rs,.inl ⟨⟨_,rfl,ha⟩,hq⟩⟩
 |_=>cases h
theorem UX(hu:X.A.units+100<cLine):qE X (r2 X.K .ix):=by
 intro value slice pins s Z H x y v u Q I rx ry h hs;obtain⟨d,e,g,ρ,R,gN,re,d',g',⟨rfl,h⟩,q⟩:=h;rcases h with⟨x',l,i,ex,hl,ha⟩|⟨a,kvs,y',c,ex,ha,hc,hv⟩|⟨x',i,c,ex,h0,h1,rfl⟩
 ·obtain⟨rfl,rfl⟩:=w9 ex;obtain rfl:=re.i4;obtain⟨a,vs,rfl,rs,h⟩:=xt R gN hl;obtain⟨w,hw,fz⟩:=QJ rs ha;rcases h with⟨_,hq⟩|⟨_,ht⟩
  ·exact HN value slice pins s Z H _ _ v u Q I rx ry ⟨_,_,i,w,rfl,rfl,hq,hw,q.now R fz⟩ hs
  ·exact Oq value slice pins s Z H _ _ v u Q I rx ry ⟨_,_,i,w,rfl,rfl,ht.sq,hw,q.now R fz⟩ hs
 ·obtain⟨rfl,rfl⟩:=w9 ex;obtain⟨a',rfl,ra⟩:=gN.i9;obtain⟨vs,z,rs⟩:=R.dy ha ra;have:=W0 hc re;subst this;have q2:=rs.val c;rw[hv] at q2;obtain⟨w,hw,fz⟩:=q2.some;exact QZ (by omega) value slice pins s Z H _ _ v u Q I rx ry ⟨_,w,rfl,by have:=O3.k (k:=c) z;rw[hw] at this;exact this,q.now R fz⟩ hs
 ·obtain⟨rfl,rfl⟩:=w9 ex;obtain rfl:=gN.C3;obtain rfl:=re.i4;exact Oo value slice pins s Z H _ _ v u Q I rx ry ⟨x',i,c,rfl,rfl,k6 h0,h1,q.now R (.str _)⟩ hs
end
end M

namespace M
open PySem L2 PySem.Spec PyProof.Rows
section
variable{X:Cx}
def Ka(K:PySem.W.Frag):V->Option Int->Option Int->Hp->VK->Prop:=λx lo hi H Q=>∃d g ρ d' g',Rl K ρ g H/\d7 K ρ H d x/\sR d lo hi g d' g'/\LQ K ρ H Q d' g'
theorem BP:vB X (Ka X.K):=by
 intro pins s Z H x v vl vu lo hi sl Q I rx hs pl pu h;obtain⟨d,g,ρ,d',g',R,gN,h,q⟩:=h;rcases h with⟨l,rfl,rfl,rfl⟩|⟨a,l,rfl,hl,rfl,rfl⟩
 ·obtain⟨a,vs,rfl,ht,rs⟩:=gN.J8;refine Sj pins s Z H _ v vl vu lo hi sl Q I rx hs pl pu ⟨_,_,rfl,ht.sq,λz=>?_,λp hp=>q.tup R hp (rs.cut lo hi)⟩;refine q.now R (.tup ht ?_);have:=rs.cut lo hi;rw[z] at this;exact this
 ·obtain⟨a',rfl,ha⟩:=gN.i9;obtain⟨vs,hq,rs⟩:=R.items hl ha;exact Si pins s Z H _ v vl vu lo hi sl Q I rx hs pl pu ⟨_,_,rfl,hq,λp hp=>q.new R hp (rs.cut lo hi)⟩
def TC(K:PySem.W.Frag):V->V->V->Hp->(Hp->Prop)->Prop:=λo i v H Q=>∃Ah di dv g ρ,Rl K ρ g H/\d7 K ρ H Ah o/\d7 K ρ H di i/\d7 K ρ H dv v/\U0 Ah di dv g (λg'=>∀bt H',Ext ρ H bt H'->Rl K bt g' H'->Q H')
theorem PZ(hu:X.A.units+100<cLine):Ck X (TC X.K):=by
 intro pins s Z H o i v ov iv u Q I ro ri rv h;obtain⟨Ah,di,dv,g,ρ,R,r1,r2,r3,g',h,q⟩:=h;rcases h with⟨a,i',l,j,rfl,rfl,hl,hj,rfl⟩|⟨a,kvs,c,rfl,ha,hc,hz,rfl⟩
 ·obtain⟨a',rfl,ha⟩:=r1.i9;obtain rfl:=r2.i4;obtain⟨vs,z,rs⟩:=R.lst hl ha;obtain⟨R',e'⟩:=R.write hl ha (rs.set r3 j);exact set_list pins s Z H _ _ _ ov iv u Q I ro ri rv ⟨_,vs,_,j,rfl,rfl,z,by rw[<- rs.length];exact hj,q ρ _ e' R'⟩
 ·obtain⟨a',rfl,ra⟩:=r1.i9;obtain⟨vs,z,rs⟩:=R.dy ha ra;have:=W0 hc r2;subst this;obtain⟨R',e'⟩:=R.put (o':=.dy (putD kvs c dv)) (u:=.dK (putK vs c v)) ha rfl ra (rs.put r3);cases ro;exact WL (by omega) I (xS.k z (by rw[<- rs.length];exact AU hz)) ri rv λs' I'=>⟨_,I',q ρ _ e' R'⟩
theorem Oz:k9 X (.builtin "len") (rN X.K .len):=by
 intro pins s Z H xs us Q I r h;obtain⟨ds,g,ρ,R,rs,d',g',⟨rfl,h⟩,q⟩:=h;rcases h with⟨x,l,rfl,hl,rfl⟩|⟨a,kvs,rfl,ha,rfl⟩|⟨x,rfl,hz,rfl⟩
 ·obtain⟨v,rfl,rv⟩:=rs.one;obtain⟨a,vs,rfl,rl,h⟩:=xt R rv hl;refine YV pins s Z H _ us Q I r ⟨_,_,rfl,?_,by rw[<- rl.length];exact q.now R (.int _)⟩;exact h.imp (λz=>z.2) (λz=>z.2.sq)
 ·obtain⟨v,rfl,rv⟩:=rs.one;obtain⟨a',rfl,ra⟩:=rv.i9;obtain⟨vs,z,rk⟩:=R.dy ha ra;exact WB pins s Z H _ us Q I r ⟨_,_,rfl,z,by rw[<- rk.length];exact q.now R (.int _)⟩
 ·obtain⟨v,rfl,rv⟩:=rs.one;obtain rfl:=rv.C3;exact YW pins s Z H _ us Q I r ⟨_,rfl,k6 hz,q.now R (.int _)⟩
theorem i6.keys{α:Type}{K ρ H}{ds:List (α×D)}{vs:List (α×V)}(h:i6 K ρ H ds vs):ds.map (·.1)=vs.map (·.1):=by
 induction h with
 |nil=>rfl
 |cons _ _ ih=>rw[aW,aW,ih]
theorem Rb(hc:X.calm=true):k9 X (.type "list") (rN X.K .list):=by
 intro pins s Z H xs us Q I r h;obtain⟨ds,g,ρ,R,rs,d',g',⟨x,l,rfl,hl,rfl,rfl⟩|⟨⟨⟩⟩,q⟩:=h;obtain⟨v,rfl,rv⟩:=rs.one;obtain⟨a,vs,rfl,rl,h⟩:=xt R rv hl;exact YX pins s Z H _ us Q I r ⟨_,_,rfl,h.imp (λz=>z.2) (λz=>z.2.sq),λp hp=>q.new R hp rl⟩
theorem Wn:k9 X (.type "tuple") (rN X.K .tuple):=by
 intro pins s Z H xs us Q I r h;obtain⟨ds,g,ρ,R,rs,d',g',⟨x,l,rfl,hl,rfl,rfl⟩,q⟩:=h;obtain⟨v,rfl,rv⟩:=rs.one;obtain⟨a,vs,rfl,rl,h⟩:=xt R rv hl;refine VD pins s Z H _ us Q I r ⟨a,vs,rfl,?_⟩;exact h.imp (λz=>⟨z.2,λp hp=>q.tup R hp rl⟩) (λz=>⟨z.2.sq,q.now R (.tup z.2 rl)⟩)
theorem QY:k9 X (.builtin "isinstance") (rN X.K .isin):=by
 intro pins s Z H xs us Q I r h;obtain⟨ds,g,ρ,R,rs,d',g',⟨x,c,b,rfl,hc,hb,rfl,rfl⟩,q⟩:=h;obtain⟨v,w,rfl,r1,r2⟩:=rs.two;obtain rfl:=r2.NL;have fin:=q.now R (.bl b);have go:∀(t:Value) (v:V),gp X.K H v t->PySem.W.kitOne X.K t (.type c)=some b->Vals [v,V.ty c] us->wpAny (model X.prog X.w) X.A (call (.builtin "isinstance") us) (EP X pins Z Q) X.xe s :=
  λt v ht hk r=>YC pins s Z H _ us Q I r ⟨v,t,c,b,rfl,ht,hk,fin⟩
 simp only[List.mem_cons,List.mem_nil_iff,or_false] at hc;cases r1 with
 |bx=>refine go _ _ .bx ?_ r;cases hb;rcases hc with rfl|rfl|rfl|rfl|rfl<;>rfl
 |bl y=>refine go _ _ (.bl y) ?_ r;cases hb;rcases hc with rfl|rfl|rfl|rfl|rfl<;>rfl
 |int y=>refine go _ _ (.int y) ?_ r;cases hb;rcases hc with rfl|rfl|rfl|rfl|rfl<;>rfl
 |str y=>refine go _ _ (.str y) ?_ r;cases hb;rcases hc with rfl|rfl|rfl|rfl|rfl<;>rfl
 |ty _=>cases hb
 |tup ht rs =>
  cases hb;rcases ht with ht|ht
  ·refine go _ _ (.tup ht) ?_ r;rcases hc with rfl|rfl|rfl|rfl|rfl<;>rfl
  ·obtain⟨o,aQ,n,lk,jr,_⟩:=ht;obtain⟨u,w',rfl,ru,fz⟩:=vals2 r;cases (show w'=Value.type c from fz);cases ru;have hk:PySem.W.kitOne X.K (.type "tuple") (.type c)=some (c=="tuple"):=by rcases hc with rfl|rfl|rfl|rfl|rfl<;>rfl
   exact bN Jx I.gf ⟨o,I.gf _ _ lk,jr⟩ hk (λz=>nomatch z) λtk=>⟨.bl _,H,I.tok tk,rfl,fin⟩
 |@ref i a ha =>
  have ui:∃m,g'[i]?=some (.lst m)/\b=(c=="list"):=by
   simp only[Ct] at hb;split at hb
   ·exact⟨_,by assumption,(aJ hb).symm⟩
   ·cases hb
  obtain⟨m,e,rfl⟩:=ui;obtain⟨vs,z,_⟩:=R.lst e ha;refine go _ _ (.lst z) ?_ r;rcases hc with rfl|rfl|rfl|rfl|rfl<;>rfl
theorem XH:∀{l:List D} {b:Bool},T9 l=some b->∃bs:List Bool,l=bs.map D.bl/\b=bs.all id:=by
 intro l
 induction l with
 |nil=>intro b h;cases h;exact⟨[],rfl,rfl⟩
 |cons d r ih =>
  intro b h;cases d<;>first|(cases h;done)|skip
  rename_i c;simp only[T9] at h;cases e:T9 r with
  |none=>rw[e] at h;cases h
  |some b' =>
   rw[e] at h;cases h;obtain⟨bs,rfl,rfl⟩:=ih e;exact⟨c::bs,rfl,by simp⟩
theorem b9.P'{K ρ H}:∀{bs:List Bool} {vs:List V},b9 K ρ H (bs.map D.bl) vs->vs=bs.map V.bl:=by
 intro bs
 induction bs with
 |nil=>intro vs h;cases h;rfl
 |cons b r ih =>
  intro vs h;cases h with
  |cons h rr=>rw[ih rr,h.K8];rfl
theorem NV(hc:X.calm=true):k9 X (.builtin "all") (rN X.K .all):=by
 intro pins s Z H xs us Q I r h;obtain⟨ds,g,ρ,R,rs,d',g',⟨a,l,b,rfl,hl,hb,rfl,rfl⟩,q⟩:=h;obtain⟨v,rfl,rv⟩:=rs.one;obtain⟨a',rfl,ra⟩:=rv.i9;obtain⟨vs,hq,rs⟩:=R.items hl ra;rcases hb with hb|⟨ns,rfl,rfl⟩
 rotate_left
 ·have:=rs.ints;subst this;exact WA hc pins s Z H _ us Q I r ⟨_,ns,rfl,hq,q.now R (.bl _)⟩
 obtain⟨bs,rfl,rfl⟩:=XH hb;have:=rs.P';subst this;exact Wz hc pins s Z H _ us Q I r ⟨_,bs,rfl,hq,q.now R (.bl _)⟩
theorem OE(hc:X.calm=true):k9 X (.builtin "max") (rN X.K .max):=by
 intro pins s Z H xs us Q I r h;obtain⟨ds,g,ρ,R,rs,d',g',⟨rfl,⟨i,j,rfl,rfl⟩|⟨a,ns,M,rfl,hl,h1,h2,rfl⟩⟩,q⟩:=h
 rotate_left
 ·obtain⟨v,rfl,rv⟩:=rs.one;obtain⟨a',rfl,ra⟩:=rv.i9;obtain⟨vs,hq,rs⟩:=R.items hl ra;have:=rs.ints;subst this;exact WD hc pins s Z H _ us Q I r ⟨_,ns,M,rfl,hq,h1,h2,q.now R (.int _)⟩
 obtain⟨v,w,rfl,r1,r2⟩:=rs.two;obtain rfl:=r1.i4;obtain rfl:=r2.i4;exact WC hc pins s Z H _ us Q I r ⟨i,j,rfl,q.now R (.int _)⟩
theorem OF(hc:X.calm=true):k9 X (.builtin "min") (rN X.K .min):=by
 intro pins s Z H xs us Q I r h;obtain⟨ds,g,ρ,R,rs,d',g',⟨rfl,⟨i,j,rfl,rfl⟩|⟨a,ns,M,rfl,hl,h1,h2,rfl⟩⟩,q⟩:=h
 rotate_left
 ·obtain⟨v,rfl,rv⟩:=rs.one;obtain⟨a',rfl,ra⟩:=rv.i9;obtain⟨vs,hq,rs⟩:=R.items hl ra;have:=rs.ints;subst this;exact WG hc pins s Z H _ us Q I r ⟨_,ns,M,rfl,hq,h1,h2,q.now R (.int _)⟩
 obtain⟨v,w,rfl,r1,r2⟩:=rs.two;obtain rfl:=r1.i4;obtain rfl:=r2.i4;exact WE hc pins s Z H _ us Q I r ⟨i,j,rfl,q.now R (.int _)⟩
theorem Ql(hc:X.calm=true):k9 X (.builtin "sum") (rN X.K .sum):=by
 intro pins s Z H xs us Q I r h;obtain⟨ds,g,ρ,R,rs,d',g',⟨a,ns,rfl,hl,rfl,rfl⟩,q⟩:=h;obtain⟨v,rfl,rv⟩:=rs.one;obtain⟨a',rfl,ra⟩:=rv.i9;obtain⟨vs,hq,rs⟩:=R.items hl ra;have:=rs.ints;subst this;exact WH hc pins s Z H _ us Q I r ⟨_,ns,rfl,hq,q.now R (.int _)⟩
theorem Oj:k9 X (.type "int") (rN X.K .int):=by
 intro pins s Z H xs us Q I r h;obtain⟨ds,g,ρ,R,rs,d',g',⟨rfl,h⟩,q⟩:=h;rcases h with⟨i,rfl,rfl⟩|⟨b,rfl,rfl⟩
 ·obtain⟨v,rfl,rv⟩:=rs.one;obtain rfl:=rv.i4;exact FL pins s Z H _ us Q I r (.inl ⟨i,rfl,q.now R (.int _)⟩)
 ·obtain⟨v,rfl,rv⟩:=rs.one;obtain rfl:=rv.K8;exact FL pins s Z H _ us Q I r (.inr ⟨b,rfl,q.now R (.int _)⟩)
def rM(K:PySem.W.Frag)(p:Pr):V->List V->Hp->VK->Prop:=λx xs H Q=>∃d ds g ρ,Rl K ρ g H/\d7 K ρ H d x/\b9 K ρ H ds xs/\cx p (d::ds) g (LQ K ρ H Q)
theorem xQ{a b:D}{l m:List D}(h:a::l=b::m):a=b/\l=m:=by cases h;exact⟨rfl,rfl⟩
theorem Wv:mK X "list.append" (rM X.K .append):=by
 intro pins s Z H x xs v us Q I rx r h;obtain⟨d,ds,g,ρ,R,rd,rs,d',g',⟨a,y,l,ex,ha,hz,rfl,rfl⟩,q⟩:=h;obtain⟨rfl,rfl⟩:=xQ ex;obtain⟨a',rfl,ra⟩:=rd.i9;obtain⟨w,rfl,fz⟩:=rs.one;obtain⟨vs,z1,rv⟩:=R.lst ha ra;obtain⟨R2,e2⟩:=R.write ha ra (rv.append (.cons fz .nil));exact Xa pins s Z H _ _ v us Q I rx r ⟨_,vs,_,rfl,rfl,z1,by rw[<- rv.length];exact AU hz,q ρ _ _ e2 R2 .bx⟩
theorem Oe(hu:X.A.units+100<cLine):mK X "dict.get" (rM X.K .get):=by
 intro pins s Z H x xs v us Q I rx r h;obtain⟨d,ds,g,ρ,R,rd,rs,d',g',⟨a,y,z,kvs,c,ex,ha,hc,rfl,rfl⟩,q⟩:=h;obtain⟨rfl,rfl⟩:=xQ ex;obtain⟨a',rfl,ra⟩:=rd.i9;obtain⟨w1,w2,rfl,r1,r2⟩:=rs.two;obtain⟨vs,z1,rv⟩:=R.dy ha ra;have:=W0 hc r1;subst this;obtain⟨u1,u2,rfl,p1,p2⟩:=vals2 r;cases rx;refine NZ (by omega) I (O3.k z1) p1 p2 λw' s4 I4 fz=>⟨_,H,I4,fz,q.now R ?_⟩
 have q:=rv.val c;cases e1:p6 kvs c with
 |none =>
  rw[e1] at q;cases e2:J7 vs c with
  |none=>exact r2
  |some w=>rw[e2] at q;exact q.elim
 |some d' =>
  rw[e1] at q;obtain⟨w,hw,q⟩:=q.some;rw[hw];exact q
theorem ZO:mK X "list.pop" (rM X.K .pop):=by
 intro pins s Z H x xs v us Q I rx r h;obtain⟨d,ds,g,ρ,R,rd,rs,y,g',⟨a,i,l,k,ex,ha,h1,h2,hk,hy,rfl⟩,q⟩:=h;obtain⟨rfl,rfl⟩:=xQ ex;obtain⟨a',rfl,ra⟩:=rd.i9;obtain⟨w,rfl,fz⟩:=rs.one;obtain rfl:=fz.i4;obtain⟨vs,z1,rv⟩:=R.lst ha ra;obtain⟨w,hw,fz⟩:=rv.get hy;obtain⟨R2,e2⟩:=R.write ha ra (rv.erase k);exact Zz pins s Z H _ _ v us Q I rx r ⟨_,vs,i,k,w,rfl,rfl,z1,h1,h2,by rw[<- rv.length];exact hk,hw,q ρ _ _ e2 R2 (fz.ext e2)⟩
theorem b9.strs{K ρ H}{ys:List Str}{vs:List V}(h:b9 K ρ H (ys.map D.str) vs):vs=ys.map V.str:=by
 induction ys generalizing vs with
 |nil=>cases h;rfl
 |cons y ys ih =>
  cases h with
  |cons q r=>cases q;rw[ih r];rfl
theorem ty_list{d:D}{v:V}{g:G}{ρ:List Addr}{H:Hp}(R:Rl X.K ρ g H)(r:d7 X.K ρ H d v)(h:∃a l,d=.ref a/\d0 g a=some l):mO X.K "list" v H:=by
 obtain⟨a,l,rfl,hl⟩:=h;obtain⟨a',rfl,ra⟩:=r.i9;obtain⟨vs,hq,_⟩:=R.items hl ra;exact .inl ⟨rfl,vs,hq⟩
theorem RP:mK X "set.add" (rM X.K .jC):=by
 intro pins s Z H x xs v us Q I rx r h;obtain⟨d,ds,g,ρ,R,rd,rs,d',g',⟨a,i,S,n,ex,ha,hn,rfl,rfl⟩,q⟩:=h;obtain⟨rfl,rfl⟩:=xQ ex;obtain⟨a',rfl,ra⟩:=rd.i9;obtain⟨w,rfl,fz⟩:=rs.one;obtain rfl:=fz.i4;obtain⟨R2,e2⟩:=R.put (o':=.set (λk=>S k||decide (k=i)) (if S i then n else n+1)) (u:=.set (λk=>S k||decide (k=i)) (if S i then n else n+1)) ha rfl ra ⟨rfl,rfl⟩;exact Yf pins s Z H _ _ v us Q I rx r ⟨_,i,S,n,rfl,rfl,R.set ha ra,hn,q ρ _ _ e2 R2 .bx⟩
theorem ty_set{d:D}{v:V}{g:G}{ρ:List Addr}{H:Hp}(R:Rl X.K ρ g H)(r:d7 X.K ρ H d v)(h:lx .jC d g):mO X.K "set" v H:=by
 obtain⟨a,S,n,rfl,hl⟩:=h;obtain⟨a',rfl,ra⟩:=r.i9;exact .inr (.inr (.inr ⟨rfl,S,n,R.set hl ra⟩))
theorem ty_dict{d:D}{v:V}{g:G}{ρ:List Addr}{H:Hp}(R:Rl X.K ρ g H)(r:d7 X.K ρ H d v)(h:lx .get d g):mO X.K "dict" v H:=by
 obtain⟨a,l,rfl,hl⟩:=h;obtain⟨a',rfl,ra⟩:=r.i9;obtain⟨vs,hq,_⟩:=R.dy hl ra;exact .inr (.inr (.inl ⟨rfl,.inl ⟨vs,hq⟩⟩))
end
end M

namespace M
open PySem L2 PySem.Spec PyProof.Rows
noncomputable abbrev gx:=List Str×XK
def LX(K:PySem.W.Frag)(ρ:List Addr)(H:Hp)(Ξ:gx):KX:=λx g'=>∀bt H' C,Ext ρ H bt H'->Rl K bt g' H'->x.cls∈Ξ.1->o8 K x.cls C->Ξ.2 (.ref C) none H'
theorem LX.ext{K:PySem.W.Frag}{ρ bJ:List Addr}{H H1:Hp}{Ξ:gx}(e:Ext ρ H bJ H1){x:Xn}{g:G}(h:LX K ρ H Ξ x g):LX K bJ H1 Ξ x g:=λbt H' C e' R hm c=>h bt H' C (e.trans e') R hm c
noncomputable abbrev mX(ex:List Str):gx:=(ex,λ_ _ _=>False)
def LE(K:PySem.W.Frag)(Ξ:gx)(t:S->G->KD->KX->Prop):TE:=λbH H Q=>∃Z g ρ,m7 K ρ H Z bH/\Rl K ρ g H/\t Z g (LQ K ρ H Q) (LX K ρ H Ξ)
def LT(K:PySem.W.Frag)(Ξ:gx)(t:S->G->(Bool->G->Prop)->KX->Prop):TT:=λbH H Q=>∃Z g ρ,m7 K ρ H Z bH/\Rl K ρ g H/\t Z g (λb g'=>∀bt H',Ext ρ H bt H'->Rl K bt g' H'->Q b H') (LX K ρ H Ξ)
def LA(K:PySem.W.Frag)(Ξ:gx)(t:S->G->(List D->G->Prop)->KX->Prop):TA:=λbH H Q=>∃Z g ρ,m7 K ρ H Z bH/\Rl K ρ g H/\t Z g (λds g'=>∀bt H' vs,Ext ρ H bt H'->Rl K bt g' H'->b9 K bt H' ds vs->Q vs H') (LX K ρ H Ξ)
def V1(K:PySem.W.Frag)(fx:List Addr)(H0:Hp)(k:IK)(J:It):Prop:=∀ρ g H,Ext fx H0 ρ H->Rl K ρ g H->∀i,(k.at i g=some none->J.stop i H) /\
 ∀d,k.at i g=some (some d)->J.go i H/\∀v H',J.pj i H v H'->Ext ρ H ρ H'/\Rl K ρ g H'/\d7 K ρ H' d v
def LI(K:PySem.W.Frag)(Ξ:gx)(t:S->G->(IK->G->Prop)->KX->Prop):TI:=λbH H R=>∃Z g ρ,m7 K ρ H Z bH/\Rl K ρ g H/\t Z g (λk g'=>∀bt H' J,Ext ρ H bt H'->Rl K bt g' H'->V1 K bt H' k J->R J H') (LX K ρ H Ξ)
def LG(K:PySem.W.Frag)(t:MT):TG:=λv bH H Q=>∃d Z g ρ,m7 K ρ H Z bH/\Rl K ρ g H/\d7 K ρ H d v/\iT t d Z (λbI=>∀cH,m7 K ρ H bI cH->Q cH H)
def LN(K:PySem.W.Frag)(ρ:List Addr)(H:Hp)(N:L2.Ends):Ends where
 nx:=λbI g'=>∀bt H' cH,Ext ρ H bt H'->Rl K bt g' H'->m7 K bt H' bI cH->N.nx cH H'
 rt:=LQ K ρ H N.rt
 bk:=λbI g'=>∀bt H' cH,Ext ρ H bt H'->Rl K bt g' H'->m7 K bt H' bI cH->N.bk cH H'
 ct:=λbI g'=>∀bt H' cH,Ext ρ H bt H'->Rl K bt g' H'->m7 K bt H' bI cH->N.ct cH H'
def LS(K:PySem.W.Frag)(Ξ:gx)(t:Ends->S->G->KX->Prop):TS:=λN bH H=>∃Z g ρ,m7 K ρ H Z bH/\Rl K ρ g H/\t (LN K ρ H N) Z g (LX K ρ H Ξ)
end M
namespace L2
open PySem PySem.Spec PyProof.Rows
section
variable{X:Cx}{e:Expr}
theorem PE.imp{t t':TE}(h:PE X e t)(i:∀Z H Q,t' Z H Q->t Z H Q):PE X e t':=λpins s Z H Q I q=>h pins s Z H Q I (i Z H Q q)
theorem PT.imp{t t':TT}(h:PT X e t)(i:∀Z H Q,t' Z H Q->t Z H Q):PT X e t':=λpins s Z H Q I q=>h pins s Z H Q I (i Z H Q q)
theorem PW.imp{t t':TT}(h:PW X e t)(i:∀Z H Q,t' Z H Q->t Z H Q):PW X e t':=λw pins s Z H Q I q=>h w pins s Z H Q I (i Z H Q q)
theorem PA.imp{es:List Expr}{t t':TA}(h:PA X es t)(i:∀Z H Q,t' Z H Q->t Z H Q):PA X es t':=λp pins s Z H Q I q=>h p pins s Z H Q I (i Z H Q q)
theorem kB.imp{es:List Expr}{t t':TT}(h:kB X es t)(i:∀Z H Q,t' Z H Q->t Z H Q):kB X es t':=λpins s Z H Q I q=>h pins s Z H Q I (i Z H Q q)
theorem PI.imp{tg:Expr}{t t':TI}(h:PI X tg e t)(i:∀Z H Q,t' Z H Q->t Z H Q):PI X tg e t':=λpins s Z H Q I q=>h pins s Z H Q I (i Z H Q q)
theorem PG.imp{t t':TG}(h:PG X e t)(i:∀v Z H Q,t' v Z H Q->t v Z H Q):PG X e t':=λpins s Z H v u Q I r q=>h pins s Z H v u Q I r (i v Z H Q q)
theorem PS.imp{st:Stmt}{t t':TS}(h:PS X st t)(i:∀N Z H,t' N Z H->t N Z H):PS X st t':=λpins s Z H N I q=>h pins s Z H N I (i N Z H q)
theorem iJ.imp{st:List Stmt}{t t':TS}(h:iJ X st t)(i:∀N Z H,t' N Z H->t N Z H):iJ X st t':=λpins s Z H N I q=>h pins s Z H N I (i N Z H q)
end
end L2
namespace M
open PySem L2 PySem.Spec PyProof.Rows
section
variable{K:PySem.W.Frag}{Ξ:gx}{P:eO}(hP:i3 P){ρ fx:List Addr}{H H0:Hp}{Z:S}{bH:L2.St}{g:G}{m:ME}
include hP
theorem eT{Q0:KD}{Q:VK}(s:m7 K ρ H Z bH)(R:Rl K ρ g H)(e0:Ext fx H0 ρ H)(h:aP P m Z g Q0 (LX K fx H0 Ξ))(k:∀x g1 bJ H1 v1,Ext ρ H bJ H1->Rl K bJ g1 H1->d7 K bJ H1 x v1->Q0 x g1->Q v1 H1):LE K Ξ (aP P m) bH H Q :=
 ⟨Z,g,ρ,s,R,b8 hP m _ _ _ _ _ _ (λx g1 h bJ H1 v1 e1 R1 r1=>k x g1 bJ H1 v1 e1 R1 r1 h) (λ_ _ z=>LX.ext e0 z) h⟩
theorem jq{Q0:List D->G->Prop}{Q:List V->Hp->Prop}(s:m7 K ρ H Z bH)(R:Rl K ρ g H)(e0:Ext fx H0 ρ H)(h:eY P m Z g Q0 (LX K fx H0 Ξ))(k:∀x g1 bJ H1 v1,Ext ρ H bJ H1->Rl K bJ g1 H1->b9 K bJ H1 x v1->Q0 x g1->Q v1 H1):LA K Ξ (eY P m) bH H Q :=
 ⟨Z,g,ρ,s,R,u5 hP m _ _ _ _ _ _ (λx g1 h bJ H1 v1 e1 R1 r1=>k x g1 bJ H1 v1 e1 R1 r1 h) (λ_ _ z=>LX.ext e0 z) h⟩
theorem nT{Q0:Bool->G->Prop}{Q:Bool->Hp->Prop}(s:m7 K ρ H Z bH)(R:Rl K ρ g H)(e0:Ext fx H0 ρ H)(h:cK P m Z g Q0 (LX K fx H0 Ξ))(k:∀t g1 bJ H1,Ext ρ H bJ H1->Rl K bJ g1 H1->Q0 t g1->Q t H1):LT K Ξ (cK P m) bH H Q :=
 ⟨Z,g,ρ,s,R,n6 hP m _ _ _ _ _ _ (λt g1 h bJ H1 e1 R1=>k t g1 bJ H1 e1 R1 h) (λ_ _ z=>LX.ext e0 z) h⟩
theorem qN{ms:MS}{N:L2.Ends}{N0:Ends}(s:m7 K ρ H Z bH)(R:Rl K ρ g H)(e0:Ext fx H0 ρ H)(h:wpS P ms N0 Z g (LX K fx H0 Ξ))(k:N0.le (LN K ρ H N)):LS K Ξ (wpS P ms) N bH H :=
 ⟨Z,g,ρ,s,R,wpS_mono hP ms _ _ _ _ _ _ k (λ_ _ z=>LX.ext e0 z) h⟩
end
theorem b9.lh{K ρ H}(lo:Int)(n:Nat):b9 K ρ H (j5 lo n) ((List.range n).map λ(k:Nat)=>V.int (lo+k)):=by
 unfold j5;have:∀l:List Nat,b9 K ρ H (l.map λ(k:Nat)=>D.int (lo+k)) (l.map λ(k:Nat)=>V.int (lo+k)):=by
  intro l
  induction l with
  |nil=>exact .nil
  |cons x r ih=>exact .cons (.int _) ih
 exact this _
section
variable{X:Cx}{Ξ:gx}{P:eO}(hP:i3 P){a b c e:Expr}{ma mb mc:ME}{pos:Pos}{p:Pr}
include hP
theorem Ax(h:PE X e (qO (r2 X.K p) (LE X.K Ξ (aP P ma)) (LE X.K Ξ (aP P mb)))):PE X e (LE X.K Ξ (aP P (.prim p (.cons ma (.cons mb .nil))))) :=
 h.imp λbH H Q aZ=>by
  obtain⟨Z,g,ρ,s,R,h⟩:=aZ;exact eT hP s R (.refl _ _) h λx g1 bJ H1 v1 e1 R1 r1 h=>eT hP (s.ext e1) R1 e1 h λy g2 dS H2 v2 e2 R2 r2 h =>
   ⟨x,y,g2,dS,R2,r1.ext e2,r2,p8 (λd g' h=>h.ext (e1.trans e2)) h⟩
theorem Qj{op:CmpOp}(h:PT X e (BS (qO (r2 X.K (.cmp op)) (LE X.K Ξ (aP P ma)) (LE X.K Ξ (aP P mb))))):PT X e (LT X.K Ξ (cK P (.fk (.prim (.cmp op) (.cons ma (.cons mb .nil)))))) :=
 h.imp λbH H Q aZ=>by
  obtain⟨Z,g,ρ,s,R,h⟩:=aZ;refine eT hP s R (.refl _ _) h λx g1 bJ H1 v1 e1 R1 r1 h=>eT hP (s.ext e1) R1 e1 h λy g2 dS H2 v2 e2 R2 r2 h=>?_;obtain⟨d',g',h,q⟩:=h;obtain⟨x',y',t,ex,hc,rfl,rfl⟩:=id h;refine⟨x,y,g',dS,R2,r1.ext e2,r2,_,_,h,λbt H' v e' R' r'=>?_⟩;obtain⟨t',ht,q⟩:=q;rcases ht with⟨z,_⟩|z|⟨i,z,_⟩|⟨l,z,_⟩|⟨a,l,z,_⟩<;>cases z
  exact⟨_,r'.K8,q bt H' (e1.trans (e2.trans e')) R'⟩
theorem Nq{op:UnaryOp}(ha:PE X a (LE X.K Ξ (aP P ma))):PE X (.UnaryOp op a pos) (LE X.K Ξ (aP P (.prim (.un op) (.cons ma .nil)))) :=
 (Nc (Vp op) ha).imp λbH H Q aZ=>by
  obtain⟨Z,g,ρ,s,R,h⟩:=aZ;exact eT hP s R (.refl _ _) h λx g1 bJ H1 v1 e1 R1 r1 h=>⟨x,g1,bJ,R1,r1,p8 (λd g' h=>h.ext e1) h⟩
theorem Iq{op gO:CmpOp}:∀bH H Q,LE X.K Ξ (aP P (.chain op gO ma mb mc)) bH H Q->Ay (r2 X.K (.cmp op)) (r2 X.K (.cmp gO)) (LE X.K Ξ (aP P ma)) (LE X.K Ξ (aP P mb)) (LE X.K Ξ (aP P mc)) bH H Q:=λbH H Q aZ=>by
 obtain⟨Z,g,ρ,s,R,h⟩:=aZ;refine eT hP s R (.refl _ _) h λx g1 bJ H1 v1 e1 R1 r1 h=>eT hP (s.ext e1) R1 e1 h λy g2 dS H2 v2 e2 R2 r2 h=>?_;refine⟨x,y,g2,dS,R2,r1.ext e2,r2,p8 (λd g3 h iO H3 v3 e3 R3 r3=>?_) h⟩;obtain⟨t,rfl,h⟩:=h;obtain rfl:=r3.K8;refine⟨t,rfl,?_⟩;cases t
 ·exact h iO H3 _ (e1.trans (e2.trans e3)) R3 (.bl _)
 ·exact eT hP (s.ext (e1.trans (e2.trans e3))) R3 (e1.trans (e2.trans e3)) h λz g4 ph H4 v4 e4 R4 r4 h =>
   ⟨y,z,g4,ph,R4,r2.ext (e3.trans e4),r4,p8 (λd g' h=>h.ext (e1.trans (e2.trans (e3.trans e4)))) h⟩
theorem a02{op gO:CmpOp}(hu:X.A.units+100<cLine)(ha:PE X a (LE X.K Ξ (aP P ma)))(hb:PE X b (LE X.K Ξ (aP P mb)))(hc:PE X c (LE X.K Ξ (aP P mc)))(hm:lastMarks [op,gO] [b,c]=false) :
  PE X (.Compare a [op,gO] [b,c] pos) (LE X.K Ξ (aP P (.chain op gO ma mb mc))):=(ZH (V7 hu op) (V7 hu gO) ha hb hc hm).imp (Iq hP)
theorem Zh{op gO:CmpOp}{Z:S}{g:G}{Q:Bool->G->Prop}{E:KX}(h:cK P (.fk (.chain op gO ma mb mc)) Z g Q E):aP P (.chain op gO ma mb mc) Z g (λd g'=>∃t,d=.bl t/\Q t g') E:=by
 have one:∀{o:CmpOp} {xs:List D} {g:G},cx (.cmp o) xs g (λd g1=>Y0 g1 d λb=>Q b g1)->cx (.cmp o) xs g λd g'=>∃t,d=.bl t/\Q t g':=by
  intro o xs g h;obtain⟨d',g',h,t',ht,q⟩:=h;obtain⟨x',y',t,ex,hc,rfl,rfl⟩:=id h;refine⟨_,_,h,t',?_,q⟩;rcases ht with⟨z,_⟩|z|⟨i,z,_⟩|⟨l,z,_⟩|⟨a,l,z,_⟩<;>first|exact z|cases z
 refine b8 hP ma _ _ _ _ _ _ (λx g1 h=>b8 hP mb _ _ _ _ _ _ (λy g2 h=>p8 (λz g3 h=>?_) h) (λ_ _ z=>z) h) (λ_ _ z=>z) h;obtain⟨t,rfl,h⟩:=h;refine⟨t,rfl,?_⟩;cases t
 ·obtain⟨b,hb,q⟩:=(show Y0 g3 (.bl false) λb=>Q b g3 from h)
  rcases hb with⟨z,_⟩|z|⟨i,z,_⟩|⟨l,z,_⟩|⟨a,l,z,_⟩<;>first|(cases z;exact⟨_,rfl,q⟩)|cases z
 ·exact b8 hP mc _ _ _ _ _ _ (λw g4 h=>one h) (λ_ _ z=>z) h
theorem Wi{op gO:CmpOp}(hu:X.A.units+100<cLine)(ha:PE X a (LE X.K Ξ (aP P ma)))(hb:PE X b (LE X.K Ξ (aP P mb)))(hc:PE X c (LE X.K Ξ (aP P mc)))(hm:lastMarks [op,gO] [b,c]=false) :
  PT X (.Compare a [op,gO] [b,c] pos) (LT X.K Ξ (cK P (.fk (.chain op gO ma mb mc)))) :=
 (ZT (V7 hu op) (V7 hu gO) ha hb hc hm).imp λbH H Q ⟨Z,g,ρ,s,R,h⟩ =>
  Iq hP bH H _ (eT hP s R (.refl _ _) (Zh hP h) λx g1 bJ H1 v1 e1 R1 r1 h=>by
   obtain⟨t,rfl,h⟩:=h;exact ⟨t,r1.K8,h bJ H1 e1 R1⟩)
theorem PH{rest:List Expr}(ha:PE X a (LE X.K Ξ (aP P ma)))(hb:PE X (.BoolOp .And (b::rest) pos) (LE X.K Ξ (aP P mb))):PE X (.BoolOp .And (a::b::rest) pos) (LE X.K Ξ (aP P (.dB ma mb))) :=
 (OX ha hb).imp λbH H Q aZ=>by
  obtain⟨Z,g,ρ,s,R,h⟩:=aZ;refine eT hP s R (.refl _ _) h λx g1 bJ H1 v1 e1 R1 r1 h=>?_;obtain⟨t,rfl,h⟩:=h;refine⟨t,r1.K8,?_⟩;cases t
  ·exact h bJ H1 _ e1 R1 (.bl _)
  ·exact eT hP (s.ext e1) R1 e1 h λy g2 dS H2 v2 e2 R2 r2 h=>h dS H2 v2 (e1.trans e2) R2 r2
theorem Np{rest:List Expr}(ha:PE X a (LE X.K Ξ (aP P ma)))(hb:PE X (.BoolOp .Or (b::rest) pos) (LE X.K Ξ (aP P mb))):PE X (.BoolOp .Or (a::b::rest) pos) (LE X.K Ξ (aP P (.jE ma mb))) :=
 (Nb ha hb).imp λbH H Q aZ=>by
  obtain⟨Z,g,ρ,s,R,h⟩:=aZ;refine eT hP s R (.refl _ _) h λx g1 bJ H1 v1 e1 R1 r1 h=>?_;obtain⟨t,rfl,h⟩:=h;refine⟨t,r1.K8,?_⟩;cases t
  ·exact eT hP (s.ext e1) R1 e1 h λy g2 dS H2 v2 e2 R2 r2 h=>h dS H2 v2 (e1.trans e2) R2 r2
  ·exact h bJ H1 _ e1 R1 (.bl _)
theorem PU(ha:PE X a (LE X.K Ξ (aP P ma))):PE X (.UnaryOp .Not a pos) (LE X.K Ξ (aP P (.dY ma))) :=
 (Pb ha).imp λbH H Q aZ=>by
  obtain⟨Z,g,ρ,s,R,h⟩:=aZ;refine eT hP s R (.refl _ _) h λx g1 bJ H1 v1 e1 R1 r1 h=>?_;obtain⟨t,rfl,h⟩:=h;exact⟨t,r1.K8,h bJ H1 _ e1 R1 (.bl _)⟩
theorem PQ(hc:PT X c (LT X.K Ξ (cK P mc)))(ha:PE X a (LE X.K Ξ (aP P ma)))(hb:PE X b (LE X.K Ξ (aP P mb))):PE X (.IfExp c a b pos) (LE X.K Ξ (aP P (.ite mc ma mb))) :=
 (ZJ hc ha hb).imp λbH H Q aZ=>by
  obtain⟨Z,g,ρ,s,R,h⟩:=aZ;refine nT hP s R (.refl _ _) h λt g1 bJ H1 e1 R1 h=>?_;cases t
  ·exact eT hP (s.ext e1) R1 e1 h λy g2 dS H2 v2 e2 R2 r2 h=>h dS H2 v2 (e1.trans e2) R2 r2
  ·exact eT hP (s.ext e1) R1 e1 h λy g2 dS H2 v2 e2 R2 r2 h=>h dS H2 v2 (e1.trans e2) R2 r2
theorem PV{es:List Expr}{fQ:ME}{k:Nat}(h:PA X es (LA X.K Ξ (eY P fQ))):PE X (.Tuple es k pos) (LE X.K Ξ (aP P (.prim .tup fQ))) :=
 (Pe h).imp λbH H Q aZ=>by
  obtain⟨Z,g,ρ,s,R,h⟩:=aZ;refine jq hP s R (.refl _ _) h λds g1 bJ H1 vs e1 R1 r1 h=>?_;obtain⟨d',g',⟨hz,rfl,rfl⟩,q⟩:=h;exact⟨by rw[<- r1.length];exact k6 (aC hz (by decide)),λp hp=>(q.ext e1).tup R1 hp r1⟩
theorem Ht{es:List Expr}{fQ:ME}(h:PA X es (LA X.K Ξ (eY P fQ))):PE X (.List es pos) (LE X.K Ξ (aP P (.prim .lst fQ))) :=
 (Hm h).imp λbH H Q aZ=>by
  obtain⟨Z,g,ρ,s,R,h⟩:=aZ;refine jq hP s R (.refl _ _) h λds g1 bJ H1 vs e1 R1 r1 h=>?_;obtain⟨d',g',⟨hz,rfl,rfl⟩,q⟩:=h;exact⟨by rw[<- r1.length];exact k6 (aC hz (by decide)),λp hp=>(q.ext e1).new R1 hp r1⟩
theorem F6:PA X [] (LA X.K Ξ (eY P .nil)) :=
 (Q7 (X:=X)).imp λbH H Q aZ=>by
  obtain⟨Z,g,ρ,s,R,h⟩:=aZ;exact h ρ H [] (.refl _ _) R .nil
theorem A4{es:List Expr}{fQ:ME}(ha:PE X a (LE X.K Ξ (aP P ma)))(h:PA X es (LA X.K Ξ (eY P fQ)))(hs:starEach (a::es) X.env=(false,eval a X.env)::starEach es X.env):PA X (a::es) (LA X.K Ξ (eY P (.cons ma fQ))) :=
 (L4 ha h hs).imp λbH H Q aZ=>by
  obtain⟨Z,g,ρ,s,R,h⟩:=aZ;exact eT hP s R (.refl _ _) h λx g1 bJ H1 v1 e1 R1 r1 h=>jq hP (s.ext e1) R1 e1 h λxs g2 dS H2 vs e2 R2 r2 h=>h dS H2 _ (e1.trans e2) R2 (.cons (r1.ext e2) r2)
theorem We{p2:Pos}(ha:PE X a (LE X.K Ξ (aP P ma))):PE X (.Subscript a (.Slice none none none p2) pos) (LE X.K Ξ (aP P (.prim (.lL false false) (.cons ma .nil)))) :=
 (Bf BP ha xM xM).imp λbH H Q aZ=>by
  obtain⟨Z,g,ρ,s,R,h⟩:=aZ;refine eT hP s R (.refl _ _) h λx g1 bJ H1 v1 e1 R1 r1 h=>?_;obtain⟨d',g',⟨x',ex,h⟩,q⟩:=h;cases ex;exact⟨x,g1,bJ,d',g',R1,r1,h,q.ext e1⟩
theorem Wg{p2:Pos}(ha:PE X a (LE X.K Ξ (aP P ma)))(hb:PE X b (LE X.K Ξ (aP P mb))):PE X (.Subscript a (.Slice (some b) none none p2) pos) (LE X.K Ξ (aP P (.prim (.lL true false) (.cons ma (.cons mb .nil))))) :=
 (Bf BP ha (HY hb) xM).imp λbH H Q aZ=>by
  obtain⟨Z,g,ρ,s,R,h⟩:=aZ;refine eT hP s R (.refl _ _) h λx g1 bJ H1 v1 e1 R1 r1 h=>eT hP (s.ext e1) R1 e1 h λy g2 dS H2 v2 e2 R2 r2 h=>?_;obtain⟨d',g',⟨x',i,ex,h⟩,q⟩:=h;cases ex;exact⟨i,r2.i4,x,g2,dS,d',g',R2,r1.ext e2,h,q.ext (e1.trans e2)⟩
theorem Wf{p2:Pos}(ha:PE X a (LE X.K Ξ (aP P ma)))(hb:PE X b (LE X.K Ξ (aP P mb))):PE X (.Subscript a (.Slice none (some b) none p2) pos) (LE X.K Ξ (aP P (.prim (.lL false true) (.cons ma (.cons mb .nil))))) :=
 (Bf BP ha xM (HY hb)).imp λbH H Q aZ=>by
  obtain⟨Z,g,ρ,s,R,h⟩:=aZ;refine eT hP s R (.refl _ _) h λx g1 bJ H1 v1 e1 R1 r1 h=>eT hP (s.ext e1) R1 e1 h λy g2 dS H2 v2 e2 R2 r2 h=>?_;obtain⟨d',g',⟨x',i,ex,h⟩,q⟩:=h;cases ex;exact⟨i,r2.i4,x,g2,dS,d',g',R2,r1.ext e2,h,q.ext (e1.trans e2)⟩
theorem Qk(ha:PE X a (LE X.K Ξ (aP P ma)))(he:∀whole,isTrue a X.env whole=(do let v <- whole;standAt a.pos;holding [v] (truthy v))):PT X a (LT X.K Ξ (cK P (.fk ma))) :=
 (ZU ha he).imp λbH H Q aZ=>by
  obtain⟨Z,g,ρ,s,R,h⟩:=aZ;refine eT hP s R (.refl _ _) h λx g1 bJ H1 v1 e1 R1 r1 h=>?_;obtain⟨b,h1,h2⟩:=h;exact⟨b,Qx R1 r1 h1,h2 bJ H1 e1 R1⟩
theorem Qi(ha:PT X a (LT X.K Ξ (cK P ma))):PT X (.UnaryOp .Not a pos) (LT X.K Ξ (cK P (.dY ma))) :=
 (Pt ha).imp λbH H Q aZ=>by
  obtain⟨Z,g,ρ,s,R,h⟩:=aZ;exact nT hP s R (.refl _ _) h λt g1 bJ H1 e1 R1 h=>h bJ H1 e1 R1
theorem Qm{rest:List Expr}(ha:PT X a (LT X.K Ξ (cK P ma)))(hb:PW X (.BoolOp .And (b::rest) pos) (LT X.K Ξ (cK P mb))):PW X (.BoolOp .And (a::b::rest) pos) (LT X.K Ξ (cK P (.dB ma mb))) :=
 (Pu ha hb).imp λbH H Q aZ=>by
  obtain⟨Z,g,ρ,s,R,h⟩:=aZ;refine nT hP s R (.refl _ _) h λt g1 bJ H1 e1 R1 h=>?_;cases t
  ·exact h bJ H1 e1 R1
  ·exact nT hP (s.ext e1) R1 e1 h λt g2 dS H2 e2 R2 h=>h dS H2 (e1.trans e2) R2
theorem Nu{rest:List Expr}(ha:PT X a (LT X.K Ξ (cK P ma)))(hb:PW X (.BoolOp .Or (b::rest) pos) (LT X.K Ξ (cK P mb))):PW X (.BoolOp .Or (a::b::rest) pos) (LT X.K Ξ (cK P (.jE ma mb))) :=
 (Ng ha hb).imp λbH H Q aZ=>by
  obtain⟨Z,g,ρ,s,R,h⟩:=aZ;refine nT hP s R (.refl _ _) h λt g1 bJ H1 e1 R1 h=>?_;cases t
  ·exact nT hP (s.ext e1) R1 e1 h λt g2 dS H2 e2 R2 h=>h dS H2 (e1.trans e2) R2
  ·exact h bJ H1 e1 R1
theorem Sm:kB X [] (LT X.K Ξ (cK P .no)) :=
 (RJ (X:=X)).imp λbH H Q aZ=>by
  obtain⟨Z,g,ρ,s,R,h⟩:=aZ;exact h ρ H (.refl _ _) R
theorem PJ{x:Str}{v:Value}{es:List Expr}{fQ:ME}{q:Pos}(hv:(∃id,v=.builtin id)\/∃T,v=.type T)(hc:k9 X v (rN X.K p))(hg:Gl X x)(hm:X.mg x=none)(hb:bootBuiltins x=some v)(ha:PA X (e::es) (LA X.K Ξ (eY P fQ)))(hn:x≠"__name__")(hd:(x==("__debug__":Str))=false)(cV:starEach (e::es) X.env=(false,eval e X.env)::starEach es X.env)(fO:(backTo pos (starEach es X.env)).any (·.1)=false):PE X (.Call (.Name x q) (e::es) [] pos) (LE X.K Ξ (aP P (.prim p fQ))):=by
 have base:PE X (.Call (.Name x q) (e::es) [] pos) (yw (rN X.K p) (LA X.K Ξ (eY P fQ))):=by
  rcases hv with⟨id,rfl⟩|⟨T,rfl⟩
  ·exact Y3 hc hg hm hb ha hn hd cV fO
  ·exact N8 hc hg hm hb ha hn hd cV fO
 refine base.imp λbH H Q aZ=>?_;obtain⟨Z,g,ρ,s,R,h⟩:=aZ;exact jq hP s R (.refl _ _) h λxs g1 bJ H1 vs e1 R1 r1 h=>⟨xs,g1,bJ,R1,r1,p8 (λd g' h=>h.ext e1) h⟩
theorem RY{o:Expr}{es:List Expr}{mo fQ:ME}{T:String}{name:Str}{id:String}{apos:Pos}(pa:PlainAttrs T)(slot:Slot T name id)(iW:typeOf (.builtin id)=pure (.type "method_descriptor"))(hm:mK X id (rM X.K p))(hk:∀{d:D} {v:V} {g:G} {ρ:List Addr} {H:Hp},Rl X.K ρ g H->d7 X.K ρ H d v->lx p d g->mO X.K T v H)(ho:PE X o (LE X.K Ξ (aP P mo)))(ha:PA X (e::es) (LA X.K Ξ (eY P fQ)))(iE:attributeBase o name X.env (eval o X.env)=eval o X.env)(pT:((backTo pos (starEach (e::es) X.env)).all (λx=>!x.1)&&(backToKw pos (keywordEach [] X.env)).all (λx=>x.1.isSome)&&decide ((e::es).length+([]:List Keyword).length+(if([]:List Keyword).isEmpty then 0 else 1)<30))=true)(iC:(apos.endLine==pos.line)=true)(hs:starEach (e::es) X.env=(false,eval e X.env)::starEach es X.env)(fS:(backTo pos (starEach es X.env)).any (·.1)=false) :
  PE X (.Call (.Attribute o name apos) (e::es) [] pos) (LE X.K Ξ (aP P (.dZ p mo fQ))) :=
 (Vs pa slot iW hm ho ha iE pT iC hs fS).imp λbH H Q aZ=>by
  obtain⟨Z,g,ρ,s,R,h⟩:=aZ;exact eT hP s R (.refl _ _) h λx g1 bJ H1 v1 e1 R1 r1 h=>⟨hk R1 r1 h.1,jq hP (s.ext e1) R1 e1 h.2 λxs g2 dS H2 ws e2 R2 r2 h =>
   ⟨x,xs,g2,dS,R2,r1.ext e2,r2,p8 (λd g' h=>h.ext (e1.trans e2)) h⟩⟩
theorem Wc{o:Expr}{mo:ME}{T:String}{name:Str}{id:String}{apos:Pos}(pa:PlainAttrs T)(slot:Slot T name id)(iW:typeOf (.builtin id)=pure (.type "method_descriptor"))(hm:mK X id (rM X.K p))(hk:∀{d:D} {v:V} {g:G} {ρ:List Addr} {H:Hp},Rl X.K ρ g H->d7 X.K ρ H d v->lx p d g->mO X.K T v H)(ho:PE X o (LE X.K Ξ (aP P mo)))(iE:attributeBase o name X.env (eval o X.env)=eval o X.env)(iC:(apos.endLine==pos.line)=true) :
  PE X (.Call (.Attribute o name apos) [] [] pos) (LE X.K Ξ (aP P (.dZ p mo .nil))) :=
 (OY pa slot iW hm ho iE iC).imp λbH H Q aZ=>by
  obtain⟨Z,g,ρ,s,R,h⟩:=aZ;exact eT hP s R (.refl _ _) h λx g1 bJ H1 v1 e1 R1 r1 h=>⟨hk R1 r1 h.1,x,[],g1,bJ,R1,r1,.nil,p8 (λd g' h=>h.ext e1) h.2⟩
theorem a01{q p2 jg:Pos}(hc:X.calm=true)(ha:PE X a (LE X.K Ξ (aP P ma)))(ml:Gl X "list")(lZ:X.mg "list"=none)(hg:Gl X "range")(hm:X.mg "range"=none)(hs:starEach [a] X.env=[(false,eval a X.env)]) :
  PE X (.Call (.Name "list" p2) [.Call (.Name "range" q) [a] [] pos] [] jg) (LE X.K Ξ (aP P (.prim .ir (.cons ma .nil)))) :=
 (N8 (GY hc) ml lZ (by first|exact eA|decide +kernel) (L4 (Xj hg hm (A4 hP ha (F6 hP) (by rw[hs];rfl)) hs) Q7)).imp λbH H Q aZ=>by
  obtain⟨Z,g,ρ,s,R,h⟩:=aZ;refine jq hP s R (.refl _ _) h λxs g1 bJ H1 vs e1 R1 r1 h=>?_;obtain⟨d',g',⟨j,rfl,h1,h2,rfl,rfl⟩,q⟩:=h;obtain⟨v,rfl,rv⟩:=r1.one;obtain rfl:=rv.i4;refine⟨j,rfl,λq' hq=>⟨q',0,j,rfl,n8,⟨by omega,by omega,h1,by omega,by omega⟩,λp hp=>?_⟩⟩;rw[show(j-0).toNat=j.toNat by omega];exact(q.ext (e1.trans (t8 hq))).new (R1.grow hq) hp (b9.lh 0 _)
theorem a00{q p2 jg:Pos}(hc:X.calm=true)(ha:PE X a (LE X.K Ξ (aP P ma)))(hb:PE X b (LE X.K Ξ (aP P mb)))(ml:Gl X "list")(lZ:X.mg "list"=none)(hg:Gl X "range")(hm:X.mg "range"=none)(hs:starEach [a,b] X.env=[(false,eval a X.env),(false,eval b X.env)])(iH:starEach [b] X.env=[(false,eval b X.env)]) :
  PE X (.Call (.Name "list" p2) [.Call (.Name "range" q) [a,b] [] pos] [] jg) (LE X.K Ξ (aP P (.prim .jI (.cons ma (.cons mb .nil))))) :=
 (N8 (GY hc) ml lZ (by first|exact eA|decide +kernel) (L4 (Xk hg hm (A4 hP ha (A4 hP hb (F6 hP) (by rw[iH];rfl)) (by rw[hs,iH])) hs iH) Q7)).imp λbH H Q aZ=>by
  obtain⟨Z,g,ρ,s,R,h⟩:=aZ;refine jq hP s R (.refl _ _) h λxs g1 bJ H1 vs e1 R1 r1 h=>?_;obtain⟨d',g',⟨i,j,rfl,hb,rfl,rfl⟩,q⟩:=h;obtain⟨v,w,rfl,rv,fz⟩:=r1.two;obtain rfl:=rv.i4;obtain rfl:=fz.i4;exact⟨i,j,rfl,λq' hq=>⟨q',i,j,rfl,n8,hb,λp hp=>(q.ext (e1.trans (t8 hq))).new (R1.grow hq) hp (b9.lh i _)⟩⟩
theorem Sa{q p2 jg:Pos}(hc:X.calm=true)(ha:PE X a (LE X.K Ξ (aP P ma)))(ml:Gl X "sorted")(lZ:X.mg "sorted"=none)(hg:Gl X "set")(hm:X.mg "set"=none)(hs:starEach [a] X.env=[(false,eval a X.env)]) :
  PE X (.Call (.Name "sorted" p2) [.Call (.Name "set" q) [a] [] pos] [] jg) (LE X.K Ξ (aP P (.prim .sset (.cons ma .nil)))) :=
 (Y3 (T8 hc) ml lZ (by first|exact oY|decide +kernel) (L4 (N8 (GU hc) hg hm (by first|exact vK|decide +kernel) (A4 hP ha (F6 hP) (by rw[hs];rfl)) (by decide) (by decide) (by rw[hs];rfl) rfl) Q7)).imp λbH H Q aZ=>by
  obtain⟨Z,g,ρ,s,R,h⟩:=aZ;refine jq hP s R (.refl _ _) h λxs g1 bJ H1 vs e1 R1 r1 h=>?_;obtain⟨d',g',⟨i,ns,rfl,hl,hz,rfl,rfl⟩,q⟩:=h;obtain⟨v,rfl,rv⟩:=r1.one;obtain⟨a',rfl,ra⟩:=rv.i9;obtain⟨ws,hq,rs⟩:=R1.items hl ra;obtain rfl:=rs.ints;refine⟨_,ns,rfl,hq,hz,λq' lW=>⟨q',ns,rfl,n8,hz,λp hp=>?_⟩⟩;exact(q.ext (e1.trans (t8 lW))).new (R1.grow lW) hp (b9.ofInts _)
theorem RV{q p2 jg:Pos}(hc:X.calm=true)(ha:PE X a (LE X.K Ξ (aP P ma)))(ml:Gl X "len")(lZ:X.mg "len"=none)(hg:Gl X "set")(hm:X.mg "set"=none)(hs:starEach [a] X.env=[(false,eval a X.env)]) :
  PE X (.Call (.Name "len" p2) [.Call (.Name "set" q) [a] [] pos] [] jg) (LE X.K Ξ (aP P (.prim .rH (.cons ma .nil)))) :=
 (Y3 VC ml lZ PySem.boot_len (L4 (N8 (GU hc) hg hm (by first|exact vK|decide +kernel) (A4 hP ha (F6 hP) (by rw[hs];rfl)) (by decide) (by decide) (by rw[hs];rfl) rfl) Q7)).imp λbH H Q aZ=>by
  obtain⟨Z,g,ρ,s,R,h⟩:=aZ;refine jq hP s R (.refl _ _) h λxs g1 bJ H1 vs e1 R1 r1 h=>?_;obtain⟨d',g',⟨i,ns,rfl,hl,hz,rfl,rfl⟩,q⟩:=h;obtain⟨v,rfl,rv⟩:=r1.one;obtain⟨a',rfl,ra⟩:=rv.i9;obtain⟨ws,hq,rs⟩:=R1.items hl ra;obtain rfl:=rs.ints;refine⟨_,ns,rfl,hq,hz,λq' lW=>⟨q',_,rfl,n8,?_⟩⟩;exact(q.ext (e1.trans (t8 lW))).now (R1.grow lW) (.int _)
theorem RZ{i:Int}{j:Nat}{q:Pos}(mq:PySem.W.kdsCode X.K X.env.code=true):PE X (.Set [.Constant (.int i) j q] 0 pos) (LE X.K Ξ (aP P (.prim (.jB i) .nil))) :=
 (RA mq).imp λbH H Q aZ=>by
  obtain⟨Z,g,ρ,s,R,h⟩:=aZ;obtain⟨d',g',⟨_,rfl,rfl⟩,q⟩:=h;exact λp hp=>q (ρ++[p]) _ _ (L8 hp) (R.new hp (o:=.set (λk=>decide (k=i)) 1) (u:=.set (λk=>decide (k=i)) 1) ⟨rfl,rfl⟩) (.ref (R.B6 p))
theorem PL{f:Str}(ha:PE X a (LE X.K Ξ (aP P ma)))(hb:attributeBase a f X.env (eval a X.env)=eval a X.env):PE X (.Attribute a f pos) (LE X.K Ξ (aP P (.prim (.fld f) (.cons ma .nil)))) :=
 (OZ ha hb).imp λbH H Q aZ=>by
  obtain⟨Z,g,ρ,s,R,h⟩:=aZ;refine eT hP s R (.refl _ _) h λx g1 bJ H1 v1 e1 R1 r1 h=>?_;obtain⟨d',g',⟨i,c,fs,ex,hi,hf,rfl⟩,q⟩:=h;cases ex;obtain⟨a',rfl,ra⟩:=r1.i9;obtain⟨C,dx,vs,hH,_,hC,rk,na⟩:=R1.ins hi ra;have lk:=rk.look f;rw[hf] at lk;obtain⟨v,hv,rv⟩:=lk.some;exact⟨a',C,dx,vs,v,rfl,hH,hC,na _ (aL hf),hv,q bJ H1 v e1 R1 rv⟩
end
section
variable{X:Cx}{Ξ:gx}{P:eO}{a b c:Expr}{ma mb mc:ME}{pos:Pos}
theorem PY{i:Nat}{x:Str}(hN:X.N[i]?=some x)(hv:vz X.env.scope x)(hd:(x==("__debug__":Str))=false)(kP:(x==("__classdict__":Str))=false):PE X (.Name x pos) (LE X.K Ξ (aP P (.var i))) :=
 (Aw hN hv hd kP).imp λbH H Q aZ=>by
  obtain⟨Z,g,ρ,s,R,h⟩:=aZ;obtain⟨d,e,h⟩:=h;obtain⟨v,h1,h2⟩:=s.val _ _ e;exact⟨v,h1,h.now R h2⟩
theorem Q5{e:Expr}{d:D}{v:V}(h:PE X e (tC v))(r:∀ρ H,d7 X.K ρ H d v):PE X e (LE X.K Ξ (aP P (.lit d))) :=
 h.imp λbH H Q aZ=>by
  obtain⟨Z,g,ρ,s,R,h⟩:=aZ;exact LQ.now h R (r ρ H)
theorem RS:PE X (.Dict [] [] pos) (LE X.K Ξ (aP P (.prim .Z9 .nil))) :=
 (ZI (X:=X)).imp λbH H Q ⟨Z,g,ρ,s,R,h⟩ p hp=>by
  obtain⟨d',g',⟨_,rfl,rfl⟩,q⟩:=h;exact q (ρ++[p]) _ _ (L8 hp) (R.new hp (o:=.dy []) (u:=.dK []) i6.nil) (.ref (R.B6 p))
end
end M

namespace L2
open PySem PySem.Spec PyProof.Rows
section
variable{X:Cx}{m:Str}{pos apos:Pos}{e o:Expr}{es:List Expr}{ta:TE}{t:TA}
end
end L2
namespace M
open PySem L2 PySem.Spec PyProof.Rows
inductive oR(K:PySem.W.Frag):List D->List (Str×V)->Prop
 |nil:oR K [] []
 |cons {x:Str} {d:D} {v:V} {ds:List D} {vs:List (Str×V)} (h:∀ρ H,d7 K ρ H d v) (r:oR K ds vs):oR K (.tup [.str x,d]::ds) ((x,v)::vs)
theorem oR.look{K:PySem.W.Frag}{ρ:List Addr}{H:Hp}{ds vs}(x:Str)(h:oR K ds vs):qw K ρ H (M9 ds x) (vs.lookup x):=by
 induction h with
 |nil=>trivial
 |cons h r ih =>
  rename_i y d v ds vs;unfold M9;rw[cg];by_cases e:x=y
  ·rw[aH e,show(x==y)=true from by simp[e]];exact h ρ H
  ·rw[az e,show(x==y)=false from by simpa using e];exact ih
def wR(X:Cx)(x:Str)(kvs:List D):Prop:=∃A vs,X.mg x=some (.ref A)/\uZ X.K X.w.params A vs/\oR X.K kvs vs
def wY(neg:Bool):Pr:=if neg then .uA else .Ep
theorem HK{neg:Bool}:PR (wY neg)=Cs neg:=by cases neg<;>rfl
theorem Xy(a b c:Str):a++b++c=a++(b++c):=by
 cases a;cases b;cases c;show Str.mk _=Str.mk _;exact gA Str.mk (JB ..)
theorem Sk(x:Str):x++Str.empty=x:=by cases x;show Str.mk _=_;simp[Str.empty]
theorem Ri(x:Str):Str.empty++x=x:=by cases x;show Str.mk _=_;simp[Str.empty]
section
variable{X:Cx}{Ξ:gx}{P:eO}(hP:i3 P){a b c:Expr}{ma mb mc:ME}{pos:Pos}
include hP
theorem PN{x:Str}{p:Pos}{kvs:List D}{neg:Bool}(hg:Gl X x)(hd:(x==("__debug__":Str))=false)(hG:wR X x kvs)(ha:PE X a (LE X.K Ξ (aP P ma)))(hm:behindInMarks (if neg then .NotIn else .In) (.Name x p)=false) :
  PE X (.Compare a [if neg then .NotIn else .In] [.Name x p] pos) (LE X.K Ξ (aP P (.prim (wY neg) (.cons (.lit (.tup kvs)) (.cons ma .nil))))):=by
 obtain⟨A,vs,hmg,hk,gr⟩:=hG;refine(HV (Hj (kvs:=vs) neg) ha (V6 (v:=.ref A) hg hmg rfl hd) hm).imp λbH H Q aZ=>?_;obtain⟨Z,g,ρ,s,R,h⟩:=aZ;refine eT hP s R (.refl _ _) h λd g1 bJ H1 v1 e1 R1 r1 h=>?_;obtain⟨d',g',h,q⟩:=h;rw[HK] at h;obtain⟨iy,z,ex,rfl,rfl⟩:=h;cases ex;obtain rfl:=r1.C3;refine⟨A,z,rfl,hk,rfl,?_⟩;rw[<- (gr.look (ρ:=bJ) (H:=H1) z).isSome];exact q bJ H1 _ e1 R1 (.bl _)
theorem Qh{x:Str}{p:Pos}{kvs:List D}{neg:Bool}(hg:Gl X x)(hd:(x==("__debug__":Str))=false)(hG:wR X x kvs)(ha:PE X a (LE X.K Ξ (aP P ma)))(hm:behindInMarks (if neg then .NotIn else .In) (.Name x p)=false) :
  PT X (.Compare a [if neg then .NotIn else .In] [.Name x p] pos) (LT X.K Ξ (cK P (.fk (.prim (wY neg) (.cons (.lit (.tup kvs)) (.cons ma .nil)))))):=by
 obtain⟨A,vs,hmg,hk,gr⟩:=hG;refine(HZ (Hj (kvs:=vs) neg) ha (V6 (v:=.ref A) hg hmg rfl hd) hm).imp λbH H Q aZ=>?_;obtain⟨Z,g,ρ,s,R,h⟩:=aZ;refine eT hP s R (.refl _ _) h λd g1 bJ H1 v1 e1 R1 r1 h=>?_;obtain⟨d',g',h,t,ht,q⟩:=h;rw[HK] at h;obtain⟨iy,z,ex,rfl,rfl⟩:=h;cases ex;obtain rfl:=r1.C3;refine⟨A,z,rfl,hk,rfl,t,?_,q bJ H1 e1 R1⟩;rw[<- (gr.look (ρ:=bJ) (H:=H1) z).isSome];rcases ht with⟨z,_⟩|z|⟨i,z,_⟩|⟨l,z,_⟩|⟨a,l,z,_⟩<;>cases z
 rfl
theorem RU{x:Str}{p:Pos}{kvs:List D}(hg:Gl X x)(hd:(x==("__debug__":Str))=false)(hG:wR X x kvs)(ha:PE X a (LE X.K Ξ (aP P ma)))(hs:xy a):PE X (.Subscript (.Name x p) a pos) (LE X.K Ξ (aP P (.prim .mF (.cons (.lit (.tup kvs)) (.cons ma .nil))))):=by
 obtain⟨A,vs,hmg,hk,gr⟩:=hG;refine(BO (UW (kvs:=vs)) (V6 (v:=.ref A) hg hmg rfl hd) ha hs).imp λbH H Q aZ=>?_;obtain⟨Z,g,ρ,s,R,h⟩:=aZ;refine eT hP s R (.refl _ _) h λd g1 bJ H1 v1 e1 R1 r1 h=>?_;obtain⟨d',g',⟨iy,z,ex,hz,rfl⟩,q⟩:=h;cases ex;obtain rfl:=r1.C3;have lk:=gr.look (ρ:=bJ) (H:=H1) z;rw[hz] at lk;obtain⟨w,hw,lk⟩:=lk.some;exact⟨A,z,w,rfl,hk,rfl,hw,q bJ H1 _ e1 R1 lk⟩
theorem Nn(ha:PE X a (LE X.K Ξ (aP P ma))):PE X (.FormattedValue a (-1) none pos) (LE X.K Ξ (aP P (.prim .fv (.cons ma .nil)))) :=
 (Vt ha).imp λbH H Q aZ=>by
  obtain⟨Z,g,ρ,s,R,h⟩:=aZ;refine eT hP s R (.refl _ _) h λd g1 bJ H1 v1 e1 R1 r1 h=>?_;obtain⟨d',g',⟨rfl,h⟩,q⟩:=h;rcases h with⟨i,ex,h1,rfl⟩|⟨z,ex,h1,rfl⟩
  ·cases ex;exact .inl ⟨i,r1.i4,h1,q bJ H1 _ e1 R1 (.str _)⟩
  ·cases ex;exact .inr ⟨z,r1.C3,k6 (by omega),q bJ H1 _ e1 R1 (.str _)⟩
omit hP in
inductive lC(X:Cx)(Ξ:gx)(P:eO):List Expr->ME->List TE->Prop
 |nil:lC X Ξ P [] .nil []
 |lit {x:Str} {j:Nat} {p:Pos} {es:List Expr} {ms:ME} {ts:List TE} (hx:x.length<=2000) (r:lC X Ξ P es ms ts):lC X Ξ P (.Constant (.str x) j p::es) (.cons (.lit (.str x)) ms) (LE X.K Ξ (aP P (.lit (.str x)))::ts)
 |val {e:Expr} {m:ME} {p:Pos} {es:List Expr} {ms:ME} {ts:List TE} (he:PE X e (LE X.K Ξ (aP P m))) (r:lC X Ξ P es ms ts):lC X Ξ P (.FormattedValue e (-1) none p::es) (.cons (.prim .fv (.cons m .nil)) ms) (LE X.K Ξ (aP P (.prim .fv (.cons m .nil)))::ts)
theorem lC.Kf{es ms ts}(h:lC X Ξ P es ms ts):sf X es ts:=by
 induction h with
 |nil=>exact .nil
 |lit hx r ih=>exact .cons (Q5 Hn λ_ _=>.str _) ih
 |val he r ih=>exact .cons (Nn hP he) ih
theorem lC.join{bH:L2.St}{Q:Str->Hp->Prop}{es ms ts}(hf:lC X Ξ P es ms ts):∀{Z:S} {g:G} {ρ:List Addr} {H:Hp} {acc:Str},acc.length+2000*es.length<=100000->m7 X.K ρ H Z bH->Rl X.K ρ g H ->
  eY P ms Z g (λds g1=>∃x,T7 ds=some x/\∀bt H',Ext ρ H bt H'->Rl X.K bt g1 H'->Q (acc++x) H') (LX X.K ρ H Ξ)->xg ts bH H acc (λout H1=>out.length<=sizeLine/\Q out H1):=by
 have tl:∀{acc y:Str} {ρ:List Addr} {H:Hp} {bJ:List Addr} {H1:Hp} {ds:List D} {g1:G},Ext ρ H bJ H1->(∃x,T7 (.str y::ds)=some x/\∀bt H',Ext ρ H bt H'->Rl X.K bt g1 H'->Q (acc++x) H')->∃x,T7 ds=some x/\∀bt H',Ext bJ H1 bt H'->Rl X.K bt g1 H'->Q (acc++y++x) H':=by
  intro acc y ρ H bJ H1 ds g1 e1 h;obtain⟨x,hx,h⟩:=h;simp only[T7] at hx;cases hj:T7 ds with
  |none=>rw[hj] at hx;cases hx
  |some x' =>
   rw[hj] at hx;cases hx;refine⟨x',rfl,λbt H' e' R'=>?_⟩;rw[Xy];exact h bt H' (e1.trans e') R'
 induction hf with
 |nil =>
  intro Z g ρ H acc ha s R h;obtain⟨x,hx,h⟩:=h;cases hx;rw[Sk] at h;exact⟨k6 (by simpa using ha),h ρ H (.refl _ _) R⟩
 |lit hx r ih =>
  rename_i y j p es ms ts;intro Z g ρ H acc ha s R h;refine⟨Z,g,ρ,s,R,?_⟩;intro bJ H1 v1 e1 R1 r1;obtain rfl:=r1.C3;have hl:(acc++y).length<=acc.length+2000:=by rw[strLen_append];omega
  simp only[List.length_cons] at ha;exact⟨y,rfl,k6 (by omega),ih (by omega) (s.ext e1) R1 (u5 hP _ _ _ _ _ _ _ (λds g1 h=>tl e1 h) (λ_ _ z=>LX.ext e1 z) h)⟩
 |val he r ih =>
  rename_i e m p es ms ts;intro Z g ρ H acc ha s R h;refine⟨Z,g,ρ,s,R,?_⟩;simp only[List.length_cons] at ha;refine b8 hP m _ _ _ _ _ _ (λd g1 h=>?_) (λ_ _ z=>z) h;obtain⟨d',g',⟨rfl,h⟩,q⟩:=h;have hy:∃y,d'=.str y/\y.length<=2000:=by
   rcases h with⟨i,ex,h1,rfl⟩|⟨z,ex,h1,rfl⟩
   ·exact⟨_,rfl,by rw[PySem.ofString_length];have:=int_text_length_le (k:=1920) (by decide) h1;omega⟩
   ·exact⟨z,rfl,h1⟩
  obtain⟨y,rfl,hy⟩:=hy;refine⟨_,_,⟨rfl,h⟩,λbJ H1 v1 e1 R1 r1=>?_⟩;obtain rfl:=r1.C3;have hl:(acc++y).length<=acc.length+2000:=by rw[strLen_append];omega
  exact⟨y,rfl,k6 (by omega),ih (by omega) (s.ext e1) R1 (u5 hP _ _ _ _ _ _ _ (λds g1 h=>tl e1 h) (λ_ _ z=>LX.ext e1 z) q)⟩
theorem RT{kI kH:Expr}{rest:List Expr}{ms:ME}{ts:List TE}(h:lC X Ξ P (kI::kH::rest) ms ts)(hl:(kI::kH::rest).length<=40):PE X (.JoinedStr (kI::kH::rest) pos) (LE X.K Ξ (aP P (.prim .kR ms))) :=
 (Ry (h.Kf hP)).imp λbH H Q aZ=>by
  obtain⟨Z,g,ρ,s,R,hw⟩:=aZ;refine lC.join hP h (Q:=λout H1=>Q (.str out) H1) (acc:=Str.empty) ?_ s R (u5 hP ms _ _ _ _ _ _ (λds g1 hw=>?_) (λ_ _ z=>z) hw)
  ·have:Str.empty.length=0:=rfl;omega
  ·obtain⟨d',g',⟨x,hx,rfl,rfl⟩,q⟩:=hw;refine⟨x,hx,λbt H' e' R'=>?_⟩;rw[Ri];exact q bt H' _ e' R' (.str _)
omit hP in
def nY(ex:List Str)(K:PySem.W.Frag)(n:Nat)(t:List D->G->KD->KX->Prop):Sp:=λvs H Q E=>vs.length=n/\∃ds g ρ,b9 K ρ H ds vs/\Rl K ρ g H/\t ds g (LQ K ρ H Q) (LX K ρ H (ex,E))
omit hP in
def mY(X:Cx)(P:eO)(ex:List Str)(k f:Nat)(fa:Addr)(fd:FuncData)(ps:List Str):Prop :=
 gW X.prog X.w X.K X.mg X.base (iG X.prog X.w) k fa fd ps (nY ex X.K ps.length (P f))/\Binds X.K fd ps []/\∀ds g Q E,P f ds g Q E->ds.length=ps.length
theorem BQ{k f:Nat}{fa:Addr}{fd:FuncData}{ps:List Str}(F:mY X P Ξ.1 k f fa fd ps){ρ fx:List Addr}{H H0:Hp}{g:G}{xs:List D}{vs:List V}{Q0:KD}{Q:VK}(e0:Ext fx H0 ρ H)(R:Rl X.K ρ g H)(r:b9 X.K ρ H xs vs)(h:P f xs g Q0 (LX X.K fx H0 Ξ))(k:∀d g',Q0 d g'->LQ X.K ρ H Q d g'):nY Ξ.1 X.K ps.length (P f) (vs++[]) H Q Ξ.2:=by
 rw[fj];exact⟨by rw[<- r.length];exact F.2.2 _ _ _ _ h,xs,g,ρ,r,R,hP _ _ _ _ _ _ _ k (λ_ _ z=>LX.ext e0 z) h⟩
theorem RQ{k f:Nat}{x:Str}{fa:Addr}{fd:FuncData}{ps:List Str}{es:List Expr}{e:Expr}{fQ:ME}{p:Pos}(hx:Passes (iG X.prog X.w) X Ξ.2)(F:mY X P Ξ.1 k f fa fd ps)(hr:u3 k X.A)(hg:Gl X x)(hm:X.mg x=some (.ref fa))(hk:PySem.W.keepIn X.K (.ref fa)=true)(ha:PA X (e::es) (LA X.K Ξ (eY P fQ)))(hd:(x==("__debug__":Str))=false)(cV:starEach (e::es) X.env=(false,eval e X.env)::starEach es X.env)(fO:(backTo pos (starEach es X.env)).any (·.1)=false):PE X (.Call (.Name x p) (e::es) [] pos) (LE X.K Ξ (aP P (.call f fQ))) :=
 (Rw F.1 hr hg hm hk F.2.1 .nil hx ha hd cV fO).imp λbH H Q aZ=>by
  obtain⟨Z,g,ρ,s,R,h⟩:=aZ;exact jq hP s R (.refl _ _) h λxs g1 bJ H1 vs e1 R1 r1 h=>BQ hP F e1 R1 r1 h λd g' h=>h.ext e1
omit hP in
inductive L0(X:Cx)(P:eO)(ex:List Str):List Expr->List Nat->List Addr->Prop
 |nil:L0 X P ex [] [] []
 |cons {x:Str} {p:Pos} {k f:Nat} {fa:Addr} {fd:FuncData} {ps:List Str} {ns:List Expr} {fs:List Nat} {jk:List Addr} (hg:Gl X x) (hm:X.mg x=some (.ref fa)) (hk:PySem.W.keepIn X.K (.ref fa)=true) (F:mY X P ex k f fa fd ps) (hr:u3 k X.A) (hd:(x==("__debug__":Str))=false) (r:L0 X P ex ns fs jk):L0 X P ex (.Name x p::ns) (f::fs) (fa::jk)
omit hP in
theorem L0.pa{ex:List Str}{ns:List Expr}{fs:List Nat}{jk:List Addr}(h:L0 X P ex ns fs jk):PA X ns (λ_ H Q=>Q (jk.map V.ref) H):=by
 induction h with
 |nil=>exact Q7
 |cons hg hm hk F hr hd r ih=>exact(L4 (V6 (v:=.ref _) hg hm rfl hd) ih).imp λ_ _ _ q=>q
omit hP in
theorem L0.get{ex:List Str}{ns:List Expr}{fs:List Nat}{jk:List Addr}(h:L0 X P ex ns fs jk):∀{i f:Nat},fs[i]?=some f->∃fa k fd ps,(jk.map V.ref)[i]?=some (.ref fa)/\PySem.W.keepIn X.K (.ref fa)=true/\mY X P ex k f fa fd ps/\u3 k X.A:=by
 induction h with
 |nil=>intro i f e;cases e
 |cons hg hm hk F hr hd r ih =>
  intro i f e;cases i with
  |zero=>cases e;exact⟨_,_,_,_,rfl,hk,F,hr⟩
  |succ i=>exact ih e
omit hP in
theorem L0.len{ex:List Str}{ns:List Expr}{fs:List Nat}{jk:List Addr}(h:L0 X P ex ns fs jk):(jk.map V.ref).length=fs.length:=by
 induction h with
 |nil=>rfl
 |cons _ _ _ _ _ _ _ ih=>simp only[List.map_cons,List.length_cons,ih]
theorem Ig{ns:List Expr}{fs:List Nat}{jk:List Addr}{i:Nat}{k:Int}{e b:Expr}{es:List Expr}{fQ:ME}{lp sp:Pos}{tb:TE}(hx:Passes (iG X.prog X.w) X Ξ.2)(S:L0 X P Ξ.1 ns fs jk)(hz:fs.length<=1000)(hb:PE X b tb)(ht:∀Z H Q n,Z[i]?=some (some (V.int n))->Q (.int (n-k)) H->tb Z H Q)(hs:xy b)(ha:PA X (e::es) (LA X.K Ξ (eY P fQ)))(cV:starEach (e::es) X.env=(false,eval e X.env)::starEach es X.env)(fO:(backTo pos (starEach es X.env)).any (·.1)=false):PE X (.Call (.Subscript (.List ns lp) b sp) (e::es) [] pos) (LE X.K Ξ (aP P (.je fs i k fQ))):=by
 intro pins s bH H Q I h;obtain⟨Z,g,ρ,sr,R,n,f,hi,hf,h⟩:=h;obtain⟨v,hv,rv⟩:=sr.val _ _ hi;obtain rfl:=rv.i4;obtain⟨j,hj,Lo⟩:=ag.mp hf;obtain⟨fa,k',fd,ps,g1,g2,F,hr⟩:=S.get Lo;show wpAny _ _ (eval (.Subscript (.List ns lp) b sp) X.env >>= λf=>callWith pos f [] (backTo pos (starEach (e::es) X.env)) (backToKw pos (keywordEach [] X.env))) _ _ s;refine ae (bX (BO HN (Hm S.pa) hb hs pins s bH H (λv H1=>v=.ref fa/\∃p,H p=none/\H1=upd H p (.lst (jk.map V.ref))) I ⟨by rw[S.len];exact aC hz (by decide),λp hp=>ht bH _ _ n hv ⟨p,_,_,_,rfl,rfl,Or.inl (.inl n8),?_,rfl,p,hp,rfl⟩⟩) λu s1 aZ=>?_)
 ·unfold fE;rw[S.len,hj];exact g1
 ·obtain⟨v,H1,I1,rv,rfl,p,hp,rfl⟩:=aZ;obtain rfl:u=Value.ref fa:=rv;refine ju (h₀:=X.base) I1.ok.mod.lR g2 (bX (ha pos pins s1 bH _ _ I1 (jq hP (sr.ext (t8 hp)) (R.grow hp) (t8 hp) h λxs g2 dS H2 vs e2 R2 r2 h=>BQ hP F ((t8 hp).trans e2) R2 r2 h λd g' h=>h.ext ((t8 hp).trans e2))) λus s2 KH=>?_) cV fO;obtain⟨vs,H2,I2,r2,q⟩:=KH;exact⟨I2.gf,Hr F.1 hr F.2.1 .nil hx I2 r2 q⟩
theorem HP{c:Str}{f k:Nat}{C fa:Addr}{fd:FuncData}{ps:List Str}(F:mY X P Ξ.1 k f fa fd ps)(hC:o8 X.K c C)(hc:jt X.K C){ρ fx:List Addr}{H H0:Hp}{g1:G}{xs:List D}{vs:List V}{Q:VK}(e0:Ext fx H0 ρ H)(R:Rl X.K ρ g1 H)(r:b9 X.K ρ H xs vs)(h:P f (.ref g1.length::xs) (g1++[.ins c []]) (λd g2=>d=.bx/\LQ X.K fx H0 Q (.ref g1.length) g2) (LX X.K fx H0 Ξ)):∀x dx,H x=none->H dx=none->dx≠x->nY Ξ.1 X.K ps.length (P f) (.ref x::(vs++[])) (upd (upd H dx (.own x)) x (.ins C dx [])) (λv H2=>v=.bx/\Q (.ref x) H2) Ξ.2:=by
 intro x dx hx Eb dw;have DG:upd H dx (.own x) x=none:=by rw[f9 (bA dw)];exact hx
 have R2:=R.grow (o:=.own x) Eb;have e2:Ext ρ H ρ (upd H dx (.own x)):=t8 Eb;have R3:=R2.new (o:=.ins c []) (u:=.ins C dx []) DG ⟨hC,hc,.nil,λx hx=>absurd hx (by simp)⟩;have e3:Ext ρ (upd H dx (.own x)) (ρ++[x]) (upd (upd H dx (.own x)) x (.ins C dx [])):=L8 DG;have:=BQ hP F (e0.trans (e2.trans e3)) R3 (.cons (.ref (R.B6 x)) (r.ext (e2.trans e3))) h (Q:=λv H2=>v=.bx/\Q (.ref x) H2) λd g' q bt H' v e' R' r'=>by
  obtain⟨rfl,q⟩:=q;exact⟨r'.xo,q bt H' _ (e0.trans (e2.trans (e3.trans e'))) R' (.ref (e'.get (R.B6 x)))⟩
 exact this
theorem RX{k f:Nat}{x:Str}{C fa:Addr}{fd:FuncData}{ps:List Str}{es:List Expr}{e:Expr}{fQ:ME}{p:Pos}(hx:Passes (iG X.prog X.w) X Ξ.2)(F:mY X P Ξ.1 k f fa fd ps)(M:Mk X.K C fa)(hC:o8 X.K x C)(hc:jt X.K C)(hr:u3 (k+1) X.A)(hg:Gl X x)(hm:X.mg x=some (.ref C))(ha:PA X (e::es) (LA X.K Ξ (eY P fQ)))(hd:(x==("__debug__":Str))=false)(cV:starEach (e::es) X.env=(false,eval e X.env)::starEach es X.env)(fO:(backTo pos (starEach es X.env)).any (·.1)=false):PE X (.Call (.Name x p) (e::es) [] pos) (LE X.K Ξ (aP P (.make x f fQ))) :=
 (Rz M F.1 hr hg hm F.2.1 .nil hx ha hd cV fO).imp λbH H Q aZ=>by
  obtain⟨Z,g,ρ,s,R,h⟩:=aZ;exact jq hP s R (.refl _ _) h λxs g1 bJ H1 vs e1 R1 r1 h=>HP hP F hC hc e1 R1 r1 h
theorem Wb{k f:Nat}{x:Str}{C fa:Addr}{fd:FuncData}{ps:List Str}{p:Pos}(hx:Passes (iG X.prog X.w) X Ξ.2)(F:mY X P Ξ.1 k f fa fd ps)(M:Mk X.K C fa)(hC:o8 X.K x C)(hc:jt X.K C)(hr:u3 (k+1) X.A)(hg:Gl X x)(hm:X.mg x=some (.ref C))(hd:(x==("__debug__":Str))=false):PE X (.Call (.Name x p) [] [] pos) (LE X.K Ξ (aP P (.make x f .nil))) :=
 (ZK M F.1 hr hg hm F.2.1 .nil hx hd).imp λbH H Q aZ=>by
  obtain⟨Z,g,ρ,s,R,h⟩:=aZ;exact HP hP F hC hc (.refl _ _) R .nil h
end
end M

namespace M
open PySem L2 PySem.Spec PyProof.Rows
inductive jQ(K:PySem.W.Frag)(ρ:List Addr)(H:Hp):List D->List (V×V)->Prop
 |nil:jQ K ρ H [] []
 |cons {k d:D} {x y:V} {ds:List D} {ps:List (V×V)} (h1:d7 K ρ H k x) (h2:d7 K ρ H d y) (r:jQ K ρ H ds ps):jQ K ρ H (k::d::ds) ((x,y)::ps)
theorem Ob{K ρ H}{xs:List D}{ps:List (V×V)}(r:jQ K ρ H xs ps):∀{acc kvs:List (Key×D)} {accV:List (Key×V)},vy xs acc=some kvs->i6 K ρ H acc accV->∃more:List (Key×V),ps=more.map (λkv=>(kV kv.1,kv.2))/\2*more.length=xs.length/\i6 K ρ H kvs (Q8 accV more):=by
 induction r with
 |nil =>
  intro acc kvs accV h ra;cases h;exact⟨[],rfl,rfl,ra⟩
 |cons h1 h2 r ih =>
  rename_i k d x y ds ps;intro acc kvs accV h ra;simp only[vy] at h;cases hk:U7 k with
  |none=>rw[hk] at h;cases h
  |some c =>
   rw[hk] at h;obtain⟨more,e1,e2,r2⟩:=ih (show vy ds (putD acc c d)=some kvs from h) (ra.put h2);have ex:=W0 hk h1;subst ex;refine⟨(c,y)::more,by rw[aW,<- e1],by simp only[List.length_cons];omega,r2⟩
section
variable{X:Cx}{Ξ:gx}{P:eO}(hP:i3 P){pos:Pos}
inductive lD(X:Cx)(Ξ:gx)(P:eO):List (Option Expr)->List Expr->ME->List (TE×TE)->Prop
 |nil:lD X Ξ P [] [] .nil []
 |cons {k v:Expr} {ks:List (Option Expr)} {vs:List Expr} {mk mv ms:ME} {gM:List (TE×TE)} (hk:PE X k (LE X.K Ξ (aP P mk))) (hv:PE X v (LE X.K Ξ (aP P mv))) (r:lD X Ξ P ks vs ms gM) :
   lD X Ξ P (some k::ks) (v::vs) (.cons mk (.cons mv ms)) ((LE X.K Ξ (aP P mk),LE X.K Ξ (aP P mv))::gM)
theorem lD.Ke{ks vs ms gM}(h:lD X Ξ P ks vs ms gM):vC X pos ks vs gM:=by
 induction h with
 |nil=>exact RD
 |cons hk hv r ih=>exact ZP hk hv ih
theorem lD.len{ks vs ms gM}(h:lD X Ξ P ks vs ms gM):ks.all (·.isSome)=true/\ks.length=vs.length:=by
 induction h with
 |nil=>exact⟨rfl,rfl⟩
 |cons hk hv r ih=>exact⟨by simpa using ih.1,by simp[ih.2]⟩
include hP
theorem lD.pairs{ks vs ms gM}(hd:lD X Ξ P ks vs ms gM):∀{bH:L2.St} {Z:S} {g:G} {ρ fx:List Addr} {H H0:Hp} {Qd:List D->G->Prop} {Q:List (V×V)->Hp->Prop},m7 X.K ρ H Z bH->Rl X.K ρ g H->Ext fx H0 ρ H->eY P ms Z g Qd (LX X.K fx H0 Ξ) ->
  (∀ds g' bt H' ps,Ext ρ H bt H'->Rl X.K bt g' H'->jQ X.K bt H' ds ps->Qd ds g'->Q ps H')->xu gM bH H Q:=by
 induction hd with
 |nil =>
  intro bH Z g ρ fx H H0 Qd Q s R e0 h k;exact k [] g ρ H [] (.refl _ _) R .nil h
 |cons hk hv r ih =>
  intro bH Z g ρ fx H H0 Qd Q s R e0 h k;refine eT hP s R e0 h λx g1 bJ H1 v1 e1 R1 r1 h=>eT hP (s.ext e1) R1 (e0.trans e1) h λy g2 dS H2 v2 e2 R2 r2 h=>?_;refine ih (s.ext (e1.trans e2)) R2 (e0.trans (e1.trans e2)) h λds g' bt H' ps e' R' rp hq=>?_;exact k _ g' bt H' _ (e1.trans (e2.trans e')) R' (.cons (r1.ext (e2.trans e')) (r2.ext e') rp) hq
theorem PK{ks:List (Option Expr)}{vs:List Expr}{ms:ME}{gM:List (TE×TE)}(hd:lD X Ξ P ks vs ms gM)(h0:ks≠[])(oB:ks.length<=15):PE X (.Dict ks vs pos) (LE X.K Ξ (aP P (.oP ms))) :=
 (Rx hd.Ke hd.len.1 hd.len.2 h0 oB).imp λbH H Q ⟨Z,g,ρ,s,R,h⟩ p hp=>by
  have e1:Ext ρ H (ρ++[p]) (upd H p (.dK [])):=L8 hp;refine lD.pairs hP hd (s.ext e1) (R.new hp (o:=.dy []) (u:=.dK []) i6.nil) e1 h λds g2 dS H2 ps e2 R2 rp hq=>?_;obtain⟨kvs,hk,hz,hg,q⟩:=hq;have tT:dS[g.length]?=some p:=e2.get (R.B6 p);obtain⟨vs',hv,rv⟩:=R2.dy hg tT;cases rv;obtain⟨more,em,hl,rk⟩:=Ob rp hk (accV:=[]) .nil;refine⟨hv,more,em,by omega,?_⟩;obtain⟨R3,e3⟩:=R2.put (o':=.dy kvs) (u:=.dK (Q8 [] more)) hg rfl tT rk;exact q dS _ _ (e1.trans (e2.trans e3)) R3 (.ref tT)
end
end M

namespace M
open PySem L2 PySem.Spec PyProof.Rows
theorem Va{K:PySem.W.Frag}{fx:List Addr}{H0:Hp}{a:Addr}{l:List D}{vs:List V}(ht:TupAt K H0 a vs)(rs:b9 K fx H0 l vs):V1 K fx H0 (.fix l) (CC K a):=by
 intro ρ g H e R i;have ny:=ht.ext e;have sT:=rs.ext e;refine⟨λh=>⟨vs,ny.sq,?_⟩,λd h=>?_⟩
 ·simp only[IK.at] at h;have:=cC.mp (aJ h);rw[<- sT.length];exact this
 ·simp only[IK.at] at h;obtain⟨v,hv,rv⟩:=sT.get (aJ h);refine⟨⟨vs,v,ny.sq,hv⟩,λw H' y=>?_⟩;obtain⟨rfl,y⟩:=y;have:=y vs ny.sq;rw[hv] at this;cases this;exact⟨.refl _ _,R,rv⟩
theorem UZ{K:PySem.W.Frag}{fx:List Addr}{H0:Hp}{a:Addr}{j:Nat}(ha:fx[j]?=some a):V1 K fx H0 (.lst j) (CD K a):=by
 intro ρ g H e R i;have kQ:=e.get ha;refine⟨λh=>?_,λd h=>?_⟩
 ·simp only[IK.at] at h;cases el:d0 g j with
  |none=>rw[el] at h;cases h
  |some l =>
   rw[el] at h;obtain⟨vs,hq,rs⟩:=R.items el kQ;refine⟨vs,hq,?_⟩;have:=cC.mp (aJ h);rw[<- rs.length];exact this
 ·simp only[IK.at] at h;cases el:d0 g j with
  |none=>rw[el] at h;cases h
  |some l =>
   rw[el] at h;obtain⟨vs,hq,rs⟩:=R.items el kQ;obtain⟨v,hv,rv⟩:=rs.get (aJ h);refine⟨⟨vs,v,hq,hv⟩,λw H' y=>?_⟩;obtain⟨rfl,y⟩:=y;have:=y vs hq;rw[hv] at this;cases this;exact⟨.refl _ _,R,rv⟩
theorem IU{K:PySem.W.Frag}{fx:List Addr}{H0:Hp}{lo:Int}{n:Nat}:V1 K fx H0 (.fix (j5 lo n)) (vF lo n):=by
 unfold j5;intro ρ g H e R i;refine⟨λh=>?_,λd h=>?_⟩
 ·simp only[IK.at] at h;have:=cC.mp (aJ h);show n<=i;simpa using this
 ·simp only[IK.at] at h;have h:=aJ h;have hi:i<n:=by
   have:=(ak.mp h).1;simpa using this
  rw[ao,cN hi] at h;cases h;refine⟨hi,λw H' y=>?_⟩;obtain⟨rfl,rfl⟩:=y;exact⟨.refl _ _,R,.int _⟩
theorem U'{K:PySem.W.Frag}{fx:List Addr}{H0:Hp}{a:Addr}{j n:Nat}(ha:fx[j]?=some a):V1 K fx H0 (.qR j n) (CA K a n):=by
 intro ρ g H e R i;have kQ:=e.get ha;refine⟨λh=>?_,λd h=>?_⟩
 ·simp only[IK.at] at h;cases el:d0 g j with
  |none=>rw[el] at h;cases h
  |some l =>
   rw[el] at h;dsimp only at h;by_cases hl:l.length=n
   ·rw[aH hl] at h;have h:=aJ h;by_cases hi:i<n
    ·rw[aH hi] at h;have:=cC.mp h;omega
    ·exact kC hi
   ·rw[az hl] at h;cases h
 ·simp only[IK.at] at h;cases el:d0 g j with
  |none=>rw[el] at h;cases h
  |some l =>
   rw[el] at h;dsimp only at h;by_cases hl:l.length=n
   ·rw[aH hl] at h;have h:=aJ h;by_cases hi:i<n
    ·rw[aH hi] at h;obtain⟨vs,hq,rs⟩:=R.items el kQ;obtain⟨v,hv,rv⟩:=rs.get h;refine⟨⟨vs,v,hq,by rw[<- rs.length];exact hl,hi,hv⟩,λw H' y=>?_⟩;obtain⟨rfl,y⟩:=y;have:=y vs hq;rw[hv] at this;cases this;exact⟨.refl _ _,R,rv⟩
    ·rw[az hi] at h;cases h
   ·rw[az hl] at h;cases h
theorem UY{K:PySem.W.Frag}{fx:List Addr}{H0:Hp}{a:Addr}{j:Nat}(ha:fx[j]?=some a):V1 K fx H0 (.nJ j) (CG K a):=by
 intro ρ g H e R i;have kQ:=e.get ha;refine⟨λh=>?_,λd h=>?_⟩
 ·simp only[IK.at] at h;cases el:d0 g j with
  |none=>rw[el] at h;cases h
  |some l =>
   rw[el] at h;obtain⟨vs,hq,rs⟩:=R.items el kQ;refine⟨vs,hq,?_⟩;have h:=aJ h;rw[Option.map_eq_none_iff] at h;have:=cC.mp h;rw[<- rs.length];exact this
 ·simp only[IK.at] at h;cases el:d0 g j with
  |none=>rw[el] at h;cases h
  |some l =>
   rw[el] at h;obtain⟨vs,hq,rs⟩:=R.items el kQ;have h:=aJ h;rw[aa] at h;obtain⟨d',hd,rfl⟩:=h;obtain⟨v,hv,rv⟩:=rs.get hd;refine⟨⟨vs,v,hq,hv⟩,λw H' y=>?_⟩;obtain⟨p,x,hp,rfl,y,rfl⟩:=y;have:=y vs hq;rw[hv] at this;cases this;exact⟨t8 hp,R.grow hp,.tup (.inl n8) (.cons (.int _) (.cons (rv.ext (t8 hp)) .nil))⟩
end M
namespace L2
open PySem PySem.Spec PyProof.Rows
theorem Pk{X:Cx}{tg l:Expr}{tl:TE}(hl:PE X l tl):PI X tg l (λZ H R=>tl Z H λx H1=>(∃a,x=.ref a/\(∃xs,fh X.K H1 a xs)/\R (CD X.K a) H1)\/(∃a,x=.ref a/\(∃xs,gU X.K H1 a xs)/\R (CC X.K a) H1)):=by
 intro pins s Z H R I h;refine bX (hl pins s Z H _ I h) λv s1 aZ=>?_;obtain⟨x,H1,I1,r1,q1⟩:=aZ;rcases q1 with⟨a,e,⟨xs,hq⟩,q⟩|⟨a,e,⟨xs,hq⟩,q⟩
 ·subst e;cases r1;obtain⟨aQ,rv,p,hz⟩:=I1.list hq;refine gX p.isList ?_;refine⟨s1.heap.objs.size,[s1.heap.objs.size],_,_,H1,rfl,I1.kept (t':=s1.toks) λb o e=>aj _ e,XF a _,⟨_,aA _ rfl,rfl,rfl⟩,λb hb=>?_,q⟩;have e:b=s1.heap.objs.size:=by simpa using hb
  subst e;exact I1.oS (av _) (I1.bC.fresh (av _))
 ·subst e;cases r1;obtain⟨aQ,rv,p,hz⟩:=I1.tuple hq;refine wpAny_pyIter_tuple (show s1.heap.IsTuple a aQ.toArray from p) ?_;refine⟨s1.heap.objs.size,[s1.heap.objs.size],_,_,H1,rfl,I1.kept (t':=s1.toks) λb o e=>aj _ e,Yu a _,⟨_,aA _ rfl,rfl,rfl⟩,λb hb=>?_,q⟩;have e:b=s1.heap.objs.size:=by simpa using hb
  subst e;exact I1.oS (av _) (I1.bC.fresh (av _))
end L2
namespace M
open PySem L2 PySem.Spec PyProof.Rows
section
variable{X:Cx}{Ξ:gx}{P:eO}(hP:i3 P){a b c tg:Expr}{ma mb mc:ME}{pos p:Pos}
include hP
theorem Qc(ha:PE X a (LE X.K Ξ (aP P ma))):PI X tg a (LI X.K Ξ (gb P (.fA ma))) :=
 (Pk ha).imp λbH H R aZ=>by
  obtain⟨Z,g,ρ,s,Rr,h⟩:=aZ;refine eT hP s Rr (.refl _ _) h λx g1 bJ H1 v1 e1 R1 r1 h=>?_;rcases h with⟨l,rfl,h⟩|⟨i,l,rfl,hl,h⟩
  ·obtain⟨a',vs,rfl,ht,rs⟩:=r1.J8;exact .inr ⟨_,rfl,⟨_,ht.sq⟩,h bJ H1 _ e1 R1 (Va ht rs)⟩
  ·obtain⟨a',rfl,kQ⟩:=r1.i9;obtain⟨vs,hq,rs⟩:=R1.items hl kQ;exact .inl ⟨_,rfl,⟨_,hq⟩,h bJ H1 _ e1 R1 (UZ kQ)⟩
theorem Se{elts:List Expr}{x1:Nat}{tp:Pos}(ha:PE X a (LE X.K Ξ (aP P ma)))(hg:Gl X "enumerate")(hm:X.mg "enumerate"=none)(hs:starEach [a] X.env=[(false,eval a X.env)]):PI X (.Tuple elts x1 tp) (.Call (.Name "enumerate" p) [a] [] pos) (LI X.K Ξ (gb P (.jK ma))) :=
 (RC hg hm (A4 hP ha (F6 hP) (by rw[hs];rfl)) hs).imp λbH H R aZ=>by
  obtain⟨Z,g,ρ,s,Rr,h⟩:=aZ;refine jq hP (m:=.cons ma .nil) s Rr (.refl _ _) (Q0:=λxs g1=>∃a l,xs=[.ref a]/\d0 g1 a=some l/\∀bt H' J,Ext ρ H bt H'->Rl X.K bt g1 H'->V1 X.K bt H' (.nJ a) J->R J H') ?_ λxs g1 bJ H1 vs e1 R1 r1 h=>?_
  ·skip
   exact b8 hP ma _ _ _ _ _ _ (λx g1 ⟨i,l,e,hl,h⟩=>⟨i,l,by rw[e],hl,h⟩) (λ_ _ z=>z) h
  ·obtain⟨j,l,rfl,hl,h⟩:=h;obtain⟨v,rfl,rv⟩:=r1.one;obtain⟨a',rfl,ra⟩:=rv.i9;obtain⟨vs,hq,rs⟩:=R1.items hl ra;exact⟨_,rfl,⟨_,hq⟩,h bJ H1 _ e1 R1 (UY ra)⟩
theorem Qb(ha:PE X a (LE X.K Ξ (aP P ma)))(hg:Gl X "reversed")(hm:X.mg "reversed"=none)(hs:starEach [a] X.env=[(false,eval a X.env)]):PI X tg (.Call (.Name "reversed" p) [a] [] pos) (LI X.K Ξ (gb P (.mP ma))) :=
 (Pj hg hm (A4 hP ha (F6 hP) (by rw[hs];rfl)) hs).imp λbH H R aZ=>by
  obtain⟨Z,g,ρ,s,Rr,h⟩:=aZ;refine jq hP (m:=.cons ma .nil) s Rr (.refl _ _) (Q0:=λxs g1=>∃a l,xs=[.ref a]/\d0 g1 a=some l/\∀bt H' J,Ext ρ H bt H'->Rl X.K bt g1 H'->V1 X.K bt H' (.qR a l.length) J->R J H') ?_ λxs g1 bJ H1 vs e1 R1 r1 h=>?_
  ·skip
   exact b8 hP ma _ _ _ _ _ _ (λx g1 ⟨i,l,e,hl,h⟩=>⟨i,l,by rw[e],hl,h⟩) (λ_ _ z=>z) h
  ·obtain⟨j,l,rfl,hl,h⟩:=h;obtain⟨v,rfl,rv⟩:=r1.one;obtain⟨a',rfl,ra⟩:=rv.i9;obtain⟨vs,hq,rs⟩:=R1.items hl ra;exact⟨_,vs,rfl,hq,h bJ H1 _ e1 R1 (by rw[rs.length];exact U' ra)⟩
theorem Sf(ha:PE X a (LE X.K Ξ (aP P ma)))(hg:Gl X "range")(hm:X.mg "range"=none)(hs:starEach [a] X.env=[(false,eval a X.env)]):PI X tg (.Call (.Name "range" p) [a] [] pos) (LI X.K Ξ (gb P (.et ma))) :=
 (Xo hg hm (A4 hP ha (F6 hP) (by rw[hs];rfl)) hs).imp λbH H R aZ=>by
  obtain⟨Z,g,ρ,s,Rr,h⟩:=aZ;refine jq hP (m:=.cons ma .nil) s Rr (.refl _ _) (Q0:=λxs g1=>∃j:Int,xs=[.int j]/\-(2 ^ 62)<=j/\j<2 ^ 62/\∀bt H' J,Ext ρ H bt H'->Rl X.K bt g1 H'->V1 X.K bt H' (.fix (j5 0 j.toNat)) J->R J H') ?_ λxs g1 bJ H1 vs e1 R1 r1 h=>?_
  ·skip
   exact b8 hP ma _ _ _ _ _ _ (λx g1 ⟨j,e,h1,h2,h⟩=>⟨j,by rw[e],h1,h2,h⟩) (λ_ _ z=>z) h
  ·obtain⟨j,rfl,h1,h2,h⟩:=h;obtain⟨v,rfl,rv⟩:=r1.one;obtain rfl:=rv.i4;exact⟨_,rfl,h1,h2,h bJ H1 _ e1 R1 IU⟩
theorem Sg(ha:PE X a (LE X.K Ξ (aP P ma)))(hb:PE X b (LE X.K Ξ (aP P mb)))(hg:Gl X "range")(hm:X.mg "range"=none)(hs:starEach [a,b] X.env=[(false,eval a X.env),(false,eval b X.env)])(iH:starEach [b] X.env=[(false,eval b X.env)]) :
  PI X tg (.Call (.Name "range" p) [a,b] [] pos) (LI X.K Ξ (gb P (.jJ ma mb))) :=
 (Xp hg hm (A4 hP ha (A4 hP hb (F6 hP) (by rw[iH];rfl)) (by rw[hs,iH])) hs iH).imp λbH H R aZ=>by
  obtain⟨Z,g,ρ,s,Rr,h⟩:=aZ;refine jq hP (m:=.cons ma (.cons mb .nil)) s Rr (.refl _ _) (Q0:=λxs g1=>∃i j:Int,xs=[.int i,.int j]/\(-(2 ^ 62)<=i/\i<2 ^ 62/\-(2 ^ 62)<=j/\j<2 ^ 62)/\∀bt H' J,Ext ρ H bt H'->Rl X.K bt g1 H'->V1 X.K bt H' (.fix (j5 i (j-i).toNat)) J->R J H') ?_ λxs g1 bJ H1 vs e1 R1 r1 h=>?_
  ·skip
   exact b8 hP ma _ _ _ _ _ _ (λx g1 h=>b8 hP mb _ _ _ _ _ _ (λy g2 ⟨i,j,e,e',h1,h⟩=>⟨i,j,by rw[e,e'],h1,h⟩) (λ_ _ z=>z) h) (λ_ _ z=>z) h
  ·obtain⟨i,j,rfl,h1,h⟩:=h;obtain⟨v,w,rfl,rv,fz⟩:=r1.two;obtain rfl:=rv.i4;obtain rfl:=fz.i4;exact⟨_,_,rfl,h1,h bJ H1 _ e1 R1 IU⟩
end
section
variable{X:Cx}{pos:Pos}
theorem Qa{i:Nat}{x:Str}(hN:X.N.Nodup)(hi:X.N[i]?=some x)(hx:Loc X.env.scope x)(hf:X.fn x=true\/X.env.scope.names.lookup x=some .local):PG X (.Name x pos) (LG X.K (.one i)) :=
 (HX hN hi hx hf).imp λv bH H Q hq=>by
  obtain⟨d,Z,g,ρ,s,R,r,h⟩:=hq;exact h _ (s.set i r)
inductive ff(X:Cx):List Expr->List Nat->Prop
 |nil:ff X [] []
 |cons {x:Str} {p:Pos} {i:Nat} {es:List Expr} {is:List Nat} (hi:X.N[i]?=some x) (hx:Loc X.env.scope x) (hf:X.fn x=true\/X.env.scope.names.lookup x=some .local) (r:ff X es is):ff X (.Name x p::es) (i::is)
def Ci:List Nat->oU
 |[]=>EY
 |i::is=>IQ (rS i) (Ci is)
theorem Xm(hN:X.N.Nodup){es:List Expr}{is:List Nat}(h:ff X es is):vD X es (Ci is):=by
 induction h with
 |nil=>exact RB
 |cons hi hx hf r ih=>exact ZM (HX hN hi hx hf) ih rfl
theorem Bt:∀{es:List Expr} {is:List Nat},ff X es is->(assignEach es X.env).length=is.length/\(assignEach es X.env).findIdx? (·.1)=none
 |_,_,.nil=>⟨rfl,rfl⟩
 |_,_,.cons (x:=x) (p:=p) (es:=es) hi hx hf r=>by
  obtain⟨h1,h2⟩:=Bt r;have e:assignEach (.Name x p::es) X.env=(false,assign (.Name x p) X.env)::assignEach es X.env:=rfl;rw[e];refine⟨by simp[h1],?_⟩;rw[List.findIdx?_cons,h2]
  rfl
theorem FP{K:PySem.W.Frag}{ρ:List Addr}{H:Hp}{k:S->Prop}{Q:L2.St->Hp->Prop}:∀{is:List Nat} {l:List D} {vs:List V} {Z bI:S} {bH:L2.St},C4 is l Z=some bI->b9 K ρ H l vs->m7 K ρ H Z bH->(∀cH,m7 K ρ H bI cH->Q cH H)->Ci is vs bH H Q
 |[],_,_,_,_,_,h,.nil,s,q=>by
  simp only[C4] at h;cases h;exact⟨rfl,q _ s⟩
 |[],_,_,_,_,_,h,.cons _ _,s,q=>by simp only[C4] at h;cases h
 |i::is,_,_,_,_,_,h,.nil,s,q=>by simp only[C4] at h;cases h
 |i::is,_,_,_,_,_,h,.cons r rr,s,q=>by
  simp only[C4] at h;exact⟨_,_,rfl,FP (k:=k) h rr (s.set i r) q⟩
theorem Y2:∀{is:List Nat} {l:List D} {Z bI:S},C4 is l Z=some bI->l.length=is.length
 |[],[],_,_,_=>rfl
 |[],_::_,_,_,h=>by simp only[C4] at h;cases h
 |_::_,[],_,_,h=>by simp only[C4] at h;cases h
 |_::is,_::l,_,_,h=>by simp only[C4] at h;simp[Y2 h]
theorem Ii{es:List Expr}{is:List Nat}{k:Nat}(hc:X.calm=true)(hN:X.N.Nodup)(hs:ff X es is):PG X (.Tuple es k pos) (LG X.K (.many is)) :=
 (Ph hc (Xm hN hs) (Bt hs).1 (Bt hs).2).imp λv bH H Q aZ=>by
  obtain⟨d,Z,g,ρ,s,R,r,h⟩:=aZ;obtain⟨l,bI,rfl,e,h⟩:=h;obtain⟨a',vs,rfl,ht,rs⟩:=r.J8;exact⟨_,_,rfl,ht.sq,by rw[<- rs.length];exact Y2 e,FP (k:=λ_=>True) e rs s h⟩
end
theorem LN.ext{K ρ H N bJ H1}(e:Ext ρ H bJ H1):(LN K ρ H N).le (LN K bJ H1 N) :=
 ⟨λZ g h bt H' cH e' R s=>h bt H' cH (e.trans e') R s,λd g h=>h.ext e,λZ g h bt H' cH e' R s=>h bt H' cH (e.trans e') R s,λZ g h bt H' cH e' R s=>h bt H' cH (e.trans e') R s⟩
section
variable{X:Cx}{Ξ:gx}{P:eO}(hP:i3 P){a b c tg:Expr}{ma mb mc:ME}{st:Stmt}{rest:List Stmt}{yI lQ:MS}{pos p:Pos}
include hP
theorem Hv:iJ X [] (LS X.K Ξ (wpS P .pass)) :=
 (RI (X:=X)).imp λN bH H ⟨Z,g,ρ,s,R,h⟩=>h ρ H bH (.refl _ _) R s
theorem Ij(h1:PS X st (LS X.K Ξ (wpS P yI)))(h2:iJ X rest (LS X.K Ξ (wpS P lQ))):iJ X (st::rest) (LS X.K Ξ (wpS P (.seq yI lQ))) :=
 (ZS h1 h2).imp λN bH H ⟨Z,g,ρ,s,R,h⟩ =>
  qN hP s R (.refl _ _) (show wpS P yI { LN X.K ρ H N with nx:=λgZ g1=>wpS P lQ (LN X.K ρ H N) gZ g1 (LX X.K ρ H Ξ) } Z g (LX X.K ρ H Ξ) from h) ⟨λgZ g1 h bJ H1 JC e1 R1 s1=>qN hP s1 R1 e1 h (LN.ext e1),λ_ _ z=>z,λ_ _ z=>z,λ_ _ z=>z⟩
theorem So(ha:PE X a (LE X.K Ξ (aP P ma)))(hs:swapsWith a none pos.line X.env=pure false):PS X (.Expr a pos) (LS X.K Ξ (wpS P (.expr ma))) :=
 (RE ha hs).imp λN bH H ⟨Z,g,ρ,s,R,h⟩=>eT hP s R (.refl _ _) h λx g1 bJ H1 v1 e1 R1 r1 h=>h bJ H1 bH e1 R1 (s.ext e1)
theorem Hy{i:Nat}{x:Str}{p:Pos}(h0:PS X (.Assign [.Name x p] a pos) (uU (LE X.K Ξ (aP P ma)) (rS i))):PS X (.Assign [.Name x p] a pos) (LS X.K Ξ (wpS P (.set i ma))) :=
 h0.imp λN bH H ⟨Z,g,ρ,s,R,h⟩=>eT hP s R (.refl _ _) h λx g1 bJ H1 v1 e1 R1 r1 h=>h bJ H1 _ e1 R1 ((s.ext e1).set i r1)
theorem Qq{t:MT}(h0:PS X (.Assign [tg] a pos) (uU (LE X.K Ξ (aP P ma)) (LG X.K t))):PS X (.Assign [tg] a pos) (LS X.K Ξ (wpS P (.kJ t ma))) :=
 h0.imp λN bH H ⟨Z,g,ρ,s,R,h⟩=>eT hP s R (.refl _ _) h λx g1 bJ H1 v1 e1 R1 r1 h=>⟨x,Z,g1,bJ,s.ext e1,R1,r1,v5 (λbI h cH s'=>h bJ H1 cH e1 R1 s') h⟩
theorem Wk(hu:X.A.units+100<cLine){o i:Expr}{mo mi:ME}{tp:Pos}(ha:PE X a (LE X.K Ξ (aP P ma)))(ho:PE X o (LE X.K Ξ (aP P mo)))(hi:PE X i (LE X.K Ξ (aP P mi)))(hs:swapsWithSole [.Subscript o i tp] a pos.line X.env=pure false)(kQ:∀ v,assign (.Subscript o i tp) X.env v=(do
   let ov <- holding [v] (eval o X.env)
   let iv <- holding [v,ov] (eval i X.env)
   standAt tp
   holding [v,ov,iv] (setItem ov iv v)
   release [v,ov,iv] [])):PS X (.Assign [.Subscript o i tp] a pos) (LS X.K Ξ (wpS P (.dF mo mi ma))) :=
 (Ho ha (Pf ho hi (PZ hu) kQ) hs).imp λN bH H ⟨Z,g,ρ,s,R,h⟩ =>
  eT hP s R (.refl _ _) h λx g1 bJ H1 v1 e1 R1 r1 h=>eT hP (s.ext e1) R1 e1 h λy g2 dS H2 v2 e2 R2 r2 h=>eT hP (s.ext (e1.trans e2)) R2 (e1.trans e2) h λz g3 iO H3 v3 e3 R3 r3 h =>
   ⟨y,z,x,g3,iO,R3,r2.ext e3,r3,r1.ext (e2.trans e3),S7 (λg4 h ph H4 e4 R4=>h ph H4 bH (e1.trans (e2.trans (e3.trans e4))) R4 (s.ext (e1.trans (e2.trans (e3.trans e4))))) h⟩
omit hP in
def Ca(K:PySem.W.Frag)(f:Str)(cs:List Str):Prop:=∀c C,c∈cs->o8 K c C->A7 K C f
omit hP in
theorem Sd{f:Str}{cs:List Str}(hF:Ca X.K f cs){ρ:List Addr}{H:Hp}{g g':G}{x v:D}{xv vv:V}(R:Rl X.K ρ g H)(rx:d7 X.K ρ H x xv)(rv:d7 X.K ρ H v vv)(h:Jb f cs x v g g') :
  ∃a C dx fs,xv=.ref a/\H a=some (.ins C dx fs)/\jt X.K C/\A7 X.K C f/\fs.length<1000/\Rl X.K ρ g' (upd H a (.ins C dx (A2 f vv fs)))/\Ext ρ H ρ (upd H a (.ins C dx (A2 f vv fs))):=by
 obtain⟨i,c,fs,rfl,hi,hc,hz,rfl⟩:=h;obtain⟨a',rfl,ra⟩:=rx.i9;obtain⟨C,dx,vs,hH,hC,jr,rk,na⟩:=R.ins hi ra;obtain⟨R',e'⟩:=R.put (o':=.ins c (j6 f v fs)) (u:=.ins C dx (A2 f vv vs)) hi rfl ra ⟨hC,jr,rk.A2 rv,GA (p:=λy=>A7 X.K C y) (hF c C hc hC) na⟩;exact⟨a',C,dx,vs,rfl,hH,jr,hF c C hc hC,by rw[<- rk.length];omega,R',e'⟩
theorem Sq{f:Str}{cs:List Str}{o:Expr}{mo:ME}{tp:Pos}(hF:Ca X.K f cs)(ho:PE X o (LE X.K Ξ (aP P mo)))(ha:PE X a (LE X.K Ξ (aP P ma)))(hs:swapsWith a (some (.Attribute o f tp)) pos.line X.env=pure false):PS X (.Assign [.Attribute o f tp] a pos) (LS X.K Ξ (wpS P (.gE f cs mo ma))) :=
 (Pm ho ha hs).imp λN bH H ⟨Z,g,ρ,s,R,h⟩=>eT hP s R (.refl _ _) h λx g1 bJ H1 v1 e1 R1 r1 h=>eT hP (s.ext e1) R1 e1 h λy g2 dS H2 v2 e2 R2 r2 h=>by
  obtain⟨g3,h,q⟩:=h;obtain⟨a',C,dx,fs,hx,hH,jr,na,hz,R3,e3⟩:=Sd hF R2 r2 (r1.ext e2) h;exact⟨a',C,dx,fs,hx,hH,jr,na,hz,q dS _ bH (e1.trans (e2.trans e3)) R3 (s.ext (e1.trans (e2.trans e3)))⟩
theorem Sn{i:Nat}{x:Str}{tp:Pos}{op:Operator}{p:Pr}(KP:(op=.Add/\p=.iadd)\/(op=.Sub/\p=.lT))(hN:X.N.Nodup)(hi:X.N[i]?=some x)(hx:Loc X.env.scope x)(hf:X.fn x=true\/X.env.scope.names.lookup x=some .local)(ha:PE X a (LE X.K Ξ (aP P ma))):PS X (.AugAssign (.Name x tp) op a pos) (LS X.K Ξ (wpS P (.jP i p ma))):=by
 have ho:Jl X op (r2 X.K p):=by
  intro pins s Z H x y v u Q I rx ry h;obtain⟨d,e,g,ρ,R,rd,re,d',g',hr,q⟩:=h;rcases KP with⟨rfl,rfl⟩|⟨rfl,rfl⟩
  ·rcases hr with⟨i,j,ex,rfl,rfl⟩|⟨l,m,ex,hz,rfl,rfl⟩
   ·obtain⟨rfl,rfl⟩:=w9 ex;obtain rfl:=rd.i4;obtain rfl:=re.i4;exact QW pins s Z H _ _ v u Q I rx ry ⟨i,j,rfl,rfl,q.now R (.int _)⟩
   ·obtain⟨rfl,rfl⟩:=w9 ex;obtain⟨p1,JI,rfl,t1,vX⟩:=rd.J8;obtain⟨p2,JH,rfl,t2,vW⟩:=re.J8;refine QU pins s Z H _ _ v u Q I rx ry (.inr ⟨p1,p2,JI,JH,rfl,rfl,t1.sq,t2.sq,by rw[<- vX.length,<- vW.length];exact k6 hz,λz=>?_,λz=>?_,λp hp=>q.tup R hp (vX.append vW)⟩)
    ·subst z;cases vX;exact q.now R (.tup t2 vW)
    ·subst z;cases vW;rw[fj] at q;exact q.now R (.tup t1 vX)
  ·obtain⟨i,j,ex,rfl,rfl⟩:=hr;obtain⟨rfl,rfl⟩:=w9 ex;obtain rfl:=rd.i4;obtain rfl:=re.i4;exact QX pins s Z H _ _ v u Q I rx ry ⟨i,j,rfl,rfl,q.now R (.int _)⟩
 refine(Pl hN hi hx ha ho hf).imp λN bH H aZ=>?_;obtain⟨Z,g,ρ,s,R,h⟩:=aZ;obtain⟨xd,Ky,h⟩:=h;obtain⟨xv,hv,rx⟩:=s.val _ _ Ky;refine⟨xv,hv,eT hP s R (.refl _ _) h λz g1 bJ H1 v1 e1 R1 r1 h=>?_⟩;refine⟨xd,z,g1,bJ,R1,rx.ext e1,r1,p8 (λw g2 q=>?_) h⟩;exact λdS H2 v2 e2 R2 r2=>q dS H2 _ (e1.trans e2) R2 ((s.ext (e1.trans e2)).set i r2)
theorem Nv{sa sb:List Stmt}{Dv msb:MS}(hc:PT X c (LT X.K Ξ (cK P mc)))(ha:iJ X sa (LS X.K Ξ (wpS P Dv)))(hb:iJ X sb (LS X.K Ξ (wpS P msb))):PS X (.If c sa sb pos) (LS X.K Ξ (wpS P (.ifs mc Dv msb))) :=
 (Nf hc ha hb).imp λN bH H ⟨Z,g,ρ,s,R,h⟩=>nT hP s R (.refl _ _) h λt g1 bJ H1 e1 R1 h=>by
  cases t
  ·exact qN hP (s.ext e1) R1 e1 h (LN.ext e1)
  ·exact qN hP (s.ext e1) R1 e1 h (LN.ext e1)
theorem Hx(ha:PE X a (LE X.K Ξ (aP P ma))):PS X (.Return (some a) pos) (LS X.K Ξ (wpS P (.ret ma))) :=
 (Pp ha).imp λN bH H ⟨Z,g,ρ,s,R,h⟩=>⟨Z,g,ρ,s,R,h⟩
theorem Wl{body:List Stmt}{mb:MS}(hp:PassesOwn (model X.prog X.w) X.A X.env X.xe)(hc:PT X c (LT X.K Ξ (cK P mc)))(hb:iJ X body (LS X.K Ξ (wpS P mb))):PS X (.While c body [] pos) (LS X.K Ξ (wpS P (.jA mc mb))) :=
 (ZR hp hc hb).imp λN bH H aZ=>by
  obtain⟨Z,g,ρ,s,R,h⟩:=aZ;obtain⟨W,⟨m0,w0⟩,h⟩:=h;refine⟨λm cH H'=>∃bI g' bt,Ext ρ H bt H'/\m7 X.K bt H' bI cH/\Rl X.K bt g' H'/\W m bI g',⟨m0,Z,g,ρ,.refl _ _,s,R,w0⟩,?_⟩;rintro m cH H' ⟨bI,g',bt,e1,s',R',w'⟩;refine nT hP s' R' e1 (h m bI g' w') λt g1 bJ H1 e2 R1 q=>?_;cases t
  ·exact q bJ H1 cH (e1.trans e2) R1 (s'.ext e2)
  ·obtain⟨N2,zE,q⟩:=q;refine⟨λjz H2=>∃bW g2 dS,Ext ρ H dS H2/\m7 X.K dS H2 bW jz/\Rl X.K dS g2 H2/\N2 bW g2,?_,?_⟩
   ·rintro jz H2 ⟨bW,g2,dS,e3,s2,R2,n2⟩;obtain⟨m',hm,w2⟩:=zE bW g2 n2;exact⟨m',hm,bW,g2,dS,e3,s2,R2,w2⟩
   ·refine qN hP (s'.ext e2) R1 (e1.trans e2) q ⟨?_,?_,?_,?_⟩
    ·exact λgR g3 n3 iO H3 jZ e3 R3 s3=>⟨gR,g3,iO,(e1.trans e2).trans e3,s3,R3,n3⟩
    ·exact λd g3 h=>h.ext (e1.trans e2)
    ·exact λgR g3 h iO H3 jZ e3 R3 s3=>h iO H3 jZ ((e1.trans e2).trans e3) R3 s3
    ·exact λgR g3 n3 iO H3 jZ e3 R3 s3=>⟨gR,g3,iO,(e1.trans e2).trans e3,s3,R3,n3⟩
theorem Qn{iter:Expr}{mi:ME}{body:List Stmt}{mb:MS}{t:MT}(hp:PassesOwn (model X.prog X.w) X.A X.env X.xe)(hc:X.calm=true)(hi:PI X tg iter (LI X.K Ξ (gb P mi)))(hg:PG X tg (LG X.K t))(hb:iJ X body (LS X.K Ξ (wpS P mb)))(hs:∀x,foldedSetIterable iter X.env x=pure x):PS X (.For tg iter body [] pos) (LS X.K Ξ (wpS P (.cS t mi mb))) :=
 (Pn hp hc hi hg hb hs).imp λN bH H aZ=>by
  obtain⟨Z,g,ρ,s,R,h⟩:=aZ;refine⟨Z,g,ρ,s,R,y9 hP mi _ _ _ _ _ _ (λk g1 h bJ H1 J e1 R1 j1=>?_) (λ_ _ z=>z) h⟩;obtain⟨W,⟨m0,w0⟩,h⟩:=h;refine⟨λi m cH H'=>∃bI g' bt,Ext bJ H1 bt H'/\m7 X.K bt H' bI cH/\Rl X.K bt g' H'/\W i m bI g',⟨m0,Z,g1,bJ,.refl _ _,s.ext e1,R1,w0⟩,?_⟩;rintro i m cH H' ⟨bI,g',bt,e',s',R',w'⟩;obtain⟨tO,tN⟩:=j1 bt g' H' e' R' i;rcases h i m bI g' w' with⟨ek,q⟩|⟨x,ek,N2,zE,q⟩
  ·exact .inl ⟨tO ek,q bt H' cH (e1.trans e') R' s'⟩
  ·obtain⟨go,yl⟩:=tN x ek;refine .inr ⟨go,λjz H2=>∃bW g2 dS,Ext bJ H1 dS H2/\m7 X.K dS H2 bW jz/\Rl X.K dS g2 H2/\N2 bW g2,?_,?_⟩
   ·rintro jz H2 ⟨bW,g2,dS,e2,s2,R2,n2⟩;obtain⟨m',hm,w2⟩:=zE bW g2 n2;exact⟨m',hm,bW,g2,dS,e2,s2,R2,w2⟩
   ·intro v H2 y;obtain⟨e2,R2,r2⟩:=yl v H2 y;refine⟨x,bI,g',bt,s'.ext e2,R2,r2,v5 (λbW q jz s2=>?_) q⟩;refine qN hP s2 R2 (e1.trans (e'.trans e2)) q ⟨?_,?_,?_,?_⟩
    ·exact λgR g3 n3 iO H3 jZ e3 R3 s3=>⟨gR,g3,iO,(e'.trans e2).trans e3,s3,R3,n3⟩
    ·exact λd g3 h=>h.ext (e1.trans (e'.trans e2))
    ·exact λgR g3 h iO H3 jZ e3 R3 s3=>h iO H3 jZ (e1.trans ((e'.trans e2).trans e3)) R3 s3
    ·exact λgR g3 n3 iO H3 jZ e3 R3 s3=>⟨gR,g3,iO,(e'.trans e2).trans e3,s3,R3,n3⟩
theorem Iv{d4:List Nat}{n:Nat}{t:MT}{mi iq me:ME}:∀bH H Q,LE X.K Ξ (aP P (.comp d4 n t mi iq me)) bH H Q->BR (LI X.K Ξ (gb P mi)) d4 n (LG X.K t) (LT X.K (mX Ξ.1) (cK P iq)) (LE X.K (mX Ξ.1) (aP P me)) bH H Q:=λbH H Q aZ=>by
 obtain⟨Z,g,ρ,s,R,h⟩:=aZ;refine⟨Z,g,ρ,s,R,y9 hP mi _ _ _ _ _ _ (λk g1 h bJ H1 J e1 R1 j1=>?_) (λ_ _ z=>z) h⟩;obtain⟨W,⟨m0,w0⟩,h⟩:=h;refine⟨λi m CP cH H'=>∃ys bI g' bt,Ext bJ H1 bt H'/\m7 X.K bt H' bI cH/\Rl X.K bt g' H'/\b9 X.K bt H' ys CP/\W i m ys bI g',⟨m0,[],_,g1,bJ,.refl _ _,(s.ext e1).d4 d4 n,R1,.nil,w0⟩,?_⟩;rintro i m CP cH H' ⟨ys,bI,g',bt,e',s',R',ry,w'⟩;obtain⟨tO,tN⟩:=j1 bt g' H' e' R' i;rcases h i m ys bI g' w' with⟨ek,q⟩|⟨x,ek,hz,q⟩
 ·exact .inl ⟨tO ek,λp hp=>(q.ext (e1.trans e')).new R' hp ry⟩
 ·obtain⟨go,yl⟩:=tN x ek;refine .inr ⟨go,by rw[<- ry.length];exact AU hz,λv H2 y=>?_⟩;obtain⟨e2,R2,r2⟩:=yl v H2 y;refine⟨x,bI,g',bt,s'.ext e2,R2,r2,v5 (λbW q jz s2=>?_) q⟩;refine⟨bW,g',bt,s2,R2,n6 hP iq _ _ _ _ _ _ (λb g3 q iO H3 e3 R3=>?_) (λ_ _ z=>z.elim) q⟩;cases b
  ·obtain⟨m',hm,w3⟩:=q;exact⟨m',hm,ys,bW,g3,iO,(e'.trans e2).trans e3,s2.ext e3,R3,(ry.ext e2).ext e3,by simpa using w3⟩
  ·refine⟨bW,g3,iO,s2.ext e3,R3,b8 hP me _ _ _ _ _ _ (λz g4 q ph H4 v4 e4 R4 r4=>?_) (λ_ _ z=>z.elim) q⟩;obtain⟨m',hm,w4⟩:=q;exact⟨m',hm,ys++[z],bW,g4,ph,(e'.trans e2).trans (e3.trans e4),(s2.ext e3).ext e4,R4,(((ry.ext e2).ext e3).ext e4).append (.cons r4 .nil),by simpa using w4⟩
theorem Wd{elt tg iter:Expr}{ifs:List Expr}{scope:Scope}{N':List Str}{d4:List Nat}{cl:List (Str×Addr)}{pos p2 jg:Pos}{t:MT}{mi iq me:ME}(S:cT X scope N' d4 cl)(hc:X.calm=true)(hi:PI X tg iter (LI X.K Ξ (gb P mi)))(hg:∀pins C s H fp,PG (d6 X pins scope N' cl C s H fp) tg (LG X.K t))(ht:∀pins C s H fp,kB (d6 X pins scope N' cl C s H fp) ifs (LT X.K (mX Ξ.1) (cK P iq)))(he:∀pins C s H fp,PE (d6 X pins scope N' cl C s H fp) elt (LE X.K (mX Ξ.1) (aP P me)))(hs:∀x,foldedSetIterable iter X.env x=pure x)(ml:Gl X "sorted")(lZ:X.mg "sorted"=none):PE X (.Call (.Name "sorted" p2) [.SetComp elt [⟨tg,iter,ifs,0⟩] scope pos] [] jg) (LE X.K Ξ (aP P (.gk d4 N'.length t mi iq me))) :=
 (Y3 (T8 hc) ml lZ (by first|exact oY|decide +kernel) (L4 (ZL S hc hi hg ht he hs) Q7)).imp λbH H Q aZ=>by
  obtain⟨Z,g,ρ,s,R,h⟩:=aZ;refine⟨Z,g,ρ,s,R,y9 hP mi _ _ _ _ _ _ (λk g1 h bJ H1 J e1 R1 j1=>?_) (λ_ _ z=>z) h⟩;obtain⟨W,⟨m0,w0⟩,h⟩:=h;refine⟨λi m ys cH H'=>∃bI g' bt,Ext bJ H1 bt H'/\m7 X.K bt H' bI cH/\Rl X.K bt g' H'/\W i m ys bI g',⟨m0,_,g1,bJ,.refl _ _,(s.ext e1).d4 d4 _,R1,w0⟩,?_⟩;rintro i m ys cH H' ⟨bI,g',bt,e',s',R',w'⟩;obtain⟨tO,tN⟩:=j1 bt g' H' e' R' i;rcases h i m ys bI g' w' with⟨ek,hz,q⟩|⟨x,ek,hz,q⟩
  ·exact .inl ⟨tO ek,λp hp=>⟨p,ys,rfl,n8,hz,λp' ji=>(q.ext ((e1.trans e').trans (t8 hp))).new (R'.grow hp) ji (b9.ofInts _)⟩⟩
  ·obtain⟨go,yl⟩:=tN x ek;refine .inr ⟨go,hz,λv H2 y=>?_⟩;obtain⟨e2,R2,r2⟩:=yl v H2 y;refine⟨x,bI,g',bt,s'.ext e2,R2,r2,v5 (λbW q jz s2=>?_) q⟩;refine⟨bW,g',bt,s2,R2,n6 hP iq _ _ _ _ _ _ (λb g3 q iO H3 e3 R3=>?_) (λ_ _ z=>z.elim) q⟩;cases b
   ·obtain⟨m',hm,w3⟩:=q;exact⟨m',hm,bW,g3,iO,(e'.trans e2).trans e3,s2.ext e3,R3,by simpa using w3⟩
   ·refine⟨bW,g3,iO,s2.ext e3,R3,b8 hP me _ _ _ _ _ _ (λz g4 q ph H4 v4 e4 R4 r4=>?_) (λ_ _ z=>z.elim) q⟩;obtain⟨j,rfl,m',hm,w4⟩:=q;obtain rfl:=r4.i4;exact⟨j,rfl,m',hm,bW,g4,ph,(e'.trans e2).trans (e3.trans e4),(s2.ext e3).ext e4,R4,by simpa using w4⟩
end
end M

namespace M
open PySem L2 PySem.Spec PyProof.Rows
section
variable{X:Cx}{Ξ:gx}{P:eO}(hP:i3 P)
include hP
theorem Wj{x:Str}{C:Addr}{B newId fR:String}{bm:List Value}{np ft pos:Pos}{jl:Expr}{rest:List Expr}{fQ:ME}(hc:X.calm=true)(O:OwnCls x C bm newId X.mg X.base)(FB:ExcBaseFacts B newId fR bm)(hg:Gl X x)(ha:PA X (jl::rest) (LA X.K Ξ (eY P fQ)))(hr:xA X Ξ.2)(hx:x∈Ξ.1)(hC:o8 X.K x C)(he:starEach (jl::rest) X.env=(false,eval jl X.env)::starEach rest X.env)(fS:(backTo ft (starEach rest X.env)).any (·.1)=false)(hd:(x==("__debug__":Str))=false):PS X (.Raise (some (.Call (.Name x np) (jl::rest) [] ft)) none pos) (LS X.K Ξ (wpS P (.raise x fQ))) :=
 (ZQ hc O FB hg ha hr he fS hd).imp λN bH H aZ=>by
  obtain⟨Z,g,ρ,s,R,h⟩:=aZ;refine jq hP s R (.refl _ _) h λds g1 bJ H1 vs e1 R1 r1 h=>?_;exact⟨by rw[<- r1.length];exact k6 (aC h.1 (by decide)),h.2 bJ H1 C e1 R1 hx hC⟩
def ya(X:Cx)(ex:List Str)(D:L2.Ends)(hs:List ExceptHandler):gx:=(ex,λv _ H=>∃C,v=.ref C/\qx X D C H hs)
inductive kT(X:Cx)(Ξ:gx)(P:eO):List ExceptHandler->List (Str×ME)->Prop
 |nil (hh:vn X Ξ.2):kT X Ξ P [] []
 |cons {y:Str} {C':Addr} {p p1 p2:Pos} {e:Expr} {me:ME} {hs:List ExceptHandler} {ms:List (Str×ME)} (hg:Gl X y) (hd:(y==("__debug__":Str))=false) (hm:X.mg y=some (.ref C'))
   (hx:∀x C,x∈Ξ.1->o8 X.K x C->PySem.W.exmOne X.K (.ref C) (.ref C')=some (decide (x=y\/y="MintError"))) (he:∀ea,PE (C5 X ea) e (LE X.K (mX Ξ.1) (aP P me))) (r:kT X Ξ P hs ms) :
   kT X Ξ P (.ExceptHandler (some (.Name y p)) none [.Return (some e) p1] p2::hs) ((y,me)::ms)
theorem FA{N:L2.Ends}{ρ bt:List Addr}{H H':Hp}{Z:S}{g:G}{x:Xn}{C:Addr}(hl:Z.length=X.N.length)(e:Ext ρ H bt H')(R:Rl X.K bt g H')(hx:x.cls∈Ξ.1)(hC:o8 X.K x.cls C) :
  ∀{hs:List ExceptHandler} {ms:List (Str×ME)},kT X Ξ P hs ms->kl P (LN X.K ρ H N) (Z.map λ_=>none) (LX X.K ρ H Ξ) ms x g->qx X N C H' hs
 |_,_,.nil hh,q=>⟨Ξ.2,hh,q bt H' C e R hx hC⟩
 |_,_,.cons (me:=me) hg hd hm Kx he r,q=>by
  refine⟨hg,hd,_,_,hm,Kx _ _ hx hC,?_⟩;unfold kl at q;split at q
  ·rename_i ex;rw[aH (by simpa using ex)];refine⟨LS X.K (mX Ξ.1) (wpS P (.seq (.ret me) .pass)),λea=>Ij (X:=C5 X ea) (Ξ:=mX Ξ.1) hP (Hx (X:=C5 X ea) hP (he ea)) (Hv (X:=C5 X ea) hP),?_⟩;refine⟨Z.map λ_=>none,g,bt,⟨by simp[hl],λi d z=>?_⟩,R,?_⟩
   ·rw[ao] at z;cases e:Z[i]? with
    |none=>rw[e] at z;cases z
    |some y=>rw[e] at z;cases z
   ·skip
    refine b8 hP me _ _ _ _ _ _ (λd g1 h=>?_) (λ_ _ z=>z.elim) q;exact h.ext e
  ·rename_i ex;rw[az (by simpa using ex)];exact FA hl e R hx hC r q
theorem Qp{h₀:ExceptHandler}{hs:List ExceptHandler}{ms:List (Str×ME)}{body:List Stmt}{mb:MS}{pos:Pos}(cV:X.stack=X.env::X.outer)(hf:X.env.frame=some X.env.locals)(hb:∀pins D,iJ (S4 X pins (rY X pins D (h₀::hs))) body (LS X.K (ya X Ξ.1 D (h₀::hs)) (wpS P mb)))(hh:kT X Ξ P (h₀::hs) ms):PS X (.Try body (h₀::hs) [] [] pos) (LS X.K Ξ (wpS P (.X9 mb ms))):=by
 intro pins s bH H N I ⟨Z,g,ρ,sr,R,h⟩;refine Pq (t:=λD=>LS X.K (ya X Ξ.1 D (h₀::hs)) (wpS P mb)) (Ξ:=λD=>(ya X Ξ.1 D (h₀::hs)).2) cV hf (λpins D _=>hb pins D) pins s bH H N I ⟨λC H' ⟨C',e,z⟩=>by cases e;exact z,?_⟩;refine⟨Z,g,ρ,sr,R,wpS_mono hP mb _ _ _ _ _ _ ⟨λ_ _ z=>z,λ_ _ z=>z,λ_ _ z=>z,λ_ _ z=>z⟩ (λx g1 q bt H' C e' R' hm hc=>⟨C,rfl,?_⟩) h⟩;exact FA (Ξ:=Ξ) hP (sr.len.trans I.len) e' R' hm hc hh q
end
end M

namespace M
open PySem L2 PySem.Spec PyProof.Rows
structure f7 where
 N:List Str
 nm:List (Str×NameKind)
 lA:Bool
 fns:List (Str×Nat)
 con:List (Str×D)
 blt:List Str
 exc:List Str
 gd:List (Str×List D)
 cls:List (Str×Nat)
 oi:List (Str×Str×Nat)
 mV:List (Str×Str)
 jf:Bool
 iP:Bool
def fo:Expr->Bool
 |.Set ..=>false
 |.Starred ..=>false
 |.Slice ..=>false
 |_=>true
def u9:Expr->Bool
 |.ListComp ..=>false
 |.SetComp ..=>false
 |.DictComp ..=>false
 |_=>true
def rX:Expr->Bool
 |.Tuple ..=>false
 |_=>true
def Bs:Expr->Bool
 |.Name ..=>true
 |.Call ..=>true
 |.Subscript ..=>true
 |.Constant ..=>true
 |.Attribute ..=>true
 |.BinOp ..=>true
 |_=>false
def xp:Expr->Bool
 |.Call (.Name ..) ..=>false
 |_=>true
def f7.idx(c:f7)(x:Str):Option Nat:=c.N.findIdx? λy=>decide (y=x)
def f7.qL(c:f7)(x:Str):Bool:=match c.nm.lookup x with
 |some .local=>true
 |some .cell=>true
 |some .free=>true
 |_=>false
def f7.gl(c:f7)(x:Str):Bool:=decide (c.nm.lookup x=some .globalImplicit)
def f7.w6(c:f7)(x:Str):Bool:=decide (c.nm.lookup x=some .local)||decide (c.nm.lookup x=some .cell)
def O1(x:Str):Bool:=(x==("__debug__":Str))==false&&(x==("__classdict__":Str))==false&&decide (x≠"__name__")
def BU:List (Str×String):=[("int","int"),("bool","bool"),("str","str"),("tuple","tuple"),("list","list")]
def Cf:List (Str×Pr):=[("len",.len),("list",.list),("tuple",.tuple),("isinstance",.isin),("all",.all),("max",.max),("min",.min),("int",.int),("sum",.sum)]
def xK:List (Str×Pr):=[]
def Av:List (Str×Pr):=[("append",.append),("pop",.pop),("get",.get),("add",.jC)]
def xC:Expr->Option (Str×List Expr)
 |.Call (.Name x _) args [] _=>some (x,args)
 |_=>none
def IF:Expr->Bool
 |.Tuple ..=>true
 |_=>false
def asName:Expr->Option Str
 |.Name x _=>some x
 |_=>none
def frees(sc:Scope):List Str:=(sc.names.filter λy=>decide (y.2=.free)).map (·.1)
def locals(sc:Scope):List Str:=(sc.names.filter λy=>decide (y.2=.local)||decide (y.2=.cell)).map (·.1)
def f7.inner(c:f7)(sc:Scope):f7:={ c with N:=frees sc++locals sc,nm:=sc.names,lA:=false,jf:=false,iP:=false }
def f7.d4(c:f7)(sc:Scope):List Nat:=(frees sc).map λx=>(c.idx x).getD 0
def f7.Ba(c:f7)(sc:Scope):Bool :=
 decide (sc.kind=.function)&&sc.names.all (λy=>!decide (y.2=.cell)||decide (sc.names.lookup y.1=some .cell))&&sc.names.all (λy=>!decide (y.2=.local)||decide (sc.names.lookup y.1=some .local)) &&
 decide (frees sc++locals sc).Nodup&&(frees sc).all (λx=>(c.idx x).isSome&&decide (sc.names.lookup x=some .free)&&(decide (c.nm.lookup x=some .cell)||decide (c.nm.lookup x=some .free)))
def f7.slot(c:f7)(e:Expr):Option Nat:=(asName e).bind λx=>if c.w6 x then c.idx x else none
def f7.slots(c:f7):List Expr->Option (List Nat)
 |[]=>some []
 |e::r=>(c.slot e).bind λi=>(c.slots r).map λis=>i::is
def f7.tg(c:f7)(e:Expr):Option MT:=((c.slot e).map .one).orElse λ_=>match e with
 |.Tuple es _ _=>(c.slots es).map .many
 |_=>none
def qy:Const->Option D
 |.int i=>some (.int i)
 |.bool b=>some (.bl b)
 |.none=>some .bx
 |.str x=>some (.str x)
 |_=>none
structure CF where
 e:f7->Expr->Option ME
 t:f7->Expr->Option ME
 s:f7->Stmt->Option MS
section
variable(r:CF)(c:f7)
def c1(p:Pr)(a:Expr):Option ME:=(r.e c a).map λm=>.prim p (.cons m .nil)
def c2(p:Pr)(a b:Expr):Option ME:=(r.e c a).bind λma=>(r.e c b).map λmb=>.prim p (.cons ma (.cons mb .nil))
def E0:List Expr->Option ME
 |[]=>some .nil
 |e::es=>if fo e then(r.e c e).bind λm=>(E0 es).map λms=>.cons m ms else none
def Hc:Expr->Option Str
 |.Constant (.str x) _ _=>some x
 |_=>none
def ET:Expr->Option Expr
 |.FormattedValue e k none _=>if k=-1 then some e else none
 |_=>none
def rQ:List Expr->Option ME
 |[]=>some .nil
 |e::es=>((Hc e).bind λx=>if x.length<=2000 then(rQ es).map λms=>.cons (.lit (.str x)) ms else none).orElse λ_ =>
   (ET e).bind λa=>(r.e c a).bind λm=>(rQ es).map λms=>.cons (.prim .fv (.cons m .nil)) ms
def vc:List (Option Expr)->List Expr->Option ME
 |[],[]=>some .nil
 |some k::ks,v::vs=>(r.e c k).bind λmk=>(r.e c v).bind λmv=>(vc ks vs).map λms=>.cons mk (.cons mv ms)
 |_,_=>none
def wW(op:BoolOp):List Expr->Option ME
 |[]=>none
 |[a]=>r.e c a
 |a::b::rs=>(r.e c a).bind λma=>(wW op (b::rs)).map λmb=>match op with
  |.And=>.dB ma mb
  |.Or=>.jE ma mb
def wX(op:BoolOp):List Expr->Option ME
 |[]=>none
 |[a]=>r.t c a
 |a::b::rs=>(r.t c a).bind λma=>(wX op (b::rs)).map λmb=>match op with
  |.And=>.dB ma mb
  |.Or=>.jE ma mb
def He:List Expr->Option ME
 |[]=>some .no
 |[e]=>r.t c e
 |_=>none
def u4:List Stmt->Option MS
 |[]=>some .pass
 |s::rs=>(r.s c s).bind λm=>(u4 rs).map λms=>.seq m ms
def BZ(x:Str):Option ME :=
 if O1 x then(if c.qL x then(c.idx x).map .var else if c.gl x then((c.con.lookup x).map .lit).orElse λ_=>if c.blt.contains x then(BU.lookup x).map λt=>.lit (.ty t) else none else none) else none
def yh(op:UnaryOp)(a:Expr):Option ME:=if op=.Not then(r.e c a).map .dY else c1 r c (.un op) a
def f7.xV(b:Expr):Option (List D):=(asName b).bind λx=>if c.gl x&&O1 x then c.gd.lookup x else none
def Tc:CmpOp->Option Bool
 |.In=>some false
 |.NotIn=>some true
 |_=>none
def uW(a:Expr)(ops:List CmpOp)(bs:List Expr):Option ME:=match ops,bs with
 |[op],[b]=>if behindInMarks op b then none else((Tc op).bind λneg=>(c.xV b).bind λkvs=>(r.e c a).map λma=>.prim (wY neg) (.cons (.lit (.tup kvs)) (.cons ma .nil))).orElse λ_=>c2 r c (.cmp op) a b
 |[op,gO],[b,d]=>if lastMarks [op,gO] [b,d] then none else(r.e c a).bind λma=>(r.e c b).bind λmb=>(r.e c d).map λmd=>.chain op gO ma mb md
 |_,_=>none
def SI:Expr->Option (Option Expr×Option Expr×Option Expr)
 |.Slice lo hi st _=>some (lo,hi,st)
 |_=>none
def CQ(a:Expr):Option Expr->Option Expr->Option Expr->Option ME
 |none,none,none=>c1 r c (.lL false false) a
 |some b,none,none=>c2 r c (.lL true false) a b
 |none,some b,none=>c2 r c (.lL false true) a b
 |_,_,_=>none
def By(a b:Expr):Option ME:=((SI b).bind λq=>CQ r c a q.1 q.2.1 q.2.2).orElse λ_=>if fo b then((c.xV a).bind λkvs=>(r.e c b).map λmb=>.prim .mF (.cons (.lit (.tup kvs)) (.cons mb .nil))).orElse λ_=>c2 r c .ix a b else none
def yi(x:Str)(e:Expr):Option ME:=(xC e).bind λq =>
 if x="list" && q.1="range" && c.blt.contains "list" && c.blt.contains "range" && c.gl "range" then (match q.2 with
  |[a]=>if fo a then c1 r c .ir a else none
  |[a,b]=>if fo a&&fo b then c2 r c .jI a b else none
  | _=>none)
 else if x="sorted" && q.1="set" && c.blt.contains "sorted" && c.blt.contains "set" && c.gl "set" then (match q.2 with
  |[a]=>if fo a then c1 r c .sset a else none
  | _=>none)
 else if x="len" && q.1="set" && c.blt.contains "len" && c.blt.contains "set" && c.gl "set" then (match q.2 with
  |[a]=>if fo a then c1 r c .rH a else none
  | _=>none)
 else none
def Ut(x:Str)(e:Expr):List Expr->Option ME
 |[]=>yi r c x e
 |_=>none
def AE(x:Str):Option ME:=if O1 x&&c.gl x then(c.cls.lookup x).map λf=>.make x f .nil else none
def AF(x:Str)(e:Expr)(es:List Expr):Option ME:=if O1 x&&c.gl x then(Ut r c x e es).orElse λ_=>(E0 r c (e::es)).bind λms=>((c.fns.lookup x).map λf=>.call f ms).orElse λ_=>((c.cls.lookup x).map λf=>.make x f ms).orElse λ_=>if c.blt.contains x then(Cf.lookup x).map λp=>.prim p ms else none else none
def HE(x:Str):List Expr->Option ME
 |[]=>AE c x
 |e::es=>AF r c x e es
def AG(o:Expr)(m:Str)(apos pos:Pos)(args:List Expr):Option ME :=
 if xp o && (apos.endLine == pos.line) && decide (args.length < 20) then (r.e c o).bind λmo=>(E0 r c args).bind λms=>if m="index" then none else if args.isEmpty && (xK.lookup m).isSome then (xK.lookup m).map λp=>.dZ p mo ms else (match Av.lookup m with
  |some p=>if args.isEmpty then none else some (.dZ p mo ms)
  | none=>none) else none
def f7.fnOf:List Expr->Option (List Nat)
 |[]=>some []
 |e::es=>(asName e).bind λx=>if c.gl x&&O1 x then(c.fns.lookup x).bind λf=>(f7.fnOf es).map λfs=>f::fs else none
def Hd:Expr->Option (Str×Int)
 |.Name x _=>some (x,0)
 |.BinOp (.Name x _) .Sub (.Constant (.int k) _ _) _=>some (x,k)
 |_=>none
def Bw(ns:List Expr)(b:Expr)(args:List Expr):Option ME:=if !args.isEmpty&&decide (ns.length<=100) then(c.fnOf ns).bind λfs=>(Hd b).bind λq=>if O1 q.1&&c.qL q.1 then(c.idx q.1).bind λi=>(E0 r c args).map λms=>.je fs i q.2 ms else none else none
def BY(f:Expr)(args:List Expr)(iQ:List Keyword)(pos:Pos):Option ME:=if iQ.isEmpty then(match f with
 |.Name x _=>HE r c x args
 |.Attribute o m apos=>AG r c o m apos pos args
 |.Subscript (.List ns _) b _=>Bw r c ns b args
 | _=>none) else none
def ve(tg e:Expr):Option ME:=(((xC e).bind λq =>
  if q.1="enumerate" then (match q.2 with
   |[a]=>if c.gl "enumerate"&&c.blt.contains "enumerate"&&fo a&&IF tg then(r.e c a).map .jK else none
   | _=>none)
  else if q.1="reversed" then (match q.2 with
   |[a]=>if c.gl "reversed"&&c.blt.contains "reversed"&&fo a then(r.e c a).map .mP else none
   | _=>none)
  else if q.1="range" then (match q.2 with
   |[a]=>if c.gl "range"&&c.blt.contains "range"&&fo a then(r.e c a).map .et else none
   |[a,b]=>if c.gl "range"&&c.blt.contains "range"&&fo a&&fo b then(r.e c a).bind λma=>(r.e c b).map λmb=>.jJ ma mb else none
   | _=>none)
  else none):Option ME).orElse λ_=>if fo e then (r.e c e).map .fA else none
def X6(elt:Expr)(gens:List Comprehension)(sc:Scope):Option ME:=match gens with
 |[⟨tg,it,ifs,DD⟩]=>if c.Ba sc&&decide (DD=0)&&fo it then((c.inner sc).tg tg).bind λt=>(ve r c tg it).bind λmi=>(He r (c.inner sc) ifs).bind λmc=>(r.e (c.inner sc) elt).map λme=>.comp (c.d4 sc) (frees sc++locals sc).length t mi mc me else none
 |_=>none
def SG:Expr->Option Str
 |.Name x _=>some x
 |_=>none
def SH:Expr->Option (Expr×List Comprehension×Scope)
 |.SetComp elt gens sc _=>some (elt,gens,sc)
 |_=>none
def Uq:ME->Option ME
 |.comp a n t i k e=>some (.gk a n t i k e)
 |_=>none
def yj(f:Expr)(args:List Expr)(iQ:List Keyword):Option ME:=match args with
 |[a]=>if iQ.isEmpty&&decide (SG f=some "sorted")&&c.gl "sorted"&&c.blt.contains "sorted" then(SH a).bind λq=>(X6 r c q.1 q.2.1 q.2.2).bind Uq else none
 |_=>none
def vO(f:Expr)(args:List Expr)(iQ:List Keyword):Option ME:=(λ(_:f7)=>none) c
def Bx(es:List Expr)(k:Nat):Option ME:=if c.lA&&decide (k=0) then(match es with
 |[.Constant (.int i) _ _]=>some (.prim (.jB i) .nil)
 | _=>none) else none
def Jc:Expr->Option ME
 |.Name x _=>BZ c x
 |.Constant k _ _=>(qy k).map .lit
 |.BinOp a op b _=>c2 r c (.bin op) a b
 |.UnaryOp op a _=>yh r c op a
 |.Compare a ops bs _=>uW r c a ops bs
 |.BoolOp op vs _=>wW r c op vs
 |.IfExp t a b _=>(r.t c t).bind λmt=>(r.e c a).bind λma=>(r.e c b).map λmb=>.ite mt ma mb
 |.Tuple es _ _=>(E0 r c es).map (.prim .tup)
 |.List es _=>(E0 r c es).map (.prim .lst)
 |.Subscript a b _=>By r c a b
 |.Dict ks vs _=>if ks.isEmpty&&vs.isEmpty then some (.prim .Z9 .nil) else if decide (ks.length<=15) then(vc r c ks vs).map .oP else none
 |.JoinedStr vs _=>if decide (2<=vs.length)&&decide (vs.length<=40) then(rQ r c vs).map (.prim .kR) else none
 |.Attribute o f _=>if xp o then c1 r c (.fld f) o else none
 |.Call f args iQ pos=>(yj r c f args iQ).orElse λ_=>(vO c f args iQ).orElse λ_=>BY r c f args iQ pos
 |.ListComp elt gens sc _=>X6 r c elt gens sc
 |.Set es k _=>Bx c es k
 |_=>none
def stepT:Expr->Option ME
 |.UnaryOp op a _=>if op=.Not then(r.t c a).map .dY else none
 |.BoolOp op vs _=>wX r c op vs
 |.Compare a ops bs _=>(uW r c a ops bs).map .fk
 |e=>if Bs e then(r.e c e).map .fk else none
def IE:Expr->Option (Str×Pos)
 |.Name x p=>some (x,p)
 |_=>none
def Uz:Expr->Option (Expr×Expr)
 | .Tuple es _ _=>(match es with
  |[a,b]=>some (a,b)
  | _=>none)
 |_=>none
def f7.Cv(x:Str)(px:Pos)(y:Str)(py:Pos)(a b:Expr):Bool:=decide (c.nm.lookup x=some .local)&&decide (c.nm.lookup y=some .local)&&decide (x≠y)&&decide (py.line=px.line)&&fo a&&fo b&&!([a,b].all (foldedForSure 8))&&!([a,b].all (constantsAlone 8))
def f7.xf:List Expr->Expr->Bool
 |[s,t],e=>((IE s).bind λp=>(IE t).bind λq=>(Uz e).map λz=>c.Cv p.1 p.2 q.1 q.2 z.1 z.2).getD false
 |_,_=>false
def IJ:Expr->Option ME
 |.Constant k _ _=>(qy k).map .lit
 |_=>none
def xj:List Expr->Option ME
 |[]=>some .nil
 |e::es=>(IJ e).bind λm=>(xj es).map λms=>.cons m ms
def II:Expr->Option ME
 |.List es _=>(xj es).map (.prim .lst)
 |.Constant k _ _=>(qy k).map .lit
 |_=>none
def Uy:List Stmt->Option Expr
 | [s]=>(match s with
  |.Return e _=>e
  | _=>none)
 |_=>none
def Cd:ExceptHandler->Option (Str×Expr)
 |.ExceptHandler t n b _=>if n.isNone then t.bind λt=>(asName t).bind λy=>(Uy b).map λe=>(y,e) else none
def vd:List ExceptHandler->Option (List (Str×ME))
 |[]=>some []
 |h::hs=>(Cd h).bind λq=>if c.exc.contains q.1&&c.gl q.1&&O1 q.1 then(II q.2).bind λm=>(vd hs).map λms=>(q.1,m)::ms else none
def AJ(e f:Option Expr):Option (Str×Expr×List Expr):=if f.isNone then e.bind λe=>(xC e).bind λq=>q.2.head?.map λa=>(q.1,a,q.2.tail) else none
def f7.xU(f:Str):List Str:=(c.mV.filter λy=>decide (y.1=f)).map (·.2)
def Ce:List Expr->Option (Expr×Expr×Expr×Expr)
 |_=>none
def Ff(tg e:Expr):Option MS:=match tg with
 |.Name x _=>if c.w6 x then(c.idx x).bind λi=>(r.e c e).map λm=>.set i m else none
 |.Tuple es _ _=>(Ce es).elim (if(rX e&&u9 e)||c.xf es e then(c.slots es).bind λis=>(r.e c e).map λm=>.kJ (.many is) m else none) λq=>if u9 e&&fo q.2.1&&fo q.2.2.2 then(r.e c q.1).bind λm1=>(r.e c q.2.1).bind λn1=>(r.e c q.2.2.1).bind λm2=>(r.e c q.2.2.2).bind λn2=>(r.e c e).map λm=>.vT m1 n1 m2 n2 m else none
 |.Subscript o i _=>if fo i&&u9 e then(r.e c o).bind λmo=>(r.e c i).bind λmi=>(r.e c e).map λm=>.dF mo mi m else none
 |.Attribute o f _=>if u9 e then(r.e c o).bind λmo=>(r.e c e).map λm=>.gE f (c.xU f) mo m else none
 |_=>none
def IG:Operator->Option Pr
 |.Add=>some .iadd
 |.Sub=>some .lT
 |_=>none
def toR(e:Expr)(m:ME):ME:=(λ(_:f7)=>m) c
def Jd:Stmt->Option MS
 |.Expr e _=>if u9 e then(r.e c e).map .expr else none
 | .Assign yu e _=>(match yu with
  |[tg]=>Ff r c tg e
  | _=>none)
 | .AugAssign tg op e _=>(match tg with
  |.Name x _=>if c.w6 x then(IG op).bind λp=>(c.idx x).bind λi=>(r.e c e).map λm=>.jP i p m else none
  | _=>none)
 |.If t a b _=>(r.t c t).bind λmt=>(u4 r c a).bind λma=>(u4 r c b).map λmb=>.ifs mt ma mb
 |.For tg it body nK _=>if c.lA&&(nK.isEmpty&&fo it) then(c.tg tg).bind λt=>(ve r c tg it).bind λmi=>(u4 r c body).map λmb=>.cS t mi mb else none
 |.While t body nK _=>if c.lA&&nK.isEmpty then(r.t c t).bind λmt=>(u4 r c body).map λmb=>.jA mt mb else none
 | .Return e _=>(match e with
  |some e=>(r.e c e).map λm=>.ret (toR c e m)
  | none=>some .pC)
 |.Pass _=>some .pass
 |.Raise e f _=>(AJ e f).bind λq=>if c.jf&&c.exc.contains q.1&&c.gl q.1&&O1 q.1 then(E0 r c (q.2.1::q.2.2)).map (.raise q.1) else none
 |.Try body hs el fi _=>if c.iP&&!hs.isEmpty&&el.isEmpty&&fi.isEmpty then(u4 r { c with jf:=false,iP:=false } body).bind λmb=>(vd c hs).map λms=>.X9 mb ms else none
 |_=>none
end
def comp:Nat->CF
 |0=>⟨λ_ _=>none,λ_ _=>none,λ_ _=>none⟩
 |n+1=>⟨Jc (comp n),stepT (comp n),λc s=>(Jd (comp n) c s).orElse λ_=>some (.expr .no)⟩
end M

namespace M
open PySem L2 PySem.Spec PyProof.Rows
structure gs(X:Cx)(c:f7)(P:eO)(Ξ:gx):Prop where
 N:X.N=c.N
 nd:c.N.Nodup
 loc:∀x,c.nm.lookup x=some .local->X.env.scope.names.lookup x=some .local
 wQ:∀x,c.nm.lookup x=some .cell->X.env.scope.names.lookup x=some .cell
 zV:∀x,c.nm.lookup x=some .free->X.env.scope.names.lookup x=some .cell\/X.env.scope.names.lookup x=some .free
 Eo:∀x,c.nm.lookup x=some .globalImplicit->X.env.scope.names.lookup x=some .globalImplicit
 cells:∀x,(c.nm.lookup x=some .cell\/c.nm.lookup x=some .free)->∃a,X.env.cells.lookup x=some a
 lA:∀x,c.nm.lookup x=some .cell->X.fn x=true
 calm:X.calm=true
 units:X.A.units+100<cLine
 own:c.lA=true->PassesOwn (model X.prog X.w) X.A X.env X.xe
 mono:i3 P
 con:∀x d,c.con.lookup x=some d->∃v u,X.mg x=some u/\RelV v u/\∀ρ H,d7 X.K ρ H d v
 blt:∀x,c.blt.contains x=true->X.mg x=none
 fns:∀x f,c.fns.lookup x=some f->∃k fa fd ps,mY X P Ξ.1 k f fa fd ps/\u3 k X.A/\X.mg x=some (.ref fa)/\PySem.W.keepIn X.K (.ref fa)=true
 cls:∀x f,c.cls.lookup x=some f->∃k C fa fd ps,mY X P Ξ.1 k f fa fd ps/\u3 (k+1) X.A/\X.mg x=some (.ref C)/\o8 X.K x C/\jt X.K C/\Mk X.K C fa
 oi:∀m y f C,(m,y,f)∈c.oi->o8 X.K y C->∃k fa fd ps,Meth X.K C m fa/\mY X P Ξ.1 k f fa fd ps/\u3 k X.A
 mV:∀f y C,(f,y)∈c.mV->o8 X.K y C->A7 X.K C f
 wK:Ξ.1=c.exc
 pass:Passes (iG X.prog X.w) X Ξ.2
 jf:c.jf=true->xA X Ξ.2
 iP:c.iP=true->X.stack=X.env::X.outer/\X.env.frame=some X.env.locals/\vn X Ξ.2
 exc:∀x,c.exc.contains x=true->∃C,X.mg x=some (.ref C)/\o8 X.K x C/\∃B newId fR bm,OwnCls x C bm newId X.mg X.base/\ExcBaseFacts B newId fR bm
 zZ:∀x y C C',c.exc.contains x=true->c.exc.contains y=true->o8 X.K x C->o8 X.K y C'->PySem.W.exmOne X.K (.ref C) (.ref C')=some (decide (x=y\/y="MintError"))
 uB:∀x kvs,c.gd.lookup x=some kvs->wR X x kvs
 code:c.lA=true->PySem.W.kdsCode X.K X.env.code=true
section
variable{X:Cx}{c:f7}{P:eO}{Ξ:gx}
theorem QT{c:f7}{x:Str}{i:Nat}(h:c.idx x=some i):c.N[i]?=some x:=by
 unfold f7.idx at h;rw[jR] at h;obtain⟨h1,h2,_⟩:=h;rw[au h1,ba h2]
theorem gs.BV(C:gs X c P Ξ){x:Str}(h:c.qL x=true):vz X.env.scope x:=by
 unfold f7.qL at h;split at h
 ·rename_i e;exact .inl (C.loc x e)
 ·rename_i e;exact .inr (.inl (C.wQ x e))
 ·rename_i e;rcases C.zV x e with z|z
  ·exact .inr (.inl z)
  ·exact .inr (.inr z)
 ·cases h
theorem gs.v7(C:gs X c P Ξ){x:Str}(h:c.gl x=true):Gl X x:=C.Eo x (ba h)
theorem gs.w6(C:gs X c P Ξ){x:Str}(h:c.w6 x=true):Loc X.env.scope x/\(X.fn x=true\/X.env.scope.names.lookup x=some .local):=by
 unfold f7.w6 at h;rw[cw] at h;rcases h with h|h
 ·have:=C.loc x (ba h);exact⟨.inl this,.inr this⟩
 ·exact⟨.inr (C.wQ x (ba h)),.inl (C.lA x (ba h))⟩
theorem gs.Z5(C:gs X c P Ξ){x:Str}{i:Nat}(h:c.idx x=some i):X.N[i]?=some x:=by rw[C.N];exact QT h
theorem gs.pK(C:gs X c P Ξ):X.N.Nodup:=by rw[C.N];exact C.nd
theorem Bu{e:Expr}{x:Str}(h:asName e=some x):∃p,e=.Name x p:=by
 cases e<;>first|(cases h;exact⟨_,rfl⟩)|cases h
theorem Fw{e:Expr}{i:Nat}(h:c.slot e=some i):∃x p,e=.Name x p/\c.w6 x=true/\c.idx x=some i:=by
 unfold f7.slot at h;obtain⟨x,hx,h2⟩:=ag.mp h;obtain⟨p,rfl⟩:=Bu hx;split at h2
 ·exact⟨x,p,rfl,by assumption,h2⟩
 ·cases h2
theorem gs.slots(C:gs X c P Ξ):∀{es:List Expr} {is:List Nat},c.slots es=some is->ff X es is:=by
 intro es
 induction es with
 |nil=>intro is h;cases h;exact .nil
 |cons e r ih =>
  intro is h;unfold f7.slots at h;obtain⟨i,hi,h⟩:=ag.mp h;obtain⟨is',hs,rfl⟩:=aa.mp h;obtain⟨x,p,rfl,hl,hx⟩:=Fw hi;exact .cons (C.Z5 hx) (C.w6 hl).1 (C.w6 hl).2 (ih hs)
theorem orElse_some{α:Type}{a:Option α}{b:Unit->Option α}{m:α}(h:a.orElse b=some m):a=some m\/b ()=some m:=by
 cases a with
 |none=>exact .inr h
 |some x=>exact .inl h
theorem gs.Fm(C:gs X c P Ξ){tg:Expr}{t:MT}(h:c.tg tg=some t):PG X tg (LG X.K t):=by
 unfold f7.tg at h;rcases orElse_some h with h|h
 ·obtain⟨i,hi,rfl⟩:=aa.mp h;obtain⟨x,p,rfl,hl,hx⟩:=Fw hi;exact Qa C.pK (C.Z5 hx) (C.w6 hl).1 (C.w6 hl).2
 ·cases tg<;>first|(cases h;done)|skip
  obtain⟨is,hs,rfl⟩:=aa.mp (show(c.slots _).map MT.many=some t from h);exact Ii C.calm C.pK (C.slots hs)
theorem j9{e:Expr}{es:List Expr}{env:Env}(h:fo e=true):starEach (e::es) env=(false,eval e env)::starEach es env:=by
 cases e<;>first|rfl|cases h
theorem Y4{e:Expr}{env:Env}(h:fo e=true):∀x,foldedSetIterable e env x=pure x:=by
 intro x;cases e<;>first|rfl|cases h
theorem xq{e:Expr}(h:fo e=true):xy e:=by
 intro o i;cases e<;>first|rfl|cases h
theorem Rk{o i:Expr}{tp:Pos}{env:Env}(h:fo i=true):∀v,assign (.Subscript o i tp) env v=(do
      let ov <- holding [v] (eval o env)
      let iv <- holding [v,ov] (eval i env)
      standAt tp
      holding [v,ov,iv] (setItem ov iv v)
      release [v,ov,iv] []):=by
  intro v;cases i<;>first|rfl|cases h
theorem T1{e:Expr}{t:Option Expr}{n:Nat}{env:Env}(h:u9 e=true):swapsWith e t n env=pure false:=by
 cases e<;>first|rfl|cases h
theorem ZC{e:Expr}{es:List Expr}{k:Nat}{p:Pos}{env:Env}(h:rX e=true):swappedStores [.Tuple es k p] e env=pure none:=by
 cases e<;>first|rfl|cases h
theorem Xq{e:Expr}{env:Env}(h:Bs e=true):∀whole,isTrue e env whole=(do let v <- whole;standAt e.pos;holding [v] (truthy v)):=by
 intro w;cases e<;>first|rfl|cases h
theorem V0{e:Expr}{q:Str×List Expr}(h:xC e=some q):∃p pos,e=.Call (.Name q.1 p) q.2 [] pos:=by
 cases e<;>first|(cases h;done)|skip
 rename_i f as iQ pos;cases f<;>first|(cases h;done)|skip
 cases iQ<;>first|(cases h;done)|skip
 cases h;exact⟨_,_,rfl⟩
theorem Ww{e:Expr}(h:IF e=true):∃es k p,e=.Tuple es k p:=by
 cases e<;>first|exact⟨_,_,_,rfl⟩|cases h
theorem Iy{b:Expr}{kvs:List D}(h:c.xV b=some kvs):∃x p,b=.Name x p/\c.gl x=true/\O1 x=true/\c.gd.lookup x=some kvs:=by
 unfold f7.xV at h;obtain⟨x,hx,h2⟩:=ag.mp h;obtain⟨p,rfl⟩:=Bu hx;split at h2
 ·rename_i hc;rw[aN] at hc;exact⟨x,p,rfl,hc.1,hc.2,h2⟩
 ·cases h2
theorem P8{o:Expr}{f:Str}{env:Env}(h:xp o=true):attributeBase o f env (eval o env)=eval o env:=by
 cases o<;>first|rfl|skip
 rename_i f as iQ pos;cases f<;>first|rfl|cases h
theorem AN{env:Env}:∀(names:List (Str×NameKind)) (acc:List (Str×Addr)),(∀y∈names,y.2=.free->∃a,env.cells.lookup y.1=some a)->(∀x a,acc.lookup x=some a->env.cells.lookup x=some a) ->
  ∃ cl,(forIn names acc λ(y:Str × NameKind) (cs:List (Str × Addr))=>(match y with
   |(name,kind)=>if(kind==NameKind.free)=true then do
     let __do_lift <- cellOf env name
     pure (ForInStep.yield ((name,__do_lift)::cs))
    else pure (ForInStep.yield cs):Sem (ForInStep (List (Str × Addr)))))=pure cl/\(∀ x a,cl.lookup x=some a->env.cells.lookup x=some a)/\(∀ y ∈ names,y.2=.free->∃ a,cl.lookup y.1=some a)/\∀ x a,acc.lookup x=some a->∃ a',cl.lookup x=some a'
 |[],acc,_,h2=>⟨acc,rfl,h2,λy hy=>absurd hy (by simp),λx a h=>⟨a,h⟩⟩
 |(n,k)::r,acc,h1,h2=>by
  rw[List.forIn_cons];by_cases hk:k=.free
  ·subst hk;obtain⟨a,ha⟩:=h1 (n,.free) (by simp) rfl;have hc:cellOf env n=pure a:=by unfold cellOf;rw[ha]
   obtain ⟨cl,e,q1,q2,q3⟩:=AN r ((n,a) :: acc) (λy hy=>h1 y (by simp [hy])) (λx b hb=>by
    rw[cg] at hb;cases hx:x==n with
    |true=>rw[hx] at hb;cases hb;rw[eq_of_beq hx];exact ha
    | false=>rw [hx] at hb;exact h2 x b hb)
   refine⟨cl,?_,q1,λy hy hf=>?_,λx b hb=>?_⟩
   ·simp only[beq_self_eq_true,if_true,hc];exact e
   ·rcases aG.mp hy with z|z
    ·subst z;exact q3 n a (by simp[List.lookup_cons])
    ·exact q2 y z hf
   ·cases hx:x==n with
    |true=>exact q3 x a (by rw[cg,hx])
    |false=>exact q3 x b (by rw[cg,hx];exact hb)
  ·have hb:(k==NameKind.free)=false:=by simpa using hk
   obtain⟨cl,e,q1,q2,q3⟩:=AN r acc (λy hy=>h1 y (by simp[hy])) h2;refine⟨cl,?_,q1,λy hy hf=>?_,q3⟩
   ·simp only[hb,Bool.false_eq_true,if_false];exact e
   ·rcases aG.mp hy with z|z
    ·subst z;exact absurd hf hk
    ·exact q2 y z hf
end
end M

namespace M
open PySem L2 PySem.Spec PyProof.Rows
theorem Xi{P:Program}{w:World}{X:Cx}:Passes (iG P w) X (λ_ _ _=>False):=λ_ _ _ _ _ _ _ h=>by
 obtain⟨_,_,_,_,_,_,_,z⟩:=h;exact z.elim
theorem O4{env:Env}:∀{names:List (Str×NameKind)} {x:Str},names.lookup x=some .globalImplicit ->
  (names.map λ(n,k)=>if(k==NameKind.free&&env.scope.kind==.function&&env.kindOf n==some .cell) then(n,NameKind.cell) else(n,k)).lookup x=some .globalImplicit
 |[],_,h=>by simp at h
 |(n,k)::r,x,h=>by
  have ih:=@O4 env r x;show List.lookup x ((if(k==NameKind.free&&env.scope.kind==.function&&env.kindOf n==some .cell)=true then(n,NameKind.cell) else(n,k))::_)=_;cases hx:x==n with
  |true =>
   simp only[List.lookup_cons,hx] at h;cases h;simp[List.lookup_cons,hx]
  |false =>
   simp only[List.lookup_cons,hx] at h;by_cases hc:(k==NameKind.free&&env.scope.kind==.function&&env.kindOf n==some .cell)=true
   ·rw[aH hc];simp only[List.lookup_cons,hx];exact ih h
   ·rw[az hc];simp only[List.lookup_cons,hx];exact ih h
section
variable{X:Cx}{c:f7}{P:eO}{Ξ:gx}
theorem gs.comp(C:gs X c P Ξ){sc:Scope}(h:c.Ba sc=true):∃cl,cT X sc (frees sc++locals sc) (c.d4 sc) cl/\∀pins A s H fp,gs (d6 X pins sc (frees sc++locals sc) cl A s H fp) (c.inner sc) P (mX Ξ.1):=by
 unfold f7.Ba at h;simp only[Bool.and_eq_true,decide_eq_true_eq,List.all_eq_true] at h;obtain⟨⟨⟨⟨h1,h2⟩,h3⟩,h4⟩,h5⟩:=h;have mn:∀x,sc.names.lookup x=some .free->x∈frees sc:=λx hx=>by
  unfold frees;exact aR.mpr ⟨(x,.free),bu.mpr ⟨aL hx,by simp⟩,rfl⟩
 have fr:∀x∈frees sc,(∃i,c.idx x=some i)/\sc.names.lookup x=some .free/\(c.nm.lookup x=some .cell\/c.nm.lookup x=some .free):=λx hx=>by
  have:=h5 x hx;rw[dJ,cw] at this;simp only[decide_eq_true_eq] at this;exact⟨this.1.1,this.1.2,this.2⟩
 have qo:∀y∈sc.names,y.2=.free->∃a,X.env.cells.lookup y.1=some a:=λy hy hf=>by
  have hm:y.1∈frees sc:=aR.mpr ⟨y,bu.mpr ⟨hy,by simp[hf]⟩,rfl⟩;exact C.cells y.1 (fr y.1 hm).2.2
 obtain⟨cl,e,q1,q2,_⟩:=AN sc.names [] qo (λx a h=>by simp at h);have h2:∀y∈sc.names,y.2=.cell->sc.names.lookup y.1=some .cell:=λy hy hl=>by
  have:=h2 y hy;rw[cw] at this;simp only[Bool.not_eq_true',decide_eq_false_iff_not,decide_eq_true_eq] at this;exact this.resolve_left λz=>z hl
 refine⟨cl,⟨h1,h2,λy hy hl=>?_,?_,q1,λx hx=>q2 (x,.free) (aL hx) rfl,h4,λi j iY=>?_,?_⟩,λpins A s H fp=>?_⟩
 ·have:=h3 y hy;rw[cw] at this;simp only[Bool.not_eq_true',decide_eq_false_iff_not,decide_eq_true_eq] at this;exact this.resolve_left λz=>z hl
 ·simp only[closureFor];rw[e]
  rfl
 ·unfold f7.d4 at iY;rw[ao] at iY;cases ex:(frees sc)[i]? with
  |none=>rw[ex] at iY;cases iY
  |some x =>
   rw[ex] at iY;have hx:x∈frees sc:=aM ex;obtain⟨⟨k,hk⟩,hl,hc⟩:=fr x hx;have hj:k=j:=by
    have:=aJ iY;dsimp only at this;rw[hk] at this;exact this
   subst hj;refine⟨x,?_,C.Z5 hk,hl,?_⟩
   ·rw[aF (ak.mp ex).1];exact ex
   ·rcases hc with z|z
    ·exact .inl (C.wQ x z)
    ·exact C.zV x z
 ·unfold f7.d4;rw[ah,aY];omega
 ·refine⟨rfl,h4,λx hx=>lookup_relabel_local hx,λx hx=>?_,λx hx=>C8 hx,λx hx=>O4 hx,λx hx=>?_,λx _=>?_,rfl,C.units,(λ_=>PassesOwn.never),C.mono,C.con,C.blt,C.fns,C.cls,C.oi,C.mV,C.wK,Xi,(λz=>by cases z),(λz=>by cases z),C.exc,C.zZ,C.uB,(λz=>by cases z)⟩
  ·exact L1 hx
  ·rcases hx with hx|hx
   ·exact FN (.inl hx)
   ·exact FN (.inr (q2 (x,.free) (aL hx) rfl))
  ·exact aD ‹_›
theorem C7{x:Str}(h:O1 x=true):(x==("__debug__":Str))=false/\(x==("__classdict__":Str))=false/\x≠"__name__":=by
 unfold O1 at h;simp only[Bool.and_eq_true,decide_eq_true_eq,beq_iff_eq] at h;exact⟨h.1.1,h.1.2,h.2⟩
theorem Wq{x:Str}{t:String}(h:BU.lookup x=some t):bootBuiltins x=some (.type t):=by
 have hm:=aL h;simp only[BU,List.mem_cons,List.mem_nil_iff,or_false] at hm;rcases hm with z|z|z|z|z<;>(cases z;first|exact vL|exact PyProof.Rows.boot_bool|exact PyProof.Rows.boot_str|exact qI|exact eA|decide +kernel|rfl)
theorem Wx{x:Str}{p:Pr}(hc:X.calm=true)(h:Cf.lookup x=some p):∃v,((∃id,v=.builtin id)\/∃T,v=.type T)/\bootBuiltins x=some v/\k9 X v (rN X.K p):=by
 have hm:=aL h;simp only[Cf,List.mem_cons,List.mem_nil_iff,or_false] at hm;rcases hm with z|z|z|z|z|z|z|z|z
 ·cases z;exact⟨.builtin "len",.inl ⟨_,rfl⟩,PySem.boot_len,Oz⟩
 ·cases z;exact⟨.type "list",.inr ⟨_,rfl⟩,by first|exact eA|decide +kernel,Rb hc⟩
 ·cases z;exact⟨.type "tuple",.inr ⟨_,rfl⟩,by first|exact qI|decide +kernel,Wn⟩
 ·cases z;exact⟨.builtin "isinstance",.inl ⟨_,rfl⟩,by first|exact PyProof.Rows.boot_isinstance|decide +kernel,QY⟩
 ·cases z;exact⟨.builtin "all",.inl ⟨_,rfl⟩,by first|exact PyProof.Rows.boot_all|decide +kernel,NV hc⟩
 ·cases z;exact⟨.builtin "max",.inl ⟨_,rfl⟩,by first|exact PyProof.Rows.boot_max|decide +kernel,OE hc⟩
 ·cases z;exact⟨.builtin "min",.inl ⟨_,rfl⟩,by first|exact PyProof.Rows.boot_min|decide +kernel,OF hc⟩
 ·cases z;exact⟨.type "int",.inr ⟨_,rfl⟩,by first|exact vL|decide +kernel,Oj⟩
 ·cases z;exact⟨.builtin "sum",.inl ⟨_,rfl⟩,by first|exact PyProof.Rows.boot_sum|decide +kernel,Ql hc⟩
theorem Ye{x:Str}{p:Pr}(h:xK.lookup x=some p):∃T id,PlainAttrs T/\Slot T x id/\typeOf (.builtin id)=pure (.type "method_descriptor")/\mK X id (rM X.K p) /\
  ∀{d:D} {v:V} {g:G} {ρ:List Addr} {H:Hp},Rl X.K ρ g H->d7 X.K ρ H d v->lx p d g->mO X.K T v H:=by
 cases h
theorem WZ{x:Str}{p:Pr}(hu:X.A.units+100<cLine)(h:Av.lookup x=some p):∃T id,PlainAttrs T/\Slot T x id/\typeOf (.builtin id)=pure (.type "method_descriptor")/\mK X id (rM X.K p) /\
  ∀{d:D} {v:V} {g:G} {ρ:List Addr} {H:Hp},Rl X.K ρ g H->d7 X.K ρ H d v->lx p d g->mO X.K T v H:=by
 have hm:=aL h;simp only[Av,List.mem_cons,List.mem_nil_iff,or_false] at hm;rcases hm with z|z|z|z
 ·cases z;exact⟨_,_,qG,PySem.F.slot_list_append,PySem.F.type_list_append,Wv,λR r h=>ty_list R r h⟩
 ·cases z;exact⟨_,_,qG,PySem.F.slot_list_pop,PySem.F.type_list_pop,ZO,λR r h=>ty_list R r h⟩
 ·cases z;exact⟨_,_,PySem.F.plainAttrs_dict,hZ,PySem.F.type_dict_get,Oe hu,λR r h=>ty_dict R r h⟩
 ·cases z;exact⟨_,_,PySem.F.plainAttrs_set,PySem.F.slot_set_add,PySem.F.type_set_add,RP,λR r h=>ty_set R r h⟩
theorem Fy{pos:Pos}{env:Env}:∀{es:List Expr},(∀e∈es,fo e=true)->(backTo pos (starEach es env)).all (λx=>!x.1)=true
 |[],_=>rfl
 |e::es,h=>by
  rw[j9 (h e (by simp))];have ih:=Fy (pos:=pos) (env:=env) (es:=es) λx hx=>h x (by simp[hx]);unfold backTo at ih ⊢;rw[aW,List.all_cons,ih]
  rfl
theorem Q3{pos:Pos}{env:Env}:∀{es:List Expr},(∀e∈es,fo e=true)->(backTo pos (starEach es env)).any (·.1)=false
 |[],_=>rfl
 |e::es,h=>by
  rw[j9 (h e (by simp))];have ih:=Q3 (pos:=pos) (env:=env) (es:=es) λx hx=>h x (by simp[hx]);unfold backTo at ih ⊢;rw[aW,eX,ih]
  rfl
theorem xP{r:CF}:∀{es:List Expr} {m:ME},E0 r c es=some m->∀e∈es,fo e=true:=by
 intro es
 induction es with
 |nil=>intro m _ e he;exact absurd he (by simp)
 |cons a es ih =>
  intro m h e he;unfold E0 at h;split at h
  ·obtain⟨m1,h1,h⟩:=ag.mp h;obtain⟨m2,h2,_⟩:=aa.mp h;rcases aG.mp he with z|z
   ·rw[z];assumption
   ·exact ih h2 e z
  ·cases h
end
theorem XJ{a:Expr}{x:Str}(h:Hc a=some x):∃j p,a=.Constant (.str x) j p:=by
 cases a with
 |Constant k j p=>cases k with
  |str y=>cases h;exact⟨_,_,rfl⟩
  |_=>cases h
 |_=>cases h
theorem Zd{a e:Expr}(h:ET a=some e):∃p,a=.FormattedValue e (-1) none p:=by
 cases a with
 |FormattedValue v k f p=>cases f with
  |none =>
   have h2:(if k=-1 then some v else none)=some e:=h;split at h2
   ·rename_i hk;cases h2;rw[hk];exact⟨_,rfl⟩
   ·cases h2
  |some _=>cases h
 |_=>cases h
structure oV(P:eO)(r:CF):Prop where
 e:∀X c Ξ,gs X c P Ξ->∀e m,r.e c e=some m->PE X e (LE X.K Ξ (aP P m))
 t:∀X c Ξ,gs X c P Ξ->∀e m,r.t c e=some m->PT X e (LT X.K Ξ (cK P m))
 s:∀X c Ξ,gs X c P Ξ->∀st m,r.s c st=some m->PS X st (LS X.K Ξ (wpS P m))
section
variable{X:Cx}{c:f7}{P:eO}{Ξ:gx}{r:CF}(S:oV P r)(C:gs X c P Ξ){a b d e:Expr}{m:ME}{pos:Pos}
include S C
theorem X5{p:Pr}(h:c1 r c p a=some m):∃ma,PE X a (LE X.K Ξ (aP P ma))/\m=.prim p (.cons ma .nil):=by
 obtain⟨ma,ha,rfl⟩:=aa.mp h;exact⟨ma,S.e X c Ξ C _ _ ha,rfl⟩
theorem X4{p:Pr}(h:c2 r c p a b=some m):∃ma mb,PE X a (LE X.K Ξ (aP P ma))/\PE X b (LE X.K Ξ (aP P mb))/\m=.prim p (.cons ma (.cons mb .nil)):=by
 obtain⟨ma,ha,h⟩:=ag.mp h;obtain⟨mb,hb,rfl⟩:=aa.mp h;exact⟨ma,mb,S.e X c Ξ C _ _ ha,S.e X c Ξ C _ _ hb,rfl⟩
theorem pL:∀{es:List Expr} {m:ME},E0 r c es=some m->PA X es (LA X.K Ξ (eY P m)):=by
 intro es
 induction es with
 |nil=>intro m h;cases h;exact F6 C.mono
 |cons a es ih =>
  intro m h;unfold E0 at h;split at h
  ·rename_i bC;obtain⟨m1,h1,h⟩:=ag.mp h;obtain⟨m2,h2,rfl⟩:=aa.mp h;exact A4 C.mono (S.e X c Ξ C _ _ h1) (ih h2) (j9 bC)
  ·cases h
theorem Kn:∀{es:List Expr} {m:ME},rQ r c es=some m->∃ts,lC X Ξ P es m ts:=by
 intro es
 induction es with
 |nil=>intro m h;cases h;exact⟨_,.nil⟩
 |cons a es ih =>
  intro m h;unfold rQ at h;rcases orElse_some h with h1|h1
  ·obtain⟨x,hx,h2⟩:=ag.mp h1;obtain⟨j,p,rfl⟩:=XJ hx;split at h2
   ·obtain⟨m2,h3,rfl⟩:=aa.mp h2;obtain⟨ts,F⟩:=ih h3;exact⟨_,.lit (by assumption) F⟩
   ·cases h2
  ·obtain⟨x,hx,h2⟩:=ag.mp h1;obtain⟨m1,h3,h4⟩:=ag.mp h2;obtain⟨m2,h5,rfl⟩:=aa.mp h4;obtain⟨p,rfl⟩:=Zd hx;obtain⟨ts,F⟩:=ih h5;exact⟨_,.val (S.e X c Ξ C _ _ h3) F⟩
theorem Kp:∀{ks:List (Option Expr)} {vs:List Expr} {m:ME},vc r c ks vs=some m->∃gM,lD X Ξ P ks vs m gM:=by
 intro ks
 induction ks with
 |nil=>intro vs m h;cases vs<;>first|(cases h;exact⟨_,.nil⟩)|cases h
 |cons k ks ih =>
  intro vs m h;cases k<;>first|(cases h;done)|skip
  cases vs<;>first|(cases h;done)|skip
  unfold vc at h;obtain⟨m1,h1,h⟩:=ag.mp h;obtain⟨m2,h2,h⟩:=ag.mp h;obtain⟨m3,h3,rfl⟩:=aa.mp h;obtain⟨gM,D⟩:=ih h3;exact⟨_,.cons (S.e X c Ξ C _ _ h1) (S.e X c Ξ C _ _ h2) D⟩
theorem Kq{op:BoolOp}:∀{vs:List Expr} {m:ME},wW r c op vs=some m->PE X (.BoolOp op vs pos) (LE X.K Ξ (aP P m)):=by
 intro vs
 induction vs with
 |nil=>intro m h;cases h
 |cons a vs ih =>
  intro m h;cases vs with
  |nil=>exact Pc (S.e X c Ξ C _ _ h)
  |cons b vs =>
   unfold wW at h;obtain⟨m1,h1,h⟩:=ag.mp h;obtain⟨m2,h2,rfl⟩:=aa.mp h;cases op
   ·exact PH C.mono (S.e X c Ξ C _ _ h1) (ih h2)
   ·exact Np C.mono (S.e X c Ξ C _ _ h1) (ih h2)
theorem Kk{op:BoolOp}:∀{vs:List Expr} {m:ME},wX r c op vs=some m->PW X (.BoolOp op vs pos) (LT X.K Ξ (cK P m)):=by
 intro vs
 induction vs with
 |nil=>intro m h;cases h
 |cons a vs ih =>
  intro m h;cases vs with
  |nil =>
   cases op
   ·exact RL (S.t X c Ξ C _ _ h)
   ·exact Pw (S.t X c Ξ C _ _ h)
  |cons b vs =>
   unfold wX at h;obtain⟨m1,h1,h⟩:=ag.mp h;obtain⟨m2,h2,rfl⟩:=aa.mp h;cases op
   ·exact Qm C.mono (S.t X c Ξ C _ _ h1) (ih h2)
   ·exact Nu C.mono (S.t X c Ξ C _ _ h1) (ih h2)
theorem Tq{es:List Expr}(h:He r c es=some m):kB X es (LT X.K Ξ (cK P m)):=by
 rcases es with _|⟨e,_|⟨_,_⟩⟩
 ·cases h;exact Sm C.mono
 ·exact RK (S.t X c Ξ C _ _ h)
 ·cases h
theorem rK:∀{CY:List Stmt} {m:MS},u4 r c CY=some m->iJ X CY (LS X.K Ξ (wpS P m)):=by
 intro es
 induction es with
 |nil=>intro m h;cases h;exact Hv C.mono
 |cons a es ih =>
  intro m h;unfold u4 at h;obtain⟨m1,h1,h⟩:=ag.mp h;obtain⟨m2,h2,rfl⟩:=aa.mp h;exact Ij C.mono (S.s X c Ξ C _ _ h1) (ih h2)
end
theorem GL{e t:Expr}{n:Nat}{env:Env}(h:u9 e=true):swapsWithSole [t] e n env=pure false:=by
 show swapsWith e (some t) n env=pure false;exact T1 h
theorem Yi{x y:Str}{px py pt nZ:Pos}{kt k2:Nat}{a b:Expr}{env:Env}(hk:env.scope.kind=.function)(hx:env.kindOf x=some .local)(hy:env.kindOf y=some .local)(dw:x≠y)(hl:py.line=px.line)(ha:fo a=true)(hb:fo b=true)(h1:[a,b].all (foldedForSure 8)=false)(h2:[a,b].all (constantsAlone 8)=false):swappedStores [.Tuple [.Name x px,.Name y py] kt pt] (.Tuple [a,b] k2 nZ) env=pure (some [x,y]):=by
 have LC:env.blockKind=.function:=by simp[Env.blockKind,hk,ScopeKind.isAnnotationScope]
 have hd:[x,y].eraseDups.length=2:=by
  have:(y==x)=false:=by simpa using bA dw
  simp[List.eraseDups_cons,this]
 have oq:(env.kindOf x==some NameKind.local&&px.line==px.line)=true:=by simp[hx]
 have yQ:(env.kindOf y==some NameKind.local&&py.line==px.line)=true:=by simp[hy,hl]
 have hp:Expr.pos (.Name x px)=px:=rfl;unfold swappedStores;simp only[List.length_cons,List.length_nil,LC,List.head?_cons,Option.map_some,Option.getD_some,hp,List.filterMap_cons,List.filterMap_nil,oq,yQ,if_true,hd,h1,h2];rw[az (by decide),az ?_]
 ·rfl
 ·simp only[List.any_cons,List.any_nil,Bool.or_false,Bool.or_eq_true,not_or];constructor
  ·cases a<;>first|(intro h;cases h;done)|cases ha
  ·cases b<;>first|(intro h;cases h;done)|cases hb
theorem Qo{X:Cx}{Ξ:gx}{P:eO}(hP:i3 P){i j:Nat}{x y:Str}{a b:Expr}{px py pt nZ pos:Pos}{kt k2:Nat}{fQ:ME}(hc:X.calm=true)(hN:X.N.Nodup)(hi:X.N[i]?=some x)(hj:X.N[j]?=some y)(dw:x≠y)(hl:py.line=px.line)(hx:X.env.scope.names.lookup x=some .local)(hy:X.env.scope.names.lookup y=some .local)(oa:fo a=true)(ob:fo b=true)(h1:[a,b].all (foldedForSure 8)=false)(h2:[a,b].all (constantsAlone 8)=false)(ha:PA X [a,b] (LA X.K Ξ (eY P fQ))):PS X (.Assign [.Tuple [.Name x px,.Name y py] kt pt] (.Tuple [a,b] k2 nZ) pos) (LS X.K Ξ (wpS P (.kJ (.many [i,j]) (.prim .tup fQ)))):=by
 intro pins s bH H D I h;have iY:i≠j:=by
  rintro rfl;rw[hi] at hj;cases hj;exact dw rfl
 refine Po hc hN hi hj iY hx hy ha (Yi I.ok.kind hx hy dw hl oa ob h1 h2) rfl pins s bH H D I ?_;obtain⟨Z,g,ρ,sr,R,h⟩:=h;refine jq hP sr R (.refl _ _) (show eY P fQ Z g (λxs g1=>cx .tup xs g1 _) _ from h) λds g1 bJ H1 vs e1 R1 r1 h=>?_;obtain⟨d',g',⟨_,rfl,rfl⟩,l,bI,ex,hs,h⟩:=h;cases ex;have hl:=Y2 hs;have e2:∃d1 d2,ds=[d1,d2]:=by
  rcases ds with _|⟨d1,_|⟨d2,_|⟨d3,r⟩⟩⟩<;>first|exact⟨_,_,rfl⟩|(simp at hl;done)|(simp at hl;omega)
 obtain⟨d1,d2,rfl⟩:=e2;obtain⟨v,w,rfl,q1,q2⟩:=r1.two;cases hs;exact⟨_,_,rfl,h bJ H1 _ e1 R1 (((sr.ext e1).set i q1).set j q2)⟩
theorem gs.X9{X:Cx}{c:f7}{Ξ:gx}{P:eO}(C:gs X c P Ξ)(cV:X.stack=X.env::X.outer)(hf:X.env.frame=some X.env.locals)(pins:List (Addr×Obj))(D:L2.Ends)(hs:List ExceptHandler) :
  gs (S4 X pins (rY X pins D hs)) { c with jf:=false,iP:=false } P (ya X Ξ.1 D hs) :=
 ⟨C.N,C.nd,C.loc,C.wQ,C.zV,C.Eo,C.cells,C.lA,C.calm,C.units,(λ_=>PassesOwn.looking),C.mono,C.con,C.blt,C.fns,C.cls,C.oi,C.mV,C.wK,ZG cV hf λC H' ⟨C',e,z⟩=>(by cases e;exact z),(λz=>by cases z),(λz=>by cases z),C.exc,C.zZ,C.uB,C.code⟩
end M

namespace M
open PySem L2 PySem.Spec PyProof.Rows
section
variable{X:Cx}{c:f7}{P:eO}{Ξ:gx}{r:CF}(S:oV P r)(C:gs X c P Ξ){a b d e:Expr}{m:ME}{pos:Pos}
include C
theorem OI{x:Str}(h:BZ c x=some m):PE X (.Name x pos) (LE X.K Ξ (aP P m)):=by
 unfold BZ at h;split at h
 ·rename_i hU;obtain⟨d1,d2,d3⟩:=C7 hU;split at h
  ·rename_i hv;obtain⟨i,hi,rfl⟩:=aa.mp h;exact PY (C.Z5 hi) (C.BV hv) d1 d2
  ·split at h
   ·rename_i hg;rcases orElse_some h with h|h
    ·obtain⟨d,hd,rfl⟩:=aa.mp h;obtain⟨v,u,hm,r,rr⟩:=C.con x d hd;exact Q5 (V6 (C.v7 hg) hm r d1) rr
    ·split at h
     ·rename_i hb;obtain⟨t,ht,rfl⟩:=aa.mp h;exact Q5 (v:=.ty t) (Rv (C.v7 hg) (C.blt x hb) (Wq ht) rfl d3 d1) λ_ _=>.ty t
     ·cases h
   ·cases h
 ·cases h
omit C in
theorem yG{k:Const}{j:Nat}{d:D}(h:qy k=some d):PE X (.Constant k j pos) (LE X.K Ξ (aP P (.lit d))):=by
 cases k<;>first|(cases h;done)|skip
 ·cases h;exact Q5 Pa λ_ _=>.bx
 ·cases h;exact Q5 Vr λ_ _=>.bl _
 ·cases h;exact Q5 Hl λ_ _=>.int _
 ·cases h;exact Q5 Hn λ_ _=>.str _
include S
theorem Tr{op:UnaryOp}(h:yh r c op a=some m):PE X (.UnaryOp op a pos) (LE X.K Ξ (aP P m)):=by
 unfold yh at h;split at h
 ·rename_i ho;subst ho;obtain⟨ma,ha,rfl⟩:=aa.mp h;exact PU C.mono (S.e X c Ξ C _ _ ha)
 ·obtain⟨ma,ha,rfl⟩:=X5 S C h;exact Nq C.mono ha
theorem IW{ops:List CmpOp}{bs:List Expr}(h:uW r c a ops bs=some m):PE X (.Compare a ops bs pos) (LE X.K Ξ (aP P m))/\PT X (.Compare a ops bs pos) (LT X.K Ξ (cK P (.fk m))):=by
 unfold uW at h;split at h
 ·rename_i op b;split at h
  ·cases h
  ·rename_i hm;have hm:behindInMarks op b=false:=by simpa using hm
   rcases orElse_some h with h|h
   ·obtain⟨neg,hn,h⟩:=ag.mp h;obtain⟨kvs,hk,h⟩:=ag.mp h;obtain⟨ma,ha,rfl⟩:=aa.mp h;obtain⟨x,p,rfl,hg,hd,hk⟩:=Iy hk;have ho:op=if neg then .NotIn else .In:=by cases op<;>cases hn<;>rfl
    subst ho;exact⟨PN C.mono (C.v7 hg) (C7 hd).1 (C.uB x kvs hk) (S.e X c Ξ C _ _ ha) hm,Qh C.mono (C.v7 hg) (C7 hd).1 (C.uB x kvs hk) (S.e X c Ξ C _ _ ha) hm⟩
   ·obtain⟨ma,mb,ha,hb,rfl⟩:=X4 S C h;exact⟨Ax C.mono (HV (V7 C.units op) ha hb hm),Qj C.mono (HZ (V7 C.units op) ha hb hm)⟩
 ·split at h
  ·cases h
  ·rename_i hm;obtain⟨ma,ha,h⟩:=ag.mp h;obtain⟨mb,hb,h⟩:=ag.mp h;obtain⟨md,hd,rfl⟩:=aa.mp h;exact⟨a02 C.mono C.units (S.e X c Ξ C _ _ ha) (S.e X c Ξ C _ _ hb) (S.e X c Ξ C _ _ hd) (by simpa using hm),Wi C.mono C.units (S.e X c Ξ C _ _ ha) (S.e X c Ξ C _ _ hb) (S.e X c Ξ C _ _ hd) (by simpa using hm)⟩
 ·cases h
theorem To{lo hi st:Option Expr}{p2:Pos}(h:CQ r c a lo hi st=some m):PE X (.Subscript a (.Slice lo hi st p2) pos) (LE X.K Ξ (aP P m)):=by
 cases lo<;>cases hi<;>cases st<;>first|(cases h;done)|skip
 ·obtain⟨ma,ha,rfl⟩:=X5 S C h;exact We C.mono ha
 ·obtain⟨ma,mb,ha,hb,rfl⟩:=X4 S C h;exact Wf C.mono ha hb
 ·obtain⟨ma,mb,ha,hb,rfl⟩:=X4 S C h;exact Wg C.mono ha hb
theorem Vh(h:By r c a b=some m):PE X (.Subscript a b pos) (LE X.K Ξ (aP P m)):=by
 unfold By at h;rcases orElse_some h with h|h
 ·obtain⟨q,hq,h⟩:=ag.mp h;have eb:∃p,b=.Slice q.1 q.2.1 q.2.2 p:=by cases b<;>first|(cases hq;exact⟨_,rfl⟩)|cases hq
  obtain⟨p,rfl⟩:=eb;exact To S C h
 ·split at h
  ·rename_i hb;rcases orElse_some h with h|h
   ·obtain⟨kvs,hk,h⟩:=ag.mp h;obtain⟨mb,jS,rfl⟩:=aa.mp h;obtain⟨x,p,rfl,hg,hd,hk⟩:=Iy hk;exact RU C.mono (C.v7 hg) (C7 hd).1 (C.uB x kvs hk) (S.e X c Ξ C _ _ jS) (xq hb)
   ·obtain⟨ma,mb,ha,jS,rfl⟩:=X4 S C h;exact Ax C.mono (BO (UX C.units) ha jS (xq hb))
  ·cases h
theorem Tp{x:Str}{px:Pos}(hg:c.gl x=true)(h:yi r c x e=some m):PE X (.Call (.Name x px) [e] [] pos) (LE X.K Ξ (aP P m)):=by
 unfold yi at h;obtain⟨q,hq,h'⟩:=ag.mp h;clear h;have h:=h';clear h';obtain⟨p,pos',rfl⟩:=V0 hq;obtain⟨y,as⟩:=q;dsimp only at h ⊢;split at h
 ·rename_i hc;simp only[Bool.and_eq_true,decide_eq_true_eq] at hc;obtain⟨⟨⟨⟨rfl,rfl⟩,hl⟩,hr⟩,mS⟩:=hc;rcases as with _|⟨a,_|⟨b,_|⟨_,_⟩⟩⟩
  ·cases h
  ·dsimp only at h;split at h
   ·rename_i ho;obtain⟨ma,ha,rfl⟩:=X5 S C h;exact a01 C.mono C.calm ha (C.v7 hg) (C.blt _ hl) (C.v7 mS) (C.blt _ hr) (j9 ho)
   ·cases h
  ·dsimp only at h;split at h
   ·rename_i ho;rw[aN] at ho;obtain⟨ma,mb,ha,hb,rfl⟩:=X4 S C h;exact a00 C.mono C.calm ha hb (C.v7 hg) (C.blt _ hl) (C.v7 mS) (C.blt _ hr) (by rw[j9 ho.1,j9 ho.2];rfl) (j9 ho.2)
   ·cases h
  ·cases h
 ·split at h
  ·rename_i hc;simp only[Bool.and_eq_true,decide_eq_true_eq] at hc;obtain⟨⟨⟨⟨rfl,rfl⟩,hl⟩,hr⟩,mS⟩:=hc;rcases as with _|⟨a,_|⟨_,_⟩⟩
   ·cases h
   ·dsimp only at h;split at h
    ·rename_i ho;obtain⟨ma,ha,rfl⟩:=X5 S C h;exact Sa C.mono C.calm ha (C.v7 hg) (C.blt _ hl) (C.v7 mS) (C.blt _ hr) (j9 ho)
    ·cases h
   ·cases h
  ·split at h
   ·rename_i hc;simp only[Bool.and_eq_true,decide_eq_true_eq] at hc;obtain⟨⟨⟨⟨rfl,rfl⟩,hl⟩,hr⟩,mS⟩:=hc;rcases as with _|⟨a,_|⟨_,_⟩⟩
    ·cases h
    ·dsimp only at h;split at h
     ·rename_i ho;obtain⟨ma,ha,rfl⟩:=X5 S C h;exact RV C.mono C.calm ha (C.v7 hg) (C.blt _ hl) (C.v7 mS) (C.blt _ hr) (j9 ho)
     ·cases h
    ·cases h
   ·cases h
theorem Rh{x:Str}{px:Pos}{args:List Expr}(h:HE r c x args=some m):PE X (.Call (.Name x px) args [] pos) (LE X.K Ξ (aP P m)):=by
 cases args with
 |nil =>
  have h2:AE c x=some m:=h;unfold AE at h2;split at h2
  ·rename_i hU;rw[aN] at hU;obtain⟨f,hf,rfl⟩:=aa.mp h2;obtain⟨k,C',fa,fd,ps,F,hr,hm,hC,jr,M⟩:=C.cls x f hf;exact Wb C.mono C.pass F M hC jr hr (C.v7 hU.2) hm (C7 hU.1).1
  ·cases h2
 |cons e es =>
  have h0:AF r c x e es=some m:=h;clear h;have h:=h0;clear h0;unfold AF at h;split at h
  ·rename_i hU;rw[aN] at hU;obtain⟨d1,d2,d3⟩:=C7 hU.1;rcases orElse_some h with h|h
   ·cases es with
    |nil=>exact Tp S C hU.2 h
    |cons _ _=>cases h
   ·obtain⟨ms,lY,h⟩:=ag.mp h;have ok:=xP lY;have pa:=pL S C lY;have cV:=j9 (env:=X.env) (es:=es) (ok e (by simp));have fO:=Q3 (pos:=pos) (env:=X.env) (es:=es) λz hz=>ok z (by simp[hz]);rcases orElse_some h with h|h
    ·obtain⟨f,hf,rfl⟩:=aa.mp h;obtain⟨k,fa,fd,ps,F,hr,hm,hk⟩:=C.fns x f hf;exact RQ C.mono C.pass F hr (C.v7 hU.2) hm hk pa d1 cV fO
    ·rcases orElse_some h with h|h
     ·obtain⟨f,hf,rfl⟩:=aa.mp h;obtain⟨k,C',fa,fd,ps,F,hr,hm,hC,jr,M⟩:=C.cls x f hf;exact RX C.mono C.pass F M hC jr hr (C.v7 hU.2) hm pa d1 cV fO
     ·split at h
      ·rename_i hb;obtain⟨p,hp,rfl⟩:=aa.mp h;obtain⟨v,hv,zu,hc⟩:=Wx (X:=X) C.calm hp;exact PJ C.mono hv hc (C.v7 hU.2) (C.blt x hb) zu pa d3 d1 cV fO
      ·cases h
  ·cases h
theorem Rg{o:Expr}{mt:Str}{apos:Pos}{args:List Expr}(h:AG r c o mt apos pos args=some m):PE X (.Call (.Attribute o mt apos) args [] pos) (LE X.K Ξ (aP P m)):=by
 unfold AG at h;split at h
 ·rename_i hc;simp only[Bool.and_eq_true,decide_eq_true_eq] at hc;obtain⟨⟨hb,hl⟩,hn⟩:=hc;obtain⟨mo,ho,h⟩:=ag.mp h;obtain⟨ms,lY,h⟩:=ag.mp h;have ok:=xP lY;have pa:=pL S C lY;have po:=S.e X c Ξ C _ _ ho;have hf:methodCallForm args.length (backTo pos (starEach args X.env)) (backToKw pos (keywordEach [] X.env))=true:=by
   unfold methodCallForm;rw[Fy ok];have:args.length+0<30:=by omega
   show(true&&true&&decide (args.length+0<30))=true;rw[aD this]
   rfl
  by_cases ua:mt="index"
  ·subst ua;rw[aH rfl] at h;cases h
  rw[az ua] at h;cases args with
  |nil =>
   cases lY;by_cases h0:(xK.lookup mt).isSome=true
   ·rw[aH (by rw[h0];rfl)] at h;obtain⟨p,hp,rfl⟩:=aa.mp h;obtain⟨T,id,yC,sl,ty,yH,hk⟩:=Ye (X:=X) hp;exact Wc C.mono yC sl ty yH hk po (P8 hb) hl
   rw[az (by rw[aN];exact λz=>h0 z.2)] at h;split at h
   ·cases h
   ·cases h
  |cons e es =>
   have cV:=j9 (env:=X.env) (es:=es) (ok e (by simp));have fO:=Q3 (pos:=pos) (env:=X.env) (es:=es) λz hz=>ok z (by simp[hz]);rw[az (by simp)] at h;split at h
   ·rename_i p hp;cases h;obtain⟨T,id,yC,sl,ty,yH,hk⟩:=WZ (X:=X) C.units hp;exact RY C.mono yC sl ty yH hk po pa (P8 hb) hf hl cV fO
   ·cases h
 ·cases h
theorem HJ:∀{ns:List Expr} {fs:List Nat},c.fnOf ns=some fs->∃jk,L0 X P Ξ.1 ns fs jk/\fs.length=ns.length
 |[],fs,h=>by cases h;exact⟨[],.nil,rfl⟩
 |e::es,fs,h=>by
  obtain⟨x,hx,h⟩:=ag.mp (show((asName e).bind λx=>if c.gl x&&O1 x then(c.fns.lookup x).bind λf=>(c.fnOf es).map λfs=>f::fs else none)=some fs from h);split at h
  ·rename_i hg;rw[aN] at hg;obtain⟨f,hf,h⟩:=ag.mp h;obtain⟨oJ,h1,rfl⟩:=aa.mp h;obtain⟨jk,h2,h3⟩:=HJ h1;obtain⟨k,fa,fd,ps,F,hr,hm,hk⟩:=C.fns x f hf;cases e<;>first|(cases hx;done)|skip
   cases hx;exact⟨fa::jk,.cons (C.v7 hg.1) hm hk F hr (C7 hg.2).1 h2,by simp[h3]⟩
  ·cases h
theorem Vg{ns:List Expr}{lp sp:Pos}{args:List Expr}(h:Bw r c ns b args=some m):PE X (.Call (.Subscript (.List ns lp) b sp) args [] pos) (LE X.K Ξ (aP P m)):=by
 unfold Bw at h;split at h
 ·rename_i hc;rw[aN] at hc;obtain⟨fs,Lm,h⟩:=ag.mp h;obtain⟨q,hq,h⟩:=ag.mp h;split at h
  ·rename_i hv;rw[aN] at hv;obtain⟨i,hi,h⟩:=ag.mp h;obtain⟨ms,lY,rfl⟩:=aa.mp h;obtain⟨jk,Sl,hl⟩:=HJ S C Lm;obtain⟨d1,d2,d3⟩:=C7 hv.1;have ok:=xP lY;have pa:=pL S C lY;have hz:fs.length<=1000:=by rw[hl];exact aC (ba hc.2) (by decide)
   cases args with
   |nil=>cases hc.1
   |cons e es =>
    have cV:=j9 (env:=X.env) (es:=es) (ok e (by simp));have fO:=Q3 (pos:=pos) (env:=X.env) (es:=es) λz hz=>ok z (by simp[hz]);unfold Hd at hq;split at hq
    ·cases hq;refine Ig C.mono C.pass Sl hz (Aw (C.Z5 hi) (C.BV hv.2) d1 d2) (λZ H Q n h1 h2=>⟨_,h1,?_⟩) (xq rfl) pa cV fO;rw[Int.sub_zero] at h2;exact h2
    ·cases hq;exact Ig C.mono C.pass Sl hz (Pd (Aw (C.Z5 hi) (C.BV hv.2) d1 d2) Hl) (λZ H Q n h1 h2=>⟨_,h1,_,_,rfl,rfl,h2⟩) (xq rfl) pa cV fO
    ·cases hq
  ·cases h
 ·cases h
theorem Du{tg:Expr}(h:ve r c tg e=some m):PI X tg e (LI X.K Ξ (gb P m)):=by
 unfold ve at h;rcases orElse_some h with h|h
 ·obtain⟨q,hq,h'⟩:=ag.mp h;rename_i h0;clear h h0;have h:=h';clear h';obtain⟨p,pos',rfl⟩:=V0 hq;obtain⟨y,as⟩:=q;dsimp only at h ⊢;split at h
  ·rename_i hy;subst hy;rcases as with _|⟨a,_|⟨_,_⟩⟩
   ·cases h
   ·dsimp only at h;split at h
    ·rename_i hc;simp only[Bool.and_eq_true] at hc;obtain⟨⟨⟨hg,hb⟩,ho⟩,ht⟩:=hc;obtain⟨ma,ha,rfl⟩:=aa.mp h;obtain⟨es,k,tp,rfl⟩:=Ww ht;exact Se C.mono (S.e X c Ξ C _ _ ha) (C.v7 hg) (C.blt _ hb) (j9 ho)
    ·cases h
   ·cases h
  ·split at h
   ·rename_i hy;subst hy;rcases as with _|⟨a,_|⟨_,_⟩⟩
    ·cases h
    ·dsimp only at h;split at h
     ·rename_i hc;simp only[Bool.and_eq_true] at hc;obtain⟨⟨hg,hb⟩,ho⟩:=hc;obtain⟨ma,ha,rfl⟩:=aa.mp h;exact Qb C.mono (S.e X c Ξ C _ _ ha) (C.v7 hg) (C.blt _ hb) (j9 ho)
     ·cases h
    ·cases h
   split at h
   ·rename_i hy;subst hy;rcases as with _|⟨a,_|⟨b,_|⟨_,_⟩⟩⟩
    ·cases h
    ·dsimp only at h;split at h
     ·rename_i hc;simp only[Bool.and_eq_true] at hc;obtain⟨⟨hg,hb⟩,ho⟩:=hc;obtain⟨ma,ha,rfl⟩:=aa.mp h;exact Sf C.mono (S.e X c Ξ C _ _ ha) (C.v7 hg) (C.blt _ hb) (j9 ho)
     ·cases h
    ·dsimp only at h;split at h
     ·rename_i hc;simp only[Bool.and_eq_true] at hc;obtain⟨⟨⟨hg,hb⟩,ho⟩,iB⟩:=hc;obtain⟨ma,ha,h⟩:=ag.mp h;obtain⟨mb,jS,rfl⟩:=aa.mp h;exact Sg C.mono (S.e X c Ξ C _ _ ha) (S.e X c Ξ C _ _ jS) (C.v7 hg) (C.blt _ hb) (by rw[j9 ho,j9 iB];rfl) (j9 iB)
     ·cases h
    ·cases h
   ·cases h
 ·split at h
  ·obtain⟨ma,ha,rfl⟩:=aa.mp h;exact Qc C.mono (S.e X c Ξ C _ _ ha)
  ·cases h
theorem AZ{elt:Expr}{gens:List Comprehension}{sc:Scope}(h:X6 r c elt gens sc=some m):∃tg it ifs t mi mc me cl,gens=[⟨tg,it,ifs,0⟩]/\m=.comp (c.d4 sc) (frees sc++locals sc).length t mi mc me/\fo it=true /\
  cT X sc (frees sc++locals sc) (c.d4 sc) cl/\PI X tg it (LI X.K Ξ (gb P mi))/\(∀pins A s H fp,PG (d6 X pins sc (frees sc++locals sc) cl A s H fp) tg (LG X.K t)) /\
   (∀pins A s H fp,kB (d6 X pins sc (frees sc++locals sc) cl A s H fp) ifs (LT X.K (mX Ξ.1) (cK P mc)))/\(∀pins A s H fp,PE (d6 X pins sc (frees sc++locals sc) cl A s H fp) elt (LE X.K (mX Ξ.1) (aP P me))):=by
 unfold X6 at h;rcases gens with _|⟨⟨tg,it,ifs,DD⟩,_|⟨_,_⟩⟩
 ·cases h
 ·dsimp only at h;split at h
  ·rename_i hs;simp only[Bool.and_eq_true,decide_eq_true_eq] at hs;obtain⟨⟨hs,rfl⟩,hit⟩:=hs;obtain⟨t,h1,h⟩:=ag.mp h;obtain⟨mi,h2,h⟩:=ag.mp h;obtain⟨mc,h3,h⟩:=ag.mp h;obtain⟨me,h4,rfl⟩:=aa.mp h;obtain⟨cl,Sc,I⟩:=C.comp hs;exact⟨tg,it,ifs,t,mi,mc,me,cl,rfl,rfl,hit,Sc,Du S C h2,λpins A s H fp=>(I pins A s H fp).Fm h1,λpins A s H fp=>Tq S (I pins A s H fp) h3,λpins A s H fp=>S.e _ _ _ (I pins A s H fp) elt me h4⟩
  ·cases h
 ·cases h
omit S in
theorem Tn{f:Expr}{args:List Expr}{iQ:List Keyword}(h:vO c f args iQ=some m):PE X (.Call f args iQ pos) (LE X.K Ξ (aP P m)):=by
 unfold vO at h;cases h
theorem Ko:∀e m,Jc r c e=some m->PE X e (LE X.K Ξ (aP P m)):=by
 intro e m h;cases e with
 |Name x p=>exact OI C h
 |Constant k j p =>
  obtain⟨d,hd,rfl⟩:=aa.mp (show(qy k).map ME.lit=some m from h);exact yG hd
 |BinOp a op b p =>
  obtain⟨ma,mb,ha,hb,rfl⟩:=X4 S C h;exact Ax C.mono (Vu (OM op) ha hb)
 |UnaryOp op a p=>exact Tr S C h
 |Compare a ops bs p=>exact(IW S C h).1
 |BoolOp op vs p=>exact Kq S C h
 |IfExp t a b p =>
  obtain⟨mt,ht,h⟩:=ag.mp h;obtain⟨ma,ha,h⟩:=ag.mp h;obtain⟨mb,hb,rfl⟩:=aa.mp h;exact PQ C.mono (S.t X c Ξ C _ _ ht) (S.e X c Ξ C _ _ ha) (S.e X c Ξ C _ _ hb)
 |Tuple es k p =>
  obtain⟨ma,ha,rfl⟩:=aa.mp h;exact PV C.mono (pL S C ha)
 |List es p =>
  obtain⟨ma,ha,rfl⟩:=aa.mp h;exact Ht C.mono (pL S C ha)
 |Subscript a b p=>exact Vh S C h
 |Dict ks vs p =>
  have h2:(if ks.isEmpty&&vs.isEmpty then some (ME.prim .Z9 .nil) else if decide (ks.length<=15) then(vc r c ks vs).map .oP else none)=some m:=h;split at h2
  ·rename_i hc;cases ks<;>cases vs<;>first|(cases hc;done)|skip
   cases h2;exact RS
  ·rename_i hc;split at h2
   ·rename_i hl;obtain⟨ms,hm,rfl⟩:=aa.mp h2;obtain⟨gM,D⟩:=Kp S C hm;refine PK C.mono D (λz=>hc ?_) (ba hl);have:=D.len.2;subst z;cases vs<;>first|rfl|cases this
   ·cases h2
 |JoinedStr vs p =>
  have h2:(if decide (2<=vs.length)&&decide (vs.length<=40) then(rQ r c vs).map (ME.prim .kR) else none)=some m:=h;split at h2
  ·rename_i hc;simp only[Bool.and_eq_true,decide_eq_true_eq] at hc;obtain⟨ms,hm,rfl⟩:=aa.mp h2;obtain⟨ts,F⟩:=Kn S C hm;rcases vs with _|⟨v1,_|⟨v2,vs⟩⟩
   ·simp at hc
   ·simp at hc
   ·exact RT C.mono F hc.2
  ·cases h2
 |Attribute o f p =>
  have h2:(if xp o then c1 r c (.fld f) o else none)=some m:=h;split at h2
  ·rename_i hb;obtain⟨ma,ha,rfl⟩:=X5 S C h2;exact PL C.mono ha (P8 hb)
  ·cases h2
 |Call f args iQ pos =>
  have h1:((yj r c f args iQ).orElse λ_=>(vO c f args iQ).orElse λ_=>BY r c f args iQ pos)=some m:=h;rcases orElse_some h1 with h2|h2
  ·unfold yj at h2;rcases args with _|⟨a,_|⟨_,_⟩⟩
   ·cases h2
   ·dsimp only at h2;split at h2
    ·rename_i hk;simp only[Bool.and_eq_true,decide_eq_true_eq] at hk;obtain⟨⟨⟨hk,hf⟩,ml⟩,hb⟩:=hk;cases iQ<;>first|(cases hk;done)|skip
     obtain⟨q,hq,h3⟩:=ag.mp h2;obtain⟨m1,h4,h5⟩:=ag.mp h3;cases f<;>first|(cases hf;done)|skip
     cases a<;>first|(cases hq;done)|skip
     cases hf;cases hq;obtain⟨tg,it,ifs,t,mi,mc,me,cl,eg,rfl,hit,Sc,q1,q2,q3,q4⟩:=AZ S C h4;dsimp only at eg;subst eg;cases h5;exact Wd C.mono Sc C.calm q1 q2 q3 q4 (Y4 hit) (C.v7 ml) (C.blt _ hb)
    ·cases h2
   ·cases h2
  clear h h1;rcases orElse_some h2 with h3|h3
  ·exact Tn C h3
  clear h2;unfold BY at h3;split at h3
  ·rename_i hk;cases iQ<;>first|(cases hk;done)|skip
   cases f with
   |Name x p=>exact Rh S C h3
   |Attribute o a p=>exact Rg S C h3
   |Subscript a b sp =>
    cases a<;>first|(cases h3;done)|skip
    exact Vg S C h3
   |_=>cases h3
  ·cases h3
 |Set es k p =>
  have h2:Bx c es k=some m:=h;unfold Bx at h2;split at h2
  ·rename_i hc;rw[aN] at hc;obtain rfl:=ba hc.2;split at h2
   ·cases h2;exact RZ C.mono (C.code hc.1)
   ·cases h2
  ·cases h2
 |ListComp elt gens sc p =>
  obtain⟨tg,it,ifs,t,mi,mc,me,cl,rfl,rfl,hit,Sc,q1,q2,q3,q4⟩:=AZ S C h;exact(HW Sc C.calm q1 q2 q3 q4 (Y4 hit)).imp λZ H Q h=>Iv C.mono Z H Q h
 |_=>cases h
theorem Kl:∀e m,stepT r c e=some m->PT X e (LT X.K Ξ (cK P m)):=by
 intro e m h;have plain:∀{e:Expr} {m:ME},(if Bs e then(r.e c e).map ME.fk else none)=some m->PT X e (LT X.K Ξ (cK P m)):=λ{e m} h=>by
  split at h
  ·rename_i hp;obtain⟨ma,ha,rfl⟩:=aa.mp h;exact Qk C.mono (S.e X c Ξ C _ _ ha) (Xq hp)
  ·cases h
 cases e with
 |UnaryOp op a p =>
  have h2:(if op=.Not then(r.t c a).map ME.dY else none)=some m:=h;split at h2
  ·rename_i ho;subst ho;obtain⟨ma,ha,rfl⟩:=aa.mp h2;exact Qi C.mono (S.t X c Ξ C _ _ ha)
  ·cases h2
 |BoolOp op vs p=>exact(Kk S C h).pt
 |Compare a ops bs p =>
  obtain⟨ma,ha,rfl⟩:=aa.mp (show(uW r c a ops bs).map ME.fk=some m from h);exact(IW S C ha).2
 |_=>exact plain h
end
end M

namespace M
open PySem L2 PySem.Spec PyProof.Rows
section
variable{X:Cx}{c:f7}{P:eO}{Ξ:gx}
theorem Ir{e:Expr}{m:ME}(h:IJ e=some m):PE X e (LE X.K Ξ (aP P m))/\fo e=true:=by
 cases e<;>first|(cases h;done)|skip
 obtain⟨d,hd,rfl⟩:=aa.mp (show(qy _).map ME.lit=some m from h);exact⟨yG hd,rfl⟩
theorem WI(hP:i3 P):∀{es:List Expr} {m:ME},xj es=some m->PA X es (LA X.K Ξ (eY P m)):=by
 intro es
 induction es with
 |nil=>intro m h;cases h;exact F6 hP
 |cons e es ih =>
  intro m h;unfold xj at h;obtain⟨m1,h1,h⟩:=ag.mp h;obtain⟨m2,h2,rfl⟩:=aa.mp h;exact A4 hP (Ir h1).1 (ih h2) (j9 (Ir (X:=X) (Ξ:=Ξ) (P:=P) h1).2)
theorem Zk(hP:i3 P){e:Expr}{m:ME}(h:II e=some m):PE X e (LE X.K Ξ (aP P m)):=by
 cases e<;>first|(cases h;done)|skip
 ·obtain⟨d,hd,rfl⟩:=aa.mp (show(qy _).map ME.lit=some m from h);exact yG hd
 ·obtain⟨ms,hm,rfl⟩:=aa.mp h;exact Ht hP (WI hP hm)
theorem XI{h:ExceptHandler}{q:Str×Expr}(hq:Cd h=some q):∃p p1 p2,h=.ExceptHandler (some (.Name q.1 p)) none [.Return (some q.2) p1] p2:=by
 obtain⟨t,n,b,p0⟩:=h;unfold Cd at hq;cases n with
 |some _=>cases hq
 |none =>
  obtain⟨t,rfl,hq⟩:=ag.mp (show t.bind _=some q from hq);obtain⟨y,hy,hq⟩:=ag.mp hq;obtain⟨e,he,rfl⟩:=aa.mp hq;obtain⟨p,rfl⟩:=Bu hy;rcases b with _|⟨s,_|⟨_,_⟩⟩
  ·cases he
  ·cases s<;>first|(cases he;done)|(cases he;exact⟨_,_,_,rfl⟩)
  ·cases he
theorem Zj(C:gs X c P Ξ)(zk:vn X Ξ.2):∀{hs:List ExceptHandler} {ms:List (Str×ME)},vd c hs=some ms->kT X Ξ P hs ms:=by
 intro hs
 induction hs with
 |nil=>intro ms h;cases h;exact .nil zk
 |cons hd hs ih =>
  intro ms h;unfold vd at h;obtain⟨q,hq,h'⟩:=ag.mp h;clear h;have h:=h';clear h';obtain⟨p,p1,p2,rfl⟩:=XI hq;obtain⟨y,e⟩:=q;dsimp only at h ⊢;split at h
  ·rename_i hc;simp only[Bool.and_eq_true] at hc;obtain⟨m,h1,h⟩:=ag.mp h;obtain⟨Dw,h2,rfl⟩:=aa.mp h;obtain⟨C',hm,hi,_⟩:=C.exc y hc.1.1;refine .cons (C.v7 hc.1.2) (C7 hc.2).1 hm (λx C1 hx h1=>C.zZ x y C1 C' ?_ hc.1.1 h1 hi) (λea=>Zk (X:=C5 X ea) C.mono h1) (ih h2);rw[C.wK] at hx;simpa using hx
  ·cases h
theorem YA{e f:Option Expr}{q:Str×Expr×List Expr}(h:AJ e f=some q):f=none/\∃p p',e=some (.Call (.Name q.1 p) (q.2.1::q.2.2) [] p'):=by
 unfold AJ at h;cases f with
 |some _=>cases h
 |none =>
  obtain⟨t,rfl,h⟩:=ag.mp (show e.bind _=some q from h);obtain⟨z,hz,h⟩:=ag.mp h;obtain⟨p,p',rfl⟩:=V0 hz;obtain⟨x,as⟩:=z;cases as with
  |nil=>cases h
  |cons a as=>cases h;exact⟨rfl,_,_,rfl⟩
theorem Xh{es:List Expr}{e:Expr}(h:c.xf es e=true):∃x px y py a b k p,es=[.Name x px,.Name y py]/\e=.Tuple [a,b] k p/\c.Cv x px y py a b=true:=by
 rcases es with _|⟨s,_|⟨t,_|⟨_,_⟩⟩⟩
 ·cases h
 ·cases h
 ·cases s<;>first|(cases h;done)|skip
  cases t<;>first|(cases h;done)|skip
  cases e<;>first|(cases h;done)|skip
  rename_i l _ _;rcases l with _|⟨a,_|⟨b,_|⟨_,_⟩⟩⟩
  ·cases h
  ·cases h
  ·exact⟨_,_,_,_,_,_,_,_,rfl,rfl,h⟩
  ·cases h
 ·cases h
theorem QR(C:gs X c P Ξ){f:Str}:Ca X.K f (c.xU f):=λy C' h hC=>by
 unfold f7.xU at h;obtain⟨⟨f',y'⟩,h1,h2⟩:=aR.mp h;obtain⟨h3,h4⟩:=bu.mp h1;cases h2;have:f'=f:=by simpa using h4
 subst this;exact C.mV f' y' C' h3 hC
variable{r:CF}(S:oV P r)(C:gs X c P Ξ){pos:Pos}
include S C
theorem Vf{tg e:Expr}{m:MS}(hS:∀e m,r.e c e=some m->u9 e=false->∃elt gens sc p,e=.ListComp elt gens sc p/\∃r',oV P r'/\X6 r' c elt gens sc=some m)(hT:∀a b k p m,r.e c (.Tuple [a,b] k p)=some m->∃r' ms,oV P r'/\E0 r' c [a,b]=some ms/\m=.prim .tup ms)(h:Ff r c tg e=some m):PS X (.Assign [tg] e pos) (LS X.K Ξ (wpS P m)):=by
 cases tg with
 |Name x px =>
  have h2:(if c.w6 x then(c.idx x).bind λi=>(r.e c e).map λm=>MS.set i m else none)=some m:=h;split at h2
  ·rename_i hl;obtain⟨i,hi,h2⟩:=ag.mp h2;obtain⟨me,he,rfl⟩:=aa.mp h2;cases hn:u9 e with
   |true=>exact Hy C.mono (Hq C.pK (C.Z5 hi) (C.w6 hl).1 (S.e X c Ξ C _ _ he) (T1 hn) (C.w6 hl).2)
   |false =>
    obtain⟨elt,gens,sc,p,rfl,r',S',hx⟩:=hS e me he hn;obtain⟨tg,it,ifs,t,mi,mc,me,cl,rfl,rfl,hit,Sc,q1,q2,q3,q4⟩:=AZ S' C hx;refine Hy C.mono ?_;exact(YO Sc C.calm q1 q2 q3 q4 (Y4 hit) C.pK (C.Z5 hi) (C.w6 hl).1 (C.w6 hl).2).imp λN Z H h=>Iv C.mono Z H _ h
  ·cases h2
 |Tuple es k pt =>
  have h0:((Ce es).elim (if(rX e&&u9 e)||c.xf es e then(c.slots es).bind λis=>(r.e c e).map λm=>MS.kJ (.many is) m else none) λq=>if u9 e&&fo q.2.1&&fo q.2.2.2 then(r.e c q.1).bind λm1=>(r.e c q.2.1).bind λn1=>(r.e c q.2.2.1).bind λm2=>(r.e c q.2.2.2).bind λn2=>(r.e c e).map λm=>MS.vT m1 n1 m2 n2 m else none)=some m:=h;cases hq:Ce es with
  |some q =>
   rw[hq] at h0;dsimp only[Option.elim] at h0;split at h0
   ·cases hq
   ·cases h0
  |none =>
  rw[hq] at h0;have h2:(if(rX e&&u9 e)||c.xf es e then(c.slots es).bind λis=>(r.e c e).map λm=>MS.kJ (.many is) m else none)=some m:=h0;split at h2
  ·rename_i hn;rw[cw,aN] at hn;obtain⟨is,hs,h2⟩:=ag.mp h2;obtain⟨me,he,rfl⟩:=aa.mp h2;rcases hn with hn|hn
   ·exact Qq C.mono (Ho (S.e X c Ξ C _ _ he) (Ii C.calm C.pK (C.slots hs)) (GL hn.2) (ZC hn.1))
   ·obtain⟨x,px,y,py,a,b,k2,nZ,rfl,rfl,hk⟩:=Xh hn
    ·unfold f7.Cv at hk;simp only[Bool.and_eq_true,decide_eq_true_eq,Bool.not_eq_true'] at hk;obtain⟨⟨⟨⟨⟨⟨⟨l1,l2⟩,dw⟩,hl⟩,oa⟩,ob⟩,f1⟩,f2⟩:=hk;obtain⟨r',ms,S',lY,rfl⟩:=hT _ _ _ _ _ he;have so:=C.slots hs;cases so with
     |cons hi _ _ so =>
     cases so with
     |cons hj _ _ so =>
     cases so;exact Qo C.mono C.calm C.pK hi hj dw hl (C.loc x l1) (C.loc y l2) oa ob f1 f2 (pL S' C lY)
  ·cases h2
 |Subscript o i pt =>
  have h2:(if fo i&&u9 e then(r.e c o).bind λmo=>(r.e c i).bind λmi=>(r.e c e).map λm=>MS.dF mo mi m else none)=some m:=h;split at h2
  ·rename_i hn;rw[aN] at hn;obtain⟨mo,ho,h2⟩:=ag.mp h2;obtain⟨mi,hi,h2⟩:=ag.mp h2;obtain⟨me,he,rfl⟩:=aa.mp h2;exact Wk C.mono C.units (S.e X c Ξ C _ _ he) (S.e X c Ξ C _ _ ho) (S.e X c Ξ C _ _ hi) (GL hn.2) (Rk hn.1)
  ·cases h2
 |Attribute o f pt =>
  have h2:(if u9 e then(r.e c o).bind λmo=>(r.e c e).map λm=>MS.gE f (c.xU f) mo m else none)=some m:=h;split at h2
  ·rename_i hn;obtain⟨mo,ho,h2⟩:=ag.mp h2;obtain⟨me,he,rfl⟩:=aa.mp h2;exact Sq C.mono (QR C) (S.e X c Ξ C _ _ ho) (S.e X c Ξ C _ _ he) (T1 hn)
  ·cases h2
 |_=>cases h
theorem Km(hS:∀e m,r.e c e=some m->u9 e=false->∃elt gens sc p,e=.ListComp elt gens sc p/\∃r',oV P r'/\X6 r' c elt gens sc=some m)(hT:∀a b k p m,r.e c (.Tuple [a,b] k p)=some m->∃r' ms,oV P r'/\E0 r' c [a,b]=some ms/\m=.prim .tup ms) :
  ∀st m,Jd r c st=some m->PS X st (LS X.K Ξ (wpS P m)):=by
 intro st m h;have hP:=C.mono;cases st with
 |AugAssign tg op e p =>
  cases tg with
  |Name x tp =>
   have h2:(if c.w6 x then(IG op).bind λp=>(c.idx x).bind λi=>(r.e c e).map λm=>MS.jP i p m else none)=some m:=h;split at h2
   ·rename_i hl;obtain⟨p,hp,h2⟩:=ag.mp h2;obtain⟨i,hi,h2⟩:=ag.mp h2;obtain⟨me,he,rfl⟩:=aa.mp h2;refine Sn C.mono ?_ C.pK (C.Z5 hi) (C.w6 hl).1 (C.w6 hl).2 (S.e X c Ξ C _ _ he);cases op<;>first|(cases hp;done)|skip
    ·cases hp;exact .inl ⟨rfl,rfl⟩
    ·cases hp;exact .inr ⟨rfl,rfl⟩
   ·cases h2
  |_=>cases h
 |Expr e p =>
  have h2:(if u9 e then(r.e c e).map MS.expr else none)=some m:=h;split at h2
  ·rename_i hn;obtain⟨me,he,rfl⟩:=aa.mp h2;exact So hP (S.e X c Ξ C _ _ he) (T1 hn)
  ·cases h2
 |Assign yu e p =>
  rcases yu with _|⟨tg,_|⟨_,_⟩⟩
  ·cases h
  ·exact Vf S C hS hT h
  ·cases h
 |If t a b p =>
  obtain⟨mt,ht,h⟩:=ag.mp h;obtain⟨ma,ha,h⟩:=ag.mp h;obtain⟨mb,hb,rfl⟩:=aa.mp h;exact Nv hP (S.t X c Ξ C _ _ ht) (rK S C ha) (rK S C hb)
 |For tg it body nK p =>
  have h2:(if c.lA&&(nK.isEmpty&&fo it) then(c.tg tg).bind λt=>(ve r c tg it).bind λmi=>(u4 r c body).map λmb=>MS.cS t mi mb else none)=some m:=h;split at h2
  ·rename_i hc;rw[aN,aN] at hc;cases nK<;>first|(cases hc.2.1;done)|skip
   obtain⟨t,h1,h2⟩:=ag.mp h2;obtain⟨mi,h3,h2⟩:=ag.mp h2;obtain⟨mb,h4,rfl⟩:=aa.mp h2;exact Qn hP (C.own hc.1) C.calm (Du S C h3) (C.Fm h1) (rK S C h4) (Y4 hc.2.2)
  ·cases h2
 |While t body nK p =>
  have h2:(if c.lA&&nK.isEmpty then(r.t c t).bind λmt=>(u4 r c body).map λmb=>MS.jA mt mb else none)=some m:=h;split at h2
  ·rename_i hc;rw[aN] at hc;cases nK<;>first|(cases hc.2;done)|skip
   obtain⟨mt,h1,h2⟩:=ag.mp h2;obtain⟨mb,h4,rfl⟩:=aa.mp h2;exact Wl hP (C.own hc.1) (S.t X c Ξ C _ _ h1) (rK S C h4)
  ·cases h2
 |Return e p =>
  cases e with
  |none=>cases h;exact(RH (X:=X)).imp λN bH H ⟨Z,g,ρ,s,R,h⟩=>LQ.now h R .bx
  |some e =>
   obtain⟨me,he,rfl⟩:=aa.mp (show(r.e c e).map (λm=>MS.ret (toR c e m))=some m from h);refine Hx hP ?_;exact S.e X c Ξ C _ _ he
 |Raise e f p =>
  obtain⟨q,hq,h2⟩:=ag.mp h;clear h;obtain⟨rfl,px,p2,rfl⟩:=YA hq;obtain⟨x,e,es⟩:=q;dsimp only at h2 ⊢;split at h2
  ·rename_i hc;simp only[Bool.and_eq_true] at hc;obtain⟨ma,ha,rfl⟩:=aa.mp h2;have ok:=xP ha;obtain⟨C',hm,hi,B,nI,iI,bm,O,FB⟩:=C.exc x hc.1.1.2;exact Wj hP C.calm O FB (C.v7 hc.1.2) (pL S C ha) (C.jf hc.1.1.1) (by rw[C.wK];simpa using hc.1.1.2) hi (j9 (ok e (by simp))) (Q3 λz hz=>ok z (by simp[hz])) (C7 hc.2).1
  ·cases h2
 |Try body hs el fi p =>
  have h2:(if c.iP&&!hs.isEmpty&&el.isEmpty&&fi.isEmpty then(u4 r { c with jf:=false,iP:=false } body).bind λmb=>(vd c hs).map λms=>MS.X9 mb ms else none)=some m:=h;split at h2
  ·rename_i hc;simp only[Bool.and_eq_true] at hc;obtain⟨⟨⟨ht,hh⟩,he⟩,hf⟩:=hc;cases el<;>first|(cases he;done)|skip
   cases fi<;>first|(cases hf;done)|skip
   cases hs<;>first|(cases hh;done)|skip
   obtain⟨mb,h1,h2⟩:=ag.mp h2;obtain⟨ms,h3,rfl⟩:=aa.mp h2;obtain⟨cV,hf,zk⟩:=C.iP ht;exact Qp hP cV hf (λpins D=>rK S (C.X9 cV hf pins D _) h1) (Zj C zk h3)
  ·cases h2
 |Pass p=>cases h;exact(RG (X:=X)).imp λN bH H ⟨Z,g,ρ,s,R,h⟩=>h ρ H bH (.refl _ _) R s
 |_=>cases h
end
theorem YD{n:Nat}{c:f7}{e:Expr}{m:ME}(h:(comp (n+1)).e c e=some m)(hn:u9 e=false):∃elt gens sc p,e=.ListComp elt gens sc p/\X6 (comp n) c elt gens sc=some m:=by
 cases e<;>first|(cases hn;done)|(cases h;done)|exact⟨_,_,_,_,rfl,h⟩
theorem snd{P:eO}:∀n,(∀k,k<=n->oV P (comp k)):=by
 intro n
 induction n with
 |zero =>
  intro k hk;obtain rfl:=Nat.le_zero.mp hk;exact⟨λ_ _ _ _ _ _ h=>(by cases h),λ_ _ _ _ _ _ h=>(by cases h),λ_ _ _ _ _ _ h=>(by cases h)⟩
 |succ n ih =>
  intro k hk;rcases eE k (n+1) with dW|hge
  ·exact ih k (by omega)
  obtain rfl:k=n+1:=by omega
  have I:=ih n (av n);refine⟨λX c Ξ C e m h=>Ko I C e m h,λX c Ξ C e m h=>Kl I C e m h,λX c Ξ C st m h=>?_⟩;rcases orElse_some h with h|h
  rotate_left
  ·cases h;exact λpins s Z H D I q=>by obtain⟨_,_,_,_,_,z⟩:=q;exact(show False from z).elim
  refine Km I C (λe m he hn=>?_) (λa b k p m he=>?_) st m h
  ·cases n with
   |zero=>cases he
   |succ n =>
    obtain⟨elt,gens,sc,p,rfl,hx⟩:=YD he hn;exact⟨_,_,_,_,rfl,comp n,ih n (by omega),hx⟩
  ·cases n with
   |zero=>cases he
   |succ n =>
    obtain⟨ms,hm,rfl⟩:=aa.mp (show(E0 (comp n) c [a,b]).map (ME.prim .tup)=some m from he);exact⟨comp n,ms,ih n (by omega),hm,rfl⟩
end M

namespace M
open PySem L2 PySem.Spec PyProof.Rows
structure nP where
 nm:Str
 qn:Str
 N:List Str
 ps:List Str
 st:Stmt
def f7.at(c:f7)(d:nP):f7:={ c with N:=d.N,nm:=(m9 d.st).names,lA:=true,jf:=true,iP:=true }
structure jb(K:PySem.W.Frag)(c:f7)(d:nP)(m:aS)(f:Addr)(fd:FuncData):Prop where
 fn:oW K d.nm d.qn d.st f fd
 bi:Binds K fd d.ps []
 sc:hV d.N d.ps (m9 d.st)
 co:u4 (comp 60) (c.at d) (n5 d.st)=some m.body
 ar:m.ar=d.ps.length
 nn:m.n=d.N.length
structure mI(w:World)(K:PySem.W.Frag)(mg:Str->Option Value)(c:f7)(T:Nat->Option aS):Prop where
 fns:∀x i,c.fns.lookup x=some i->∃d m f fd,T i=some m/\jb K c d m f fd/\mg x=some (.ref f)
 cls:∀x i,c.cls.lookup x=some i->∃C d m f fd,T i=some m/\jb K c d m f fd/\mg x=some (.ref C)/\o8 K x C/\jt K C/\Mk K C f
 oi:∀x y i C,(x,y,i)∈c.oi->o8 K y C->∃d m f fd,T i=some m/\jb K c d m f fd/\Meth K C x f
 mV:∀f y C,(f,y)∈c.mV->o8 K y C->A7 K C f
 con:∀x d,c.con.lookup x=some d->∃v u,mg x=some u/\RelV v u/\∀ρ H,d7 K ρ H d v
 blt:∀x,c.blt.contains x=true->mg x=none
 Aa:∀x,c.exc.contains x=true->∃C,mg x=some (.ref C)/\o8 K x C/\∀base:Heap,K.In base->base.Ns mainGlobals mg->∃B newId fR bm,OwnCls x C bm newId mg base/\ExcBaseFacts B newId fR bm
 zY:∀x y C C',c.exc.contains x=true->c.exc.contains y=true->o8 K x C->o8 K y C'->PySem.W.exmOne K (.ref C) (.ref C')=some (decide (x=y\/y="MintError"))
 qh:∀x kvs,c.gd.lookup x=some kvs->∃A vs,mg x=some (.ref A)/\uZ K w.params A vs/\oR K kvs vs
section
variable{Pg:Program}{w:World}{K:PySem.W.Frag}{mg:Str->Option Value}{base:Heap}{c:f7}{T:Nat->Option aS}
theorem Ot{K:PySem.W.Frag}{cd:Value}{q:Str}(h:PySem.W.codeIn K cd q=true):PySem.W.kdsCode K cd=true:=by
 unfold PySem.W.codeIn at h;unfold PySem.W.kdsCode;split at h
 ·dsimp only;split at h
  ·rename_i e;rw[e]
  ·cases h
 ·cases h
theorem Ru{N:List Str}{qual:Str}{scope:Scope}{f:Addr}{cd:Value}{A:Around}{outer:List Env}{s:Shared}{H:Hp}{E:XK}:Passes (iG Pg w) (nO (iG Pg w) Pg w K mg base N qual scope f cd A outer s H E) E:=λpins Z H1 s1 e s' I h=>by
 obtain⟨C,H',J,fl,hE⟩:=I.flew h;exact Vv J fl (λb o q=>I.base.there b o q (by intro z;cases z)) rfl rfl rfl hE
theorem ZY{N:List Str}{qual:Str}{scope:Scope}{f:Addr}{cd:Value}{A:Around}{outer:List Env}{s:Shared}{H:Hp}{E:XK}:xA (nO (iG Pg w) Pg w K mg base N qual scope f cd A outer s H E) E:=λpins Z H1 s1 h' ea C vs I hm hE =>
 X' I hm rfl rfl rfl hE
theorem QS{N:List Str}{qual:Str}{scope:Scope}{f:Addr}{cd:Value}{A:Around}{outer:List Env}{s:Shared}{H:Hp}{E:XK}:vn (nO (iG Pg w) Pg w K mg base N qual scope f cd A outer s H E) E:=λpins Z H1 H2 s1 s2 B ea C a0 I l hh hE =>
 leave_held I l hh rfl rfl rfl hE
theorem AM{k i:Nat}{m:aS}(hT:T i=some m){ds:List D}{g:G}{Q:KD}{E:KX}(h:b7 T k i ds g Q E):ds.length=m.ar:=by
 cases k with
 |zero=>exact h.elim
 |succ k =>
  obtain⟨m',e,h,_⟩:=h;rw[hT] at e;cases e;exact h
theorem NU(lR:K.In base)(uz:base.Ns mainGlobals mg)(A:mI w K mg c T):∀(k i:Nat) d m f fd,T i=some m->jb K c d m f fd->gW Pg w K mg base (iG Pg w) (2*k) f fd d.ps (nY c.exc K d.ps.length (b7 T k i)):=by
 intro k
 induction k with
 |zero =>
  intro i d m f fd hm O;refine⟨λvs H Q E h=>h.1,λA outer s H args us vs Q E _ _ _ _ h=>?_⟩;obtain⟨_,_,_,_,_,_,q⟩:=h;exact q.elim
 |succ k ih =>
  intro i d m f fd hm O;obtain⟨oc,od,kV,doc,pm,an,fe,ct,lr,rfl,lk,kP⟩:=O.fn.ex;refine UM (k:=2*k+1) lk kP O.sc (λvs H Q E h=>h.1) (λA0 outer s H vs Q E hr h=>?_);obtain⟨hl,xs,g,ρ,rs,R,q⟩:=h;have C:gs (nO (iG Pg w) Pg w K mg base d.N d.qn (m9 d.st) f fe A0 outer s H E) (c.at d) (b7 T k) (c.exc,E):=by
   refine⟨rfl,O.sc.nd,λx h=>h,λx h=>h,λx h=>.inr h,λx h=>h,λx h=>?_,λ_ _=>rfl,rfl,?_,(λ_=>PassesOwn.leaving),a9 T k,A.con,A.blt,λx j hj=>?_,λx j hj=>?_,λx y j C' hj hC=>?_,A.mV,rfl,Ru,λ_=>ZY,λ_=>⟨rfl,rfl,QS⟩,λx hx=>?_,A.zY,A.qh,λ_=>Ot kP⟩
   ·rcases h with h|h
    ·exact Bc h
    ·exact absurd rfl (O.sc.lO _ (aL h))
   ·have:=hr.un;show(A0.deeper _).units+100<cLine;omega
   ·obtain⟨d',m',f',oN,hT,O',hmg⟩:=A.fns x j hj;exact⟨2*k,f',oN,d'.ps,⟨ih j d' m' f' oN hT O',O'.bi,λEG g' Q' E' h'=>(AM hT h').trans O'.ar⟩,hr.mono (by omega),hmg,O'.fn.kp⟩
   ·obtain⟨C',d',m',f',oN,hT,O',hmg,hC,jr,M⟩:=A.cls x j hj;exact⟨2*k,C',f',oN,d'.ps,⟨ih j d' m' f' oN hT O',O'.bi,λEG g' Q' E' h'=>(AM hT h').trans O'.ar⟩,hr,hmg,hC,jr,M⟩
   ·obtain⟨d',m',f',oN,hT,O',M⟩:=A.oi x y j C' hj hC;exact⟨2*k,f',oN,d'.ps,M,⟨ih j d' m' f' oN hT O',O'.bi,λEG g' Q' E' h'=>(AM hT h').trans O'.ar⟩,hr.mono (by omega)⟩
   ·obtain⟨C,h1,h2,h3⟩:=A.Aa x hx;exact⟨C,h1,h2,h3 base lR uz⟩
  refine⟨_,rK (snd (P:=b7 T k) 60 60 (av _)) C O.co,?_⟩;obtain⟨m',e,q1,q⟩:=q;rw[hm] at e;cases e;refine⟨c8 m xs,g,ρ,?_,R,wpS_mono (a9 T k) m.body ⟨λ_ g'=>LQ K ρ H Q .bx g',LQ K ρ H Q,λ_ _=>False,λ_ _=>False⟩ _ _ _ _ _ ⟨λZ g' h bt H' cH e R' s'=>h bt H' _ e R' .bx,λd g' h=>h,λ_ _ h=>h.elim,λ_ _ h=>h.elim⟩ (λ_ _ z=>z) q⟩;have:=m7.start (n:=d.N.length) rs;unfold c8 L2.start;rw[O.nn];exact this
theorem Oy{L k0:Nat}{H:Hp}{a:Addr}{ns:List Int}(hO:xT H)(hS:fh K H a (ns.map V.int))(h:b7 T k0 L [.ref 0] [.nH (ns.map .int)] (λd _=>d=.bl true) iK) :
  nY exc K 1 (b7 T k0 L) [.ref a] H (λv _=>v=.bl true) λ_ _ _=>False:=by
 refine⟨rfl,[.ref 0],[.nH (ns.map .int)],[a],.cons (.ref rfl) .nil,⟨rfl,λi o b h1 h2=>?_,λi j l m b h1 h2 m1=>?_⟩,a9 T k0 _ _ _ _ _ _ _ (λd g' e bt H' v _ _ r=>?_) (λ_ _ z=>z.elim) h⟩
 ·cases i with
  |zero =>
   cases h1;cases h2;refine⟨_,?_,b9.ofInts ns⟩;rcases hS with(z|⟨o,z⟩)|z
   ·rcases hO a with q|⟨o,xs,q⟩
    ·rw[z] at q;cases q
    ·rw[z] at q;cases q
   ·exact .inl ⟨o,z⟩
   ·exact .inr z
  |succ i=>simp at h1
 ·cases i with
  |zero=>cases h1;cases m1
  |succ i=>simp at h1
 ·subst e;cases r
  rfl
end
end M

namespace M
open PySem L2
section
variable{P:eO}{Z:S}{g:G}{Q:KD}{E:KX}{N:Ends}{a b c o:ME}{x y:MS}{p:Pr}
theorem N4(h:N.nx Z g):wpS P .pass N Z g E:=h
theorem vk(h:wpS P x ⟨λgZ g1=>wpS P y N gZ g1 E,N.rt,N.bk,N.ct⟩ Z g E):wpS P (.seq x y) N Z g E:=h
theorem P9(h:wpS P x N Z g E):wpS P (.seq x .pass) N Z g E:=h
theorem QB(h:aP P a Z g (λ_ g1=>N.nx Z g1) E):wpS P (.expr a) N Z g E:=h
theorem vm{i:Nat}(h:aP P a Z g (λx g1=>N.nx (Z.set i (some x)) g1) E):wpS P (.set i a) N Z g E:=h
theorem NQ{t:MT}(h:aP P a Z g (λx g1=>iT t x Z λgZ=>N.nx gZ g1) E):wpS P (.kJ t a) N Z g E:=h
theorem Il{o i:ME}(h:aP P a Z g (λx g1=>aP P o Z g1 (λy g2=>aP P i Z g2 (λz g3=>U0 y z x g3 λg4=>N.nx Z g4) E) E) E):wpS P (.dF o i a) N Z g E:=h
theorem QF{f:Str}{cs:List Str}(h:aP P a Z g (λx g1=>aP P o Z g1 (λy g2=>vi f cs y x g2 λg3=>N.nx Z g3) E) E):wpS P (.gE f cs o a) N Z g E:=h
theorem Ji(h:cK P c Z g (λt g1=>if t=true then wpS P x N Z g1 E else wpS P y N Z g1 E) E):wpS P (.ifs c x y) N Z g E:=h
theorem NN(h:aP P a Z g N.rt E):wpS P (.ret a) N Z g E:=h
theorem Su{x:Str}(h:eY P a Z g (λvs g1=>vs.length<=1000/\E ⟨x⟩ g1) E):wpS P (.raise x a) N Z g E:=h
theorem NP{hs:List (Str×ME)}(h:wpS P x N Z g (kl P N (Z.map λ_=>none) E hs)):wpS P (.X9 x hs) N Z g E:=h
theorem vf{x:Xn}{y:Str}{e:ME}{r:List (Str×ME)}(hx:x.cls=y)(h:aP P e Z g N.rt iK):kl P N Z E ((y,e)::r) x g:=by unfold kl;rw[aH (.inl hx)];exact h
theorem F8{x:Xn}{y:Str}{e:ME}{r:List (Str×ME)}(hx:¬(x.cls=y\/y="MintError"))(h:kl P N Z E r x g):kl P N Z E ((y,e)::r) x g:=by unfold kl;rw[az hx];exact h
theorem w_var{i:Nat}{d:D}(e:Z[i]?=some (some d))(h:Q d g):aP P (.var i) Z g Q E:=by exact⟨d,e,h⟩
theorem w_lit{d:D}(h:Q d g):aP P (.lit d) Z g Q E:=h
theorem QE(h:eY P a Z g (λxs g1=>cx p xs g1 Q) E):aP P (.prim p a) Z g Q E:=h
theorem Us(h:cx p [] g Q):aP P (.prim p .nil) Z g Q E:=by exact h
theorem Fo(h:aP P a Z g (λx g1=>cx p [x] g1 Q) E):aP P (.prim p (.cons a .nil)) Z g Q E:=by exact h
theorem xZ(h:aP P a Z g (λx g1=>aP P b Z g1 (λy g2=>cx p [x,y] g2 Q) E) E):aP P (.prim p (.cons a (.cons b .nil))) Z g Q E:=by exact h
theorem Ss{o1 o2:CmpOp}(h:aP P a Z g (λx g1=>aP P b Z g1 (λy g2=>cx (.cmp o1) [x,y] g2 λz g3=>∃t,z=.bl t/\if t=true then aP P c Z g3 (λw g4=>cx (.cmp o2) [y,w] g4 Q) E else Q (.bl false) g3) E) E):aP P (.chain o1 o2 a b c) Z g Q E:=h
theorem w_and(h:aP P a Z g (λx g1=>∃t,x=.bl t/\if t=true then aP P b Z g1 Q E else Q (.bl false) g1) E):aP P (.dB a b) Z g Q E:=h
theorem w_not(h:aP P a Z g (λx g1=>∃t,x=.bl t/\Q (.bl (!t)) g1) E):aP P (.dY a) Z g Q E:=h
theorem w_ite(h:cK P c Z g (λt g1=>if t=true then aP P a Z g1 Q E else aP P b Z g1 Q E) E):aP P (.ite c a b) Z g Q E:=h
theorem AD{f:Nat}(h:eY P a Z g (λxs g1=>P f xs g1 Q E) E):aP P (.call f a) Z g Q E:=h
theorem HC{fs:List Nat}{i:Nat}{n k:Int}{f:Nat}(h1:Z[i]?=some (some (.int n)))(h2:fE fs (n-k)=some f)(h:eY P a Z g (λxs g1=>P f xs g1 Q E) E):aP P (.je fs i k a) Z g Q E:=⟨n,f,h1,h2,h⟩
theorem QC{f:Nat}{c:Str}(h:eY P a Z g (λxs g1=>P f (.ref g1.length::xs) (g1++[.ins c []]) (λd g2=>d=.bx/\Q (.ref g1.length) g2) E) E):aP P (.make c f a) Z g Q E:=h
theorem QD(h:aP P o Z g (λx g1=>lx p x g1/\eY P a Z g1 (λxs g2=>cx p (x::xs) g2 Q) E) E):aP P (.dZ p o a) Z g Q E:=h
theorem BW{Q:List D->G->Prop}(h:Q [] g):eY P .nil Z g Q E:=h
theorem vw{Q:List D->G->Prop}(h:aP P a Z g (λx g1=>eY P b Z g1 (λxs g2=>Q (x::xs) g2) E) E):eY P (.cons a b) Z g Q E:=h
theorem QG{Q:Bool->G->Prop}(h:cK P a Z g (λt g1=>if t=true then cK P b Z g1 Q E else Q false g1) E):cK P (.dB a b) Z g Q E:=h
theorem NO{Q:Bool->G->Prop}(h:cK P a Z g (λt g1=>if t=true then Q true g1 else cK P b Z g1 Q E) E):cK P (.jE a b) Z g Q E:=h
theorem QH{Q:Bool->G->Prop}(h:cK P a Z g (λt g1=>Q (!t) g1) E):cK P (.dY a) Z g Q E:=h
theorem BX{Q:Bool->G->Prop}(h:Q true g):cK P .no Z g Q E:=h
theorem Jj{Q:Bool->G->Prop}(h:aP P a Z g (λx g1=>Y0 g1 x λb=>Q b g1) E):cK P (.fk a) Z g Q E:=h
end
section
variable{g:G}{Q:KD}{i j:Int}{kb:Bool->Prop}{t s:Bool}{l m:List D}
theorem Uu(h:Q (.int (i+j)) g):cx (.bin .Add) [.int i,.int j] g Q:=⟨_,_,.inl ⟨i,j,_,rfl,rfl,rfl,rfl⟩,h⟩
theorem Uv(h:Q (.int (i-j)) g):cx (.bin .Sub) [.int i,.int j] g Q:=⟨_,_,.inl ⟨i,j,_,rfl,rfl,rfl,rfl⟩,h⟩
theorem P2(c:qp i j)(h:Q (.int (i*j)) g):cx (.bin .Mult) [.int i,.int j] g Q:=⟨_,_,.inl ⟨i,j,_,rfl,⟨c,rfl⟩,rfl,rfl⟩,h⟩
theorem P4(c:0<j)(h:Q (.int (i % j)) g):cx (.bin .Mod) [.int i,.int j] g Q:=⟨_,_,.inl ⟨i,j,_,rfl,⟨c,rfl⟩,rfl,rfl⟩,h⟩
theorem wU(c:Cj i j)(h:Q (.int (i / j)) g):cx (.bin .FloorDiv) [.int i,.int j] g Q:=⟨_,_,.inl ⟨i,j,_,rfl,⟨c,rfl⟩,rfl,rfl⟩,h⟩
theorem NT(h1:0<j)(h2:j<1073741824)(h:Q (.int (i / j)) g):cx (.bin .FloorDiv) [.int i,.int j] g Q:=wU ⟨h1,h2⟩ h
theorem wV(c:V2 i j)(h:Q (.int (i ^ j.toNat)) g):cx (.bin .Pow) [.int i,.int j] g Q:=⟨_,_,.inl ⟨i,j,_,rfl,⟨c,rfl⟩,rfl,rfl⟩,h⟩
theorem BC{i j:Nat}(hi:g[i]?=some (.lst l))(hj:g[j]?=some (.lst m))(hl:l.length+m.length<=100000)(h:Q (.ref g.length) (g++[.lst (l++m)])):cx (.bin .Add) [.ref i,.ref j] g Q:=⟨_,_,.inr (.inl ⟨rfl,.inr (.inl ⟨i,j,l,m,rfl,hi,hj,hl,rfl,rfl⟩)⟩),h⟩
theorem NM(h:Q (.int (-i)) g):cx (.un .USub) [.int i] g Q:=⟨_,_,⟨rfl,i,rfl,rfl,rfl⟩,h⟩
theorem S1{op:CmpOp}{x y:D}{b:Bool}(hb:EW g x y b op)(h:Q (.bl b) g):cx (.cmp op) [x,y] g Q:=⟨_,_,⟨x,y,b,rfl,hb,rfl,rfl⟩,h⟩
theorem SO(h:Q (.bl (decide (i<j))) g):cx (.cmp .Lt) [.int i,.int j] g Q:=S1 ⟨i,j,rfl,rfl,rfl⟩ h
theorem SN(h:Q (.bl (decide (i<=j))) g):cx (.cmp .LtE) [.int i,.int j] g Q:=S1 ⟨i,j,rfl,rfl,rfl⟩ h
theorem SM(h:Q (.bl (decide (j<i))) g):cx (.cmp .Gt) [.int i,.int j] g Q:=S1 ⟨i,j,rfl,rfl,rfl⟩ h
theorem SK(h:Q (.bl (decide (j<=i))) g):cx (.cmp .GtE) [.int i,.int j] g Q:=S1 ⟨i,j,rfl,rfl,rfl⟩ h
theorem EU{x y:D}(h:uG g x y λb=>Q (.bl b) g):cx (.cmp .Eq) [x,y] g Q:=let ⟨_,hb,h⟩:=h;S1 hb h
theorem Cr{x y:D}(h:uG g x y λb=>Q (.bl (!b)) g):cx (.cmp .NotEq) [x,y] g Q:=let ⟨b,hb,h⟩:=h;S1 (b:=!b) (show uF g x y (!(!b)) from by rw[sC];exact hb) h
theorem EV{x y:D}(h:om g x y λb=>Q (.bl b) g):cx (.cmp .In) [x,y] g Q:=let ⟨_,hb,h⟩:=h;S1 (.inl hb) h
theorem UD{a n:Nat}{S:Int->Bool}(hg:g[a]?=some (.set S n))(h:Q (.bl (S i)) g):cx (.cmp .In) [.int i,.ref a] g Q:=S1 (.inr ⟨a,S,n,i,rfl,hg,rfl,rfl⟩) h
theorem P0{x y:D}(h:om g x y λb=>Q (.bl (!b)) g):cx (.cmp .NotIn) [x,y] g Q:=let ⟨b,hb,h⟩:=h;S1 (b:=!b) (.inl (show inR g x y (!(!b)) from by rw[sC];exact hb)) h
theorem IX(h:kb (decide (i=j))):uG g (.int i) (.int j) kb:=⟨_,.inl ⟨i,j,rfl,rfl,rfl⟩,h⟩
theorem IY{x y:Str}(h:kb (decide (x=y))):uG g (.str x) (.str y) kb:=⟨_,.inr (.inr (.inl ⟨x,y,rfl,rfl,rfl⟩)),h⟩
theorem UA(h:Q (.bl (decide (i=j))) g):cx (.cmp .Eq) [.int i,.int j] g Q:=EU (IX h)
theorem UH(h:Q (.bl (!decide (i=j))) g):cx (.cmp .NotEq) [.int i,.int j] g Q:=Cr (IX h)
theorem UB{p q:Str}(h:Q (.bl (decide (p=q))) g):cx (.cmp .Eq) [.str p,.str q] g Q:=EU (IY h)
theorem UI{p q:Str}(h:Q (.bl (!decide (p=q))) g):cx (.cmp .NotEq) [.str p,.str q] g Q:=Cr (IY h)
theorem Cq{d:D}(h:Q (.bl (N1 d)) g):cx (.cmp .Is) [d,.bx] g Q:=S1 ⟨rfl,rfl⟩ h
theorem IH{d:D}(h:Q (.bl (!N1 d)) g):cx (.cmp .IsNot) [d,.bx] g Q:=S1 ⟨rfl,rfl⟩ h
theorem UE(h:Q (.bl true) g):cx (.cmp .Is) [.bx,.bx] g Q:=Cq h
theorem UG{n:Nat}(h:Q (.bl false) g):cx (.cmp .Is) [.ref n,.bx] g Q:=Cq h
theorem UC(h:Q (.bl false) g):cx (.cmp .IsNot) [.bx,.bx] g Q:=IH h
theorem xY(h:kb t):Y0 g (.bl t) kb:=⟨t,.inr (.inl rfl),h⟩
theorem NG(h:kb (i != 0)):Y0 g (.int i) kb:=⟨_,.inr (.inr (.inl ⟨i,rfl,rfl⟩)),h⟩
theorem Jh{i:Nat}(hl:d0 g i=some l)(h:kb (!l.isEmpty)):Y0 g (.ref i) kb:=⟨_,.inr (.inr (.inr (.inr ⟨i,l,rfl,hl,rfl⟩))),h⟩
theorem AL{t:Bool}{p:Bool->Prop}(h:p t):∃s,D.bl t=D.bl s/\p s:=⟨t,rfl,h⟩
theorem Oi{p:Int->Prop}(h:p i):∃s,D.int i=D.int s/\p s:=⟨i,rfl,h⟩
theorem if2{c:Prop}[Decidable c]{A B:Prop}(h1:c->A)(h2:¬c->B):if decide c=true then A else B:=by
 by_cases h:c
 ·rw[aH (aD h)];exact h1 h
 ·rw[az (by rw[aE h];decide)];exact h2 h
theorem lU{A B:Prop}(h:A):if true=true then A else B:=by rw[aH rfl];exact h
theorem qt{A B:Prop}(h:B):if false=true then A else B:=by rw[az (by decide)];exact h
theorem EZ{A B:Prop}(h:A):if(!false)=true then A else B:=by rw[aH (show(!false)=true from rfl)];exact h
theorem Tb{A B:Prop}(h:B):if(!true)=true then A else B:=by rw[az (by decide)];exact h
theorem fG{b:Bool}{A B:Prop}(hb:b=false)(h:B):if b=true then A else B:=by rw[hb];exact qt h
theorem gJ{b:Bool}{A B:Prop}(hb:b=true)(h:A):if b=true then A else B:=by rw[hb];exact lU h
theorem q9{a:Nat}{d:D}(hl:d0 g a=some l)(h2:fE l i=some d)(h:Q d g):cx .ix [.ref a,.int i] g Q:=⟨_,_,⟨rfl,.inl ⟨_,l,i,rfl,hl,h2⟩⟩,h⟩
theorem B9{d:D}(h2:fE l i=some d)(h:Q d g):cx .ix [.tup l,.int i] g Q:=⟨_,_,⟨rfl,.inl ⟨_,l,i,rfl,rfl,h2⟩⟩,h⟩
theorem xW{i:Nat}{kvs:List (Key×D)}{y v:D}{k:Key}(hg:g[i]?=some (.dy kvs))(hk:U7 y=some k)(hv:p6 kvs k=some v)(h:Q v g):cx .ix [.ref i,y] g Q:=⟨_,_,⟨rfl,.inr (.inl ⟨i,kvs,y,k,rfl,hg,hk,hv⟩)⟩,h⟩
theorem S5{a n:Nat}{v:D}{kg:G->Prop}(hl:g[a]?=some (.lst l))(hn:ke l.length i=some n)(h:kg (g.set a (.lst (l.set n v)))):U0 (.ref a) (.int i) v g kg:=⟨_,.inl ⟨a,i,l,n,rfl,rfl,hl,hn,rfl⟩,h⟩
theorem Ja{i:Nat}{kvs:List (Key×D)}{y v:D}{k:Key}{kg:G->Prop}(hg:g[i]?=some (.dy kvs))(hk:U7 y=some k)(hl:kvs.length<100000)(h:kg (g.set i (.dy (putD kvs k v)))):U0 (.ref i) y v g kg:=⟨_,.inr ⟨i,kvs,k,rfl,hg,hk,hl,rfl⟩,h⟩
theorem Y1{f c:Str}{cs:List Str}{a:Nat}{fs:List (Str×D)}{v:D}{kg:G->Prop}(hg:g[a]?=some (.ins c fs))(hc:c∈cs)(hl:fs.length<100)(h:kg (g.set a (.ins c (j6 f v fs)))):vi f cs (.ref a) v g kg:=⟨_,⟨a,c,fs,rfl,hg,hc,hl,rfl⟩,h⟩
theorem R7{f c:Str}{a:Nat}{fs:List (Str×D)}{d:D}(hg:g[a]?=some (.ins c fs))(hf:fs.lookup f=some d)(h:Q d g):cx (.fld f) [.ref a] g Q:=⟨_,_,⟨a,c,fs,rfl,hg,hf,rfl⟩,h⟩
theorem a8{a:Nat}(h:g[a]?=some (.lst l)):d0 g a=some l:=by simp only[d0,h,Ap]
theorem WU{a:Nat}(h:g[a]?=some (.nH l)):d0 g a=some l:=by simp only[d0,h,Ap]
theorem T6{a:Nat}(hl:d0 g a=some l)(h:Q (.int l.length) g):cx .len [.ref a] g Q:=⟨_,_,⟨rfl,.inl ⟨_,l,rfl,hl,rfl⟩⟩,h⟩
theorem Hu{a:Nat}(hl:d0 g a=some l)(h:Q (.ref g.length) (g++[.lst (cut l none (some i))])):cx (.lL false true) [.ref a,.int i] g Q:=⟨_,_,⟨_,i,rfl,.inr ⟨a,l,rfl,hl,rfl,rfl⟩⟩,h⟩
theorem BN(hl:l.length<=1000)(h:Q (.tup l) g):cx .tup l g Q:=⟨_,_,⟨hl,rfl,rfl⟩,h⟩
theorem BL(hl:l.length<=1000)(h:Q (.ref g.length) (g++[.lst l])):cx .lst l g Q:=⟨_,_,⟨hl,rfl,rfl⟩,h⟩
theorem IV{a:Nat}(hl:d0 g a=some l)(h:Q (.ref g.length) (g++[.lst l])):cx .list [.ref a] g Q:=⟨_,_,.inl ⟨_,l,rfl,hl,rfl,rfl⟩,h⟩
theorem NK{a:Nat}(hl:d0 g a=some l)(h:Q (.tup l) g):cx .tuple [.ref a] g Q:=⟨_,_,⟨_,l,rfl,hl,rfl,rfl⟩,h⟩
theorem DC{d:D}{c:String}{b:Bool}(hc:c∈["int","bool","str","tuple","list"])(hb:Ct g d c=some b)(h:Q (.bl b) g):cx .isin [d,.ty c] g Q:=⟨_,_,⟨d,c,b,rfl,hc,hb,rfl,rfl⟩,h⟩
theorem T2{i:Nat}{y:D}(hg:g[i]?=some (.lst l))(hl:l.length<100000)(h:Q .bx (g.set i (.lst (l++[y])))):cx .append [.ref i,y] g Q:=⟨_,_,⟨i,y,l,rfl,hg,hl,rfl,rfl⟩,h⟩
theorem Ve{i j:Nat}{y:D}{n:Int}(hg:g[i]?=some (.lst l))(hn:n=j)(hj:l[j]?=some y)(hl:l.length<100000)(h:Q y (g.set i (.lst (l.eraseIdx j)))):cx .pop [.ref i,.int n] g Q:=by
 have dW:=(ak.mp hj).1;refine⟨_,_,⟨i,n,l,j,rfl,hg,by omega,by omega,?_,hj,rfl⟩,h⟩;rw[hn];exact PySem.StrLaws.seqIndex_nonneg (by omega) (by omega) |>.trans (by simp)
theorem BI{i:Nat}{kvs:List (Key×D)}{y z:D}{k:Key}(hg:g[i]?=some (.dy kvs))(hk:U7 y=some k)(h:Q ((p6 kvs k).getD z) g):cx .get [.ref i,y,z] g Q:=⟨_,_,⟨i,y,z,kvs,k,rfl,hg,hk,rfl,rfl⟩,h⟩
theorem Of{i j:Int}(h:Q (.int (i+j)) g):cx .iadd [.int i,.int j] g Q:=⟨_,_,.inl ⟨i,j,rfl,rfl,rfl⟩,h⟩
theorem vq{i:Nat}(hg:g[i]?=some (.lst l)):lx .append (.ref i) g:=⟨i,l,rfl,a8 hg⟩
theorem OG{i:Nat}(hg:g[i]?=some (.lst l)):lx .pop (.ref i) g:=⟨i,l,rfl,a8 hg⟩
theorem Tj{i:Nat}{l:List (Key×D)}(hg:g[i]?=some (.dy l)):lx .get (.ref i) g:=⟨i,l,rfl,hg⟩
theorem qT{j:Int}(h1:-(2 ^ 62)<=j)(h2:j<=100000)(h:Q (.ref g.length) (g++[.lst (j5 0 j.toNat)])):cx .ir [.int j] g Q:=⟨_,_,⟨j,rfl,h1,h2,rfl,rfl⟩,h⟩
theorem tG{i j:Int}(h1:-(2 ^ 62)<=i/\i<2 ^ 62/\-(2 ^ 62)<=j/\j<2 ^ 62/\j-i<=100000)(h:Q (.ref g.length) (g++[.lst (j5 i (j-i).toNat)])):cx .jI [.int i,.int j] g Q:=⟨_,_,⟨i,j,rfl,h1,rfl,rfl⟩,h⟩
theorem Hk{a:Nat}{ns:List Int}(hl:d0 g a=some (ns.map .int))(hz:ns.length<60)(h:Q (.ref g.length) (g++[.lst ((l9 ns).map .int)])):cx .sset [.ref a] g Q:=⟨_,_,⟨a,ns,rfl,hl,hz,rfl,rfl⟩,h⟩
theorem Z9(h:Q (.ref g.length) (g++[.dy []])):cx .Z9 [] g Q:=⟨_,_,⟨rfl,rfl,rfl⟩,h⟩
theorem max2{i j:Int}(h:Q (.int (if j>i then j else i)) g):cx .max [.int i,.int j] g Q:=⟨_,_,⟨rfl,.inl ⟨i,j,rfl,rfl⟩⟩,h⟩
theorem OD{a n:Nat}{i:Int}{S:Int->Bool}(hg:g[a]?=some (.set S n))(hn:n+1<4096)(h:Q .bx (g.set a (.set (λk=>S k||decide (k=i)) (if S i then n else n+1)))):cx .jC [.ref a,.int i] g Q:=⟨_,_,⟨a,i,S,n,rfl,hg,hn,rfl,rfl⟩,h⟩
theorem Rf{a n:Nat}{S:Int->Bool}(hg:g[a]?=some (.set S n)):lx .jC (.ref a) g:=⟨a,S,n,rfl,hg⟩
theorem Rt{i:Int}(h:Q (.ref g.length) (g++[.set (λk=>decide (k=i)) 1])):cx (.jB i) [] g Q:=⟨_,_,⟨rfl,rfl,rfl⟩,h⟩
theorem Je{a:Nat}{ns:List Int}(hl:d0 g a=some (ns.map .int))(h:Q (.int ns.sum) g):cx .sum [.ref a] g Q:=⟨_,_,⟨a,ns,rfl,hl,rfl,rfl⟩,h⟩
theorem Ux{a:Nat}{ns:List Int}(hl:d0 g a=some (ns.map .int))(h:Q (.bl (ns.all λn=>n != 0)) g):cx .all [.ref a] g Q:=⟨_,_,⟨a,_,_,rfl,hl,.inr ⟨ns,rfl,rfl⟩,rfl,rfl⟩,h⟩
theorem BB{i j:Int}(c:V2 i j)(h:Q (.int (i*2 ^ j.toNat)) g):cx (.bin .LShift) [.int i,.int j] g Q:=⟨_,_,.inl ⟨i,j,_,rfl,⟨c,rfl⟩,rfl,rfl⟩,h⟩
theorem vb{i j:Int}(h:Q (.int (Builtin.bitAnd i j)) g):cx (.bin .BitAnd) [.int i,.int j] g Q:=⟨_,_,.inl ⟨i,j,_,rfl,rfl,rfl,rfl⟩,h⟩
theorem SE{i j:Int}(h:Q (.int (Builtin.bitOr i j)) g):cx (.bin .BitOr) [.int i,.int j] g Q:=⟨_,_,.inl ⟨i,j,_,rfl,rfl,rfl,rfl⟩,h⟩
theorem HB{P:eO}{Z:S}{E:KX}{N:Ends}{i:Nat}{p:Pr}{v:ME}{x:D}(e:Z[i]?=some (some x))(h:aP P v Z g (λz g1=>cx p [x,z] g1 λw g2=>N.nx (Z.set i (some w)) g2) E):wpS P (.jP i p v) N Z g E:=⟨x,e,h⟩
theorem Ol{i j:Int}(h:Q (.int (i-j)) g):cx .lT [.int i,.int j] g Q:=⟨_,_,⟨i,j,rfl,rfl,rfl⟩,h⟩
theorem min2{i j:Int}(h:Q (.int (if j<i then j else i)) g):cx .min [.int i,.int j] g Q:=⟨_,_,⟨rfl,.inl ⟨i,j,rfl,rfl⟩⟩,h⟩
theorem US{v:Bool}(h:Q (.int (if v then 1 else 0)) g):cx .int [.bl v] g Q:=⟨_,_,⟨rfl,.inr ⟨v,rfl,rfl⟩⟩,h⟩
theorem IS{kvs:List D}{x:Str}{v:D}(hv:M9 kvs x=some v)(h:Q v g):cx .mF [.tup kvs,.str x] g Q:=⟨_,_,⟨kvs,x,rfl,hv,rfl⟩,h⟩
theorem SS{i:Int}(hi:i.natAbs.log2<1920)(h:Q (.str (toString i)) g):cx .fv [.int i] g Q:=⟨_,_,⟨rfl,.inl ⟨i,rfl,hi,rfl⟩⟩,h⟩
theorem OW{x:Str}(hx:T7 l=some x)(h:Q (.str x) g):cx .kR l g Q:=⟨_,_,⟨x,hx,rfl,rfl⟩,h⟩
theorem Uw{i:Nat}{v:Bool}(hl:d0 g i=some l)(hv:T9 l=some v)(h:Q (.bl v) g):cx .all [.ref i] g Q:=⟨_,_,⟨i,l,v,rfl,hl,.inl hv,rfl,rfl⟩,h⟩
theorem o6{i:Nat}{x:D}{Z:S}{k:S->Prop}(h:k (Z.set i (some x))):iT (.one i) x Z k:=h
theorem A8{is:List Nat}{Z bI:S}{k:S->Prop}(e:C4 is l Z=some bI)(h:k bI):iT (.many is) (.tup l) Z k:=⟨l,bI,rfl,e,h⟩
end
theorem Wu:∀(bs:List Bool),T9 (bs.map D.bl)=some (bs.all id):=by
 intro bs
 induction bs with
 |nil=>rfl
 |cons b r ih=>simp[T9,ih]
theorem call_of{T:Nat->Option aS}{k f:Nat}{m:aS}{ds:List D}{g:G}{Q:KD}{E:KX}(hT:T f=some m)(hl:ds.length=m.ar)(h:wpS (b7 T k) m.body ⟨λ_ g'=>Q .bx g',Q,λ_ _=>False,λ_ _=>False⟩ (c8 m ds) g E):b7 T (k+1) f ds g Q E:=⟨m,hT,hl,h⟩
def IK.Is(k:IK)(l:List D)(g:G):Prop:=∀i,k.at i g=some l[i]?
theorem A3{l:List D}{g:G}:(IK.fix l).Is l g:=λ_=>rfl
theorem v9{a:Nat}{l:List D}{g:G}(h:d0 g a=some l):(IK.lst a).Is l g:=λi=>by simp only[IK.at,h]
def lB(l:List D):List D:=l.mapIdx λi d=>.tup [.int i,d]
theorem xl{a:Nat}{l:List D}{g:G}(h:d0 g a=some l):(IK.nJ a).Is (lB l) g:=λi=>by
 simp only[IK.at,h,lB,List.getElem?_mapIdx]
theorem Om{a:Nat}{l:List D}{g:G}(h:d0 g a=some l):(IK.qR a l.length).Is l.reverse g:=λi=>by
 simp only[IK.at,h,if_true];by_cases hi:i<l.length
 ·rw[aH hi,List.getElem?_reverse hi]
 ·rw[az hi,bf (by simpa using hi)]
theorem L9(l:List D):(lB l).length=l.length:=by simp[lB]
theorem xG{l:List D}{i:Nat}{x:D}(h:(lB l)[i]?=some x):∃d,l[i]?=some d/\x=.tup [.int i,d]:=by
 rw[lB,List.getElem?_mapIdx,aa] at h;obtain⟨d,h1,h2⟩:=h;exact⟨d,h1,h2.symm⟩
theorem E8{lo:Int}{n i:Nat}{x:D}(h:(j5 lo n)[i]?=some x):i<n/\x=.int (lo+i):=by
 unfold j5 at h;have hi:i<n:=by
  have:=(ak.mp h).1;simpa using this
 rw[ao,cN hi] at h;cases h;exact⟨hi,rfl⟩
theorem m8(lo:Int)(n:Nat):(j5 lo n).length=n:=by simp[j5]
section
variable{P:eO}{Z:S}{g:G}{E:KX}{N:Ends}{it a b c o:ME}{s:MS}{t:MT}{Q:KD}
theorem FC{k:IK}{l:List D}{fin:S->G->Prop}{turn:D->(S->G->Prop)->S->G->Prop}(I:Nat->S->G->Prop)(hk:∀i Z g,I i Z g->k.Is l g)(h0:I 0 Z g)(hs:∀i x Z g,l[i]?=some x->I i Z g->turn x (I (i+1)) Z g)(hd:∀Z g,I l.length Z g->fin Z g):turns k Z g fin turn:=by
 refine⟨λi m Z g=>m=l.length-i/\i<=l.length/\I i Z g,⟨l.length,by simp,cz _,h0⟩,?_⟩;rintro i m Z g ⟨rfl,hi,p⟩;rw[hk i Z g p i];by_cases dW:i<l.length
 ·rw[au dW];exact .inr ⟨_,rfl,I (i+1),λbI g' p'=>⟨l.length-(i+1),by omega,rfl,dW,p'⟩,hs i l[i] Z g (au dW) p⟩
 ·have e:i=l.length:=by omega
  subst e;rw[bf (av _)];exact .inl ⟨rfl,hd Z g p⟩
theorem C9(hP:i3 P)(h:gb P it Z g (λk g1=>∃(l:List D) (I:Nat->S->G->Prop),(∀i Z g,I i Z g->k.Is l g)/\I 0 Z g1 /\
      (∀ i x Z g,l[i]?=some x->I i Z g->iT t x Z λbW=>wpS P s ⟨I (i + 1),N.rt,N.nx,I (i + 1)⟩ bW g E)/\∀ Z g,I l.length Z g->N.nx Z g) E):wpS P (.cS t it s) N Z g E :=
  y9 hP it _ _ _ _ _ _ (λk g1 hq=>by obtain⟨l,I,hk,h0,hs,hd⟩:=hq;exact FC I hk h0 hs hd) (λ_ _ z=>z) h
theorem Gi{n:Nat}(hn:(n:Int)<2 ^ 62)(I:Nat->S->G->Prop)(h0:I 0 Z g)(hs:∀(i:Nat) Z g,i<n->I i Z g->iT t (.int i) Z λbW=>wpS P s ⟨I (i+1),N.rt,N.nx,I (i+1)⟩ bW g E)(hd:∀Z g,I n Z g->N.nx Z g):wpS P (.cS t (.et (.lit (.int n))) s) N Z g E:=by
 refine⟨n,rfl,by omega,hn,FC (l:=j5 0 n) I (λ_ _ _ _=>A3) h0 (λi x Z g hx p=>?_) (λZ g p=>hd Z g (by rw[m8] at p;exact p))⟩;obtain⟨hi,rfl⟩:=E8 hx;have:=hs i Z g hi p;rw[show(0:Int)+(i:Int)=i by omega];exact this
theorem J6{d4:List Nat}{n:Nat}{cond elt:ME}(hP:i3 P)(h:gb P it Z g (λk g1=>∃(l:List D) (I:Nat->List D->S->G->Prop),l.length<=1000/\(∀i ys Z g,I i ys Z g->k.Is l g/\ys.length<=i)/\I 0 [] (E1 Z d4 n) g1 /\
      (∀i x ys Z g,l[i]?=some x->I i ys Z g->iT t x Z λbW=>cK P cond bW g (λc g3=>if c=true then aP P elt bW g3 (λy g4=>I (i+1) (ys++[y]) bW g4) iK else I (i+1) ys bW g3) iK) /\
      ∀ ys Z g,I l.length ys Z g->Q (.ref g.length) (g ++ [.lst ys])) E):aP P (.comp d4 n t it cond elt) Z g Q E:=by
  refine y9 hP it _ _ _ _ _ _ (λk g1 h=>?_) (λ_ _ z=>z) h;obtain⟨l,I,hl,hk,h0,hs,hd⟩:=h;refine⟨λi m ys Z g=>m=l.length-i/\i<=l.length/\I i ys Z g,⟨l.length,by simp,cz _,h0⟩,?_⟩;rintro i m ys Z g ⟨rfl,hi,p⟩;obtain⟨mR,hy⟩:=hk i ys Z g p;rw[mR i];by_cases dW:i<l.length
  · rw[au dW];refine .inr ⟨_,rfl,by omega,v5 (λbW q=>n6 hP cond _ _ _ _ _ _ (λc g3 q=>?_) (λ_ _ z=>z) q) (hs i l[i] ys Z g (au dW) p)⟩;cases c
    · exact⟨l.length-(i+1),by omega,rfl,dW,by simpa using(show I (i+1) ys bW g3 from q)⟩
    · exact b8 hP elt _ _ _ _ _ _ (λy g4 q=>⟨l.length-(i+1),by omega,rfl,dW,by simpa using q⟩) (λ_ _ z=>z) q
  · have e:i=l.length:=by omega
    subst e;rw[bf (av _)];exact .inl ⟨rfl,hd ys Z g p⟩
theorem Sv{d4:List Nat}{n:Nat}{cond elt:ME}(hP:i3 P)(h:gb P it Z g (λk g1=>∃(l:List D) (I:Nat->List Int->S->G->Prop),l.length<60/\(∀i ys Z g,I i ys Z g->k.Is l g/\ys.length<=i)/\I 0 [] (E1 Z d4 n) g1 /\
      (∀i x ys Z g,l[i]?=some x->I i ys Z g->iT t x Z λbW=>cK P cond bW g (λc g3=>if c=true then aP P elt bW g3 (λy g4=>∃j,y=.int j/\I (i+1) (ys++[j]) bW g4) iK else I (i+1) ys bW g3) iK) /\
      ∀ ys Z g,I l.length ys Z g->Q (.ref g.length) (g ++ [.lst ((l9 ys).map .int)])) E):aP P (.gk d4 n t it cond elt) Z g Q E:=by
  refine y9 hP it _ _ _ _ _ _ (λk g1 h=>?_) (λ_ _ z=>z) h;obtain⟨l,I,hl,hk,h0,hs,hd⟩:=h;refine⟨λi m ys Z g=>m=l.length-i/\i<=l.length/\I i ys Z g,⟨l.length,by simp,cz _,h0⟩,?_⟩;rintro i m ys Z g ⟨rfl,hi,p⟩;obtain⟨mR,hy⟩:=hk i ys Z g p;rw[mR i];by_cases dW:i<l.length
  · rw[au dW];refine .inr ⟨_,rfl,by omega,v5 (λbW q=>n6 hP cond _ _ _ _ _ _ (λc g3 q=>?_) (λ_ _ z=>z) q) (hs i l[i] ys Z g (au dW) p)⟩;cases c
    · exact⟨l.length-(i+1),by omega,rfl,dW,by simpa using(show I (i+1) ys bW g3 from q)⟩
    · refine b8 hP elt _ _ _ _ _ _ (λy g4 q=>?_) (λ_ _ z=>z) q;obtain⟨j,e,q⟩:=q;exact⟨j,e,l.length-(i+1),by omega,rfl,dW,by simpa using q⟩
  · have e:i=l.length:=by omega
    subst e;rw[bf (av _)];exact .inl ⟨rfl,by omega,hd ys Z g p⟩
theorem Yx{d4:List Nat}{n:Nat}{cond elt:ME}(hP:i3 P)(h:aP P a Z g (λx g1=>∃j:Nat,x=.int j/\j<=1000/\∃I:Nat->List D->S->G->Prop,I 0 [] (E1 Z d4 n) g1/\(∀i ys Z g,I i ys Z g->ys.length<=i) /\
      (∀(i:Nat) ys Z g,i<j->I i ys Z g->iT t (.int i) Z λbW=>cK P cond bW g (λc g3=>if c=true then aP P elt bW g3 (λy g4=>I (i+1) (ys++[y]) bW g4) iK else I (i+1) ys bW g3) iK) /\
      ∀ ys Z g,I j ys Z g->Q (.ref g.length) (g ++ [.lst ys])) E):aP P (.comp d4 n t (.et a) cond elt) Z g Q E:=by
  refine J6 hP ?_;refine b8 hP a _ _ _ _ _ _ (λx g1 h=>?_) (λ_ _ z=>z) h;obtain⟨j,rfl,hj,I,h0,hz,hs,hd⟩:=h;refine⟨j,rfl,by omega,by omega,_,I,by rw[m8];simpa using hj,λi ys Z g p=>⟨A3,hz i ys Z g p⟩,h0,λi x ys Z g hx p=>?_,λys Z g p=>hd ys Z g (by rw[m8] at p;simpa using p)⟩;obtain⟨hi,rfl⟩:=E8 hx;rw[show(0:Int)+(i:Int)=i by omega];exact hs i ys Z g (by simpa using hi) p
theorem Yy{d4:List Nat}{n:Nat}{cond elt:ME}(hP:i3 P)(h:aP P a Z g (λx g1=>∃l,x=.tup l/\l.length<=1000/\∃I:Nat->List D->S->G->Prop,I 0 [] (E1 Z d4 n) g1/\(∀i ys Z g,I i ys Z g->ys.length<=i) /\
      (∀(i:Nat) x ys Z g,l[i]?=some x->I i ys Z g->iT t x Z λbW=>cK P cond bW g (λc g3=>if c=true then aP P elt bW g3 (λy g4=>I (i+1) (ys++[y]) bW g4) iK else I (i+1) ys bW g3) iK) /\
      ∀ ys Z g,I l.length ys Z g->Q (.ref g.length) (g ++ [.lst ys])) E):aP P (.comp d4 n t (.fA a) cond elt) Z g Q E:=by
  refine J6 hP ?_;refine b8 hP a _ _ _ _ _ _ (λx g1 h=>?_) (λ_ _ z=>z) h;obtain⟨l,rfl,hj,I,h0,hz,hs,hd⟩:=h;exact .inl ⟨l,rfl,_,I,hj,λi ys Z g p=>⟨A3,hz i ys Z g p⟩,h0,hs,hd⟩
theorem Im(I:Nat->S->G->Prop)(m0:Nat)(h0:I m0 Z g)(hs:∀m Z g,I m Z g->cK P c Z g (λt g1=>if t=true then wpS P s ⟨λbI g'=>∃m',m'<m/\I m' bI g',N.rt,N.nx,λbI g'=>∃m',m'<m/\I m' bI g'⟩ Z g1 E else N.nx Z g1) E)(hP:i3 P):wpS P (.jA c s) N Z g E:=by
 refine⟨I,⟨m0,h0⟩,λm Z g p=>n6 hP c _ _ _ _ _ _ (λt g1 q=>?_) (λ_ _ z=>z) (hs m Z g p)⟩;cases t
 ·exact q
 ·exact⟨_,λ_ _ z=>z,q⟩
theorem qr(hP:i3 P){R:IK->G->Prop}(h:aP P a Z g (λx g1=>∃j:Int,x=.int j/\-(2 ^ 62)<=j/\j<2 ^ 62/\R (.fix (j5 0 j.toNat)) g1) E):gb P (.et a) Z g R E:=h
theorem wg(hP:i3 P){R:IK->G->Prop}(h:aP P a Z g (λx g1=>∃l,x=.tup l/\R (.fix l) g1) E):gb P (.fA a) Z g R E:=by
 exact b8 hP a _ _ _ _ _ _ (λx g1 h=>.inl h) (λ_ _ z=>z) h
theorem mQ(hP:i3 P){R:IK->G->Prop}(h:aP P a Z g (λx g1=>∃i l,x=.ref i/\d0 g1 i=some l/\R (.lst i) g1) E):gb P (.fA a) Z g R E:=by
 exact b8 hP a _ _ _ _ _ _ (λx g1 h=>.inr h) (λ_ _ z=>z) h
theorem Ku{R:IK->G->Prop}(h:aP P a Z g (λx g1=>∃i l,x=.ref i/\d0 g1 i=some l/\R (.qR i l.length) g1) E):gb P (.mP a) Z g R E:=h
theorem yN{R:IK->G->Prop}(h:aP P a Z g (λx g1=>∃i l,x=.ref i/\d0 g1 i=some l/\R (.nJ i) g1) E):gb P (.jK a) Z g R E:=h
end
end M

namespace M
open PySem L2 PySem.Spec PyProof.Rows
structure RF where
 id:Nat
 nm:Str
 N:List Str
 k:Nat
 i:Nat
 m:aS
structure RM where
 id:Nat
 cl:Str
 nm:Str
 qn:Str
 N:List Str
 k:Nat
 i:Nat
 j:Nat
 m:aS
def RF.d(tp:Nat->Stmt)(r:RF):nP:=⟨r.nm,r.nm,r.N,r.N.take r.k,tp r.i⟩
def RM.d(mt:Nat->Nat->Stmt)(r:RM):nP:=⟨r.nm,r.qn,r.N,r.N.take r.k,mt r.i r.j⟩
def rO(F:List RF)(M:List RM)(i:Nat):Option aS:=match F.find? λr=>Nat.beq r.id i with
 |some r=>some r.m
 |none=>(M.find? λr=>Nat.beq r.id i).map (·.m)
section
variable(tp:Nat->Stmt)(mt:Nat->Nat->Stmt)(K:PySem.W.Frag)
def PF:List RF->Prop
 |[]=>True
 |r::l=>(∃f fd,PySem.W.nsIn K mainGlobals r.nm=some (some (.ref f))/\oW K r.nm r.nm (tp r.i) f fd)/\PF l
def PM:List RM->Prop
 |[]=>True
 |r::l=>(∃C f fd,PySem.W.nsIn K mainGlobals r.cl=some (some (.ref C))/\Meth K C r.nm f/\oW K r.nm r.qn (mt r.i r.j) f fd)/\PM l
def PC:List (Str×Nat)->Prop
 |[]=>True
 |r::l=>(∃C,PySem.W.nsIn K mainGlobals r.1=some (some (.ref C))/\jt K C/\PySem.W.makesIn K C=true/\PySem.W.keepIn K (.ref C)=true)/\PC l
def PA:List (Str×Str)->Prop
 |[]=>True
 |r::l=>(∃C,PySem.W.nsIn K mainGlobals r.2=some (some (.ref C))/\PySem.W.findIn K (.ref C) r.1=some none)/\PA l
def PB:List Str->Prop
 |[]=>True
 |r::l=>PySem.W.nsIn K mainGlobals r=some none/\PB l
def PX:List Str->Prop
 |[]=>True
 |r::l=>(∃C,PySem.W.nsIn K mainGlobals r=some (some (.ref C))/\PySem.W.excIn K C [.type "ValueError",.type "Exception",.type "BaseException",.type "object"] "ValueError.__new__"=true)/\PX l
def BF:List RF->Prop
 |[]=>True
 |r::l=>(∀(kV doc pm:Value) (an:Option Addr) (fe ct:Value) (us:List Value),us.length=(r.N.take r.k).length->bindArgs (PySem.W.fnOf r.nm r.nm (A5 (tp r.i)) (n5 (tp r.i)) (m9 (tp r.i)) .none kV doc pm an fe ct) ⟨us,[]⟩=pure ((r.N.take r.k).zip us))/\BF l
def BM:List RM->Prop
 |[]=>True
 |r::l=>(∀(kV doc pm:Value) (an:Option Addr) (fe ct:Value) (us:List Value),us.length=(r.N.take r.k).length->bindArgs (PySem.W.fnOf r.nm r.qn (A5 (mt r.i r.j)) (n5 (mt r.i r.j)) (m9 (mt r.i r.j)) .none kV doc pm an fe ct) ⟨us,[]⟩=pure ((r.N.take r.k).zip us))/\BM l
def YF(c:f7):List RF->Prop
 |[]=>True
 |r::l=>u4 (comp 60) (c.at (r.d tp)) (n5 (tp r.i))=some r.m.body/\YF c l
def YM(c:f7):List RM->Prop
 |[]=>True
 |r::l=>u4 (comp 60) (c.at (r.d mt)) (n5 (mt r.i r.j))=some r.m.body/\YM c l
end
section
variable{tp:Nat->Stmt}{mt:Nat->Nat->Stmt}{K:PySem.W.Frag}{c:f7}{id k i j:Nat}{cl nm qn x:Str}{N:List Str}{m:aS}{f C:Addr}{oc kV doc pm fe ct:Value}{od an:Option Addr}{lr:Array (Option Value)}
theorem PF.nil:PF tp K []:=trivial
theorem PF.cons{l:List RF}(a:PySem.W.nsIn K mainGlobals nm=some (some (.ref f)))(lk:K.lookup f=some ⟨oc,od,.func (PySem.W.fnOf nm nm (A5 (tp i)) (n5 (tp i)) (m9 (tp i)) .none kV doc pm an fe ct),lr⟩)(cd:PySem.W.codeIn K fe nm=true)(kp:PySem.W.keepIn K (.ref f)=true)(h:PF tp K l):PF tp K (⟨id,nm,N,k,i,m⟩::l):=⟨⟨f,_,a,Hh lk cd kp⟩,h⟩
theorem PM.nil:PM mt K []:=trivial
theorem PM.cons{l:List RM}(c0:PySem.W.nsIn K mainGlobals cl=some (some (.ref C)))(a:PySem.W.findIn K (.ref C) nm=some (some (.ref f)))(af:PySem.W.isFn K (.ref f)=true)(lk:K.lookup f=some ⟨oc,od,.func (PySem.W.fnOf nm qn (A5 (mt i j)) (n5 (mt i j)) (m9 (mt i j)) .none kV doc pm an fe ct),lr⟩)(cd:PySem.W.codeIn K fe qn=true)(kp:PySem.W.keepIn K (.ref f)=true)(h:PM mt K l):PM mt K (⟨id,cl,nm,qn,N,k,i,j,m⟩::l):=⟨⟨C,f,_,c0,⟨a,af,kp⟩,Hh lk cd kp⟩,h⟩
theorem PC.nil:PC K []:=trivial
theorem PC.cons{l:List (Str×Nat)}(cn:PySem.W.nsIn K mainGlobals x=some (some (.ref C)))(cp:PySem.W.plainGet K C Str.empty=true)(MY:PySem.W.hasDictIn K C=true)(MV:PySem.W.plainOver K C=true)(MU:PySem.W.findIn K (.ref C) "__setattr__"=some (some (.builtin "object.__setattr__")))(MW:PySem.W.makesIn K C=true)(MX:PySem.W.keepIn K (.ref C)=true)(h:PC K l):PC K ((x,i)::l):=⟨⟨C,cn,⟨cp,MY,MV,MU⟩,MW,MX⟩,h⟩
theorem PA.nil:PA K []:=trivial
theorem PA.cons{l:List (Str×Str)}(cn:PySem.W.nsIn K mainGlobals x=some (some (.ref C)))(fl:PySem.W.findIn K (.ref C) nm=some none)(h:PA K l):PA K ((nm,x)::l):=⟨⟨C,cn,fl⟩,h⟩
theorem PB.nil:PB K []:=trivial
theorem PB.cons{l:List Str}(cn:PySem.W.nsIn K mainGlobals x=some none)(h:PB K l):PB K (x::l):=⟨cn,h⟩
theorem PX.nil:PX K []:=trivial
theorem PX.cons{l:List Str}(cn:PySem.W.nsIn K mainGlobals x=some (some (.ref C)))(q:PySem.W.excIn K C [.type "ValueError",.type "Exception",.type "BaseException",.type "object"] "ValueError.__new__"=true)(h:PX K l):PX K (x::l):=⟨⟨C,cn,q⟩,h⟩
theorem CT{P:List Value->Prop}{n:Nat}(h:∀a vs,vs.length=n->P (a::vs))(us:List Value)(hl:us.length=n+1):P us:=by
 cases us with
 |nil=>cases hl
 |cons a vs=>exact h a vs (Nat.succ.inj hl)
theorem CS{P:List Value->Prop}(h:P [])(us:List Value)(hl:us.length=0):P us:=by
 cases qJ.mp hl;exact h
theorem BF.nil:BF tp []:=trivial
theorem BF.cons{l:List RF}(h:∀(kV doc pm:Value) (an:Option Addr) (fe ct:Value) (us:List Value),us.length=(N.take k).length->bindArgs (PySem.W.fnOf nm nm (A5 (tp i)) (n5 (tp i)) (m9 (tp i)) .none kV doc pm an fe ct) ⟨us,[]⟩=pure ((N.take k).zip us))(h2:BF tp l):BF tp (⟨id,nm,N,k,i,m⟩::l):=⟨h,h2⟩
theorem BM.nil:BM mt []:=trivial
theorem BM.cons{l:List RM}(h:∀(kV doc pm:Value) (an:Option Addr) (fe ct:Value) (us:List Value),us.length=(N.take k).length->bindArgs (PySem.W.fnOf nm qn (A5 (mt i j)) (n5 (mt i j)) (m9 (mt i j)) .none kV doc pm an fe ct) ⟨us,[]⟩=pure ((N.take k).zip us))(h2:BM mt l):BM mt (⟨id,cl,nm,qn,N,k,i,j,m⟩::l):=⟨h,h2⟩
theorem YF.nil:YF tp c []:=trivial
theorem YF.cons{l:List RF}(h:u4 (comp 60) (c.at ⟨nm,nm,N,N.take k,tp i⟩) (n5 (tp i))=some m.body)(h2:YF tp c l):YF tp c (⟨id,nm,N,k,i,m⟩::l):=⟨h,h2⟩
theorem YM.nil:YM mt c []:=trivial
theorem YM.cons{l:List RM}(h:u4 (comp 60) (c.at ⟨nm,qn,N,N.take k,mt i j⟩) (n5 (mt i j))=some m.body)(h2:YM mt c l):YM mt c (⟨id,cl,nm,qn,N,k,i,j,m⟩::l):=⟨h,h2⟩
theorem YF.get:∀{l:List RF},YF tp c l->∀r∈l,u4 (comp 60) (c.at (r.d tp)) (n5 (tp r.i))=some r.m.body
 |_::_,h,r,hr=>(aG.mp hr).elim (λz=>z▸h.1) (YF.get h.2 r)
theorem YM.get:∀{l:List RM},YM mt c l->∀r∈l,u4 (comp 60) (c.at (r.d mt)) (n5 (mt r.i r.j))=some r.m.body
 |_::_,h,r,hr=>(aG.mp hr).elim (λz=>z▸h.1) (YM.get h.2 r)
theorem PF.get:∀{l:List RF},PF tp K l->∀r∈l,∃f fd,PySem.W.nsIn K mainGlobals r.nm=some (some (.ref f))/\oW K r.nm r.nm (tp r.i) f fd
 |_::_,h,r,hr=>(aG.mp hr).elim (λz=>z▸h.1) (PF.get h.2 r)
theorem PM.get:∀{l:List RM},PM mt K l->∀r∈l,∃C f fd,PySem.W.nsIn K mainGlobals r.cl=some (some (.ref C))/\Meth K C r.nm f/\oW K r.nm r.qn (mt r.i r.j) f fd
 |_::_,h,r,hr=>(aG.mp hr).elim (λz=>z▸h.1) (PM.get h.2 r)
theorem PC.get:∀{l:List (Str×Nat)},PC K l->∀r∈l,∃C,PySem.W.nsIn K mainGlobals r.1=some (some (.ref C))/\jt K C/\PySem.W.makesIn K C=true/\PySem.W.keepIn K (.ref C)=true
 |_::_,h,r,hr=>(aG.mp hr).elim (λz=>z▸h.1) (PC.get h.2 r)
theorem PA.get:∀{l:List (Str×Str)},PA K l->∀r∈l,∃C,PySem.W.nsIn K mainGlobals r.2=some (some (.ref C))/\PySem.W.findIn K (.ref C) r.1=some none
 |_::_,h,r,hr=>(aG.mp hr).elim (λz=>z▸h.1) (PA.get h.2 r)
theorem PB.get:∀{l:List Str},PB K l->∀r∈l,PySem.W.nsIn K mainGlobals r=some none
 |_::_,h,r,hr=>(aG.mp hr).elim (λz=>z▸h.1) (PB.get h.2 r)
theorem PX.get:∀{l:List Str},PX K l->∀r∈l,∃C,PySem.W.nsIn K mainGlobals r=some (some (.ref C))/\PySem.W.excIn K C [.type "ValueError",.type "Exception",.type "BaseException",.type "object"] "ValueError.__new__"=true
 |_::_,h,r,hr=>(aG.mp hr).elim (λz=>z▸h.1) (PX.get h.2 r)
theorem BF.get:∀{l:List RF},BF tp l->∀r∈l,∀(kV doc pm:Value) (an:Option Addr) (fe ct:Value) (us:List Value),us.length=(r.N.take r.k).length->bindArgs (PySem.W.fnOf r.nm r.nm (A5 (tp r.i)) (n5 (tp r.i)) (m9 (tp r.i)) .none kV doc pm an fe ct) ⟨us,[]⟩=pure ((r.N.take r.k).zip us)
 |_::_,h,r,hr=>(aG.mp hr).elim (λz=>z▸h.1) (BF.get h.2 r)
theorem BM.get:∀{l:List RM},BM mt l->∀r∈l,∀(kV doc pm:Value) (an:Option Addr) (fe ct:Value) (us:List Value),us.length=(r.N.take r.k).length->bindArgs (PySem.W.fnOf r.nm r.qn (A5 (mt r.i r.j)) (n5 (mt r.i r.j)) (m9 (mt r.i r.j)) .none kV doc pm an fe ct) ⟨us,[]⟩=pure ((r.N.take r.k).zip us)
 |_::_,h,r,hr=>(aG.mp hr).elim (λz=>z▸h.1) (BM.get h.2 r)
end
def vV(N P:List Str)(sc:Scope):Bool:=decide (sc.kind=.function)&&!sc.isCoroutine&&!sc.isGenerator&&decide N.Nodup&&decide (N.take P.length=P)&&P.all (λx=>decide (sc.names.lookup x=some .local)||decide (sc.names.lookup x=some .cell))&&sc.names.all λy=>decide (y.2≠.free)
theorem Hs{N P:List Str}{sc:Scope}(h:vV N P sc=true):hV N P sc:=by
 unfold vV at h;simp only[Bool.and_eq_true,decide_eq_true_eq,Bool.not_eq_true',List.all_eq_true,Bool.or_eq_true] at h;obtain⟨⟨⟨⟨⟨⟨h1,h2⟩,h3⟩,h4⟩,h5⟩,h6⟩,h7⟩:=h;exact⟨h1,h2,h3,h4,h5,h6,h7⟩
theorem Xg{K:PySem.W.Frag}{h₀:Heap}{mg:Str->Option Value}{x:Str}{C:Addr}{Fh:List Value}{newId:String}(X:K.In h₀)(G:h₀.Ns mainGlobals mg)(e:PySem.W.nsIn K mainGlobals x=some (some (.ref C)))(q:PySem.W.excIn K C Fh newId=true):PyProof.Rows.OwnCls x C Fh newId mg h₀:=by
 refine⟨bL X G e,?_⟩;unfold PySem.W.excIn at q;split at q
 ·rename_i dd cd sl ho;split at q
  ·rename_i C' bm k0 k1 k2 k3 n k5 hm hs;simp only[Bool.and_eq_true,beq_iff_eq,Bool.not_eq_true'] at q;obtain⟨⟨⟨⟨⟨z1,z2⟩,ue⟩,ht⟩,bC⟩,wo⟩:=q;subst z1;subst z2;obtain⟨nm,bs,mro,ns,qn,hd,sn,sub,ab,col,del⟩:=cd;dsimp only at hm ue bC wo;subst hm ue;have ot:sl=#[k0,k1,k2,k3,some (.builtin n),k5]:=by
    obtain⟨l⟩:=sl;simp only at hs;rw[hs]
   subst ot;exact⟨bm,ns,nm,qn,bs,hd,sn,sub,ab,col,dd,k0,k1,k2,k3,k5,_,X _ _ ho,.of_isNs (PySem.W.isNs_of_in X bC),PySem.W.nsMap_none_of_in X bC wo,PySem.W.tail_of_in X ht⟩
  ·cases q
 ·cases q
def P7(K:PySem.W.Frag)(x:Str):Addr:=match PySem.W.nsIn K mainGlobals x with
 |some (some (.ref C))=>C
 |_=>0
def HI(K:PySem.W.Frag)(exc:List Str):Bool:=exc.all λx=>exc.all λy=>decide (PySem.W.exmOne K (.ref (P7 K x)) (.ref (P7 K y))=some (decide (x=y\/y="MintError")))
theorem Oc{K:PySem.W.Frag}{exc:List Str}(h:HI K exc=true){x y:Str}{C C':Addr}(hx:exc.contains x=true)(hy:exc.contains y=true)(hC:o8 K x C)(zI:o8 K y C'):PySem.W.exmOne K (.ref C) (.ref C')=some (decide (x=y\/y="MintError")):=by
 have h1:=cj.mp h x (by simpa using hx);have h2:=ba (cj.mp h1 y (by simpa using hy));have e1:P7 K x=C:=by unfold P7;rw[show PySem.W.nsIn K mainGlobals x=_ from hC]
 have e2:P7 K y=C':=by unfold P7;rw[show PySem.W.nsIn K mainGlobals y=_ from zI]
 rw[e1,e2] at h2;exact h2
theorem AQ{α:Type}{f:α->Nat}:∀{l:List α},(l.map f).Nodup->∀r∈l,l.find? (λx=>Nat.beq (f x) (f r))=some r
 |y::l,nd,r,hr=>by
  rw[aW,dO] at nd;rcases aG.mp hr with rfl|hr
  ·rw[List.find?_cons_of_pos];exact Nat.beq_refl _
  ·rw[List.find?_cons_of_neg]
   ·exact AQ nd.2 r hr
   ·intro z;exact nd.1 (aR.mpr ⟨r,hr,(ia z).symm⟩)
theorem QQ{α β:Type}{f:α->Nat}{g:β->Nat}{l:List α}{r:β}(h:g r∉l.map f):l.find? (λx=>Nat.beq (f x) (g r))=none:=by
 rw[jy];intro x hx z;exact h (aR.mpr ⟨x,hx,ia z⟩)
section
variable{w:World}{K:PySem.W.Frag}{h₀:Heap}{mg:Str->Option Value}{c:f7}{F:List RF}{M:List RM}{tp:Nat->Stmt}{mt:Nat->Nat->Stmt}
structure kA(K:PySem.W.Frag)(c:f7)(F:List RF)(M:List RM)(tp:Nat->Stmt)(mt:Nat->Nat->Stmt):Prop where
 qF:PF tp K F
 qM:PM mt K M
 qC:PC K c.cls
 qA:PA K c.mV
 qB:PB K c.blt
 qX:PX K c.exc
 xm:HI K c.exc=true
structure kz(c:f7)(F:List RF)(M:List RM)(tp:Nat->Stmt)(mt:Nat->Nat->Stmt):Prop where
 cf:c.fns=F.map λr=>(r.nm,r.id)
 cm:c.oi=M.map λr=>(r.nm,r.cl,r.id)
 ci:c.cls.all (λy=>M.any λr=>decide (r.cl=y.1)&&decide (r.nm="__init__")&&Nat.beq r.id y.2)=true
 nd:(F.map (·.id)++M.map (·.id)).Nodup
 sF:F.all (λr=>vV r.N (r.N.take r.k) (m9 (tp r.i))&&decide (r.m.ar=(r.N.take r.k).length)&&decide (r.m.n=r.N.length))=true
 sM:M.all (λr=>vV r.N (r.N.take r.k) (m9 (mt r.i r.j))&&decide (r.m.ar=(r.N.take r.k).length)&&decide (r.m.n=r.N.length))=true
 oF:YF tp c F
 oM:YM mt c M
 bF:BF tp F
 bM:BM mt M
theorem Ic(I:kA K c F M tp mt)(X:kz c F M tp mt)(r:RF)(hr:r∈F):∃f fd,jb K c (r.d tp) r.m f fd/\PySem.W.nsIn K mainGlobals r.nm=some (some (.ref f))/\rO F M r.id=some r.m:=by
 obtain⟨f,fd,a,q⟩:=I.qF.get r hr;have s:=cj.mp X.sF r hr;simp only[Bool.and_eq_true,decide_eq_true_eq] at s;have o:=X.oF.get r hr;refine⟨f,fd,⟨q,q.binds (X.bF.get r hr),Hs s.1.1,o,s.1.2,s.2⟩,a,?_⟩;unfold rO;rw[AQ (f:=(·.id)) (dj.mp X.nd).1 r hr]
theorem Ie(I:kA K c F M tp mt)(X:kz c F M tp mt)(r:RM)(hr:r∈M):∃C f fd,jb K c (r.d mt) r.m f fd/\PySem.W.nsIn K mainGlobals r.cl=some (some (.ref C))/\Meth K C r.nm f/\rO F M r.id=some r.m:=by
 obtain⟨C,f,fd,a,q1,q⟩:=I.qM.get r hr;have s:=cj.mp X.sM r hr;simp only[Bool.and_eq_true,decide_eq_true_eq] at s;have o:=X.oM.get r hr;refine⟨C,f,fd,⟨q,q.binds (X.bM.get r hr),Hs s.1.1,o,s.1.2,s.2⟩,a,q1,?_⟩;have nd:=dj.mp X.nd;unfold rO;rw[QQ (f:=λr:RF=>r.id) (g:=λr:RM=>r.id) (r:=r) (λz=>nd.2.2 _ z _ (aR.mpr ⟨r,hr,rfl⟩) rfl),AQ (f:=λr:RM=>r.id) nd.2.1 r hr]
 rfl
theorem Qv(I:kA K c F M tp mt)(Y:kz c F M tp mt)(X:K.In h₀)(G:h₀.Ns mainGlobals mg)(con:∀x d,c.con.lookup x=some d->∃v u,mg x=some u/\RelV v u/\∀ρ H,d7 K ρ H d v)(qh:∀x kvs,c.gd.lookup x=some kvs->∃A vs,mg x=some (.ref A)/\uZ K w.params A vs/\oR K kvs vs):mI w K mg c (rO F M):=by
 refine⟨λx i hx=>?_,λx i hx=>?_,λx y i C hx hC=>?_,λf y C hx hC=>?_,con,λx hx=>?_,λx hx=>?_,λx y C C' hx hy hC zI=>Oc I.xm hx hy hC zI,qh⟩
 ·have hm:=aL hx;rw[Y.cf] at hm;obtain⟨r,hr,e⟩:=aR.mp hm;cases e;obtain⟨f,fd,O,a,t⟩:=Ic I Y r hr;exact⟨_,_,f,fd,t,O,bL X G a⟩
 ·have hm:=aL hx;have h1:=cj.mp Y.ci _ hm;obtain⟨r,hr,e⟩:=cA.mp h1;simp only[Bool.and_eq_true,decide_eq_true_eq] at e;obtain⟨⟨e1,e2⟩,e3⟩:=e;have e3:=ia e3;obtain⟨C,f,fd,O,a,q,t⟩:=Ie I Y r hr;obtain⟨C',a',hc,mk,kp⟩:=I.qC.get _ hm;rw[e1] at a;cases a.symm.trans a';rw[e2] at q;rw[e3] at t;exact⟨C,_,_,f,fd,t,O,bL X G a,a,hc,⟨mk,q.at_,q.fn,kp⟩⟩
 ·rw[Y.cm] at hx;obtain⟨r,hr,e⟩:=aR.mp hx;cases e;obtain⟨C',f,fd,O,a,q,t⟩:=Ie I Y r hr;cases a.symm.trans hC;exact⟨_,_,f,fd,t,O,q⟩
 ·obtain⟨C',a,q⟩:=I.qA.get _ hx;cases a.symm.trans hC;exact q
 ·exact PySem.W.mg_none_of X G (I.qB.get x (by simpa using hx))
 ·obtain⟨C,a,q⟩:=I.qX.get x (by simpa using hx);exact⟨_,bL X G a,a,λbase lR uz=>⟨_,_,_,_,Xg lR uz a q,PySem.F.excBase_ValueError⟩⟩
end
end M

namespace M
open PySem L2
set_option hygiene false
local macro_rules|`(tactic|walk_at"w1")=>`(tactic|with_reducible first|refine P9 ?_|refine vk ?_|refine vm ?_|refine NN ?_|refine QB ?_|refine NQ ?_|refine Il ?_|refine QF ?_|refine Ji ?_|refine N4 ?_|refine yo ?_|(refine w_var (d:=?_) ?_ ?_;rotate_left;·with_unfolding_all rfl)|refine w_lit ?_|refine xZ ?_|refine Fo ?_|refine Us ?_|refine QE ?_|refine Ss ?_|refine w_and ?_|refine w_or ?_|refine w_not ?_|refine w_ite ?_|refine AD ?_|refine QC ?_|refine vQ ?_|refine BW ?_|refine vw ?_|refine QG ?_|refine NO ?_|refine QH ?_|refine BX ?_|refine Jj ?_|refine Uu ?_|refine Uv ?_|refine NM ?_|refine SO ?_|refine SN ?_|refine SM ?_|refine SK ?_|refine UA ?_|refine UH ?_|refine ER ?_|refine EH ?_|refine UB ?_|refine UE ?_|refine EK ?_|refine EL ?_|refine EJ ?_|refine EI ?_|refine UG ?_|refine Cq ?_|refine UC ?_|refine EO ?_|refine EM ?_|refine EN ?_|refine IH ?_|refine xY ?_|refine AL ?_|refine Oi ?_|refine lU ?_|refine qt ?_|refine EZ ?_|refine Tb ?_|refine Dz ?_|refine yz ?_|refine yx ?_|refine yy ?_|refine Dg ?_|refine Dx ?_|refine CU ?_)
local macro_rules|`(tactic|walk_at"w2")=>`(tactic|repeat(with_reducible first|walk_at "w1"|refine BN (by simp) ?_|refine BL (by simp) ?_|refine q9 (a8 (by assumption)) (by with_unfolding_all rfl) ?_|refine T6 (a8 (by assumption)) ?_|refine wV (by unfold V2;decide) ?_))
local macro_rules|`(tactic|walk_at"w3")=>`(tactic|repeat(with_reducible first|walk_at "w1"|refine BN (by simp) ?_|refine BL (by simp) ?_|refine q9 (a8 (by assumption)) (by with_unfolding_all rfl) ?_|refine T6 (a8 (by assumption)) ?_|refine wV (by unfold V2;decide) ?_|refine And.intro (show List.length _ <= 1000 from by simp) ?_|refine A8 (by with_unfolding_all rfl) ?_|refine o6 ?_|refine B9 (by with_unfolding_all rfl) ?_))
local macro_rules|`(tactic|walk_at"")=>`(tactic|repeat(with_reducible first|walk_at "w1"|refine Su ?_|refine NP ?_|refine QD ?_|refine UI ?_|refine NG ?_|refine CV ?_|refine max2 ?_|refine min2 ?_|refine US ?_|refine Z9 ?_|refine My ?_|refine Er ?_|refine BN (by simp) ?_|refine BL (by simp) ?_|refine q9 (a8 (by assumption)) (by with_unfolding_all rfl) ?_|refine T6 (a8 (by assumption)) ?_|refine wV (by unfold V2;decide) ?_|refine And.intro (show List.length _ <= 1000 from by simp) ?_|refine A8 (by with_unfolding_all rfl) ?_|refine o6 ?_|refine B9 (by with_unfolding_all rfl) ?_|refine And.intro (vq (by assumption)) ?_|refine And.intro (OG (by assumption)) ?_|refine And.intro (Tj (by assumption)) ?_|refine P4 (by decide) ?_|refine NT (by decide) (by decide) ?_|refine yN ?_))
set_option hygiene true
abbrev dU(a:ME):ME:=.cons a .nil
abbrev cE(a b:ME):ME:=.cons a (.cons b .nil)
abbrev fy(a b c:ME):ME:=.cons a (.cons b (.cons c .nil))
abbrev qK(a b c d:ME):ME:=.cons a (.cons b (.cons c (.cons d .nil)))
abbrev vN(a b c d e:ME):ME:=.cons a (.cons b (.cons c (.cons d (.cons e .nil))))
abbrev wG(a b c d e f:ME):ME:=.cons a (.cons b (.cons c (.cons d (.cons e (.cons f .nil)))))
abbrev zU(a b c d e f g:ME):ME:=.cons a (.cons b (.cons c (.cons d (.cons e (.cons f (.cons g .nil))))))
abbrev dc(o:PySem.CmpOp)(a b:ME):ME:=.fk (.prim (.cmp o) (.cons a (.cons b .nil)))
abbrev cU(a b:ME):ME:=.prim .ix (.cons a (.cons b .nil))
abbrev aU(a:Int):ME:=.lit (.int a)
abbrev dH(a:PySem.Str):ME:=.lit (.str a)
abbrev dk(p:Pr)(a:ME):ME:=.prim p (.cons a .nil)
abbrev bT(p:Pr)(a b:ME):ME:=.prim p (.cons a (.cons b .nil))
abbrev aI:ME:=.var 0
abbrev aT:ME:=.var 1
abbrev ko:ME:=.var 10
abbrev tL:ME:=.var 11
abbrev iU:ME:=.var 12
abbrev tK:ME:=.var 13
abbrev oj:ME:=.var 15
abbrev tJ:ME:=.var 16
abbrev bc:ME:=.var 2
abbrev bQ:ME:=.var 3
abbrev cI:ME:=.var 4
abbrev eL:ME:=.var 5
abbrev eh:ME:=.var 6
abbrev gI:ME:=.var 7
abbrev iw:ME:=.var 8
abbrev kM:ME:=.var 9
def B8:aS:=⟨2,5,(.seq (.ifs (.dB (dc .Lt (cU aI (aU 2)) aT) (dc .Lt (cU aI (aU 1)) (dk .len (cU aI (aU 0))))) (.seq (.set 2 (cU (cU aI (aU 0)) (cU aI (aU 1)))) (.seq (.dF aI (aU 1) (bT (.bin .Add) (cU aI (aU 1)) (aU 1))) (.seq (.dF aI (aU 2) (aU 0)) (.seq (.ifs (dc .GtE bc (bT (.bin .Pow) (aU 10) (aU 18))) (.seq (.dF aI (aU 2) bc) .pass) (.seq (.dF aI (aU 3) (bT (.bin .Mod) (bT (.bin .Add) (bT (.bin .Add) (bT (.bin .Mult) (cU aI (aU 3)) (aU 48271)) (bT (.bin .Mult) (bT (.bin .Mod) bc (aU 2147483629)) (aU 69621))) (aU 12345)) (aU 2147483647))) .pass)) .pass)))) .pass) (.seq (.ifs (dc .GtE (cU aI (aU 2)) aT) (.seq (.set 3 (bT (.bin .Mod) (cU aI (aU 2)) aT)) (.seq (.dF aI (aU 2) (bT (.bin .FloorDiv) (cU aI (aU 2)) aT)) (.seq (.ret bQ) .pass))) .pass) (.seq (.set 4 (cU aI (aU 3))) (.seq (.dF aI (aU 3) (bT (.bin .Mod) (bT (.bin .Add) (bT (.bin .Add) (bT (.bin .Mult) (bT (.bin .Mod) (bT (.bin .Mult) cI cI) (aU 2147483629)) (aU 5)) (bT (.bin .Mult) cI (aU 16811))) (aU 2531011)) (aU 2147483647))) (.seq (.ret (bT (.bin .Mod) (bT (.bin .Add) (bT (.bin .FloorDiv) (cU aI (aU 3)) (aU 59)) (bT (.bin .Mult) (bT (.bin .Mod) (cU aI (aU 3)) (aU 8191)) (aU 31))) aT)) .pass)))))⟩
def rJ:aS:=⟨1,2,(.seq (.set 1 (.call 4 (cE aI (bT (.bin .Pow) (aU 10) (aU 9))))) (.seq (.ifs (dc .Eq (.call 4 (cE aI (aU 2))) (aU 0)) (.seq (.set 1 (bT (.bin .Add) aT (bT (.bin .Pow) (aU 10) (aU 25)))) .pass) .pass) (.seq (.ifs (dc .Eq (.call 4 (cE aI (aU 2))) (aU 0)) (.seq (.ret (bT (.bin .Sub) (dk (.un .USub) (aU 1)) aT)) .pass) .pass) (.seq (.ret aT) .pass))))⟩
structure i0(g:G)(d:Nat):Prop where
 ex:∃(s:Nat) (p b r:Int) (xs:List Int),g[d]?=some (.lst [.ref s,.int p,.int b,.int r])/\g[s]?=some (.lst (xs.map .int))/\s<d/\0<=p/\0<=b/\0<=r/\r<2147483647
structure Gr(d:Nat)(g g':G):Prop where
 len:g.length<=g'.length
 old:∀i,i≠d->i<g.length->g'[i]?=g[i]?
theorem Gr.refl(d:Nat)(g:G):Gr d g g:=⟨av _,λ_ _ _=>rfl⟩
theorem Gr.trans{d:Nat}{g g1 g2:G}(a:Gr d g g1)(b:Gr d g1 g2):Gr d g g2:=⟨aC a.len b.len,λi h1 h2=>(b.old i h1 (ax h2 a.len)).trans (a.old i h1 h2)⟩
theorem Gr.set(d:Nat)(g:G)(o:O):Gr d g (g.set d o):=⟨by simp,λi h1 h2=>aw (bA h1)⟩
theorem Gr.snoc(d:Nat)(g:G)(o:O):Gr d g (g++[o]):=⟨by simp,λi h1 h2=>aF h2⟩
theorem Gr.at{d:Nat}{g g':G}(h:Gr d g g'){i:Nat}{o:O}(hi:i≠d)(e:g[i]?=some o):g'[i]?=some o:=(h.old i hi (ak.mp e).1).trans e
theorem j7{g:G}{i:Nat}{o:O}(h:g[i]?=some o):i<g.length:=(ak.mp h).1
theorem i0.lt{g:G}{d:Nat}(h:i0 g d):d<g.length:=by
 obtain⟨_,_,_,_,_,e,_⟩:=h.ex;exact j7 e
theorem i0.snoc{g:G}{d:Nat}(h:i0 g d)(o:O):i0 (g++[o]) d:=by
 obtain⟨s,p,b,r,xs,e1,e2,q⟩:=h.ex;exact⟨s,p,b,r,xs,by rw[aF (j7 e1)];exact e1,by rw[aF (j7 e2)];exact e2,q⟩
def i5:MS->MS
 |.seq _ b=>b
 |x=>x
theorem Cg{i j:Int}(h1:-(2 ^ 64)<i)(h2:i<2 ^ 64):qp i j:=.inl ⟨h1,h2⟩
theorem W8{i j:Int}(h1:-(2 ^ 64)<j)(h2:j<2 ^ 64):qp i j:=.inr ⟨h1,h2⟩
theorem Xs{P:eO}{d:Nat}{n:Int}{g:G}{Q:KD}{E:KX}{N:Ends}{c2:Option D}(hN:N.rt=Q)(D0:i0 g d)(hn:0<n)(ox:n<1073741824)(h:∀r g',0<=r->r<n->i0 g' d->Gr d g g'->Q (.int r) g'):wpS P (i5 B8.body) N [some (.ref d),some (.int n),c2,none,none] g E:=by
 obtain⟨s,p,b,r,xs,e1,e2,nA,hp,hb,hr,ou⟩:=D0.ex;have dW:=j7 e1;subst hN;dsimp[B8,i5];walk_at "w2";refine if2 (λc=>?_) (λc=>?_)
 ·walk_at "w2";refine P4 hn ?_;walk_at "w2";refine wU ⟨hn,ox⟩ ?_;walk_at "w2";refine S5 e1 (by with_unfolding_all rfl) ?_;walk_at "w2";refine h _ _ (dR _ (by omega)) (cY _ hn) ⟨s,p,b / n,r,xs,?_,?_,nA,hp,Int.ediv_nonneg hb (by omega),hr,ou⟩ (Gr.set d g _)
  ·rw[aO dW];rfl
  ·rw[aw (bB nA)];exact e2
 ·walk_at "w2";have Dh:-(2 ^ 64)<r/\r<2 ^ 64:=⟨by omega,by omega⟩
  refine P2 (Cg Dh.1 Dh.2) ?_;walk_at "w2";refine P4 (by decide) ?_;walk_at "w2";refine P2 (W8 (by decide) (by decide)) ?_;walk_at "w2";refine P2 (W8 (by decide) (by decide)) ?_;walk_at "w2";refine P4 (by decide) ?_;walk_at "w2";refine S5 e1 (by with_unfolding_all rfl) ?_;generalize ly:(r*r % 2147483629*5+r*16811+2531011) % 2147483647=r';have q0:0<=r':=by rw[<- ly];exact dR _ (by decide)
  have q1:r'<2147483647:=by rw[<- ly];exact cY _ (by decide)
  have MO:(g.set d (.lst [.ref s,.int p,.int b,.int r']))[d]?=some (.lst [.ref s,.int p,.int b,.int r']):=aO dW;show wpS P _ _ _ (g.set d (.lst [.ref s,.int p,.int b,.int r'])) E;walk_at "w2";refine wU ⟨by decide,by decide⟩ ?_;walk_at "w2";refine P4 (by decide) ?_;walk_at "w2";refine P2 (W8 (by decide) (by decide)) ?_;walk_at "w2";refine P4 hn ?_;walk_at "w2";refine h _ _ (dR _ (by omega)) (cY _ hn) ⟨s,p,b,r',xs,MO,?_,nA,hp,hb,q0,q1⟩ (Gr.set d g _);rw[aw (bB nA)];exact e2
theorem d8{T:Nat->Option aS}(hT:T 4=some B8){k d:Nat}{n:Int}{g:G}{Q:KD}{E:KX}(D0:i0 g d)(hn:0<n)(ox:n<1073741824)(h:∀r g',0<=r->r<n->i0 g' d->Gr d g g'->Q (.int r) g'):b7 T (k+1) 4 [.ref d,.int n] g Q E:=by
 obtain⟨s,p,b,r,xs,e1,e2,nA,hp,hb,hr,ou⟩:=D0.ex;have dW:=j7 e1;refine call_of hT rfl ?_;have tail:∀(g':G) (c2:Option D),i0 g' d->Gr d g g'->wpS (b7 T k) (i5 B8.body) ⟨λ_ g'=>Q .bx g',Q,λ_ _=>False,λ_ _=>False⟩ [some (.ref d),some (.int n),c2,none,none] g' E :=
  λg' c2 D1 gr=>Xs rfl D1 hn ox λr g2 a b c e=>h r g2 a b c (gr.trans e)
 dsimp[B8,c8,List.replicate];walk_at "w2";refine if2 (λc=>?_) (λc=>?_)
 ·walk_at "w2";refine if2 (λc'=>?_) (λc'=>?_)
  ·walk_at "w2";have ji:p.toNat<xs.length:=by
    rw[ah] at c';omega
   have ea:fE (xs.map D.int) p=some (.int xs[p.toNat]):=by
    have:=F4 (xs:=xs.map D.int) (j:=p.toNat) (v:=.int xs[p.toNat]) (by rw[ao,au ji];rfl)
    rwa [show((p.toNat:Nat):Int)=p by omega] at this
   refine q9 (a8 e2) ea ?_;generalize xs[p.toNat]=cell;walk_at "w2";refine S5 e1 (by with_unfolding_all rfl) ?_;have f1:(g.set d (.lst [.ref s,.int (p+1),.int b,.int r]))[d]?=some (.lst [.ref s,.int (p+1),.int b,.int r]):=aO dW;show wpS (b7 T k) _ _ _ (g.set d (.lst [.ref s,.int (p+1),.int b,.int r])) E;walk_at "w2";refine S5 f1 (by with_unfolding_all rfl) ?_;rw[gQ];have f2:(g.set d (.lst [.ref s,.int (p+1),.int 0,.int r]))[d]?=some (.lst [.ref s,.int (p+1),.int 0,.int r]):=aO dW;show wpS (b7 T k) _ _ _ (g.set d (.lst [.ref s,.int (p+1),.int 0,.int r])) E;walk_at "w2";refine if2 (λc2=>?_) (λc2=>?_)
   ·walk_at "w2";refine S5 f2 (by with_unfolding_all rfl) ?_;rw[gQ];refine tail _ _ ⟨s,p+1,cell,r,xs,aO dW,by rw[aw (bB nA)];exact e2,nA,by omega,?_,hr,ou⟩ (Gr.set d g _);have:(10:Int) ^ (18:Int).toNat<=cell:=c2;have Em:(0:Int)<=10 ^ (18:Int).toNat:=by decide
    omega
   ·walk_at "w2";refine P2 (W8 (by decide) (by decide)) ?_;walk_at "w2";refine P4 (by decide) ?_;walk_at "w2";refine P2 (W8 (by decide) (by decide)) ?_;walk_at "w2";refine P4 (by decide) ?_;walk_at "w2";refine S5 f2 (by with_unfolding_all rfl) ?_;rw[gQ];exact tail _ _ ⟨s,p+1,0,_,xs,aO dW,by rw[aw (bB nA)];exact e2,nA,by omega,by decide,dR _ (by decide),cY _ (by decide)⟩ (Gr.set d g _)
  ·walk_at "w1";exact tail _ _ D0 (Gr.refl _ _)
 ·walk_at "w1";walk_at "w1";exact tail _ _ D0 (Gr.refl _ _)
theorem Od{T:Nat->Option aS}(hT:T 4=some B8)(LL:T 5=some rJ){k d:Nat}{g:G}{Q:KD}{E:KX}(D0:i0 g d)(h:∀r g',i0 g' d->Gr d g g'->Q (.int r) g'):b7 T (k+2) 5 [.ref d] g Q E:=by
 refine call_of LL rfl ?_;dsimp[rJ,c8,List.replicate];walk_at "w2";refine d8 hT D0 (by decide) (by decide) λr1 g1 _ _ D1 G1=>?_;walk_at "w2";refine d8 hT D1 (by decide) (by decide) λr2 g2 _ _ D2 G2=>?_;walk_at "w2";have Jo:=G1.trans G2;have last:∀(x:Int),wpS (b7 T (k+1)) (i5 (i5 rJ.body)) ⟨λ_ g'=>Q .bx g',Q,λ_ _=>False,λ_ _=>False⟩ [some (.ref d),some (.int x)] g2 E:=λx=>by
  dsimp[rJ,i5];walk_at "w2";refine d8 hT D2 (by decide) (by decide) λr3 g3 _ _ D3 G3=>?_;walk_at "w2";refine if2 (λc=>?_) (λc=>?_)
  ·walk_at "w2";exact h _ _ D3 (Jo.trans G3)
  ·walk_at "w2";exact h _ _ D3 (Jo.trans G3)
 refine if2 (λc=>?_) (λc=>?_)
 ·refine P9 ?_;refine vm ?_;refine xZ ?_;walk_at "w1";refine xZ ?_;walk_at "w1";walk_at "w1";refine wV (by unfold V2;decide) ?_;walk_at "w1";exact last _
 ·exact last _
def Bp:aS:=⟨1,1,(.seq (.ret (.dB (bT .isin aI (.lit (.ty "int"))) (.dY (bT .isin aI (.lit (.ty "bool")))))) .pass)⟩
def U2:aS:=⟨3,3,(.seq (.ret (.dB (.call 38 (dU aI)) (.chain .LtE .LtE aT aI bc))) .pass)⟩
structure NF(T:Nat->Option aS):Prop where
 nf:T 1=some U2
 is:T 38=some Bp
def F1:aS:=⟨1,3,(.seq (.set 1 (aU 0)) (.seq (.cS (.one 2) (.fA aI) (.seq (.ifs (.dY (.fk (.call 1 (fy bc aT (aU 7))))) (.seq (.ret (.lit (.bl false))) .pass) .pass) (.seq (.set 1 (bT (.bin .Add) bc (aU 1))) .pass))) (.seq (.ret (.lit (.bl true))) .pass)))⟩
def xa:aS:=⟨1,1,(.seq (.ret (.prim .lst (qK (dk .list (bT (.lL false true) aI (aU 63))) (aU 0) (aU 0) (aU 29)))) .pass)⟩
theorem N9{g:G}{n:Nat}:∀ms:List Int,(ms.map D.int).mapM (rd g n)=some (ms.map PyData.int)
 |[]=>rfl
 |m::r=>by
  rw[aW,List.mapM_cons,N9 r];cases n<;>rfl
theorem lay_ints:∀ms:List Int,PyData.canLayAll0 (ms.map PyData.int)=true
 |[]=>by simp[PyData.canLayAll0]
 |m::r=>by simp[PyData.canLayAll0,PyData.canLay0,lay_ints r]
theorem GI:∀ms ns:List Int,PyData.eqvAll (ms.map PyData.int) (ns.map PyData.int)=decide (ms=ns)
 |[],[]=>by simp[PyData.eqvAll]
 |[],_::_=>by simp[PyData.eqvAll]
 |_::_,[]=>by simp[PyData.eqvAll]
 |m::r,n::q=>by
  simp only[List.map_cons,PyData.eqvAll,PyData.eqv,GI r q];by_cases h:m=n
  ·subst h;simp
  ·simp[h]
theorem FR{g:G}{ms:List Int}{i:Int}{k:Bool->Prop}(h:k (ms.any λm=>m==i)):om g (.int i) (.tup (ms.map .int)) k:=by
 refine⟨_,.inr ⟨_,_,_,rfl,N9 ms,rfl,lay_ints ms,by simp[PyData.canLay0],rfl⟩,?_⟩;rw[List.any_map];exact h
theorem WM{g:G}{a b:Nat}{ms ns:List Int}{k:Bool->Prop}(ha:d0 g a=some (ms.map .int))(hb:d0 g b=some (ns.map .int))(h:k (decide (ms=ns))):uG g (.ref a) (.ref b) k:=by
 refine⟨_,.inr (.inr (.inr ⟨.list (ms.map .int),.list (ns.map .int),?_,?_,?_,?_,rfl⟩)),?_⟩
 ·simp only[rd];rw[ha];dsimp only;rw[N9];rfl
 ·simp only[rd];rw[hb];dsimp only;rw[N9];rfl
 ·simp[PyData.canLay0,lay_ints]
 ·simp[PyData.canLay0,lay_ints]
 ·simp only[PyData.eqv,GI];exact h
section
variable{T:Nat->Option aS}{k d:Nat}{g:G}{Q:KD}{E:KX}
theorem GV(h1:NF T){i:Int}(h:Q (.bl true) g):b7 T (k+1) 38 [.int i] g Q E:=by
 refine call_of h1.is rfl ?_;dsimp[Bp,c8,List.replicate];walk_at "w2";refine DC (c:="int") (b:=true) (by decide) rfl ?_;walk_at "w2";refine DC (c:="bool") (b:=false) (by decide) rfl ?_;walk_at "w2";exact h
theorem x8(h1:NF T){i l m:Int}(h:Q (.bl (decide (l<=i)&&decide (i<=m))) g):b7 T (k+2) 1 [.int i,.int l,.int m] g Q E:=by
 refine call_of h1.nf rfl ?_;dsimp[U2,c8,List.replicate];walk_at "w2";refine GV h1 ?_;walk_at "w2";refine if2 (λc=>?_) (λc=>?_)
 ·rw[aD c] at h;walk_at "w2";exact h
 ·rw[aE c] at h;exact h
def gm:Int->List Int->Bool
 |_,[]=>true
 |l,x::r=>(decide (l<=x)&&decide (x<=7))&&gm (x+1) r
theorem GZ(h1:NF T)(h2:T 2=some F1){ms:List Int}(h:Q (.bl (gm 0 ms)) g):b7 T (k+3) 2 [.tup (ms.map .int)] g Q E:=by
 refine call_of h2 rfl ?_;dsimp[F1,c8,List.replicate];walk_at "w2";refine C9 (a9 T _) (wg (a9 T _) ?_);walk_at "w2";refine⟨_,rfl,_,λi Z g'=>g'=g/\∃(l:Int) (z:Option D),Z=[some (.tup (ms.map .int)),some (.int l),z]/\gm 0 ms=gm l (ms.drop i),λ_ _ _ _=>A3,⟨rfl,0,none,rfl,rfl⟩,λi x Z g' hx p=>?_,λZ g' p=>?_⟩
 ·obtain⟨rfl,l,z,rfl,e⟩:=p;rw[ao] at hx;cases em:ms[i]? with
  |none=>rw[em] at hx;cases hx
  |some m =>
   rw[em] at hx;cases hx;have hi:=(ak.mp em).1;have ed:ms.drop i=m::ms.drop (i+1):=by
    rw[dC hi]
    congr 1
    exact(ak.mp em).2
   rw[ed] at e;simp only[gm] at e;show wpS _ _ _ _ _ _;walk_at "w2";refine x8 h1 ?_;walk_at "w2";cases hc:(decide (l<=m)&&decide (m<=7)) with
   |true =>
    rw[hc,Bool.true_and] at e;show wpS _ _ _ _ _ _;walk_at "w2";exact⟨rfl,m+1,some (.int m),rfl,e⟩
   |false =>
    rw[hc,Bool.false_and] at e;rw[e] at h;show wpS _ _ _ _ _ _;walk_at "w2";exact h
 ·obtain⟨rfl,l,z,rfl,e⟩:=p;rw[sy (by simp)] at e;simp only[gm] at e;rw[e] at h;show wpS _ _ _ _ _ _;walk_at "w2";exact h
theorem Rq(h3:T 3=some xa){a:Nat}{ns:List Int}(hg:g[a]?=some (.nH (ns.map .int)))(h:∀d g',i0 g' d->g.length<=d->(∀i,i<g.length->g'[i]?=g[i]?)->Q (.ref d) g'):b7 T (k+1) 3 [.ref a] g Q E:=by
 refine call_of h3 rfl ?_;dsimp[xa,c8,List.replicate];walk_at "w2";refine Hu (WU hg) ?_;walk_at "w2";refine IV (l:=cut (ns.map D.int) none (some 63)) (a8 (by simp)) ?_;walk_at "w2";have ec:cut (ns.map D.int) none (some 63)=(cut ns none (some 63)).map D.int:=by
  unfold cut;simp[List.map_take,List.map_drop]
 refine h _ _ ⟨g.length+1,0,0,29,cut ns none (some 63),?_,?_,?_,by decide,by decide,by decide,by decide⟩ (by simp) (λi hi=>?_)
 ·simp
 ·rw[<- ec];simp
 ·simp
 ·simp[List.getElem?_append,hi,Nat.lt_of_lt_of_le hi (by omega:g.length<=g.length+1),Nat.lt_of_lt_of_le hi (by omega:g.length<=g.length+1+1)]
end
theorem IT:∀{ms:List Int} {l:Int},ms.Pairwise (· < ·)->(∀m∈ms,l<=m/\m<=7)->gm l ms=true
 |[],_,_,_=>rfl
 |m::r,l,hp,h=>by
  obtain⟨h1,h2⟩:=jw.mp hp;have hm:=h m (by simp);simp only[gm];rw[aD hm.1,aD hm.2,IT h2 λx hx=>⟨by have:=h1 x hx;omega,(h x (by simp[hx])).2⟩]
  rfl
theorem E6{α:Type}{l:List α}{r:Int}(h0:0<=r)(h1:r<l.length):∃v,fE l r=some v/\v∈l:=by
 have hi:r.toNat<l.length:=by omega
 refine⟨l[r.toNat],?_,cQ hi⟩;have:=F4 (xs:=l) (j:=r.toNat) (v:=l[r.toNat]) (au hi)
 rwa [show((r.toNat:Nat):Int)=r by omega] at this
section
variable{T:Nat->Option aS}{k d:Nat}{g:G}{Q:KD}{E:KX}
end
def A6:aS:=⟨1,8,(.seq (.kJ (.many [1,2,3,4,5]) aI) (.seq (.set 6 (.dB (.call 1 (fy aT (aU 1) (aU 99))) (.call 2 (dU bc)))) (.seq (.set 7 (.dB (.call 1 (fy bQ (aU 1) (aU 99))) (.call 2 (dU cI)))) (.seq (.ret (.dB eh (.dB gI (.call 1 (fy eL (aU 0) (aU 9999)))))) .pass))))⟩
structure b0 where
 lo:Int
 lm:List Int
 up:Int
 um:List Int
 yr:Int
def b0.d(c:b0):D:=.tup [.int c.lo,.tup (c.lm.map .int),.int c.up,.tup (c.um.map .int),.int c.yr]
def q8(c:b0):Bool:=((decide (1<=c.lo)&&decide (c.lo<=99))&&gm 0 c.lm)&&(((decide (1<=c.up)&&decide (c.up<=99))&&gm 0 c.um)&&(decide (0<=c.yr)&&decide (c.yr<=9999)))
section
variable{T:Nat->Option aS}{k d:Nat}{g:G}{Q:KD}{E:KX}
theorem Y'(h1:NF T)(h2:T 2=some F1)(rC:T 12=some A6){c:b0}(h:Q (.bl (q8 c)) g):b7 T (k+4) 12 [c.d] g Q E:=by
 refine call_of rC rfl ?_;dsimp[A6,c8,List.replicate,b0.d];walk_at "w3";refine x8 h1 ?_;have s1:∀b:Bool,b=((decide (1<=c.lo)&&decide (c.lo<=99))&&gm 0 c.lm)->wpS (b7 T (k+3)) (i5 (i5 A6.body)) ⟨λ_ g'=>Q .bx g',Q,λ_ _=>False,λ_ _=>False⟩ [some c.d,some (.int c.lo),some (.tup (c.lm.map .int)),some (.int c.up),some (.tup (c.um.map .int)),some (.int c.yr),some (.bl b),none] g E:=by
  intro b hb;dsimp[A6,i5];walk_at "w3";refine x8 h1 ?_;have s2:∀b':Bool,b'=((decide (1<=c.up)&&decide (c.up<=99))&&gm 0 c.um)->wpS (b7 T (k+3)) (i5 (i5 (i5 A6.body))) ⟨λ_ g'=>Q .bx g',Q,λ_ _=>False,λ_ _=>False⟩ [some c.d,some (.int c.lo),some (.tup (c.lm.map .int)),some (.int c.up),some (.tup (c.um.map .int)),some (.int c.yr),some (.bl b),some (.bl b')] g E:=by
   intro b' jS;dsimp[A6,i5];have e:q8 c=(b&&(b'&&(decide (0<=c.yr)&&decide (c.yr<=9999)))):=by unfold q8;rw[hb,jS]
   rw[e] at h;walk_at "w3";cases b
   ·exact qt h
   ·refine lU ?_;walk_at "w3";cases b'
    ·exact qt h
    ·refine lU ?_;walk_at "w3";exact x8 h1 h
  refine AL ?_;cases hc:(decide (1<=c.up)&&decide (c.up<=99)) with
  |false=>exact qt (s2 false (by rw[hc];rfl))
  |true =>
   refine lU ?_;walk_at "w1";walk_at "w1";walk_at "w1";walk_at "w1";exact GZ h1 h2 (s2 _ (by rw[hc];rfl))
 refine AL ?_;cases hc:(decide (1<=c.lo)&&decide (c.lo<=99)) with
 |false=>exact qt (s1 false (by rw[hc];rfl))
 |true =>
  refine lU ?_;walk_at "w1";walk_at "w1";walk_at "w1";walk_at "w1";exact GZ h1 h2 (s1 _ (by rw[hc];rfl))
end
def Q9:aS:=⟨2,5,(.seq (.set 2 (dk .list aT)) (.seq (.set 3 (.prim .lst .nil)) (.seq (.cS (.one 4) (.et (dk .len aT)) (.seq (.expr (.dZ .append bQ (dU (.dZ .pop bc (dU (.call 4 (cE aI (dk .len bc)))))))) .pass)) (.seq (.ret bQ) .pass))))⟩
theorem Gz{α:Type}:∀{l:List α} {j:Nat} (h:j<l.length),(l[j]::l.eraseIdx j).Perm l
 |a::r,0,_=>by simp
 |a::r,j+1,h=>by
  simp only[List.getElem_cons_succ,List.eraseIdx_cons_succ];exact(List.Perm.swap _ _ _).trans ((Gz (l:=r) (j:=j) (by simpa using h)).cons a)
theorem Gr.H9{d x:Nat}{g g':G}{o:O}(h:Gr d g g')(hx:g.length<=x):Gr d g (g'.set x o):=⟨by simp[h.len],λi h1 h2=>by rw[aw (by omega)];exact h.old i h1 h2⟩
theorem i0.H9{g:G}{d x:Nat}{o:O}(h:i0 g d)(hx:d<x):i0 (g.set x o) d:=by
 obtain⟨s,p,b,r,xs,e1,e2,hs,q⟩:=h.ex;exact⟨s,p,b,r,xs,by rw[aw (by omega)];exact e1,by rw[aw (by omega)];exact e2,hs,q⟩
theorem c5{g:G}{o:O}:(g++[o])[g.length]?=some o:=by simp
theorem l6{g:G}{i:Nat}{o o':O}(h:g[i]?=some o):(g++[o'])[i]?=some o:=by rw[aF (j7 h)];exact h
theorem get_set{g:G}{i:Nat}{o o':O}(h:g[i]?=some o):(g.set i o')[i]?=some o':=aO (j7 h)
theorem f6{g:G}{i j:Nat}{o o':O}(h:g[i]?=some o)(hn:j≠i):(g.set j o')[i]?=some o:=by rw[aw hn];exact h
section
variable{T:Nat->Option aS}{k d:Nat}{g:G}{Q:KD}{E:KX}
theorem GN(h4:T 4=some B8)(zJ:T 21=some Q9){a:Nat}{l:List D}(ha:g[a]?=some (.lst l))(hl:l.length<=1000)(hd:a≠d)(D0:i0 g d)(h:∀(l':List D) b g',l'.Perm l->g'[b]?=some (.lst l')->g.length<=b->i0 g' d->Gr d g g'->Q (.ref b) g'):b7 T (k+2) 21 [.ref d,.ref a] g Q E:=by
 refine call_of zJ rfl ?_;dsimp[Q9,c8,List.replicate];walk_at"";refine IV (a8 ha) ?_;walk_at"";have dl:=D0.lt;refine C9 (a9 T _) (qr (a9 T _) ?_);walk_at"";have wB:(g++[O.lst l]++[O.lst []])[a]?=some (.lst l):=l6 (l6 ha);refine T6 (a8 wB) ?_;refine ⟨_,rfl,by omega,by omega,j5 0 l.length,λi Z g'=>∃ left found w,Z=[some (.ref d),some (.ref a),some (.ref g.length),some (.ref (g.length + 1)),w]/\(left ++ found).Perm l/\left.length + i=l.length/\g'[g.length]?=some (.lst left)/\g'[g.length + 1]?=some (.lst found)/\i0 g' d/\Gr d g g',
  λi Z g p=>A3,?_,λi x Z g' hx p=>?_,λZ g' p=>?_⟩
 ·refine⟨l,[],none,?_,by simp,by simp,?_,?_,(D0.snoc _).snoc _,(Gr.snoc _ _ _).trans (Gr.snoc _ _ _)⟩
  ·simp
  ·exact l6 c5
  ·have:=c5 (g:=g++[O.lst l]) (o:=O.lst []);simpa using this
 ·obtain⟨left,found,w,rfl,hp,hn,e1,e2,D1,G1⟩:=p;obtain⟨hi,rfl⟩:=E8 hx;show wpS _ _ _ _ _ _;walk_at"";refine d8 (n:=(left.length:Int)) h4 D1 (by omega) (by omega) λr g2 r0 r1 D2 G2=>?_;have f1:=G2.at (by omega) e1;have f2:=G2.at (by omega) e2;have hr:r.toNat<left.length:=by omega
  walk_at"";refine Ve (j:=r.toNat) f1 (by omega) (au hr) (by omega) ?_;walk_at"";refine T2 (f6 f2 (by omega)) ?_ ?_
  ·have:=hp.length_eq;simp at this;omega
  walk_at"";refine⟨_,_,_,rfl,?_,?_,f6 (get_set f1) (by omega),get_set (f6 f2 (by omega)),(D2.H9 (by omega)).H9 (by omega),((G1.trans G2).H9 (by omega)).H9 (by omega)⟩
  ·refine List.Perm.trans ?_ hp;have:=Gz hr;refine List.Perm.trans ?_ (List.Perm.append_right found this);simp only[List.cons_append];rw[<- fZ];exact(List.perm_append_singleton _ _)
  ·rw[fK hr];omega
 ·obtain⟨left,found,w,rfl,hp,hn,e1,e2,D1,G1⟩:=p;show wpS _ _ _ _ _ _;walk_at"";rw[m8] at hn;have:left=[]:=fb (by omega);subst this;exact h _ _ _ (by simpa using hp) e2 (by omega) D1 G1
end
def Z3:aS:=⟨1,5,(.seq (.set 1 (.prim .lst (zU (.prim .tup .nil) (dk .tup (aU 0)) (bT .tup (aU 0) (aU 1)) (dk .tup (aU 1)) (.prim .tup (fy (aU 0) (aU 1) (aU 2))) (.prim .tup (qK (aU 0) (aU 1) (aU 2) (aU 7))) (dk .tup (aU 2))))) (.seq (.set 2 (cU aT (.call 4 (cE aI (cU (bT .tup (aU 4) (aU 7)) (dk .int (bT (.cmp .Eq) (.call 4 (cE aI (aU 4))) (aU 0)))))))) (.seq (.set 3 (cU aT (.call 4 (cE aI (aU 5))))) (.seq (.set 4 (cU (.prim .lst (wG (aU 0) (aU 0) (aU 1400) (aU 1400) (aU 1401) (aU 1))) (.call 4 (cE aI (aU 6))))) (.seq (.ret (.prim .tup (vN (bT (.bin .Add) (aU 1) (.call 4 (cE aI (aU 3)))) bc (bT (.bin .Add) (aU 1) (.call 4 (cE aI (aU 4)))) bQ cI))) .pass)))))⟩
def F0:aS:=⟨4,4,(.seq (.ifs (.jE (dc .Eq (dk .len aT) (aU 0)) (.dB (dc .Lt (dk .len aT) bQ) (dc .Eq (.call 4 (cE aI (aU 3))) (aU 0)))) (.seq (.expr (.dZ .append aT (dU bc))) (.seq (.ret (bT (.bin .Add) bc (aU 1))) .pass)) .pass) (.seq (.ifs (dc .Eq (.call 4 (cE aI (aU 5))) (aU 0)) (.seq (.dF aT (.call 4 (cE aI (dk .len aT))) bc) (.seq (.ret (bT (.bin .Add) bc (aU 1))) .pass)) .pass) (.seq (.ret bc) .pass)))⟩
structure iS(c:b0):Prop where
 good:q8 c=true
 l8:c.lm.length<=8
 u8:c.um.length<=8
theorem iS.mk'{lo up yr:Int}{lm um:List Int}(h1:1<=lo)(h2:lo<=99)(h3:1<=up)(h4:up<=99)(h5:0<=yr)(h6:yr<=9999)(h7:gm 0 lm=true)(h8:gm 0 um=true)(h9:lm.length<=8)(Em:um.length<=8):iS ⟨lo,lm,up,um,yr⟩:=by
 refine⟨?_,h9,Em⟩;simp only[q8,h7,h8,decide_eq_true h1,decide_eq_true h2,decide_eq_true h3,decide_eq_true h4,decide_eq_true h5,decide_eq_true h6]
 rfl
theorem iS.inv{c:b0}(h:iS c):(1<=c.lo/\c.lo<=99)/\gm 0 c.lm=true/\(1<=c.up/\c.up<=99)/\gm 0 c.um=true/\0<=c.yr/\c.yr<=9999:=by
 have:=h.good;unfold q8 at this;simp only[Bool.and_eq_true,decide_eq_true_eq] at this;obtain⟨⟨⟨a,b⟩,e⟩,⟨⟨c',d⟩,f⟩,p,q⟩:=this;exact⟨⟨a,b⟩,e,⟨c',d⟩,f,p,q⟩
def M4:List (List Int):=[[],[0],[0,1],[1],[0,1,2],[0,1,2,7],[2]]
theorem Rc:∀ms∈M4,gm 0 ms=true/\ms.length<=8:=by decide
theorem HQ{r:Int}(h0:0<=r)(h7:r<7):∃ms,fE (M4.map λms=>D.tup (ms.map .int)) r=some (.tup (ms.map .int))/\gm 0 ms=true/\ms.length<=8:=by
 obtain⟨v,hv,hm⟩:=E6 (l:=M4.map λms=>D.tup (ms.map .int)) h0 (by simpa[M4] using h7);obtain⟨ms,h1,rfl⟩:=aR.mp hm;exact⟨ms,hv,Rc ms h1⟩
section
variable{T:Nat->Option aS}{k d:Nat}{g:G}{Q:KD}{E:KX}
theorem Yz(h4:T 4=some B8)(Mj:T 22=some Z3)(D0:i0 g d)(h:∀c g',iS c->i0 g' d->Gr d g g'->Q c.d g'):b7 T (k+2) 22 [.ref d] g Q E:=by
 refine call_of Mj rfl ?_;dsimp[Z3,c8,List.replicate];have dl:=D0.lt;walk_at"";have D1:=D0.snoc (.lst (M4.map λms=>D.tup (ms.map .int)));have G1:=Gr.snoc d g (.lst (M4.map λms=>D.tup (ms.map .int)));have e1:(g++[O.lst (M4.map λms=>D.tup (ms.map .int))])[g.length]?=some (.lst (M4.map λms=>D.tup (ms.map .int))):=c5;show b7 _ _ _ _ (g++[O.lst (M4.map λms=>D.tup (ms.map .int))]) _ _;generalize g++[O.lst (M4.map λms=>D.tup (ms.map .int))]=g1 at *;refine d8 h4 D1 (by decide) (by decide) λr g2 r0 r1 D2 G2=>?_;walk_at"";have e2:=G2.at (by omega) e1;have hn:∃n:Int,fE [D.int 4,D.int 7] (if decide (r=0)=true then 1 else 0)=some (.int n)/\0<n/\n<=7:=by
  by_cases hr:r=0
  ·exact⟨7,by rw[aD hr];rfl,by decide,by decide⟩
  ·exact⟨4,by rw[aE hr];rfl,by decide,by decide⟩
 obtain⟨n,en,n0,n7⟩:=hn;refine B9 en ?_;walk_at"";refine d8 h4 D2 n0 (by omega) λr3 g3 gT hJ D3 G3=>?_;have e3:=G3.at (by omega) e2;obtain⟨lm,el,gl,ll⟩:=HQ gT (by omega);refine q9 (a8 e3) el ?_;walk_at"";refine d8 h4 D3 (by decide) (by decide) λr4 g4 pD qS D4 G4=>?_;have e4:=G4.at (by omega) e3;obtain⟨um,eu,gu,lu⟩:=HQ pD (by omega);refine q9 (a8 e4) eu ?_;walk_at"";have e5:(g4++[O.lst [.int 0,.int 0,.int 1400,.int 1400,.int 1401,.int 1]])[g4.length]?=some (.lst [.int 0,.int 0,.int 1400,.int 1400,.int 1401,.int 1]):=c5;refine d8 h4 (D4.snoc _) (by decide) (by decide) λr5 g5 kd kc D5 G5=>?_;have e6:=G5.at (by have:=D4.lt;omega) e5;obtain⟨v,hv,hm⟩:=E6 (l:=[D.int 0,.int 0,.int 1400,.int 1400,.int 1401,.int 1]) kd (by simpa using kc);have hy:∃y:Int,v=.int y/\0<=y/\y<=9999:=by
  simp only[List.mem_cons,List.mem_nil_iff,or_false] at hm;rcases hm with rfl|rfl|rfl|rfl|rfl|rfl<;>exact⟨_,rfl,by decide,by decide⟩
 obtain⟨y,rfl,y0,y1⟩:=hy;refine q9 (a8 e6) hv ?_;walk_at"";refine d8 h4 D5 (by decide) (by decide) λr6 g6 Dj Di D6 G6=>?_;walk_at"";refine d8 h4 D6 (by decide) (by decide) λr7 g7 r70 r71 D7 G7=>?_;walk_at"";exact h ⟨1+r6,lm,1+r7,um,y⟩ _ (iS.mk' (by omega) (by omega) (by omega) (by omega) y0 y1 gl gu ll lu) D7 (G1.trans (G2.trans (G3.trans (G4.trans ((Gr.snoc _ _ _).trans (G5.trans (G6.trans G7)))))))
def BA(l:List D)(f:Int):Prop:=∃ns:List Int,l=ns.map .int/\∀n∈ns,1<=n/\n<f
theorem Xw(h4:T 4=some B8)(ur:T 23=some F0){a:Nat}{l:List D}{f v:Int}(ha:g[a]?=some (.lst l))(hl:l.length<1000)(hs:BA l f)(f1:1<=f)(hd:d<a)(D0:i0 g d)(h:∀(l':List D) (f':Int) g',l'≠[]->l'.length<=l.length+1->BA l' f'->f<=f'->f'<=f+1->g'[a]?=some (.lst l')->i0 g' d->(∀i,i≠d->i≠a->i<g.length->g'[i]?=g[i]?)->g.length<=g'.length->Q (.int f') g'):b7 T (k+2) 23 [.ref d,.ref a,.int f,.int v] g Q E:=by
 refine call_of ur rfl ?_;have dl:=D0.lt;obtain⟨ns,rfl,pR⟩:=id hs;have app:∀g':G,g'[a]?=some (.lst (ns.map D.int))->i0 g' d->Gr d g g'->wpS (b7 T (k+1)) (.seq (.expr (.dZ .append (.var 1) (.cons (.var 2) .nil))) (.seq (.ret (.prim (.bin .Add) (.cons (.var 2) (.cons (.lit (.int 1)) .nil)))) .pass)) ⟨λgZ g1=>wpS (b7 T (k+1)) (i5 F0.body) ⟨λ_ g'=>Q .bx g',Q,λ_ _=>False,λ_ _=>False⟩ gZ g1 E,Q,λ_ _=>False,λ_ _=>False⟩ [some (.ref d),some (.ref a),some (.int f),some (.int v)] g' E:=by
  intro g' e D1 G1;walk_at"";refine T2 e (by simp at hl ⊢;omega) ?_;walk_at"";refine h _ _ _ (by simp) (by simp) ⟨ns++[f],by simp,λn hn=>?_⟩ (by omega) (by omega) (get_set e) (D1.H9 hd) (λi h1 h2 h3=>?_) (by simp[G1.len])
  ·rcases bg.mp hn with z|z
   ·have:=pR n z;omega
   ·simp at z;omega
  ·rw[aw (bA h2)];exact G1.old i h1 h3
 have rest:∀g':G,g'[a]?=some (.lst (ns.map D.int))->ns≠[]->i0 g' d->Gr d g g'->wpS (b7 T (k+1)) (i5 F0.body) ⟨λ_ g'=>Q .bx g',Q,λ_ _=>False,λ_ _=>False⟩ [some (.ref d),some (.ref a),some (.int f),some (.int v)] g' E:=by
  intro g' e dw D1 G1;dsimp[F0,i5];walk_at"";refine d8 h4 D1 (by decide) (by decide) λr g2 r0 r1 D2 G2=>?_;have e2:=G2.at (by omega) e;have hlen:0<ns.length:=CN.mpr dw;walk_at"";refine if2 (λc=>?_) (λc=>?_)
  ·walk_at"";rw[ah];refine d8 h4 D2 (by omega) (by simp at hl;omega) λr3 g3 gT hJ D3 G3=>?_;have e3:=G3.at (by omega) e2;have hj:ke (ns.map D.int).length r3=some r3.toNat:=by
    unfold ke;rw[aH gT,aH (by rw[ah];exact hJ)]
   refine S5 e3 hj ?_;walk_at"";refine h _ _ _ (by simp[dw]) (by simp) ⟨ns.set r3.toNat f,by simp,λn hn=>?_⟩ (by omega) (by omega) (get_set e3) (D3.H9 hd) (λi h1 h2 h3=>?_) (by simp[((G1.trans G2).trans G3).len])
   ·rcases nQ hn with z|z
    ·have:=pR n z;omega
    ·omega
   ·rw[aw (bA h2)];exact((G1.trans G2).trans G3).old i h1 h3
  ·walk_at"";exact h _ _ _ (by simp[dw]) (by simp) hs (by omega) (by omega) e2 D2 (λi h1 h2 h3=>(G1.trans G2).old i h1 h3) (G1.trans G2).len
 dsimp[F0,c8,List.replicate];walk_at"";refine if2 (λc=>?_) (λc=>?_)
 ·refine lU ?_;exact app g ha D0 (Gr.refl _ _)
 ·have dw:ns≠[]:=λz=>c (by rw[z];rfl);walk_at"";refine if2 (λc2=>?_) (λc2=>?_)
  ·walk_at"";refine d8 h4 D0 (by decide) (by decide) λr g2 r0 r1 D2 G2=>?_;walk_at"";refine if2 (λc3=>?_) (λc3=>?_)
   ·exact app g2 (G2.at (by omega) ha) D2 G2
   ·walk_at "w1";exact rest g2 (G2.at (by omega) ha) dw D2 G2
  ·walk_at "w1";walk_at "w1";exact rest g ha dw D0 (Gr.refl _ _)
end
def E9:aS:=⟨3,17,(.seq (.set 3 (.prim .lst .nil)) (.seq (.set 4 (aU 1)) (.seq (.set 5 (.prim .Z9 .nil)) (.seq (.set 6 (cU (.prim .lst (fy (aU 0) (aU 1) (aU 1350))) (.call 4 (cE aI (aU 3))))) (.seq (.set 7 (bT (.bin .Add) (aU 1) (.call 4 (cE aI (aU 96))))) (.seq (.set 8 (bT (.bin .Add) (aU 2) (.call 4 (cE aI (aU 4))))) (.seq (.set 9 (bT .max (aU 0) (bT (.bin .Sub) (.call 4 (cE aI (aU 9))) (aU 6)))) (.seq (.set 10 (.prim .lst .nil)) (.seq (.cS (.one 11) (.et aT) (.seq (.set 4 (.call 23 (qK aI bQ cI bc))) (.seq (.set 12 (bT .tup (cU bQ (.call 4 (cE aI (dk .len bQ)))) (bT (.bin .Add) (aU 50) (.call 4 (cE aI (bT (.bin .Add) (aU 2) bc)))))) (.seq (.cS (.one 13) (.fA iU) (.seq (.ifs (dc .Eq (.call 4 (cE aI iw)) (aU 0)) (.seq (.set 14 (.call 4 (cE aI (aU 8)))) (.seq (.dF eL tK (dk .tuple (.comp [13,14,5] 5 (.one 4) (.et (aU 8)) (.jE (dc .Eq cI aT) (dc .In cI (.dZ .get bc (cE aI (.prim .tup .nil))))) cI))) .pass)) .pass) .pass)) (.seq (.ifs (dc .Eq (.call 4 (cE aI (aU 5))) (aU 0)) (.seq (.set 6 (bT .min (aU 9999) (bT (.bin .Add) (bT (.bin .Add) eh (aU 1)) (.call 4 (cE aI (aU 9)))))) .pass) .pass) (.seq (.set 15 (.comp [9,7] 4 (.one 3) (.fA iU) .no (bT (.bin .Add) (bT (.bin .Add) (aU 1) aI) (bT (.bin .Mod) (bT (.bin .Mult) bQ aT) (aU 97))))) (.seq (.set 16 (bT (.bin .Mult) eh (dk .int (bT (.cmp .Gt) (.call 4 (cE aI (aU 4))) (aU 0))))) (.seq (.expr (.dZ .append ko (dU (.prim .tup (vN (cU oj (aU 0)) (.dZ .get eL (cE (cU iU (aU 0)) (.prim .tup .nil))) (cU oj (aU 1)) (.dZ .get eL (cE (cU iU (aU 1)) (.prim .tup .nil))) tJ))))) .pass)))))))) (.seq (.ret ko) .pass))))))))))⟩
def nN(kvs:List (Key×D)):Prop:=∀k v,p6 kvs k=some v->∃ms:List Int,v=.tup (ms.map .int)/\gm 0 ms=true/\ms.length<=8
theorem Wt(kvs:List (Key×D))(k k':Key)(v:D):p6 (putD kvs k v) k'=if k'=k then some v else p6 kvs k':=by
 unfold putD;split
 ·rename_i pY;have go:∀l:List (Key×D),p6 (l.map λkv=>if kv.1=k then(kv.1,v) else kv) k'=if k'=k then(if(l.any λkv=>decide (kv.1=k))=true then some v else none) else p6 l k':=by
   intro l
   induction l with
   |nil=>simp[p6]
   |cons p r ih =>
    obtain⟨pk,pv⟩:=p;by_cases e:pk=k
    ·subst e;by_cases e2:k'=pk
     ·subst e2;simp[p6]
     ·have:¬pk=k':=λz=>e2 z.symm;unfold p6 at ih ⊢;simp[this,e2] at ih ⊢;exact ih
    ·by_cases e2:k'=k
     ·subst e2;unfold p6 at ih ⊢;rw[eX,show decide (pk=k')=false from aE e,pe];simp[e] at ih ⊢;exact ih
     ·unfold p6 at ih ⊢;simp only[List.map_cons,e,if_false,List.find?_cons];by_cases e3:pk=k'
      ·simp[e3,e2]
      ·simp[e3];simp[e2] at ih;simp[e2];exact ih
  rw[go,pY]
  rfl
 ·rename_i pY;unfold p6;rw[jY];by_cases e:k'=k
  ·subst e;have:kvs.find? (λkv=>decide (kv.1=k'))=none:=by
    rw[jy];intro x hx hd;exact pY (cA.mpr ⟨x,hx,hd⟩)
   rw[this];simp
  ·have:¬k=k':=λz=>e z.symm;simp[this,e]
theorem ZV(kvs:List (Key×D))(k:Key)(v:D):(putD kvs k v).length<=kvs.length+1:=by
 unfold putD;split<;>simp
theorem nN.put{kvs:List (Key×D)}{k:Key}{ms:List Int}(h:nN kvs)(h1:gm 0 ms=true)(h2:ms.length<=8):nN (putD kvs k (.tup (ms.map .int))):=λk' v hv=>by
 rw[Wt] at hv;split at hv
 ·cases hv;exact⟨ms,rfl,h1,h2⟩
 ·exact h k' v hv
theorem nN.get{kvs:List (Key×D)}(h:nN kvs)(k:Key):∃ms:List Int,(p6 kvs k).getD (.tup [])=.tup (ms.map .int)/\gm 0 ms=true/\ms.length<=8:=by
 cases e:p6 kvs k with
 |none=>exact⟨[],rfl,rfl,by simp⟩
 |some v=>obtain⟨ms,rfl,h1,h2⟩:=h k v e;exact⟨ms,rfl,h1,h2⟩
theorem WO(p:Int->Bool):gm 0 (((List.range 8).map λ(n:Nat)=>(n:Int)).filter p)=true/\(((List.range 8).map λ(n:Nat)=>(n:Int)).filter p).length<=8:=by
 refine⟨IT (List.Pairwise.filter _ (by decide)) λm hm=>?_,aC (ij _ _) (by decide)⟩;have:=(bu.mp hm).1;revert this;revert m;intro m _ hm;simp at hm;obtain⟨a,ha,rfl⟩:=hm;omega
theorem List.V'{α:Type}{l:List α}{i:Nat}{x:α}(h:l[i]?=some x):l.set i x=l:=by
 apply fY;intro j;by_cases e:i=j
 ·subst e;rw[aO (ak.mp h).1];exact h.symm
 ·rw[aw e]
section
variable{T:Nat->Option aS}{k d:Nat}{g:G}{Q:KD}{E:KX}
def FE:MS:=match E9.body with
 |.seq _ (.seq _ (.seq _ (.seq _ (.seq _ (.seq _ (.seq _ (.seq _ (.seq (.cS _ _ (.seq _ (.seq _ (.seq (.cS _ _ b) _)))) _))))))))=>b
 |x=>x
theorem Sz(h4:T 4=some B8){w0:Nat}{key wr:Int}{kvs:List (Key×D)}{Z:S}{N:Ends}(hw:g[w0]?=some (.dy kvs))(W:nN kvs)(hk:kvs.length<1000)(hr:0<wr)(ou:wr<1000)(hd:d<w0)(D0:i0 g d)(s0:Z[0]?=some (some (.ref d)))(s5:Z[5]?=some (some (.ref w0)))(s8:Z[8]?=some (some (.int wr)))(JZ:Z[13]?=some (some (.int key)))(sl:Z.length=17)(h:∀z iy g',g'[w0]?=some (.dy iy)->nN iy->iy.length<=kvs.length+1->i0 g' d->(∀i,i≠d->i≠w0->i<g.length->g'[i]?=g[i]?)->g.length<=g'.length->N.nx (Z.set 14 z) g'):wpS (b7 T (k+1)) FE N Z g E:=by
 obtain⟨kY,wO⟩:∃z,Z[14]?=some z:=⟨_,au (by omega)⟩
 dsimp[FE,E9];refine P9 (Ji (Jj (xZ (AD (vw (w_var s0 (vw (w_var s8 (BW ?_)))))))));refine d8 h4 D0 hr (by omega) λr g2 r0 r1 D2 G2=>?_;have dl:=D0.lt;walk_at"";refine if2 (λc=>?_) (λc=>?_)
 ·refine vk (vm (AD (vw (w_var s0 (vw (w_lit (BW ?_)))))));refine d8 h4 D2 (by decide) (by decide) λr3 g3 gT hJ D3 G3=>?_;have e3:=(G2.trans G3).at (by omega) hw;have t0:(Z.set 14 (some (.int r3)))[0]?=some (some (.ref d)):=by rw[aw (by decide)];exact s0
  have t5:(Z.set 14 (some (.int r3)))[5]?=some (some (.ref w0)):=by rw[aw (by decide)];exact s5
  have CW:(Z.set 14 (some (.int r3)))[13]?=some (some (.int key)):=by rw[aw (by decide)];exact JZ
  have JT:(Z.set 14 (some (.int r3)))[14]?=some (some (.int r3)):=aO (by omega);obtain⟨ms,em,_,_⟩:=W.get (.inl key);refine P9 (Il (Fo ?_));refine Yx (a9 T _) (w_lit ⟨8,rfl,by decide,λi ys bI g'=>g'=g3/\ys.length<=i/\(∃z w,bI=[some (.int key),some (.int r3),some (.ref w0),z,w])/\ys=((((List.range i).map λ(n:Nat)=>(n:Int)).filter λs=>decide (s=r3)||ms.any λm=>m==s).map D.int),⟨rfl,by simp,⟨none,none,?_⟩,rfl⟩,λi ys Z g' p=>p.2.1,λi ys bI g' hi p=>?_,λys bI g' p=>?_⟩)
  ·simp[E1,CW,JT,t5,List.replicate]
  ·obtain⟨rfl,hl,⟨z,w,rfl⟩,e⟩:=p;have er:(List.range (i+1)).map (λ(n:Nat)=>(n:Int))=(List.range i).map (λ(n:Nat)=>(n:Int))++[(i:Int)]:=by rw[gY];simp
   have yes:(decide ((i:Int)=r3)||ms.any λm=>m==(i:Int))=true->aP (b7 T (k+1)) (.var 4) [some (.int key),some (.int r3),some (.ref w0),z,some (.int i)] g' (λy g4=>g4=g'/\(ys++[y]).length<=i+1/\(∃z' w',[some (.int key),some (.int r3),some (.ref w0),z,some (D.int i)]=[some (.int key),some (.int r3),some (.ref w0),z',w'])/\(ys++[y])=((((List.range (i+1)).map λ(n:Nat)=>(n:Int)).filter λs=>decide (s=r3)||ms.any λm=>m==s).map D.int)) iK:=λhc=>by
    walk_at"";refine⟨rfl,by simp;omega,⟨_,_,rfl⟩,?_⟩;rw[er,fL,dP,<- e];simp[hc]
   show cK _ _ _ _ _ _;walk_at"";refine if2 (λc1=>?_) (λc1=>?_)
   ·refine lU ?_;exact yes (by rw[aD c1];rfl)
   ·walk_at"";refine BI e3 (k:=.inl key) rfl ?_;rw[em];walk_at"";refine EV (FR ?_);walk_at"";cases hc:(ms.any λm=>m==(i:Int)) with
    |true =>
     refine lU ?_;exact yes (by rw[hc];simp)
    |false =>
     refine qt ?_;refine⟨rfl,by omega,⟨_,_,rfl⟩,?_⟩;rw[er,fL,dP,<- e];simp[hc,c1]
  ·obtain⟨rfl,hl,_,e⟩:=p;subst e;refine NK (a8 c5) ?_;obtain⟨f1,f2⟩:=WO λs=>decide (s=r3)||ms.any λm=>m==s
   refine w_var t5 (w_var CW ?_);refine Ja (l6 e3) (k:=.inl key) rfl (by omega) ?_;refine h _ _ _ (get_set (l6 e3)) (W.put f1 f2) (ZV _ _ _) ((D3.snoc _).H9 hd) (λi h1 h2 h3=>?_) ?_
   ·rw[aw (bA h2),aF (ax h3 (G2.trans G3).len)];exact(G2.trans G3).old i h1 h3
   ·have:=(G2.trans G3).len;simp;omega
 ·refine N4 ?_;have e2:=G2.at (by omega) hw;have:=h kY kvs g2 e2 W (by omega) D2 (λi h1 h2 h3=>G2.old i h1 h3) G2.len
  rwa [List.V' wO] at this
end
section
variable{T:Nat->Option aS}{k d:Nat}{g:G}{Q:KD}{E:KX}
def J9:MS:=match E9.body with
 |.seq _ (.seq _ (.seq _ (.seq _ (.seq _ (.seq _ (.seq _ (.seq _ (.seq (.cS _ _ b) _))))))))=>b
 |x=>x
structure iF(d s0 w0 f0 i:Nat)(g:G)(f y:Int):Prop where
 Dd:∃l,g[s0]?=some (.lst l)/\BA l f/\l.length<=i
 fr:1<=f/\f<=1+i
 JG:∃kvs,g[w0]?=some (.dy kvs)/\nN kvs/\kvs.length<=2*i
 found:∃cs:List b0,g[f0]?=some (.lst (cs.map b0.d))/\cs.length=i/\∀c∈cs,iS c
 year:0<=y/\y<=9999
 dr:i0 g d
theorem YS{s0 w0 f0 i n0:Nat}{n v f y st wr sh:Int}{vP JF JE JD ym yk:Option D}(h4:T 4=some B8)(ur:T 23=some F0)(S:iF d s0 w0 f0 i g f y)(hi:i<=100)(hv:1<=v/\v<=100)(cV:1<=st/\st<=96)(iV:0<wr/\wr<1000)(jh:0<=sh/\sh<=2)(o1:d<n0)(o2:n0<=s0)(o3:s0<w0)(o4:w0<f0){N:Ends}(h:∀f' y' gw mM kY sH sG g',iF d s0 w0 f0 (i+1) g' f' y'->(∀j,j≠d->j<n0->g'[j]?=g[j]?)->g.length<=g'.length->N.nx [some (.ref d),some (.int n),some (.int v),some (.ref s0),some (.int f'),some (.ref w0),some (.int y'),some (.int st),some (.int wr),some (.int sh),some (.ref f0),vP,gw,mM,kY,sH,sG] g') :
  wpS (b7 T (k+2)) J9 N [some (.ref d),some (.int n),some (.int v),some (.ref s0),some (.int f),some (.ref w0),some (.int y),some (.int st),some (.int wr),some (.int sh),some (.ref f0),vP,JF,JE,JD,ym,yk] g E:=by
 obtain⟨⟨l,es,hs,hl⟩,⟨f1,f2⟩,⟨kvs,ew,W,hk⟩,⟨cs,ef,hc,hg⟩,⟨y0,y1⟩,D0⟩:=S;have lf:=j7 ef;dsimp[J9,E9];walk_at"";refine Xw h4 ur es (by omega) hs f1 (by omega) D0 λl1 f' g1 dw iX DJ f3 f5 fU D1 nu fN=>?_;have Ew:g1[w0]?=some (.dy kvs):=(nu w0 (by omega) (by omega) (j7 ew)).trans ew;have EC:g1[f0]?=some (.lst (cs.map b0.d)):=(nu f0 (by omega) (by omega) lf).trans ef;walk_at"";have fq:0<l1.length:=CN.mpr dw;refine d8 (n:=(l1.length:Int)) h4 D1 (by omega) (by omega) λr2 g2 gG gF D2 G2=>?_;have mG:=G2.at (by omega) fU;have Eu:=G2.at (by omega) Ew;have EB:=G2.at (by omega) EC;obtain⟨x,hx,hm⟩:=E6 (l:=l1) gG gF;obtain⟨ns,rfl,pR⟩:=id DJ;obtain⟨k1,Lh,rfl⟩:=aR.mp hm;refine q9 (a8 mG) hx ?_;walk_at"";refine d8 (n:=2+v) h4 D2 (by omega) (by omega) λr3 g3 gT hJ D3 G3=>?_;have Ac:=G3.at (by omega) mG;have Et:=G3.at (by omega) Eu;have Af:=G3.at (by omega) EB;walk_at"";have kb1:=pR k1 Lh;have sY:∀j,j≠d->j<n0->g3[j]?=g[j]?:=λj a b=>by
  have lj:j<g.length:=by omega
  rw[G3.old j a (by have:=G2.len;(clear hi hv cV iV jh o1 hl f1 f2 hk hc y0 y1 f3 f5 gG iX fq gF gT hJ kb1 a lj;omega)),G2.old j a (by omega),nu j a (by omega) lj]
 have gH:g.length<=g3.length:=by have:=G2.len;have:=G3.len;(clear hi hv cV iV jh o1 o2 o3 o4 hl f1 f2 hk hc y0 y1 lf f3 f5 gG iX fq gF gT hJ kb1;omega)
 refine C9 (a9 T _) (wg (a9 T _) ?_);walk_at"";refine ⟨_,rfl,_,λj Z g'=>∃ iy mM kY,Z=[some (.ref d),some (.int n),some (.int v),some (.ref s0),some (.int f'),some (.ref w0),some (.int y),some (.int st),some (.int wr),some (.int sh),some (.ref f0),vP,some (.tup [.int k1,.int (50 + r3)]),mM,kY,ym,yk]/\g'[w0]?=some (.dy iy)/\nN iy/\iy.length <= 2 * i + j/\i0 g' d/\(∀ j,j ≠ d->j ≠ w0->j < g3.length->g'[j]?=g3[j]?)/\g3.length <= g'.length,
  λ_ _ _ _=>A3,⟨kvs,_,_,rfl,Et,W,by omega,D3,λ_ _ _ _=>rfl,av _⟩,λj x Z g' hx p=>?_,λZ g' p=>?_⟩
 ·obtain⟨iy,mM,kY,rfl,MD,W',mR,D',yD,tI⟩:=p;have jL:∃key:Int,x=.int key/\j<2:=by
   match j,hx with
   |0,hx=>cases hx;exact⟨_,rfl,by decide⟩
   |1,hx=>cases hx;exact⟨_,rfl,by decide⟩
   |j+2,hx=>simp at hx
  obtain⟨key,rfl,hj⟩:=jL;show wpS _ _ _ _ _ _;refine Sz (k:=k+1) h4 MD W' (by(clear hv cV iV jh o1 o2 o3 o4 hl f1 f2 hk y0 y1 lf f3 f5 fN gG iX fq gF gT hJ kb1 gH tI;omega)) iV.1 iV.2 (by omega) D' rfl rfl rfl rfl rfl λz yL g2' e2 W2 Lg D2' pJ tH=>?_;exact⟨yL,_,_,rfl,e2,W2,by(clear hi hv cV iV jh o1 o2 o3 o4 hl f1 f2 hk y0 y1 lf f3 f5 fN gG iX fq gF gT hJ kb1 gH tI hj tH;omega),D2',λj a b c=>(pJ j a b (by omega)).trans (yD j a b c),by(clear hi hv cV iV jh o1 o2 o3 o4 hl f1 f2 hk hc y0 y1 lf f3 f5 fN gG iX fq gF gT hJ kb1 gH mR hj Lg;omega)⟩
 obtain⟨tM,mM,kY,rfl,MC,W4,kf,D4,nt,iu⟩:=p;have MH:g'[s0]?=some (.lst (ns.map D.int)):=(nt s0 (by omega) (by omega) (j7 Ac)).trans Ac;have MJ:g'[f0]?=some (.lst (cs.map b0.d)):=(nt f0 (by omega) (by omega) (j7 Af)).trans Af;have sX:∀j,j≠d->j<n0->g'[j]?=g[j]?:=λj a b=>(nt j a (by omega) (by(clear hi hv cV iV jh o1 hl f1 f2 hk hc y0 y1 f3 f5 fN gG iX fq gF gT hJ kb1 kf iu a;omega))).trans (sY j a b);clear nt sY G2 G3 fU Ew EC mG Eu EB Ac Et Af nu;have kf:tM.length<=2*(i+1):=by simp at kf;(clear hi hv cV iV jh o1 o2 o3 o4 hl f1 f2 hk y0 y1 lf f3 f5 fN gG iX fq gF gT hJ kb1 gH iu;omega)
 show wpS _ _ _ _ _ _;walk_at"";refine d8 h4 D4 (by decide) (by decide) λr5 g5 kd kc D5 G5=>?_;walk_at"";have tail:∀(y':Int) (g6:G),0<=y'->y'<=9999->i0 g6 d->Gr d g' g6->wpS (b7 T (k+2)) (i5 (i5 (i5 (i5 J9)))) N [some (.ref d),some (.int n),some (.int v),some (.ref s0),some (.int f'),some (.ref w0),some (.int y'),some (.int st),some (.int wr),some (.int sh),some (.ref f0),vP,some (.tup [.int k1,.int (50+r3)]),mM,kY,ym,yk] g6 E:=by
  intro y' g6 lg kZ D6 G6;have MG:=G6.at (by omega) MH;have MB:=G6.at (by omega) MC;have wL:=G6.at (by omega) MJ;dsimp[J9,E9,i5];walk_at"";refine Yy (a9 T _) ?_;walk_at"";refine⟨_,rfl,by simp,λj ys Z g7=>g7=g6/\(∃z w,Z=[some (.int sh),some (.int st),z,w])/\ys=([k1,50+r3].take j).map (λkey=>D.int (1+sh+key*st % 97)),⟨rfl,⟨none,none,rfl⟩,rfl⟩,λj ys Z g7 p=>?_,λj x ys Z g7 hx p=>?_,λys Z g7 p=>?_⟩
  ·obtain⟨rfl,_,rfl⟩:=p;simp;omega
  ·obtain⟨rfl,⟨z,w,rfl⟩,rfl⟩:=p;have jL:∃key:Int,x=.int key/\([k1,50+r3].take j).map (λkey=>D.int (1+sh+key*st % 97))++[D.int (1+sh+key*st % 97)]=([k1,50+r3].take (j+1)).map (λkey=>D.int (1+sh+key*st % 97)):=by
    match j,hx with
    |0,hx=>cases hx;exact⟨_,rfl,rfl⟩
    |1,hx=>cases hx;exact⟨_,rfl,rfl⟩
    |j+2,hx=>simp at hx
   obtain⟨key,rfl,he⟩:=jL;show cK _ _ _ _ _ _;walk_at"";refine P2 (W8 (by omega) (by omega)) ?_;walk_at"";exact⟨rfl,⟨_,_,rfl⟩,he⟩
  obtain⟨rfl,_,rfl⟩:=p;have eN:(g7++[O.lst [D.int (1+sh+k1*st % 97),D.int (1+sh+(50+r3)*st % 97)]])[g7.length]?=some (.lst [D.int (1+sh+k1*st % 97),D.int (1+sh+(50+r3)*st % 97)]):=c5;show wpS _ _ _ _ (g7++[O.lst [D.int (1+sh+k1*st % 97),D.int (1+sh+(50+r3)*st % 97)]]) _;walk_at"";refine d8 h4 (D6.snoc _) (by decide) (by decide) λr8 g8 lN lM D8 G8=>?_;have l7:=D6.lt;have eN8:=G8.at (by omega) eN;have MF:=G8.at (by omega) (l6 MG);have Ab:=G8.at (by omega) (l6 MB);have EA:=G8.at (by omega) (l6 wL);walk_at"";refine P2 (Cg (by omega) (by omega)) ?_;walk_at"";obtain⟨lm,el,gl,ll⟩:=W4.get (.inl k1);obtain⟨um,eu,gu,lu⟩:=W4.get (.inl (50+r3));refine BI Ab (k:=.inl k1) rfl ?_;rw[el];walk_at"";refine BI Ab (k:=.inl (50+r3)) rfl ?_;rw[eu];walk_at"";refine T2 EA (by simp;omega) ?_;generalize iW:y'*(if decide (0<r8)=true then 1 else 0)=ty;have kK:0<=ty/\ty<=9999:=by
   rw[<- iW];split<;>simp<;>omega
  walk_at"";refine h f' y' _ _ _ _ _ _ ⟨⟨_,f6 MF (by omega),DJ,by(clear hi hv cV iV jh o1 o2 o3 o4 f1 f2 hk y0 y1 lf f3 f5 fN gG fq gF gT hJ kb1 gH iu kf kd kc lg kZ lN lM l7 ll lu iW kK;omega)⟩,⟨by omega,by(clear hi hv cV iV jh o1 o2 o3 o4 hl f1 hk y0 y1 lf fN gG iX fq gF gT hJ kb1 gH iu kf kd kc lg kZ lN lM l7 ll lu iW kK;omega)⟩,⟨tM,f6 Ab (by omega),W4,kf⟩,⟨cs++[⟨1+sh+k1*st % 97,lm,1+sh+(50+r3)*st % 97,um,ty⟩],?_,by simp[hc],?_⟩,⟨lg,kZ⟩,D8.H9 (by omega)⟩ (λj a b=>?_) ?_
  ·rw[get_set EA];simp[b0.d]
  ·intro c iD;rcases bg.mp iD with z|z
   ·exact hg c z
   ·simp at z;subst z;have m1:=dR (k1*st) (show(97:Int)≠0 by decide);have m2:=cY (k1*st) (show(0:Int)<97 by decide);have m3:=dR ((50+r3)*st) (show(97:Int)≠0 by decide);have m4:=cY ((50+r3)*st) (show(0:Int)<97 by decide);exact iS.mk' (by(clear hi hv cV iV o1 o2 o3 o4 hl f1 f2 hk hc y0 y1 lf f3 f5 fN gG iX fq gF gT hJ kb1 gH iu kf kd kc lg kZ lN lM l7 ll lu iW kK m2 m3 m4;omega)) (by(clear hi hv cV iV o1 o2 o3 o4 hl f1 f2 hk hc y0 y1 lf f3 f5 fN gG iX fq gF gT hJ kb1 gH iu kf kd kc lg kZ lN lM l7 ll lu iW kK m2 m3 m4;omega)) (by(clear hi hv cV iV o1 o2 o3 o4 hl f1 f2 hk hc y0 y1 lf f3 f5 fN gG iX fq gF gT hJ kb1 gH iu kf kd kc lg kZ lN lM l7 ll lu iW kK m1 m2 m4;omega)) (by(clear hi hv cV iV o1 o2 o3 o4 hl f1 f2 hk hc y0 y1 lf f3 f5 fN gG iX fq gF gT hJ kb1 gH iu kf kd kc lg kZ lN lM l7 ll lu iW kK m1 m2 m4;omega)) kK.1 kK.2 gl gu ll lu
  ·have lj:j<g'.length:=by(clear hi hv cV iV jh o1 hl f1 f2 hk hc y0 y1 f3 f5 fN gG iX fq gF gT hJ kb1 kf kd kc lg kZ lN lM l7 ll lu iW kK a;omega)
   rw[aw (by(clear hi hv cV iV jh o1 hl f1 f2 hk hc y0 y1 lf f3 f5 fN gG iX fq gF gT hJ kb1 gH iu kf kd kc lg kZ lN lM l7 ll lu iW kK a lj;omega)),G8.old j a (by have:=G6.len;simp;(clear hi hv cV iV jh o1 o2 o3 o4 hl f1 f2 hk hc y0 y1 lf f3 f5 fN gG iX fq gF gT hJ kb1 gH iu kf kd kc lg kZ lN lM l7 ll lu iW kK a b;omega)),aF (by have:=G6.len;(clear hi hv cV iV jh o1 o2 o3 o4 hl f1 f2 hk hc y0 y1 lf f3 f5 fN gG iX fq gF gT hJ kb1 gH iu kf kd kc lg kZ lN lM l7 ll lu iW kK a b;omega)),G6.old j a lj];exact sX j a b
  ·have:=G6.len;have:=G8.len;simp at this ⊢
   (clear hi hv cV iV jh o1 o2 o3 o4 hl f1 f2 hk hc y0 y1 lf f3 f5 fN gG iX fq gF gT hJ kb1 kf kd kc lg kZ lN lM l7 ll lu iW kK;omega)
 refine if2 (λc=>?_) (λc=>?_)
 ·walk_at"";refine d8 h4 D5 (by decide) (by decide) λr6 g6 Dj Di D6 G6=>?_;walk_at"";generalize yQ:(if y+1+r6<9999 then y+1+r6 else 9999)=y';have:0<=y'/\y'<=9999:=by rw[<- yQ];split<;>omega
  exact tail y' g6 this.1 this.2 D6 (G5.trans G6)
 ·refine N4 ?_;exact tail y g5 y0 y1 D5 G5
theorem Xz(h4:T 4=some B8)(ur:T 23=some F0)(Mi:T 24=some E9){n v:Int}(hn:0<=n/\n<=100)(hv:1<=v/\v<=100)(D0:i0 g d)(h:∀(cs:List b0) a g',(cs.length:Int)=n->(∀c∈cs,iS c)->g'[a]?=some (.lst (cs.map b0.d))->g.length<=a->i0 g' d->Gr d g g'->Q (.ref a) g'):b7 T (k+3) 24 [.ref d,.int n,.int v] g Q E:=by
 refine call_of Mi rfl ?_;dsimp[E9,c8,List.replicate];have dl:=D0.lt;walk_at"";have D1:i0 (g++[O.lst []]++[O.dy []]++[O.lst [.int 0,.int 1,.int 1350]]) d:=((D0.snoc _).snoc _).snoc _;have G1:Gr d g (g++[O.lst []]++[O.dy []]++[O.lst [.int 0,.int 1,.int 1350]]):=((Gr.snoc _ _ _).trans (Gr.snoc _ _ _)).trans (Gr.snoc _ _ _);have e0:(g++[O.lst []]++[O.dy []]++[O.lst [.int 0,.int 1,.int 1350]])[g.length]?=some (.lst []):=l6 (l6 c5);have e1:(g++[O.lst []]++[O.dy []]++[O.lst [.int 0,.int 1,.int 1350]])[(g++[O.lst []]).length]?=some (.dy []):=l6 c5;have e2:(g++[O.lst []]++[O.dy []]++[O.lst [.int 0,.int 1,.int 1350]])[(g++[O.lst []]++[O.dy []]).length]?=some (.lst [.int 0,.int 1,.int 1350]):=c5;have n1:(g++[O.lst []]).length=g.length+1:=by simp
 have n2:(g++[O.lst []]++[O.dy []]).length=g.length+2:=by simp
 rw[n1] at e1 ⊢;rw[n2] at e2 ⊢;generalize g++[O.lst []]++[O.dy []]++[O.lst [.int 0,.int 1,.int 1350]]=g1 at *;refine d8 h4 D1 (by decide) (by decide) λr2 g2 gG gF D2 G2=>?_;have MQ:=G2.at (by omega) e0;have mW:=G2.at (by omega) e1;have ML:=G2.at (by omega) e2;obtain⟨x,hx,hm⟩:=E6 (l:=[D.int 0,.int 1,.int 1350]) gG (by simpa using gF);have hy:∃y:Int,x=.int y/\0<=y/\y<=9999:=by
  simp only[List.mem_cons,List.mem_nil_iff,or_false] at hm;rcases hm with rfl|rfl|rfl<;>exact⟨_,rfl,by decide,by decide⟩
 obtain⟨y,rfl,y0,y1⟩:=hy;refine q9 (a8 ML) hx ?_;walk_at"";refine d8 h4 D2 (by decide) (by decide) λr3 g3 gT hJ D3 G3=>?_;walk_at"";refine d8 h4 D3 (by decide) (by decide) λr4 g4 pD qS D4 G4=>?_;walk_at"";refine d8 h4 D4 (by decide) (by decide) λr5 g5 kd kc D5 G5=>?_;have yc:=G3.trans (G4.trans G5);have MP:=yc.at (by omega) MQ;have uH:=yc.at (by omega) mW;have l5:=(G1.trans (G2.trans yc)).len;have lw:=j7 uH;walk_at"";generalize jh:(if r5-6>0 then r5-6 else 0)=sh;have Dc:0<=sh/\sh<=2:=by rw[<- jh];split<;>omega
 have wM:(g5++[O.lst []])[g5.length]?=some (.lst []):=c5;refine C9 (a9 T _) (qr (a9 T _) ?_);walk_at"";refine ⟨by omega,by omega,j5 0 n.toNat,λi Z g'=>∃ f' y' gK gw mM kY sH sG,Z=[some (.ref d),some (.int n),some (.int v),some (.ref g.length),some (.int f'),some (.ref (g.length + 1)),some (.int y'),some (.int (1 + r3)),some (.int (2 + r4)),some (.int sh),some (.ref g5.length),gK,gw,mM,kY,sH,sG]/\iF d g.length (g.length + 1) g5.length i g' f' y'/\Gr d g g',
  λ_ _ _ _=>A3,⟨1,y,none,none,none,none,none,none,rfl,⟨⟨[],l6 MP,⟨[],rfl,by simp⟩,by simp⟩,⟨by omega,by omega⟩,⟨[],l6 uH,(λk v hv=>by cases hv),by simp⟩,⟨[],wM,rfl,by simp⟩,⟨y0,y1⟩,D5.snoc _⟩,(G1.trans (G2.trans yc)).trans (Gr.snoc _ _ _)⟩,λi x Z g' hx p=>?_,λZ g' p=>?_⟩
 ·obtain⟨f',y',gK,gw,mM,kY,sH,sG,rfl,S,G'⟩:=p;obtain⟨hi,rfl⟩:=E8 hx;show wpS _ J9 _ _ _ _;refine YS (n0:=g.length) h4 ur S (by omega) hv ⟨by omega,by omega⟩ ⟨by omega,by omega⟩ Dc dl (av _) (by omega) (by omega) λf2 y2 a b c e f g2 S2 pJ tH=>?_;exact⟨f2,y2,_,_,_,_,_,_,rfl,S2,⟨by have:=G'.len;(clear hn hv dl gG gF y0 y1 gT hJ pD qS kd kc l5 lw jh Dc hi;omega),λj h1 h2=>(pJ j h1 h2).trans (G'.old j h1 h2)⟩⟩
 ·obtain⟨f',y',gK,gw,mM,kY,sH,sG,rfl,S,G'⟩:=p;show wpS _ _ _ _ _ _;walk_at"";obtain⟨cs,ef,hc,hg⟩:=S.found;rw[m8] at hc;exact h cs _ _ (by omega) hg ef (by omega) S.dr G'
end
def xH:aS:=⟨2,8,(.seq (.set 2 (bT .jI (aU 1) (bT (.bin .Add) (bT (.bin .Add) (bT (.bin .FloorDiv) aT (aU 2)) (bT (.bin .Mod) aT (aU 2))) (aU 1)))) (.seq (.set 3 (bT (.bin .Add) bc (bT (.lL false true) (.call 21 (cE aI bc)) (bT (.bin .FloorDiv) aT (aU 2))))) (.seq (.set 4 (.call 4 (cE aI (aU 3)))) (.seq (.set 5 (.prim .lst .nil)) (.seq (.cS (.one 6) (.et aT) (.seq (.set 7 (cU (.prim .lst (fy (bT (.bin .Add) (aU 1000) eh) (aU 0) (bT (.bin .Add) (aU 1) (bT (.bin .FloorDiv) (bT (.bin .Mult) (aU 2) eh) (bT .max (aU 1) aT))))) cI)) (.seq (.expr (.dZ .append eL (dU (.prim .tup (vN (cU bQ eh) (.prim .tup .nil) (bT (.bin .Add) (aU 1) (.call 4 (cE aI (aU 9)))) (.prim .tup .nil) gI))))) .pass))) (.seq (.ret eL) .pass))))))⟩
def O8:aS:=⟨2,9,(.seq (.set 2 (.call 4 (cE aI (bT (.bin .Add) aT (aU 1))))) (.seq (.set 3 (bT (.bin .Add) (aU 1) (.call 4 (cE aI (aU 3))))) (.seq (.set 4 (.call 4 (cE aI (aU 5)))) (.seq (.ifs (dc .Eq cI (aU 0)) (.seq (.ret (bT .tup (.comp [0] 3 (.one 2) (.et bc) .no (.call 22 (dU aI))) bQ)) .pass) .pass) (.seq (.ifs (dc .Eq cI (aU 4)) (.seq (.set 3 (bT (.bin .Add) (aU 1) (.call 4 (cE aI (aU 6))))) .pass) .pass) (.seq (.set 5 (.ite (dc .Eq cI (aU 4)) (.call 25 (cE aI bc)) (.call 24 (fy aI bc bQ)))) (.seq (.set 5 (.comp [5] 3 (.one 2) (.fA (.call 21 (cE aI (dk .ir bc)))) .no (cU aI bc))) (.seq (.ifs (.dB (dc .Eq cI (aU 1)) (dc .Gt bc (aU 0))) (.seq (.set 6 (.call 4 (cE aI bc))) (.seq (.set 7 (cU eL eh)) (.seq (.set 8 (cU eL (.call 4 (cE aI bc)))) (.seq (.dF eL eh (.prim .tup (vN (cU gI (aU 0)) (cU iw (aU 1)) (cU iw (aU 2)) (cU gI (aU 3)) (cU (.prim .lst (fy (cU gI (aU 4)) (cU iw (aU 4)) (aU 9999))) (.call 4 (cE aI (aU 3))))))) .pass)))) .pass) (.seq (.ifs (dc .Eq cI (aU 2)) (.seq (.set 3 (aU 1)) .pass) .pass) (.seq (.ret (bT .tup eL bQ)) .pass))))))))))⟩
theorem HL{p:Int->Prop}:∀{l:List D},(∀x∈l,∃i:Int,x=.int i/\p i)->∃ns:List Int,l=ns.map .int/\∀i∈ns,p i
 |[],_=>⟨[],rfl,by simp⟩
 |x::r,h=>by
  obtain⟨i,rfl,hi⟩:=h x (by simp);obtain⟨ns,rfl,hn⟩:=HL (l:=r) λy hy=>h y (by simp[hy]);exact⟨i::ns,rfl,λj hj=>(aG.mp hj).elim (λz=>z▸hi) (hn j)⟩
theorem Ib{lo:Int}{n:Nat}{x:D}(h:x∈j5 lo n):∃i:Int,x=.int i/\lo<=i/\i<lo+n:=by
 unfold j5 at h;obtain⟨k,hk,rfl⟩:=aR.mp h;exact⟨_,rfl,by omega,by have:=aX.mp hk;omega⟩
theorem NY{α:Type}{l:List α}{n:Nat}(h:n<=l.length):cut l none (some (n:Int))=l.take n:=by
 have:¬((n:Int)<0):=by omega
 unfold cut HT.da;simp[this]
theorem QK{ns:List Int}{r:Int}(h0:0<=r)(h1:r<ns.length):∃i∈ns,fE (ns.map D.int) r=some (.int i):=by
 obtain⟨v,hv,hm⟩:=E6 (l:=ns.map D.int) h0 (by simpa using h1);obtain⟨i,hi,rfl⟩:=aR.mp hm;exact⟨i,hi,hv⟩
theorem Bb{cs:List b0}{r:Int}(h0:0<=r)(h1:r<cs.length):∃c∈cs,fE (cs.map b0.d) r=some c.d:=by
 obtain⟨v,hv,hm⟩:=E6 (l:=cs.map b0.d) h0 (by simpa using h1);obtain⟨i,hi,rfl⟩:=aR.mp hm;exact⟨i,hi,hv⟩
section
variable{T:Nat->Option aS}{k d:Nat}{g:G}{Q:KD}{E:KX}
theorem Xf(h4:T 4=some B8)(zJ:T 21=some Q9)(Mh:T 25=some xH){n:Int}(hn:0<=n/\n<=100)(D0:i0 g d)(h:∀(cs:List b0) a g',(cs.length:Int)=n->(∀c∈cs,iS c)->g'[a]?=some (.lst (cs.map b0.d))->g.length<=a->i0 g' d->Gr d g g'->Q (.ref a) g'):b7 T (k+3) 25 [.ref d,.int n] g Q E:=by
 refine call_of Mh rfl ?_;dsimp[xH,c8,List.replicate];have dl:=D0.lt;walk_at"";refine tG (i:=1) (j:=n / 2+n % 2+1) (by omega) ?_;walk_at"";have hh:∃hf:Nat,(n / 2+n % 2+1-1).toNat=hf/\(hf:Int)=n / 2+n % 2/\hf<=50:=⟨_,rfl,by omega,by omega⟩
 obtain⟨hf,zl,hh2,DV⟩:=hh;rw[zl];have e1:(g++[O.lst (j5 1 hf)])[g.length]?=some (.lst (j5 1 hf)):=c5;refine GN h4 zJ e1 (by rw[m8];omega) (by omega) (D0.snoc _) λl' b g2 hp e2 hb D2 G2=>?_;have mW:=G2.at (by omega) e1;walk_at"";refine Hu (a8 e2) ?_;have hle:l'.length=hf:=by rw[hp.length_eq,m8]
 have hc:cut l' none (some (n / 2))=l'.take (n / 2).toNat:=by
  have:=NY (l:=l') (n:=(n / 2).toNat) (by omega)
  rwa [show(((n / 2).toNat:Nat):Int)=n / 2 by omega] at this
 rw[hc];refine BC (l6 mW) c5 (by rw[m8,cO];omega) ?_;obtain⟨rl,er,hr⟩:=HL (p:=λi=>1<=i/\i<=50) (l:=j5 1 hf++l'.take (n / 2).toNat) λx hx=>by
  have oq:x∈j5 1 hf:=by
   rcases bg.mp hx with z|z
   ·exact z
   ·exact hp.mem_iff.mp (List.mem_of_mem_take z)
  obtain⟨i,rfl,h1,h2⟩:=Ib oq;exact⟨i,rfl,h1,by omega⟩
 have hrl:(rl.length:Int)=n:=by
  have:=gA List.length er;rw[aY,m8,cO,ah] at this;omega
 rw[er];have D3:=(D2.snoc (.lst (l'.take (n / 2).toNat))).snoc (.lst (rl.map D.int));have G3:=(Gr.snoc d g (.lst (j5 1 hf))).trans (G2.trans ((Gr.snoc d g2 (.lst (l'.take (n / 2).toNat))).trans (Gr.snoc d _ (.lst (rl.map D.int)))));have e3:(g2++[O.lst (l'.take (n / 2).toNat)]++[O.lst (rl.map D.int)])[(g2++[O.lst (l'.take (n / 2).toNat)]).length]?=some (.lst (rl.map D.int)):=c5;have l3:g.length+1<=(g2++[O.lst (l'.take (n / 2).toNat)]).length:=by have:=G2.len;simp at this ⊢;omega
 generalize (g2++[O.lst (l'.take (n / 2).toNat)]).length=Df at *;generalize g2++[O.lst (l'.take (n / 2).toNat)]++[O.lst (rl.map D.int)]=g3 at *;walk_at"";refine d8 h4 D3 (by decide) (by decide) λr4 g4 pD qS D4 G4=>?_;have e4:=G4.at (by omega) e3;walk_at"";have Jr:=G3.trans G4;have l4:=Jr.len;have e5:(g4++[O.lst []])[g4.length]?=some (.lst ([].map b0.d)):=c5;have Dy:=j7 e4;refine C9 (a9 T _) (qr (a9 T _) ?_);walk_at"";refine ⟨by omega,by omega,j5 0 n.toNat,λi Z g'=>∃ cs z6 z7,Z=[some (.ref d),some (.int n),some (.ref g.length),some (.ref Df),some (.int r4),some (.ref g4.length),z6,z7]/\cs.length=i/\(∀ c ∈ cs,iS c)/\g'[g4.length]?=some (.lst (cs.map b0.d))/\g'[Df]?=some (.lst (rl.map D.int))/\i0 g' d/\Gr d g g',
  λ_ _ _ _=>A3,⟨[],none,none,rfl,rfl,by simp,e5,l6 e4,D4.snoc _,Jr.trans (Gr.snoc _ _ _)⟩,λi x Z g' hx p=>?_,λZ g' p=>?_⟩
 ·obtain⟨cs,z6,z7,rfl,hc,hg,ef,erw,D',G'⟩:=p;obtain⟨hi,rfl⟩:=E8 hx;show wpS _ _ _ _ _ _;walk_at"";refine P2 (Cg (by decide) (by decide)) ?_;walk_at"";refine wU ⟨by split<;>omega,by split<;>omega⟩ ?_;walk_at"";obtain⟨yv,hy,yO⟩:∃yv:Int,fE [D.int (1000+(0+(i:Int))),D.int 0,D.int (1+2*(0+(i:Int)) / (if n>1 then n else 1))] r4=some (.int yv)/\0<=yv/\yv<=9999:=by
   have dv0:0<=2*(0+(i:Int)) / (if n>1 then n else 1):=Int.ediv_nonneg (by omega) (by split<;>omega);have dv1:2*(0+(i:Int)) / (if n>1 then n else 1)<=2*(0+(i:Int)):=Int.ediv_le_self _ (by omega);have:r4=0\/r4=1\/r4=2:=by omega
   rcases this with rfl|rfl|rfl
   ·exact⟨_,rfl,by omega,by(clear dl zl DV hb l3 l4 Dy hc pD qS;omega)⟩
   ·exact⟨_,rfl,by omega,by omega⟩
   ·exact⟨_,rfl,by omega,by omega⟩
  refine q9 (a8 c5) hy ?_;walk_at"";obtain⟨lo,DP,zf⟩:=QK (ns:=rl) (r:=0+(i:Int)) (by omega) (by(clear hn dl zl DV hb l3 pD qS l4 Dy yO;omega));have lf:=j7 ef;refine And.intro (vq (l6 ef)) ?_;walk_at"";refine q9 (a8 (l6 erw)) zf ?_;walk_at"";refine d8 h4 (D'.snoc _) (by decide) (by decide) λr6 g6 Dj Di D6 G6=>?_;have wL:=G6.at (by omega) (l6 ef);have MI:=G6.at (by omega) (l6 erw);walk_at"";refine T2 wL (by simp;omega) ?_;walk_at"";have hlb:=hr lo DP;refine⟨cs++[⟨lo,[],1+r6,[],yv⟩],_,_,rfl,by simp[hc],?_,?_,f6 MI (by omega),D6.H9 (by omega),(G'.trans ((Gr.snoc _ _ _).trans G6)).H9 (by omega)⟩
  ·intro c iD;rcases bg.mp iD with z|z
   ·exact hg c z
   ·simp at z;subst z;exact iS.mk' (by omega) (by omega) (by omega) (by omega) yO.1 yO.2 rfl rfl (by simp) (by simp)
  ·rw[get_set wL];simp[b0.d]
 ·obtain⟨cs,z6,z7,rfl,hc,hg,ef,erw,D',G'⟩:=p;show wpS _ _ _ _ _ _;walk_at"";rw[m8] at hc;exact h cs _ _ (by omega) hg ef (by omega) D' G'
end
section
variable{T:Nat->Option aS}{k d:Nat}{g:G}{Q:KD}{E:KX}
structure LF(T:Nat->Option aS):Prop where
 pull:T 4=some B8
 order:T 21=some Q9
 any:T 22=some Z3
 pB:T 23=some F0
 pq:T 24=some E9
 opened:T 25=some xH
 list:T 26=some O8
theorem XZ(hT:LF T){n:Int}(hn:0<=n/\n<=99)(D0:i0 g d)(h:∀(cs:List b0) a (v:Int) g',(cs.length:Int)<=n->(∀c∈cs,iS c)->g'[a]?=some (.lst (cs.map b0.d))->g.length<=a->1<=v->v<=6->i0 g' d->Gr d g g'->Q (.tup [.ref a,.int v]) g'):b7 T (k+4) 26 [.ref d,.int n] g Q E:=by
 refine call_of hT.list rfl ?_;dsimp[O8,c8,List.replicate];have dl:=D0.lt;walk_at"";refine d8 (n:=n+1) hT.pull D0 (by omega) (by omega) λm g1 m0 m1 D1 G1=>?_;walk_at"";refine d8 hT.pull D1 (by decide) (by decide) λr2 g2 gG gF D2 G2=>?_;walk_at"";refine d8 hT.pull D2 (by decide) (by decide) λway g3 w0 w1 D3 G3=>?_;have yd:=G1.trans (G2.trans G3);have l3:=yd.len;walk_at"";refine if2 (λc=>?_) (λc=>?_)
 ·walk_at"";refine J6 (a9 T _) (qr (a9 T _) ?_);walk_at"";refine⟨by omega,by omega,j5 0 m.toNat,λi ys Z g'=>∃cs z1 z2,ys=cs.map b0.d/\cs.length=i/\(∀c∈cs,iS c)/\Z=[some (.ref d),z1,z2]/\i0 g' d/\Gr d g g',by rw[m8];omega,λi ys Z g' p=>⟨A3,?_⟩,⟨[],none,none,rfl,rfl,by simp,rfl,D3,yd⟩,λi x ys Z g' hx p=>?_,λys Z g' p=>?_⟩
  ·obtain⟨cs,z1,z2,rfl,hc,_⟩:=p;simp[hc]
  ·obtain⟨cs,z1,z2,rfl,hc,hg,rfl,D',G'⟩:=p;show cK _ _ _ _ _ _;walk_at"";refine Yz hT.pull hT.any D' λc0 g4 gc D4 G4=>?_;refine⟨cs++[c0],_,_,by simp,by simp[hc],λc1 pW=>?_,rfl,D4,G'.trans G4⟩;rcases bg.mp pW with z|z
   ·exact hg c1 z
   ·simp at z;subst z;exact gc
  ·obtain⟨cs,z1,z2,rfl,hc,hg,rfl,D',G'⟩:=p;rw[m8] at hc;walk_at"";exact h cs _ _ _ (by omega) hg c5 G'.len (by omega) (by omega) (D'.snoc _) (G'.trans (Gr.snoc _ _ _))
 have tail:∀(v:Int) (g4:G),1<=v->v<=6->i0 g4 d->Gr d g g4->wpS (b7 T (k+3)) (i5 (i5 (i5 (i5 (i5 O8.body))))) ⟨λ_ g'=>Q .bx g',Q,λ_ _=>False,λ_ _=>False⟩ [some (.ref d),some (.int n),some (.int m),some (.int v),some (.int way),none,none,none,none] g4 E:=by
  intro v g4 v0 v1 D4 G4;dsimp[O8,i5];have after:∀(cs:List b0) a g5,(cs.length:Int)=m->(∀c∈cs,iS c)->g5[a]?=some (.lst (cs.map b0.d))->g4.length<=a->i0 g5 d->Gr d g4 g5->wpS (b7 T (k+3)) (i5 (i5 (i5 (i5 (i5 (i5 O8.body)))))) ⟨λ_ g'=>Q .bx g',Q,λ_ _=>False,λ_ _=>False⟩ [some (.ref d),some (.int n),some (.int m),some (.int v),some (.int way),some (.ref a),none,none,none] g5 E:=by
   intro cs a g5 hc hg ea la D5 G5;have Jq:=G4.trans G5;have l4:=G4.len;dsimp[O8,i5];walk_at"";refine J6 (a9 T _) (mQ (a9 T _) ?_);walk_at"";refine qT (by omega) (by omega) ?_;walk_at"";have e6:(g5++[O.lst (j5 0 m.toNat)])[g5.length]?=some (.lst (j5 0 m.toNat)):=c5;have l5:=D5.lt;refine GN hT.pull hT.order e6 (by rw[m8];omega) (by omega) (D5.snoc _) λl' b g7 hp eb lb D7 G7=>?_;have MK:=G7.at (by omega) (l6 ea);have qZ:l'.length=m.toNat:=by rw[hp.length_eq,m8]
   refine⟨b,l',rfl,a8 eb,l',λi ys Z g'=>∃iZ z1 z2,ys=iZ.map b0.d/\iZ.length=i/\(∀c∈iZ,iS c)/\Z=[some (.ref a),z1,z2]/\g'=g7,by omega,λi ys Z g' p=>?_,⟨[],none,none,rfl,rfl,by simp,rfl,rfl⟩,λi x ys Z g' hx p=>?_,λys Z g' p=>?_⟩
   ·obtain⟨iZ,z1,z2,rfl,iD,_,_,rfl⟩:=p;exact⟨v9 (a8 eb),by simp[iD]⟩
   ·obtain⟨iZ,z1,z2,rfl,iD,nC,rfl,rfl⟩:=p;obtain⟨j,rfl,j0,j1⟩:=Ib (hp.mem_iff.mp (aM hx));show cK _ _ _ _ _ _;walk_at"";obtain⟨c0,wy,e0⟩:=Bb (cs:=cs) j0 (by omega);refine q9 (a8 MK) e0 ?_;refine⟨iZ++[c0],_,_,by simp,by simp[iD],λc1 pW=>?_,rfl,rfl⟩;rcases bg.mp pW with z|z
    ·exact nC c1 z
    ·simp at z;subst z;exact hg c1 wy
   ·obtain⟨iZ,z1,z2,rfl,iD,nC,rfl,rfl⟩:=p;have e8:(g'++[O.lst (iZ.map b0.d)])[g'.length]?=some (.lst (iZ.map b0.d)):=c5;have D8:=D7.snoc (.lst (iZ.map b0.d));have G8:=(Jq.trans ((Gr.snoc d g5 (.lst (j5 0 m.toNat))).trans G7)).trans (Gr.snoc d g' (.lst (iZ.map b0.d)));have l8:g.length<=g'.length:=(Jq.trans ((Gr.snoc d g5 (.lst (j5 0 m.toNat))).trans G7)).len;have fin:∀(rD:List b0) z6 z7 z8 g9,(rD.length:Int)=m->(∀c∈rD,iS c)->g9[g'.length]?=some (.lst (rD.map b0.d))->i0 g9 d->Gr d g g9->wpS (b7 T (k+3)) (i5 (i5 (i5 (i5 (i5 (i5 (i5 (i5 O8.body)))))))) ⟨λ_ g'=>Q .bx g',Q,λ_ _=>False,λ_ _=>False⟩ [some (.ref d),some (.int n),some (.int m),some (.int v),some (.int way),some (.ref g'.length),z6,z7,z8] g9 E:=by
     intro rD z6 z7 z8 g9 mx DW e9 D9 G9;dsimp[O8,i5];walk_at"";refine if2 (λc=>?_) (λc=>?_)
     ·walk_at"";exact h rD _ _ _ (by omega) DW e9 l8 (by omega) (by omega) D9 G9
     ·walk_at"";exact h rD _ _ _ (by omega) DW e9 l8 v0 v1 D9 G9
    show wpS _ _ _ _ (g'++[O.lst (iZ.map b0.d)]) _;have qY:(iZ.length:Int)=m:=by omega
    have we:=D7.lt;generalize hg8:g'++[O.lst (iZ.map b0.d)]=g8 at *;walk_at"";refine if2 (λc1=>?_) (λc1=>?_)
    ·walk_at"";refine if2 (λc2=>?_) (λc2=>?_)
     ·walk_at"";refine d8 (n:=m) hT.pull D8 c2 (by omega) λr g9 r0 r1 D9 G9=>?_;have e9:=G9.at (by omega) e8;obtain⟨c0,wy,e0⟩:=Bb (cs:=iZ) r0 (by(clear hn dl m0 m1 gG gF w0 w1 l3 c v0 v1 la l4 l5 lb qZ iD l8 we c1 c2 r0;omega));walk_at"";refine q9 (a8 e9) e0 ?_;walk_at"";refine d8 (n:=m) hT.pull D9 c2 (by omega) λr' Mz vZ Dk Js Jp=>?_;have EF:=Jp.at (by omega) e9;obtain⟨c3,wx,e3⟩:=Bb (cs:=iZ) vZ (by(clear hn dl m0 m1 gG gF w0 w1 l3 c v0 v1 la l4 l5 lb qZ iD l8 we c1 c2 r0 r1 vZ;omega));refine q9 (a8 EF) e3 ?_;dsimp only[b0.d];walk_at"";refine d8 hT.pull (Js.snoc _) (by decide) (by decide) λr'' g11 pF pE D11 CI=>?_;have DA:=Js.lt;have MN:=CI.at (by omega) (c5 (g:=Mz) (o:=.lst [.int c0.yr,.int c3.yr,.int 9999]));have uI:=CI.at (by omega) (l6 (o':=.lst [.int c0.yr,.int c3.yr,.int 9999]) EF);obtain⟨x,hx,hm⟩:=E6 (l:=[D.int c0.yr,.int c3.yr,.int 9999]) pF (by simpa using pE);obtain⟨a1,a2,a3,a4,a5,a6⟩:=(nC c0 wy).inv;obtain⟨b1,b2,b3,b4,b5,b6⟩:=(nC c3 wx).inv;have hy:∃y:Int,x=.int y/\0<=y/\y<=9999:=by
       simp only[List.mem_cons,List.mem_nil_iff,or_false] at hm;rcases hm with rfl|rfl|rfl
       ·exact⟨_,rfl,a5,a6⟩
       ·exact⟨_,rfl,b5,b6⟩
       ·exact⟨_,rfl,by decide,by decide⟩
      obtain⟨y,rfl,y0,y1⟩:=hy;refine q9 (a8 MN) hx ?_;walk_at"";have hj:ke (iZ.map b0.d).length r=some r.toNat:=by
       unfold ke;rw[aH r0,aH (by rw[ah];(clear hn dl m0 m1 gG gF w0 w1 l3 c v0 v1 la l4 l5 lb qZ iD l8 we c1 c2 r0 vZ Dk pF pE DA a1 a3 a5 a6 b1 b3 b5 b6 y0 y1;omega))]
      refine S5 uI hj ?_;have gr:iS ⟨c0.lo,c3.lm,c3.up,c0.um,y⟩:=iS.mk' a1.1 a1.2 b3.1 b3.2 y0 y1 b2 a4 (nC c3 wx).l8 (nC c0 wy).u8;refine fin (iZ.set r.toNat ⟨c0.lo,c3.lm,c3.up,c0.um,y⟩) _ _ _ _ (by simp;(clear hn dl m0 m1 gG gF w0 w1 l3 c v0 v1 la l4 l5 lb qZ iD l8 we c1 c2 r0 r1 vZ Dk pF pE DA a1 a3 a5 a6 b1 b3 b5 b6 y0 y1;omega)) (λc4 Lz=>?_) ?_ (D11.H9 (by omega)) ((G8.trans (G9.trans (Jp.trans ((Gr.snoc _ _ _).trans CI)))).H9 l8)
      ·rcases nQ Lz with z|z
       ·exact nC c4 z
       ·rw[z];exact gr
      ·rw[get_set uI,List.map_set]
       rfl
     ·refine N4 ?_;exact fin iZ _ _ _ _ qY nC e8 D8 G8
    ·exact fin iZ _ _ _ _ qY nC e8 D8 G8
  walk_at"";refine if2 (λc=>?_) (λc=>?_)
  ·walk_at"";refine Xf hT.pull hT.order hT.opened ⟨m0,by omega⟩ D4 λcs a g5 hc hg ea la D5 G5=>?_;exact after cs a g5 hc hg ea la D5 G5
  ·walk_at"";refine Xz hT.pull hT.pB hT.pq ⟨m0,by omega⟩ ⟨v0,by omega⟩ D4 λcs a g5 hc hg ea la D5 G5=>?_;exact after cs a g5 hc hg ea la D5 G5
 walk_at"";refine if2 (λc=>?_) (λc=>?_)
 ·walk_at"";refine d8 hT.pull D3 (by decide) (by decide) λr4 g4 pD qS D4 G4=>?_;walk_at "w1";walk_at "w1";exact tail _ _ (by omega) (by omega) D4 (yd.trans G4)
 ·refine N4 ?_;exact tail _ _ (by omega) (by omega) D3 yd
end
def B1:aS:=⟨1,1,(.seq (.ifs (.dY (.fk (.call 1 (fy aI (aU 1) (aU 9))))) (.seq (.raise "BadAnvils" (dU (dH "there are from one to nine anvils"))) .pass) .pass) .pass)⟩
def BH:aS:=⟨2,2,(.seq (.ifs (dc .Eq (.call 4 (cE aI (aU 12))) (aU 7)) (.seq (.ret (.call 5 (dU aI))) .pass) .pass) (.seq (.ret (bT (.bin .Sub) (.call 4 (cE aI (bT (.bin .Add) aT (aU 4)))) (aU 2))) .pass))⟩
def xJ:aS:=⟨2,2,(.seq (.ret (dk .all (.comp [1] 3 (.one 2) (.fA aI) .no (bT (.cmp .In) bc aI)))) .pass)⟩
def Z2:aS:=⟨1,1,(.seq (.ifs (.dY (.fk (.call 12 (dU aI)))) (.seq (.raise "BadCoin" (dU (dH "it is no coin"))) .pass) .pass) .pass)⟩
def U4:aS:=⟨1,2,(.seq (.ifs (dc .Gt (dk .len aI) (aU 9)) (.seq (.raise "TooMany" (dU (dH "at most nine coins are asked about at once"))) .pass) .pass) (.seq (.cS (.one 1) (.fA aI) (.seq (.expr (.call 39 (dU aT))) .pass)) .pass))⟩
def O9:aS:=⟨1,1,(.seq (.ifs (dc .NotIn aI (.lit (.tup [(.str "lower"),(.str "upper")]))) (.seq (.raise "BadSide" (dU (dH "a side is lower or upper"))) .pass) .pass) .pass)⟩
def Bn:aS:=⟨1,1,(.seq (.expr (.call 40 (dU aI))) (.seq (.ret (bT .mF (.lit (.tup [(.tup [(.str "lower"),(.int 0)]),(.tup [(.str "upper"),(.int 2)])])) aI)) .pass))⟩
noncomputable abbrev Jt(T:Nat->Option aS):Prop:=T 18=some U4/\T 39=some Z2
noncomputable abbrev CK(T:Nat->Option aS):Prop:=T 19=some Bn/\T 40=some O9
structure Ex(g g':G):Prop where
 len:g.length<=g'.length
 old:∀i,i<g.length->g'[i]?=g[i]?
theorem Ex.refl(g:G):Ex g g:=⟨av _,λ_ _=>rfl⟩
theorem Ex.trans{g g1 g2:G}(a:Ex g g1)(b:Ex g1 g2):Ex g g2:=⟨aC a.len b.len,λi h=>(b.old i (ax h a.len)).trans (a.old i h)⟩
theorem Ex.snoc(g:G)(o:O):Ex g (g++[o]):=⟨by simp,λi h=>aF h⟩
theorem Ex.at{g g':G}(h:Ex g g'){i:Nat}{o:O}(e:g[i]?=some o):g'[i]?=some o:=(h.old i (j7 e)).trans e
theorem Ex.gr{g g':G}(h:Ex g g')(d:Nat):Gr d g g':=⟨h.len,λi _ h2=>h.old i h2⟩
theorem Ex.draw{g g':G}{d:Nat}(h:Ex g g')(D0:i0 g d):i0 g' d:=by
 obtain⟨s,p,b,r,xs,e1,e2,q⟩:=D0.ex;exact⟨s,p,b,r,xs,h.at e1,h.at e2,q⟩
section
variable{T:Nat->Option aS}{k d:Nat}{g:G}{Q:KD}{E:KX}
end
def nj(a b:List Int):Bool:=a.all λs=>b.any λm=>m==s
section
variable{T:Nat->Option aS}{k d:Nat}{g:G}{Q:KD}{E:KX}
theorem Gj(oB:T 15=some xJ){a b:List Int}(ha:a.length<=1000)(h:∀g',Ex g g'->Q (.bl (nj a b)) g'):b7 T (k+1) 15 [.tup (a.map .int),.tup (b.map .int)] g Q E:=by
 refine call_of oB rfl ?_;dsimp[xJ,c8,List.replicate];walk_at"";refine J6 (a9 T _) (wg (a9 T _) ?_);walk_at"";refine⟨_,rfl,_,λi ys Z g'=>∃z w,ys=((a.take i).map λs=>b.any λm=>m==s).map D.bl/\Z=[some (.tup (b.map .int)),z,w]/\g'=g,by simpa using ha,λi ys Z g' p=>⟨A3,?_⟩,⟨none,none,rfl,rfl,rfl⟩,λi x ys Z g' hx p=>?_,λys Z g' p=>?_⟩
 ·obtain⟨z,w,rfl,_⟩:=p;simp;omega
 ·obtain⟨z,w,rfl,rfl,rfl⟩:=p;rw[ao,aa] at hx;obtain⟨s,hs,rfl⟩:=hx;show cK _ _ _ _ _ _;walk_at"";refine EV (FR ?_);refine⟨_,_,?_,rfl,rfl⟩;have hi:=(ak.mp hs)
  rw[bU,hs];simp
 ·obtain⟨z,w,rfl,rfl,rfl⟩:=p;refine Uw (a8 c5) (Wu _) ?_;have e:((a.take (a.map D.int).length).map λs=>b.any λm=>m==s).all id=nj a b:=by
   rw[ah,cc];simp[nj,List.all_map]
  rw[e];exact h _ (Ex.snoc _ _)
theorem Zq{g:G}{x:Str}{kb:Bool->Prop}(hx:PyData.strOk x=true)(h:kb (decide (x="lower")||decide (x="upper"))):om g (.str x) (.tup [.str "lower",.str "upper"]) kb:=by
 refine⟨_,.inr ⟨_,[.str "lower",.str "upper"],.str x,rfl,rfl,rfl,by simp only[PyData.canLayAll0,PyData.canLay0,Bool.and_true];decide +kernel,by simp only[PyData.canLay0];exact hx,rfl⟩,?_⟩;have e:∀y:Str,PyData.eqv (.str y) (.str x)=decide (x=y):=λy=>by
  simp only[PyData.eqv];rw[bh,eV,cW];exact eq_comm
 simp only[List.any_cons,List.any_nil,Bool.or_false,e];exact h
theorem VG(Md:T 40=some O9){x:Str}(ho:PyData.strOk x=true)(h1:x="lower"\/x="upper"->Q .bx g)(h3:x≠"lower"->x≠"upper"->E ⟨"BadSide"⟩ g):b7 T (k+1) 40 [.str x] g Q E:=by
 refine call_of Md rfl ?_;dsimp[O9,c8,List.replicate];walk_at"";refine P0 (Zq ho ?_);walk_at"";by_cases e:x="lower"\/x="upper"
 ·refine fG (by rw[Bool.not_eq_false',cw,cW,cW];exact e) ?_;walk_at"";exact h1 e
 ·refine gJ (by rw[Bool.not_eq_true',iN,cv,cv];exact not_or.mp e) ?_;walk_at"";exact h3 (λz=>e (.inl z)) (λz=>e (.inr z))
theorem E4(jT:CK T){x:Str}(ho:PyData.strOk x=true)(h1:x="lower"->Q (.int 0) g)(h2:x="upper"->Q (.int 2) g)(h3:x≠"lower"->x≠"upper"->E ⟨"BadSide"⟩ g):b7 T (k+2) 19 [.str x] g Q E:=by
 refine call_of jT.1 rfl ?_;dsimp[Bn,c8,List.replicate];walk_at"";refine VG jT.2 ho (λhx=>?_) h3;walk_at"";by_cases e1:x="lower"
 ·have el:M9 [.tup [.str "lower",.int 0],.tup [.str "upper",.int 2]] x=some (.int 0):=by simp[M9,e1]
  refine IS el ?_;exact h1 e1
 ·have e2:x="upper":=hx.resolve_left e1;have el:M9 [.tup [.str "lower",.int 0],.tup [.str "upper",.int 2]] x=some (.int 2):=by simp[M9,e1];simp[e2]
  refine IS el ?_;exact h2 e2
def CB(c:b0):Prop:=c.lm.length<=8/\c.um.length<=8
theorem X2(h1:NF T)(h2:T 2=some F1)(rC:T 12=some A6)(uv:Jt T){a:Nat}{cs:List b0}(ha:g[a]?=some (.lst (cs.map b0.d)))(hz:cs.length<=1000)(hm:9<cs.length->E ⟨"TooMany"⟩ g)(hb:cs.length<=9->cs.all q8=false->E ⟨"BadCoin"⟩ g)(h:cs.length<=9->cs.all q8=true->Q .bx g):b7 T (k+6) 18 [.ref a] g Q E:=by
 refine call_of uv.1 rfl ?_;dsimp[U4,c8,List.replicate];walk_at"";rw[ah];refine if2 (λc=>?_) (λc=>?_)
 ·walk_at"";exact hm (by omega)
 have h9:cs.length<=9:=by omega
 walk_at"";refine C9 (a9 T _) (mQ (a9 T _) ?_);walk_at"";refine⟨a,_,rfl,a8 ha,cs.map b0.d,λi Z g'=>∃z,Z=[some (.ref a),z]/\g'=g/\(cs.take i).all q8=true,λi Z g' p=>?_,⟨none,rfl,rfl,by simp⟩,λi x Z g' hx p=>?_,λZ g' p=>?_⟩
 ·obtain⟨z,rfl,rfl,_⟩:=p;exact v9 (a8 ha)
 ·obtain⟨z,rfl,rfl,hg⟩:=p;rw[ao,aa] at hx;obtain⟨c,hc,rfl⟩:=hx;refine o6 ?_
  try show wpS _ _ _ _ _ _
  walk_at"";refine call_of uv.2 rfl ?_;dsimp[Z2,c8,List.replicate];walk_at"";refine Y' h1 h2 rC ?_;walk_at"";cases e:q8 c with
  |true =>
   walk_at"";refine⟨_,rfl,rfl,?_⟩;rw[bU,hc];simp[hg,e]
  |false =>
   refine EZ ?_;walk_at"";refine hb h9 ?_;rw[List.all_eq_false];exact⟨c,aM hc,by rw[e];decide⟩
 ·obtain⟨z,rfl,rfl,hg⟩:=p;rw[ah,cc] at hg;exact h h9 hg
end
def M0(f:Int)(c:b0):Int:=if f=0 then c.lo else c.up
theorem xi{f:Int}(hf:f=0\/f=2)(c:b0):fE [D.int c.lo,D.tup (c.lm.map .int),D.int c.up,D.tup (c.um.map .int),D.int c.yr] f=some (.int (M0 f c)):=by
 rcases hf with rfl|rfl<;>rfl
section
variable{T:Nat->Option aS}{k d:Nat}{g:G}{Q:KD}{E:KX}
end
section
variable{T:Nat->Option aS}{k d:Nat}{g:G}{Q:KD}{E:KX}
end
def cD:b0:=⟨0,[],0,[],0⟩
noncomputable abbrev eM(cs:List b0)(i:Nat):b0:=cs.getD i cD
theorem w5{cs:List b0}{i:Nat}{c:b0}(h:cs[i]?=some c):eM cs i=c:=by simp[eM,List.getD,h]
inductive RW where
 |dA|lower|upper
def RW.s:RW->Str
 |.dA=>"coin"
 |.lower=>"lower"
 |.upper=>"upper"
structure eP where
 w:RW
 x:Int
 y:Int
def eP.d(r:eP):D:=.tup [.str r.w.s,.int r.x,.int r.y]
def meant(cs:List b0)(w:RW)(x:Int)(i:Nat):Bool:=match w with
 |.dA=>decide ((i:Int)=x)
 |.lower=>decide ((eM cs i).lo=x)
 |.upper=>decide ((eM cs i).up=x)
def fM(cs:List b0)(w:RW)(x:Int):List Nat:=(List.range cs.length).filter (meant cs w x)
def d5(l:List Nat):List D:=l.map λ(i:Nat)=>D.int i
def nW(l:List Nat):Nat:=(l.map (2 ^ ·)).sum
def gS(n:Nat)(p:Nat->Bool):Nat:=nW ((List.range n).filter p)
theorem Fx(n:Nat)(p:Nat->Bool):gS (n+1) p=gS n p+if p n=true then 2 ^ n else 0:=by
 unfold gS nW;rw[gY,fL,dP,List.sum_append]
 congr 1
 cases h:p n<;>simp[List.filter_cons,h]
theorem Qg(n:Nat)(p:Nat->Bool):gS n p<2 ^ n:=by
 induction n with
 |zero=>simp[gS,nW]
 |succ n ih =>
  rw[Fx,Nat.pow_succ];split<;>omega
theorem Ik(n:Nat)(p:Nat->Bool)(i:Nat):(gS n p).testBit i=(decide (i<n)&&p i):=by
 induction n with
 |zero=>simp[gS,nW]
 |succ n ih =>
  have hl:=Qg n p;rw[Fx];by_cases hp:p n=true
  ·rw[aH hp,Nat.add_comm];rcases eB i n with h|h|h
   ·rw[Nat.testBit_two_pow_add_gt h,ih,aD h,aD (by omega)]
   ·subst h;rw[Nat.testBit_two_pow_add_eq,ih];simp[hp]
   ·rw[Nat.testBit_lt_two_pow (ax (show 2 ^ n+gS n p<2 ^ (n+1) by rw[Nat.pow_succ];omega) (ye (by omega) h)),aE (by omega)]
    rfl
  ·rw[az hp,Nat.add_zero,ih];by_cases h:i=n
   ·subst h;simp[hp]
   ·rw[show decide (i<n)=decide (i<n+1) from eU.mpr (by omega)]
theorem AI(a b:Nat):Builtin.bitAnd (a:Int) (b:Int)=((a &&& b:Nat):Int):=by
 unfold Builtin.bitAnd;rw[aD (Jz a),aD (Jz b)];simp
theorem OV(a b:Nat):Builtin.bitOr (a:Int) (b:Int)=((a |||b:Nat):Int):=by
 unfold Builtin.bitOr Builtin.bitAnd;have h1:∀x:Nat,decide (0<=Builtin.bitNot (x:Int))=false:=λx=>by unfold Builtin.bitNot;exact aE (by omega)
 have h2:∀x:Nat,Builtin.bitNot (Builtin.bitNot (x:Int))=x:=λx=>by unfold Builtin.bitNot;omega
 rw[h1,h1];simp only[h2];simp
theorem NW(a b:Nat):((a &&& b:Nat)≠0)↔∃i,a.testBit i=true/\b.testBit i=true:=by
 constructor
 ·intro h;obtain⟨i,hi⟩:=Nat.exists_testBit_of_ne_zero h;rw[Nat.testBit_and,aN] at hi;exact⟨i,hi⟩
 ·rintro⟨i,h1,h2⟩ e;have:(a &&& b).testBit i=true:=by rw[Nat.testBit_and,h1,h2];rfl
  rw[e,Nat.zero_testBit] at this;cases this
theorem xB(s n:Nat)(p:Nat->Bool):((((s &&& gS n p:Nat):Int) != 0)=(List.range n).any λi=>s.testBit i&&p i):=by
 rw[bh,bne_iff_ne,cA];have:(((s &&& gS n p:Nat):Int)≠0)↔((s &&& gS n p:Nat)≠0):=by omega
 rw[this,NW];constructor
 ·rintro⟨i,h1,h2⟩;rw[Ik,aN,dh] at h2;exact⟨i,aX.mpr h2.1,by rw[h1,h2.2];rfl⟩
 ·rintro⟨i,h1,h2⟩;rw[aN] at h2;exact⟨i,h2.1,by rw[Ik,aD (aX.mp h1),h2.2];rfl⟩
def mw(a b:b0):Bool:=(decide (a.lo=b.lo)&&!nj a.lm b.lm)||(decide (a.up=b.up)&&!nj a.um b.um)
def kn(a b:b0):Bool:=decide (0<b.yr)&&decide (b.yr<a.yr)
def rZ(cs:List b0)(S:Nat->Bool)(p:Nat):Bool:=(List.range cs.length).any λi=>S i&&mw (eM cs i) (eM cs p)
def vg(cs:List b0)(S:Nat->Bool)(p:Nat):Bool:=(List.range cs.length).any λi=>S i&&kn (eM cs i) (eM cs p)
def uV(cs:List b0)(S:Nat->Bool)(p:Nat)(d:Int):Bool :=
 ((List.range cs.length).any λi=>(S i||decide (i=p))&&decide ((eM cs i).lo=d))&&((List.range cs.length).any λi=>!S i&&decide ((eM cs i).lo=d))
def Bv(cs:List b0)(S:Nat->Bool)(p:Nat):Nat:=((l9 (cs.map b0.lo)).filter (uV cs S p)).length
def xb(cs:List b0)(rs:List eP)(S:Nat->Bool)(p:Nat):Bool:=rs.all λr=>!meant cs r.w r.y p||(List.range cs.length).any λi=>S i&&meant cs r.w r.x i
def fault(cs:List b0)(v:Int)(rs:List eP)(S:Nat->Bool)(p:Nat):Str :=
 if rZ cs S p=true then "wear" else if vg cs S p=true then "year" else if v<Bv cs S p then "anvil" else if xb cs rs S p=true then "" else "rule"
def wI(x:Str):D:=if x="" then .bx else .str x
def M8:aS:=⟨2,2,(.seq (.ifs (.dY (.fk (.call 1 (fy aT (aU 0) (bT (.bin .Sub) (dk .len aI) (aU 1)))))) (.seq (.raise "NoPlace" (dU (dH "no coin has that place"))) .pass) .pass) .pass)⟩
def T4:aS:=⟨3,4,(.seq (.ifs (.dY (.fk (.call 38 (dU bc)))) (.seq (.ret (.prim .lst .nil)) .pass) .pass) (.seq (.ifs (dc .Eq aT (dH "coin")) (.seq (.ret (.comp [2] 3 (.one 2) (.et (dk .len aI)) (dc .Eq bc aI) bc)) .pass) .pass) (.seq (.set 3 (.call 19 (dU aT))) (.seq (.ret (.comp [3,2] 5 (.many [3,4]) (.jK aI) (dc .Eq (cU cI aI) aT) bQ)) .pass))))⟩
def AV:aS:=⟨2,3,(.seq (.expr (.call 18 (dU aI))) (.seq (.set 2 (.call 19 (dU aT))) (.seq (.ret (.gk [2] 3 (.one 2) (.fA aI) .no (cU bc aI))) .pass)))⟩
def Bo:aS:=⟨2,5,(.seq (.kJ (.many [2,3,4]) aT) (.seq (.ifs (.jE (dc .NotIn bc (.lit (.tup [(.str "coin"),(.str "lower"),(.str "upper")]))) (dc .Eq bQ cI)) (.seq (.ret (.lit (.bl false))) .pass) .pass) (.seq (.ret (.dB (bT (.cmp .NotEq) (.call 74 (fy aI bc bQ)) (.prim .lst .nil)) (bT (.cmp .NotEq) (.call 74 (fy aI bc cI)) (.prim .lst .nil)))) .pass)))⟩
def U3:aS:=⟨2,4,(.seq (.cS (.many [2,3]) (.jK aT) (.seq (.ifs (.dY (.fk (.call 88 (cE aI bQ)))) (.seq (.raise "BadRule" (dU (.prim .kR (fy (dH "rule ") (dk .fv bc) (dH " is none for these coins"))))) .pass) .pass) .pass)) .pass)⟩
def Y6:aS:=⟨1,1,(.seq (.ret (dk .sum (.comp [] 2 (.one 1) (.fA aI) .no (bT (.bin .LShift) (aU 1) aT)))) .pass)⟩
def T3:aS:=⟨2,2,(.seq (.ret (bT (.bin .BitOr) aI (bT (.bin .LShift) (aU 1) aT))) .pass)⟩
def Bq:aS:=⟨2,4,(.seq (.cS (.one 2) (.fA (.lit (.tup [(.str "lower"),(.str "upper")]))) (.seq (.set 3 (.call 19 (dU bc))) (.seq (.ifs (.dB (dc .Eq (cU aI bQ) (cU aT bQ)) (.dY (.fk (.call 15 (cE (cU aI (bT (.bin .Add) bQ (aU 1))) (cU aT (bT (.bin .Add) bQ (aU 1)))))))) (.seq (.ret (.lit (.bl true))) .pass) .pass) .pass))) (.seq (.ret (.lit (.bl false))) .pass))⟩
def Ar:aS:=⟨2,2,(.seq (.ret (.chain .Lt .Lt (aU 0) (cU aT (aU 4)) (cU aI (aU 4)))) .pass)⟩
def U1:aS:=⟨1,1,(.seq (.ret (.comp [0] 3 (.one 2) (.fA aI) .no (.call 90 (dU (.comp [2] 4 (.many [2,3]) (.jK aI) (.fk (.call 92 (cE bQ aI))) bc))))) .pass)⟩
def R0:aS:=⟨1,1,(.seq (.ret (.comp [0] 3 (.one 2) (.fA aI) .no (.call 90 (dU (.comp [2] 4 (.many [2,3]) (.jK aI) (.fk (.call 93 (cE bQ aI))) bc))))) .pass)⟩
def Z1:aS:=⟨1,1,(.seq (.ret (.comp [0] 3 (.one 2) (.fA (.call 20 (cE aI (dH "lower")))) .no (.call 90 (dU (.call 74 (fy aI (dH "lower") bc)))))) .pass)⟩
def O2:aS:=⟨2,8,(.seq (.set 2 (.comp [] 2 (.one 1) (.fA aI) .no (.prim .lst .nil))) (.seq (.cS (.many [3,4,5]) (.fA aT) (.seq (.set 6 (.call 90 (dU (.call 74 (fy aI bQ cI))))) (.seq (.cS (.one 7) (.fA (.call 74 (fy aI bQ eL))) (.seq (.ifs (dc .NotIn eh (cU bc gI)) (.seq (.expr (.dZ .append (cU bc gI) (dU eh))) .pass) .pass) .pass)) .pass))) (.seq (.ret bc) .pass)))⟩
def F7:aS:=⟨3,3,(.seq (.expr (.call 18 (dU aI))) (.seq (.expr (.call 42 (dU aT))) (.seq (.expr (.call 89 (cE aI bc))) .pass)))⟩
def Z0:aS:=⟨3,5,(.seq (.set 3 (.call 91 (cE aT bc))) (.seq (.set 4 (bT (.bin .Sub) (dk (.fld "full") aI) aT)) (.seq (.ret (dk .len (.comp [4,3] 4 (.one 3) (.fA (dk (.fld "lower_dies") aI)) (.dB (.fk (bT (.bin .BitAnd) bQ aT)) (.fk (bT (.bin .BitAnd) bQ aI))) bQ))) .pass)))⟩
def Y7:aS:=⟨3,3,(.seq (.ifs (.fk (bT (.bin .BitAnd) aT (cU (dk (.fld "worn_by_place") aI) bc))) (.seq (.ret (dH "wear")) .pass) .pass) (.seq (.ifs (.fk (bT (.bin .BitAnd) aT (cU (dk (.fld "later_by_place") aI) bc))) (.seq (.ret (dH "year")) .pass) .pass) (.seq (.ifs (dc .Gt (.call 100 (fy aI aT bc)) (dk (.fld "room") aI)) (.seq (.ret (dH "anvil")) .pass) .pass) (.seq (.ifs (.dY (.fk (dk .all (.comp [1] 3 (.one 2) (.fA (cU (dk (.fld "needed_by_place") aI) bc)) .no (bT (.bin .BitAnd) aI bc))))) (.seq (.ret (dH "rule")) .pass) .pass) (.seq (.ret (.lit .bx)) .pass)))))⟩
def U5:aS:=⟨4,4,(.seq (.gE "size" ["Bounds"] aI (dk .len aT)) (.seq (.gE "full" ["Bounds"] aI (bT (.bin .Sub) (bT (.bin .LShift) (aU 1) (dk .len aT)) (aU 1))) (.seq (.gE "room" ["Bounds"] aI bc) (.seq (.gE "worn_by_place" ["Bounds"] aI (.call 94 (dU aT))) (.seq (.gE "later_by_place" ["Bounds"] aI (.call 95 (dU aT))) (.seq (.gE "lower_dies" ["Bounds"] aI (.call 96 (dU aT))) (.seq (.gE "needed_by_place" ["Bounds"] aI (.call 97 (cE aT bQ))) .pass)))))))⟩
section
variable{P:eO}{Z:S}{g:G}{Q:KD}{E:KX}{t:MT}{it c elt:ME}{d4:List Nat}{n:Nat}
theorem E5(hP:i3 P)(Sh:S->Prop)(p:Nat->Bool)(w:Nat->D){l:List D}{k:IK}(hk:∀g',Ex g g'->k.Is l g')(hl:l.length<=1000)(h0:Sh (E1 Z d4 n))(hs:∀i d Z g',l[i]?=some d->Ex g g'->Sh Z->iT t d Z λbW=>cK P c bW g' (λb g3=>b=p i/\Ex g g3/\if b=true then aP P elt bW g3 (λy g4=>y=w i/\Ex g g4/\Sh bW) iK else Sh bW) iK)(hd:∀g',Ex g g'->Q (.ref g'.length) (g'++[.lst (((List.range l.length).filter p).map w)]))(hi:∀R:IK->G->Prop,R k g->gb P it Z g R E):aP P (.comp d4 n t it c elt) Z g Q E:=by
 refine J6 hP (hi _ ?_);refine⟨l,λi ys Z g'=>Ex g g'/\ys=((List.range i).filter p).map w/\Sh Z,hl,λi ys Z g' q=>⟨hk _ q.1,?_⟩,⟨Ex.refl _,rfl,h0⟩,λi x ys Z g' hx q=>?_,λys Z g' q=>?_⟩
 ·obtain⟨_,rfl,_⟩:=q;rw[ah];exact aC (ij _ _) (by simp)
 ·obtain⟨e1,rfl,sh⟩:=q;refine v5 (λbW q=>n6 hP c _ _ _ _ _ _ (λb g3 q=>?_) (λ_ _ z=>z) q) (hs i x Z g' hx e1 sh);obtain⟨rfl,e3,q⟩:=q;have ef:((List.range (i+1)).filter p).map w=((List.range i).filter p).map w++if p i=true then[w i] else[]:=by
   rw[gY,fL,dP]
   congr 1
   cases z:p i<;>simp only[List.filter_cons,z,List.filter_nil]<;>rfl
  cases hp:p i with
  |true =>
   rw[hp] at q ef;rw[aH rfl] at q ⊢;refine b8 hP elt _ _ _ _ _ _ (λy g4 q=>?_) (λ_ _ z=>z) q;obtain⟨rfl,e4,sh⟩:=q;exact⟨e4,by rw[ef];rfl,sh⟩
  |false =>
   rw[hp] at q ef;rw[az (by decide)] at q ⊢;exact⟨e3,by rw[ef];simp,q⟩
 ·obtain⟨e1,rfl,sh⟩:=q;exact hd g' e1
theorem comp_map(hP:i3 P)(Sh:S->Prop)(w:Nat->D){l:List D}{k:IK}(hk:∀g',Ex g g'->k.Is l g')(hl:l.length<=1000)(h0:Sh (E1 Z d4 n))(hs:∀i d Z g',l[i]?=some d->Ex g g'->Sh Z->iT t d Z λbW=>aP P elt bW g' (λy g4=>y=w i/\Ex g g4/\Sh bW) iK)(hd:∀g',Ex g g'->Q (.ref g'.length) (g'++[.lst ((List.range l.length).map w)]))(hi:∀R:IK->G->Prop,R k g->gb P it Z g R E):aP P (.comp d4 n t it .no elt) Z g Q E:=by
 refine E5 hP Sh (λ_=>true) w hk hl h0 (λi d Z g' hx e sh=>v5 (λbW q=>BX ⟨rfl,e,?_⟩) (hs i d Z g' hx e sh)) (λg' e=>?_) hi
 ·exact lU q
 ·have:=hd g' e
  rwa [show(List.range l.length).filter (λ_=>true)=List.range l.length from List.filter_eq_self.mpr λ_ _=>rfl]
theorem qu(hP:i3 P){a:Nat}{l:List D}{o:ME}(hl:d0 g a=some l)(h:∀Q:KD,Q (.ref a) g->aP P o Z g Q E):∀R:IK->G->Prop,R (.lst a) g->gb P (.fA o) Z g R E:=λR r=>mQ hP (h _ ⟨a,l,rfl,hl,r⟩)
theorem Cu{a:Nat}{l:List D}{o:ME}(hl:d0 g a=some l)(h:∀Q:KD,Q (.ref a) g->aP P o Z g Q E):∀R:IK->G->Prop,R (.nJ a) g->gb P (.jK o) Z g R E:=λR r=>yN (h _ ⟨a,l,rfl,hl,r⟩)
theorem Fb(hP:i3 P){j:Nat}{o:ME}(hj:j<=1000)(h:∀Q:KD,Q (.int (j:Nat)) g->aP P o Z g Q E):∀R:IK->G->Prop,R (.fix (j5 0 j)) g->gb P (.et o) Z g R E:=λR r=>qr hP (h _ ⟨j,rfl,by omega,by omega,by simpa using r⟩)
end
theorem Iz(l:List Nat):d5 l=(l.map λ(i:Nat)=>(i:Int)).map D.int:=by simp[d5]
structure gy(T:Nat->Option aS):Prop where
 nf:NF T
 h2:T 2=some F1
 rC:T 12=some A6
 uv:Jt T
 jT:CK T
 oB:T 15=some xJ
 Ml:T 20=some AV
 nE:T 74=some T4
 Mc:T 88=some Bo
 Mb:T 89=some U3
 rB:T 90=some Y6
 nD:T 91=some T3
 Ma:T 92=some Bq
 L':T 93=some Ar
 LZ:T 94=some U1
 LY:T 95=some R0
 LW:T 96=some Z1
 LV:T 97=some O2
 zT:T 100=some Z0
 zS:T 101=some Y7
 zP:T 113=some U5
section
variable{T:Nat->Option aS}{k d:Nat}{g g':G}{Q:KD}{E:KX}{a p:Nat}{cs:List b0}
theorem X0(h1:NF T)(wD:T 83=some M8){i:Int}{l:List D}(ha:g[a]?=some (.lst l))(h:0<=i->i<l.length->Q .bx g)(hn:¬(0<=i/\i<l.length)->E ⟨"NoPlace"⟩ g):b7 T (k+3) 83 [.ref a,.int i] g Q E:=by
 refine call_of wD rfl ?_;dsimp[M8,c8,List.replicate];walk_at"";refine x8 (k:=k) h1 ?_;walk_at"";by_cases hi:0<=i/\i<l.length
 ·rw[aD hi.1,aD (show i<=(l.length:Int)-1 by omega)];walk_at"";exact h hi.1 hi.2
 ·have:(decide (0<=i)&&decide (i<=(l.length:Int)-1))=false:=by
   rw[vM,cv,cv];omega
  rw[this];walk_at"";exact hn hi
theorem VW(h1:NF T)(oA:T 42=some B1){i:Int}(h:1<=i->i<=9->Q .bx g)(hn:¬(1<=i/\i<=9)->E ⟨"BadAnvils"⟩ g):b7 T (k+3) 42 [.int i] g Q E:=by
 refine call_of oA rfl ?_;dsimp[B1,c8,List.replicate];walk_at"";refine x8 (k:=k) h1 ?_;walk_at"";by_cases hi:1<=i/\i<=9
 ·rw[aD hi.1,aD hi.2];walk_at"";exact h hi.1 hi.2
 ·have:(decide (1<=i)&&decide (i<=9))=false:=by
   rw[vM,cv,cv];omega
  rw[this];walk_at"";exact hn hi
theorem E2(h1:NF T)(jT:CK T)(nE:T 74=some T4){w:RW}{x:Int}(ha:g[a]?=some (.lst (cs.map b0.d)))(hz:cs.length<=1000)(h:∀g' b,Ex g g'->g.length<=b->g'[b]?=some (.lst (d5 (fM cs w x)))->Q (.ref b) g'):b7 T (k+3) 74 [.ref a,.str w.s,.int x] g Q E:=by
 refine call_of nE rfl ?_;dsimp[T4,c8,List.replicate];walk_at"";refine GV (k:=k+1) h1 ?_;walk_at"";have fld:∀f:Int,(f=0\/f=2)->(∀i c,cs[i]?=some c->meant cs w x i=decide (M0 f c=x))->aP (b7 T (k+2)) (.comp [3,2] 5 (.many [3,4]) (.jK (.var 0)) (.fk (.prim (.cmp .Eq) (.cons (.prim .ix (.cons (.var 4) (.cons (.var 0) .nil))) (.cons (.var 1) .nil)))) (.var 3)) [some (.ref a),some (.str w.s),some (.int x),some (.int f)] g Q E:=λf hf hm=>by
  refine E5 (a9 T _) (λZ=>∃z2 z3 z4,Z=[some (.int f),some (.int x),z2,z3,z4]) (meant cs w x) (λi=>.int (i:Nat)) (l:=lB (cs.map b0.d)) (λg' e=>xl (a8 (e.at ha))) (by rw[L9];simpa using hz) ⟨none,none,none,rfl⟩ (λi d Z g' hx e sh=>?_) (λg' e=>?_) (Cu (a8 ha) λQ q=>w_var (d:=.ref a) rfl q)
  ·obtain⟨z2,z3,z4,rfl⟩:=sh;obtain⟨dd,hd,rfl⟩:=xG hx;rw[ao,aa] at hd;obtain⟨c,hc,rfl⟩:=hd;refine A8 rfl ?_
   try show cK _ _ _ _ _ _
   walk_at"";refine B9 (xi hf c) ?_;walk_at"";rw[hm i c hc];refine⟨rfl,e,?_⟩;refine if2 (λ_=>?_) (λ_=>?_)
   ·walk_at"";exact⟨rfl,e,_,_,_,rfl⟩
   ·exact⟨_,_,_,rfl⟩
  ·rw[L9,ah];exact h _ _ (e.trans (Ex.snoc _ _)) e.len c5
 cases w with
 |dA =>
  refine gJ (by decide +kernel) ?_;walk_at"";refine E5 (a9 T _) (λZ=>∃z1 z2,Z=[some (.int x),z1,z2]) (meant cs .dA x) (λi=>.int (i:Nat)) (l:=j5 0 cs.length) (λg' e=>A3) (by rw[m8];exact hz) ⟨none,none,rfl⟩ (λi d Z g' hx e sh=>?_) (λg' e=>?_) (Fb (a9 T _) hz λQ q=>?_)
  ·obtain⟨z2,z3,rfl⟩:=sh;obtain⟨hi,rfl⟩:=E8 hx;rw[sA];refine o6 ?_
   try show cK _ _ _ _ _ _
   walk_at"";refine⟨rfl,e,?_⟩;refine if2 (λ_=>?_) (λ_=>?_)
   ·walk_at"";exact⟨rfl,e,_,_,rfl⟩
   ·exact⟨_,_,rfl⟩
  ·rw[m8];exact h _ _ (e.trans (Ex.snoc _ _)) e.len c5
  ·walk_at"";rw[ah];exact q
 |lower =>
  refine fG (by decide +kernel) ?_;walk_at"";refine E4 (k:=k) jT (by decide +kernel) (λ_=>?_) (λz=>absurd z (by decide +kernel)) (λz=>absurd rfl z);walk_at"";exact fld 0 (.inl rfl) λi c hc=>by simp only[meant,w5 hc];rfl
 |upper =>
  refine fG (by decide +kernel) ?_;walk_at"";refine E4 (k:=k) jT (by decide +kernel) (λz=>absurd z (by decide +kernel)) (λ_=>?_) (λ_ z=>absurd rfl z);walk_at"";exact fld 2 (.inr rfl) λi c hc=>by simp only[meant,w5 hc];rfl
theorem M3(rB:T 90=some Y6){l:List Nat}(ha:g[a]?=some (.lst (d5 l)))(hz:l.length<=1000)(hl:∀i∈l,i<=1000)(h:∀g',Ex g g'->Q (.int (nW l:Nat)) g'):b7 T (k+1) 90 [.ref a] g Q E:=by
 refine call_of rB rfl ?_;dsimp[Y6,c8,List.replicate];walk_at"";refine comp_map (a9 T _) (λZ=>∃z0 z1,Z=[z0,z1]) (λi=>.int ((2 ^ (l.getD i 0):Nat):Int)) (l:=d5 l) (k:=.lst a) (λg' e=>v9 (a8 (e.at ha))) (by simpa[d5] using hz) ⟨none,none,rfl⟩ (λi d Z g' hx e sh=>?_) (λg' e=>?_) (qu (a9 T _) (a8 ha) λQ q=>w_var (d:=.ref a) rfl q)
 ·obtain⟨z0,z1,rfl⟩:=sh;rw[d5,ao,aa] at hx;obtain⟨j,hj,rfl⟩:=hx;refine o6 ?_
  try show aP _ _ _ _ _ _
  walk_at"";have:=hl j (aM hj);refine BB ⟨by omega,by omega,by decide⟩ ?_;refine⟨?_,e,_,_,rfl⟩;simp[List.getD,hj]
 ·refine Je (ns:=(List.range l.length).map λi=>((2 ^ (l.getD i 0):Nat):Int)) (a8 (by rw[eF];simpa[d5] using c5)) ?_;have:((List.range l.length).map λi=>((2 ^ (l.getD i 0):Nat):Int)).sum=(nW l:Nat):=by
   have e2:(List.range l.length).map (λi=>((2 ^ (l.getD i 0):Nat):Int))=(l.map (2 ^ ·)).map λ(n:Nat)=>(n:Int):=by
    refine fY λi=>?_;rw[ao,ao,ao];by_cases hi:i<l.length
    ·rw[cN hi,au hi];simp[List.getD,hi]
    ·rw[bf (by simpa using hi),bf (by omega)]
     rfl
   rw[e2];unfold nW;generalize l.map (2 ^ ·)=m
   induction m with
   |nil=>rfl
   |cons x r ih=>simp[ih]
  rw[this];exact h _ (e.trans (Ex.snoc _ _))
theorem A1(nD:T 91=some T3){s p:Nat}(hp:p<=1000)(h:Q (.int ((s |||2 ^ p:Nat):Int)) g):b7 T (k+1) 91 [.int (s:Nat),.int (p:Nat)] g Q E:=by
 refine call_of nD rfl ?_;dsimp[T3,c8,List.replicate];walk_at"";refine BB ⟨by omega,by omega,by decide⟩ ?_;walk_at"";refine SE ?_;have e:(1:Int)*2 ^ ((p:Nat):Int).toNat=((2 ^ p:Nat):Int):=by simp
 rw[e,OV];exact h
end
section
variable{T:Nat->Option aS}{k d:Nat}{g g':G}{Q:KD}{E:KX}{a p:Nat}{cs:List b0}
theorem HD{c:b0}(h:CB c):c.lm.length<=1000/\c.um.length<=1000:=⟨aC h.1 (by decide),aC h.2 (by decide)⟩
theorem Vy(hT:gy T){c e:b0}(hc:CB c)(h:∀g',Ex g g'->Q (.bl (mw c e)) g'):b7 T (k+3) 92 [c.d,e.d] g Q E:=by
 refine call_of hT.Ma rfl ?_;dsimp[Bq,c8,List.replicate];walk_at"";refine C9 (a9 T _) (wg (a9 T _) ?_);walk_at"";refine⟨_,rfl,_,λi Z g'=>Ex g g'/\(∃z2 z3,Z=[some c.d,some e.d,z2,z3])/\(1<=i->(decide (c.lo=e.lo)&&!nj c.lm e.lm)=false)/\(2<=i->(decide (c.up=e.up)&&!nj c.um e.um)=false),λ_ _ _ _=>A3,⟨Ex.refl _,⟨none,none,rfl⟩,λz=>absurd z (by omega),λz=>absurd z (by omega)⟩,λi x Z g' hx q=>?_,λZ g' q=>?_⟩
 ·obtain⟨e1,⟨z2,z3,rfl⟩,q1,q2⟩:=q;refine o6 ?_
  try show wpS _ _ _ _ _ _
  match i,hx with
  |0,hx =>
   cases hx;walk_at"";refine E4 (k:=k) hT.jT (by decide +kernel) (λ_=>?_) (λz=>absurd z (by decide +kernel)) (λz=>absurd rfl z);walk_at"";refine B9 (l:=[.int c.lo,.tup (c.lm.map .int),.int c.up,.tup (c.um.map .int),.int c.yr]) rfl ?_;walk_at"";refine B9 (l:=[.int e.lo,.tup (e.lm.map .int),.int e.up,.tup (e.um.map .int),.int e.yr]) rfl ?_;walk_at"";refine if2 (λh1=>?_) (λh1=>?_)
   ·walk_at"";refine B9 (l:=[.int c.lo,.tup (c.lm.map .int),.int c.up,.tup (c.um.map .int),.int c.yr]) rfl ?_;walk_at"";refine B9 (l:=[.int e.lo,.tup (e.lm.map .int),.int e.up,.tup (e.um.map .int),.int e.yr]) rfl ?_;walk_at"";refine Gj (k:=k+1) hT.oB (HD hc).1 λg2 e2=>?_;walk_at"";cases hw:nj c.lm e.lm with
    |false =>
     walk_at"";have:mw c e=true:=by unfold mw;rw[aD h1,hw];rfl
     rw[<- this];exact h _ (e1.trans e2)
    |true =>
     walk_at"";exact⟨e1.trans e2,⟨_,_,rfl⟩,λ_=>by rw[aD h1];rfl,λz=>absurd z (by omega)⟩
   ·walk_at"";exact⟨e1,⟨_,_,rfl⟩,λ_=>by rw[aE h1];rfl,λz=>absurd z (by omega)⟩
  |1,hx =>
   cases hx;walk_at"";refine E4 (k:=k) hT.jT (by decide +kernel) (λz=>absurd z (by decide +kernel)) (λ_=>?_) (λ_ z=>absurd rfl z);walk_at"";refine B9 (l:=[.int c.lo,.tup (c.lm.map .int),.int c.up,.tup (c.um.map .int),.int c.yr]) rfl ?_;walk_at"";refine B9 (l:=[.int e.lo,.tup (e.lm.map .int),.int e.up,.tup (e.um.map .int),.int e.yr]) rfl ?_;walk_at"";refine if2 (λh1=>?_) (λh1=>?_)
   ·walk_at"";refine B9 (l:=[.int c.lo,.tup (c.lm.map .int),.int c.up,.tup (c.um.map .int),.int c.yr]) rfl ?_;walk_at"";refine B9 (l:=[.int e.lo,.tup (e.lm.map .int),.int e.up,.tup (e.um.map .int),.int e.yr]) rfl ?_;walk_at"";refine Gj (k:=k+1) hT.oB (HD hc).2 λg2 e2=>?_;walk_at"";cases hw:nj c.um e.um with
    |false =>
     walk_at"";have:mw c e=true:=by unfold mw;rw[aD h1,hw];simp
     rw[<- this];exact h _ (e1.trans e2)
    |true =>
     walk_at"";exact⟨e1.trans e2,⟨_,_,rfl⟩,λ_=>q1 (by omega),λ_=>by rw[aD h1];rfl⟩
   ·walk_at"";exact⟨e1,⟨_,_,rfl⟩,λ_=>q1 (by omega),λ_=>by rw[aE h1];rfl⟩
  |i+2,hx=>simp at hx
 ·obtain⟨e1,⟨z2,z3,rfl⟩,q1,q2⟩:=q
  try show wpS _ _ _ _ _ _
  walk_at"";have:mw c e=false:=by unfold mw;rw[q1 (by decide),q2 (by decide)];rfl
  rw[<- this];exact h _ e1
theorem Zt(hT:gy T){c e:b0}(h:Q (.bl (kn c e)) g):b7 T (k+1) 93 [c.d,e.d] g Q E:=by
 refine call_of hT.L' rfl ?_;dsimp[Ar,c8,List.replicate];walk_at"";refine B9 (l:=[.int e.lo,.tup (e.lm.map .int),.int e.up,.tup (e.um.map .int),.int e.yr]) rfl ?_;walk_at"";refine if2 (λh1=>?_) (λh1=>?_)
 ·walk_at"";refine B9 (l:=[.int c.lo,.tup (c.lm.map .int),.int c.up,.tup (c.um.map .int),.int c.yr]) rfl ?_;walk_at"";have:kn c e=decide (e.yr<c.yr):=by unfold kn;rw[aD h1];rfl
  rw[<- this];exact h
 ·have:kn c e=false:=by unfold kn;rw[aE h1];rfl
  rw[<- this];exact h
def qP(cs:List b0)(q:b0->b0->Bool):List D:=(List.range cs.length).map λi=>.int ((gS cs.length λj=>q (eM cs j) (eM cs i):Nat):Int)
theorem vt{cs:List b0}{q:Nat->Bool}:∀i∈(List.range cs.length).filter q,i<cs.length:=λi hi=>aX.mp (bu.mp hi).1
theorem R8{n:Nat}{q:Nat->Bool}:((List.range n).filter q).length<=n:=aC (ij _ _) (by simp)
theorem Zb(hT:gy T)(ha:g[a]?=some (.lst (cs.map b0.d)))(hz:cs.length<=9)(hB:∀c∈cs,CB c)(h:∀g' b,Ex g g'->g.length<=b->g'[b]?=some (.lst (qP cs mw))->Q (.ref b) g'):b7 T (k+4) 94 [.ref a] g Q E:=by
 refine call_of hT.LZ rfl ?_;dsimp[U1,c8,List.replicate];walk_at"";refine comp_map (a9 T _) (λZ=>∃z1 z2,Z=[some (.ref a),z1,z2]) (λi=>.int ((gS cs.length λj=>mw (eM cs j) (eM cs i):Nat):Int)) (l:=cs.map b0.d) (k:=.lst a) (λg' e=>v9 (a8 (e.at ha))) (by simp;omega) ⟨none,none,rfl⟩ (λi d Z g' hx e sh=>?_) (λg' e=>?_) (qu (a9 T _) (a8 ha) λQ q=>w_var (d:=.ref a) rfl q)
 ·obtain⟨z1,z2,rfl⟩:=sh;rw[ao,aa] at hx;obtain⟨c,hc,rfl⟩:=hx;refine o6 ?_
  try show aP _ _ _ _ _ _
  walk_at"";refine E5 (a9 T _) (λZ=>∃z1 z2 z3,Z=[some c.d,z1,z2,z3]) (λj=>mw (eM cs j) (eM cs i)) (λi=>.int (i:Nat)) (l:=lB (cs.map b0.d)) (k:=.nJ a) (λg2 e2=>xl (a8 ((e.trans e2).at ha))) (by rw[L9];simp;omega) ⟨none,none,none,rfl⟩ (λj d Z g2 hx e2 sh=>?_) (λg2 e2=>?_) (Cu (a8 (e.at ha)) λQ q=>w_var (d:=.ref a) rfl q)
  ·obtain⟨z1,z2,z3,rfl⟩:=sh;obtain⟨dd,hd,rfl⟩:=xG hx;rw[ao,aa] at hd;obtain⟨c',iD,rfl⟩:=hd;refine A8 rfl ?_
   try show cK _ _ _ _ _ _
   walk_at"";refine Vy (k:=k) hT (hB c' (aM iD)) λg3 e3=>?_;walk_at"";refine⟨by simp only[w5 iD,w5 hc],e2.trans e3,?_⟩;cases mw c' c with
   |true =>
    refine gJ rfl ?_;walk_at"";exact⟨rfl,e2.trans e3,_,_,_,rfl⟩
   |false=>exact fG rfl ⟨_,_,_,rfl⟩
  ·walk_at"";refine M3 (k:=k+2) hT.rB (l:=(List.range cs.length).filter λj=>mw (eM cs j) (eM cs i)) (by have:=c5 (g:=g2) (o:=.lst (((List.range (lB (cs.map b0.d)).length).filter λj=>mw (eM cs j) (eM cs i)).map λi=>D.int (i:Nat)));rw[L9,ah] at this ⊢;exact this) (aC R8 (by omega)) (λj hj=>by have:=vt j hj;omega) λg3 e3=>?_;exact⟨rfl,(e.trans (e2.trans (Ex.snoc _ _))).trans e3,_,_,rfl⟩
 ·refine h _ _ (e.trans (Ex.snoc _ _)) e.len ?_;rw[c5,ah]
  rfl
theorem WY(hT:gy T)(ha:g[a]?=some (.lst (cs.map b0.d)))(hz:cs.length<=9)(h:∀g' b,Ex g g'->g.length<=b->g'[b]?=some (.lst (qP cs kn))->Q (.ref b) g'):b7 T (k+4) 95 [.ref a] g Q E:=by
 refine call_of hT.LY rfl ?_;dsimp[R0,c8,List.replicate];walk_at"";refine comp_map (a9 T _) (λZ=>∃z1 z2,Z=[some (.ref a),z1,z2]) (λi=>.int ((gS cs.length λj=>kn (eM cs j) (eM cs i):Nat):Int)) (l:=cs.map b0.d) (k:=.lst a) (λg' e=>v9 (a8 (e.at ha))) (by simp;omega) ⟨none,none,rfl⟩ (λi d Z g' hx e sh=>?_) (λg' e=>?_) (qu (a9 T _) (a8 ha) λQ q=>w_var (d:=.ref a) rfl q)
 ·obtain⟨z1,z2,rfl⟩:=sh;rw[ao,aa] at hx;obtain⟨c,hc,rfl⟩:=hx;refine o6 ?_
  try show aP _ _ _ _ _ _
  walk_at"";refine E5 (a9 T _) (λZ=>∃z1 z2 z3,Z=[some c.d,z1,z2,z3]) (λj=>kn (eM cs j) (eM cs i)) (λi=>.int (i:Nat)) (l:=lB (cs.map b0.d)) (k:=.nJ a) (λg2 e2=>xl (a8 ((e.trans e2).at ha))) (by rw[L9];simp;omega) ⟨none,none,none,rfl⟩ (λj d Z g2 hx e2 sh=>?_) (λg2 e2=>?_) (Cu (a8 (e.at ha)) λQ q=>w_var (d:=.ref a) rfl q)
  ·obtain⟨z1,z2,z3,rfl⟩:=sh;obtain⟨dd,hd,rfl⟩:=xG hx;rw[ao,aa] at hd;obtain⟨c',iD,rfl⟩:=hd;refine A8 rfl ?_
   try show cK _ _ _ _ _ _
   walk_at"";refine Zt (k:=k+2) hT ?_;walk_at"";refine⟨by simp only[w5 iD,w5 hc],e2,?_⟩;cases kn c' c with
   |true =>
    refine gJ rfl ?_;walk_at"";exact⟨rfl,e2,_,_,_,rfl⟩
   |false=>exact fG rfl ⟨_,_,_,rfl⟩
  ·walk_at"";refine M3 (k:=k+2) hT.rB (l:=(List.range cs.length).filter λj=>kn (eM cs j) (eM cs i)) (by have:=c5 (g:=g2) (o:=.lst (((List.range (lB (cs.map b0.d)).length).filter λj=>kn (eM cs j) (eM cs i)).map λi=>D.int (i:Nat)));rw[L9,ah] at this ⊢;exact this) (aC R8 (by omega)) (λj hj=>by have:=vt j hj;omega) λg3 e3=>?_;exact⟨rfl,(e.trans (e2.trans (Ex.snoc _ _))).trans e3,_,_,rfl⟩
 ·refine h _ _ (e.trans (Ex.snoc _ _)) e.len ?_;rw[c5,ah]
  rfl
theorem Zl(hT:gy T)(ha:g[a]?=some (.lst (cs.map b0.d)))(hz:cs.length<=9)(hg:cs.all q8=true)(h:Q (.ref g.length) (g++[.lst ((l9 (cs.map b0.lo)).map .int)])):b7 T (k+7) 20 [.ref a,.str "lower"] g Q E:=by
 refine call_of hT.Ml rfl ?_;dsimp[AV,c8,List.replicate];walk_at"";refine X2 (k:=k) hT.nf hT.h2 hT.rC hT.uv ha (by omega) (λz=>by omega) (λ_ z=>by rw[hg] at z;cases z) λ_ _=>?_;walk_at"";refine E4 (k:=k+4) hT.jT (by decide +kernel) (λ_=>?_) (λz=>absurd z (by decide +kernel)) (λz=>absurd rfl z);walk_at"";refine Sv (a9 T _) (mQ (a9 T _) ?_);walk_at"";refine⟨a,_,rfl,a8 ha,cs.map b0.d,λi ys Z g'=>∃z w,ys=(cs.take i).map b0.lo/\Z=[some (.int 0),z,w]/\g'=g,by simp;omega,λi ys Z g' p=>?_,⟨none,none,rfl,rfl,rfl⟩,λi c ys Z g' hx p=>?_,λys Z g' p=>?_⟩
 ·obtain⟨z,w,rfl,rfl,rfl⟩:=p;exact⟨v9 (a8 ha),by simp;omega⟩
 ·obtain⟨z,w,rfl,rfl,rfl⟩:=p;rw[ao,aa] at hx;obtain⟨c,hc,rfl⟩:=hx;show cK _ _ _ _ _ _;walk_at"";refine B9 (l:=[.int c.lo,.tup (c.lm.map .int),.int c.up,.tup (c.um.map .int),.int c.yr]) rfl ?_;refine⟨_,rfl,_,_,?_,rfl,rfl⟩;rw[bU,hc];simp
 ·obtain⟨z,w,rfl,rfl,rfl⟩:=p;rw[ah,cc];exact h
def U9(cs:List b0):List D:=(l9 (cs.map b0.lo)).map λd=>.int ((gS cs.length (meant cs .lower d):Nat):Int)
theorem VI(hT:gy T)(ha:g[a]?=some (.lst (cs.map b0.d)))(hz:cs.length<=9)(hg:cs.all q8=true)(h:∀g' b,Ex g g'->g.length<=b->g'[b]?=some (.lst (U9 cs))->Q (.ref b) g'):b7 T (k+8) 96 [.ref a] g Q E:=by
 refine call_of hT.LW rfl ?_;dsimp[Z1,c8,List.replicate];walk_at"";have zg:(l9 (cs.map b0.lo)).length<=9:=aC (N6 _) (by simpa using hz);unfold U9 at h;refine J6 (a9 T _) (mQ (a9 T _) ?_);walk_at"";refine Zl (k:=k) hT ha hz hg ?_;have e0:=Ex.snoc g (O.lst ((l9 (cs.map b0.lo)).map .int));have hb:=c5 (g:=g) (o:=O.lst ((l9 (cs.map b0.lo)).map .int));generalize l9 (cs.map b0.lo)=ds at *;generalize g++[O.lst (ds.map .int)]=g1 at *;refine⟨_,_,rfl,a8 hb,ds.map .int,λi ys Z g'=>Ex g1 g'/\ys=(ds.take i).map (λd=>.int ((gS cs.length (meant cs .lower d):Nat):Int))/\∃z1 z2,Z=[some (.ref a),z1,z2],by simp;omega,λi ys Z g' q=>⟨v9 (a8 (q.1.at hb)),?_⟩,⟨Ex.refl _,rfl,none,none,rfl⟩,λi x ys Z g' hx q=>?_,λys Z g' q=>?_⟩
 ·obtain⟨_,rfl,_⟩:=q;simp;omega
 ·obtain⟨e1,rfl,z1,z2,rfl⟩:=q;rw[ao,aa] at hx;obtain⟨dd,hd,rfl⟩:=hx;refine o6 ?_
  try show cK _ _ _ _ _ _
  walk_at"";refine E2 (k:=k+4) hT.nf hT.jT hT.nE (w:=.lower) ((e0.trans e1).at ha) (by omega) λg2 b2 e2 _ ui=>?_;walk_at"";refine M3 (k:=k+6) hT.rB ui (aC R8 (by omega)) (λj hj=>by have:=vt j hj;omega) λg3 e3=>?_;refine⟨e1.trans (e2.trans e3),?_,_,_,rfl⟩;rw[bU,hd];simp[gS,fM]
 ·obtain⟨e1,rfl,z1,z2,rfl⟩:=q;rw[ah,cc];exact h _ _ (e0.trans (e1.trans (Ex.snoc _ _))) (aC e0.len e1.len) c5
end
theorem Bl{g:G}{a:Nat}{ms:List Int}{i:Int}{k:Bool->Prop}(ha:d0 g a=some (ms.map .int))(h:k (ms.any λm=>m==i)):om g (.int i) (.ref a) k:=by
 refine⟨_,.inr ⟨_,_,_,ha,N9 ms,rfl,lay_ints ms,by simp[PyData.canLay0],rfl⟩,?_⟩;rw[List.any_map];exact h
theorem QV{g:G}{a:Nat}{l:List Nat}{i:Nat}{k:Bool->Prop}(ha:g[a]?=some (.lst (d5 l)))(h:k (decide (i∈l))):om g (.int (i:Nat)) (.ref a) k:=by
 refine Bl (ms:=l.map λ(i:Nat)=>(i:Int)) (by rw[<- Iz];exact a8 ha) ?_;have:((l.map λ(i:Nat)=>(i:Int)).any λm=>m==(i:Int))=decide (i∈l):=by
  rw[bh,cA,dh];constructor
  ·rintro⟨x,hx,e⟩;obtain⟨j,hj,rfl⟩:=aR.mp hx;rw[eV] at e;rw[show i=j by omega];exact hj
  ·exact λhi=>⟨_,aR.mpr ⟨i,hi,rfl⟩,by simp⟩
 rw[this];exact h
structure mJ(g:G)(nb lo n:Nat)(B:Nat->Nat)(F:Nat->Nat->Prop):Prop where
 ex:∃as:List Nat,g[nb]?=some (.lst (as.map .ref))/\as.length=n/\as.Nodup/\(∀a∈as,lo<=a/\a≠nb)/\∀i a,as[i]?=some a->∃ms:List Nat,g[a]?=some (.lst (d5 ms))/\ms.length<=B i/\∀m,m∈ms↔F i m
theorem mJ.at{g g':G}{nb lo n:Nat}{B:Nat->Nat}{F:Nat->Nat->Prop}(h:mJ g nb lo n B F)(e:Ex g g'):mJ g' nb lo n B F:=by
 obtain⟨as,h1,h2,h3,h4,h5⟩:=h.ex;refine⟨⟨as,e.at h1,h2,h3,h4,λi a hi=>?_⟩⟩;obtain⟨ms,m1,m2⟩:=h5 i a hi;exact⟨ms,e.at m1,m2⟩
theorem mJ.imp{g:G}{nb lo n:Nat}{B B':Nat->Nat}{F F':Nat->Nat->Prop}(h:mJ g nb lo n B F)(hB:∀i,i<n->B i<=B' i)(hF:∀i m,i<n->(F i m↔F' i m)):mJ g nb lo n B' F' :=
 let ⟨as,h1,h2,h3,h4,h5⟩:=h.ex
 ⟨⟨as,h1,h2,h3,h4,λi a hi=>let ⟨ms,m1,m2,m3⟩:=h5 i a hi
  have jM:i<n:=by rw[<- h2];exact(ak.mp hi).1
  ⟨ms,m1,aC m2 (hB i jM),λm=>(m3 m).trans (hF i m jM)⟩⟩⟩
def rW(cs:List b0)(rs:List eP)(i m:Nat):Prop:=∃r∈rs,meant cs r.w r.y i=true/\m=gS cs.length (meant cs r.w r.x)
def j4(rs:List eP):List D:=rs.map eP.d
theorem Gb{α:Type}{l:List α}(h:l.Nodup){i j:Nat}{a:α}(hi:l[i]?=some a)(hj:l[j]?=some a):i=j:=by
 obtain⟨h1,e1⟩:=ak.mp hi;obtain⟨h2,e2⟩:=ak.mp hj;exact(kF h).mp (e1.trans e2.symm)
section
variable{T:Nat->Option aS}{k d:Nat}{g g':G}{Q:KD}{E:KX}{a c p:Nat}{cs:List b0}{rs:List eP}
theorem Xb(hT:gy T)(ha:g[a]?=some (.lst (cs.map b0.d)))(hz:cs.length<=9)(hc:g[c]?=some (.lst (j4 rs)))(hr:rs.length<=900)(h:∀g' b,Ex g g'->g.length<=b->mJ g' b g.length cs.length (λ_=>rs.length) (rW cs rs)->Q (.ref b) g'):b7 T (k+4) 97 [.ref a,.ref c] g Q E:=by
 refine call_of hT.LV rfl ?_;dsimp[O2,c8,List.replicate];walk_at"";refine J6 (a9 T _) (mQ (a9 T _) ?_);walk_at"";refine⟨a,_,rfl,a8 ha,cs.map b0.d,λi ys Z g'=>Ex g g'/\(∃as:List Nat,ys=as.map .ref/\as.length=i/\as.Nodup/\∀b∈as,g.length<=b/\g'[b]?=some (.lst []))/\∃z0 z1,Z=[z0,z1],by simp;omega,λi ys Z g' q=>⟨v9 (a8 (q.1.at ha)),?_⟩,⟨Ex.refl _,⟨[],rfl,rfl,by simp,by simp⟩,none,none,rfl⟩,λi x ys Z g' hx q=>?_,λys Z g' q=>?_⟩
 ·obtain⟨_,⟨as,rfl,rfl,_⟩,_⟩:=q;simp
 ·obtain⟨e1,⟨as,rfl,hl,nd,hA⟩,z0,z1,rfl⟩:=q;refine o6 ?_
  try show cK _ _ _ _ _ _
  walk_at"";refine⟨e1.trans (Ex.snoc _ _),⟨as++[g'.length],by simp,by simp[hl],?_,λb hb=>?_⟩,_,_,rfl⟩
  ·rw[dj];exact⟨nd,by simp,λx hx y hy=>by cases bE.mp hy;exact aK (j7 (hA x hx).2)⟩
  ·rcases bg.mp hb with hb|hb
   ·exact⟨(hA b hb).1,(Ex.snoc _ _).at (hA b hb).2⟩
   ·cases bE.mp hb;exact⟨e1.len,c5⟩
 ·obtain⟨e1,⟨as,rfl,hl,nd,hA⟩,z0,z1,rfl⟩:=q;rw[ah] at hl;walk_at"";have e2:=e1.trans (Ex.snoc g' (O.lst (as.map D.ref)));have lo:=e1.len;have N0:mJ (g'++[O.lst (as.map D.ref)]) g'.length g.length cs.length (λ_=>0) (rW cs []):=⟨⟨as,c5,hl,nd,λb hb=>⟨(hA b hb).1,aK (j7 (hA b hb).2)⟩,λi b hb=>⟨[],(Ex.snoc _ _).at (hA b (aM hb)).2,by simp,λm=>⟨λz=>absurd z (by simp),λ⟨r,hr,_⟩=>absurd hr (by simp)⟩⟩⟩⟩
  generalize g'++[O.lst (as.map D.ref)]=g1 at *;generalize g'.length=nb at *;refine C9 (a9 T _) (mQ (a9 T _) ?_);walk_at"";refine⟨c,_,rfl,a8 (e2.at hc),j4 rs,λi Z g'=>Ex g g'/\mJ g' nb g.length cs.length (λ_=>i) (rW cs (rs.take i))/\∃z3 z4 z5 z6 z7,Z=[some (.ref a),some (.ref c),some (.ref nb),z3,z4,z5,z6,z7],λi Z g' q=>v9 (a8 (q.1.at hc)),⟨e2,N0,none,none,none,none,none,rfl⟩,λi x Z g' hx q=>?_,λZ g' q=>?_⟩
  ·obtain⟨e3,N3,z3,z4,z5,z6,z7,rfl⟩:=q;rw[j4,ao,aa] at hx;obtain⟨r,ly,rfl⟩:=hx;have hi:i<rs.length:=(ak.mp ly).1;refine A8 (l:=[.str r.w.s,.int r.x,.int r.y]) rfl ?_
   try show wpS _ _ _ _ _ _
   walk_at"";refine E2 (k:=k) hT.nf hT.jT hT.nE (e3.at ha) (by omega) λg4 b4 e4 _ LD=>?_;walk_at"";refine M3 (k:=k+2) hT.rB LD (aC R8 (by omega)) (λj hj=>by have:=vt j hj;omega) λg5 e5=>?_;walk_at"";have wM:=e3.trans (e4.trans e5);have N5:=N3.at (e4.trans e5);have ef:nW (fM cs r.w r.x)=gS cs.length (meant cs r.w r.x):=rfl;rw[ef];generalize gS cs.length (meant cs r.w r.x)=first at *
   refine C9 (a9 T _) (mQ (a9 T _) ?_);walk_at"";refine E2 (k:=k) hT.nf hT.jT hT.nE (wM.at ha) (by omega) λg6 b6 e6 hb6 DM=>?_;refine⟨b6,_,rfl,a8 DM,d5 (fM cs r.w r.y),λj Z g'=>Ex g g'/\g'[b6]?=some (.lst (d5 (fM cs r.w r.y)))/\mJ g' nb g.length cs.length (λq=>i+if q∈(fM cs r.w r.y).take j then 1 else 0) (λq m=>rW cs (rs.take i) q m\/(q∈(fM cs r.w r.y).take j/\m=first))/\(∀as:List Nat,g'[nb]?=some (.lst (as.map .ref))->b6∉as)/\∃z7,Z=[some (.ref a),some (.ref c),some (.ref nb),some (.str r.w.s),some (.int r.x),some (.int r.y),some (.int (first:Nat)),z7],λj Z g' q=>v9 (a8 q.2.1),⟨wM.trans e6,DM,(N5.at e6).imp (λq _=>by simp) (λq m _=>by simp),?_,z7,rfl⟩,λj x Z g' hx q=>?_,λZ g' q=>?_⟩
   ·intro xh h' hm;obtain⟨FT,h1,h2,h3,h4,h5⟩:=N5.ex;have:=(e6.at h1).symm.trans h';have e':FT=xh:=by
     have h0:FT.map D.ref=xh.map D.ref:=by injection this with w;injection w
     exact(List.map_inj_right (λx y z=>by injection z)).mp h0
    subst e';obtain⟨i',jM⟩:=eR.mp hm;obtain⟨ms,m1,_⟩:=h5 i' b6 jM;have:=j7 m1;omega
   ·obtain⟨e7,p7,N7,wc,z7,rfl⟩:=q;rw[d5,ao,aa] at hx;obtain⟨q,hq,rfl⟩:=hx;have DL:q<cs.length:=vt q (aM hq);have KU:q∉(fM cs r.w r.y).take j:=λz=>by
     obtain⟨j',zi⟩:=eR.mp z;have hl:j'<j:=by
      have:=(ak.mp zi).1;simp at this;omega
     rw[gi hl] at zi;have Kj:(fM cs r.w r.y).Nodup:=List.nodup_range.filter _;have:=Gb Kj zi hq;omega
    have tk:(fM cs r.w r.y).take (j+1)=(fM cs r.w r.y).take j++[q]:=by rw[bU,hq];rfl
    obtain⟨uY,h1,h2,h3,h4,h5⟩:=N7.ex;have KI:q<uY.length:=by omega
    have rj:=au KI;generalize uY[q]=aq at rj;obtain⟨ms,m1,m2,m3⟩:=h5 q aq rj;have gq:fE (uY.map D.ref) (q:Int)=some (.ref aq):=F4 (by rw[ao,rj];rfl);refine o6 ?_
    try show wpS _ _ _ _ _ _
    walk_at"";refine q9 (a8 h1) gq ?_;refine P0 (QV m1 ?_);walk_at"";by_cases mj:first∈ms
    ·refine fG (by simp[mj]) ?_;walk_at"";refine⟨e7,p7,N7.imp (λq' _=>?_) (λq' m _=>?_),wc,_,rfl⟩
     ·rw[tk];simp only[List.mem_append,List.mem_singleton];by_cases z:q'∈(fM cs r.w r.y).take j
      ·simp[z]
      ·simp[z]
     ·rw[tk];simp only[List.mem_append,List.mem_singleton];constructor
      ·rintro(z|⟨z1,z2⟩)
       ·exact .inl z
       ·exact .inr ⟨.inl z1,z2⟩
      ·rintro(z|⟨z1|z1,z2⟩)
       ·exact .inl z
       ·exact .inr ⟨z1,z2⟩
       ·subst z1 z2;exact(m3 m).mp mj
    ·refine gJ (by simp[mj]) ?_;walk_at"";refine q9 (a8 h1) gq ?_
     try refine⟨vq m1,?_⟩
     walk_at"";rw[az KU] at m2;refine T2 m1 (by simp[d5];omega) ?_;walk_at"";have mf:=aM rj;have dw:=(h4 aq mf).2;have KY:aq≠b6:=λz=>wc uY h1 (z▸mf);have En:=f6 (o':=O.lst (d5 ms++[D.int (first:Nat)])) h1 dw;refine⟨⟨by simp;exact e7.len,λi' jM=>by rw[aw (by have:=(h4 aq mf).1;omega)];exact e7.old i' jM⟩,f6 p7 KY,⟨⟨uY,En,h2,h3,h4,λi' b hb=>?_⟩⟩,λxh h'=>?_,_,rfl⟩
     ·by_cases wt:i'=q
      ·subst wt;have:b=aq:=by rw[rj] at hb;injection hb with z;exact z.symm
       subst this;refine⟨ms++[first],by rw[get_set m1];simp[d5],?_,λm=>?_⟩
       ·rw[tk];simp;omega
       ·rw[bg,bE,m3 m,tk];simp only[List.mem_append,List.mem_singleton];constructor
        ·rintro((z|⟨z1,z2⟩)|z)
         ·exact .inl z
         ·exact .inr ⟨.inl z1,z2⟩
         ·exact .inr ⟨.inr trivial,z⟩
        ·rintro(z|⟨z1|z1,z2⟩)
         ·exact .inl (.inl z)
         ·exact .inl (.inr ⟨z1,z2⟩)
         ·exact .inr z2
      ·have zw:aq≠b:=λz=>wt (Gb h3 hb (z▸rj));obtain⟨Dw,k1,k2,k3⟩:=h5 i' b hb;refine⟨Dw,f6 k1 zw,?_,λm=>(k3 m).trans ?_⟩
       ·rw[tk];simpa[wt] using k2
       ·rw[tk];simp[wt]
     ·rw[En] at h';exact wc xh (h1.trans h')
   ·obtain⟨e7,p7,N7,wc,z7,rfl⟩:=q;rw[d5,ah,cc] at N7
    try show wpS _ _ _ _ _ _
    walk_at"";refine⟨e7,N7.imp (λq _=>by split<;>omega) (λq m hq=>?_),_,_,_,_,_,rfl⟩;have tk:rs.take (i+1)=rs.take i++[r]:=by rw[bU,ly];rfl
    unfold rW;rw[tk];simp only[List.mem_append,List.mem_singleton];constructor
    ·rintro(⟨r',h1,h2⟩|⟨h1,h2⟩)
     ·exact⟨r',.inl h1,h2⟩
     ·exact⟨r,.inr rfl,(bu.mp h1).2,by rw[h2];exact ef.symm⟩
    ·rintro⟨r',h1|h1,h2,h3⟩
     ·exact .inl ⟨r',h1,h2,h3⟩
     ·subst h1;exact .inr ⟨bu.mpr ⟨aX.mpr hq,h2⟩,by rw[h3];exact ef⟩
  ·obtain⟨e3,N3,z3,z4,z5,z6,z7,rfl⟩:=q;rw[j4,ah,cc] at N3
   try show wpS _ _ _ _ _ _
   walk_at"";exact h _ _ e3 lo N3
end
def m5(cs:List b0)(r:eP):Bool:=!decide (r.x=r.y)&&(!(fM cs r.w r.x).isEmpty&&!(fM cs r.w r.y).isEmpty)
theorem in_words{g:G}{w:RW}{kb:Bool->Prop}(h:kb true):om g (.str w.s) (.tup [.str "coin",.str "lower",.str "upper"]) kb:=by
 refine⟨_,.inr ⟨_,[.str "coin",.str "lower",.str "upper"],.str w.s,rfl,rfl,rfl,by simp only[PyData.canLayAll0,PyData.canLay0,Bool.and_true];decide +kernel,by simp only[PyData.canLay0];cases w<;>decide +kernel,rfl⟩,?_⟩;have:([PyData.str "coin",PyData.str "lower",PyData.str "upper"].any λq=>PyData.eqv q (.str w.s))=true:=by
  simp only[List.any_cons,List.any_nil,PyData.eqv];cases w<;>decide +kernel
 rw[this];exact h
theorem ne_nil{g:G}{a b:Nat}{l:List Nat}{Q:KD}(ha:g[a]?=some (.lst (d5 l)))(hb:g[b]?=some (.lst []))(h:Q (.bl (!l.isEmpty)) g):cx (.cmp .NotEq) [.ref a,.ref b] g Q:=by
 refine Cr (WM (ms:=l.map λ(i:Nat)=>(i:Int)) (ns:=[]) (by rw[<- Iz];exact a8 ha) (a8 hb) ?_);have:decide ((l.map λ(i:Nat)=>(i:Int))=[])=l.isEmpty:=by cases l<;>simp
 rw[this];exact h
structure Bd(g:G)(b:Nat)(cs:List b0)(v:Int)(rs:List eP):Prop where
 ex:∃w l d nb,g[b]?=some (.ins "Bounds" [("size",.int cs.length),("full",.int ((2 ^ cs.length-1:Nat):Int)),("room",.int v),("worn_by_place",.ref w),("later_by_place",.ref l),("lower_dies",.ref d),("needed_by_place",.ref nb)]) /\
  g[w]?=some (.lst (qP cs mw))/\g[l]?=some (.lst (qP cs kn))/\g[d]?=some (.lst (U9 cs))/\mJ g nb 0 cs.length (λ_=>rs.length) (rW cs rs)
theorem Bd.at{g g':G}{b:Nat}{cs:List b0}{v:Int}{rs:List eP}(h:Bd g b cs v rs)(e:Ex g g'):Bd g' b cs v rs:=by
 obtain⟨w,l,d,nb,h1,h2,h3,h4,h5⟩:=h.ex;exact⟨⟨w,l,d,nb,e.at h1,e.at h2,e.at h3,e.at h4,h5.at e⟩⟩
theorem XQ{α:Type}(l:List α)(z:α)(q:α->Bool):((List.range l.length).filter λi=>q (l.getD i z)).length=(l.filter q).length:=by
 have e:l=(List.range l.length).map λi=>l.getD i z:=by
  refine fY λi=>?_;rw[ao];by_cases hi:i<l.length
  ·rw[cN hi,au hi];simp[List.getD,hi]
  ·rw[bf (by omega),bf (by simpa using hi)]
   rfl
 conv=>rhs;rw[e,List.filter_map,ah]
 rfl
theorem Io{n:Nat}{q:Nat->Bool}{s:Nat}{S:Nat->Bool}(h:∀i,i<n->s.testBit i=S i):((Builtin.bitAnd ((gS n q:Nat):Int) (s:Nat)) != 0)=(List.range n).any λi=>S i&&q i:=by
 rw[AI,Nat.and_comm,xB,bh,cA,cA];constructor
 ·rintro⟨i,h1,h2⟩;exact⟨i,h1,by rw[<- h i (aX.mp h1)];exact h2⟩
 ·rintro⟨i,h1,h2⟩;exact⟨i,h1,by rw[h i (aX.mp h1)];exact h2⟩
theorem Zw{n s i:Nat}(h:s<2 ^ n)(hi:i<n):(2 ^ n-1-s).testBit i=!s.testBit i:=by
 rw[show 2 ^ n-1-s=2 ^ n-(s+1) by omega,Nat.testBit_two_pow_sub_succ h,aD hi]
 rfl
theorem X7(s p i:Nat):(s |||2 ^ p).testBit i=(s.testBit i||decide (i=p)):=by
 rw[Nat.testBit_or,Nat.testBit_two_pow]
 congr 1
 exact eU.mpr eq_comm
theorem xO{s p n:Nat}(h:s<2 ^ n)(hp:p<n):s |||2 ^ p<2 ^ n:=Nat.or_lt_two_pow h (Nat.pow_lt_pow_right (by omega) hp)
section
variable{T:Nat->Option aS}{k d:Nat}{g g':G}{Q:KD}{E:KX}{a b c:Nat}{cs:List b0}{rs:List eP}{v:Int}
theorem Za(hT:gy T){r:eP}(ha:g[a]?=some (.lst (cs.map b0.d)))(hz:cs.length<=1000)(h:∀g',Ex g g'->Q (.bl (m5 cs r)) g'):b7 T (k+4) 88 [.ref a,r.d] g Q E:=by
 refine call_of hT.Mc rfl ?_;dsimp[Bo,c8,List.replicate];walk_at"";refine A8 (l:=[.str r.w.s,.int r.x,.int r.y]) rfl ?_;walk_at"";refine P0 (in_words ?_);walk_at"";refine if2 (λh1=>?_) (λh1=>?_)
 ·walk_at"";have:m5 cs r=false:=by unfold m5;rw[aD h1];rfl
  rw[<- this];exact h _ (Ex.refl _)
 ·walk_at"";refine E2 (k:=k) hT.nf hT.jT hT.nE ha hz λg1 b1 e1 _ uj=>?_;walk_at"";refine ne_nil ((Ex.snoc _ _).at uj) c5 ?_;walk_at"";cases h2:(fM cs r.w r.x).isEmpty with
  |true =>
   refine fG rfl ?_;have:m5 cs r=false:=by unfold m5;rw[aE h1,h2];rfl
   rw[<- this];exact h _ (e1.trans (Ex.snoc _ _))
  |false =>
   refine gJ rfl ?_;walk_at"";refine E2 (k:=k) hT.nf hT.jT hT.nE ((e1.trans (Ex.snoc _ _)).at ha) hz λg2 b2 e2 _ ui=>?_;walk_at"";refine ne_nil ((Ex.snoc _ _).at ui) c5 ?_;have:m5 cs r=!(fM cs r.w r.y).isEmpty:=by unfold m5;rw[aE h1,h2];rfl
   rw[<- this];exact h _ ((e1.trans (Ex.snoc _ _)).trans (e2.trans (Ex.snoc _ _)))
theorem VQ(hT:gy T)(ha:g[a]?=some (.lst (cs.map b0.d)))(hz:cs.length<=1000)(hc:g[c]?=some (.lst (j4 rs)))(hr:rs.length<=900)(h:rs.all (m5 cs)=true->∀g',Ex g g'->Q .bx g')(hn:rs.all (m5 cs)=false->∀g',Ex g g'->E ⟨"BadRule"⟩ g'):b7 T (k+5) 89 [.ref a,.ref c] g Q E:=by
 refine call_of hT.Mb rfl ?_;dsimp[U3,c8,List.replicate];walk_at"";refine C9 (a9 T _) (yN ?_);walk_at"";refine⟨c,_,rfl,a8 hc,lB (j4 rs),λi Z g'=>Ex g g'/\(∃z2 z3,Z=[some (.ref a),some (.ref c),z2,z3])/\(rs.take i).all (m5 cs)=true,λi Z g' q=>xl (a8 (q.1.at hc)),⟨Ex.refl _,⟨none,none,rfl⟩,rfl⟩,λi x Z g' hx q=>?_,λZ g' q=>?_⟩
 ·obtain⟨e1,⟨z2,z3,rfl⟩,q⟩:=q;obtain⟨dd,hd,rfl⟩:=xG hx;rw[j4,ao,aa] at hd;obtain⟨r,ly,rfl⟩:=hd;have tk:rs.take (i+1)=rs.take i++[r]:=by rw[bU,ly];rfl
  refine A8 rfl ?_
  try show wpS _ _ _ _ _ _
  walk_at"";refine Za (k:=k) hT (e1.at ha) hz λg2 e2=>?_;walk_at"";cases hg:m5 cs r with
  |true =>
   walk_at"";exact⟨e1.trans e2,⟨_,_,rfl⟩,by rw[tk,List.all_append,q];simp[hg]⟩
  |false =>
   walk_at"";have hi:i<rs.length:=(ak.mp ly).1;refine SS ?_ ?_
   ·have:(i:Int).natAbs<2 ^ 10:=by rw[JA];omega
    rw[JA] at this ⊢;by_cases h0:i=0
    ·subst h0;decide
    ·exact cy ((Nat.log2_lt h0).mpr this) (by decide)
   walk_at"";refine OW rfl ?_;walk_at"";refine hn ?_ _ (e1.trans e2);rw[List.all_eq_false];exact⟨r,aM ly,by rw[hg];decide⟩
 ·obtain⟨e1,⟨z2,z3,rfl⟩,q⟩:=q;rw[L9,j4,ah,cc] at q;exact h q _ e1
theorem X3(hT:gy T)(oA:T 42=some B1)(rA:T 98=some F7)(ha:g[a]?=some (.lst (cs.map b0.d)))(hz:cs.length<=1000)(hc:g[c]?=some (.lst (j4 rs)))(hr:rs.length<=900)(hm:9<cs.length->E ⟨"TooMany"⟩ g)(hb:cs.length<=9->cs.all q8=false->E ⟨"BadCoin"⟩ g)(hv:cs.length<=9->cs.all q8=true->¬(1<=v/\v<=9)->E ⟨"BadAnvils"⟩ g)(hw:cs.length<=9->cs.all q8=true->1<=v/\v<=9->rs.all (m5 cs)=false->∀g',Ex g g'->E ⟨"BadRule"⟩ g')(h:cs.length<=9->cs.all q8=true->1<=v/\v<=9->rs.all (m5 cs)=true->∀g',Ex g g'->Q .bx g'):b7 T (k+7) 98 [.ref a,.int v,.ref c] g Q E:=by
 refine call_of rA rfl ?_;dsimp[F7,c8,List.replicate];walk_at"";refine X2 (k:=k) hT.nf hT.h2 hT.rC hT.uv ha hz hm hb λh9 hg=>?_;walk_at"";refine VW (k:=k+3) hT.nf oA (λv1 v2=>?_) (hv h9 hg);walk_at"";exact VQ (k:=k+1) hT ha hz hc hr (h h9 hg ⟨v1,v2⟩) (hw h9 hg ⟨v1,v2⟩)
theorem Ia{f:Str}{x:D}(fs:List (Str×D)):(j6 f x fs).length<=fs.length+1:=by
 induction fs with
 |nil=>simp[j6]
 |cons y r ih =>
  unfold j6;split<;>simp
  exact ih
theorem V4{f:Str}{x:D}{fs:List (Str×D)}{n:Nat}(h:fs.length+1<n):(j6 f x fs).length<n:=fI (Ia fs) h
theorem V3{f:Str}{x:D}{fs:List (Str×D)}{m n:Nat}(h:fs.length+(m+1)<n):(j6 f x fs).length+m<n:=by
 have:=Ia (f:=f) (x:=x) fs;omega
def f3(n:Nat)(v:Int):List (Str×D):=[("size",.int n),("full",.int ((2 ^ n-1:Nat):Int)),("room",.int v)]
theorem W7(n:Nat)(v:Int):(f3 n v).length=3:=rfl
theorem VP(hT:gy T)(ha:g[a]?=some (.lst (cs.map b0.d)))(hz:cs.length<=9)(hg:cs.all q8=true)(hB:∀c∈cs,CB c)(hc:g[c]?=some (.lst (j4 rs)))(hr:rs.length<=900)(hb:g[b]?=some (.ins "Bounds" []))(h:∀g',g.length<=g'.length->(∀i,i<g.length->i≠b->g'[i]?=g[i]?)->Bd g' b cs v rs->Q .bx g'):b7 T (k+9) 113 [.ref b,.ref a,.int v,.ref c] g Q E:=by
 refine call_of hT.zP rfl ?_;dsimp[U5,c8,List.replicate];have tD:b≠a:=λz=>by subst z;rw[ha] at hb;cases hb
 have wb:b≠c:=λz=>by subst z;rw[hc] at hb;cases hb
 have lb:=j7 hb;walk_at"";refine Y1 hb (by simp) (by simp) ?_;walk_at"";have rm:=f6 (o':=O.ins "Bounds" (j6 "size" (.int (cs.map b0.d).length) [])) ha tD;refine T6 (a8 rm) ?_;walk_at"";refine BB ⟨by omega,by simp;omega,by decide⟩ ?_;walk_at"";refine Y1 (get_set hb) (by simp) (by first|(simp;done)|(refine V4 ?_;repeat (first|(rw[W7];omega)|(simp;done)|refine V3 ?_))) ?_;rw[gQ];walk_at"";refine Y1 (get_set hb) (by simp) (by first|(simp;done)|(refine V4 ?_;repeat (first|(rw[W7];omega)|(simp;done)|refine V3 ?_))) ?_;rw[gQ];have e0:j6 "room" (.int v) (j6 "full" (.int (1*2 ^ Int.toNat ((cs.map b0.d).length:Int)-1)) (j6 "size" (.int (cs.map b0.d).length) []))=(f3 cs.length v):=by
  have:(1*2 ^ Int.toNat ((cs.map b0.d).length:Int)-1:Int)=((2 ^ cs.length-1:Nat):Int):=by
   rw[ah,bV,Int.one_mul];have:=fH (n:=cs.length);rw[Int.natCast_sub this];simp
  rw[this,ah]
  rfl
 simp only[e0];have kp:∀(g1:G) (o:O),Ex (g.set b o) g1->(∀i,i<g.length->i≠b->g1[i]?=g[i]?)/\g.length<=g1.length:=λg1 o e=>⟨λi hi hn=>by rw[e.old i (by simpa using hi),aw (bA hn)],by have:=e.len;simpa using this⟩
 generalize ho:O.ins "Bounds" (f3 cs.length v)=o1;have uj:=get_set (o':=o1) hb;have rm:=f6 (o':=o1) ha tD;have pW:=f6 (o':=o1) hc wb;have k1:=kp _ o1 (Ex.refl _);generalize g.set b o1=g1 at *;subst ho;walk_at"";refine Zb (k:=k+4) hT rm hz hB λg2 w e2 hw1 hw=>?_;walk_at"";refine Y1 (e2.at uj) (by simp) (by rw[W7];omega) ?_;have lw:w≠b:=λz=>by have:=j7 uj;omega
 have zz:=get_set (o':=O.ins "Bounds" (j6 "worn_by_place" (.ref w) (f3 cs.length v))) (e2.at uj);have KC:=f6 (o':=O.ins "Bounds" (j6 "worn_by_place" (.ref w) (f3 cs.length v))) hw lw.symm;have wA:=f6 (o':=O.ins "Bounds" (j6 "worn_by_place" (.ref w) (f3 cs.length v))) (e2.at rm) tD;have wx:=f6 (o':=O.ins "Bounds" (j6 "worn_by_place" (.ref w) (f3 cs.length v))) (e2.at pW) wb;have k3:(∀i,i<g.length->i≠b->(g2.set b (O.ins "Bounds" (j6 "worn_by_place" (.ref w) (f3 cs.length v))))[i]?=g[i]?)/\g.length<=(g2.set b (O.ins "Bounds" (j6 "worn_by_place" (.ref w) (f3 cs.length v)))).length:=⟨λi hi hn=>by rw[aw (bA hn),e2.old i (by have:=k1.2;omega)];exact k1.1 i hi hn,by simp;have:=e2.len;have:=k1.2;omega⟩
 generalize g2.set b (O.ins "Bounds" (j6 "worn_by_place" (.ref w) (f3 cs.length v)))=g3 at *;walk_at"";refine WY (k:=k+4) hT wA hz λg4 l e4 iX hl=>?_;walk_at"";refine Y1 (e4.at zz) (by simp) (by first|(simp;done)|(refine V4 ?_;repeat (first|(rw[W7];omega)|(simp;done)|refine V3 ?_))) ?_;have ll:l≠b:=λz=>by have:=j7 zz;omega
 generalize ho:O.ins "Bounds" (j6 "later_by_place" (.ref l) (j6 "worn_by_place" (.ref w) (f3 cs.length v)))=o5;have zy:=get_set (o':=o5) (e4.at zz);have KA:=f6 (o':=o5) (e4.at KC) lw.symm;have Ld:=f6 (o':=o5) hl ll.symm;have Eg:=f6 (o':=o5) (e4.at wA) tD;have Ly:=f6 (o':=o5) (e4.at wx) wb;have k5:(∀i,i<g.length->i≠b->(g4.set b o5)[i]?=g[i]?)/\g.length<=(g4.set b o5).length:=⟨λi hi hn=>by rw[aw (bA hn),e4.old i (by have:=k3.2;omega)];exact k3.1 i hi hn,by simp;have:=e4.len;have:=k3.2;omega⟩
 generalize g4.set b o5=g5 at *;subst ho;walk_at"";refine VI (k:=k) hT Eg hz hg λg6 dd e6 Ed hd=>?_;walk_at"";refine Y1 (e6.at zy) (by simp) (by first|(simp;done)|(refine V4 ?_;repeat (first|(rw[W7];omega)|(simp;done)|refine V3 ?_))) ?_;have ld:dd≠b:=λz=>by have:=j7 zy;omega
 generalize ho:O.ins "Bounds" (j6 "lower_dies" (.ref dd) (j6 "later_by_place" (.ref l) (j6 "worn_by_place" (.ref w) (f3 cs.length v))))=o7;have zx:=get_set (o':=o7) (e6.at zy);have Kz:=f6 (o':=o7) (e6.at KA) lw.symm;have Lc:=f6 (o':=o7) (e6.at Ld) ll.symm;have Lv:=f6 (o':=o7) hd ld.symm;have LK:=f6 (o':=o7) (e6.at Eg) tD;have Lx:=f6 (o':=o7) (e6.at Ly) wb;have k7:(∀i,i<g.length->i≠b->(g6.set b o7)[i]?=g[i]?)/\g.length<=(g6.set b o7).length:=⟨λi hi hn=>by rw[aw (bA hn),e6.old i (by have:=k5.2;omega)];exact k5.1 i hi hn,by simp;have:=e6.len;have:=k5.2;omega⟩
 generalize g6.set b o7=g7 at *;subst ho;walk_at"";refine Xb (k:=k+4) hT LK hz Lx hr λg8 nb e8 hn1 hn=>?_;walk_at"";refine Y1 (e8.at zx) (by simp) (by first|(simp;done)|(refine V4 ?_;repeat (first|(rw[W7];omega)|(simp;done)|refine V3 ?_))) ?_;have lb7:=j7 zx;have ln:nb≠b:=λz=>by omega
 generalize ho:O.ins "Bounds" (j6 "needed_by_place" (.ref nb) (j6 "lower_dies" (.ref dd) (j6 "later_by_place" (.ref l) (j6 "worn_by_place" (.ref w) (f3 cs.length v)))))=o9;refine h _ (by simp;have:=e8.len;have:=k7.2;omega) (λi hi hn=>by rw[aw (bA hn),e8.old i (by have:=k7.2;omega)];exact k7.1 i hi hn) ⟨⟨w,l,dd,nb,?_,f6 (e8.at Kz) lw.symm,f6 (e8.at Lc) ll.symm,f6 (e8.at Lv) ld.symm,?_⟩⟩
 ·rw[get_set (e8.at zx),<- ho]
  rfl
 ·obtain⟨as,q1,q2,q3,q4,q5⟩:=hn.ex;exact⟨⟨as,f6 q1 ln.symm,q2,q3,λx hx=>⟨by omega,(q4 x hx).2⟩,λi x hx=>let ⟨ms,m1,m2⟩:=q5 i x hx;⟨ms,f6 m1 (λz=>by have:=(q4 x (aM hx)).1;omega),m2⟩⟩⟩
end
section
variable{T:Nat->Option aS}{k d:Nat}{g g':G}{Q:KD}{E:KX}{a b c:Nat}{cs:List b0}{rs:List eP}{v:Int}
theorem VR(hT:gy T)(B:Bd g b cs v rs)(hz:cs.length<=9){s p:Nat}(hs:s<2 ^ cs.length)(hp:p<cs.length)(h:∀g',Ex g g'->Q (.int (Bv cs s.testBit p:Nat)) g'):b7 T (k+2) 100 [.ref b,.int (s:Nat),.int (p:Nat)] g Q E:=by
 refine call_of hT.zT rfl ?_;dsimp[Z0,c8,List.replicate];obtain⟨w,l,dd,nb,h1,h2,h3,h4,h5⟩:=B.ex;walk_at"";refine A1 (k:=k) hT.nD (by omega) ?_;walk_at"";refine R7 h1 rfl ?_;walk_at"";have e1:((2 ^ cs.length-1:Nat):Int)-(s:Nat)=((2 ^ cs.length-1-s:Nat):Int):=by omega
 rw[e1];have zg:(l9 (cs.map b0.lo)).length<=9:=aC (N6 _) (by simpa using hz);have Ec:(U9 cs).length=(l9 (cs.map b0.lo)).length:=by simp[U9]
 refine E5 (a9 T _) (λZ=>∃z2 z3,Z=[some (.int ((2 ^ cs.length-1-s:Nat):Int)),some (.int ((s |||2 ^ p:Nat):Int)),z2,z3]) (λi=>uV cs s.testBit p ((l9 (cs.map b0.lo)).getD i 0)) (λi=>(U9 cs).getD i .bx) (l:=U9 cs) (k:=.lst dd) (λg' e=>v9 (a8 (e.at h4))) (by rw[Ec];omega) ⟨none,none,rfl⟩ (λi x Z g' hx e sh=>?_) (λg' e=>?_) (qu (a9 T _) (a8 h4) λQ q=>?_)
 ·obtain⟨z2,z3,rfl⟩:=sh;have oq:=hx;rw[U9,ao,aa] at oq;obtain⟨js,hd,rfl⟩:=oq;have eg:(l9 (cs.map b0.lo)).getD i 0=js:=by simp[List.getD,hd]
  refine o6 ?_
  try show cK _ _ _ _ _ _
  walk_at"";refine vb ?_;walk_at"";have b1:=Io (n:=cs.length) (q:=meant cs .lower js) (s:=s |||2 ^ p) (S:=λi=>s.testBit i||decide (i=p)) (λi _=>X7 s p i);have b2:=Io (n:=cs.length) (q:=meant cs .lower js) (s:=2 ^ cs.length-1-s) (S:=λi=>!s.testBit i) (λi hi=>Zw hs hi);rw[b1,eg];have hu:uV cs s.testBit p js=(((List.range cs.length).any λi=>(s.testBit i||decide (i=p))&&meant cs .lower js i)&&(List.range cs.length).any λi=>!s.testBit i&&meant cs .lower js i):=rfl;rw[hu];cases (List.range cs.length).any λi=>(s.testBit i||decide (i=p))&&meant cs .lower js i with
  |false =>
   refine fG rfl ?_;exact⟨rfl,e,fG rfl ⟨_,_,rfl⟩⟩
  |true =>
   refine gJ rfl ?_;walk_at"";refine vb ?_;walk_at"";rw[b2,Bool.true_and];refine⟨rfl,e,?_⟩;cases (List.range cs.length).any λi=>!s.testBit i&&meant cs .lower js i with
   |false=>exact fG rfl ⟨_,_,rfl⟩
   |true =>
    refine gJ rfl ?_;walk_at"";refine⟨?_,e,_,_,rfl⟩;simp[List.getD,hx]
 ·refine T6 (a8 c5) ?_;have:(((List.range (U9 cs).length).filter λi=>uV cs s.testBit p ((l9 (cs.map b0.lo)).getD i 0)).map λi=>(U9 cs).getD i .bx).length=Bv cs s.testBit p:=by
   rw[ah,Ec,XQ (l9 (cs.map b0.lo)) 0 (uV cs s.testBit p)]
   rfl
  rw[this];exact h _ (e.trans (Ex.snoc _ _))
 ·walk_at"";exact R7 h1 rfl q
theorem Hw{q:b0->b0->Bool}{p:Nat}(hp:p<cs.length):fE (qP cs q) (p:Int)=some (.int ((gS cs.length λj=>q (eM cs j) (eM cs p):Nat):Int)):=F4 (by rw[qP,ao,cN hp];rfl)
theorem Ip{s n:Nat}{q:Nat->Bool}:((Builtin.bitAnd (s:Nat) ((gS n q:Nat):Int)) != 0)=(List.range n).any λi=>s.testBit i&&q i:=by rw[AI,xB]
theorem VJ(hT:gy T)(B:Bd g b cs v rs)(hz:cs.length<=9)(hr:rs.length<=900){s p:Nat}(hs:s<2 ^ cs.length)(hp:p<cs.length)(h:∀g',Ex g g'->Q (wI (fault cs v rs s.testBit p)) g'):b7 T (k+3) 101 [.ref b,.int (s:Nat),.int (p:Nat)] g Q E:=by
 refine call_of hT.zS rfl ?_;dsimp[Y7,c8,List.replicate];obtain⟨w,l,dd,nb,h1,h2,h3,h4,h5⟩:=B.ex;walk_at"";refine R7 h1 rfl ?_;walk_at"";refine q9 (a8 h2) (Hw hp) ?_;refine vb ?_;walk_at"";rw[Ip];cases c1:(List.range cs.length).any λi=>s.testBit i&&mw (eM cs i) (eM cs p) with
 |true =>
  refine gJ rfl ?_;walk_at"";have:fault cs v rs s.testBit p="wear":=by unfold fault rZ;rw[aH c1]
  rw[this] at h;exact h _ (Ex.refl _)
 |false =>
 refine fG rfl ?_;walk_at"";refine R7 h1 rfl ?_;walk_at"";refine q9 (a8 h3) (Hw hp) ?_;refine vb ?_;walk_at"";rw[Ip];cases c2:(List.range cs.length).any λi=>s.testBit i&&kn (eM cs i) (eM cs p) with
 |true =>
  refine gJ rfl ?_;walk_at"";have:fault cs v rs s.testBit p="year":=by unfold fault rZ vg;rw[az (by rw[c1];decide),aH c2]
  rw[this] at h;exact h _ (Ex.refl _)
 |false =>
 refine fG rfl ?_;walk_at"";refine VR (k:=k) hT B hz hs hp λg2 e2=>?_;walk_at"";refine R7 (e2.at h1) rfl ?_;walk_at"";refine if2 (λc3=>?_) (λc3=>?_)
 ·walk_at"";have:fault cs v rs s.testBit p="anvil":=by unfold fault rZ vg;rw[az (by rw[c1];decide),az (by rw[c2];decide),aH c3]
  rw[this] at h;exact h _ e2
 walk_at"";obtain⟨as,q1,q2,q3,q4,q5⟩:=h5.ex;have KO:p<as.length:=by omega
 have zA:=au KO;generalize as[p]=ap at zA;obtain⟨ms,m1,m2,m3⟩:=q5 p ap zA;refine comp_map (a9 T _) (λZ=>∃z1 z2,Z=[some (.int (s:Nat)),z1,z2]) (λi=>.int ((s &&& ms.getD i 0:Nat):Int)) (l:=d5 ms) (k:=.lst ap) (λg' e=>v9 (a8 ((e2.trans e).at m1))) (by simp[d5];omega) ⟨none,none,rfl⟩ (λi x Z g' hx e sh=>?_) (λg' e=>?_) (qu (a9 T _) (a8 (e2.at m1)) λQ q=>?_)
 ·obtain⟨z1,z2,rfl⟩:=sh;rw[d5,ao,aa] at hx;obtain⟨m,hm,rfl⟩:=hx;refine o6 ?_
  try show aP _ _ _ _ _ _
  walk_at"";refine vb ?_;refine⟨?_,e,_,_,rfl⟩;rw[AI];simp[List.getD,hm]
 ·refine Ux (ns:=(List.range (d5 ms).length).map λi=>((s &&& ms.getD i 0:Nat):Int)) (a8 (by rw[eF];exact c5)) ?_;have en:(((List.range (d5 ms).length).map λi=>((s &&& ms.getD i 0:Nat):Int)).all λn=>n != 0)=xb cs rs s.testBit p:=by
   rw[bh,cj];unfold xb;rw[cj];constructor
   ·intro hA r hr;cases zc:meant cs r.w r.y p with
    |false=>rfl
    |true =>
     have hm:=(m3 (gS cs.length (meant cs r.w r.x))).mpr ⟨r,hr,zc,rfl⟩;obtain⟨i,hi⟩:=eR.mp hm;have DT:=(ak.mp hi).1;have:=hA ((s &&& gS cs.length (meant cs r.w r.x):Nat):Int) (aR.mpr ⟨i,aX.mpr (by simpa[d5] using DT),by simp[List.getD,hi]⟩);rw[xB] at this;exact this
   ·intro hA x hx;obtain⟨i,hi,rfl⟩:=aR.mp hx;have hi:i<ms.length:=by simpa[d5] using hi
    have hm:ms.getD i 0∈ms:=by simp[List.getD,hi]
    obtain⟨r,hr,zc,em⟩:=(m3 _).mp hm;have:=hA r hr;rw[zc,Bool.not_true,pe] at this;rw[em,xB];exact this
  rw[en];walk_at"";cases c4:xb cs rs s.testBit p with
  |true =>
   walk_at"";have:fault cs v rs s.testBit p="":=by unfold fault rZ vg;rw[az (by rw[c1];decide),az (by rw[c2];decide),az c3,aH c4]
   rw[this] at h;exact h _ (e2.trans (e.trans (Ex.snoc _ _)))
  |false =>
   walk_at"";have:fault cs v rs s.testBit p="rule":=by unfold fault rZ vg;rw[az (by rw[c1];decide),az (by rw[c2];decide),az c3,az (by rw[c4];decide)]
   rw[this] at h;exact h _ (e2.trans (e.trans (Ex.snoc _ _)))
 ·walk_at"";refine R7 (e2.at h1) rfl ?_;walk_at"";exact q9 (a8 (e2.at q1)) (F4 (by rw[ao,zA];rfl)) q
end
def rV:aS:=⟨2,5,(.seq (.set 2 (cU (.prim .lst (qK (dH "coin") (dH "coin") (dH "lower") (dH "upper"))) (.call 4 (cE aI (aU 4))))) (.seq (.set 3 (dk .ir (dk .len aT))) (.seq (.ifs (dc .Eq bc (dH "lower")) (.seq (.set 3 (dk .sset (.comp [] 2 (.one 1) (.fA aT) .no (cU aT (aU 0))))) .pass) .pass) (.seq (.ifs (dc .Eq bc (dH "upper")) (.seq (.set 3 (dk .sset (.comp [] 2 (.one 1) (.fA aT) .no (cU aT (aU 2))))) .pass) .pass) (.seq (.ifs (dc .Lt (dk .len bQ) (aU 2)) (.seq (.ret (.lit .bx)) .pass) .pass) (.seq (.set 4 (.call 4 (cE aI (dk .len bQ)))) (.seq (.ret (.prim .tup (fy bc (cU bQ cI) (cU bQ (bT (.bin .Mod) (bT (.bin .Add) (bT (.bin .Add) cI (aU 1)) (.call 4 (cE aI (bT (.bin .Sub) (dk .len bQ) (aU 1))))) (dk .len bQ)))))) .pass)))))))⟩
def As:aS:=⟨2,5,(.seq (.set 2 (.prim .lst .nil)) (.seq (.cS (.one 3) (.et (cU (.prim .lst (wG (aU 0) (aU 0) (aU 1) (aU 1) (aU 2) (aU 4))) (.call 4 (cE aI (aU 6))))) (.seq (.set 4 (.call 105 (cE aI aT))) (.seq (.ifs (dc .IsNot cI (.lit .bx)) (.seq (.expr (.dZ .append bc (dU cI))) .pass) .pass) .pass))) (.seq (.ret bc) .pass)))⟩
def xn:aS:=⟨2,4,(.seq (.kJ (.many [2,3]) (.call 26 (cE aI aT))) (.seq (.ret (.prim .tup (fy bc bQ (.call 106 (cE aI bc))))) .pass))⟩
structure vA(T:Nat->Option aS):Prop where
 lf:LF T
 zR:T 105=some rV
 zQ:T 106=some As
theorem xr{cs:List b0}{w:RW}{x:Int}{i:Nat}(hi:i<cs.length)(h:meant cs w x i=true):(fM cs w x).isEmpty=false:=by
 cases e:fM cs w x with
 |nil =>
  have:i∈fM cs w x:=bu.mpr ⟨aX.mpr hi,h⟩;rw[e] at this;cases this
 |cons _ _=>rfl
section
variable{T:Nat->Option aS}{k d:Nat}{g g':G}{Q:KD}{E:KX}{a b c:Nat}{cs:List b0}{rs:List eP}{v:Int}
theorem FY{ns:List Int}{x:Int}:x∈l9 ns↔x∈ns:=by
 rw[(O5 ns).mem_iff,ST.Gw];simp
theorem ZA(ns:List Int):(l9 ns).Nodup:=(O5 ns).nodup_iff.mpr (ST.FZ _ _ (by simp))
theorem Gf(hT:vA T)(D0:i0 g d){w:RW}{L:List Int}{sL:Nat}{N:Ends}(hN:N.rt=Q)(hL:g[sL]?=some (.lst (L.map .int)))(hd:sL≠d)(nd:L.Nodup)(hl:L.length<=9)(hm:∀x∈L,(fM cs w x).isEmpty=false)(h:∀g',i0 g' d->Gr d g g'->Q .bx g'/\∀r,m5 cs r=true->Q r.d g'):wpS (b7 T (k+1)) (match rV.body with|.seq _ (.seq _ (.seq _ (.seq _ b)))=>b|x=>x) N [some (.ref d),some (.ref a),some (.str w.s),some (.ref sL),none] g E:=by
 subst hN;dsimp[rV];walk_at"";refine if2 (λh2=>?_) (λh2=>?_)
 ·walk_at"";exact(h g D0 (Gr.refl _ _)).1
 rw[ah] at h2;walk_at"";refine d8 (k:=k) hT.lf.pull D0 (by rw[ah];omega) (by rw[ah];omega) λr1 g1 h0 h1 D1 G1=>?_;rw[ah] at h1;walk_at"";obtain⟨j,rfl⟩:∃j:Nat,r1=j:=⟨r1.toNat,by omega⟩
 have hj:j<L.length:=by omega
 have gj:fE (L.map D.int) (j:Int)=some (.int L[j]):=F4 (by rw[ao,au hj];rfl);refine q9 (a8 (G1.at hd hL)) gj ?_;walk_at"";refine T6 (a8 (G1.at hd hL)) ?_;walk_at"";refine d8 (k:=k) hT.lf.pull D1 (by rw[ah];omega) (by rw[ah];omega) λr2 g2 k0 k1 D2 G2=>?_;rw[ah] at k1;walk_at"";have qa:=(G1.trans G2).at hd hL;refine T6 (a8 qa) ?_;walk_at"";refine P4 (by rw[ah];omega) ?_;obtain⟨j2,rfl⟩:∃j:Nat,r2=j:=⟨r2.toNat,by omega⟩
 have em:((j:Int)+1+(j2:Nat)) % ((L.map D.int).length:Nat)=(((j+1+j2) % L.length:Nat):Int):=by rw[ah,Int.natCast_emod,show((j+1+j2:Nat):Int)=(j:Int)+1+(j2:Nat) by omega]
 rw[em];have DS:(j+1+j2) % L.length<L.length:=Jy _ (by omega);have dw:(j+1+j2) % L.length≠j:=by
  by_cases hc:j+1+j2<L.length
  ·rw[Nat.mod_eq_of_lt hc];omega
  ·rw[Nat.mod_eq_sub_mod (by omega),Nat.mod_eq_of_lt (by omega)];omega
 generalize (j+1+j2) % L.length=j3 at *;have Mv:fE (L.map D.int) (j3:Int)=some (.int L[j3]):=F4 (by rw[ao,au DS];rfl);refine q9 (a8 qa) Mv ?_;walk_at"";refine(h g2 D2 (G1.trans G2)).2 ⟨w,L[j],L[j3]⟩ ?_;unfold m5;rw[hm _ (cQ hj),hm _ (cQ DS),aE (λz=>dw ((kF nd).mp z).symm)]
 rfl
theorem RO(hT:vA T)(ha:g[a]?=some (.lst (cs.map b0.d)))(hz:cs.length<=9)(hd:d<a)(D0:i0 g d)(h:∀g',i0 g' d->Gr d g g'->Q .bx g'/\∀r,m5 cs r=true->Q r.d g'):b7 T (k+2) 105 [.ref d,.ref a] g Q E:=by
 refine call_of hT.zR rfl ?_;dsimp[rV,c8,List.replicate];walk_at"";refine d8 (k:=k) hT.lf.pull (D0.snoc _) (by decide) (by decide) λr0 g1 h0 h1 D1 G1=>?_;have CJ:=(Gr.snoc d g _).trans G1;have rm:=CJ.at (bB hd) ha;have l1:=CJ.len;have dl:=D0.lt;have hw:∃w:RW,fE [D.str "coin",D.str "coin",D.str "lower",D.str "upper"] r0=some (.str w.s):=by
  obtain⟨j,rfl⟩:∃j:Nat,r0=j:=⟨r0.toNat,by omega⟩
  have:j=0\/j=1\/j=2\/j=3:=by omega
  rcases this with rfl|rfl|rfl|rfl
  ·exact⟨.dA,rfl⟩
  ·exact⟨.dA,rfl⟩
  ·exact⟨.lower,rfl⟩
  ·exact⟨.upper,rfl⟩
 obtain⟨w,hw⟩:=hw;walk_at"";refine q9 (a8 (G1.at (bB dl) c5)) hw ?_;walk_at"";refine qT (by omega) (by simp;omega) ?_;walk_at"";have e2:=Ex.snoc g1 (O.lst (j5 0 (Int.toNat ((cs.map b0.d).length:Nat))));have ou:=c5 (g:=g1) (o:=O.lst (j5 0 (Int.toNat ((cs.map b0.d).length:Nat))));generalize g1++[O.lst (j5 0 (Int.toNat ((cs.map b0.d).length:Nat)))]=g2 at *;have wB:=e2.at rm;have D2:=e2.draw D1;have G2:=CJ.trans (e2.gr d);have fld:∀(f:Int) (w:RW) (N:Ends),(f=0\/f=2)->(∀i c,cs[i]?=some c->∀x,meant cs w x i=decide (M0 f c=x))->N.rt=Q->aP (b7 T (k+1)) (.prim .sset (.cons (.comp [] 2 (.one 1) (.fA (.var 1)) .no (.prim .ix (.cons (.var 1) (.cons (.lit (.int f)) .nil)))) .nil)) [some (.ref d),some (.ref a),some (.str w.s),some (.ref g1.length),none] g2 (λx g3=>wpS (b7 T (k+1)) (match rV.body with|.seq _ (.seq _ (.seq _ (.seq _ b)))=>b|x=>x) N [some (.ref d),some (.ref a),some (.str w.s),some x,none] g3 E) E:=λf w N hf hm hN=>by
  walk_at"";refine comp_map (a9 T _) (λZ=>∃z0 z1,Z=[z0,z1]) (λi=>.int (M0 f (eM cs i))) (l:=cs.map b0.d) (k:=.lst a) (λg' e=>v9 (a8 (e.at wB))) (by simp;omega) ⟨none,none,rfl⟩ (λi x Z g' hx e sh=>?_) (λg' e=>?_) (qu (a9 T _) (a8 wB) λQ q=>w_var (d:=.ref a) rfl q)
  ·obtain⟨z0,z1,rfl⟩:=sh;rw[ao,aa] at hx;obtain⟨c,hc,rfl⟩:=hx;refine o6 ?_
   try show aP _ _ _ _ _ _
   walk_at"";refine B9 (xi hf c) ?_;exact⟨by rw[w5 hc],e,_,_,rfl⟩
  ·refine Hk (ns:=(List.range cs.length).map λi=>M0 f (eM cs i)) (a8 (by rw[eF];rw[c5,ah];rfl)) (by simp;omega) ?_;have e3:=(e.trans (Ex.snoc g' (O.lst ((List.range (cs.map b0.d).length).map λi=>D.int (M0 f (eM cs i)))))).trans (Ex.snoc _ (O.lst ((l9 ((List.range cs.length).map λi=>M0 f (eM cs i))).map .int)));have zg:(l9 ((List.range cs.length).map λi=>M0 f (eM cs i))).length<=9:=aC (N6 _) (by simpa using hz);refine Gf (k:=k) hT (e3.draw D2) hN c5 (by have:=D2.lt;have:=e.len;simp;omega) (ZA _) zg (λx hx=>?_) λg4 D4 G4=>h g4 D4 (G2.trans ((e3.gr d).trans G4));rw[FY] at hx;obtain⟨i,hi,rfl⟩:=aR.mp hx;have hi:=aX.mp hi;have hc:=au hi;refine xr hi ?_;rw[hm i _ hc,w5 hc];exact aD rfl
 cases w with
 |dA =>
  refine fG (by decide +kernel) ?_;walk_at"";refine fG (by decide +kernel) ?_
  try refine N4 ?_
  have er:j5 0 (Int.toNat ((cs.map b0.d).length:Nat))=((List.range cs.length).map λ(i:Nat)=>(i:Int)).map D.int:=by
   simp[j5]
  refine Gf (k:=k) hT (w:=.dA) (L:=(List.range cs.length).map λ(i:Nat)=>(i:Int)) D2 rfl (by rw[<- er];exact ou) (by omega) ?_ (by simpa using hz) (λx hx=>?_) λg4 D4 G4=>h g4 D4 (G2.trans G4)
  ·exact List.pairwise_map.mpr (List.nodup_range.imp λh e=>h (by omega))
  ·obtain⟨i,hi,rfl⟩:=aR.mp hx;exact xr (aX.mp hi) (aD rfl)
 |lower =>
  refine gJ (by decide +kernel) ?_;refine P9 ?_;refine vm ?_;refine b8 (a9 T _) _ _ _ _ _ _ _ (λx g3 q=>?_) (λ_ _ z=>z) (fld 0 .lower ⟨λ_ g'=>Q .bx g',Q,λ_ _=>False,λ_ _=>False⟩ (.inl rfl) (λi c hc x=>by simp only[meant,w5 hc];rfl) rfl);refine vk ?_;walk_at"";refine fG (by decide +kernel) ?_
  try refine N4 ?_
  exact q
 |upper =>
  refine fG (by decide +kernel) ?_;walk_at"";refine gJ (by decide +kernel) ?_;refine P9 ?_;refine vm ?_;exact fld 2 .upper _ (.inr rfl) (λi c hc x=>by simp only[meant,w5 hc];rfl) rfl
end
section
variable{T:Nat->Option aS}{k d:Nat}{g g':G}{Q:KD}{E:KX}{a b c:Nat}{cs:List b0}{rs:List eP}{v:Int}
theorem Z'(hT:vA T)(ha:g[a]?=some (.lst (cs.map b0.d)))(hz:cs.length<=9)(hd:d<a)(D0:i0 g d)(h:∀(rs:List eP) b g',rs.length<=4->rs.all (m5 cs)=true->g'[b]?=some (.lst (j4 rs))->g.length<=b->i0 g' d->Gr d g g'->Q (.ref b) g'):b7 T (k+3) 106 [.ref d,.ref a] g Q E:=by
 refine call_of hT.zQ rfl ?_;dsimp[As,c8,List.replicate];walk_at"";have dl:=D0.lt;have e1:=Ex.snoc g (O.lst []);have DZ:=c5 (g:=g) (o:=O.lst []);have D1:=D0.snoc (O.lst []);generalize g++[O.lst []]=g1 at *;refine C9 (a9 T _) (qr (a9 T _) ?_);walk_at"";refine d8 (k:=k+1) hT.lf.pull (D1.snoc _) (by decide) (by decide) λr0 g2 h0 h1 D2 G2=>?_;have l1:=j7 DZ;have hw:∃j:Nat,j<=4/\fE [D.int 0,D.int 0,D.int 1,D.int 1,D.int 2,D.int 4] r0=some (.int (j:Nat)):=by
  obtain⟨j,rfl⟩:∃j:Nat,r0=j:=⟨r0.toNat,by omega⟩
  have:j=0\/j=1\/j=2\/j=3\/j=4\/j=5:=by omega
  rcases this with rfl|rfl|rfl|rfl|rfl|rfl
  ·exact⟨0,by decide,rfl⟩
  ·exact⟨0,by decide,rfl⟩
  ·exact⟨1,by decide,rfl⟩
  ·exact⟨1,by decide,rfl⟩
  ·exact⟨2,by decide,rfl⟩
  ·exact⟨4,by decide,rfl⟩
 obtain⟨j,hj,hw⟩:=hw;refine q9 (a8 (G2.at (by omega) c5)) hw ?_;refine⟨j,rfl,by omega,by omega,_,λi Z g'=>i0 g' d/\Gr d g g'/\(∃rs:List eP,rs.length<=i/\rs.all (m5 cs)=true/\g'[g.length]?=some (.lst (j4 rs)))/\∃z3 z4,Z=[some (.ref d),some (.ref a),some (.ref g.length),z3,z4],λ_ _ _ _=>A3,⟨D2,(e1.gr d).trans ((Gr.snoc d g1 _).trans G2),⟨[],by simp,rfl,((Gr.snoc d g1 _).trans G2).at (by omega) DZ⟩,none,none,rfl⟩,λi x Z g' hx q=>?_,λZ g' q=>?_⟩
 ·obtain⟨D3,G3,⟨rs,hl,hA,hF⟩,z3,z4,rfl⟩:=q;obtain⟨hi,rfl⟩:=E8 hx;have hi:i<j:=by simpa using hi
  refine o6 ?_
  try show wpS _ _ _ _ _ _
  walk_at"";have wA:=G3.at (bB hd) ha;refine RO (k:=k) hT wA hz hd D3 λg4 D4 G4=>⟨?_,λr hr=>?_⟩
  ·walk_at"";exact⟨D4,G3.trans G4,⟨rs,by omega,hA,G4.at (by omega) hF⟩,_,_,rfl⟩
  ·walk_at"";refine gJ rfl ?_;walk_at"";have zG:=G4.at (by omega) hF
   try refine⟨vq zG,?_⟩
   walk_at"";refine T2 zG (by simp[j4];omega) ?_;walk_at"";refine⟨D4.H9 (by omega),(G3.trans G4).H9 (av _),⟨rs++[r],by simp;omega,by rw[List.all_append,hA];simp[hr],?_⟩,_,_,rfl⟩;rw[get_set zG];simp[j4]
 ·obtain⟨D3,G3,⟨rs,hl,hA,hF⟩,z3,z4,rfl⟩:=q;rw[m8] at hl
  try show wpS _ _ _ _ _ _
  walk_at"";exact h rs _ _ (by simp at hl;omega) hA hF (av _) D3 G3
theorem ZZ(hT:vA T)(qg:T 110=some xn){n:Int}(hn:0<=n/\n<=9)(D0:i0 g d)(h:∀(cs:List b0) (rs:List eP) a c (v:Int) g',(cs.length:Int)<=n->(∀c∈cs,iS c)->g'[a]?=some (.lst (cs.map b0.d))->g.length<=a->rs.length<=4->rs.all (m5 cs)=true->g'[c]?=some (.lst (j4 rs))->g.length<=c->a≠c->1<=v->v<=6->i0 g' d->Gr d g g'->Q (.tup [.ref a,.int v,.ref c]) g'):b7 T (k+5) 110 [.ref d,.int n] g Q E:=by
 refine call_of qg rfl ?_;dsimp[xn,c8,List.replicate];walk_at"";refine XZ (k:=k) hT.lf ⟨hn.1,by omega⟩ D0 λcs a v g1 hl hg ha Ef v1 v2 D1 G1=>?_;refine A8 rfl ?_
 try show wpS _ _ _ _ _ _
 walk_at"";have dl:=D0.lt;refine Z' (k:=k+1) hT ha (by omega) (by omega) D1 λrs c g2 hr hR hc jr D2 G2=>?_;walk_at"";exact h cs rs a c v g2 hl hg (G2.at (by omega) ha) Ef hr hR hc (aC G1.len jr) (aK (ax (j7 ha) jr)) v1 v2 D2 (G1.trans G2)
end
section
variable{T:Nat->Option aS}{k d:Nat}{g g':G}{Q:KD}{E:KX}{a b c hl p:Nat}{cs:List b0}{rs:List eP}{v:Int}{H:List Nat}
end
section
variable{T:Nat->Option aS}{k d:Nat}{g g':G}{Q:KD}{E:KX}{a b c hl p:Nat}{cs:List b0}{rs:List eP}{v:Int}{H:List Nat}
end
def Y8:aS:=⟨3,3,(.seq (.ret (.dB (bT (.cmp .NotEq) (.call 91 (cE aT bc)) aT) (bT (.cmp .Is) (.call 101 (fy aI aT bc)) (.lit .bx)))) .pass)⟩
def Y9:aS:=⟨2,2,(.seq (.ret (.comp [0,1] 4 (.one 3) (.et (dk (.fld "size") aI)) (.fk (.call 115 (fy aI aT bQ))) bQ)) .pass)⟩
def Z8(cs:List b0)(v:Int)(rs:List eP)(s p:Nat):Bool:=!s.testBit p&&decide (fault cs v rs s.testBit p="")
def u6(cs:List b0)(v:Int)(rs:List eP)(s:Nat):List Nat:=(List.range cs.length).filter (Z8 cs v rs s)
theorem Zs(x:Str):N1 (wI x)=decide (x=""):=by
 unfold wI;by_cases h:x=""
 ·rw[aH h,aD h];rfl
 ·rw[az h,aE h];rfl
theorem Vq{s p:Nat}:decide (((s |||2 ^ p:Nat):Int)=(s:Nat))=s.testBit p:=by
 rw[bh,dh];constructor
 ·intro h;have h:s |||2 ^ p=s:=by omega
  have:=X7 s p p;rw[h] at this;rw[this];simp
 ·intro h;have:s |||2 ^ p=s:=Nat.eq_of_testBit_eq λi=>by
   rw[X7];by_cases hi:i=p
   ·subst hi;rw[h];rfl
   ·rw[aE hi,Bool.or_false]
  rw[this]
structure TF(T:Nat->Option aS):Prop where
 qf:T 115=some Y8
 zO:T 116=some Y9
section
variable{T:Nat->Option aS}{k d:Nat}{g g':G}{Q:KD}{E:KX}{a b c hl p:Nat}{cs:List b0}{rs:List eP}{v:Int}{H:List Nat}
theorem XT(hT:gy T)(qf:T 115=some Y8)(B:Bd g b cs v rs)(hz:cs.length<=9)(hr:rs.length<=900){s p:Nat}(hs:s<2 ^ cs.length)(hp:p<cs.length)(h:∀g',Ex g g'->Q (.bl (Z8 cs v rs s p)) g'):b7 T (k+4) 115 [.ref b,.int (s:Nat),.int (p:Nat)] g Q E:=by
 refine call_of qf rfl ?_;dsimp[Y8,c8,List.replicate];walk_at"";refine A1 (k:=k+2) hT.nD (by omega) ?_;walk_at"";rw[Vq];cases hb:s.testBit p with
 |true =>
  refine fG rfl ?_;have:Z8 cs v rs s p=false:=by unfold Z8;rw[hb];rfl
  rw[this] at h;exact h _ (Ex.refl _)
 |false =>
  refine gJ rfl ?_;walk_at"";refine VJ (k:=k) hT B hz hr hs hp λg1 e1=>?_;walk_at"";have:Z8 cs v rs s p=N1 (wI (fault cs v rs s.testBit p)):=by unfold Z8;rw[hb,Zs];rfl
  rw[this] at h;exact h _ e1
theorem R6(hT:gy T)(hF:TF T)(B:Bd g b cs v rs)(hz:cs.length<=9)(hr:rs.length<=900){s:Nat}(hs:s<2 ^ cs.length)(h:∀g' l,Ex g g'->g.length<=l->g'[l]?=some (.lst (d5 (u6 cs v rs s)))->Q (.ref l) g'):b7 T (k+5) 116 [.ref b,.int (s:Nat)] g Q E:=by
 refine call_of hF.zO rfl ?_;dsimp[Y9,c8,List.replicate];obtain⟨w,l,dd,nb,h1,h2,h3,h4,h5⟩:=B.ex;walk_at"";refine E5 (a9 T _) (λZ=>∃z2 z3,Z=[some (.ref b),some (.int (s:Nat)),z2,z3]) (Z8 cs v rs s) (λi=>.int (i:Nat)) (l:=j5 0 cs.length) (λg' e=>A3) (by rw[m8];omega) ⟨none,none,rfl⟩ (λi d Z g' hx e sh=>?_) (λg' e=>?_) (Fb (a9 T _) (by omega:cs.length<=1000) λQ q=>?_)
 ·obtain⟨z2,z3,rfl⟩:=sh;obtain⟨hi,rfl⟩:=E8 hx;rw[sA];refine o6 ?_
  try show cK _ _ _ _ _ _
  walk_at"";refine XT (k:=k) hT hF.qf (B.at e) hz hr hs hi λg2 e2=>?_;walk_at"";refine⟨rfl,e.trans e2,?_⟩;cases Z8 cs v rs s i with
  |true =>
   refine gJ rfl ?_;walk_at"";exact⟨rfl,e.trans e2,_,_,rfl⟩
  |false=>exact fG rfl ⟨_,_,rfl⟩
 ·rw[m8];exact h _ _ (e.trans (Ex.snoc _ _)) e.len c5
 ·walk_at"";exact R7 h1 rfl q
end
def Vx:aS:=⟨2,4,(.seq (.ifs (dc .NotEq (dk .len aT) aI) (.seq (.ret (bT .tup (dH "many") (dk .len aT))) .pass) .pass) (.seq (.cS (.many [2,3]) (.jK aT) (.seq (.ifs (.dY (.fk (.call 1 (fy bQ (aU 0) (bT (.bin .Sub) aI (aU 1)))))) (.seq (.ret (bT .tup (dH "stranger") bc)) .pass) .pass) (.seq (.ifs (dc .In bQ (bT (.lL false true) aT bc)) (.seq (.ret (bT .tup (dH "twice") bc)) .pass) .pass) .pass))) (.seq (.ret (.lit .bx)) .pass)))⟩
def Zx:aS:=⟨2,7,(.seq (.set 2 (.call 102 (cE (dk (.fld "size") aI) aT))) (.seq (.ifs (dc .IsNot bc (.lit .bx)) (.seq (.ret bc) .pass) .pass) (.seq (.set 3 (aU 0)) (.seq (.cS (.many [4,5]) (.jK aT) (.seq (.set 6 (.call 101 (fy aI bQ eL))) (.seq (.ifs (dc .IsNot eh (.lit .bx)) (.seq (.ret (bT .tup eh cI)) .pass) .pass) (.seq (.set 3 (.call 91 (cE bQ eL))) .pass)))) (.seq (.ret (.lit .bx)) .pass)))))⟩
structure TO(T:Nat->Option aS):Prop where
 Mo:T 102=some Vx
 Mn:T 103=some Zx
section
variable{T:Nat->Option aS}{k d:Nat}{g g':G}{Q:KD}{E:KX}{a b c r:Nat}{cs:List b0}{rs:List eP}{v:Int}{ns:List Int}
end
structure Ask(g:G)(a c:Nat)(cs:List b0)(v:Int)(rs:List eP):Prop where
 ha:g[a]?=some (.lst (cs.map b0.d))
 hz:cs.length<=9
 hG:∀c∈cs,iS c
 hv:1<=v/\v<=9
 hc:g[c]?=some (.lst (j4 rs))
 hr:rs.length<=900
 hR:rs.all (m5 cs)=true
section
variable{T:Nat->Option aS}{k d:Nat}{g g':G}{Q:KD}{E:KX}{a b c r:Nat}{cs:List b0}{rs:List eP}{v:Int}{ns:List Int}
theorem Ask.at(h:Ask g a c cs v rs)(e:Ex g g'):Ask g' a c cs v rs:=⟨e.at h.ha,h.hz,h.hG,h.hv,e.at h.hc,h.hr,h.hR⟩
theorem Ask.gr(h:Ask g a c cs v rs)(e:Gr d g g')(h1:a≠d)(h2:c≠d):Ask g' a c cs v rs:=⟨e.at h1 h.ha,h.hz,h.hG,h.hv,e.at h2 h.hc,h.hr,h.hR⟩
theorem Ask.hB(h:Ask g a c cs v rs):∀c∈cs,CB c:=λc hc=>⟨(h.hG c hc).l8,(h.hG c hc).u8⟩
theorem Ask.good(h:Ask g a c cs v rs):cs.all q8=true:=cj.mpr λc hc=>(h.hG c hc).good
end
def FG(n:Nat)(F:Nat->List Nat):Prop:=∀s p,p∈F s->p<n/\s.testBit p=false
def O6(n:Nat)(F:Nat->List Nat):Nat->Nat->List (List Nat)
 |0,s=>if s=2 ^ n-1 then[[]] else[]
 |f+1,s=>if s=2 ^ n-1 then[[]] else(F s).flatMap λp=>(O6 n F f (s |||2 ^ p)).map (p::·)
def n4(n:Nat)(F:Nat->List Nat)(s:Nat):List (List Nat):=O6 n F (2 ^ n) s
theorem xc{s p:Nat}(h:s.testBit p=false):s<s |||2 ^ p:=by
 have h1:s<=s |||2 ^ p:=Nat.left_le_or
 have h2:s |||2 ^ p≠s:=λe=>by
  have:=X7 s p p;rw[e,h] at this;simp at this
 omega
theorem W6{α β:Type}{l:List α}{f g:α->List β}(h:∀x∈l,f x=g x):l.flatMap f=l.flatMap g:=by
 induction l with
 |nil=>rfl
 |cons a r ih=>rw[fX,fX,h a (by simp),ih λx hx=>h x (by simp[hx])]
theorem Gy{n:Nat}{F:Nat->List Nat}(hF:FG n F):∀(f s:Nat),s<2 ^ n->2 ^ n-1-s<=f->O6 n F f s=O6 n F (f+1) s
 |0,s,hs,hf=>by
  have e:s=2 ^ n-1:=by omega
  simp only[O6];rw[aH e,aH e]
 |f+1,s,hs,hf=>by
  rw[O6,O6];by_cases e:s=2 ^ n-1
  ·rw[aH e,aH e]
  ·rw[az e,az e];refine W6 λp hp=>?_;have:=hF s p hp;rw[Gy hF f (s |||2 ^ p) (xO hs this.1) (by have:=xc this.2;omega)]
theorem Gd{n:Nat}{F:Nat->List Nat}{s:Nat}(h:s=2 ^ n-1):n4 n F s=[[]]:=by
 unfold n4;obtain⟨m,hm⟩:∃m,2 ^ n=m+1:=⟨2 ^ n-1,by have:=fH (n:=n);omega⟩
 rw[hm,O6,aH h]
theorem HU{n:Nat}{F:Nat->List Nat}(hF:FG n F){s:Nat}(hs:s<2 ^ n)(h:s≠2 ^ n-1):n4 n F s=(F s).flatMap λp=>(n4 n F (s |||2 ^ p)).map (p::·):=by
 unfold n4;obtain⟨m,hm⟩:∃m,2 ^ n=m+1:=⟨2 ^ n-1,by have:=fH (n:=n);omega⟩
 conv=>lhs;rw[hm,O6,az h]
 refine W6 λp hp=>?_;have:=hF s p hp;rw[hm,<- Gy hF m (s |||2 ^ p) (xO hs this.1) (by omega)]
theorem Sx{n:Nat}{F:Nat->List Nat}(hF:FG n F){s:Nat}(hs:s<2 ^ n)(h:s≠2 ^ n-1):(n4 n F s).length=((F s).map λp=>(n4 n F (s |||2 ^ p)).length).sum:=by
 rw[HU hF hs h,List.length_flatMap];simp[Function.comp_def]
inductive ja(F:Nat->List Nat):Nat->Prop
 |zero:ja F 0
 |step {s p:Nat} (h:ja F s) (hp:p∈F s):ja F (s |||2 ^ p)
theorem ja.lt{n:Nat}{F:Nat->List Nat}(hF:FG n F){s:Nat}(h:ja F s):s<2 ^ n:=by
 induction h with
 |zero=>exact Nat.two_pow_pos _
 |step h hp ih=>exact xO ih (hF _ _ hp).1
theorem W5(cs:List b0)(v:Int)(rs:List eP):FG cs.length (u6 cs v rs):=λs p hp=>by
 obtain⟨h1,h2⟩:=bu.mp hp;unfold Z8 at h2;rw[aN,Bool.not_eq_true'] at h2;exact⟨aX.mp h1,h2.1⟩
theorem XR{α β:Type}{f:α->List β}{l:List α}{j:Nat}{x:α}(hx:l[j]?=some x)(m:Nat):(l.flatMap f)[((l.take j).flatMap f).length+m]?=((l.drop j).flatMap f)[m]?/\(l.drop j).flatMap f=f x++(l.drop (j+1)).flatMap f:=by
 have e:l.flatMap f=(l.take j).flatMap f++(l.drop j).flatMap f:=by rw[<- CO,ic]
 have hj:j<l.length:=(ak.mp hx).1;have ed:l.drop j=x::l.drop (j+1):=by
  rw[dC hj]
  congr 1
  exact(ak.mp hx).2
 constructor
 ·rw[e,cB (by omega)]
  congr 1
  omega
 ·rw[ed,fX]
noncomputable abbrev kN(j:Nat):Key:=.inl (j:Int)
theorem ZW{kvs:List (Key×D)}{c:Key}{x:D}:p6 (putD kvs c x) c=some x:=by
 unfold p6 putD;by_cases h:(kvs.any λkv=>decide (kv.1=c))=true
 ·rw[aH h]
  induction kvs with
  |nil=>cases h
  |cons kv r ih =>
   rw[aW,dQ];by_cases hk:kv.1=c
   ·rw[aH hk];simp[hk]
   ·rw[az hk];simp only[hk,decide_false];refine ih ?_;rw[eX,cw] at h;exact h.resolve_left (by simp[hk])
 ·rw[az h,jY];have:kvs.find? (λkv=>decide (kv.1=c))=none:=by
   rw[jy];exact λkv hk hc=>h (cA.mpr ⟨kv,hk,hc⟩)
  rw[this];simp
theorem Xt{kvs:List (Key×D)}{c c':Key}{x:D}(hn:c≠c'):p6 (putD kvs c x) c'=p6 kvs c':=by
 unfold p6 putD;by_cases h:(kvs.any λkv=>decide (kv.1=c))=true
 ·rw[aH h];clear h
  induction kvs with
  |nil=>rfl
  |cons kv r ih =>
   rw[aW,dQ,dQ];by_cases hk:kv.1=c
   ·rw[aH hk];have:kv.1≠c':=λz=>hn (hk.symm.trans z);simp only[this,decide_false];exact ih
   ·rw[az hk];by_cases mR:kv.1=c'
    ·simp only[mR,decide_true]
    ·simp only[mR,decide_false];exact ih
 ·rw[az h,jY];have:[(c,x)].find? (λkv=>decide (kv.1=c'))=none:=by simp[hn]
  rw[this];simp
theorem ZX{kvs:List (Key×D)}{c:Key}{x:D}:(putD kvs c x).length<=kvs.length+1:=by
 unfold putD;split<;>simp
theorem Vb{i j:Nat}(h:i≠j):kN i≠kN j:=λz=>h (by have:(i:Int)=j:=Sum.inl.inj z;omega)
def B0:aS:=⟨1,5,(.seq (.set 1 (.prim (.jB 0) .nil)) (.seq (.set 2 (.prim .lst .nil)) (.seq (.cS (.one 3) (.et (bT (.bin .Add) (dk (.fld "full") aI) (aU 1))) (.seq (.ifs (dc .In bQ aT) (.seq (.expr (.dZ .append bc (dU bQ))) (.seq (.cS (.one 4) (.fA (.call 116 (cE aI bQ))) (.seq (.expr (.dZ .jC aT (dU (.call 91 (cE bQ cI))))) .pass)) .pass)) .pass) .pass)) (.seq (.ret bc) .pass))))⟩
def AY:aS:=⟨1,3,(.seq (.set 1 (.prim .Z9 .nil)) (.seq (.cS (.one 2) (.mP (.call 117 (dU aI))) (.seq (.ifs (dc .Eq bc (dk (.fld "full") aI)) (.seq (.dF aT bc (aU 1)) .pass) (.seq (.dF aT bc (dk .sum (.comp [2,1] 4 (.one 3) (.fA (.call 116 (cE aI bc))) .no (cU aT (.call 91 (cE aI bQ)))))) .pass)) .pass)) (.seq (.ret aT) .pass)))⟩
def xI:aS:=⟨4,7,(.seq (.set 4 (.call 116 (cE aI bc))) (.seq (.set 5 bQ) (.seq (.set 6 (aU 0)) (.seq (.jA (dc .GtE eL (cU aT (.call 91 (cE bc (cU cI eh))))) (.seq (.jP 5 .lT (cU aT (.call 91 (cE bc (cU cI eh))))) (.seq (.jP 6 .iadd (aU 1)) .pass))) (.seq (.ret (bT .tup (cU cI eh) eL)) .pass)))))⟩
def L6:aS:=⟨3,7,(.seq (.set 3 (.prim .lst .nil)) (.seq (.set 4 (aU 0)) (.seq (.set 5 bc) (.seq (.jA (dc .NotEq cI (dk (.fld "full") aI)) (.seq (.kJ (.many [6,5]) (.call 122 (qK aI aT cI eL))) (.seq (.expr (.dZ .append bQ (dU eh))) (.seq (.set 4 (.call 91 (cE cI eh))) .pass)))) (.seq (.ret bQ) .pass)))))⟩
def M6:aS:=⟨1,2,(.seq (.set 1 (.call 121 (dU aI))) (.seq (.ifs (dc .Eq (cU aT (aU 0)) (aU 0)) (.seq (.ret (.lit .bx)) .pass) .pass) (.seq (.ret (.call 123 (fy aI aT (aU 0)))) .pass)))⟩
theorem HR:∀{l m:List Nat},l.Nodup->(∀x∈l,x∈m)->l.length<=m.length
 |[],m,_,_=>cz _
 |x::r,m,nd,h=>by
  rw[dO] at nd;have:=HR (l:=r) (m:=m.erase x) nd.2 λy hy=>(List.mem_erase_of_ne λz=>nd.1 (by rw[<- z];exact hy)).mpr (h y (by simp[hy]));have hx:=h x (by simp);rw[List.length_erase_of_mem hx] at this;have:=eG hx;simp;omega
section
variable{P:eO}{Z:S}{g:G}{Q:KD}{E:KX}{t:MT}{it elt:ME}{d4:List Nat}{n:Nat}
theorem WJ(hP:i3 P)(h:gb P it Z g (λk g1=>∃(l:List D) (Sh:S->Prop) (w:Nat->D),(∀g',Ex g1 g'->k.Is l g')/\l.length<=1000/\Sh (E1 Z d4 n) /\
      (∀ i d Z g',l[i]?=some d->Ex g1 g'->Sh Z->iT t d Z λbW=>aP P elt bW g' (λy g4=>y=w i/\Ex g1 g4/\Sh bW) iK)/\∀ g',Ex g1 g'->Q (.ref g'.length) (g' ++ [.lst ((List.range l.length).map w)])) E):aP P (.comp d4 n t it .no elt) Z g Q E:=by
  refine J6 hP (y9 hP it _ _ _ _ _ _ (λk g1 h=>?_) (λ_ _ z=>z) h);obtain⟨l,Sh,w,hk,hl,h0,hs,hd⟩:=h;refine⟨l,λi ys Z g'=>Ex g1 g'/\ys=(List.range i).map w/\Sh Z,hl,λi ys Z g' q=>⟨hk _ q.1,by rw[q.2.1];simp⟩,⟨Ex.refl _,rfl,h0⟩,λi x ys Z g' hx q=>?_,λys Z g' q=>?_⟩
  · obtain⟨e1,rfl,sh⟩:=q;refine v5 (λbW q=>BX (lU (b8 hP elt _ _ _ _ _ _ (λy g4 q=>?_) (λ_ _ z=>z) q))) (hs i x Z g' hx e1 sh);obtain⟨rfl,e4,sh⟩:=q;exact⟨e4,by rw[gY,dP];rfl,sh⟩
  · obtain⟨e1,rfl,sh⟩:=q;exact hd g' e1
end
def nM(g:G)(sd n:Nat)(K:List Nat):Prop:=∃S m,g[sd]?=some (.set S m)/\m=K.length/\K.Nodup/\(∀j∈K,j<2 ^ n)/\∀k:Int,S k=true↔∃j∈K,k=(j:Nat)
theorem nM.at{g g':G}{sd n:Nat}{K:List Nat}(h:nM g sd n K)(e:Ex g g'):nM g' sd n K:=let ⟨S,m,h1,h2⟩:=h;⟨S,m,e.at h1,h2⟩
theorem nM.size{g:G}{sd n:Nat}{K:List Nat}(h:nM g sd n K):K.length<=2 ^ n:=by
 obtain⟨S,m,_,_,nd,lt,_⟩:=h;have:=HR (m:=List.range (2 ^ n)) nd λx hx=>aX.mpr (lt x hx);simpa using this
structure TW(T:Nat->Option aS):Prop where
 nG:T 117=some B0
 zN:T 121=some AY
structure Wy(g:G)(w:Nat)(cs:List b0)(v:Int)(rs:List eP):Prop where
 ex:∃kvs,g[w]?=some (.dy kvs)/\∀s,ja (u6 cs v rs) s->p6 kvs (kN s)=some (.int ((n4 cs.length (u6 cs v rs) s).length:Nat))
theorem Wy.at{g g':G}{w:Nat}{cs:List b0}{v:Int}{rs:List eP}(h:Wy g w cs v rs)(e:Ex g g'):Wy g' w cs v rs:=let ⟨kvs,h1,h2⟩:=h.ex;⟨⟨kvs,e.at h1,h2⟩⟩
theorem Yd{l:List Nat}(hl:l.Pairwise (· > ·)){i s x:Nat}(hi:l[i]?=some s)(hx:x∈l)(h:s<x):x∈l.take i:=by
 obtain⟨j,hj,rfl⟩:=cq.mp hx;obtain⟨jM,rfl⟩:=ak.mp hi;have Li:j<i:=by
  rcases eB j i with z|z|z
  ·exact z
  ·subst z;omega
  ·have:=fP.mp hl i j jM hj z;omega
 exact eR.mpr ⟨j,by rw[gi Li,au hj]⟩
theorem Cw{n:Nat}(h:n<=9):1<=2 ^ n/\2 ^ n<=512:=⟨fH,ye (by omega) h⟩
section
variable{T:Nat->Option aS}{k d:Nat}{g g':G}{Q:KD}{E:KX}{a b c r:Nat}{cs:List b0}{rs:List eP}{v:Int}
theorem GB(hT:gy T)(hF:TF T)(nG:T 117=some B0)(B:Bd g b cs v rs)(hz:cs.length<=9)(hr:rs.length<=900)(h:∀(L:List Nat) l g',Ex g g'->g.length<=l->g'[l]?=some (.lst (d5 L))->L.Pairwise (· < ·)->(∀s,s∈L↔ja (u6 cs v rs) s)->L.length<=512->Q (.ref l) g'):b7 T (k+6) 117 [.ref b] g Q E:=by
 refine call_of nG rfl ?_;dsimp[B0,c8,List.replicate];have kx:=W5 cs v rs;generalize oz:u6 cs v rs=F at *;obtain⟨w0,l0,dd,nb,f1,f2,f3,f4,f5⟩:=B.ex;have p2:=Cw hz;walk_at"";refine Rt ?_;have s1:nM (g++[O.set (λk=>decide (k=0)) 1]) g.length cs.length [0]:=⟨_,_,c5,rfl,by simp,by simp;omega,λk=>by simp⟩
 have e1:=Ex.snoc g (O.set (λk=>decide (k=0)) 1);generalize g++[O.set (λk=>decide (k=0)) 1]=g1 at *;walk_at"";have e2:=e1.trans (Ex.snoc g1 (O.lst []));have s2:=s1.at (Ex.snoc g1 (O.lst []));have t2:=c5 (g:=g1) (o:=O.lst []);have l1:g.length<g1.length:=by obtain⟨_,_,z,_⟩:=s1;exact j7 z
 generalize g1++[O.lst []]=g2 at *;generalize g1.length=tl at *;refine C9 (a9 T _) (qr (a9 T _) ?_);walk_at"";refine R7 (e2.at f1) rfl ?_;walk_at"";have en:((2 ^ cs.length-1:Nat):Int)+1=((2 ^ cs.length:Nat):Int):=by omega
 rw[en];refine⟨by omega,by omega,j5 0 (2 ^ cs.length),λt Z g'=>Ex g g'/\(∃K,nM g' g.length cs.length K/\∀j,j∈K↔j=0\/∃s p,s<t/\ja F s/\p∈F s/\j=s |||2 ^ p)/\(∃L,g'[tl]?=some (.lst (d5 L))/\L.Pairwise (· < ·)/\(∀s,s∈L↔s<t/\ja F s)/\L.length<=t)/\∃z3 z4,Z=[some (.ref b),some (.ref g.length),some (.ref tl),z3,z4],λ_ _ _ _=>by rw[bV];exact A3,⟨e2,⟨[0],s2,λj=>by simp⟩,⟨[],t2,by simp,by simp,by simp⟩,none,none,rfl⟩,λt x Z g' hx q=>?_,λZ g' q=>?_⟩
 ·obtain⟨e3,⟨K,s3,hK⟩,⟨L,t3,pw,hL,rn⟩,z3,z4,rfl⟩:=q;obtain⟨ht,rfl⟩:=E8 hx;rw[sA];have mf:t∈K↔ja F t:=by
   rw[hK];constructor
   ·rintro(rfl|⟨s,p,_,h2,h3,rfl⟩)
    ·exact .zero
    ·exact .step h2 h3
   ·intro h;cases h with
    |zero=>exact .inl rfl
    |step h hp=>exact .inr ⟨_,_,xc (kx _ _ hp).2,h,hp,rfl⟩
  refine o6 ?_
  try show wpS _ _ _ _ _ _
  walk_at"";obtain⟨S,m,sg,sm,snd,slt,sS⟩:=id s3;refine UD sg ?_;walk_at"";have Eh:S (t:Nat)=true↔ja F t:=by
   rw[sS,<- mf];exact⟨λ⟨j,hj,e⟩=>by rw[show t=j by omega];exact hj,λz=>⟨t,z,rfl⟩⟩
  cases hb:S (t:Nat) with
  |false =>
   have lz:¬ja F t:=λz=>by rw[Eh.mpr z] at hb;cases hb
   refine fG rfl ?_;walk_at"";refine⟨e3,⟨K,s3,λj=>(hK j).trans ⟨?_,?_⟩⟩,⟨L,t3,pw,λs=>(hL s).trans ⟨λz=>⟨by omega,z.2⟩,λz=>⟨?_,z.2⟩⟩,by omega⟩,_,_,rfl⟩
   ·rintro(z|⟨s,p,h1,h2⟩)
    ·exact .inl z
    ·exact .inr ⟨s,p,by omega,h2⟩
   ·rintro(z|⟨s,p,h1,h2,h3⟩)
    ·exact .inl z
    ·refine .inr ⟨s,p,?_,h2,h3⟩;rcases eE s t with y|y
     ·exact y
     ·exact absurd (show ja F t by rw[show t=s by omega];exact h2) lz
   ·rcases eE s t with y|y
    ·exact y
    ·exact absurd (show ja F t by rw[show t=s by omega];exact z.2) lz
  |true =>
   have hR:=Eh.mp hb;refine gJ rfl ?_;walk_at"";refine T2 t3 (by simp[d5];omega) ?_;have JV:tl≠g.length:=by omega
   have s4:nM (g'.set tl (.lst (d5 L++[D.int (t:Nat)]))) g.length cs.length K:=⟨S,m,f6 sg JV,sm,snd,slt,sS⟩
   have t4:(g'.set tl (.lst (d5 L++[D.int (t:Nat)])))[tl]?=some (.lst (d5 (L++[t]))):=by rw[get_set t3];simp[d5]
   have e4:Ex g (g'.set tl (.lst (d5 L++[D.int (t:Nat)]))):=⟨by simp;exact e3.len,λi hi=>by rw[aw (by omega)];exact e3.old i hi⟩
   generalize g'.set tl (.lst (d5 L++[D.int (t:Nat)]))=g4 at *;walk_at"";refine C9 (a9 T _) (mQ (a9 T _) ?_);walk_at"";refine R6 (k:=k) hT hF (B.at e4) hz hr ht λg5 fl e5 Ln h5=>?_;rw[oz] at h5;have l4:tl<g4.length:=j7 t4;refine⟨fl,_,rfl,a8 h5,d5 (F t),λj Z g'=>Ex g g'/\g'[fl]?=some (.lst (d5 (F t)))/\g'[tl]?=some (.lst (d5 (L++[t])))/\(∃K',nM g' g.length cs.length K'/\∀x,x∈K'↔x∈K\/∃p∈(F t).take j,x=t |||2 ^ p)/\∃z4,Z=[some (.ref b),some (.ref g.length),some (.ref tl),some (.int (t:Nat)),z4],λj Z g' q=>v9 (a8 q.2.1),⟨e4.trans e5,h5,e5.at t4,⟨K,s4.at e5,λx=>by simp⟩,z4,rfl⟩,λj x Z g' hx q=>?_,λZ g' q=>?_⟩
   ·obtain⟨e6,h6,t6,⟨K',s6,rz⟩,z4,rfl⟩:=q;rw[d5,ao,aa] at hx;obtain⟨p,hp,rfl⟩:=hx;have ow:=aM hp;have wm:=(kx _ _ ow)
    have tk:(F t).take (j+1)=(F t).take j++[p]:=by rw[bU,hp];rfl
    obtain⟨S6,m6,vU,CZ,sP,sQ,qQ⟩:=id s6;refine o6 ?_
    try show wpS _ _ _ _ _ _
    walk_at"";refine⟨Rf vU,?_⟩;walk_at"";refine A1 (k:=k+4) hT.nD (by omega) ?_;walk_at"";have hsz:=s6.size;refine OD vU (by omega) ?_;walk_at"";have dW:=xO ht wm.1;refine⟨⟨by simp;exact e6.len,λi hi=>by rw[aw (by omega)];exact e6.old i hi⟩,f6 h6 (by have:=e4.len;omega),f6 t6 (by omega),?_,_,rfl⟩;by_cases mj:S6 ((t |||2 ^ p:Nat):Int)=true
    ·refine⟨K',⟨_,_,get_set vU,by rw[aH mj];exact CZ,sP,sQ,λk=>?_⟩,λx=>?_⟩
     ·rw[cw,dh];constructor
      ·rintro(z|z)
       ·exact(qQ k).mp z
       ·subst z;exact(qQ _).mp mj
      ·exact λz=>.inl ((qQ k).mpr z)
     ·rw[rz x,tk];simp only[List.mem_append,List.mem_singleton];constructor
      ·rintro(z|⟨q,z1,z2⟩)
       ·exact .inl z
       ·exact .inr ⟨q,.inl z1,z2⟩
      ·rintro(z|⟨q,z1|z1,z2⟩)
       ·exact .inl z
       ·exact .inr ⟨q,z1,z2⟩
       ·subst z1 z2;obtain⟨y,y1,y2⟩:=(qQ _).mp mj;rw[<- rz,show(t |||2 ^ q)=y by omega];exact y1
    ·have za:(t |||2 ^ p)∉K':=λz=>mj ((qQ _).mpr ⟨_,z,rfl⟩);refine⟨K'++[t |||2 ^ p],⟨_,_,get_set vU,by rw[az mj];simp[CZ],?_,λy hy=>?_,λk=>?_⟩,λx=>?_⟩
     ·rw[dj];exact⟨sP,by simp,λx hx y hy=>by cases bE.mp hy;exact λz=>za (z▸hx)⟩
     ·rcases bg.mp hy with z|z
      ·exact sQ y z
      ·cases bE.mp z;exact dW
     ·rw[cw,dh,qQ];simp only[List.mem_append,List.mem_singleton];constructor
      ·rintro(⟨y,y1,y2⟩|z)
       ·exact⟨y,.inl y1,y2⟩
       ·exact⟨_,.inr rfl,z⟩
      ·rintro⟨y,y1|y1,y2⟩
       ·exact .inl ⟨y,y1,y2⟩
       ·subst y1;exact .inr y2
     ·rw[bg,bE,rz x,tk];simp only[List.mem_append,List.mem_singleton];constructor
      ·rintro((z|⟨q,z1,z2⟩)|z)
       ·exact .inl z
       ·exact .inr ⟨q,.inl z1,z2⟩
       ·exact .inr ⟨p,.inr rfl,z⟩
      ·rintro(z|⟨q,z1|z1,z2⟩)
       ·exact .inl (.inl z)
       ·exact .inl (.inr ⟨q,z1,z2⟩)
       ·subst z1;exact .inr z2
   ·obtain⟨e6,h6,t6,⟨K',s6,rz⟩,z4,rfl⟩:=q;rw[d5,ah,cc] at rz
    try show wpS _ _ _ _ _ _
    walk_at"";refine⟨e6,⟨K',s6,λj=>(rz j).trans ?_⟩,⟨L++[t],t6,?_,λs=>?_,by simp;omega⟩,_,_,rfl⟩
    ·rw[hK j];constructor
     ·rintro((z|⟨s,p,h1,h2⟩)|⟨p,h1,h2⟩)
      ·exact .inl z
      ·exact .inr ⟨s,p,by omega,h2⟩
      ·exact .inr ⟨t,p,by omega,hR,h1,h2⟩
     ·rintro(z|⟨s,p,h1,h2,h3,h4⟩)
      ·exact .inl (.inl z)
      ·rcases eE s t with y|y
       ·exact .inl (.inr ⟨s,p,y,h2,h3,h4⟩)
       ·have:s=t:=by omega
        subst this;exact .inr ⟨p,h3,h4⟩
    ·rw[yf];exact⟨pw,by simp,λx hx y hy=>by cases bE.mp hy;exact((hL x).mp hx).1⟩
    ·rw[bg,bE,hL s];constructor
     ·rintro(z|z)
      ·exact⟨by omega,z.2⟩
      ·subst z;exact⟨by omega,hR⟩
     ·rintro⟨z1,z2⟩;rcases eE s t with y|y
      ·exact .inl ⟨y,z2⟩
      ·exact .inr (by omega)
 ·obtain⟨e3,⟨K,s3,hK⟩,⟨L,t3,pw,hL,rn⟩,z3,z4,rfl⟩:=q;rw[m8] at hL rn
  try show wpS _ _ _ _ _ _
  walk_at"";exact h L tl g' e3 (by omega) t3 pw (λs=>(hL s).trans ⟨λz=>z.2,λz=>⟨z.lt kx,z⟩⟩) (by omega)
theorem Sy(hT:gy T)(hF:TF T)(hW:TW T)(B:Bd g b cs v rs)(hz:cs.length<=9)(hr:rs.length<=900)(h:∀w g',Ex g g'->g.length<=w->Wy g' w cs v rs->Q (.ref w) g'):b7 T (k+7) 121 [.ref b] g Q E:=by
 refine call_of hW.zN rfl ?_;dsimp[AY,c8,List.replicate];have kx:=W5 cs v rs;generalize oz:u6 cs v rs=F at *;obtain⟨w0,l0,dd,nb,f1,f2,f3,f4,f5⟩:=B.ex;have p2:=Cw hz;walk_at"";have e1:=Ex.snoc g (O.dy []);have w1:=c5 (g:=g) (o:=O.dy []);generalize g++[O.dy []]=g1 at *;refine C9 (a9 T _) (Ku ?_);walk_at"";refine GB (k:=k) hT hF hW.nG (B.at e1) hz hr λL l g2 e2 hl h2 pw hL rn=>?_;rw[oz] at hL;have lw:=j7 w1;have Kd:L.reverse.Pairwise (· > ·):=List.pairwise_reverse.mpr pw;have yM:(d5 L).length=L.length:=by simp[d5]
 refine⟨l,_,rfl,a8 h2,(d5 L).reverse,λi Z g'=>Ex g g'/\g'[l]?=some (.lst (d5 L))/\(∃kvs,g'[g.length]?=some (.dy kvs)/\kvs.length<=i/\∀s∈L.reverse.take i,p6 kvs (kN s)=some (.int ((n4 cs.length F s).length:Nat)))/\∃z2,Z=[some (.ref b),some (.ref g.length),z2],λi Z g' q=>Om (a8 q.2.1),⟨e1.trans e2,h2,⟨[],e2.at w1,by simp,by simp⟩,none,rfl⟩,λi x Z g' hx q=>?_,λZ g' q=>?_⟩
 ·obtain⟨e3,h3,⟨kvs,w3,hk,tX⟩,z2,rfl⟩:=q;rw[d5,<- List.map_reverse,ao,aa] at hx;obtain⟨s,hs,rfl⟩:=hx;have DT:i<L.length:=by have:=(ak.mp hs).1;simpa using this
  have DI:ja F s:=(hL s).mp (kD.mp (aM hs));have ot:=DI.lt kx;have tk:L.reverse.take (i+1)=L.reverse.take i++[s]:=by rw[bU,hs];rfl
  have fin:∀(N:Ends) g4 z2,Ex g' g4->(∀g5,(Ex g g5/\g5[l]?=some (.lst (d5 L))/\(∃kvs,g5[g.length]?=some (.dy kvs)/\kvs.length<=i+1/\∀s∈L.reverse.take (i+1),p6 kvs (kN s)=some (.int ((n4 cs.length F s).length:Nat)))/\∃z2,([some (.ref b),some (.ref g.length),z2]:S)=[some (.ref b),some (.ref g.length),z2])->N.nx [some (.ref b),some (.ref g.length),z2] g5)->U0 (.ref g.length) (.int (s:Nat)) (.int ((n4 cs.length F s).length:Nat)) g4 λg5=>N.nx [some (.ref b),some (.ref g.length),z2] g5:=λN g4 z2 e4 hN=>by
   refine Ja (e4.at w3) rfl (by omega) ?_;refine hN _ ⟨⟨by simp;exact(e3.trans e4).len,λj hj=>by rw[aw (by omega)];exact(e3.trans e4).old j hj⟩,f6 (e4.at h3) (by omega),⟨_,get_set (e4.at w3),aC ZX (by omega),λs' DK=>?_⟩,z2,rfl⟩;rw[tk] at DK;by_cases yU:s'=s
   ·subst yU;exact ZW
   ·refine(Xt (Vb (bA yU))).trans (tX s' ?_);rcases bg.mp DK with z|z
    ·exact z
    ·exact absurd (bE.mp z) yU
  refine o6 ?_
  try show wpS _ _ _ _ _ _
  walk_at"";refine R7 (e3.at f1) rfl ?_;walk_at"";have ed:decide (((s:Nat):Int)=((2 ^ cs.length-1:Nat):Int))=decide (s=2 ^ cs.length-1):=eU.mpr (by omega);rw[ed];refine if2 (λc1=>?_) (λc1=>?_)
  ·walk_at"";have e1:(1:Int)=((n4 cs.length F s).length:Nat):=by rw[Gd c1];rfl
   rw[e1];exact fin _ _ _ (Ex.refl _) λg5 z=>⟨z.1,z.2.1,z.2.2.1,_,rfl⟩
  ·walk_at"";refine WJ (a9 T _) (mQ (a9 T _) ?_);walk_at"";refine R6 (k:=k+1) hT hF (B.at e3) hz hr ot λg4 fl e4 Ln h4=>?_;rw[oz] at h4;refine⟨fl,_,rfl,a8 h4,d5 (F s),λZ=>∃z2 z3,Z=[some (.int (s:Nat)),some (.ref g.length),z2,z3],λi=>.int ((n4 cs.length F (s |||2 ^ ((F s).getD i 0))).length:Nat),λg' e=>v9 (a8 (e.at h4)),?_,⟨none,none,rfl⟩,λj d Z g5 hx e5 sh=>?_,λg5 e5=>?_⟩
   ·have:(F s).length<=cs.length:=by rw[<- oz];exact R8
    simp[d5];omega
   ·obtain⟨z2,z3,rfl⟩:=sh;rw[d5,ao,aa] at hx;obtain⟨p,hp,rfl⟩:=hx;have ow:=aM hp;have wm:=kx _ _ ow;refine o6 ?_
    try show aP _ _ _ _ _ _
    walk_at"";refine A1 (k:=k+5) hT.nD (by omega) ?_;have hv:p6 kvs (kN (s |||2 ^ p))=some (.int ((n4 cs.length F (s |||2 ^ p)).length:Nat)):=by
     refine tX _ (Yd Kd hs (kD.mpr ((hL _).mpr (.step DI ow))) (xc wm.2))
    refine xW ((e4.trans e5).at w3) rfl hv ?_;exact⟨by simp[List.getD,hp],e5,_,_,rfl⟩
   ·have el:(List.range (d5 (F s)).length).map (λi=>D.int ((n4 cs.length F (s |||2 ^ ((F s).getD i 0))).length:Nat))=(((F s).map λp=>(n4 cs.length F (s |||2 ^ p)).length).map λ(n:Nat)=>(n:Int)).map D.int:=by
     refine fY λi=>?_;rw[ao,ao,ao,ao];by_cases hi:i<(F s).length
     ·rw[cN (by simpa[d5] using hi),au hi];simp[List.getD,hi]
     ·rw[bf (by simpa[d5] using hi),bf (by omega)]
      rfl
    rw[el];refine Je (a8 c5) ?_;have es:(((F s).map λp=>(n4 cs.length F (s |||2 ^ p)).length).map λ(n:Nat)=>(n:Int)).sum=((n4 cs.length F s).length:Nat):=by
     rw[Sx kx ot c1];generalize (F s).map (λp=>(n4 cs.length F (s |||2 ^ p)).length)=m
     induction m with
     |nil=>rfl
     |cons x r ih=>simp[ih]
    rw[es];walk_at"";exact fin _ _ _ (e4.trans (e5.trans (Ex.snoc _ _))) λg6 z=>⟨z.1,z.2.1,z.2.2.1,_,rfl⟩
 ·obtain⟨e3,h3,⟨kvs,w3,hk,tX⟩,z2,rfl⟩:=q;rw[List.length_reverse,yM,su (by simp)] at tX
  try show wpS _ _ _ _ _ _
  walk_at"";refine h _ _ e3 (av _) ⟨⟨kvs,w3,λs hs=>?_⟩⟩;rw[oz] at hs ⊢;exact tX s (kD.mpr ((hL s).mpr hs))
end
structure TN(T:Nat->Option aS):Prop where
 qe:T 122=some xI
 zM:T 123=some L6
section
variable{T:Nat->Option aS}{k d:Nat}{g g':G}{Q:KD}{E:KX}{a b c r w:Nat}{cs:List b0}{rs:List eP}{v:Int}
theorem Yr(hT:gy T)(hF:TF T)(qe:T 122=some xI)(B:Bd g b cs v rs)(W:Wy g w cs v rs)(hz:cs.length<=9)(hr:rs.length<=900){s m:Nat}(hs:ja (u6 cs v rs) s)(dw:s≠2 ^ cs.length-1)(hm:m<(n4 cs.length (u6 cs v rs) s).length)(h:∀(p l:Nat) g',Ex g g'->p∈u6 cs v rs s->l<(n4 cs.length (u6 cs v rs) (s |||2 ^ p)).length->(n4 cs.length (u6 cs v rs) s)[m]?=((n4 cs.length (u6 cs v rs) (s |||2 ^ p))[l]?).map (p::·)->Q (.tup [.int (p:Nat),.int (l:Nat)]) g'):b7 T (k+6) 122 [.ref b,.ref w,.int (s:Nat),.int (m:Nat)] g Q E:=by
 refine call_of qe rfl ?_;dsimp[xI,c8,List.replicate];have kx:=W5 cs v rs;have ot:=hs.lt kx;have eo:=HU kx ot dw;walk_at"";refine R6 (k:=k) hT hF B hz hr ot λg1 ch e1 _ kr=>?_;generalize oz:u6 cs v rs=F at *;obtain⟨kvs,w1,w2⟩:=W.ex;rw[oz] at w2;walk_at"";generalize DY:(λp=>(n4 cs.length F (s |||2 ^ p)).map (p::·))=f at *;have uD:∀p,(f p).length=(n4 cs.length F (s |||2 ^ p)).length:=λp=>by rw[<- DY];simp
 rw[eo] at hm;have Ki:0<(F s).length:=by
  cases hl:F s with
  |nil=>rw[hl] at hm;simp at hm
  |cons _ _=>simp
 refine Im (λmm Z g'=>Ex g1 g'/\∃j lf:Nat,Z=[some (.ref b),some (.ref w),some (.int (s:Nat)),some (.int (m:Nat)),some (.ref ch),some (.int (lf:Nat)),some (.int (j:Nat))]/\j<(F s).length/\mm=(F s).length-j/\m=(((F s).take j).flatMap f).length+lf/\lf<(((F s).drop j).flatMap f).length) _ ⟨Ex.refl _,0,m,rfl,Ki,rfl,by simp,by simpa using hm⟩ (λmm Z g' q=>?_) (a9 T _);obtain⟨e2,j,lf,rfl,hj,rfl,lZ,pS⟩:=q;have hx:=au hj;generalize (F s)[j]=p at hx;have ow:=aM hx;have wm:=kx _ _ ow;have hv:p6 kvs (kN (s |||2 ^ p))=some (.int ((f p).length:Nat)):=by rw[uD];exact w2 _ (.step hs ow)
 have AH:fE (d5 (F s)) (j:Int)=some (.int (p:Nat)):=F4 (by rw[d5,ao,hx];rfl);have sp:=XR (f:=f) hx lf;have mW:=e1.trans e2;walk_at"";refine q9 (a8 (e2.at kr)) AH ?_;walk_at"";refine A1 (k:=k+4) hT.nD (by omega) ?_;refine xW (mW.at w1) rfl hv ?_;walk_at"";by_cases hc:(f p).length<=lf
 ·refine gJ (aD (by omega)) ?_;walk_at"";refine HB rfl ?_;walk_at"";refine q9 (a8 (e2.at kr)) AH ?_;walk_at"";refine A1 (k:=k+4) hT.nD (by omega) ?_;refine xW (mW.at w1) rfl hv ?_;refine Ol ?_;walk_at"";refine HB rfl ?_;walk_at"";refine Of ?_;have tk:(F s).take (j+1)=(F s).take j++[p]:=by rw[bU,hx];rfl
  rw[sp.2,aY] at pS;have Lj:j+1<(F s).length:=by
   rcases eE (j+1) (F s).length with z|z
   ·exact z
   ·rw[sy z] at pS;simp at pS;omega
  refine⟨_,?_,e2,j+1,lf-(f p).length,?_,Lj,rfl,?_,by omega⟩
  ·omega
  ·have e1:((lf:Nat):Int)-((f p).length:Nat)=((lf-(f p).length:Nat):Int):=by omega
   have e2:((j:Nat):Int)+1=((j+1:Nat):Int):=by omega
   rw[e1,e2]
   rfl
  ·rw[tk,CO,aY,fX,List.flatMap_nil,fj];omega
 ·refine fG (aE (by omega)) ?_;walk_at"";refine q9 (a8 (e2.at kr)) AH ?_;walk_at"";refine h p lf g' mW ow (by rw[uD] at hc;omega) ?_;rw[eo,lZ,sp.1,sp.2,aF (by omega),<- DY];simp
theorem YN(hT:gy T)(hF:TF T)(hN:TN T)(B:Bd g b cs v rs)(W:Wy g w cs v rs)(hz:cs.length<=9)(hr:rs.length<=900){m:Nat}{o:List Nat}(hm:(n4 cs.length (u6 cs v rs) 0)[m]?=some o)(h:∀l g',Ex g g'->g.length<=l->g'[l]?=some (.lst (d5 o))->Q (.ref l) g'):b7 T (k+7) 123 [.ref b,.ref w,.int (m:Nat)] g Q E:=by
 refine call_of hN.zM rfl ?_;dsimp[L6,c8,List.replicate];have kx:=W5 cs v rs;obtain⟨w0,l0,dd,nb,f1,f2,f3,f4,f5⟩:=B.ex;have p2:=Cw hz;walk_at"";have e1:=Ex.snoc g (O.lst []);have h1:=c5 (g:=g) (o:=O.lst []);generalize g++[O.lst []]=g1 at *;refine Im (λmm Z g'=>Ex g g'/\∃(s lf:Nat) (p:List Nat) (z6:Option D),Z=[some (.ref b),some (.ref w),some (.int (m:Nat)),some (.ref g.length),some (.int (s:Nat)),some (.int (lf:Nat)),z6]/\mm=2 ^ cs.length-s/\ja (u6 cs v rs) s/\lf<(n4 cs.length (u6 cs v rs) s).length/\some o=((n4 cs.length (u6 cs v rs) s)[lf]?).map (p++·)/\g'[g.length]?=some (.lst (d5 p))/\p.length<=s) _ ⟨e1,0,m,[],none,rfl,rfl,.zero,(ak.mp hm).1,by rw[hm];rfl,h1,by simp⟩ (λmm Z g' q=>?_) (a9 T _);obtain⟨e2,s,lf,p,z6,rfl,rfl,hs,pS,ho,hp,fO⟩:=q;have ot:=hs.lt kx;walk_at"";refine R7 (e2.at f1) rfl ?_;walk_at"";have ed:decide (((s:Nat):Int)=((2 ^ cs.length-1:Nat):Int))=decide (s=2 ^ cs.length-1):=eU.mpr (by omega);rw[ed];by_cases dw:s=2 ^ cs.length-1
 ·refine fG (by rw[aD dw];rfl) ?_;walk_at"";rw[Gd dw] at pS ho;have:lf=0:=by simp at pS;omega
  subst this;have:o=p:=by simpa using ho
  subst this;exact h _ _ e2 (av _) hp
 ·refine gJ (by rw[aE dw];rfl) ?_;walk_at"";refine Yr (k:=k) hT hF hN.qe (B.at e2) (W.at e2) hz hr hs dw pS λq l g3 e3 hq hl KQ=>?_;refine A8 rfl ?_
  try show wpS _ _ _ _ _ _
  have DL:=kx _ _ hq;have yW:=e3.at hp;walk_at""
  try refine⟨vq yW,?_⟩
  walk_at"";refine T2 yW (by simp[d5];omega) ?_;walk_at"";refine A1 (k:=k+5) hT.nD (by omega) ?_;walk_at"";have hgt:=xc DL.2;have ED:=e2.trans e3;refine⟨_,?_,⟨by simp;exact ED.len,λi hi=>by rw[aw (by omega)];exact ED.old i hi⟩,s |||2 ^ q,l,p++[q],_,rfl,rfl,.step hs hq,hl,?_,?_,by simp;omega⟩
  ·omega
  ·rw[ho,KQ];simp[Option.map_map,Function.comp_def]
  ·rw[get_set yW];simp[d5]
theorem L7(hT:gy T)(hF:TF T)(hW:TW T)(hN:TN T)(mB:T 124=some M6)(B:Bd g b cs v rs)(hz:cs.length<=9)(hr:rs.length<=900)(h1:n4 cs.length (u6 cs v rs) 0=[]->∀g',Ex g g'->Q .bx g')(h2:∀o l g',(n4 cs.length (u6 cs v rs) 0)[0]?=some o->Ex g g'->g.length<=l->g'[l]?=some (.lst (d5 o))->Q (.ref l) g'):b7 T (k+8) 124 [.ref b] g Q E:=by
 refine call_of mB rfl ?_;dsimp[M6,c8,List.replicate];walk_at"";refine Sy (k:=k) hT hF hW B hz hr λw g1 e1 hw W=>?_;walk_at"";obtain⟨kvs,w1,w2⟩:=W.ex;refine xW w1 rfl (w2 0 .zero) ?_;walk_at"";cases ho:n4 cs.length (u6 cs v rs) 0 with
 |nil =>
  refine gJ (by simp) ?_;walk_at"";exact h1 ho _ e1
 |cons o r =>
  refine fG (by simp;omega) ?_;walk_at"";exact YN (k:=k) hT hF hN (m:=0) (B.at e1) W hz hr (by rw[ho];rfl) λl g2 e2 hl h=>h2 o l g2 (by rw[ho];rfl) (e1.trans e2) (aC e1.len hl) h
end
section
variable{T:Nat->Option aS}{k d:Nat}{g g':G}{Q:KD}{E:KX}{a b c r w:Nat}{cs:List b0}{rs:List eP}{v:Int}
end
def G0(r:eP):eP:=⟨r.w,r.y,r.x⟩
def many(cs:List b0)(v:Int)(rs:List eP):Nat:=(n4 cs.length (u6 cs v rs) 0).length
def T5:aS:=⟨3,3,(.seq (.ifs (.dY (.fk (.call 74 (fy aI aT bc)))) (.seq (.raise "NoDie" (dU (dH "no coin is of that die"))) .pass) .pass) .pass)⟩
def M5:aS:=⟨1,2,(.seq (.set 1 (.call 117 (dU aI))) (.seq (.ifs (dc .Eq (cU aT (dk (.un .USub) (aU 1))) (dk (.fld "full") aI)) (.seq (.ret (.lit .bx)) .pass) .pass) (.seq (.ret aT) .pass)))⟩
def M7:aS:=⟨3,3,(.seq (.ifs (dc .Eq aT (dH "coin")) (.seq (.expr (.call 83 (cE aI bc))) .pass) (.seq (.expr (.call 75 (fy aI aT bc))) .pass)) .pass)⟩
def K3:aS:=⟨4,4,(.seq (.ifs (dc .NotIn aT (.lit (.tup [(.str "coin"),(.str "lower"),(.str "upper")]))) (.seq (.raise "BadSide" (dU (dH "asked about are coins, lower dies or upper dies"))) .pass) .pass) (.seq (.expr (.call 136 (fy aI aT bc))) (.seq (.expr (.call 136 (fy aI aT bQ))) (.seq (.ifs (dc .Eq bc bQ) (.seq (.raise "SameOne" (dU (dH "two unlike ones are asked about"))) .pass) .pass) .pass))))⟩
def V9:aS:=⟨6,10,(.seq (.expr (.call 98 (fy aI aT bc))) (.seq (.expr (.call 137 (qK aI bQ cI eL))) (.seq (.set 6 (.make "Bounds" 113 (fy aI aT (bT (.bin .Add) bc (dk .lst (.prim .tup (fy bQ cI eL))))))) (.seq (.set 7 (.make "Bounds" 113 (fy aI aT (bT (.bin .Add) bc (dk .lst (.prim .tup (fy bQ eL cI))))))) (.seq (.set 8 (.call 124 (dU eh))) (.seq (.set 9 (.call 124 (dU gI))) (.seq (.ifs (.dB (dc .Is iw (.lit .bx)) (dc .Is kM (.lit .bx))) (.seq (.raise "NoOrder" (dU (dH "there is no order"))) .pass) .pass) (.seq (.ifs (dc .Is kM (.lit .bx)) (.seq (.ret (bT .tup (dH "first") (.call 129 (dU gI)))) .pass) .pass) (.seq (.ifs (dc .Is iw (.lit .bx)) (.seq (.ret (bT .tup (dH "later") (.call 129 (dU eh)))) .pass) .pass) (.seq (.ret (.prim .tup (fy (dH "either") iw kM))) .pass))))))))))⟩
def AX:aS:=⟨6,6,(.seq (.ret (cU (.call 138 (wG aI aT bc bQ cI eL)) (aU 0))) .pass)⟩
structure se(T:Nat->Option aS):Prop where
 El:T 75=some T5
 wD:T 83=some M8
 mB:T 124=some M6
 qd:T 129=some M5
 ux:T 136=some M7
 qc:T 137=some K3
 uw:T 138=some V9
 zL:T 139=some AX
section
variable{T:Nat->Option aS}{k d:Nat}{g g':G}{Q:KD}{E:KX}{a b c r:Nat}{cs:List b0}{rs:List eP}{v:Int}
theorem GF{K:G->Prop}(hT:gy T)(ha:g[a]?=some (.lst (cs.map b0.d)))(hz:cs.length<=9)(hg:cs.all q8=true)(hB:∀c∈cs,CB c)(hc:g[c]?=some (.lst (j4 rs)))(hr:rs.length<=900)(h:∀g',Ex g g'->Bd g' g.length cs v rs->K g'):b7 T (k+9) 113 [.ref g.length,.ref a,.int v,.ref c] (g++[.ins "Bounds" []]) (λd g2=>d=.bx/\K g2) E:=by
 have x1:=Ex.snoc g (O.ins "Bounds" []);refine VP (k:=k) hT (x1.at ha) hz hg hB (x1.at hc) hr c5 λg2 l2 o2 B2=>?_;refine⟨rfl,h g2 ⟨by simp at l2;omega,λi hi=>?_⟩ B2⟩;rw[o2 i (by simp;omega) (by omega),x1.old i hi]
def p9(cs:List b0)(w:RW)(x:Int):Bool:=!(fM cs w x).isEmpty
theorem GD{cs:List b0}{x:Int}(h:p9 cs .dA x=true):0<=x/\x<cs.length:=by
 unfold p9 at h;cases e:fM cs .dA x with
 |nil=>rw[e] at h;cases h
 |cons p _ =>
  have hp:p∈fM cs .dA x:=by rw[e];simp
  obtain⟨h1,h2⟩:=bu.mp hp;have:=aX.mp h1;have:=ba h2;omega
theorem F3(hT:gy T)(hF:se T){w:RW}{x:Int}(ha:g[a]?=some (.lst (cs.map b0.d)))(hz:cs.length<=9)(ht:p9 cs w x=true)(h:∀g',Ex g g'->Q .bx g'):b7 T (k+5) 136 [.ref a,.str w.s,.int x] g Q E:=by
 refine call_of hF.ux rfl ?_;dsimp[M7,c8,List.replicate];walk_at"";have js:w≠.dA->b7 T (k+4) 75 [.ref a,.str w.s,.int x] g (λ_ g1=>Q .bx g1) E:=λhw=>by
  refine call_of hF.El rfl ?_;dsimp[T5,c8,List.replicate];walk_at"";refine E2 (k:=k) hT.nf hT.jT hT.nE ha (by omega) λg1 b e1 _ hb=>?_;walk_at"";refine Jh (a8 hb) ?_;have:(d5 (fM cs w x)).isEmpty=(fM cs w x).isEmpty:=by unfold d5;cases fM cs w x<;>rfl
  rw[this];have ny:(fM cs w x).isEmpty=false:=by unfold p9 at ht;simpa using ht
  rw[ny];walk_at"";exact h _ e1
 cases w with
 |dA =>
  refine gJ (by decide +kernel) ?_;walk_at"";have:=GD ht;exact X0 (k:=k+1) hT.nf hF.wD ha (λ_ _=>h _ (Ex.refl _)) (λz=>absurd ⟨this.1,by rw[ah];exact this.2⟩ z)
 |lower =>
  refine fG (by decide +kernel) ?_;walk_at"";exact js (λz=>by cases z)
 |upper =>
  refine fG (by decide +kernel) ?_;walk_at"";exact js (λz=>by cases z)
theorem VF(hT:gy T)(hF:se T){w:RW}{x y:Int}(ha:g[a]?=some (.lst (cs.map b0.d)))(hz:cs.length<=9)(hx:p9 cs w x=true)(hy:p9 cs w y=true)(hn:x≠y)(h:∀g',Ex g g'->Q .bx g'):b7 T (k+6) 137 [.ref a,.str w.s,.int x,.int y] g Q E:=by
 refine call_of hF.qc rfl ?_;dsimp[K3,c8,List.replicate];walk_at"";refine P0 (in_words ?_);walk_at"";refine F3 (k:=k) hT hF ha hz hx λg1 e1=>?_;walk_at"";refine F3 (k:=k) hT hF (e1.at ha) hz hy λg2 e2=>?_;walk_at"";refine fG (aE hn) ?_;walk_at"";exact h _ (e1.trans e2)
theorem VT(hT:gy T)(hF:TF T)(hW:T 117=some B0)(qd:T 129=some M5)(B:Bd g b cs v rs)(hz:cs.length<=9)(hr:rs.length<=900)(h:∀(L:List Nat) l g',Ex g g'->g.length<=l->g'[l]?=some (.lst (d5 L))->L.Pairwise (· < ·)->(∀s,s∈L↔ja (u6 cs v rs) s)->L.length<=512->(ja (u6 cs v rs) (2 ^ cs.length-1)->Q .bx g')/\(¬ja (u6 cs v rs) (2 ^ cs.length-1)->Q (.ref l) g')):b7 T (k+7) 129 [.ref b] g Q E:=by
 refine call_of qd rfl ?_;dsimp[M5,c8,List.replicate];obtain⟨w0,l0,dd,nb,f1,f2,f3,f4,f5⟩:=B.ex;walk_at"";refine GB (k:=k) hT hF hW B hz hr λL l g1 e1 hl h1 pw hL rn=>?_;obtain⟨KL,KJ⟩:=h L l g1 e1 hl h1 pw hL rn;have h0:0∈L:=(hL 0).mpr .zero;have KN:=eG h0;have mh:=au (show L.length-1<L.length by omega);generalize tQ:L[L.length-1]=z at mh;have VH:fE (d5 L) (-1)=some (.int (z:Nat)):=by
  unfold fE ke;have il:(d5 L).length=L.length:=by simp[d5]
  rw[az (by decide),il,aH (by(clear hz hr hl tQ;omega))];show(d5 L)[(-1+(L.length:Int)).toNat]?=_;rw[show(-1+(L.length:Int)).toNat=L.length-1 by(clear hz hr hl tQ;omega),d5,ao,mh]
  rfl
 have DE:z∈L:=aM mh;have zd:∀x∈L,x<=z:=λx hx=>by
  obtain⟨i,hi,rfl⟩:=cq.mp hx;rcases eE i (L.length-1) with y|y
  ·have:=fP.mp pw i (L.length-1) hi (by omega) y;omega
  ·have:i=L.length-1:=by(clear hz hr hl tQ;omega)
   subst this;omega
 have hzl:=((hL z).mp DE).lt (W5 cs v rs);walk_at"";refine q9 (a8 h1) VH ?_;walk_at"";refine R7 (e1.at f1) rfl ?_;walk_at"";have ed:decide (((z:Nat):Int)=((2 ^ cs.length-1:Nat):Int))=decide (z=2 ^ cs.length-1):=eU.mpr (by(clear hz hr hl tQ;omega));rw[ed];refine if2 (λc1=>?_) (λc1=>?_)
 ·walk_at"";exact KL (c1▸(hL z).mp DE)
 ·walk_at"";refine KJ λhR=>c1 ?_;have:=zd _ ((hL _).mpr hR);omega
theorem YI{r:eP}(h:m5 cs r=true):p9 cs r.w r.x=true/\p9 cs r.w r.y=true/\r.x≠r.y:=by
 unfold m5 at h;simp only[Bool.and_eq_true,Bool.not_eq_true',decide_eq_false_iff_not] at h;unfold p9;rw[h.2.1,h.2.2];exact⟨rfl,rfl,h.1⟩
def vj(m1 m2:Nat):Str:=if m2=0 then "first" else if m1=0 then "later" else "either"
theorem QI(hT:gy T)(oA:T 42=some B1)(rA:T 98=some F7)(hF:TF T)(hW:TW T)(hN:TN T)(hI:se T){r:eP}(ha:g[a]?=some (.lst (cs.map b0.d)))(hz:cs.length<=9)(hg:cs.all q8=true)(hB:∀c∈cs,CB c)(hv:1<=v/\v<=9)(hc:g[c]?=some (.lst (j4 rs)))(hr:rs.length<=800)(hR:rs.all (m5 cs)=true)(mS:m5 cs r=true)(h1:many cs v (rs++[r])=0->many cs v (rs++[G0 r])=0->∀g',Ex g g'->E ⟨"NoOrder"⟩ g')(h2:¬(many cs v (rs++[r])=0/\many cs v (rs++[G0 r])=0)->∀g' l,Ex g g'->l≠[]->l.head?=some (.str (vj (many cs v (rs++[r])) (many cs v (rs++[G0 r]))))->Q (.tup l) g'):b7 T (k+12) 138 [.ref a,.int v,.ref c,.str r.w.s,.int r.x,.int r.y] g Q E:=by
 refine call_of hI.uw rfl ?_;dsimp[V9,c8,List.replicate];walk_at"";refine X3 (k:=k+4) hT oA rA ha (by omega) hc (by omega) (λz=>by omega) (λ_ z=>by rw[hg] at z;cases z) (λ_ _ z=>absurd hv z) (λ_ _ _ z=>by rw[hR] at z;cases z) λ_ _ _ _ g1 e1=>?_;walk_at"";obtain⟨tx,ty,Kh⟩:=YI mS;refine VF (k:=k+5) hT hI (e1.at ha) hz tx ty Kh λg2 e2=>?_;have mW:=e1.trans e2;walk_at"";have s3:=Ex.snoc g2 (O.lst (j4 [r]));have uf:∀r:eP,j4 rs++j4 [r]=j4 (rs++[r]):=λr=>by simp[j4]
 refine BC ((Ex.snoc _ _).at (mW.at hc)) c5 (by simp[j4];omega) ?_;rw[show[D.tup [D.str r.w.s,D.int r.x,D.int r.y]]=j4 [r] from rfl,uf];walk_at"";have e4:=(Ex.snoc g2 (O.lst (j4 [r]))).trans (Ex.snoc _ (O.lst (j4 (rs++[r]))));have c4:=c5 (g:=g2++[O.lst (j4 [r])]) (o:=O.lst (j4 (rs++[r])));generalize (g2++[O.lst (j4 [r])])++[O.lst (j4 (rs++[r]))]=g4 at *;have wO:=mW.trans e4;refine GF (k:=k+2) hT (wO.at ha) hz hg hB c4 (by simp;omega) λg5 e5 B5=>?_;have uH:=wO.trans e5;generalize g4.length=b1 at *;walk_at"";refine BC ((Ex.snoc _ _).at (uH.at hc)) c5 (by simp[j4];omega) ?_;rw[show[D.tup [D.str r.w.s,D.int r.y,D.int r.x]]=j4 [G0 r] from rfl,uf];walk_at"";have e6:=(Ex.snoc g5 (O.lst (j4 [G0 r]))).trans (Ex.snoc _ (O.lst (j4 (rs++[G0 r]))));have c6:=c5 (g:=g5++[O.lst (j4 [G0 r])]) (o:=O.lst (j4 (rs++[G0 r])));generalize (g5++[O.lst (j4 [G0 r])])++[O.lst (j4 (rs++[G0 r]))]=g6 at *;have EE:=uH.trans e6;refine GF (k:=k+2) hT (EE.at ha) hz hg hB c6 (by simp;omega) λg7 e7 B7=>?_;have MM:=EE.trans e7;have Ju:=B5.at (e6.trans e7);generalize g6.length=b2 at *;walk_at"";have qT:(rs++[r]).length<=900:=by simp;omega
 have tG:(rs++[G0 r]).length<=900:=by simp;omega
 have mz:∀{rs:List eP},n4 cs.length (u6 cs v rs) 0=[]↔many cs v rs=0:=λ{rs}=>by unfold many;exact qJ.symm
 have nz:∀{rs:List eP} {o:List Nat},(n4 cs.length (u6 cs v rs) 0)[0]?=some o->many cs v rs≠0:=λ{rs o} h z=>by rw[mz.mpr z] at h;cases h
 generalize DO:many cs v (rs++[r])=m1 at *;generalize wq:many cs v (rs++[G0 r])=m2 at *;have rest:∀(N:Ends) (E:KX) (x y:D) g8,Ex g7 g8->((m1=0/\x=.bx)\/(m1≠0/\∃i,x=.ref i))->((m2=0/\y=.bx)\/(m2≠0/\∃i,y=.ref i))->(m1=0->m2=0->∀g',Ex g g'->E ⟨"NoOrder"⟩ g')->(¬(m1=0/\m2=0)->∀g' l,Ex g g'->l≠[]->l.head?=some (.str (vj m1 m2))->N.rt (.tup l) g')->wpS (b7 T (k+11)) (match V9.body with|.seq _ (.seq _ (.seq _ (.seq _ (.seq _ (.seq _ b)))))=>b|x=>x) N [some (.ref a),some (.int v),some (.ref c),some (.str r.w.s),some (.int r.x),some (.int r.y),some (.ref b1),some (.ref b2),some x,some y] g8 E:=by
  intro N E x y g8 e8 hx hy h1 h2;have wN:=MM.trans e8;dsimp[V9];have og:∀{b sT} {Q:KD} {E:KX} {g8:G},Ex g g8->Bd g8 b cs v sT->sT.length<=900->(∀g' x,Ex g g'->Q x g')->b7 T (k+11) 129 [.ref b] g8 Q E:=λe8 B hl hN =>
   VT (k:=k+4) hT hF hW.nG hI.qd B hz hl λL l g9 e9 _ _ _ _ _=>⟨λ_=>hN _ _ (e8.trans e9),λ_=>hN _ _ (e8.trans e9)⟩
  rcases hx with⟨z1,rfl⟩|⟨z1,i1,rfl⟩
  ·rcases hy with⟨z2,rfl⟩|⟨z2,i2,rfl⟩
   ·walk_at"";exact h1 z1 z2 _ wN
   ·walk_at"";refine og wN (Ju.at e8) qT λg' x e'=>?_;walk_at"";exact h2 (λz=>z2 z.2) _ _ e' (by simp) (by unfold vj;rw[az z2,aH z1];rfl)
  ·rcases hy with⟨z2,rfl⟩|⟨z2,i2,rfl⟩
   ·walk_at"";refine og wN (B7.at e8) tG λg' x e'=>?_;walk_at"";exact h2 (λz=>z1 z.1) _ _ e' (by simp) (by unfold vj;rw[aH z2];rfl)
   ·walk_at"";exact h2 (λz=>z1 z.1) _ _ wN (by simp) (by unfold vj;rw[az z2,az z1];rfl)
 refine L7 (k:=k+3) hT hF hW hN hI.mB Ju hz qT (λho g8 e8=>?_) (λo i g8 ho e8 _ _=>?_)
 ·have z1:m1=0:=DO▸mz.mp ho;walk_at"";refine L7 (k:=k+3) hT hF hW hN hI.mB (B7.at e8) hz tG (λiB g9 e9=>?_) (λo2 i2 g9 iB e9 _ _=>?_)
  ·exact rest _ _ _ _ g9 (e8.trans e9) (.inl ⟨z1,rfl⟩) (.inl ⟨wq▸mz.mp iB,rfl⟩) h1 h2
  ·exact rest _ _ _ _ g9 (e8.trans e9) (.inl ⟨z1,rfl⟩) (.inr ⟨wq▸nz iB,_,rfl⟩) h1 h2
 ·have z1:m1≠0:=DO▸nz ho;walk_at"";refine L7 (k:=k+3) hT hF hW hN hI.mB (B7.at e8) hz tG (λiB g9 e9=>?_) (λo2 i2 g9 iB e9 _ _=>?_)
  ·exact rest _ _ _ _ g9 (e8.trans e9) (.inr ⟨z1,_,rfl⟩) (.inl ⟨wq▸mz.mp iB,rfl⟩) h1 h2
  ·exact rest _ _ _ _ g9 (e8.trans e9) (.inr ⟨z1,_,rfl⟩) (.inr ⟨wq▸nz iB,_,rfl⟩) h1 h2
end
def Aq:aS:=⟨7,7,(.seq (.X9 (.seq (.expr (.je [139,138] 0 0 (wG aT bc bQ cI eL eh))) .pass) [("BadSide",(.lit (.str "BadSide"))),("NoPlace",(.lit (.str "NoPlace"))),("NoDie",(.lit (.str "NoDie"))),("SameOne",(.lit (.str "SameOne"))),("NoOrder",(.lit (.str "NoOrder")))]) (.seq (.ret (dH "")) .pass))⟩
def K2:aS:=⟨1,13,(.seq (.set 1 (.call 3 (dU aI))) (.seq (.kJ (.many [2,3,4]) (.call 110 (cE aT (aU 7)))) (.seq (.cS (.one 5) (.et (aU 4)) (.seq (.set 6 (cU (.prim .lst (zU (dH "coin") (dH "lower") (dH "upper") (dH "coin") (dH "Coin") (dH "") (dH "side"))) (.call 4 (cE aT (aU 7))))) (.seq (.set 7 (.call 163 (cE bc eh))) (.seq (.set 8 (.call 37 (cE aT gI))) (.seq (.set 9 (.ite (dc .Eq (.call 4 (cE aT (aU 4))) (aU 0)) iw (.call 37 (cE aT gI)))) (.seq (.set 10 (.ite (dc .Eq iw kM) (dH "SameOne") (dH ""))) (.seq (.ifs (.jE (dc .NotIn iw gI) (dc .NotIn kM gI)) (.seq (.set 10 (.ite (dc .Eq eh (dH "coin")) (dH "NoPlace") (dH "NoDie"))) .pass) .pass) (.seq (.ifs (dc .NotIn eh (.prim .lst (fy (dH "coin") (dH "lower") (dH "upper")))) (.seq (.set 10 (dH "BadSide")) .pass) .pass) (.seq (.cS (.one 11) (.et (aU 2)) (.seq (.set 12 (.call 30 (zU tL bc bQ cI eh iw kM))) (.seq (.ifs (.dB (dc .NotEq iU ko) (.jE (dc .NotEq ko (dH "")) (dc .NotEq iU (dH "NoOrder")))) (.seq (.ret (.lit (.bl false))) .pass) .pass) .pass))) .pass))))))))) (.seq (.ret (.lit (.bl true))) .pass))))⟩
def AW:aS:=⟨2,2,(.seq (.ifs (dc .Eq aT (dH "coin")) (.seq (.ret (dk .ir (dk .len aI))) .pass) .pass) (.seq (.ret (dk .sset (.comp [1] 3 (.one 2) (.fA aI) .no (cU bc (.ite (dc .Eq aI (dH "lower")) (aU 0) (aU 2)))))) .pass))⟩
def Br:aS:=⟨2,2,(.seq (.ifs (.jE (dc .Eq (dk .len aT) (aU 0)) (dc .Eq (.call 4 (cE aI (aU 10))) (aU 4))) (.seq (.ret (.call 36 (cE aI (bT (.bin .Add) (aU 3) (dk .len aT))))) .pass) .pass) (.seq (.ret (cU aT (.call 4 (cE aI (dk .len aT))))) .pass))⟩
structure qD(T:Nat->Option aS):Prop where
 tb:gy T
 oA:T 42=some B1
 rA:T 98=some F7
 vR:vA T
 tf:TF T
 tw:TW T
 tn:TN T
 ti:se T
 h3:T 3=some xa
 h5:T 5=some rJ
 Mm:T 11=some K2
 Mg:T 30=some Aq
 Mf:T 36=some BH
 Me:T 37=some Br
 qg:T 110=some xn
 zK:T 163=some AW
theorem FU{g:G}{y:D}{x:Str}{kb:Bool->Prop}(hy:K5 g y=some [.str "coin",.str "lower",.str "upper"])(hx:PyData.strOk x=true)(h:kb (decide (x="coin")||(decide (x="lower")||decide (x="upper")))):om g (.str x) y kb:=by
 refine⟨_,.inr ⟨_,[.str "coin",.str "lower",.str "upper"],.str x,hy,rfl,rfl,by simp only[PyData.canLayAll0,PyData.canLay0,Bool.and_true];decide +kernel,by simp only[PyData.canLay0];exact hx,rfl⟩,?_⟩;have e:∀y:Str,PyData.eqv (.str y) (.str x)=decide (x=y):=λy=>by
  simp only[PyData.eqv];rw[bh,eV,cW];exact eq_comm
 simp only[List.any_cons,List.any_nil,Bool.or_false,e];exact h
def tm:RW->Str
 |.dA=>"NoPlace"
 |_=>"NoDie"
def K7(cs:List b0)(w:RW)(x y:Int):Str:=if p9 cs w x=true/\p9 cs w y=true then(if x=y then "SameOne" else "") else tm w
theorem OJ(w:RW):tm w≠"":=by cases w<;>decide +kernel
theorem Zm{cs:List b0}{w:RW}{x y:Int}(h:K7 cs w x y=""):m5 cs ⟨w,x,y⟩=true:=by
 unfold K7 at h;split at h
 ·rename_i c;split at h
  ·exact absurd h (by decide +kernel)
  ·rename_i n;unfold p9 at c;unfold m5;rw[c.1,c.2,aE n]
   rfl
 ·exact absurd h (OJ w)
theorem GQ{cs:List b0}{x:Int}(h0:0<=x)(h1:x<cs.length):p9 cs .dA x=true:=by
 unfold p9;rw[xr (w:=.dA) (i:=x.toNat) (by omega) (aD (by omega))]
 rfl
def nL(s:Str):Prop:=s="Coin"\/s=""\/s="side"
theorem nL.ok{s:Str}(h:nL s):PyData.strOk s=true:=by rcases h with rfl|rfl|rfl<;>decide +kernel
theorem nL.no{s:Str}(h:nL s):(decide (s="coin")||(decide (s="lower")||decide (s="upper")))=false:=by rcases h with rfl|rfl|rfl<;>decide +kernel
section
variable{T:Nat->Option aS}{k d:Nat}{g g':G}{Q:KD}{E:KX}{a b c:Nat}{cs:List b0}{rs:List eP}{v:Int}
theorem W9(hT:gy T)(hF:se T){w:RW}{x:Int}(ha:g[a]?=some (.lst (cs.map b0.d)))(hz:cs.length<=9)(ht:p9 cs w x=false)(h:∀g',Ex g g'->E ⟨tm w⟩ g'):b7 T (k+5) 136 [.ref a,.str w.s,.int x] g Q E:=by
 refine call_of hF.ux rfl ?_;dsimp[M7,c8,List.replicate];walk_at"";have js:w≠.dA->b7 T (k+4) 75 [.ref a,.str w.s,.int x] g (λ_ g1=>Q .bx g1) E:=λhw=>by
  refine call_of hF.El rfl ?_;dsimp[T5,c8,List.replicate];walk_at"";refine E2 (k:=k) hT.nf hT.jT hT.nE ha (by omega) λg1 b e1 _ hb=>?_;walk_at"";refine Jh (a8 hb) ?_;have:(d5 (fM cs w x)).isEmpty=(fM cs w x).isEmpty:=by unfold d5;cases fM cs w x<;>rfl
  rw[this];have ny:(fM cs w x).isEmpty=true:=by unfold p9 at ht;simpa using ht
  rw[ny];refine gJ rfl ?_;walk_at"";have:=h _ e1;cases w with
  |dA=>exact absurd rfl hw
  |lower=>exact this
  |upper=>exact this
 cases w with
 |dA =>
  refine gJ (by decide +kernel) ?_;walk_at"";refine X0 (k:=k+1) hT.nf hF.wD ha (λz1 z2=>?_) (λz=>h _ (Ex.refl _));rw[ah] at z2;rw[GQ z1 z2] at ht;cases ht
 |lower =>
  refine fG (by decide +kernel) ?_;walk_at"";exact js (λz=>by cases z)
 |upper =>
  refine fG (by decide +kernel) ?_;walk_at"";exact js (λz=>by cases z)
theorem VE(hT:gy T)(hF:se T){w:RW}{x y:Int}(ha:g[a]?=some (.lst (cs.map b0.d)))(hz:cs.length<=9)(hd:K7 cs w x y≠"")(h:∀g',Ex g g'->E ⟨K7 cs w x y⟩ g'):b7 T (k+6) 137 [.ref a,.str w.s,.int x,.int y] g Q E:=by
 refine call_of hF.qc rfl ?_;dsimp[K3,c8,List.replicate];walk_at"";refine P0 (in_words ?_);walk_at"";by_cases hx:p9 cs w x=true
 ·refine F3 (k:=k) hT hF ha hz hx λg1 e1=>?_;walk_at"";by_cases hy:p9 cs w y=true
  ·refine F3 (k:=k) hT hF (e1.at ha) hz hy λg2 e2=>?_;walk_at"";refine if2 (λc1=>?_) (λc1=>?_)
   ·walk_at"";have:=h _ (e1.trans e2);rw[K7,aH ⟨hx,hy⟩,aH c1] at this;exact this
   ·rw[K7,aH ⟨hx,hy⟩,az c1] at hd;exact absurd rfl hd
  ·refine W9 (k:=k) hT hF (e1.at ha) hz (by simpa using hy) λg2 e2=>?_;have:=h _ (e1.trans e2);rw[K7,az (λz=>hy z.2)] at this;exact this
 ·refine W9 (k:=k) hT hF ha hz (by simpa using hx) λg1 e1=>?_;have:=h _ e1;rw[K7,az (λz=>hx z.1)] at this;exact this
def va(cs:List b0)(s:Str)(x y:Int)(u:Str):Prop:=(∃w:RW,s=w.s/\u=K7 cs w x y)\/(nL s/\u="BadSide")
theorem Jk(hT:qD T){s u:Str}{x y:Int}(ha:g[a]?=some (.lst (cs.map b0.d)))(hz:cs.length<=9)(hg:cs.all q8=true)(hB:∀c∈cs,CB c)(hv:1<=v/\v<=9)(hc:g[c]?=some (.lst (j4 rs)))(hr:rs.length<=800)(hR:rs.all (m5 cs)=true)(hw:va cs s x y u)(he:∀e g',Ex g g'->(u≠""/\e=u)\/(u=""/\e="NoOrder")->E ⟨e⟩ g')(h:u=""->∀g' z l,Ex g g'->Q (.tup (z::l)) g'):b7 T (k+12) 138 [.ref a,.int v,.ref c,.str s,.int x,.int y] g Q E:=by
 have bad:u≠""->(∀g1,Ex g g1->b7 T (k+11) 137 [.ref a,.str s,.int x,.int y] g1 (λ_ _=>False) E)->b7 T (k+12) 138 [.ref a,.int v,.ref c,.str s,.int x,.int y] g Q E:=λhu h2=>by
  refine call_of hT.ti.uw rfl ?_;dsimp[V9,c8,List.replicate];walk_at"";refine X3 (k:=k+4) hT.tb hT.oA hT.rA ha (by omega) hc (by omega) (λz=>by omega) (λ_ z=>by rw[hg] at z;cases z) (λ_ _ z=>absurd hv z) (λ_ _ _ z=>by rw[hR] at z;cases z) λ_ _ _ _ g1 e1=>?_;walk_at"";exact a9 T _ _ _ _ _ _ _ _ (λ_ _ z=>z.elim) (λ_ _ z=>z) (h2 g1 e1)
 rcases hw with⟨w,rfl,rfl⟩|⟨hb,rfl⟩
 ·by_cases hd:K7 cs w x y=""
  ·have mS:=Zm hd;refine QI (k:=k) (r:=⟨w,x,y⟩) hT.tb hT.oA hT.rA hT.tf hT.tw hT.tn hT.ti ha hz hg hB hv hc hr hR mS (λ_ _ g' e=>he _ _ e (.inr ⟨hd,rfl⟩)) (λ_ g' l e hl _=>?_);cases l with
   |nil=>exact absurd rfl hl
   |cons z l=>exact h hd _ _ _ e
  ·exact bad hd λg1 e1=>VE (k:=k+5) hT.tb hT.ti (e1.at ha) hz hd λg2 e2=>he _ _ (e1.trans e2) (.inl ⟨hd,rfl⟩)
 ·refine bad (by decide +kernel) λg1 e1=>?_;refine call_of hT.ti.qc rfl ?_;dsimp[K3,c8,List.replicate];walk_at"";refine P0 (FU rfl hb.ok ?_);rw[hb.no];walk_at"";exact he _ _ e1 (.inl ⟨by decide +kernel,rfl⟩)
theorem Zn{cs:List b0}{s u:Str}{x y:Int}(h:va cs s x y u):u=""\/u="BadSide"\/u="NoPlace"\/u="NoDie"\/u="SameOne":=by
 rcases h with⟨w,_,rfl⟩|⟨_,rfl⟩
 ·unfold K7;split
  ·split<;>simp
  ·cases w<;>simp[tm]
 ·simp
theorem XM(hT:qD T){s u:Str}{x y:Int}{j:Nat}(hj:j<2)(ha:g[a]?=some (.lst (cs.map b0.d)))(hz:cs.length<=9)(hg:cs.all q8=true)(hB:∀c∈cs,CB c)(hv:1<=v/\v<=9)(hc:g[c]?=some (.lst (j4 rs)))(hr:rs.length<=800)(hR:rs.all (m5 cs)=true)(hw:va cs s x y u)(h:∀r g',Ex g g'->r=u\/(u=""/\r="NoOrder")->Q (.str r) g'):b7 T (k+14) 30 [.int j,.ref a,.int v,.ref c,.str s,.int x,.int y] g Q E:=by
 refine call_of hT.Mg rfl ?_;dsimp[Aq,c8,List.replicate];walk_at"";have hh:∀{N:Ends} {Z:S} {E:KX} e g',Ex g g'->(u≠""/\e=u)\/(u=""/\e="NoOrder")->N.rt=Q->kl (b7 T (k+13)) N Z E [("BadSide",(.lit (.str "BadSide"))),("NoPlace",(.lit (.str "NoPlace"))),("NoDie",(.lit (.str "NoDie"))),("SameOne",(.lit (.str "SameOne"))),("NoOrder",(.lit (.str "NoOrder")))] ⟨e⟩ g':=λ{N Z E} e g' e1 hu hN=>by
  have he:e="BadSide"\/e="NoPlace"\/e="NoDie"\/e="SameOne"\/e="NoOrder":=by
   rcases hu with⟨h0,rfl⟩|⟨_,rfl⟩
   ·rcases Zn hw with z|z|z|z|z
    ·exact absurd z h0
    ·exact .inl z
    ·exact .inr (.inl z)
    ·exact .inr (.inr (.inl z))
    ·exact .inr (.inr (.inr (.inl z)))
   ·simp
  have hq:N.rt (.str e) g':=by
   rw[hN];exact h e g' e1 (hu.imp (·.2) id)
  rcases he with rfl|rfl|rfl|rfl|rfl
  ·exact vf rfl (w_lit hq)
  ·exact F8 (by decide +kernel) (vf rfl (w_lit hq))
  ·exact F8 (by decide +kernel) (F8 (by decide +kernel) (vf rfl (w_lit hq)))
  ·exact F8 (by decide +kernel) (F8 (by decide +kernel) (F8 (by decide +kernel) (vf rfl (w_lit hq))))
  ·exact F8 (by decide +kernel) (F8 (by decide +kernel) (F8 (by decide +kernel) (F8 (by decide +kernel) (vf rfl (w_lit hq)))))
 have:j=0\/j=1:=by omega
 rcases this with rfl|rfl
 ·refine HC (f:=139) rfl rfl ?_;walk_at"";refine call_of hT.ti.zL rfl ?_;dsimp[AX,c8,List.replicate];walk_at"";refine Jk (k:=k) hT ha hz hg hB hv hc hr hR hw (λe g' e1 hu=>hh e g' e1 hu rfl) (λhu g' z l e1=>?_);walk_at"";refine B9 (d:=z) (F4 (j:=0) rfl) ?_;walk_at"";exact h _ _ e1 (.inl hu.symm)
 ·refine HC (f:=138) rfl rfl ?_;walk_at"";refine Jk (k:=k+1) hT ha hz hg hB hv hc hr hR hw (λe g' e1 hu=>hh e g' e1 hu rfl) (λhu g' z l e1=>?_);walk_at"";exact h _ _ e1 (.inl hu.symm)
theorem Hi(hT:qD T){j:Int}(hj:0<=j/\j<=1000)(D0:i0 g d)(h:∀(v:Int) g',i0 g' d->Gr d g g'->Q (.int v) g'):b7 T (k+3) 36 [.ref d,.int j] g Q E:=by
 have h4:=hT.vR.lf.pull;refine call_of hT.Mf rfl ?_;dsimp[BH,c8,List.replicate];walk_at"";refine d8 (k:=k+1) h4 D0 (by decide) (by decide) λr g1 _ _ D1 G1=>?_;walk_at"";refine if2 (λ_=>?_) (λ_=>?_)
 ·walk_at"";exact Od (k:=k) h4 hT.h5 D1 λr g2 D2 G2=>h r g2 D2 (G1.trans G2)
 ·walk_at"";refine d8 (k:=k+1) h4 D1 (by omega) (by omega) λr g2 _ _ D2 G2=>?_;walk_at"";exact h _ _ D2 (G1.trans G2)
theorem Fs(hT:qD T){i:Nat}{ns:List Int}(hi:g[i]?=some (.lst (ns.map .int)))(hd:d<i)(hz:ns.length<=100)(D0:i0 g d)(h:∀(v:Int) g',i0 g' d->Gr d g g'->Q (.int v) g'):b7 T (k+4) 37 [.ref d,.ref i] g Q E:=by
 have h4:=hT.vR.lf.pull;refine call_of hT.Me rfl ?_;dsimp[Br,c8,List.replicate];walk_at"";rw[ah];refine if2 (λ_=>?_) (λc1=>?_)
 ·refine gJ rfl ?_;walk_at"";refine Hi (k:=k) hT (by rw[ah];omega) D0 λv g2 D2 G2=>?_;exact h v g2 D2 G2
 walk_at"";refine d8 h4 D0 (by decide) (by decide) λr g1 _ _ D1 G1=>?_;have Ll:=G1.at (by omega) hi;walk_at"";refine if2 (λ_=>?_) (λ_=>?_)
 ·walk_at"";refine Hi (k:=k) hT (by rw[ah];omega) D1 λv g2 D2 G2=>?_;exact h v g2 D2 (G1.trans G2)
 ·walk_at"";rw[ah];refine d8 h4 D1 (by omega) (by omega) λr2 g2 r0 r1 D2 G2=>?_;obtain⟨y,hy,hm⟩:=E6 (l:=ns.map D.int) r0 (by rw[ah];exact r1);obtain⟨v,_,rfl⟩:=aR.mp hm;refine q9 (a8 (G2.at (by omega) Ll)) hy ?_;walk_at"";exact h v g2 D2 (G1.trans G2)
def NS(cs:List b0)(s:Str)(L:List Int):Prop:=nL s\/∃w:RW,s=w.s/\∀x,x∈L↔p9 cs w x=true
theorem Wm(hT:qD T){s:Str}(hs:nL s\/∃w:RW,s=w.s)(ha:g[a]?=some (.lst (cs.map b0.d)))(hz:cs.length<=9)(h:∀(L:List Int) b g',Ex g g'->g.length<=b->g'[b]?=some (.lst (L.map .int))->L.length<=9->NS cs s L->Q (.ref b) g'):b7 T (k+1) 163 [.ref a,.str s] g Q E:=by
 refine call_of hT.zK rfl ?_;dsimp[AW,c8,List.replicate];walk_at"";have js:∀(f:Int),(f=0\/f=2)->decide (s="lower")=decide (f=0)->(∀w:RW,s=w.s->∀i c,cs[i]?=some c->∀x,meant cs w x i=decide (M0 f c=x))->aP (b7 T k) (.prim .sset (.cons (.comp [1] 3 (.one 2) (.fA (.var 0)) .no (.prim .ix (.cons (.var 2) (.cons (.ite (.fk (.prim (.cmp .Eq) (.cons (.var 0) (.cons (.lit (.str "lower")) .nil)))) (.lit (.int 0)) (.lit (.int 2))) .nil)))) .nil)) [some (.ref a),some (.str s)] g Q E:=λf hf hw hm=>by
  walk_at"";refine comp_map (a9 T _) (λZ=>∃z1 z2,Z=[some (.str s),z1,z2]) (λi=>.int (M0 f (eM cs i))) (l:=cs.map b0.d) (k:=.lst a) (λg' e=>v9 (a8 (e.at ha))) (by simp;omega) ⟨none,none,rfl⟩ (λi x Z g' hx e sh=>?_) (λg' e=>?_) (qu (a9 T _) (a8 ha) λQ q=>w_var (d:=.ref a) rfl q)
  ·obtain⟨z1,z2,rfl⟩:=sh;rw[ao,aa] at hx;obtain⟨c,hc,rfl⟩:=hx;refine o6 ?_
   try show aP _ _ _ _ _ _
   walk_at"";refine if2 (λc1=>?_) (λc1=>?_)
   ·rw[aD c1] at hw;have Lr:f=0:=ba hw.symm;subst Lr;walk_at"";exact B9 (xi hf c) ⟨by rw[w5 hc],e,z1,_,rfl⟩
   ·rw[aE c1] at hw;have Lq:f=2:=by
     rcases hf with z|z
     ·exact absurd z (of_decide_eq_false hw.symm)
     ·exact z
    subst Lq;walk_at"";exact B9 (xi hf c) ⟨by rw[w5 hc],e,z1,_,rfl⟩
  ·refine Hk (ns:=(List.range cs.length).map λi=>M0 f (eM cs i)) (a8 (by rw[eF];rw[c5,ah];rfl)) (by simp;omega) ?_;have e3:=(e.trans (Ex.snoc g' (O.lst ((List.range (cs.map b0.d).length).map λi=>D.int (M0 f (eM cs i)))))).trans (Ex.snoc _ (O.lst ((l9 ((List.range cs.length).map λi=>M0 f (eM cs i))).map .int)));refine h _ _ _ e3 (by have:=e.len;simp;omega) c5 (aC (N6 _) (by simpa using hz)) (hs.imp id λ⟨w,hw⟩=>⟨w,hw,λx=>?_⟩);rw[FY];constructor
   ·intro hx;obtain⟨i,hi,rfl⟩:=aR.mp hx;have hi:=aX.mp hi;have hc:=au hi;unfold p9;rw[xr hi (by rw[hm w hw i _ hc,w5 hc];exact aD rfl)]
    rfl
   ·intro hx;unfold p9 at hx;cases ep:fM cs w x with
    |nil=>rw[ep] at hx;cases hx
    |cons i _ =>
     have hi:i∈fM cs w x:=by rw[ep];simp
     obtain⟨h1,h2⟩:=bu.mp hi;have hl:=aX.mp h1;have hc:=au hl;rw[hm w hw i _ hc] at h2;exact aR.mpr ⟨i,h1,by rw[w5 hc];exact ba h2⟩
 have bw:∀{s:Str} (w:RW),nL s->s≠w.s:=λ{s} w hb=>by rcases hb with rfl|rfl|rfl<;>cases w<;>decide +kernel
 rcases hs with hb|⟨w,rfl⟩
 ·have lz:=hb.no;rw[iN,iN] at lz;refine fG lz.1 ?_;walk_at"";exact js 2 (.inr rfl) lz.2.1 λw hw=>absurd hw (bw w hb)
 ·cases w with
  |dA =>
   refine gJ (by decide +kernel) ?_;walk_at"";refine qT (by omega) (by simp;omega) ?_;have er:j5 0 (Int.toNat ((cs.map b0.d).length:Nat))=((List.range cs.length).map λ(i:Nat)=>(i:Int)).map D.int:=by
    simp[j5]
   rw[er];refine h _ _ _ (Ex.snoc _ _) (av _) c5 (by simpa using hz) (.inr ⟨.dA,rfl,λx=>⟨λhx=>?_,λhx=>?_⟩⟩)
   ·obtain⟨i,hi,rfl⟩:=aR.mp hx;exact GQ (by omega) (by have:=aX.mp hi;omega)
   ·have:=GD hx;exact aR.mpr ⟨x.toNat,aX.mpr (by omega),by omega⟩
  |lower =>
   refine fG (by decide +kernel) ?_;walk_at"";exact js 0 (.inl rfl) (by decide +kernel) λw hw i c hc x=>by
    cases w with
    |dA=>exact absurd hw (by decide +kernel)
    |lower=>simp only[meant,w5 hc];rfl
    |upper=>exact absurd hw (by decide +kernel)
  |upper =>
   refine fG (by decide +kernel) ?_;walk_at"";exact js 2 (.inr rfl) (by decide +kernel) λw hw i c hc x=>by
    cases w with
    |dA=>exact absurd hw (by decide +kernel)
    |lower=>exact absurd hw (by decide +kernel)
    |upper=>simp only[meant,w5 hc];rfl
def Az:MS:=match K2.body with
 |.seq _ (.seq _ (.seq (.cS _ _ (.seq _ (.seq _ (.seq _ (.seq _ (.seq _ (.seq _ (.seq _ b)))))))) _))=>b
 |x=>x
theorem XA(hT:qD T){N:Ends}{s u:Str}{x y:Int}{z0 z1 z5 z7 gK gw:Option D}(ha:g[a]?=some (.lst (cs.map b0.d)))(hz:cs.length<=9)(hg:cs.all q8=true)(hB:∀c∈cs,CB c)(hv:1<=v/\v<=9)(hc:g[c]?=some (.lst (j4 rs)))(hr:rs.length<=800)(hR:rs.all (m5 cs)=true)(hw:va cs s x y u)(h:∀g' gK gw,Ex g g'->N.nx [z0,z1,some (.ref a),some (.int v),some (.ref c),z5,some (.str s),z7,some (.int x),some (.int y),some (.str u),gK,gw] g') :
  wpS (b7 T (k+14)) Az N [z0,z1,some (.ref a),some (.int v),some (.ref c),z5,some (.str s),z7,some (.int x),some (.int y),some (.str u),gK,gw] g E:=by
 dsimp[Az,K2];walk_at"";refine Gi (n:=2) (by decide) (λj Z g'=>Ex g g'/\∃gK gw,Z=[z0,z1,some (.ref a),some (.int v),some (.ref c),z5,some (.str s),z7,some (.int x),some (.int y),some (.str u),gK,gw]) ⟨Ex.refl _,gK,gw,rfl⟩ (λj Z g1 hj q=>?_) (λZ g1 q=>?_)
 ·obtain⟨e1,gK,gw,rfl⟩:=q
  try show wpS _ _ _ _ _ _
  walk_at"";refine XM (k:=k) hT hj (e1.at ha) hz hg hB hv (e1.at hc) hr hR hw λr g2 e2 ou=>?_;walk_at"";rcases ou with rfl|⟨rfl,rfl⟩
  ·refine fG (by simp) ?_;walk_at"";exact⟨e1.trans e2,_,_,rfl⟩
  ·refine gJ (by decide +kernel) ?_;walk_at"";refine fG (by decide +kernel) ?_;walk_at"";refine fG (by decide +kernel) ?_;walk_at"";exact⟨e1.trans e2,_,_,rfl⟩
 ·obtain⟨e1,gK,gw,rfl⟩:=q;exact h _ _ _ e1
theorem Zu(hT:qD T){ns:List Int}:b7 T (k+15) 11 [.ref 0] [.nH (ns.map .int)] (λd _=>d=.bl true) iK:=by
 have h4:=hT.vR.lf.pull;refine call_of hT.Mm rfl ?_;dsimp[K2,c8,List.replicate];walk_at"";refine Rq (k:=k+13) hT.h3 (a:=0) (ns:=ns) rfl λd g D1 _ _=>?_;walk_at"";have dl:=D1.lt;refine ZZ (k:=k+9) hT.vR hT.qg ⟨by decide,by decide⟩ D1 λcs rs a c v g2 hl hG ha Ef hr hR hc jr hac v1 v2 D2 G2=>?_;refine A8 rfl ?_
 try show wpS _ _ _ _ _ _
 have hz:cs.length<=9:=by omega
 have hB:∀c∈cs,CB c:=λc hc=>⟨(hG c hc).l8,(hG c hc).u8⟩
 have hg:cs.all q8=true:=cj.mpr λc hc=>(hG c hc).good;have na:a≠d:=by omega
 have nc:c≠d:=by omega
 walk_at"";refine Gi (n:=4) (by decide) (λi Z g=>i0 g d/\g[a]?=some (.lst (cs.map b0.d))/\g[c]?=some (.lst (j4 rs))/\∃z5 z6 z7 z8 z9 nS gK gw,Z=[some (.ref 0),some (.ref d),some (.ref a),some (.int v),some (.ref c),z5,z6,z7,z8,z9,nS,gK,gw]) ⟨D2,ha,hc,none,none,none,none,none,none,none,none,rfl⟩ (λi Z g hi p=>?_) (λZ g p=>?_)
 ·obtain⟨D3,a3,c3,z5,z6,z7,z8,z9,nS,gK,gw,rfl⟩:=p
  try show wpS _ _ _ _ _ _
  walk_at"";have s4:=Ex.snoc g (O.lst [D.str "coin",D.str "lower",D.str "upper",D.str "coin",D.str "Coin",D.str "",D.str "side"]);refine d8 (k:=k+13) h4 (s4.draw D3) (by decide) (by decide) λr0 g4 h0 h1 D4 G4=>?_;have a4:=G4.at na (s4.at a3);have c4:=G4.at nc (s4.at c3);have MR:=D3.lt;have hw:∃s,fE [D.str "coin",D.str "lower",D.str "upper",D.str "coin",D.str "Coin",D.str "",D.str "side"] r0=some (.str s)/\(nL s\/∃w:RW,s=w.s):=by
   obtain⟨j,rfl⟩:∃j:Nat,r0=j:=⟨r0.toNat,by omega⟩
   have:j=0\/j=1\/j=2\/j=3\/j=4\/j=5\/j=6:=by omega
   rcases this with rfl|rfl|rfl|rfl|rfl|rfl|rfl
   ·exact⟨_,rfl,.inr ⟨.dA,rfl⟩⟩
   ·exact⟨_,rfl,.inr ⟨.lower,rfl⟩⟩
   ·exact⟨_,rfl,.inr ⟨.upper,rfl⟩⟩
   ·exact⟨_,rfl,.inr ⟨.dA,rfl⟩⟩
   ·exact⟨_,rfl,.inl (.inl rfl)⟩
   ·exact⟨_,rfl,.inl (.inr (.inl rfl))⟩
   ·exact⟨_,rfl,.inl (.inr (.inr rfl))⟩
  obtain⟨s,LJ,hs⟩:=hw;refine q9 (a8 (G4.at (bB MR) c5)) LJ ?_;walk_at"";refine Wm (k:=k+13) hT hs a4 hz λL b g5 e5 hb h5 rn hL=>?_;have D5:=e5.draw D4;have dl5:=D4.lt;walk_at"";refine Fs (k:=k+10) hT h5 (by omega) (by omega) D5 λx g6 D6 G6=>?_;have h6:=G6.at (by omega) h5;have a6:=G6.at na (e5.at a4);have c6:=G6.at nc (e5.at c4);walk_at"";have Kg:PyData.strOk s=true:=by
   rcases hs with hb|⟨w,rfl⟩
   ·exact hb.ok
   ·cases w<;>decide +kernel
  have rest:∀(N:Ends) (E:KX) (y:Int) (g7:G),i0 g7 d->Gr d g6 g7->(∀g' nS gK gw,i0 g' d->g'[a]?=some (.lst (cs.map b0.d))->g'[c]?=some (.lst (j4 rs))->N.nx [some (.ref 0),some (.ref d),some (.ref a),some (.int v),some (.ref c),some (.int i),some (.str s),some (.ref b),some (.int x),some (.int y),nS,gK,gw] g')->wpS (b7 T (k+14)) (match K2.body with|.seq _ (.seq _ (.seq (.cS _ _ (.seq _ (.seq _ (.seq _ (.seq _ b))))) _))=>b|x=>x) N [some (.ref 0),some (.ref d),some (.ref a),some (.int v),some (.ref c),some (.int i),some (.str s),some (.ref b),some (.int x),some (.int y),nS,gK,gw] g7 E:=by
   intro N E y g7 D7 G7 hN;have a7:=G7.at na a6;have c7:=G7.at nc c6;have h7:=G7.at (by omega) h6;have last:∀u0:Str,(∀w:RW,s=w.s->u0=K7 cs w x y)->wpS (b7 T (k+14)) (match K2.body with|.seq _ (.seq _ (.seq (.cS _ _ (.seq _ (.seq _ (.seq _ (.seq _ (.seq _ (.seq _ b))))))) _))=>b|x=>x) N [some (.ref 0),some (.ref d),some (.ref a),some (.int v),some (.ref c),some (.int i),some (.str s),some (.ref b),some (.int x),some (.int y),some (.str u0),gK,gw] g7 E:=by
    intro u0 hu;dsimp[K2];walk_at"";have s8:=Ex.snoc g7 (O.lst [D.str "coin",D.str "lower",D.str "upper"]);refine P0 (FU (a8 c5) Kg ?_);have fin:∀u,va cs s x y u->wpS (b7 T (k+14)) Az N [some (.ref 0),some (.ref d),some (.ref a),some (.int v),some (.ref c),some (.int i),some (.str s),some (.ref b),some (.int x),some (.int y),some (.str u),gK,gw] (g7++[O.lst [D.str "coin",D.str "lower",D.str "upper"]]) E:=λu hu =>
     XA (k:=k) hT (s8.at a7) hz hg hB ⟨v1,by omega⟩ (s8.at c7) (by omega) hR hu λg' gK gw e'=>hN _ _ _ _ ((s8.trans e').draw D7) ((s8.trans e').at a7) ((s8.trans e').at c7)
    rcases hs with hb|⟨w,hw⟩
    ·rw[hb.no];walk_at"";exact fin _ (.inr ⟨hb,rfl⟩)
    ·have pP:(decide (s="coin")||(decide (s="lower")||decide (s="upper")))=true:=by subst hw;cases w<;>decide +kernel
     rw[pP];walk_at"";exact fin _ (.inl ⟨w,hw,hu w hw⟩)
   have any:∀x,(L.any λm=>m==x)=decide (x∈L):=λx=>by
    rw[bh,cA,dh];exact⟨λ⟨z,h1,h2⟩=>(eV.mp h2)▸h1,λh1=>⟨x,h1,beq_self_eq_true x⟩⟩
   have mem:∀w:RW,s=w.s->∀x,x∈L↔p9 cs w x=true:=λw hw=>by
    rcases hL with hb|⟨w',DH,h'⟩
    ·subst hw;exact absurd hb.no (by cases w<;>decide +kernel)
    ·have:w'=w:=by
      rw[hw] at DH;cases w<;>cases w'<;>first|rfl|exact absurd DH (by decide +kernel)
     exact this▸h'
   have mid:∀u0:Str,u0=(if x=y then("SameOne":Str) else("":Str))->wpS (b7 T (k+14)) (match K2.body with|.seq _ (.seq _ (.seq (.cS _ _ (.seq _ (.seq _ (.seq _ (.seq _ (.seq _ b)))))) _))=>b|x=>x) N [some (.ref 0),some (.ref d),some (.ref a),some (.int v),some (.ref c),some (.int i),some (.str s),some (.ref b),some (.int x),some (.int y),some (.str u0),gK,gw] g7 E:=by
    intro u0 KG;have bad:¬(x∈L/\y∈L)->wpS (b7 T (k+14)) (.seq (match K2.body with|.seq _ (.seq _ (.seq (.cS _ _ (.seq _ (.seq _ (.seq _ (.seq _ (.seq _ (.seq (.ifs _ b _) _)))))) ) _))=>b|x=>x) (match K2.body with|.seq _ (.seq _ (.seq (.cS _ _ (.seq _ (.seq _ (.seq _ (.seq _ (.seq _ (.seq _ b))))))) _))=>b|x=>x)) N [some (.ref 0),some (.ref d),some (.ref a),some (.int v),some (.ref c),some (.int i),some (.str s),some (.ref b),some (.int x),some (.int y),some (.str u0),gK,gw] g7 E:=by
     intro hn;have dn:∀w:RW,s=w.s->K7 cs w x y=tm w:=λw hw=>by
      rw[K7,az λz=>hn ⟨(mem w hw x).mpr z.1,(mem w hw y).mpr z.2⟩]
     refine vk ?_;dsimp[K2];refine P9 ?_;walk_at"";refine if2 (λc1=>?_) (λc1=>?_)
     ·refine w_lit ?_;refine last _ λw hw=>?_;rw[dn w hw];cases w with
      |dA=>rfl
      |lower=>rw[hw] at c1;exact absurd c1 (by decide +kernel)
      |upper=>rw[hw] at c1;exact absurd c1 (by decide +kernel)
     ·refine w_lit ?_;refine last _ λw hw=>?_;rw[dn w hw];cases w with
      |dA=>rw[hw] at c1;exact absurd rfl c1
      |lower=>rfl
      |upper=>rfl
    dsimp[K2];refine vk ?_;walk_at"";refine P0 (Bl (a8 h7) ?_);rw[any];by_cases hx:x∈L
    ·rw[aD hx];walk_at"";refine P0 (Bl (a8 h7) ?_);rw[any];by_cases hy:y∈L
     ·rw[aD hy];refine xY (fG rfl ?_);refine N4 ?_;refine last _ λw hw=>?_;rw[KG];exact(aH (show p9 cs w x=true/\p9 cs w y=true from⟨(mem w hw x).mp hx,(mem w hw y).mp hy⟩)).symm
     ·rw[aE hy];refine xY (gJ rfl ?_);exact bad λz=>hy z.2
    ·rw[aE hx];refine xY (gJ rfl ?_);exact bad λz=>hx z.1
   dsimp[K2];walk_at"";refine if2 (λc1=>?_) (λc1=>?_)
   ·refine w_lit ?_;exact mid _ (by rw[aH c1])
   ·refine w_lit ?_;exact mid _ (by rw[az c1])
  refine d8 (k:=k+13) h4 D6 (by decide) (by decide) λr1 g7 _ _ D7 G7=>?_;walk_at"";refine if2 (λc1=>?_) (λc1=>?_)
  ·refine w_var (d:=.int x) rfl ?_;exact rest _ _ x g7 D7 G7 λg' nS gK gw D' a' c'=>⟨D',a',c',_,_,_,_,_,_,_,_,rfl⟩
  ·walk_at"";refine Fs (k:=k+10) hT (G7.at (by omega) h6) (by omega) (by omega) D7 λy g8 D8 G8=>?_;exact rest _ _ y g8 D8 (G7.trans G8) λg' nS gK gw D' a' c'=>⟨D',a',c',_,_,_,_,_,_,_,_,rfl⟩
 ·obtain⟨D3,a3,c3,z5,z6,z7,z8,z9,nS,gK,gw,rfl⟩:=p
  try show wpS _ _ _ _ _ _
  walk_at""
  rfl
end
end M

namespace Lk
open PySem L2 M
def top(i:Nat):Stmt:=PySem.Challenge.pw_trussel_k28_firsts_refused.main.body.getD i (.Pass ⟨0,0,0,0⟩)
def QN:Stmt->List Stmt
 |.ClassDef (body:=b) ..=>b
 |_=>[]
def Fe(i j:Nat):Stmt:=(QN (top i)).getD j (.Pass ⟨0,0,0,0⟩)
def F:List RF:=[⟨38,"is_number",["thing"],1,13,Bp⟩,⟨1,"number_from",["number","least","most"],3,14,U2⟩,⟨2,"good_marks",["marks","least","spot"],1,15,F1⟩,⟨15,"within",["one","other"],2,16,xJ⟩,⟨12,"good_coin",["coin","lower","lower_marks","upper","upper_marks","year","good_lower","good_upper"],1,23,A6⟩,⟨39,"check_coin",["coin"],1,24,Z2⟩,⟨18,"check_coins",["coins","coin"],1,25,U4⟩,⟨83,"check_place",["coins","place"],2,26,M8⟩,⟨40,"check_side",["side"],1,27,O9⟩,⟨19,"die_field",["side"],1,28,Bn⟩,⟨74,"places_of",["coins","word","thing","field"],3,29,T4⟩,⟨75,"check_die",["coins","side","die"],3,30,T5⟩,⟨20,"dies_of",["coins","side","field"],2,31,AV⟩,⟨42,"check_anvils",["anvils"],1,36,B1⟩,⟨88,"good_rule",["coins","rule","word","one","other"],2,37,Bo⟩,⟨89,"check_rules",["coins","rules","at","rule"],2,38,U3⟩,⟨90,"stand_of",["places"],1,39,Y6⟩,⟨91,"with_coin",["stand","place"],2,40,T3⟩,⟨92,"more_worn",["one","other","side","field"],2,41,Bq⟩,⟨93,"later",["one","other"],2,42,Ar⟩,⟨94,"worn_stands",["coins"],1,43,U1⟩,⟨95,"later_stands",["coins"],1,44,R0⟩,⟨96,"die_stands",["coins"],1,45,Z1⟩,⟨97,"needed_stands",["coins","rules","needed","word","one","other","first","place"],2,46,O2⟩,⟨98,"check_asked",["coins","anvils","rules"],3,48,F7⟩,⟨100,"dies_in_use",["bounds","stand","place","struck","left"],3,49,Z0⟩,⟨101,"next_fault",["bounds","stand","place"],3,50,Y7⟩,⟨115,"follows",["bounds","stand","place"],3,52,Y8⟩,⟨116,"followers",["bounds","stand"],2,53,Y9⟩,⟨117,"reached_stands",["bounds","led_to","told","stand","place"],1,54,B0⟩,⟨121,"ways_on",["bounds","ways","stand"],1,56,AY⟩,⟨122,"step_on",["bounds","ways","stand","number","choices","left","at"],4,57,xI⟩,⟨123,"numbered_order",["bounds","ways","number","order","stand","left","place"],3,58,L6⟩,⟨124,"first_order",["bounds","ways"],1,59,M6⟩,⟨129,"shown_paper",["bounds","stands"],1,61,M5⟩,⟨136,"check_thing",["coins","word","thing"],3,63,M7⟩,⟨137,"check_pair",["coins","word","one","other"],4,64,K3⟩,⟨138,"why_of",["coins","anvils","rules","word","one","other","one_ahead","other_ahead","one_order","other_order"],6,65,V9⟩,⟨139,"told_of",["coins","anvils","rules","word","one","other"],6,66,AX⟩,⟨3,"_law_open",["_law_script"],1,68,xa⟩,⟨4,"_law_pull",["_law_draw","_law_total_of","_law_cell","_law_got","_law_seed"],2,69,B8⟩,⟨5,"_law_far",["_law_draw","_law_number"],1,70,rJ⟩,⟨36,"_law_near",["_law_draw","_law_total_of"],2,71,BH⟩,⟨21,"_law_order_of",["_law_draw","_law_numbers","_law_left","_law_found","_law_step"],2,72,Q9⟩,⟨22,"_law_any_coin",["_law_draw","_law_menu","_law_lower","_law_upper","_law_year"],1,73,Z3⟩,⟨23,"_law_seated",["_law_draw","_law_seats","_law_fresh","_law_anvils"],4,74,F0⟩,⟨24,"_law_struck",["_law_draw","_law_size","_law_anvils","_law_seats","_law_fresh","_law_worn","_law_year","_law_step","_law_wear","_law_shift","_law_found","_law_k","_law_keys","_law_key","_law_spot","_law_named","_law_told_year"],3,75,E9⟩,⟨25,"_law_opened",["_law_draw","_law_size","_law_dies","_law_row","_law_held","_law_found","_law_k","_law_year"],2,76,xH⟩,⟨26,"_law_list",["_law_draw","_law_most","_law_size","_law_anvils","_law_way","_law_found","_law_at","_law_coin","_law_other"],2,77,O8⟩,⟨105,"_law_rule",["_law_draw","_law_coins","_law_word","_law_some","_law_at"],2,78,rV⟩,⟨106,"_law_rules",["_law_draw","_law_coins","_law_found","_law_k","_law_rule_here"],2,79,As⟩,⟨110,"_law_ready",["_law_draw","_law_most","_law_coins","_law_anvils"],2,80,xn⟩,⟨37,"_law_number_of",["_law_draw","_law_numbers"],2,81,Br⟩,⟨163,"_law_things",["_law_coins","_law_word"],2,82,AW⟩,⟨30,"_law_asked",["_law_way","_law_coins","_law_anvils","_law_rules_here","_law_word","_law_one","_law_other"],7,83,Aq⟩,⟨11,"law",["_law_script","_law_draw","_law_coins","_law_anvils","_law_rules_here","_law_turn","_law_word","_law_things_here","_law_one","_law_other","_law_due","_law_way","_law_found"],1,84,K2⟩]
def Ms:List RM:=[⟨113,"Bounds","__init__","Bounds.__init__",["self","coins","anvils","rules"],4,47,0,U5⟩]
def con:List (Str×D):=[("LAST_SPOT",.int 7),("MOST_COINS",.int 9),("LAST_DIE",.int 99),("LAST_YEAR",.int 9999),("SIDES",.tup [(.str "lower"),(.str "upper")]),("MOST_ANVILS",.int 9),("RULE_WORDS",.tup [(.str "coin"),(.str "lower"),(.str "upper")]),("YEAR_FIELD",.int 4)]
def gd:List (Str×List D):=[("DIE_FIELDS",[.tup [.str "lower",.int 0],.tup [.str "upper",.int 2]])]
def exc:List Str:=["BadAnvils","BadCoin","BadRule","BadSide","NoDie","NoOrder","NoPlace","SameOne","TooMany"]
def c0:f7:=⟨[],[],true,F.map λr=>(r.nm,r.id),con,["len","enumerate","list","tuple","isinstance","all","range","int","bool","max","min","sorted","set","sum","reversed"],exc,gd,[("Bounds",113)],Ms.map λr=>(r.nm,r.cl,r.id),[("size","Bounds"),("full","Bounds"),("room","Bounds"),("worn_by_place","Bounds"),("later_by_place","Bounds"),("lower_dies","Bounds"),("needed_by_place","Bounds")],true,true⟩
noncomputable abbrev T:Nat->Option aS:=rO F Ms
theorem tx:kz c0 F Ms top Fe:=by
 refine⟨rfl,rfl,by decide +kernel,by decide +kernel,by decide +kernel,by decide +kernel,?_,?_,?_,?_⟩
 all_goals
  repeat first
   |exact BF.nil
   |exact BM.nil
   |exact YF.nil
   |exact YM.nil
   |refine YF.cons (by kernel_rfl) ?_
   |refine YM.cons (by kernel_rfl) ?_
   |refine BF.cons (λ_ _ _ _ _ _=>(by(repeat refine CT λ_=>?_);exact CS rfl)) ?_
   |refine BM.cons (λ_ _ _ _ _ _=>(by(repeat refine CT λ_=>?_);exact CS rfl)) ?_
inductive rE:List DictEntry->List (Str×V)->Prop
 |nil:rE [] []
 |cons {h:Int} {x:Str} {t:Tok} {u:Value} {v:V} {es:List DictEntry} {vs:List (Str×V)} (r:RelV v u) (q:rE es vs):rE (⟨h,.str x t,u⟩::es) ((x,v)::vs)
theorem rE.find{es vs}(x:Str)(h:rE es vs):E7 (vs.lookup x) (findBy Value.isStrOf es.toArray x):=by
 induction h with
 |nil=>trivial
 |cons r q ih =>
  rename_i h y t u v es vs;unfold findBy at ih ⊢;rw[List.find?_toArray] at ih ⊢;rw[dQ,cg];by_cases e:x=y
  ·rw[show(x==y)=true from by simp[e],show Value.isStrOf x (.str y t)=true from by simp[Value.isStrOf,e]];exact r
  ·rw[show(x==y)=false from by simpa using e,show Value.isStrOf x (.str y t)=false from by simp[Value.isStrOf];exact λz=>e (z.symm)];exact ih
theorem all_mk{l:PySem.W.OpenLaw}{w:World}{K:PySem.W.Frag}{h:Heap}{mg:Str->Option Value}{fa:Addr}{Ao An wH:Addr}{t0 t1 t2 t3 uO uN t5 uM uL uK t7 oI oH oG oE:Tok}{Aj:Array (Option Value)}{Al:Nat}{Ai:Array (Option Value)}{Ak:Nat}{Mu:Nat}{mE mD:Int}(X:K.In h)(G:h.Ns mainGlobals mg)(Lp:mg "law"=some (.ref fa))(I:kA K c0 F Ms top Fe)(e0:PySem.W.nsIn K mainGlobals "LAST_SPOT"=some (some (Value.int 7 t0)))(e1:PySem.W.nsIn K mainGlobals "MOST_COINS"=some (some (Value.int 9 t1)))(e2:PySem.W.nsIn K mainGlobals "LAST_DIE"=some (some (Value.int 99 t2)))(e3:PySem.W.nsIn K mainGlobals "LAST_YEAR"=some (some (Value.int 9999 t3)))(e4:PySem.W.nsIn K mainGlobals "SIDES"=some (some (.ref Ao)))(M':K.lookup Ao=some ⟨.type "tuple",none,.seq #[Value.str "lower" uO,Value.str "upper" uN] Al,Aj⟩)(e5:PySem.W.nsIn K mainGlobals "MOST_ANVILS"=some (some (Value.int 9 t5)))(e6:PySem.W.nsIn K mainGlobals "RULE_WORDS"=some (some (.ref An)))(MZ:K.lookup An=some ⟨.type "tuple",none,.seq #[Value.str "coin" uM,Value.str "lower" uL,Value.str "upper" uK] Ak,Ai⟩)(e7:PySem.W.nsIn K mainGlobals "YEAR_FIELD"=some (some (Value.int 4 t7)))(g0:PySem.W.nsIn K mainGlobals "DIE_FIELDS"=some (some (.ref wH)))(Mw:K.lookup wH=some ⟨.type "dict",none,.dict #[⟨mE,Value.str "lower" oI,Value.int 0 oH⟩,⟨mD,Value.str "upper" oG,Value.int 2 oE⟩] Mu,#[]⟩)(pH:mE=PyData.keyHash w.params "lower")(pG:mD=PyData.keyHash w.params "upper")(Mt:(wH==sysModules)=false)
  : ∃fd:FuncData,(∀(s:Shared) (v:Value),BindsTo s fd ⟨[v],[]⟩ [("_law_script",v)])/\∀base:Heap,K.In base->base.Ns mainGlobals mg->gW l.prog w K mg base (iG l.prog w) 80 fa fd ["_law_script"] (nY exc K 1 (b7 T 40 11)):=by
 have A:mI w K mg c0 T:=by
  refine Qv I tx X G (λx d hx=>?_) (λx kvs hx=>?_)
  ·have hm:=aL hx;simp only[c0,con,List.mem_cons,List.mem_nil_iff,or_false] at hm;rcases hm with z|z|z|z|z|z|z|z
   ·cases z;exact⟨(.int 7),_,bL X G e0,⟨_,rfl⟩,λ_ _=>.int _⟩
   ·cases z;exact⟨(.int 9),_,bL X G e1,⟨_,rfl⟩,λ_ _=>.int _⟩
   ·cases z;exact⟨(.int 99),_,bL X G e2,⟨_,rfl⟩,λ_ _=>.int _⟩
   ·cases z;exact⟨(.int 9999),_,bL X G e3,⟨_,rfl⟩,λ_ _=>.int _⟩
   ·cases z;exact⟨.ref Ao,_,bL X G e4,rfl,λ_ _=>.tup (vs:=[.str "lower",.str "upper"]) (.inr ⟨_,_,_,M',rfl,rfl,rfl,(by show 2<=sizeLine;decide),.cons ⟨_,rfl⟩ (.cons ⟨_,rfl⟩ (.nil))⟩) (.cons (.str _) (.cons (.str _) (.nil)))⟩
   ·cases z;exact⟨(.int 9),_,bL X G e5,⟨_,rfl⟩,λ_ _=>.int _⟩
   ·cases z;exact⟨.ref An,_,bL X G e6,rfl,λ_ _=>.tup (vs:=[.str "coin",.str "lower",.str "upper"]) (.inr ⟨_,_,_,MZ,rfl,rfl,rfl,(by show 3<=sizeLine;decide),.cons ⟨_,rfl⟩ (.cons ⟨_,rfl⟩ (.cons ⟨_,rfl⟩ (.nil)))⟩) (.cons (.str _) (.cons (.str _) (.cons (.str _) (.nil))))⟩
   ·cases z;exact⟨(.int 4),_,bL X G e7,⟨_,rfl⟩,λ_ _=>.int _⟩
  ·have hm:=aL hx;simp only[c0,gd,List.mem_cons,List.mem_nil_iff,or_false] at hm;have z:=hm
   ·cases z;have er:rE [⟨mE,Value.str "lower" oI,Value.int 0 oH⟩,⟨mD,Value.str "upper" oG,Value.int 2 oE⟩] [("lower",.int 0),("upper",.int 2)]:=.cons (v:=.int 0) ⟨_,rfl⟩ (.cons (v:=.int 2) ⟨_,rfl⟩ (.nil));exact⟨wH,_,bL X G g0,⟨_,_,Mw,⟨⟨_,_,rfl,pH⟩,⟨⟨_,_,rfl,pG⟩,True.intro⟩⟩,Mt,λx=>er.find x⟩,.cons (λ_ _=>.int _) (.cons (λ_ _=>.int _) (.nil))⟩
 obtain⟨f,fd,O,a,t⟩:=Ic I tx _ (aM (i:=55) rfl);cases Lp.symm.trans (bL X G a);obtain⟨oc,od,kV,doc,pm,an,fe,ct,lr,rfl,lk,kP⟩:=O.fn.ex;exact⟨_,λs v=>.of_eq rfl,λbase lR uz=>NU lR uz A 40 11 _ _ fa _ rfl O⟩
theorem walk{l:PySem.W.OpenLaw}{q:Program}{loose:List Str}{XP:(Str->Option Value)->Heap->Prop}{YP:World->Heap->Prop}{d:DefRec}{K:Params->PySem.W.Frag}(hn:l.most=some 63)(ud:d.params.defaults=[])(hY:∀(w:World) (h:Heap),YP w h->(K w.params).In h)(F:∀ (w:World) (mg:Str->Option Value) (fa:Addr) (h:Heap),(K w.params).In h->h.Ns mainGlobals mg->mg d.name=some (.ref fa) ->
   ∃ fd:FuncData,(∀ (s:Shared) (u:Value),BindsTo s fd ⟨[u],[]⟩ [("_law_script",u)])/\∀ base:Heap,(K w.params).In base->base.Ns mainGlobals mg->gW l.prog w (K w.params) mg base (iG l.prog w) 80 fa fd ["_law_script"] (nY exc (K w.params) 1 (b7 T 40 11))) :
  PySem.W.WalkO q loose XP YP l.row.toRowW d [] (λf vs=>PySem.call f vs) :=
 L2.Sw (n:=63) (k:=80) (x:="_law_script") (CX:=λw=>iG l.prog w) (sp:=λw=>nY exc (K w.params) 1 (b7 T 40 11)) hn (by decide) ud ⟨rfl,by decide,by decide⟩ hY F (λw H a ns hl hO hS=>Oy hO hS (Zu (k:=25) ⟨⟨⟨rfl,rfl⟩,rfl,rfl,⟨rfl,rfl⟩,⟨rfl,rfl⟩,rfl,rfl,rfl,rfl,rfl,rfl,rfl,rfl,rfl,rfl,rfl,rfl,rfl,rfl,rfl,rfl⟩,rfl,rfl,⟨⟨rfl,rfl,rfl,rfl,rfl,rfl,rfl⟩,rfl,rfl⟩,⟨rfl,rfl⟩,⟨rfl,rfl⟩,⟨rfl,rfl⟩,⟨rfl,rfl,rfl,rfl,rfl,rfl,rfl,rfl⟩,rfl,rfl,rfl,rfl,rfl,rfl,rfl,rfl⟩)) λ_ _ _ _ _ ⟨_,_,_,_,_,_,_,z⟩=>z
end Lk
open PySem PySem.W PyProof.Rows
set_option maxRecDepth 100000 in
set_option maxHeartbeats 0 in
theorem PySem.Challenge.cw_trussel_k28_firsts_refused_holds : PySem.Challenge.rw_trussel_k28_firsts_refused.Holds := by
 w_on;o_law;k_head;(case hw=>w_witness2)
 k_fill
 refine Lk.walk (l:=PySem.Challenge.rw_trussel_k28_firsts_refused) rfl rfl (fun w h Y=>PySem.W.kIn_of Y) ?F
 case F =>
  intro w mg fa h KX G hmg
  refine' Lk.all_mk KX G hmg ⟨?zz1,?zz2,?zz3,?zz4,?zz5,?zz6,?zz7⟩ ?_ ?_ ?_ ?_ ?_ ?_ ?_ ?_ ?_ ?_ ?_ ?_ ?_ ?_ ?_
  (case zz1=>repeat' first | (with_reducible show _=_;k_is) | exact M.PF.nil | apply M.PF.cons)
  (case zz2=>repeat' first | (with_reducible show _=_;k_is) | exact M.PM.nil | apply M.PM.cons)
  (case zz3=>repeat' first | (with_reducible show _=_;k_is) | exact M.PC.nil | apply M.PC.cons)
  (case zz4=>repeat' first | (with_reducible show _=_;k_is) | exact M.PA.nil | apply M.PA.cons)
  (case zz5=>repeat' first | (with_reducible show _=_;k_is) | exact M.PB.nil | apply M.PB.cons)
  (case zz6=>repeat' first | (with_reducible show _=_;first | (with_reducible show PySem.W.excIn _ _ _ _=true;k_exc) | k_is) | exact M.PX.nil | apply M.PX.cons)
  (case zz7=>kernel_rfl)
  all_goals try (with_reducible show _=_;k_is)
  all_goals try ((with_reducible show _=_);rfl)
#print axioms PySem.Challenge.cw_trussel_k28_firsts_refused_holds
