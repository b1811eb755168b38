import PyProof.Rows.All
import Wide.All
import OpenK.AllK
import Wide.FinOn
import Lean
import PyProof.EqAt
import PyProof.EqKinds
import PyProof.TupleCall
import PySem.Challenge.RW_trussel_k21_papers_told
set_option Elab.async false
set_option linter.all false
set_option maxRecDepth 100000
set_option maxHeartbeats 4000000
set_option genInjectivity false
set_option bootstrap.genMatcherCode false
set_option genSizeOf false
local macro_rules|`(def $i:declId $s:optDeclSig $v:declVal)=>`(noncomputable def $i:declId $s:optDeclSig $v:declVal)
structure PySem.W.Fast:Prop where(tw16108845817045810675 tw2908876004131897868 tw10029177616273565509 tw15965386563961843665 tw13268633939987474536 tw13871937167884192795 tw4778696021318264725 tw7124209698423622473 tw17186793862423200958 tw117693026324443880 tw2526379980422526293 tw11039970224939895626 tw11347764999584944486 tw7388597894190328205 tw17531756873121574559 tw9156132554241848059 tw13861491694884596397 tw4730939499431938372 tw7604467042187395531 tw7198650628697182326 tw9730939534703523340 tw2018346400936313600 tw16259536171079946373 tw1565883120178283795 tw11062673197204173703 tw1110716884834128752 tw14717947527560500941 tw10953957448754653826 tw5769034077897461203 tw11632097575621823354 tw16841046210474932269 tw11175128949612034259 tw10152264200518141159 tw9794300819313596492 tw7370203716166294920 tw2238700014303293984 tw15756927599590641125 tw2465043479180321920 tw6024342757662935989 tw15251386664968424818 tw3385350842507834673 tw14689154755087404410 tw8675705009944841304 tw6676843525627669802 tw10131807540769195198 tw10986657991406233987 tw6169787084787940959 tw13685466868399005368 tw1833190560612088065 tw622754969892223299 tw4860501548488508322 tw16371164846341929955 tw3266069539201646277 tw12252004951296512414 tw4628732081678310927 tw8689683629805463903 tw4207819382198064405 tw3286537803890588414 tw16003304678316821625 tw10920102364990210447 tw8846473267206187095 tw2483272714466976827 tw15902516894767335361 tw16388406711458494360 tw7367246973572584034 tw5438132438316853162 tw12017360288331595121 tw5528115348761519450 tw1770536532154372216 tw6564656640379153499 tw9115133435935184550 tw6105053015559529030 tw11477962033905373627 tw3692758744050329921 tw13862839069036536230 tw16364447411211620762 tw1039714517410757547 tw15638391702221560686 tw16313682431050752248 tw1630564180051922998 tw6408841215479544455 tw5595416314310169275 tw9220317847918966819 tw6039084125843468636 tw3126324064416366276 tw17541528930743356694 tw1377500478021333163 tw2123222844699309573 tw1798571218541820305 tw11541529907317805539 tw4931107610805989736 tw14871218257475281860 tw12010976342189300463 tw4758451497973585526 tw13629075069852516058 tw3385738271390118151 tw5859990605875363851 tw11802762138178760812 tw5670320755744776401 tw13014055918016315897 tw7203269883716340841 tw2630480814006363383 tw13777012397887230077 tw7388133476052903401 tw1756258781150830444 tw7182843719791166582 tw16520929042593816667 tw10262274559413255915 tw14768742299649512234 tw6886107518525733963 tw9823875419727366550 tw3684507545736368798 tw2658357121942235578 tw2698499934270343499 tw3173321528523418613 tw11117226706746921303 tw17278594787371848526 tw12746095971450571515 tw15045686238600588244 tw643444138558699538 tw3948709655191276798 tw3137666314474480086 tw8017720279728529376 tw7704873846121648348 tw4717505484734003627 tw15497236033657816695 tw10896976045550787704 tw15442313667425246315 tw1634826720554234754 tw7601608622915510497 tw4076749849962092983 tw15200614952150802917 tw11180375904535487279 tw972039913536439682 tw4128055952352865880 tw17328123196468297672 tw7872685588991843144 tw18423963403891278397 tw1204906778479569384 tw12769511517470880532 tw5404273653897250484 tw15031497855293412401 tw2194875789553765320 tw5331528609699334741 tw5911569035487330208 tw16774758692960367032 tw295615230589572007 tw13426683264798183764 tw16255321835783699068 tw6429168569612294365 tw1279639116098616361 tw7265699800030173520 tw9643201018215992126 tw16733158179989366112 tw16861819819799281385 tw5536608776632407103 tw3598762375784752927 tw17157494969199438373 tw17199806998546706180 tw17972760534119028830 tw15289868741487216633 tw7181941255108986127 tw17518987041122496820 tw18312107822987800778 tw7413579465466435208 tw10126925274572854949 tw959762082281891714 tw4195604145678179239 tw9670632690421993176 tw9254560040881479942 tw3369406810411858198 tw1622670975658344179 tw8632545111364356630 tw3030241888794782972 tw15643096179326470735 tw15250780481863006193 tw13887803853942601542 tw15513151684162384456 tw4949425388989572359 tw4540770011489337775 tw7386328170910638422 tw2187295602196226979 tw5420898955545074506 tw7882996962072534373 tw2280773589348052746 tw3465764993005441190 tw283467602113452153 tw18052169137636707319 tw14074769344274436596 tw16244533715042781279 tw15660067420279851079 tw14975837373076920845 tw17161736925060770300 tw8472989356229939004 tw3771505339379453192 tw17296292390515535366 tw5130185045825181713 tw12498739522881903624 tw10541364105284420813 tw4382728826695778683 tw7284897570329680063 tw5603452660297710562 tw8615883935683389500 tw12230232369090442270 tw18142959942067660814 tw701858982517986091 tw7731435808549097398 tw5430068654655585684 tw8709314400906834937 tw8319078390446066077 tw1198555408039523547 tw13646270153518631603 tw7488149478586177376 tw16477440220017362267 tw11354326696637133990 tw8935388828130136789 tw6148038423108604678 tw14386313548193298409 tw2224374882806116594 tw466890873126211750 tw3104510312114522054 tw17394108634273830847 tw5614424239729471415 tw13997997247987945708 tw17371754204085357743 tw15629188408716680090 tw1129677859398258840 tw5154755699080702454 tw1773427645897995271 tw12926930936087714220 tw15309896031041736164 tw4940059343575429623 tw624403490527731044 tw6610169906774895759 tw13636839189511143184 tw17723358925184625547 tw16245703092948104534 tw11855418315726886168 tw10343496279195012571 tw5392228889249803920 tw13270332869274315886 tw4929585899339820100 tw17521680306224943831 tw7153292463211339991 tw17970797703826432503 tw12747442297082918580 tw11166845551618726030 tw2638857714278872782 tw3636393267896919434 tw13313450975144019299 tw3046633261273981624 tw8477625908107837099 tw13971137882851912098 tw6666049301703377558 tw16681587474709711349 tw2696433785107166787 tw5439790334932528886 tw686202893002013458 tw13990995558387260718 tw8153303661514757653 tw310696999095441211 tw3677438707197889023 tw1858316388840945326 tw4674439486606407958 tw14655517332992827499 tw6266878203562903412 tw16556840104027152604 tw5218066500171931503 tw9605369393322715934 tw13416667549941789872 tw12299004406862395341 tw7386985424313173235 tw14470454720197652001 tw9925348653134496443 tw15285766556732771394 tw10921573313426619148 tw3070648379689806856 tw516847214576771222 tw2216716048218478104 tw6012406215880347595 tw3259283594441967504 tw16035346949812269201 tw4595857796320841986 tw3798047750690449138 tw15547467108170944560 tw13685565891464382673 tw10506990525424940438 tw3515107131898387543 tw13577473720792441884 tw1302383196735274871 tw8115935471744825791 tw11184325284426423913 tw3887518825182812280 tw1668868718992008733 tw13757055933244321945 tw10393126219319757650 tw14020291759158487072 tw1036192859108971732 tw2386418593969873604 tw8281183054494508793 tw1501895130940842468 tw14742435412730532652 tw3096648039325540809 tw8465157135121368930 tw10027579778467004559 tw4553063669041936119 tw9378750456987875890 tw11765314782011649639 tw17515650616193726518 tw8131257318157025203 tw16390542347725500507 tw11027446279169741905 tw12135551900491183815 tw14625270534999102759 tw17418478229858840958 tw6268403143454421726 tw999485198690453175 tw11910367172070867870 tw4964115972858600946 tw713513882692546331 tw8996617927123244077 tw10637227809911725578 tw12688219288422553413 tw14551268271235261826 tw11641740267178242780 tw1921408710009148756 tw2295596519426146680 tw7671784801407230091 tw5932095037963661311 tw9503507125569325049 tw195945131478282462 tw9925594766931609227 tw14773480455334695151 tw2214508417749470349 tw2116120912825021211 tw2380233751607978393 tw8254263823405129439 tw17495942901863856405 tw4238842820897394422 tw9865219702660738457 tw10047124597689462204 tw17392457249071543357 tw1032117386876512392 tw11940730160562156228 tw13571959757165148724 tw840193798164237442 tw2642921054478324299 tw1881744689642289485 tw14425982928361511561 tw14853871986825479795 tw11977316367832187222 tw3713851165409634091 tw18183968837649823713 tw13393650275333392487 tw7116302631556545493 tw2782796388852531961 tw13792733970644669863 tw17899082958923602949 tw6054353382926535112 tw10818884786365993 tw1455141138351854399 tw948582086468997149 tw15490086326490229093 tw16508380689444826349 tw9378253035764719299 tw11283286553833645071 tw14399177280688235113 tw1683636438539874759 tw11394054064216289542 tw18289960137190884248 tw10712273017670277342 tw14734324226779917086 tw12271138542118986028 tw17116576333892966919 tw10895132942186402995 tw2137445859195447283 tw14063157508793858452 tw13607662034390813545 tw3294542409132507085 tw10118272612435114877 tw6368785575161143488 tw5731925067195331883 tw9217607684128894573 tw617847447312390958 tw2725981061800486436 tw5521612964319301045 tw1520257627553241000 tw13592290534573924497 tw13302117428103667968 tw6791208406444616218 tw10890549611246014338 tw5662598655469531234 tw15965145061507768027 tw8283248285460165809 tw3426452652737236846 tw1060876077367915064 tw14328386611495629247 tw18066197503938350381 tw6262451057311642671 tw11739728858735173638 tw1126234298813973053 tw17005588546602440813 tw8446210654365489294 tw13528426340473373225 tw1552734021205018286 tw9073268207499235942 tw13598330448114973750 tw9792973642258508483 tw11671474655056783664 tw16791739564002987327 tw17271661943655177839 tw9151038467760363318 tw6485280657088505023 tw7679034546229134187 tw1154311819807243250 tw1562295310106102280 tw11663580225539595235 tw16323737626389701609 tw2806339013906550449:True)
namespace _X
local macro_rules|`(tactic|omega)=>`(tactic|lia)
def Aa:=@List.getElem?_append
def Ab:=@PySem.Calls.Name_function_global
def Fg:=@PySem.wpAny_binaryOp_repeat_ref
def Fh:=@PySem.W.hideAll_get
def Fi:=@PySem.W.callWith_K0
def Fj:=@List.reverse_append
def Fl:=@List.mergeSort_perm
def Fm:=@List.mem_map_of_mem
def Fo:=@List.length_pos_iff
def Fp:=@PySem.Calls.call_function_entry
def Mf:=@PySem.wpAny_newList
def Mg:=@PySem.seq_tuple_add
def Mh:=@PySem.W.of_hideAll
def Mi:=@PySem.W.kitx_tuple
def Mj:=@PySem.W.callWith_K
def Ml:=@Nat.mod_lt
def Mm:=@List.map_replicate
def Mn:=@List.getElem?_take
def Mo:=@Int.natCast_nonneg
def Mp:=@Int.natAbs_natCast
def Mq:=@Array.append_assoc
def aA:=@Nat.lt_of_lt_of_le
def aB:=@PyProof.Rows.wpS_bind
def aC:=@if_neg
def aD:=@PySem.Heap.get?_push_size
def aE:=@Nat.ne_of_lt
def aF:=@Nat.le_trans
def aG:=@PyProof.Rows.wpS_pure
def aH:=@List.mem_cons
def aI:=@if_pos
def aJ:=@List.size_toArray
def aK:=@decide_eq_false
def aL:=@List.mem_of_getElem?
def aM:=@List.getElem?_append_left
def aN:=@List.mem_append_right
def aP:=@List.mem_map
def aQ:=@Option.some.inj
def aR:=@PySem.mem_of_lookup
def aS:=@List.pairwise_append
def aT:=@List.getElem?_eq_none
def aU:=@List.mem_append
def aV:=@List.any_eq_true
def aW:=@Bool.and_eq_true
def aY:=@List.getElem?_set_self
def aZ:=@Bool.eq_iff_iff
def aa:=@PySem.wpAny_bind
def ae:=@Option.map_eq_some_iff
def ag:=@PySem.Heap.get?_push_of_some
def ai:=@Option.bind_eq_some_iff
def aj:=@List.length_map
def ak:=@PySem.wpAny_pure
def ao:=@List.getElem?_eq_getElem
def au:=@List.getElem?_map
def av:=@Nat.le_refl
def aw:=@List.getElem?_eq_some_iff
def ax:=@PySem.Heap.lt_size
def ay:=@List.getElem?_set_ne
def az:=@decide_eq_true
def bA:=@List.mem_append_left
def bB:=@beq_iff_eq
def bG:=@List.mem_cons_of_mem
def bH:=@List.append_assoc
def bI:=@Nat.lt_irrefl
def bJ:=@PySem.wpAny_holding
def bK:=@PySem.wpAny_mono
def bL:=@List.take_succ
def bN:=@List.mem_filter
def bO:=@List.take_length
def bP:=@List.take_append_drop
def bQ:=@Nat.ne_of_gt
def bR:=@PySem.Heap.SameBut.update
def bV:=@PyProof.Rows.slot_tuple_getitem
def bX:=@Array.perm_iff_toList_perm
def bY:=@PySem.W.mg_of
def bZ:=@PySem.W.kia_one
def bf:=@List.mem_singleton
def bg:=@of_decide_eq_true
def bj:=@List.length_append
def bq:=@List.mem_range
def br:=@Array.toList_append
def bt:=@Array.length_toList
def bu:=@List.map_cons
def bw:=@PySem.Heap.get?_update_self
def bx:=@List.map_map
def bz:=@List.mem_iff_getElem
def cB:=@getElem?_pos
def cC:=@Int.le_of_lt
def cE:=@PySem.wpAny_newObj_type
def cF:=@Nat.zero_le
def cG:=@List.getElem_mem
def cH:=@PyProof.Rows.callWith_type1
def cJ:=@PySem.wpAny_call_entry
def cK:=@decide_eq_true_eq
def cL:=@Nat.lt_trans
def cM:=@List.nodup_append
def cN:=@Int.toNat_natCast
def cO:=@beq_eq_false_iff_ne
def cP:=@PySem.wpAny_truthy_bool
def cQ:=@PySem.wpAny_setState_of
def cR:=@List.mem_cons_self
def cS:=@List.lookup_cons
def cT:=@List.length_take
def cU:=@List.all_eq_true
def cX:=@PySem.wpAny_rule
def cY:=@PySem.wpAny_Call_Name_kw
def cZ:=@Bool.or_eq_true
def cc:=@Ne.symm
def cq:=@PySem.Obj.data_mapFields
def cv:=@List.replicate_succ
def cw:=@List.getElem?_range
def cy:=@Nat.le_succ
def cz:=@List.ext_getElem?
def dA:=@Array.toList_push
def dB:=@Array.toList_extract
def dE:=@PyProof.Rows.wpS_forRange
def dF:=@PySem.codeAny_builtin
def dG:=@PySem.wpAny_typeOf
def dH:=@decide_eq_false_iff_not
def dI:=@List.length_cons
def dQ:=@List.eq_nil_of_length_eq_zero
def dR:=@Int.le_refl
def dS:=@decide_eq_true_iff
def dU:=@PySem.W.cellsFrom_some
def dW:=@Int.emod_lt_of_pos
def de:=@PySem.Around.under_plainId
def df:=@List.take_of_length_le
def dh:=@Nat.lt_of_le_of_lt
def du:=@List.pairwise_iff_getElem
def dw:=@List.append_nil
def dy:=@List.mem_of_mem_take
def dz:=@List.flatten_cons
def eA:=@List.map_append
def eB:=@PySem.Heap.size_push
def eE:=@List.Perm.append_left
def eF:=@Array.getElem_eq_getD
def eG:=@Array.getElem?_toList
def eJ:=@PySem.wpAny_of_eq
def eK:=@PySem.Heap.get?_update_other
def eL:=@List.getElem?_append_right
def eO:=@PySem.wpAny_standAt
def eQ:=@PySem.builtinLookup_eq_fast
def eR:=@PySem.Obj.isFreed_of_fields
def eT:=@Nat.le_of_lt
def eW:=@List.getElem?_eq_none_iff
def eX:=@List.drop_eq_getElem_cons
def eZ:=@PyProof.Rows.F.plain_set_update_loop
def ei:=@PySem.isSubtype_type
def et:=@List.nodup_cons
def fB:=@PyProof.Rows.boot_list
def fC:=@Option.isSome_map
def fE:=@Nat.le_of_eq
def fF:=@List.pairwise_map
def fG:=@List.length_range
def fH:=@List.length_pos_of_mem
def fI:=@List.Perm.append_right
def fJ:=@Int.le_trans
def fK:=@PySem.F.slot_list_getattribute
def fM:=@PySem.tupleKind_room_in1
def fP:=@PySem.wpAny_callSpecial?_slot
def fQ:=@Nat.lt_succ_self
def fR:=@List.mem_reverse
def fV:=@List.any_cons
def fW:=@PySem.wpAny_pyIter_list
def fX:=@congrArg
def fY:=@Array.toList_reverse
def fb:=@List.filterMap_cons
def fe:=@PySem.wpAny_setField
def ff:=@Option.isSome_iff_exists
def fj:=@List.find?_cons
def fk:=@Int.emod_nonneg
def fm:=@PySem.wpAny_isInstance
def fo:=@List.pairwise_cons
def fq:=@List.filter_append
def ft:=@Bool.false_ne_true
def fz:=@List.getElem?_replicate
def gD:=@PySem.intKind_is
def gE:=@Nat.lt_or_ge
def gF:=@Int.zero_add
def gJ:=@PySem.plainId_quiet
def gM:=@List.length_eraseIdx_of_lt
def gN:=@List.drop_drop
def gO:=@List.Perm.refl
def gP:=@Int.not_lt
def gY:=@PySem.wpAny_passesOwn
def gZ:=@PySem.typeLookup_type
def iG:=@decide_eq_decide
def iH:=@PySem.F.entry_tuple_add
def iX:=@PySem.F.slot_tuple_add
def iY:=@List.set_set
def ie:=@Nat.lt_trichotomy
def ig:=@Nat.lt_succ_of_lt
def ij:=@List.reverse_cons
def ik:=@Array.size_append
def ir:=@PySem.codeAny_mono
def iu:=@PySem.F.args_tuple_add_2
def iw:=@PyProof.Rows.boot_sorted
def jP:=@PyProof.Rows.size_push'
def jQ:=@PyProof.Rows.K_mirror_equal
def jh:=@PySem.sizeLine_eq
def ji:=@List.range_succ
def jj:=@Array.size_push
def jo:=@PySem.wpAny_comprehension_free
def jq:=@PySem.F.slot_dict_get
def jr:=@Nat.eq_of_beq_eq_true
def js:=@List.perm_append_comm
def jt:=@List.pairwise_reverse
def ju:=@List.mem_iff_getElem?
def jv:=@List.length_singleton
def jw:=@List.length_filter_le
def kF:=@Nat.one_le_two_pow
def kG:=@Nat.not_lt
def kH:=@List.mem_filterMap
def kI:=@List.find?_eq_none
def kY:=@List.findIdx?_eq_some_iff_getElem
def ke:=@PySem.call_meets
def kf:=@PyProof.Rows.F.entry_set_update_loop
def kh:=@List.map_congr_left
def kz:=@PySem.F.slot_int_rmul
def lM:=@PySem.putSet_of
def lN:=@List.eraseIdx_eq_take_drop_succ
def lr:=@Nat.mul_comm
def lx:=@List.reverse_perm
def ly:=@List.find?_append
def lz:=@List.any_map
def mO:=@PyProof.Rows.wpS_modify
def mP:=@PyProof.Rows.wpS_get
def mQ:=@PySem.wpAny_attempt
def mR:=@Sum.inl.inj
def mS:=@PySem.Paired.length
def mf:=@List.not_mem_nil
def mh:=@List.length_drop
def mj:=@List.getElem_inj
def ni:=@PySem.typeIs_int
def nj:=@List.of_mem_zip
def nk:=@List.nil_append
def nr:=@List.foldl_cons
def nu:=@Array.Perm.refl
def oG:=@PySem.Value.isInt_shape
def oH:=@PySem.Obj.cls_mapFields
def oI:=@List.nodup_nil
def oJ:=@Array.getElem?_eq_some_iff
def pM:=@PyProof.Rows.wpS_lift
def pN:=@List.mem_or_eq_of_mem_set
def pO:=@Array.getElem?_eq_getElem
def qG:=@PySem.wpAny_askSetting
def qH:=@PySem.noFill_tuple_add
def qI:=@List.getElem?_take_of_lt
def qJ:=@PySem.F.slot_tuple_mul
def qK:=@Bool.true_and
def qL:=@Bool.false_or
def sX:=@PySem.F.plainAttrs_list
def sY:=@PySem.F.args_dict_get_3
def sZ:=@PyProof.Rows.boot_tuple
def tj:=@List.pairwise_mergeSort
def tm:=@List.getElem?_cons_succ
def uA:=@Nat.pow_succ
def uB:=@List.pairwise_lt_range
def uC:=@List.map_nil
def uD:=@List.filter_eq_nil_iff
def uE:=@List.drop_eq_nil_of_le
def uF:=@Bool.not_not
def uG:=@Array.getElem?_eq_none
def uy:=@PySem.codeAny_of_tree
def uz:=@PySem.F.entry_dict_get
def xq:=@PyProof.Rows.assignInOrder_cons
def xr:=@PyProof.Rows.boot_set
def xt:=@PyProof.Rows.boot_int
def xu:=@Nat.or_mod_two_eq_one
def xw:=@List.length_replicate
def zV:=@PySem.Walks.list
def zW:=@Prod.ext
def zX:=@Nat.pow_lt_pow_right
def zY:=@Nat.pow_le_pow_right
def zZ:=@List.mem_of_mem_drop
namespace L2
open PySem PySem.Spec PyProof.Rows
variable{xs vs:List V}{us:List Value}{H H':Hp}{a b f C dx:Addr}{o:HO}{u:Value}{P:Program}{w:World}{h h' base:Heap}{α:Type}{x:Str}{e c tg:Expr}{X:Cx}{pins:List (Addr×Obj)}{σ:St}{s:Shared}{t' i j k:Nat}{ch fp:List Addr}{N ps:List Str}{M:Model}{A:Around}{E Q:Value->Shared->Prop}{v:V}{t:TA}{ta tb te:TE}{pos p:Pos}{K:PySem.W.Frag}{es:List Expr}{op:CmpOp}{r:R2}{fd:FuncData}{CX:om}{sp:Sp}
noncomputable abbrev Key:=Sum Int Str
def sT:Key->Value->Bool
 |.inl k,v=>Value.isInt k v
 |.inr x,v=>Value.isStrOf x v
def Vu(w:World):Key->Int
 |.inl k=>hashInt k
 |.inr x=>hashStr w x
theorem v8:∀{k:Key} {v:Value},sT k v=true->(∃i t,k=Sum.inl i/\v=Value.int i t)\/(∃x t,k=Sum.inr x/\v=Value.str x t)
 |.inl i,v,h=>by
  obtain⟨t,e⟩:=oG (k:=i) (v:=v) h;exact .inl ⟨i,t,rfl,e⟩
 |.inr x,v,h=>by
  obtain⟨t,e⟩:=Value.isStrOf_shape (x:=x) (v:=v) h;exact .inr ⟨x,t,rfl,e⟩
theorem Y'(i:Int)(t:Tok):sT (.inl i) (.int i t)=true:=by simp[sT,Value.isInt]
theorem Za(x:Str)(t:Tok):sT (.inr x) (.str x t)=true:=by simp[sT,Value.isStrOf]
theorem Qz(a b:Int):decide ((Sum.inl a:Key)=Sum.inl b)=(a==b):=by
 by_cases e:a=b
 ·subst e;simp
 ·have h:¬(Sum.inl a:Key)=Sum.inl b:=λq=>e (mR q);rw[aK h];exact(cO.mpr e).symm
theorem QC(a b:Str):decide ((Sum.inr a:Key)=Sum.inr b)=decide (a=b):=by
 by_cases e:a=b
 ·subst e;simp
 ·have h:¬(Sum.inr a:Key)=Sum.inr b:=λq=>e (Sum.inr.inj q);rw[aK h,aK e]
theorem QA(a:Int)(b:Str):decide ((Sum.inl a:Key)=Sum.inr b)=false:=aK (λq=>nomatch q)
theorem QB(a:Str)(b:Int):decide ((Sum.inr a:Key)=Sum.inl b)=false:=aK (λq=>nomatch q)
def n9(prog:Program)(w:World):PySem.KeyKind prog w Key where
 is:=sT
 hash:=Vu w
 inj:=λv a b ha hb=>by
  rcases v8 ha with⟨i,t,rfl,rfl⟩|⟨x,t,rfl,rfl⟩
  ·rcases v8 hb with⟨j,u,rfl,e⟩|⟨y,u,rfl,e⟩
   ·injection e with e1 _;rw[e1]
   ·exact nomatch e
  ·rcases v8 hb with⟨j,u,rfl,e⟩|⟨y,u,rfl,e⟩
   ·exact nomatch e
   ·injection e with e1 _;rw[e1]
 byValue:=λk v h=>by
  rcases v8 h with⟨i,t,rfl,rfl⟩|⟨x,t,rfl,rfl⟩<;>rfl
 pyHash:=λhv h=>by
  rcases v8 hv with⟨i,t,rfl,rfl⟩|⟨x,t,rfl,rfl⟩
  ·exact wpAny_pyHash_int h
  ·exact wpAny_pyHash_str h
 eqBool:=λhu hv h=>by
  rcases v8 hu with⟨i,t,rfl,rfl⟩|⟨x,t,rfl,rfl⟩
  ·rcases v8 hv with⟨j,u,rfl,rfl⟩|⟨y,u,rfl,rfl⟩
   ·rw[Qz] at h;exact wpAny_eqBool_int h
   ·rw[QA] at h;exact SeqAt.EqAt.int_str i t y u _ _ _ _ h
  ·rcases v8 hv with⟨j,u,rfl,rfl⟩|⟨y,u,rfl,rfl⟩
   ·rw[QB] at h;exact SeqAt.EqAt.str_int x t j u _ _ _ _ h
   ·rw[QC] at h;exact wpAny_eqBool_str h
 «strs»:=λk x t v h=>by
  rcases v8 h with⟨i,u,rfl,e⟩|⟨y,u,rfl,e⟩
  ·exact nomatch e
  ·injection e with e1 _;subst e1;cases v<;>rfl
theorem V2(prog:Program)(w:World)(i:Int)(t:Tok):(n9 prog w).is (.inl i) (.int i t)=true:=Y' i t
theorem aG5(prog:Program)(w:World)(x:Str)(t:Tok):(n9 prog w).is (.inr x) (.str x t)=true:=Za x t
set_option genInjectivity true in
inductive V where
 |cj|bl (b:Bool)|int (i:Int)|str (x:Str)|lW (b:Array UInt8)|sA (b:UInt64)|ref (a:Addr)|ty (n:String)
 deriving DecidableEq
def RelV:V->Value->Prop
 |.cj,u=>u=Value.none
 |.bl b,u=>u=Value.bool b
 |.int i,u=>∃t,u=Value.int i t
 |.str x,u=>∃t,u=Value.str x t
 |.lW b,u=>∃t,u=Value.bytes b t
 |.sA b,u=>∃t,u=Value.float b t
 |.ref a,u=>u=Value.ref a
 |.ty n,u=>u=Value.type n
noncomputable abbrev Vals:List V->List Value->Prop:=Paired RelV
theorem Vals.length{xs:List V}{us:List Value}(r:Vals xs us):xs.length=us.length:=mS r
theorem Vals.get:∀{xs:List V} {us:List Value} {i:Nat} {x:V},Vals xs us->xs[i]?=some x->∃u,us[i]?=some u/\RelV x u
 |_,_,_,_,.nil,e=>by simp at e
 |_,_,0,_,.cons r _,e=>by simp at e;subst e;exact⟨_,rfl,r⟩
 |_,_,i+1,x,.cons _ t,e=>by
  obtain⟨u,h1,h2⟩:=Vals.get (i:=i) (x:=x) t (by simpa using e);exact⟨u,by simpa using h1,h2⟩
theorem Vals.set{x:V}{u:Value}(r:RelV x u):∀{xs:List V} {us:List Value} (i:Nat),Vals xs us->Vals (xs.set i x) (us.set i u)
 |_,_,_,.nil=>.nil
 |_,_,0,.cons _ t=>.cons r t
 |_,_,i+1,.cons q t=>.cons q (Vals.set r i t)
theorem Vals.append{ys:List V}{ws:List Value}(h:Vals xs us)(s:Vals ys ws):Vals (xs++ys) (us++ws):=by
 induction h with
 |nil=>exact s
 |cons r t ih=>exact .cons r ih
theorem Vals.take:∀{xs:List V} {us:List Value} (n:Nat),Vals xs us->Vals (xs.take n) (us.take n)
 |_,_,0,_=>.nil
 |_,_,_+1,.nil=>.nil
 |_,_,n+1,.cons r t=>.cons r (Vals.take n t)
theorem Vals.drop:∀{xs:List V} {us:List Value} (n:Nat),Vals xs us->Vals (xs.drop n) (us.drop n)
 |_,_,0,r=>r
 |_,_,_+1,.nil=>.nil
 |_,_,n+1,.cons _ t=>Vals.drop n t
def F0:Option V->Option Value->Prop
 |some v,some u=>RelV v u
 |none,none=>True
 |_,_=>False
def KV{κ:Type}:List (κ×V)->List (κ×Value)->Prop:=Paired λ(p:κ×V) (q:κ×Value)=>p.1=q.1/\RelV p.2 q.2
def kV:Key->V
 |.inl i=>.int i
 |.inr x=>.str x
inductive HO where
 |lst (xs:List V)
 |tup (xs:List V)
 |dK (kvs:List (Key×V))|dT (kvs:List (List Key×V))
 |set (S:Int->Bool) (n:Nat)
 |ins (C dx:Addr) (fs:List (Str×V))
 |own (x:Addr)
 |xd (fs:List (Str×V))
 |met (f x:Addr)
 |mW (lo hi:Int)
 |ku (o:Obj) (u:HO)
 |my (ps:Array Value)
 |ext (φ:Heap->Prop)
noncomputable abbrev Hp:=Addr->Option HO
def upd(H:Hp)(a:Addr)(o:HO):Hp:=λb=>if b=a then some o else H b
theorem u7:upd H a o a=some o:=by unfold upd;rw[aI rfl]
theorem i6(h:b≠a):upd H a o b=H b:=by unfold upd;rw[aC h]
theorem Xh{u:HO}(h:H a=some o)(h':H b=some u)(d:o≠u):a≠b:=by
 intro e;subst e;rw[h] at h';exact d (aQ h')
theorem o8(h:H a=some o)(h':H b=none):a≠b:=by
 intro e;subst e;rw[h] at h';cases h'
def M4(h:Heap)(a:Addr)(items:Array Value):Prop:=∃o,h.get? a=some o/\o.cls=.type "tuple"/\(∃n,o.data=.seq items n)/\o.dict=none
theorem M4.tup{h:Heap}{a:Addr}{items:Array Value}(x:M4 h a items):IsTup h a items:=let ⟨o,e,c,d,_⟩:=x;⟨o,e,c,d⟩
theorem M4.new(h:Heap)(items:Array Value):M4 (h.push { cls:=.type "tuple",data:=.seq items }) h.objs.size items:=⟨_,aD _ rfl,rfl,⟨_,rfl⟩,rfl⟩
section
variable(P:Program)(w:World)
def p0(H:Hp)(h:Heap)(a:Addr):HO->Prop
 |.lst xs=>xs.length<=sizeLine/\∃(ba:List Value) (n:Nat),Vals xs ba/\h.get? a=some { cls:=.type "list",data:=.seq ba.toArray n }
 |.tup xs=>xs.length<=sizeLine/\∃ba:List Value,Vals xs ba/\M4 h a ba.toArray
 |.dK kvs=>kvs.length<=sizeLine/\(a==sysModules)=false/\∃vs,KV kvs vs/\h.DictOf (n9 P w) a vs
 |.dT kvs=>kvs.length<=sizeLine/\(a==sysModules)=false/\∃xs:List (List Key×Addr×Value),
   Paired (λ(p:List Key×V) (q:List Key×Addr×Value)=>p.1=q.1/\H q.2.1=some (.tup (p.1.map kV))/\RelV p.2 q.2.2) kvs xs /\
   ∃o es ep,h.get? a=some o/\o.ExactDict/\o.data=.dict es ep/\es.toList=xs.map (entryOfKey (tupleKind (n9 P w)))/\(xs.map (·.1)).Nodup
 |.set S n=>h.SetOf (intKind P w) a S n
 |.ins C dx fs=>H dx=some (.own a)/\fs.length<=1000/\dx≠a/\h.get? a=some (PySem.W.instObj C dx) /\
   ∃mA,h.Ns1 dx mA/\(∀f,F0 (fs.lookup f) (mA f))/\PySem.Within mA (fs.map (·.1))
 |.own _=>∃o,h.get? a=some o
 |.xd fs=>∃mA,h.Ns1 a mA/\∀f,F0 (fs.lookup f) (mA f)
 |.mW lo hi=>∃t u v,h.get? a=some { cls:=.type "range",data:=.fields #[.int lo t,.int hi u,.int 1 v] }
 |.ku o u=>h.get? a=some o/\p0 H h a u
 |.my ps=>h.get? a=some { cls:=.none,data:=.fields ps }
 |.met f x=>h.get? a=some (PySem.W.methodObj (.ref f) (.ref x))
 |.ext φ=>φ h/\(∃o,h.get? a=some o)/\∀h1 h2:Heap,φ h1->(∀o,h1.get? a=some o->h2.get? a=some o)->φ h2
def gU(H:Hp)(h:Heap):Prop:=∀a o,H a=some o->p0 P w H h a o
end
theorem p0.lt(x:p0 P w H h a o):a<h.objs.size:=by
 cases o with
 |lst xs=>obtain⟨_,_,_,_,e⟩:=x;exact ax e
 |tup xs=>obtain⟨_,_,_,p⟩:=x;exact p.tup.lt
 |dK kvs=>obtain⟨_,_,_,_,o,_,_,e,_⟩:=x;exact ax e
 |dT kvs=>obtain⟨_,_,_,_,o,_,_,e,_⟩:=x;exact ax e
 |set S n=>obtain⟨o,_,_,_,e,_⟩:=x;exact ax e
 |ins C dx fs=>obtain⟨_,_,_,e,_⟩:=x;exact ax e
 |own y=>obtain⟨_,e⟩:=x;exact ax e
 |xd fs=>obtain⟨_,⟨_,_,_,e,_⟩,_⟩:=x;exact ax e
 |mW lo hi=>obtain⟨_,_,_,e⟩:=x;exact ax e
 |ku ob u=>obtain⟨e,_⟩:=x;exact ax e
 |my ps=>exact ax (show h.get? a=some _ from x)
 |met f y=>exact ax (show h.get? a=some _ from x)
 |ext φ=>obtain⟨_,⟨_,e⟩,_⟩:=x;exact ax e
theorem Paired.HS{β:Type}{F G:α->β->Prop}{vi:List α}{vh:List β}(h:Paired F vi vh)(f:∀a b,F a b->G a b):Paired G vi vh:=by
 induction h with
 |nil=>exact .nil
 |cons r t ih=>exact .cons (f _ _ r) ih
theorem p0.Z4(x:p0 P w H h a o)(k:∀b u,(b=a\/H b=some (.own a))->h.get? b=some u->h'.get? b=some u)(ho:∀b,H b=some (.own a)->H' b=some (.own a))(ht:∀b xs,H b=some (.tup xs)->H' b=some (.tup xs)):p0 P w H' h' a o:=by
 induction o with
 |lst xs=>obtain⟨z,ba,n,r,e⟩:=x;exact⟨z,ba,n,r,k _ _ (.inl rfl) e⟩
 |tup xs=>obtain⟨z,ba,r,ob,e,c⟩:=x;exact⟨z,ba,r,ob,k _ _ (.inl rfl) e,c⟩
 |dK kvs=>obtain⟨z,y,vs,r,ob,es,ep,e,c⟩:=x;exact⟨z,y,vs,r,ob,es,ep,k _ _ (.inl rfl) e,c⟩
 |dT kvs =>
  obtain⟨z,y,xs,r,ob,es,ep,e,c⟩:=x;exact⟨z,y,xs,Paired.HS r λp q z=>⟨z.1,ht _ _ z.2.1,z.2.2⟩,ob,es,ep,k _ _ (.inl rfl) e,c⟩
 |set S n=>obtain⟨ob,es,ep,t,e,c⟩:=x;exact⟨ob,es,ep,t,k _ _ (.inl rfl) e,c⟩
 |ins C dx fs =>
  obtain⟨d,z,ne,e,mA,⟨od,es,ep,e2,c⟩,r⟩:=x;exact⟨ho _ d,z,ne,k _ _ (.inl rfl) e,mA,⟨od,es,ep,k _ _ (.inr d) e2,c⟩,r⟩
 |own y=>obtain⟨ob,e⟩:=x;exact⟨ob,k _ _ (.inl rfl) e⟩
 |xd fs=>obtain⟨mA,⟨od,es,ep,e,c⟩,r⟩:=x;exact⟨mA,⟨od,es,ep,k _ _ (.inl rfl) e,c⟩,r⟩
 |mW lo hi=>obtain⟨t,u,v,e⟩:=x;exact⟨t,u,v,k _ _ (.inl rfl) e⟩
 |ku ob u ih=>obtain⟨e,q⟩:=x;exact⟨k _ _ (.inl rfl) e,ih q⟩
 |my ps =>
  have e:h.get? a=some { cls:=.none,data:=.fields ps }:=x;show h'.get? a=some { cls:=.none,data:=.fields ps };exact k a _ (.inl rfl) e
 |met f y =>
  have e:h.get? a=some (PySem.W.methodObj (.ref f) (.ref y)):=x;show h'.get? a=some (PySem.W.methodObj (.ref f) (.ref y));exact k a _ (.inl rfl) e
 |ext φ=>obtain⟨p,⟨o,e⟩,st⟩:=x;exact⟨st _ _ p λo q=>k _ _ (.inl rfl) q,⟨o,k _ _ (.inl rfl) e⟩,st⟩
theorem gU.lt(x:gU P w H h)(e:H a=some o):a<h.objs.size:=(x a o e).lt
theorem gU.fresh(x:gU P w H h)(e:h.objs.size<=a):H a=none:=by
 cases q:H a with
 |none=>rfl
 |some u=>exact absurd (aA (x.lt q) e) (bI _)
theorem gU.kept(x:gU P w H h)(k:∀b u,h.get? b=some u->h'.get? b=some u):gU P w H h':=λa o e =>
 (x a o e).Z4 (λb u _ q=>k b u q) (λ_ q=>q) λ_ _ q=>q
theorem gU.laid(x:gU P w H h)(k:∀b u,h.get? b=some u->h'.get? b=some u)(hp:h.objs.size<=a)(new:p0 P w (upd H a o) h' a o):gU P w (upd H a o) h':=λb u e=>by
 have hn:=x.fresh hp;by_cases hb:b=a
 ·subst hb;rw[u7] at e;cases e;exact new
 ·rw[i6 hb] at e;exact(x b u e).Z4 (λc v _ q=>k c v q) (λc q=>by rw[i6 (o8 q hn)];exact q) λc xs q=>by rw[i6 (o8 q hn)];exact q
def Rd(H:Hp)(a:Addr)(u:HO):Prop:=H a=some u\/∃o,H a=some (.ku o u)
theorem Rd.ok{u:HO}(r:Rd H a u)(x:gU P w H h):p0 P w H h a u:=by
 rcases r with r|⟨o,r⟩
 ·exact x a u r
 ·obtain⟨_,q⟩:=x a _ r;exact q
def xk:Option HO->Prop
 |some (.lst _)=>True
 |some (.dK _)=>True
 |some (.dT _)=>True
 |some (.set _ _)=>True
 |some (.ins _ _ _)=>True
 |some (.ext _)=>True
 |_=>False
section
variable{x e:Addr}{o':HO}
theorem gU.write(ok:gU P w H h)(mu:xk (H x))(he:e=x\/H e=some (.own x))(k:∀b u,b≠e->h.get? b=some u->h'.get? b=some u)(qc:∃u,h'.get? e=some u)(new:p0 P w (upd H x o') h' x o'):gU P w (upd H x o') h':=λb u q=>by
 have vb:∀c y,H c=some (.own y)->c≠x:=λc y r z=>by subst z;rw[r] at mu;exact mu
 have Az:∀c xs,H c=some (.tup xs)->c≠x:=λc xs r z=>by subst z;rw[r] at mu;exact mu
 by_cases hb:b=x
 ·subst hb;rw[u7] at q;cases q;exact new
 ·rw[i6 hb] at q;by_cases rR:b=e
  ·have q':H b=some (.own x):=by
    rcases he with z|z
    ·exact absurd (rR.trans z) hb
    ·rw[rR];exact z
   rw[q] at q';cases q';obtain⟨v,hv⟩:=qc;exact⟨v,by rw[rR];exact hv⟩
  ·refine(ok b u q).Z4 (λc v hc r=>k c v ?_ r) (λc r=>by rw[i6 (vb c b r)];exact r) λc xs r=>by rw[i6 (Az c xs r)];exact r
   rcases hc with rfl|hc
   ·exact rR
   ·rintro rfl;rcases he with z|z
    ·exact vb c b hc z
    ·rw[hc] at z;cases z;exact hb rfl
end
structure Un(fs ex:List Addr)(H H':Hp)(h h':Heap):Prop where
 keep:∀b o,h.get? b=some o->H b=none->b∉fs->b∉ex->h'.get? b=some o
 slot:∀b o,h.get? b=some o->H b=none->b∈fs->b∉ex->∃sl,h'.get? b=some { o with slots:=sl }
 free:∀b o,h.get? b=some o->H b=none->b∉ex->H' b=none
 there:∀b o,h.get? b=some o->b∉ex->∃o',h'.get? b=some o'
 jx:∀b xs,H b=some (.tup xs)->H' b=some (.tup xs)
 je:∀b o u,H b=some (.ku o u)->H' b=some (.ku o u)
 jy:∀b ps,H b=some (.my ps)->∃more,H' b=some (.my (ps++more))
section
variable{fs ex:List Addr}{H1:Hp}{h1:Heap}{x e:Addr}
theorem Un.any(u:Un fs ex H H1 h h1){ob:Obj}(q:h.get? b=some ob)(n:H b=none)(hx:b∉ex):∃sl,h1.get? b=some { ob with slots:=sl }:=by
 by_cases hb:b∈fs
 ·exact u.slot b ob q n hb hx
 ·exact⟨ob.slots,u.keep b ob q n hb hx⟩
theorem Un.kept(k:∀b u,h.get? b=some u->h'.get? b=some u):Un fs ex H H h h' :=
 ⟨λb ob q _ _ _=>k b ob q,λb ob q _ _ _=>⟨ob.slots,k b ob q⟩,λ_ _ _ n _=>n,λb ob q _=>⟨ob,k b ob q⟩,λ_ _ q=>q,λ_ _ _ q=>q,λ_ ps q=>⟨#[],by rw[q];simp⟩⟩
theorem Un.refl:Un fs ex H H h h:=Un.kept λ_ _ q=>q
theorem Un.laid(k:∀b u,h.get? b=some u->h'.get? b=some u)(hp:h.objs.size<=a)(hn:H a=none):Un fs ex H (upd H a o) h h' where
 keep:=λb u q _ _ _=>k b u q
 slot:=λb u q _ _ _=>⟨u.slots,k b u q⟩
 free:=λb u q n _=>by rw[i6 (aE (aA (ax q) hp))];exact n
 there:=λb u q _=>⟨u,k b u q⟩
 jx:=λb xs q=>by rw[i6 (o8 q hn)];exact q
 je:=λb u xs q=>by rw[i6 (o8 q hn)];exact q
 jy:=λb ps q=>⟨#[],by rw[i6 (o8 q hn),q];simp⟩
theorem Un.write(mu:xk (H x))(he:e=x\/H e=some (.own x))(k:∀b u,b≠e->h.get? b=some u->h'.get? b=some u)(qc:∃u,h'.get? e=some u):Un fs ex H (upd H x o) h h':=by
 have hx:∀b,H b=none->b≠x:=λb n z=>by subst z;rw[n] at mu;exact mu
 have hb:∀b,H b=none->b≠e:=λb n z=>by
  subst z;rcases he with r|r
  ·exact hx b n r
  ·rw[n] at r;cases r
 have hm:∀b u,H b=some u->¬xk (some u)->b≠x:=λb u q nm z=>by subst z;rw[q] at mu;exact nm mu
 refine ⟨λb u q n _ _=>k b u (hb b n) q,λb u q n _ _=>⟨u.slots,k b u (hb b n) q⟩,λb u q n _=>by rw [i6 (hx b n)];exact n,λb u q _=>?_,
  λb xs q=>by rw [i6 (hm b _ q λz=>z)];exact q,λb u xs q=>by rw [i6 (hm b _ q λz=>z)];exact q,λb ps q=>⟨#[],by rw [i6 (hm b _ q λz=>z),q];simp⟩⟩
 by_cases rR:b=e
 ·subst rR;exact qc
 ·exact⟨u,k b u rR q⟩
end
def qQ(h:Heap)(H:Hp):List Addr:=(List.range h.objs.size).filter λa=>(H a).isSome
def pH(h:Heap)(H:Hp):Heap:=PySem.W.hideAll h (qQ h H)
theorem YW(h:Heap)(H:Hp):(pH h H).objs.size=h.objs.size:=PySem.W.hideAll_size _ _
theorem a70{o:Obj}(e:h.get? b=some o)(n:H b=none):(pH h H).get? b=some o :=
 Fh _ e λhm=>by
  have q:(H b).isSome=true:=(bN.mp hm).2;rw[n] at q;simp at q
theorem Ts{o:Obj}(e:(pH h H).get? b=some o):h.get? b=some o/\H b=none:=by
 have e':h.get? b=some o:=Mh (qQ h H) e;refine⟨e',?_⟩;cases q:H b with
 |none=>rfl
 |some x =>
  have hm:b∈qQ h H:=bN.mpr ⟨bq.mpr (ax e'),by simp[q]⟩;have z:(pH h H).get? b=none:=PySem.W.hideAll_none (qQ h H) hm;rw[z] at e;cases e
structure Mod(K:PySem.W.Frag)(mg:Str->Option Value)(base:Heap):Prop where
 ow:K.In base
 glob:base.Ns mainGlobals mg
 blt:∃mb,base.Ns builtinsNs mb/\∀x:Str,x≠"__name__"->mb x=bootBuiltins x
 nolimit:base.NoLimit
structure Cx where
 prog:Program
 w:World
 K:PySem.W.Frag
 mg:Str->Option Value
 base:Heap
 A:Around
 N:List Str
 dD:Shared
 jO:Hp
 env:Env
 outer:List Env
 stack:List Env
 ex:List Addr
 fn:Str->Bool
 calm:Bool
 pn:List (Addr×Obj)
 xe:Value->Shared->Prop
def iF(l:List Env):List Addr:=l.filterMap (·.frame)
noncomputable abbrev Cx.fs(X:Cx):List Addr:=iF X.outer
def zR(sc:Scope)(x:Str):Prop:=sc.names.lookup x=some .local\/sc.names.lookup x=some .cell\/sc.names.lookup x=some .free
def Loc(sc:Scope)(x:Str):Prop:=sc.names.lookup x=some .local\/sc.names.lookup x=some .cell
def Look(env:Env)(h:Heap)(m:Str->Option Value)(x:Str)(u:Value):Prop :=
 (env.kindOf x=some .local/\m x=some u)\/((env.kindOf x=some .cell\/env.kindOf x=some .free)/\∃c,env.cells.lookup x=some c/\h.IsCell c (some u))
structure Cx.Ok(X:Cx):Prop where
 mod:Mod X.K X.mg X.base
 kind:X.env.scope.kind=.function
 glob:X.env.globals=mainGlobals
 blt:X.env.builtins=builtinsNs
 above:X.dD.heap.objs.size<=X.env.locals
 inj:∀x y c,X.env.cells.lookup x=some c->X.env.cells.lookup y=some c->x=y
 has:∀x,(X.env.kindOf x=some .cell\/X.env.kindOf x=some .free)->∃c,X.env.cells.lookup x=some c
 wD:∀x c,X.fn x=true->X.env.cells.lookup x=some c->X.dD.heap.objs.size<=c
 hd:X.calm=true->X.A.handled=none
 frames:X.A.frames=some X.stack
 xE:X.stack=X.outer\/(X.stack=X.env::X.outer/\X.env.frame=some X.env.locals)
 Hl:∀b∈X.ex,b≠X.env.locals/\∀x c,X.env.cells.lookup x=some c->c≠b
 bs:∀b o,X.base.get? b=some o->X.dD.heap.get? b=some o/\X.jO b=none
 qq:X.base.objs.size<=X.dD.heap.objs.size
 nE:∀b o,X.base.get? b=some o->b∉X.ex
 pe:∀b∈X.ex,b∉X.fs
 P1:X.dD.heap.FunFrames X.base X.outer
 su:∀b∈X.fs,X.jO b=none
structure Inv(X:Cx)(pins:List (Addr×Obj))(σ:List (Option V))(H:Hp)(s:Shared):Prop where
 ok:X.Ok
 os:s.os=X.dD.os
 bare:AllBare s.gens
 base:Un X.fs X.ex X.jO H X.dD.heap s.heap
 loc:∃m,s.heap.Ns X.env.locals m/\∀(i:Nat) (x:Str) (v:V),X.N[i]?=some x->σ[i]?=some (some v)->zR X.env.scope x->∃u,RelV v u/\Look X.env s.heap m x u
 cell:∀x c,X.env.cells.lookup x=some c->∃v,s.heap.IsCell c v
 free:H X.env.locals=none
 gk:∀x c,X.env.cells.lookup x=some c->H c=none
 pin:∀p∈X.pn++pins,s.heap.get? p.1=some p.2/\H p.1=none/\p.1≠X.env.locals/\p.1∉X.fs/\∀v,p.2.data≠.cell v
 cb:gU X.prog X.w H s.heap
 len:σ.length=X.N.length
section
variable{σ:List (Option V)}
theorem Cx.Ok.VF(ok:X.Ok){o:Obj}(e:X.base.get? b=some o):b∉X.fs:=λhb=>by
 have:=(ok.P1.mem hb).1;rw[e] at this;cases this
theorem Inv.bs(I:Inv X pins σ H s):∀b o,X.base.get? b=some o->s.heap.get? b=some o/\H b=none:=λb o e =>
 ⟨I.base.keep b o (I.ok.bs b o e).1 (I.ok.bs b o e).2 (I.ok.VF e) (I.ok.nE b o e),I.base.free b o (I.ok.bs b o e).1 (I.ok.bs b o e).2 (I.ok.nE b o e)⟩
theorem Inv.bk(I:Inv X pins σ H s):∀b o,X.base.get? b=some o->s.heap.get? b=some o:=λb o e=>(I.bs b o e).1
theorem Inv.mod(I:Inv X pins σ H s):Mod X.K X.mg X.base:=I.ok.mod
theorem Inv.iA(I:Inv X pins σ H s):X.K.In s.heap:=I.ok.mod.ow.keeps I.bk
theorem Inv.lt(I:Inv X pins σ H s):X.env.locals<s.heap.objs.size:=let ⟨_,hn,_⟩:=I.loc;hn.lt
theorem Inv.sz(I:Inv X pins σ H s):X.dD.heap.objs.size<=s.heap.objs.size:=aF I.ok.above (eT I.lt)
theorem Inv.xf(I:Inv X pins σ H s)(h:s.heap.objs.size<=a):a∉X.fs:=λhb=>by
 obtain⟨_,o,ho,_⟩:=I.ok.P1.mem hb;exact absurd (aA (ax ho) (aF I.sz h)) (bI _)
theorem Inv.sE(I:Inv X pins σ H s):∀x c,X.env.cells.lookup x=some c->c≠X.env.locals:=λx c e z=>by
 obtain⟨v,o,ho,hd⟩:=I.cell x c e;obtain⟨m,⟨o',es,ep,nM,Bm,_⟩,_⟩:=I.loc;rw[z,nM] at ho;cases ho;rw[Bm] at hd;cases hd
theorem Inv.P1(I:Inv X pins σ H s):s.heap.FunFrames X.base X.outer:=by
 have all:∀(l:List Env),(∀b∈iF l,b∈X.fs)->X.dD.heap.FunFrames X.base l->s.heap.FunFrames X.base l:=by
  intro l
  induction l with
  |nil=>intro _ _;trivial
  |cons env r ih =>
   intro hs hl;obtain⟨hk,⟨L,o,hf,hn,ho,hd⟩,hr⟩:=hl;have hL:L∈X.fs:=hs L (by unfold iF;rw[fb,hf];exact cR);obtain⟨sl,e⟩:=I.base.slot L o ho (I.ok.su L hL) hL λz=>I.ok.pe L z hL;exact⟨hk,⟨L,_,hf,hn,e,hd⟩,ih (λb hb=>hs b (by unfold iF;rw[fb,hf];exact bG _ hb)) hr⟩
 exact all X.outer (λ_ hb=>hb) I.ok.P1
theorem Inv.stack(I:Inv X pins σ H s):s.heap.FunFrames X.base X.stack:=by
 rcases I.ok.xE with e|⟨e,hf⟩
 ·rw[e];exact I.P1
 ·rw[e];obtain⟨m,hn,_⟩:=I.loc;refine .cons (by rw[I.ok.kind];decide) hf hn ?_ I.P1;exact Heap.get?_none_of_le (aF I.ok.qq I.ok.above)
theorem Inv.L4(I:Inv X pins σ H s):∀b∈iF X.stack,b∈X.env.locals::X.fs:=λb hb=>by
 rcases I.ok.xE with e|⟨e,hf⟩
 ·rw[e] at hb;exact bG _ hb
 ·rw[e] at hb;unfold iF at hb;rw[fb,hf] at hb;exact hb
theorem Inv.CT(I:Inv X pins σ H s):∀b∈iF X.stack,H b=none:=λb hb=>by
 rcases aH.mp (I.L4 b hb) with e|hb
 ·rw[e];exact I.free
 ·obtain⟨_,o,ho,_⟩:=I.ok.P1.mem hb;exact I.base.free b o ho (I.ok.su b hb) λz=>I.ok.pe b z hb
theorem Inv.step{g':Array GenState}{t':Nat}{d':Drawn}{ch:List Addr}(I:Inv X pins σ H s)(oB:∀b∈ch,(b∈X.ex\/X.dD.heap.objs.size<=b)/\b≠X.env.locals/\(∀x c,X.env.cells.lookup x=some c->c≠b)/\∀p∈X.pn++pins,p.1≠b)(keep:∀b o,b≠X.env.locals->b∉X.fs->b∉ch->s.heap.get? b=some o->H b=none->h'.get? b=some o)(slot:∀b o,b≠X.env.locals->b∈X.fs->b∉ch->s.heap.get? b=some o->H b=none->∃sl,h'.get? b=some { o with slots:=sl })(free:∀b o,b∉ch->s.heap.get? b=some o->H b=none->H' b=none)(there:∀b o,b∉ch->s.heap.get? b=some o->∃o',h'.get? b=some o')(jx:∀b xs,H b=some (.tup xs)->H' b=some (.tup xs))(je:∀b o u,H b=some (.ku o u)->H' b=some (.ku o u))(jy:∀b ps,H b=some (.my ps)->∃more,H' b=some (.my (ps++more)))(ns:∀m,s.heap.Ns X.env.locals m->h'.Ns X.env.locals m)(cb:gU X.prog X.w H' h')(hg:AllBare g') :
  Inv X pins σ H' { s with heap:=h',gens:=g',drawn:=d',toks:=t' }:=by
 have FT:∀b o,X.dD.heap.get? b=some o->b≠X.env.locals:=λb o e=>aE (aA (ax e) I.ok.above);have pT:∀b o,X.dD.heap.get? b=some o->b∉X.ex->b∉ch:=λb o e hx hb=>by
  rcases(oB b hb).1 with z|z
  ·exact hx z
  ·exact absurd (aA (ax e) z) (bI _)
 have cellK:∀x c,X.env.cells.lookup x=some c->∀v,s.heap.IsCell c v->h'.IsCell c v:=λx c e v bC=>by
  obtain⟨o,ho,hd⟩:=bC;have vf:c∉ch:=λz=>(oB c z).2.2.1 x c e rfl;by_cases hc:c∈X.fs
  ·obtain⟨sl,q⟩:=slot c o (I.sE x c e) hc vf ho (I.gk x c e);exact⟨_,q,hd⟩
  ·exact⟨o,keep c o (I.sE x c e) hc vf ho (I.gk x c e),hd⟩
 refine⟨I.ok,I.os,hg,⟨λb o e n hb hx=>?_,λb o e n hb hx=>?_,λb o e n hx=>?_,λb o e hx=>?_,λb xs e=>jx b xs (I.base.jx b xs e),λb o xs e=>je b o xs (I.base.je b o xs e),λb ps e=>?_⟩,?_,λx c e=>?_,?_,λx c e=>?_,λp hp=>?_,cb,I.len⟩
 ·exact keep b o (FT b o e) hb (pT b o e hx) (I.base.keep b o e n hb hx) (I.base.free b o e n hx)
 ·obtain⟨sl,e1⟩:=I.base.slot b o e n hb hx;obtain⟨MJ,e2⟩:=slot b _ (FT b o e) hb (pT b o e hx) e1 (I.base.free b o e n hx);exact⟨MJ,e2⟩
 ·obtain⟨o',e1⟩:=I.base.there b o e hx;exact free b o' (pT b o e hx) e1 (I.base.free b o e n hx)
 ·obtain⟨o',e1⟩:=I.base.there b o e hx;exact there b o' (pT b o e hx) e1
 ·obtain⟨m1,e1⟩:=I.base.jy b ps e;obtain⟨m2,e2⟩:=jy b _ e1;exact⟨m1++m2,by rw[e2,Mq]⟩
 ·obtain⟨m,hn,hl⟩:=I.loc;refine⟨m,ns m hn,λi x v e1 e2 e3=>?_⟩;obtain⟨u,r,l⟩:=hl i x v e1 e2 e3;refine⟨u,r,?_⟩;rcases l with l|⟨k,c,e,z⟩
  ·exact .inl l
  ·exact .inr ⟨k,c,e,cellK x c e _ z⟩
 ·obtain⟨v,z⟩:=I.cell x c e;exact⟨v,cellK x c e v z⟩
 ·obtain⟨m,⟨o,_,_,ho,_⟩,_⟩:=I.loc;exact free _ o (λz=>(oB _ z).2.1 rfl) ho I.free
 ·obtain⟨v,o,ho,hd⟩:=I.cell x c e;exact free c o (λz=>(oB c z).2.2.1 x c e rfl) ho (I.gk x c e)
 ·obtain⟨e,n,ne,nf,d⟩:=I.pin p hp;have vf:p.1∉ch:=λz=>(oB p.1 z).2.2.2 p hp rfl;exact⟨keep p.1 p.2 ne nf vf e n,free p.1 p.2 vf e n,ne,nf,d⟩
theorem Inv.un{t':Nat}(I:Inv X pins σ H s)(u:Un X.fs [] H H' s.heap h')(cb:gU X.prog X.w H' h'):Inv X pins σ H' { s with heap:=h',toks:=t' }:=by
 obtain⟨m,⟨o,es,ep,ho,r⟩,_⟩:=id I.loc;obtain⟨sl,hL⟩:=u.any ho I.free (by simp);exact I.step (g':=s.gens) (d':=s.drawn) (ch:=[]) (λ_ z=>nomatch z) (λb o _ hb _ e n=>u.keep b o e n hb (by simp)) (λb o _ hb _ e n=>u.slot b o e n hb (by simp)) (λb o _ e n=>u.free b o e n (by simp)) (λb o _ e=>u.there b o e (by simp)) u.jx u.je u.jy (λm' hm=>by
  obtain⟨o',pq,Ca,nM,r'⟩:=hm;rw[ho] at nM;cases nM;exact ⟨_,pq,Ca,hL,r'⟩) cb I.bare
theorem Inv.call{g':Array GenState}{t':Nat}{d':Drawn}(I:Inv X pins σ H s)(u:Un (iF X.stack) ch H H' s.heap h')(cb:gU X.prog X.w H' h')(hg:AllBare g')(oB:∀b∈ch,(b∈X.ex\/X.dD.heap.objs.size<=b)/\b≠X.env.locals/\(∀x c,X.env.cells.lookup x=some c->c≠b)/\∀p∈X.pn++pins,p.1≠b) :
  Inv X pins σ H' { s with heap:=h',gens:=g',drawn:=d',toks:=t' }:=by
 obtain⟨m,⟨o,es,ep,ho,r⟩,_⟩:=id I.loc;obtain⟨sl,hL⟩:=u.any ho I.free λz=>(oB _ z).2.1 rfl;exact I.step (ch:=ch) oB (λb o hL hb hc e n=>u.keep b o e n (λz=>(aH.mp (I.L4 b z)).elim hL hb) hc) (λb o _ _ hc e n=>u.any e n hc) (λb o hc e n=>u.free b o e n hc) (λb o hc e=>u.there b o e hc) u.jx u.je u.jy (λm' hm=>by
  obtain⟨o',pq,Ca,nM,r'⟩:=hm;rw[ho] at nM;cases nM;exact ⟨_,pq,Ca,hL,r'⟩) cb hg
theorem Inv.turned{t':Nat}{it:Addr}(I:Inv X pins σ H s)(k:∀b o,b≠it->s.heap.get? b=some o->h'.get? b=some o)(hn:H it=none)(hL:it≠X.env.locals)(h1:it∈X.ex\/X.dD.heap.objs.size<=it)(h2:∀x c,X.env.cells.lookup x=some c->c≠it)(h3:∀p∈X.pn++pins,p.1≠it):Inv X pins σ H { s with heap:=h',toks:=t' }:=by
 have FR:∀b u,H b=some u->b≠it:=λb u e z=>by rw[z,hn] at e;cases e
 refine I.step (g':=s.gens) (d':=s.drawn) (ch:=[it]) (λb hb=>?_) (λb o _ _ hc e _=>k b o (λz=>hc (by simp[z])) e) (λb o _ _ hc e _=>⟨o.slots,k b o (λz=>hc (by simp[z])) e⟩) (λ_ _ _ _ n=>n)
  (λb o hc e=>⟨o,k b o (λz=>hc (by simp[z])) e⟩) (λ_ _ e=>e) (λ_ _ _ e=>e) (λb ps e=>⟨#[],by rw[e];simp⟩) (λm hm=>?_) (λb u e=>?_) I.bare
 ·have e:b=it:=by simpa using hb
  subst e;exact⟨h1,hL,h2,h3⟩
 ·obtain⟨o,es,ep,ho,r⟩:=hm;exact⟨o,es,ep,k _ o (cc hL) ho,r⟩
 ·refine(I.cb b u e).Z4 (λc v hc q=>k c v ?_ q) (λ_ q=>q) λ_ _ q=>q;rcases hc with z|z
  ·rw[z];exact FR b u e
  ·exact FR c _ z
theorem Inv.tok(I:Inv X pins σ H s)(t:Nat):Inv X pins σ H { s with toks:=t }:=I.un (h':=s.heap) (t':=t) Un.refl I.cb
theorem Inv.kept{t':Nat}(I:Inv X pins σ H s)(k:∀b u,s.heap.get? b=some u->h'.get? b=some u):Inv X pins σ H { s with heap:=h',toks:=t' }:=I.un (Un.kept k) (I.cb.kept k)
theorem Inv.laid{a:Addr}{o:HO}{t':Nat}(I:Inv X pins σ H s)(k:∀b u,s.heap.get? b=some u->h'.get? b=some u)(hp:s.heap.objs.size<=a)(new:p0 X.prog X.w (upd H a o) h' a o) :
  Inv X pins σ (upd H a o) { s with heap:=h',toks:=t' }:=I.un (Un.laid k hp (I.cb.fresh hp)) (I.cb.laid k hp new)
theorem Inv.write{x e:Addr}{o:HO}{t':Nat}(I:Inv X pins σ H s)(mu:xk (H x))(he:e=x\/H e=some (.own x))(k:∀b u,b≠e->s.heap.get? b=some u->h'.get? b=some u)(qc:∃u,h'.get? e=some u)(new:p0 X.prog X.w (upd H x o) h' x o):Inv X pins σ (upd H x o) { s with heap:=h',toks:=t' }:=I.un (Un.write mu he k qc) (I.cb.write mu he k qc new)
theorem Inv.K4{lP:List (Addr×Obj)}(I:Inv X pins σ H s)(h:∀p∈lP,s.heap.get? p.1=some p.2/\H p.1=none/\p.1≠X.env.locals/\p.1∉X.fs/\∀v,p.2.data≠.cell v):Inv X lP σ H s :=
 ⟨I.ok,I.os,I.bare,I.base,I.loc,I.cell,I.free,I.gk,λp hp=>(aU.mp hp).elim (λz=>I.pin p (bA _ z)) (h p),I.cb,I.len⟩
theorem Lr(hN:N.Nodup)(a:N[i]?=some x)(b:N[j]?=some x):i=j:=by
 obtain⟨h1,e1⟩:=aw.mp a;obtain⟨h2,e2⟩:=aw.mp b;exact(mj hN).mp (e1.trans e2.symm)
theorem Ji{Q:Unit->Shared->Prop}(I:Inv X pins σ H s)(hN:X.N.Nodup)(hi:X.N[i]?=some x)(hx:Loc X.env.scope x)(r:RelV v u)(h:∀s',Inv X pins (σ.set i (some v)) H s'->(∃a,Heap.SameBut a s.heap s'.heap/\(a=X.env.locals\/X.env.cells.lookup x=some a))->Q () s')(hf:X.fn x=true\/X.env.scope.names.lookup x=some .local:=by first|exact .inl rfl|exact .inr rfl|assumption):wpAny M A (storeName X.env x u) Q E s:=by
 obtain⟨m,hn,hl⟩:=id I.loc;have Bn:(X.env.scope.kind==.class||(X.env.scope.kind==.module&&X.env.locals != X.env.globals))=false:=by rw[I.ok.kind];rfl
 have vK:i<σ.length:=by rw[I.len];exact(aw.mp hi).1
 have sE:=I.sE;have tracked:∀{a:Addr} {h':Heap},(∃o,s.heap.get? a=some o/\H a=none)->Heap.SameBut a s.heap h'->gU X.prog X.w H h':=λ{a h'} ha hs b ob e=>by
  obtain⟨_,_,nS⟩:=ha;refine(I.cb b ob e).Z4 (λc w' hc q=>(hs.2 c ?_).trans q) (λ_ q=>q) λ_ _ q=>q;rintro rfl;rcases hc with rfl|hc
  ·rw[nS] at e;cases e
  ·rw[nS] at hc;cases hc
 rcases hx with hk|hk
 ·refine wpAny_storeName_local hk hn (λh' NL hs=>?_) Bn;obtain⟨oL,_,_,oU,_⟩:=id hn;refine h _ ⟨I.ok,I.os,I.bare,⟨λb o e n hb hx=>?_,λb o e n hb hx=>?_,I.base.free,λb o e hx=>?_,I.base.jx,I.base.je,I.base.jy⟩,⟨_,NL,λj y v' e1 e2 e3=>?_⟩,λy c e=>?_,I.free,I.gk,λp hp=>?_,tracked ⟨oL,oU,I.free⟩ hs,by simpa using I.len⟩ ⟨_,hs,.inl rfl⟩
  ·exact(hs.2 b (aE (aA (ax e) I.ok.above))).trans (I.base.keep b o e n hb hx)
  ·obtain⟨sl,e1⟩:=I.base.slot b o e n hb hx;exact⟨sl,(hs.2 b (aE (aA (ax e) I.ok.above))).trans e1⟩
  ·obtain⟨o',e1⟩:=I.base.there b o e hx;exact⟨o',(hs.2 b (aE (aA (ax e) I.ok.above))).trans e1⟩
  ·by_cases hj:j=i
   ·subst hj;rw[hi] at e1;cases e1;rw[aY vK] at e2;cases e2;exact⟨u,r,.inl ⟨hk,by simp⟩⟩
   ·rw[ay (cc hj)] at e2;obtain⟨u',r',q⟩:=hl j y v' e1 e2 e3;refine⟨u',r',?_⟩;rcases q with⟨k,e⟩|⟨k,c,e,z⟩
    ·refine .inl ⟨k,?_⟩;have:y≠x:=λe=>hj (Lr hN e1 (e▸hi));simp[this,e]
    ·exact .inr ⟨k,c,e,z.sameBut hs (sE y c e)⟩
  ·obtain⟨w',z⟩:=I.cell y c e;exact⟨w',z.sameBut hs (sE y c e)⟩
  ·obtain⟨e,n,ne,nf,d⟩:=I.pin p hp;exact⟨(hs.2 p.1 ne).trans e,n,ne,nf,d⟩
 ·have tN:X.fn x=true:=by
   rcases hf with z|z
   ·exact z
   ·rw[z] at hk;cases hk
  obtain⟨c,hc⟩:=I.ok.has x (.inl hk);obtain⟨w',z⟩:=I.cell x c hc;refine wpAny_storeName_cell I.ok.kind hk hc z (λh' jF hs=>?_);obtain⟨oc,AV,AU⟩:=id z;refine h { s with heap:=h' } ⟨I.ok,I.os,I.bare,⟨λb o e n hb hx=>?_,λb o e n hb hx=>?_,I.base.free,λb o e hx=>?_,I.base.jx,I.base.je,I.base.jy⟩,⟨m,hn.sameBut hs (cc (sE x c hc)),λj y v' e1 e2 e3=>?_⟩,λy c' e=>?_,I.free,I.gk,λp hp=>?_,tracked ⟨oc,AV,I.gk x c hc⟩ hs,by simpa using I.len⟩ ⟨c,hs,.inr hc⟩
  ·exact(hs.2 b (aE (aA (ax e) (I.ok.wD x c tN hc)))).trans (I.base.keep b o e n hb hx)
  ·obtain⟨sl,e1⟩:=I.base.slot b o e n hb hx;exact⟨sl,(hs.2 b (aE (aA (ax e) (I.ok.wD x c tN hc)))).trans e1⟩
  ·obtain⟨o',e1⟩:=I.base.there b o e hx;exact⟨o',(hs.2 b (aE (aA (ax e) (I.ok.wD x c tN hc)))).trans e1⟩
  ·by_cases hj:j=i
   ·subst hj;rw[hi] at e1;cases e1;rw[aY vK] at e2;cases e2;exact⟨u,r,.inr ⟨.inl hk,c,hc,jF⟩⟩
   ·rw[ay (cc hj)] at e2;obtain⟨u',r',q⟩:=hl j y v' e1 e2 e3;refine⟨u',r',?_⟩;rcases q with q|⟨k,c',e,z'⟩
    ·exact .inl q
    ·refine .inr ⟨k,c',e,z'.sameBut hs ?_⟩;rintro rfl;exact hj (Lr hN e1 (I.ok.inj _ _ _ e hc▸hi))
  ·by_cases tO:c'=c
   ·subst tO;exact⟨_,jF⟩
   ·obtain⟨w2,z2⟩:=I.cell y c' e;exact⟨w2,z2.sameBut hs tO⟩
  ·obtain⟨e,n,ne,nf,d⟩:=I.pin p hp;refine⟨(hs.2 p.1 ?_).trans e,n,ne,nf,d⟩;intro q;rw[q,AV] at e;have q':oc=p.2:=aQ e;exact d w' (by rw[<- q'];exact AU)
theorem Z3{Q:Unit->Shared->Prop}(I:Inv X pins σ H s)(hN:X.N.Nodup)(hi:X.N[i]?=some x)(hx:Loc X.env.scope x)(r:RelV v u)(h:∀s',Inv X pins (σ.set i (some v)) H s'->Q () s')(hf:X.fn x=true\/X.env.scope.names.lookup x=some .local:=by first|exact .inl rfl|exact .inr rfl|assumption):wpAny M A (storeName X.env x u) Q E s :=
 Ji I hN hi hx r (λs' I' _=>h s' I') hf
theorem Inv.DO{s':Shared}(I:Inv X pins σ H s)(ho:s'.os=s.os)(u:Un (iF X.stack) ch H H' s.heap s'.heap)(cb:gU X.prog X.w H' s'.heap)(hg:AllBare s'.gens)(oB:∀b∈ch,(b∈X.ex\/X.dD.heap.objs.size<=b)/\b≠X.env.locals/\(∀x c,X.env.cells.lookup x=some c->c≠b)/\∀p∈X.pn++pins,p.1≠b):Inv X pins σ H' s':=by
 obtain⟨h',g',d',t',o'⟩:=s';have e:o'=s.os:=ho;subst e;exact I.call (g':=g') (t':=t') (d':=d') u cb hg oB
end
noncomputable abbrev XK:=Value->Option Addr->Hp->Prop
noncomputable abbrev St:=List (Option V)
noncomputable abbrev VK:=V->Hp->Prop
noncomputable abbrev TE:=St->Hp->VK->Prop
noncomputable abbrev TT:=St->Hp->(Bool->Hp->Prop)->Prop
noncomputable abbrev TA:=St->Hp->(List V->Hp->Prop)->Prop
structure Ends where
 nx:St->Hp->Prop
 rt:VK
 bk:St->Hp->Prop:=λ_ _=>False
 ct:St->Hp->Prop:=λ_ _=>False
noncomputable abbrev TS:=Ends->St->Hp->Prop
def EP(X:Cx)(pins:List (Addr×Obj))(σ:St)(Q:VK)(u:Value)(s':Shared):Prop:=∃v H',Inv X pins σ H' s'/\RelV v u/\Q v H'
def TP(X:Cx)(pins:List (Addr×Obj))(σ:St)(Q:Bool->Hp->Prop)(b:Bool)(s':Shared):Prop:=∃H',Inv X pins σ H' s'/\Q b H'
def AP(X:Cx)(pins:List (Addr×Obj))(σ:St)(Q:List V->Hp->Prop)(us:List Value)(s':Shared):Prop:=∃vs H',Inv X pins σ H' s'/\Vals vs us/\Q vs H'
def SP(X:Cx)(pins:List (Addr×Obj))(D:Ends)(f:Flow)(s':Shared):Prop :=
 match f with
 |.next=>∃cI H',Inv X pins cI H' s'/\D.nx cI H'
 |.brk=>∃cI H',Inv X pins cI H' s'/\D.bk cI H'
 |.cont=>∃cI H',Inv X pins cI H' s'/\D.ct cI H'
 |.ret u=>∃v cI H',Inv X pins cI H' s'/\RelV v u/\D.rt v H'
def PE(X:Cx)(e:Expr)(t:TE):Prop :=
 ∀(pins:List (Addr×Obj)) (s:Shared) (σ:St) (H:Hp) (Q:VK),Inv X pins σ H s->t σ H Q->wpAny (model X.prog X.w) X.A (eval e X.env) (EP X pins σ Q) X.xe s
def PT(X:Cx)(e:Expr)(t:TT):Prop :=
 ∀(pins:List (Addr×Obj)) (s:Shared) (σ:St) (H:Hp) (Q:Bool->Hp->Prop),Inv X pins σ H s->t σ H Q->wpAny (model X.prog X.w) X.A (isTrue e X.env (eval e X.env)) (TP X pins σ Q) X.xe s
def PW(X:Cx)(e:Expr)(t:TT):Prop :=
 ∀(whole:Sem Value) (pins:List (Addr×Obj)) (s:Shared) (σ:St) (H:Hp) (Q:Bool->Hp->Prop),Inv X pins σ H s->t σ H Q->wpAny (model X.prog X.w) X.A (isTrue e X.env whole) (TP X pins σ Q) X.xe s
theorem PW.pt{t:TT}(h:PW X e t):PT X e t:=h _
def PA(X:Cx)(es:List Expr)(t:TA):Prop :=
 ∀(pos:Pos) (pins:List (Addr×Obj)) (s:Shared) (σ:St) (H:Hp) (Q:List V->Hp->Prop),Inv X pins σ H s->t σ H Q->wpAny (model X.prog X.w) X.A (spliced (backTo pos (starEach es X.env))) (AP X pins σ Q) X.xe s
def PS(X:Cx)(st:Stmt)(t:TS):Prop :=
 ∀(pins:List (Addr×Obj)) (s:Shared) (σ:St) (H:Hp) (D:Ends),Inv X pins σ H s->t D σ H->wpAny (model X.prog X.w) X.A (exec st X.env) (SP X pins D) X.xe s
def kW(X:Cx)(st:List Stmt)(t:TS):Prop :=
 ∀(pins:List (Addr×Obj)) (s:Shared) (σ:St) (H:Hp) (D:Ends),Inv X pins σ H s->t D σ H->wpAny (model X.prog X.w) X.A (execs st X.env) (SP X pins D) X.xe s
theorem cW{t:Sem α}{Q Q':α->Shared->Prop}(h:wpAny M A t Q E s)(hQ:∀a s,Q a s->Q' a s):wpAny M A t Q' E s:=bK h hQ λ_ _ x=>x
section
theorem bin{a b:Expr}(ha:PE X a ta)(hb:PE X b tb){R:V->V->Hp->Prop}(I:Inv X pins σ H s)(h:ta σ H λx H1=>tb σ H1 λy H2=>R x y H2){Q:α->Shared->Prop}{f:Value->Value->Sem α}(hf:∀v u s2 x y H2,Inv X pins σ H2 s2->RelV x v->RelV y u->R x y H2->wpAny (model X.prog X.w) X.A (f v u) Q X.xe s2) :
  wpAny (model X.prog X.w) X.A (eval a X.env) (λv bS=>wpAny (model X.prog X.w) X.A (eval b X.env) (λu iy=>wpAny (model X.prog X.w) X.A (f v u) Q X.xe iy) X.xe bS) X.xe s:=by
 refine cW (ha pins s σ H _ I h) λv s1 bC=>?_;obtain⟨x,H1,I1,r1,q1⟩:=bC;refine cW (hb pins s1 σ H1 _ I1 q1) λu s2 bC=>?_;obtain⟨y,H2,I2,r2,q2⟩:=bC;exact hf v u s2 x y H2 I2 r1 r2 q2
def Wm(i:Nat):TE:=λσ H Q=>∃v,σ[i]?=some (some v)/\Q v H
def tC(v:V):TE:=λ_ H Q=>Q v H
theorem Rt(hN:X.N[i]?=some x)(hv:zR X.env.scope x)(hd:(x==("__debug__":Str))=false:=by decide)(mG:(x==("__classdict__":Str))=false:=by decide):PE X (.Name x pos) (Wm i):=by
 intro pins s σ H Q I h;obtain⟨v,e,h⟩:=h;obtain⟨m,hn,hl⟩:=I.loc;obtain⟨u,r,l⟩:=hl i x v hN e hv;have fin:EP X pins σ Q u s:=⟨v,H,I,r,h⟩
 rcases l with⟨hk,hm⟩|⟨hk,c,hc,qd⟩
 ·exact wpAny_Name (wpAny_loadName_local I.ok.kind hk hn hm fin) hd
 ·rcases hk with hk|hk
  ·exact wpAny_Name (wpAny_loadName_cell I.ok.kind hk hc qd fin) hd
  ·exact wpAny_Name (wpAny_loadName_free I.ok.kind hk hc qd fin mG) hd
theorem Rk{i j pos}:PE X (.Constant (.int i) j pos) (tC (.int i)):=λ_ _ _ H _ I h=>wpAny_Constant_int ⟨.int i,H,I.tok _,⟨_,rfl⟩,h⟩
theorem Xs{b j pos}:PE X (.Constant (.bool b) j pos) (tC (.bl b)):=λ_ _ _ H _ I h=>Constant_bool ⟨.bl b,H,I,rfl,h⟩
theorem Rn{j pos}:PE X (.Constant .none j pos) (tC .cj):=λ_ _ _ H _ I h=>Constant_none ⟨.cj,H,I,rfl,h⟩
theorem Kh{x j pos}:PE X (.Constant (.str x) j pos) (tC (.str x)):=λ_ _ _ H _ I h=>Calls.Constant_str ⟨.str x,H,I.tok _,⟨_,rfl⟩,h⟩
def Gl(X:Cx)(x:Str):Prop:=X.env.kindOf x=some .globalImplicit
theorem Q5(I:Inv X pins σ H s)(hg:Gl X x)(hm:X.mg x=some u)(h:Q u s)(hd:(x==("__debug__":Str))=false:=by decide):wpAny (model X.prog X.w) X.A (eval (.Name x pos) X.env) Q E s :=
 Ab I.ok.kind hg (Calls.loadGlobal_global (by rw[I.ok.glob];exact I.mod.glob.keeps I.bk) hm h) hd
theorem O7(I:Inv X pins σ H s)(hg:Gl X x)(hm:X.mg x=none)(hv:bootBuiltins x=some u)(h:Q u s)(hn:x≠"__name__":=by decide)(hd:(x==("__debug__":Str))=false:=by decide):wpAny (model X.prog X.w) X.A (eval (.Name x pos) X.env) Q E s:=by
 obtain⟨mb,h1,h2⟩:=I.mod.blt;exact Ab I.ok.kind hg (Calls.loadGlobal_builtin (by rw[I.ok.glob];exact I.mod.glob.keeps I.bk) hm (by rw[I.ok.blt];exact h1.keeps I.bk) ((h2 x hn).trans hv) h) hd
theorem zv(hg:Gl X x)(hm:X.mg x=some u)(r:RelV v u)(hd:(x==("__debug__":Str))=false:=by decide):PE X (.Name x pos) (tC v) :=
 λ_ _ _ H _ I h=>Q5 I hg hm ⟨v,H,I,r,h⟩ hd
theorem TL(hg:Gl X x)(hm:X.mg x=none)(hv:bootBuiltins x=some u)(r:RelV v u)(hn:x≠"__name__":=by decide)(hd:(x==("__debug__":Str))=false:=by decide):PE X (.Name x pos) (tC v) :=
 λ_ _ _ H _ I h=>O7 I hg hm hv ⟨v,H,I,r,h⟩ hn hd
variable{a b:Expr}
variable{tA xC:TT}{rest:List Expr}
def Wa(t u:TT):TT:=λσ H Q=>t σ H λc H1=>if c=true then u σ H1 Q else Q false H1
def MB(t u:TT):TT:=λσ H Q=>t σ H λc H1=>if c=true then Q true H1 else u σ H1 Q
def Wg(t:TT):TT:=λσ H Q=>t σ H λc H1=>Q (!c) H1
theorem Uh(ha:PT X a tA):PW X (.BoolOp .And [a] pos) tA:=by
 intro wh pins s σ H Q I h;refine isTrue_and (cW (ha pins s σ H Q I h) λc s1 e=>?_);cases c with
 |true=>exact isTrue_and_nil e
 |false=>exact e
theorem RE(ha:PT X a tA):PW X (.BoolOp .Or [a] pos) tA:=by
 intro wh pins s σ H Q I h;refine isTrue_or (cW (ha pins s σ H Q I h) λc s1 e=>?_);cases c with
 |false=>exact isTrue_or_nil e
 |true=>exact e
theorem RD(ha:PT X a tA)(hb:PW X (.BoolOp .And (b::rest) pos) xC):PW X (.BoolOp .And (a::b::rest) pos) (Wa tA xC):=by
 intro wh pins s σ H Q I h;refine isTrue_and (cW (ha pins s σ H _ I h) λc s1 ⟨H1,I1,q1⟩=>?_);cases c with
 |true=>exact hb wh pins s1 σ H1 Q I1 q1
 |false=>exact⟨H1,I1,q1⟩
theorem XA(ha:PT X a tA)(hb:PW X (.BoolOp .Or (b::rest) pos) xC):PW X (.BoolOp .Or (a::b::rest) pos) (MB tA xC):=by
 intro wh pins s σ H Q I h;refine isTrue_or (cW (ha pins s σ H _ I h) λc s1 ⟨H1,I1,q1⟩=>?_);cases c with
 |true=>exact⟨H1,I1,q1⟩
 |false=>exact hb wh pins s1 σ H1 Q I1 q1
theorem RC(ha:PT X a tA):PT X (.UnaryOp .Not a pos) (Wg tA):=by
 intro pins s σ H Q I h;exact isTrue_not (ha pins s σ H (λc H1=>Q (!c) H1) I h)
def XT(ta tb:TE):TE:=λσ H Q=>ta σ H λx H1=>∃c,x=.bl c/\if c=true then tb σ H1 Q else Q (.bl false) H1
def Wh(ta tb:TE):TE:=λσ H Q=>ta σ H λx H1=>∃c,x=.bl c/\if c=true then Q (.bl true) H1 else tb σ H1 Q
def XZ(ta:TE):TE:=λσ H Q=>ta σ H λx H1=>∃c,x=.bl c/\Q (.bl (!c)) H1
theorem Rp{op}{t:TE}(h:PE X a t):PE X (.BoolOp op [a] pos) t:=λpins s σ H Q I hw=>BoolOp_one (h pins s σ H Q I hw)
theorem Rh(ha:PE X a ta)(hb:PE X (.BoolOp .And (b::rest) pos) tb):PE X (.BoolOp .And (a::b::rest) pos) (XT ta tb):=by
 intro pins s σ H Q I h;refine BoolOp_and (cW (ha pins s σ H _ I h) λv s1 bC=>?_);obtain⟨x,H1,I1,r1,q1⟩:=bC;obtain⟨c,rfl,q1⟩:=q1;cases r1;refine cP ?_;cases c with
 |true=>exact hb pins s1 σ H1 Q I1 q1
 |false=>exact⟨.bl false,H1,I1,rfl,q1⟩
theorem Xw(ha:PE X a ta)(hb:PE X (.BoolOp .Or (b::rest) pos) tb):PE X (.BoolOp .Or (a::b::rest) pos) (Wh ta tb):=by
 intro pins s σ H Q I h;refine BoolOp_or (cW (ha pins s σ H _ I h) λv s1 bC=>?_);obtain⟨x,H1,I1,r1,q1⟩:=bC;obtain⟨c,rfl,q1⟩:=q1;cases r1;refine cP ?_;cases c with
 |false=>exact hb pins s1 σ H1 Q I1 q1
 |true=>exact⟨.bl true,H1,I1,rfl,q1⟩
theorem Ro(ha:PE X a ta):PE X (.UnaryOp .Not a pos) (XZ ta):=by
 intro pins s σ H Q I h;refine UnaryOp_ (cW (ha pins s σ H _ I h) λv s1 bC=>?_);obtain⟨x,H1,I1,r1,q1⟩:=bC;obtain⟨c,rfl,q1⟩:=q1;cases r1;exact not_of (cP ⟨.bl (!c),H1,I1,rfl,q1⟩)
def MC(t:TT)(ta tb:TE):TE:=λσ H Q=>t σ H λc H1=>if c=true then ta σ H1 Q else tb σ H1 Q
theorem a48(hc:PT X c tA)(ha:PE X a ta)(hb:PE X b tb):PE X (.IfExp c a b pos) (MC tA ta tb):=by
 intro pins s σ H Q I h;refine wpAny_IfExp (cW (hc pins s σ H _ I h) λd s1 ⟨H1,I1,q1⟩=>?_);cases d with
 |true=>exact ha pins s1 σ H1 Q I1 q1
 |false=>exact hb pins s1 σ H1 Q I1 q1
end
def gA(K:PySem.W.Frag)(H:Hp)(a:Addr)(xs:List V):Prop :=
 Rd H a (.lst xs) \/
  ∃(o:Obj) (ba:Array Value) (n:Nat),K.lookup a=some o/\o.cls=.type "list"/\o.dict=none/\o.data=.seq ba n/\ba.size<=sizeLine/\Vals xs ba.toList
def iW(K:PySem.W.Frag)(H:Hp)(a:Addr)(xs:List V):Prop :=
 Rd H a (.tup xs) \/
  ∃(o:Obj) (ba:Array Value) (n:Nat),K.lookup a=some o/\o.cls=.type "tuple"/\o.data=.seq ba n/\ba.size<=sizeLine/\Vals xs ba.toList
def UZ:Value->Option V
 |.none=>some .cj
 |.bool b=>some (.bl b)
 |.int i _=>some (.int i)
 |.str x _=>some (.str x)
 |.bytes b _=>some (.lW b)
 |.float b _=>some (.sA b)
 |.ref a=>some (.ref a)
 |.type n=>some (.ty n)
 |_=>none
theorem RelV.abs{x:V}(r:RelV x u):UZ u=some x:=by
 cases x with
 |cj=>cases r;rfl
 |bl _=>cases r;rfl
 |int _=>obtain⟨t,rfl⟩:=r;rfl
 |str _=>obtain⟨t,rfl⟩:=r;rfl
 |lW _=>obtain⟨t,rfl⟩:=r;rfl
 |sA _=>obtain⟨t,rfl⟩:=r;rfl
 |ref _=>cases r;rfl
 |ty _=>cases r;rfl
theorem RelV.inj{x y:V}{u:Value}(r:RelV x u)(q:RelV y u):x=y:=aQ (r.abs.symm.trans q.abs)
theorem Vals.inj{xs ys:List V}{us:List Value}(h:Vals xs us)(h':Vals ys us):xs=ys:=by
 induction h generalizing ys with
 |nil=>cases h';rfl
 |cons r t ih =>
  cases h' with
  |cons r' t'=>rw[r.inj r',ih t']
section
variable{ys:List V}
theorem gA.of(h:H a=some (.lst xs)):gA K H a xs:=.inl (.inl h)
theorem Inv.list(I:Inv X pins σ H s)(h:gA X.K H a xs):∃ba:List Value,Vals xs ba/\PlainL s.heap a ba.toArray/\xs.length<=sizeLine:=by
 rcases h with h|⟨o,ba,n,hk,hc,hd,hs,hz,r⟩
 ·obtain⟨z,ba,n,r,e⟩:=h.ok I.cb;exact⟨ba,r,⟨_,n,e,rfl,rfl,rfl⟩,z⟩
 ·refine⟨ba.toList,r,⟨o,n,I.iA a o hk,hc,hd,by simpa using hs⟩,?_⟩;have e:=r.length;simp only[Array.length_toList] at e;omega
theorem Inv.tuple(I:Inv X pins σ H s)(h:iW X.K H a xs):∃ba:List Value,Vals xs ba/\IsTup s.heap a ba.toArray/\xs.length<=sizeLine:=by
 rcases h with h|⟨o,ba,n,hk,hc,hs,hz,r⟩
 ·obtain⟨z,ba,r,p⟩:=h.ok I.cb;exact⟨ba,r,p.tup,z⟩
 ·refine⟨ba.toList,r,⟨o,I.iA a o hk,hc,n,by simpa using hs⟩,?_⟩;have e:=r.length;simp only[Array.length_toList] at e;omega
theorem Inv.Lp(I:Inv X pins σ H s)(h:gA X.K H a xs)(h':gA X.K H a ys):xs=ys:=by
 obtain⟨ba,r,⟨o,n,e,_,_,d⟩,_⟩:=I.list h;obtain⟨its',r',⟨o',n',e',_,_,d'⟩,_⟩:=I.list h';rw[e] at e';cases e';rw[d] at d';injection d' with d1 _;have:ba=its':=by simpa using fX Array.toList d1
 subst this;exact r.inj r'
theorem Inv.ZF(I:Inv X pins σ H s)(h:iW X.K H a xs)(h':iW X.K H a ys):xs=ys:=by
 obtain⟨ba,r,⟨o,e,_,n,d⟩,_⟩:=I.tuple h;obtain⟨its',r',⟨o',e',_,n',d'⟩,_⟩:=I.tuple h';rw[e] at e';cases e';rw[d] at d';injection d' with d1 _;have:ba=its':=by simpa using fX Array.toList d1
 subst this;exact r.inj r'
end
noncomputable abbrev Cx.Z1(X:Cx)(E:Value->Shared->Prop):Cx:={ X with xe:=E }
theorem Cx.Ok.Z1{X:Cx}(ok:X.Ok)(E:Value->Shared->Prop):(X.Z1 E).Ok :=
 ⟨ok.mod,ok.kind,ok.glob,ok.blt,ok.above,ok.inj,ok.has,ok.wD,ok.hd,ok.frames,ok.xE,ok.Hl,ok.bs,ok.qq,ok.nE,ok.pe,ok.P1,ok.su⟩
theorem Cx.Ok.Ct(ok:(X.Z1 E).Ok):X.Ok :=
 ⟨ok.mod,ok.kind,ok.glob,ok.blt,ok.above,ok.inj,ok.has,ok.wD,ok.hd,ok.frames,ok.xE,ok.Hl,ok.bs,ok.qq,ok.nE,ok.pe,ok.P1,ok.su⟩
theorem Inv.Z1(I:Inv X pins σ H s)(E:Value->Shared->Prop):Inv (X.Z1 E) pins σ H s:=⟨I.ok.Z1 E,I.os,I.bare,I.base,I.loc,I.cell,I.free,I.gk,I.pin,I.cb,I.len⟩
theorem Inv.Ct(I:Inv (X.Z1 E) pins σ H s):Inv X pins σ H s:=⟨I.ok.Ct,I.os,I.bare,I.base,I.loc,I.cell,I.free,I.gk,I.pin,I.cb,I.len⟩
section
variable{st:Stmt}{rest:List Stmt}{t u:TS}
def LJ:TS:=λD σ H=>D.nx σ H
def Wk(t u:TS):TS:=λD σ H=>t { D with nx:=u D } σ H
theorem Uc:kW X [] LJ:=λ_ _ σ H _ I h=>wpAny_execs_nil ⟨σ,H,I,h⟩
theorem a39(h1:PS X st t)(h2:kW X rest u):kW X (st::rest) (Wk t u):=by
 intro pins s σ H D I h;refine wpAny_execs_cons (cW (h1 pins s σ H { D with nx:=u D } I h) λf s1 q=>?_);cases f with
 |next =>
  obtain⟨cI,H',I',q⟩:=q;exact h2 pins s1 cI H' D I' q
 |ret v=>exact q
 |brk=>exact q
 |cont=>exact q
theorem Ua:PS X (.Pass pos) LJ:=λ_ _ σ H _ I h=>wpAny_Pass ⟨σ,H,I,h⟩
theorem Inv.quiet(I:Inv X pins σ H s):interactive X.env=false:=by simp[interactive,I.ok.kind]
def XX(te:TE):TS:=λD σ H=>te σ H λ_ H1=>D.nx σ H1
theorem TZ(he:PE X e te)(hs:swapsWith e none pos.line X.env=pure false:=by rfl):PS X (.Expr e pos) (XX te):=by
 intro pins s σ H D I h;exact wpAny_Expr_any (cW (he pins s σ H _ I h) λv s1 ⟨x,H1,I1,r1,q1⟩=>⟨σ,H1,I1,q1⟩) I.quiet hs
def Wj(te:TE):TS:=λD σ H=>te σ H D.rt
theorem RB(he:PE X e te):PS X (.Return (some e) pos) (Wj te):=by
 intro pins s σ H D I h;exact wpAny_Return_some (cW (he pins s σ H _ I h) λv s1 ⟨x,H1,I1,r1,q1⟩=>⟨x,σ,H1,I1,r1,q1⟩)
def PQ:TS:=λD _ H=>D.rt .cj H
theorem Ub:PS X (.Return none pos) PQ:=λ_ _ σ H _ I h=>wpAny_Return_none ⟨.cj,σ,H,I,rfl,h⟩
def We(c:TT)(t u:TS):TS:=λD σ H=>c σ H λb H1=>if b=true then t D σ H1 else u D σ H1
theorem Xz{a b:List Stmt}{tc:TT}(hc:PT X c tc)(ha:kW X a t)(hb:kW X b u):PS X (.If c a b pos) (We tc t u):=by
 intro pins s σ H D I h;refine wpAny_If (cW (hc pins s σ H _ I h) λd s1 ⟨H1,I1,q1⟩=>?_);cases d with
 |true=>exact ha pins s1 σ H1 D I1 q1
 |false=>exact hb pins s1 σ H1 D I1 q1
end
noncomputable abbrev TG:=V->St->Hp->(St->Hp->Prop)->Prop
noncomputable abbrev qy:=List V->St->Hp->(St->Hp->Prop)->Prop
def PG(X:Cx)(target:Expr)(t:TG):Prop :=
 ∀(pins:List (Addr×Obj)) (s:Shared) (σ:St) (H:Hp) (v:V) (u:Value) (Q:St->Hp->Prop),Inv X pins σ H s->RelV v u->t v σ H Q ->
  wpAny (model X.prog X.w) X.A (assign target X.env u) (λ_ s'=>∃cI H',Inv X pins cI H' s'/\Q cI H') X.xe s
def xj(X:Cx)(ts:List Expr)(t:qy):Prop :=
 ∀(pins:List (Addr×Obj)) (s:Shared) (σ:St) (H:Hp) (vs:List V) (us:List Value) (Q:St->Hp->Prop),Inv X pins σ H s->Vals vs us->t vs σ H Q ->
  wpAny (model X.prog X.w) X.A (assignInOrder ((assignEach ts X.env).map (·.2)) us) (λ_ s'=>∃cI H',Inv X pins cI H' s'/\Q cI H') X.xe s
noncomputable abbrev EE:=V->V->V->Hp->(Hp->Prop)->Prop
def ED(X:Cx)(t:EE):Prop :=
 ∀(pins:List (Addr×Obj)) (s:Shared) (σ:St) (H:Hp) (o i v:V) (ov iv u:Value) (Q:Hp->Prop),Inv X pins σ H s->RelV o ov->RelV i iv->RelV v u->t o i v H Q ->
  wpAny (model X.prog X.w) X.A (setItem ov iv u) (λ_ s'=>∃H',Inv X pins σ H' s'/\Q H') X.xe s
def uq(i:Nat):TG:=λv σ H Q=>Q (σ.set i (some v)) H
theorem KO(hN:X.N.Nodup)(hi:X.N[i]?=some x)(hx:Loc X.env.scope x)(hf:X.fn x=true\/X.env.scope.names.lookup x=some .local:=by first|exact .inl rfl|exact .inr rfl|assumption):PG X (.Name x pos) (uq i):=by
 intro pins s σ H v u Q I r h;exact wpAny_assign_Name (Z3 I hN hi hx r (λs' I'=>⟨_,H,I',h⟩) hf)
def HN:qy:=λvs σ H Q=>vs=[]/\Q σ H
def Iq(t:TG)(u:qy):qy:=λvs σ H Q=>∃v r,vs=v::r/\t v σ H λcI H'=>u r cI H' Q
theorem TV:xj X [] HN:=by
 intro pins s σ H vs us Q I r h;obtain⟨e,h⟩:=h;subst e;cases r;exact assignInOrder_nil ⟨σ,H,I,h⟩
theorem a45{t:TG}{u:qy}(h1:PG X e t)(h2:xj X es u)(hs:(assignEach (e::es) X.env).map (·.2)=assign e X.env::(assignEach es X.env).map (·.2):=by rfl):xj X (e::es) (Iq t u):=by
 intro pins s σ H vs us Q I r h;obtain⟨v,vr,e1,h⟩:=h;subst e1;cases r with
 |cons r rr =>
  rw[hs];refine xq (cW (h1 pins s σ H _ _ _ I r h) λ_ s1 bC=>?_);obtain⟨ki,H1,I1,q1⟩:=bC;exact h2 pins s1 ki H1 _ _ Q I1 rr q1
def Vo(K:PySem.W.Frag)(n:Nat)(t:qy):TG:=λv σ H Q=>∃a xs,v=.ref a/\iW K H a xs/\xs.length=n/\t xs σ H Q
theorem Rv{t:qy}{n:Nat}(hc:X.calm=true)(h:xj X es t)(hn:(assignEach es X.env).length=n:=by rfl)(fx:(assignEach es X.env).findIdx? (·.1)=none:=by rfl):PG X (.Tuple es k pos) (Vo X.K n t):=by
 intro pins s σ H v u Q I r hw;obtain⟨a,xs,e1,hq,hl,hw⟩:=hw;subst e1;cases r;obtain⟨ba,rv,ht,hz⟩:=I.tuple hq;refine assign_Tuple_tuple (I.ok.hd hc) ht (by simp[hn,<- hl,rv.length]) fx λh' hx=>?_;have I1:Inv X pins σ H { s with heap:=h' }:=I.kept (t':=s.toks) λb o e=>hx b o (aE (ax e)) e;exact h pins _ σ H xs _ Q I1 (by simpa using rv) hw
def Vn(to ti:TE)(t:EE):TG:=λv σ H Q=>to σ H λo H1=>ti σ H1 λi H2=>t o i v H2 λH3=>Q σ H3
theorem Ru{o i:Expr}{to ti:TE}{t:EE}(ho:PE X o to)(hi:PE X i ti)(hs:ED X t)(ha:∀ v,assign (.Subscript o i pos) X.env v=(do
   let ov <- holding [v] (eval o X.env)
   let iv <- holding [v,ov] (eval i X.env)
   standAt pos
   holding [v,ov,iv] (setItem ov iv v)
   release [v,ov,iv] []):=by intro _;rfl):PG X (.Subscript o i pos) (Vn to ti t):=by
 intro pins s σ H v u Q I r h;rw[ha];refine aa (bJ (cW (ho pins s σ H _ I h) λov s1 bC=>?_));obtain⟨x,H1,I1,r1,q1⟩:=bC;refine aa (bJ (cW (hi pins s1 σ H1 _ I1 q1) λiv s2 bC=>?_));obtain⟨y,H2,I2,r2,q2⟩:=bC;refine aa (eO (aa (bJ (cW (hs pins s2 σ H2 x y v ov iv u _ I2 r1 r2 r q2) λ_ s3 ⟨H3,I3,q3⟩=>?_))));exact wpAny_release ⟨σ,H3,I3,q3⟩
def wF(te:TE)(g:TG):TS:=λD σ H=>te σ H λx H1=>g x σ H1 D.nx
theorem Kj{g:TG}(he:PE X e te)(hg:PG X tg g)(hs:swapsWithSole [tg] e pos.line X.env=pure false:=by rfl)(hw:swappedStores [tg] e X.env=pure none:=by rfl)(h1:(assignEach [tg] X.env).map (·.2)=[assign tg X.env]:=by rfl):PS X (.Assign [tg] e pos) (wF te g):=by
 intro pins s σ H D I h;refine wpAny_Assign_stores (cW (he pins s σ H _ I h) λv s1 bC=>?_) hs hw;obtain⟨x,H1,I1,r1,q1⟩:=bC;rw[h1];exact cW (hg pins s1 σ H1 x v _ I1 r1 q1) λ_ s2 q=>q
theorem Kk{pos':Pos}(hN:X.N.Nodup)(hi:X.N[i]?=some x)(hx:Loc X.env.scope x)(he:PE X e te)(hs:swapsWith e (some (.Name x pos')) pos.line X.env=pure false:=by rfl)(hf:X.fn x=true\/X.env.scope.names.lookup x=some .local:=by first|exact .inl rfl|exact .inr rfl|assumption) :
  PS X (.Assign [.Name x pos'] e pos) (wF te (uq i)):=by
 intro pins s σ H D I h;refine wpAny_Assign_Name (cW (he pins s σ H _ I h) λv s1 bC=>?_) hs;obtain⟨y,H1,I1,r1,q1⟩:=bC;exact Z3 I1 hN hi hx r1 (λs2 I2=>⟨_,H1,I2,q1⟩) hf
def Wi(i j:Nat)(ta:TA):TS:=λD σ H=>ta σ H λvs H1=>∃v w,vs=[v,w]/\D.nx ((σ.set i (some v)).set j (some w)) H1
theorem RA{y:Str}{a b:Expr}{ta:TA}{px py pt:Pos}{kt k2 pS}(hc:X.calm=true)(hN:X.N.Nodup)(hi:X.N[i]?=some x)(hj:X.N[j]?=some y)(iB:i≠j)(hx:X.env.scope.names.lookup x=some .local)(hy:X.env.scope.names.lookup y=some .local)(ha:PA X [a,b] ta)(hw:swappedStores [.Tuple [.Name x px,.Name y py] kt pt] (.Tuple [a,b] k2 pS) X.env=pure (some [x,y]))(hs:swapsWithSole [.Tuple [.Name x px,.Name y py] kt pt] (.Tuple [a,b] k2 pS) pos.line X.env=pure false:=by rfl) :
  PS X (.Assign [.Tuple [.Name x px,.Name y py] kt pt] (.Tuple [a,b] k2 pS) pos) (Wi i j ta):=by
 intro pins s σ H D I h;rw[exec_Assign_arm];refine aa (eO ?_);rw[hs];refine aa (ak ?_);rw[aC (by decide)];refine aa (Tuple_ (cW (ha _ pins s σ H _ I h) λus s1 bC=>?_));obtain⟨vs,H1,I1,r1,q1⟩:=bC;obtain⟨v,w,e1,q1⟩:=q1;subst e1;obtain⟨u1,u2,rfl,rv,gC⟩:∃u1 u2,us=[u1,u2]/\RelV v u1/\RelV w u2:=by
  cases r1 with
  |cons p q =>
   cases q with
   |cons p' q' =>
    cases q';exact⟨_,_,rfl,p,p'⟩
 refine cE ?_ (by show 2<=sizeLine;decide);have I2:Inv X pins σ H1 { s1 with heap:=s1.heap.push { cls:=.type "tuple",data:=.seq [u1,u2].toArray } }:=I1.kept (t':=s1.toks) λb o e=>ag _ e;rw[hw];refine aa (ak ?_);show wpAny (model X.prog X.w) X.A (do rule "assign.swapped-stores";let items <- unpackItems (.ref s1.heap.objs.size) 2 none;assignInOrder [λv=>bindName X.env y v,λv=>bindName X.env x v] items.reverse;pure Flow.next) _ _ _;refine aa (cX (aa (unpackItems_tuple (items:=#[u1,u2]) (I.ok.hd hc) (IsTup.new s1.heap _) λh' pW=>?_)));have I3:=I2.kept (h':=h') (t':=s1.toks) λb o e=>pW b o (aE (ax e)) e;show wpAny _ _ (assignInOrder [λv=>bindName X.env y v,λv=>bindName X.env x v] [u2,u1] >>= λ_=>pure Flow.next) _ _ _;refine aa (xq (wpAny_bindName (Z3 I3 hN hj (.inl hy) gC (λs2 I4=>?_) (.inr hy))));refine xq (wpAny_bindName (Z3 I4 hN hi (.inl hx) rv (λs3 I5=>assignInOrder_nil (ak ?_)) (.inr hx)));rw[List.set_comm _ _ (cc iB)] at I5;exact⟨_,H1,I5,q1⟩
structure It where
 go:Nat->Hp->Prop
 qP:Nat->Hp->V->Hp->Prop
 stop:Nat->Hp->Prop
def C6(X:Cx)(pins:List (Addr×Obj))(H:Hp)(b:Addr):Prop :=
 H b=none/\b≠X.env.locals/\b∉X.fs/\(b∈X.ex\/X.dD.heap.objs.size<=b)/\(∀x c,X.env.cells.lookup x=some c->c≠b)/\∀p∈X.pn++pins,p.1≠b
theorem Inv.sN(I:Inv X pins σ H s)(hb:s.heap.objs.size<=b)(hn:H' b=none):C6 X pins H' b:=by
 refine⟨hn,bQ (aA I.lt hb),I.xf hb,.inr (aF I.sz hb),λx c e z=>?_,λp hp z=>?_⟩
 ·obtain⟨v,q⟩:=I.cell x c e;exact absurd (aA q.lt (by rw[z];exact hb)) (bI _)
 ·exact absurd (aA (ax (I.pin p hp).1) (by rw[z];exact hb)) (bI _)
structure Turn(P:Program)(w:World)(K:PySem.W.Frag)(tg:Expr)(J:It)(fp:List Addr)(it:Addr)(tn:Nat->Heap->Prop):Prop where
 mem:it∈fp
 obj:∀i h,tn i h->∀b∈fp,∃o,h.get? b=some o/\∀v,o.data≠.cell v
 keep:∀i h h',tn i h->(∀b∈fp,∀o,h.get? b=some o->h'.get? b=some o)->tn i h'
 item:∀(X:Cx),X.prog=P->X.w=w->X.K=K->X.calm=true->∀(i:Nat) (pins:List (Addr×Obj)) (s:Shared) (σ:St) (H:Hp) (E:Value->Shared->Prop),Inv X pins σ H s->(∀b∈fp,C6 X pins H b)->tn i s.heap->J.go i H ->
  wpAny (model P w) X.A (pyNext (.ref it)) (λr s1=>∃ u,r=some u /\
   wpAny (model P w) X.A (letOwnedTupleGo tg (.ref it) u) (λ_ s2=>∃ x H',Inv X pins σ H' s2/\RelV x u/\J.qP i H x H'/\tn (i + 1) s2.heap/\∀ b ∈ fp,H' b=none) E s1) E s
 done:∀(X:Cx),X.prog=P->X.w=w->X.K=K->X.calm=true->∀(i:Nat) (pins:List (Addr×Obj)) (s:Shared) (σ:St) (H:Hp) (E:Value->Shared->Prop),Inv X pins σ H s->(∀b∈fp,C6 X pins H b)->tn i s.heap->J.stop i H ->
  wpAny (model P w) X.A (pyNext (.ref it)) (λr s1=>r=none/\Inv X pins σ H s1) E s
 self:∀(A:Around) (i:Nat) (s:Shared) (Q:Value->Shared->Prop) (E:Value->Shared->Prop),tn i s.heap->Q (.ref it) s->wpAny (model P w) A (pyIter (.ref it)) Q E s
noncomputable abbrev TI:=St->Hp->(It->Hp->Prop)->Prop
def LW(X:Cx)(pins:List (Addr×Obj))(σ:St)(tg:Expr)(R:It->Hp->Prop)(vx:Value)(s2:Shared):Prop :=
 ∃(it:Addr) (fp:List Addr) (tn:Nat->Heap->Prop) (J:It) (H':Hp),vx=.ref it/\Inv X pins σ H' s2/\Turn X.prog X.w X.K tg J fp it tn/\tn 0 s2.heap/\(∀b∈fp,C6 X pins H' b)/\R J H'
def PI(X:Cx)(tg iter:Expr)(wi:TI):Prop :=
 ∀(pins:List (Addr×Obj)) (s:Shared) (σ:St) (H:Hp) (R:It->Hp->Prop),Inv X pins σ H s->wi σ H R ->
  wpAny (model X.prog X.w) X.A (eval iter X.env) (λv s1=>wpAny (model X.prog X.w) X.A (pyIter v) (LW X pins σ tg R) X.xe s1) X.xe s
theorem DT{it:Addr}{o:Obj}{n:String}{vs:Array Value}{Q:Unit->Shared->Prop}(ho:s.heap.get? it=some o)(hc:o.cls=.type n)(hd:o.data=.fields vs)(hn:["enumerate","zip","dict_itemiterator","dict_reverseitemiterator","odict_iterator","itertools.zip_longest","itertools.pairwise"].contains n=false)(hQ:Q () s):wpAny M A (letOwnedTupleGo tg (.ref it) u) Q E s:=by
  unfold letOwnedTupleGo;cases tg<;>first
    |exact ak hQ
    | (cases u <;> first
        |exact ak hQ
        | (refine aa (wpAny_load ho ?_)
           rw[hc,hd];show wpAny M A (if(["enumerate","zip","dict_itemiterator","dict_reverseitemiterator","odict_iterator","itertools.zip_longest","itertools.pairwise"].contains n&&vs[0]?==some (rawInt _))=true then _ else _) Q E s;rw[aC (by intro h;rw[hn,Bool.false_and] at h;cases h)];exact ak hQ))
def EZ(K:PySem.W.Frag)(a:Addr):It :=
 ⟨λi H=>∃xs x,gA K H a xs/\xs[i]?=some x,λi H x H'=>H'=H/\∀xs,gA K H a xs->xs[i]?=some x,λi H=>∃xs,gA K H a xs/\xs.length<=i⟩
def EY(K:PySem.W.Frag)(a:Addr):It :=
 ⟨λi H=>∃xs x,iW K H a xs/\xs[i]?=some x,λi H x H'=>H'=H/\∀xs,iW K H a xs->xs[i]?=some x,λi H=>∃xs,iW K H a xs/\xs.length<=i⟩
def xn(lo:Int)(n:Nat):It:=⟨λi _=>i<n,λi H x H'=>H'=H/\x=.int (lo+i),λi _=>n<=i⟩
theorem ZI(a it:Addr):Turn P w K tg (EZ K a) [it] it (λi h=>h.IsListIter it a i) where
 mem:=by simp
 obj:=λi h st b hb=>by
  have e:b=it:=by simpa using hb
  subst e;obtain⟨o,e,c,d⟩:=st;exact⟨o,e,λv z=>by rw[d] at z;cases z⟩
 keep:=λi h h' st k=>st.at λo e=>k it (by simp) o e
 item:=by
  intro X hP hw hK hc i pins s σ H E I hf st hg;subst hP hw hK;obtain⟨xs,x,hq,hx⟩:=hg;obtain⟨ba,rv,p,hz⟩:=I.list hq;obtain⟨u,hu,ru⟩:=rv.get hx;obtain⟨f0,f1,f2,f3,f4,f5⟩:=hf it (by simp);refine wpAny_pyNext_list_item st p.isList (x:=u) (by simpa using hu) λh' aX sb=>?_;have I1:Inv X pins σ H { s with heap:=h' }:=I.turned (t':=s.toks) (λb o hb e=>(sb.2 b hb).trans e) f0 f1 f3 f4 f5;obtain⟨o,e,c,d⟩:=id aX;exact⟨u,rfl,DT (s:={ s with heap:=h' }) e c d (by decide) ⟨x,H,I1,ru,⟨rfl,λys hy=>by rw[I.Lp hy hq];exact hx⟩,aX,λb hb=>(hf b hb).1⟩⟩
 done:=by
  intro X hP hw hK hc i pins s σ H E I hf st hg;subst hP hw hK;obtain⟨xs,hq,hx⟩:=hg;obtain⟨ba,rv,p,hz⟩:=I.list hq;obtain⟨f0,f1,f2,f3,f4,f5⟩:=hf it (by simp);have hl:=rv.length;exact wpAny_pyNext_list_end (I.ok.hd hc) st p.isList (by simp;omega) λh' eb=>⟨rfl,I.turned (t':=s.toks) (λb o hb e=>eb b o hb e) f0 f1 f3 f4 f5⟩
 self:=λ_ _ _ _ _ st h=>wpAny_pyIter_listiter st h
theorem aL0(a it:Addr):Turn P w K tg (EY K a) [it] it (λi h=>h.IsTupleIter it a i) where
 mem:=by simp
 obj:=λi h st b hb=>by
  have e:b=it:=by simpa using hb
  subst e;obtain⟨o,e,c,d⟩:=st;exact⟨o,e,λv z=>by rw[d] at z;cases z⟩
 keep:=λi h h' st k=>st.at λo e=>k it (by simp) o e
 item:=by
  intro X hP hw hK hc i pins s σ H E I hf st hg;subst hP hw hK;obtain⟨xs,x,hq,hx⟩:=hg;obtain⟨ba,rv,p,hz⟩:=I.tuple hq;obtain⟨u,hu,ru⟩:=rv.get hx;obtain⟨f0,f1,f2,f3,f4,f5⟩:=hf it (by simp);refine wpAny_pyNext_tuple_item st (show s.heap.IsTuple a ba.toArray from p) (x:=u) (by simpa using hu) λh' aX sb=>?_;have I1:Inv X pins σ H { s with heap:=h' }:=I.turned (t':=s.toks) (λb o hb e=>(sb.2 b hb).trans e) f0 f1 f3 f4 f5;obtain⟨o,e,c,d⟩:=id aX;exact⟨u,rfl,DT (s:={ s with heap:=h' }) e c d (by decide) ⟨x,H,I1,ru,⟨rfl,λys hy=>by rw[I.ZF hy hq];exact hx⟩,aX,λb hb=>(hf b hb).1⟩⟩
 done:=by
  intro X hP hw hK hc i pins s σ H E I hf st hg;subst hP hw hK;obtain⟨xs,hq,hx⟩:=hg;obtain⟨ba,rv,p,hz⟩:=I.tuple hq;obtain⟨f0,f1,f2,f3,f4,f5⟩:=hf it (by simp);have hl:=rv.length;exact wpAny_pyNext_tuple_end (I.ok.hd hc) st (show s.heap.IsTuple a ba.toArray from p) (by simp;omega) λh' eb=>⟨rfl,I.turned (t':=s.toks) (λb o hb e=>eb b o hb e) f0 f1 f3 f4 f5⟩
 self:=λ_ _ _ _ _ st h=>wpAny_pyIter_tupleiter st h
theorem aL2(it:Addr)(lo:Int)(n:Nat):Turn P w K tg (xn lo n) [it] it (λi h=>IsRangeIter h it (lo+(i:Nat)*1) ((n:Int)-(i:Nat)) 1) where
 mem:=by simp
 obj:=λi h st b hb=>by
  have e:b=it:=by simpa using hb
  subst e;exact ⟨_,st,λv z=>by
   have z':Data.fields _=Data.cell v:=z;cases z'⟩
 keep:=λi h h' st k=>k it (by simp) _ st
 item:=by
  intro X hP hw hK hc i pins s σ H E I hf st hg;subst hP hw hK;obtain⟨f0,f1,f2,f3,f4,f5⟩:=hf it (by simp);have W:=Walks.range (prog:=X.prog) (w:=X.w) (I.ok.hd hc) it lo 1 n;refine W.item i s _ _ hg st λv h' tk hv aX kk=>?_;obtain⟨t,rfl⟩:=hv;have I1:Inv X pins σ H { s with heap:=h',toks:=tk }:=I.turned (λb o hb e=>kk b o (by simpa using hb) e) f0 f1 f3 f4 f5;refine⟨_,rfl,DT (s:={ s with heap:=h',toks:=tk }) (n:="range_iterator") aX rfl rfl (by decide) ⟨.int (lo+i),H,I1,⟨t,?_⟩,⟨rfl,rfl⟩,aX,λb hb=>(hf b hb).1⟩⟩;rw[Int.mul_one]
 done:=by
  intro X hP hw hK hc i pins s σ H E I hf st hg;subst hP hw hK;obtain⟨f0,f1,f2,f3,f4,f5⟩:=hf it (by simp);exact wpAny_pyNext_range_end (I.ok.hd hc) st (by have:n<=i:=hg;omega) λh' eb=>⟨rfl,I.turned (t':=s.toks) (λb o hb e=>eb b o hb e) f0 f1 f3 f4 f5⟩
 self:=λ_ _ _ _ _ st h=>wpAny_pyIter_rangeiter st h
theorem Lw{R:It->Hp->Prop}{lo hi:Int}{t u v:Tok}{tk:Nat}(I:Inv X pins σ H s)(h1:-(2 ^ 62)<=lo)(h2:lo<2 ^ 62)(h3:-(2 ^ 62)<=hi)(h4:hi<2 ^ 62)(q:R (xn lo (hi-lo).toNat) H):wpAny (model X.prog X.w) X.A (pyIter (.ref s.heap.objs.size)) (LW X pins σ tg R) E { s with heap:=s.heap.push { cls:=.type "range",data:=.fields #[.int lo t,.int hi u,.int 1 v] },toks:=tk }:=by
 refine wpAny_pyIter_range (IsRange.new ..) (small_one h1 h2 h3 h4) ?_;have I1:Inv X pins σ H { s with heap:=s.heap.push { cls:=.type "range",data:=.fields #[.int lo t,.int hi u,.int 1 v] },toks:=tk }:=I.kept λb o e=>ag _ e;refine ⟨(s.heap.push { cls:=.type "range",data:=.fields #[.int lo t,.int hi u,.int 1 v] }).objs.size,[(s.heap.push { cls:=.type "range",data:=.fields #[.int lo t,.int hi u,.int 1 v] }).objs.size],_,_,H,rfl,
  I1.kept (t':=tk) λb o e=>ag _ e,aL2 _ lo (hi - lo).toNat,?_,λb hb=>?_,q⟩
 ·have e1:lo+((0:Nat):Int)*1=lo:=by simp
  have e2:(((hi-lo).toNat:Nat):Int)-((0:Nat):Int)=Builtin.Range.rangeSize lo hi 1:=by rw[rangeSize_one];split<;>omega
  show IsRangeIter _ _ (lo+((0:Nat):Int)*1) ((((hi-lo).toNat:Nat):Int)-((0:Nat):Int)) 1;rw[e1,e2];exact aD _ rfl
 ·have e:b=(s.heap.push { cls:=.type "range",data:=.fields #[.int lo t,.int hi u,.int 1 v] }).objs.size:=by simpa using hb
  subst e;exact I1.sN (av _) (I1.cb.fresh (av _))
def WO(ta:TA):TI:=λσ H R=>ta σ H λvs H1=>∃j:Int,vs=[.int j]/\-(2 ^ 62)<=j/\j<2 ^ 62/\R (xn 0 j.toNat) H1
def WQ(ta:TA):TI:=λσ H R=>ta σ H λvs H1=>∃i j:Int,vs=[.int i,.int j]/\(-(2 ^ 62)<=i/\i<2 ^ 62/\-(2 ^ 62)<=j/\j<2 ^ 62)/\R (xn i (j-i).toNat) H1
theorem Zr{a:Expr}{ta:TA}(hg:Gl X "range")(hm:X.mg "range"=none)(ha:PA X [a] ta)(hs:starEach [a] X.env=[(false,eval a X.env)]:=by rfl):PI X tg (.Call (.Name "range" p) [a] [] pos) (WO ta):=by
 intro pins s σ H R I h;refine Call_ (O7 I hg hm boot_range (cH (cW (ha pos pins s σ H _ I h) λus s1 bC=>?_) hs rfl));obtain⟨vs,H1,I1,r1,q1⟩:=bC;obtain⟨j,e,q1,q2,q⟩:=q1;subst e;cases r1 with
 |cons r rr =>
  cases rr;obtain⟨t,rfl⟩:=r;exact call_range_1 (Lw I1 (by omega) (by omega) q1 q2 (by simpa using q))
theorem Zs{a b:Expr}{ta:TA}(hg:Gl X "range")(hm:X.mg "range"=none)(ha:PA X [a,b] ta)(hs:starEach [a,b] X.env=[(false,eval a X.env),(false,eval b X.env)]:=by rfl)(gK:starEach [b] X.env=[(false,eval b X.env)]:=by rfl) :
  PI X tg (.Call (.Name "range" p) [a,b] [] pos) (WQ ta):=by
 intro pins s σ H R I h;refine Call_ (O7 I hg hm boot_range (cH (cW (ha pos pins s σ H _ I h) λus s1 bC=>?_) (by rw[hs,gK]) (by rw[gK];rfl)));obtain⟨vs,H1,I1,r1,q1⟩:=bC;obtain⟨i,j,e,⟨q1,q2,q3,q4⟩,q⟩:=q1;subst e;cases r1 with
 |cons r rr =>
  cases rr with
  |cons r' rr =>
   cases rr;obtain⟨t,rfl⟩:=r;obtain⟨t',rfl⟩:=r';exact call_range_2 (Lw I1 q1 q2 q3 q4 q)
def Wd(wi:TI)(g:TG)(tb:TS):TS:=λD σ H=>wi σ H λJ H1=>∃W:Nat->Nat->St->Hp->Prop,(∃m,W 0 m σ H1)/\∀i m σ H,W i m σ H ->
 (J.stop i H/\D.nx σ H)\/(J.go i H/\∃N:St->Hp->Prop,(∀cI H',N cI H'->∃m',m'<m/\W (i+1) m' cI H')/\∀x H',J.qP i H x H'->g x σ H' λcV H2=>tb { D with nx:=N,ct:=N,bk:=D.nx } cV H2)
def X7(fp:List Addr)(h:Heap):List (Addr×Obj):=fp.filterMap λb=>(h.get? b).map λo=>(b,o)
theorem P6{o:Obj}(hb:b∈fp)(e:h.get? b=some o):(b,o)∈X7 fp h:=kH.mpr ⟨b,hb,by rw[e];rfl⟩
theorem Zh{p:Addr×Obj}(hp:p∈X7 fp h):p.1∈fp/\h.get? p.1=some p.2:=by
 obtain⟨b,hb,e⟩:=kH.mp hp;cases q:h.get? b with
 |none=>rw[q] at e;cases e
 |some o =>
  rw[q] at e;have e':(b,o)=p:=aQ e;subst e';exact⟨hb,q⟩
theorem Inv.pinned(I:Inv X pins σ H s)(hf:∀b∈fp,C6 X pins H b)(ho:∀b∈fp,∃o,s.heap.get? b=some o/\∀v,o.data≠.cell v):Inv X (pins++X7 fp s.heap) σ H s :=
 I.K4 λp hp=>(aU.mp hp).elim (λz=>I.pin p (aN _ z)) λz=>by
  obtain⟨hb,e⟩:=Zh z;obtain⟨f0,f1,f2,_⟩:=hf p.1 hb;obtain⟨o,e',d⟩:=ho p.1 hb;rw[e] at e';cases e';exact⟨e,f0,f1,f2,d⟩
theorem Inv.Di{pl:List (Addr×Obj)}(I:Inv X (pins++pl) σ H s):Inv X pins σ H s:=I.K4 λp hp=>I.pin p (aN _ (bA _ hp))
theorem Rz{iter:Expr}{body:List Stmt}{wi:TI}{g:TG}{tb:TS}(hp:PassesOwn (model X.prog X.w) X.A X.env X.xe)(hc:X.calm=true)(hi:PI X tg iter wi)(hg:PG X tg g)(hb:kW X body tb)(hs:∀x,foldedSetIterable iter X.env x=pure x:=by intro _;rfl):PS X (.For tg iter body [] pos) (Wd wi g tb):=by
 intro pins s σ H D I h;refine wpAny_For (cW (hi pins s σ H _ I h) λv s1 h1=>cW h1 λvx s2 h2=>?_) hs;obtain⟨it,fp,tn,J,H2,e,I2,T,gW,f2,W,⟨m0,w0⟩,turn⟩:=h2;subst e;have qT:∀{H':Hp},(∀b∈fp,H' b=none)->∀b∈fp,C6 X pins H' b:=λhn b hb=>⟨hn b hb,(f2 b hb).2⟩
 refine codeAny_forLoop_any (λn s'=>∃i cI H',Inv X pins cI H' s'/\tn i s'.heap/\(∀b∈fp,H' b=none)/\W i n cI H') ?_ m0 ⟨0,σ,H2,I2,gW,λb hb=>(f2 b hb).1,w0⟩;rintro n s3 ⟨i,lO,H3,I3,jz,qm,w3⟩;rcases turn i n lO H3 w3 with⟨stop,qn⟩|⟨go,N,hN,step⟩
 ·refine gY hp (cW (T.done X rfl rfl rfl hc i pins s3 lO H3 X.xe I3 (qT qm) jz stop) λr s4 ⟨hr,I4⟩=>?_);subst hr;exact wpAny_execs_nil ⟨lO,H3,I4,qn⟩
 ·refine gY hp (cW (T.item X rfl rfl rfl hc i pins s3 lO H3 X.xe I3 (qT qm) jz go) λr s4 ⟨u,hr,h4⟩=>?_);subst hr;refine gY hp (cW h4 λ_ s5 bC=>?_);obtain⟨x,H5,I5,r5,y5,mz,wo⟩:=bC;have xo:=I5.pinned (qT wo) (T.obj _ _ mz);refine gY hp (cW (hg _ s5 lO H5 x u _ xo r5 (step x H5 y5)) λ_ s6 bC=>?_);obtain⟨ml,H6,I6,q6⟩:=bC;refine gY hp (cW (hb _ s6 ml H6 _ I6 q6) λf s7 q7=>?_);have again:∀{ny:St} {H7:Hp},Inv X (pins++X7 fp s5.heap) ny H7 s7->N ny H7->∃m,m<n/\∃i cI H',Inv X pins cI H' s7/\tn i s7.heap/\(∀b∈fp,H' b=none)/\W i m cI H':=λ{ny H7} I7 n7=>by
   obtain⟨m',hm,w7⟩:=hN ny H7 n7;refine⟨m',hm,i+1,ny,H7,I7.Di,T.keep _ _ _ mz λb hb o e=>(I7.pin (b,o) (aN _ (aN _ (P6 hb e)))).1,λb hb=>?_,w7⟩;obtain⟨o,e,d⟩:=T.obj _ _ mz b hb;exact(I7.pin (b,o) (aN _ (aN _ (P6 hb e)))).2.1
  cases f with
  |next=>obtain⟨ny,H7,I7,n7⟩:=q7;exact again I7 n7
  |cont=>obtain⟨ny,H7,I7,n7⟩:=q7;exact again I7 n7
  |brk=>obtain⟨ny,H7,I7,q7⟩:=q7;exact⟨ny,H7,I7.Di,q7⟩
  |ret v=>obtain⟨x7,ny,H7,I7,r7,q7⟩:=q7;exact⟨x7,ny,H7,I7.Di,r7,q7⟩
noncomputable abbrev R2:=V->V->Hp->VK->Prop
def gn(X:Cx)(f:Value->Value->Sem Value)(r:R2):Prop :=
 ∀(pins:List (Addr×Obj)) (s:Shared) (σ:St) (H:Hp) (x y:V) (v u:Value) (Q:VK),Inv X pins σ H s->RelV x v->RelV y u->r x y H Q ->
  wpAny (model X.prog X.w) X.A (f v u) (EP X pins σ Q) X.xe s
def zS(X:Cx)(f:Value->Sem Value)(r:V->Hp->VK->Prop):Prop :=
 ∀(pins:List (Addr×Obj)) (s:Shared) (σ:St) (H:Hp) (x:V) (v:Value) (Q:VK),Inv X pins σ H s->RelV x v->r x H Q ->
  wpAny (model X.prog X.w) X.A (f v) (EP X pins σ Q) X.xe s
def n6(X:Cx)(f:Value)(r:List V->Hp->VK->Prop):Prop :=
 ∀(pins:List (Addr×Obj)) (s:Shared) (σ:St) (H:Hp) (xs:List V) (us:List Value) (Q:VK),Inv X pins σ H s->Vals xs us->r xs H Q ->
  wpAny (model X.prog X.w) X.A (call f us) (EP X pins σ Q) X.xe s
def UX(X:Cx)(r:V->Hp->(Bool->Hp->Prop)->Prop):Prop :=
 ∀(pins:List (Addr×Obj)) (s:Shared) (σ:St) (H:Hp) (x:V) (v:Value) (Q:Bool->Hp->Prop),Inv X pins σ H s->RelV x v->r x H Q ->
  wpAny (model X.prog X.w) X.A (truthy v) (TP X pins σ Q) X.xe s
def tq(r:R2)(ta tb:TE):TE:=λσ H Q=>ta σ H λx H1=>tb σ H1 λy H2=>r x y H2 Q
def Mz(r:V->Hp->VK->Prop)(ta:TE):TE:=λσ H Q=>ta σ H λx H1=>r x H1 Q
def rI(C:Int->Int->Prop)(g:Int->Int->V):R2:=λx y H Q=>∃i j,x=.int i/\y=.int j/\C i j/\Q (g i j) H
def ou(g:Int->Int->V):R2:=λx y H Q=>∃i j,x=.int i/\y=.int j/\Q (g i j) H
def rU(g:Int->V):V->Hp->VK->Prop:=λx H Q=>∃i,x=.int i/\Q (g i) H
section
variable{a b:Expr}
theorem EI(ha:PE X a ta)(hb:PE X b tb){R:V->V->Hp->Prop}(I:Inv X pins σ H s)(h:ta σ H λx H1=>tb σ H1 λy H2=>R x y H2){f:Value->Value->Sem Value}(hf:∀v u s2 x y H2,Inv X pins σ H2 s2->RelV x v->RelV y u->R x y H2->wpAny (model X.prog X.w) X.A (f v u) Q X.xe s2) :
  wpAny (model X.prog X.w) X.A (eval a X.env) (λv bS=>wpAny (model X.prog X.w) X.A (eval b X.env) (λu iy=>wpAny (model X.prog X.w) X.A (f v u) Q X.xe iy) X.xe bS) X.xe s:=by
 refine cW (ha pins s σ H _ I h) λv s1 bC=>?_;obtain⟨x,H1,I1,r1,q1⟩:=bC;refine cW (hb pins s1 σ H1 _ I1 q1) λu s2 bC=>?_;obtain⟨y,H2,I2,r2,q2⟩:=bC;exact hf v u s2 x y H2 I2 r1 r2 q2
theorem Xv{op:Operator}(ho:gn X (binaryOp op) r)(ha:PE X a ta)(hb:PE X b tb):PE X (.BinOp a op b pos) (tq r ta tb):=by
 intro pins s σ H Q I h;exact wpAny_BinOp (EI ha hb I h λv u s2 x y H2 I2 rx ry q=>ho pins s2 σ H2 x y v u Q I2 rx ry q)
theorem Xx{op:UnaryOp}{r:V->Hp->VK->Prop}(ho:zS X (unaryOp op) r)(ha:PE X a ta):PE X (.UnaryOp op a pos) (Mz r ta):=by
 intro pins s σ H Q I h;exact UnaryOp_ (cW (ha pins s σ H _ I h) λv s1 ⟨x,H1,I1,r1,q1⟩=>ho pins s1 σ H1 x v Q I1 r1 q1)
theorem uX{f:Value->Value->Sem Value}{C:Int->Int->Prop}{g:Int->Int->Int}(rule:∀(i j:Int) (t u:Tok) (s:Shared) (Q:Value->Shared->Prop) (E:Value->Shared->Prop),C i j->Q (.int (g i j) s.toks) { s with toks:=s.toks+1 }->wpAny (model X.prog X.w) X.A (f (.int i t) (.int j u)) Q E s) :
  gn X f (rI C λi j=>.int (g i j)):=by
 intro pins s σ H x y v u Q I rx ry h;obtain⟨i,j,rfl,rfl,hc,q⟩:=h;obtain⟨t,rfl⟩:=rx;obtain⟨t',rfl⟩:=ry;exact rule i j t t' s _ _ hc ⟨.int (g i j),H,I.tok _,⟨_,rfl⟩,q⟩
theorem zQ{f:Value->Value->Sem Value}{g:Int->Int->Int}(rule:∀(i j:Int) (t u:Tok) (s:Shared) (Q:Value->Shared->Prop) (E:Value->Shared->Prop),Q (.int (g i j) s.toks) { s with toks:=s.toks+1 }->wpAny (model X.prog X.w) X.A (f (.int i t) (.int j u)) Q E s) :
  gn X f (ou λi j=>.int (g i j)):=by
 intro pins s σ H x y v u Q I rx ry h;obtain⟨i,j,rfl,rfl,q⟩:=h;obtain⟨t,rfl⟩:=rx;obtain⟨t',rfl⟩:=ry;exact rule i j t t' s _ _ ⟨.int (g i j),H,I.tok _,⟨_,rfl⟩,q⟩
theorem zP{f:Value->Value->Sem Value}{g:Int->Int->Bool}(rule:∀(i j:Int) (t u:Tok) (s:Shared) (Q:Value->Shared->Prop) (E:Value->Shared->Prop),Q (.bool (g i j)) s->wpAny (model X.prog X.w) X.A (f (.int i t) (.int j u)) Q E s) :
  gn X f (ou λi j=>.bl (g i j)):=by
 intro pins s σ H x y v u Q I rx ry h;obtain⟨i,j,rfl,rfl,q⟩:=h;obtain⟨t,rfl⟩:=rx;obtain⟨t',rfl⟩:=ry;exact rule i j t t' s _ _ ⟨.bl (g i j),H,I,rfl,q⟩
def EC(i j:Int):Prop:=0<j/\j<1073741824
def pC(i j:Int):Prop:=0<=j/\j<=1000000/\i.natAbs<2 ^ 64
def sI(i j:Int):Prop:=(-(2 ^ 64)<i/\i<2 ^ 64)\/(-(2 ^ 64)<j/\j<2 ^ 64)
theorem sI.ok{i j:Int}(h:sI i j):IntMulOk i j:=by
 rcases h with⟨h1,h2⟩|⟨h1,h2⟩
 ·exact .of_left (intBits_le_64 h1 h2)
 ·exact .of_right (intBits_le_64 h1 h2)
theorem QS:gn X (binaryOp .Add) (ou λi j=>.int (i+j)):=zQ λ_ _ _ _ _ _ _ q=>add_int q
theorem Rc:gn X (binaryOp .Sub) (ou λi j=>.int (i-j)):=zQ λ_ _ _ _ _ _ _ q=>sub_int q
theorem QY:gn X (binaryOp .Mult) (rI sI λi j=>.int (i*j)):=uX λ_ _ _ _ _ _ _ hc q=>mul_int q hc.ok
theorem Tv:gn X (binaryOp .FloorDiv) (rI EC λi j=>.int (i / j)):=uX λi j _ _ _ _ _ hc q=>by
 have h1:(0:Int)<j:=hc.1;have h2:j<1073741824:=hc.2;exact floordiv_int (by omega) (by rw[Int.fdiv_eq_ediv_of_nonneg i (by omega)];exact q) (.inl (PyProof.noPylong_small (by omega)))
theorem QX:gn X (binaryOp .Mod) (rI (λ_ j=>0<j) λi j=>.int (i % j)):=uX λi j _ _ _ _ _ hc q=>by
 have h1:(0:Int)<j:=hc;exact mod_int' (by omega) (by rw[Int.fmod_eq_emod_of_nonneg i (by omega)];exact q)
theorem QZ:gn X (binaryOp .Pow) (rI pC λi j=>.int (i ^ j.toNat)):=uX λ_ _ _ _ _ _ _ hc q=>pow_int_small hc.1 hc.2.1 hc.2.2 q
theorem Rb:gn X (binaryOp .LShift) (rI pC λi j=>.int (i*2 ^ j.toNat)):=uX λ_ _ _ _ _ _ _ hc q=>lshift_int_small hc.1 hc.2.1 hc.2.2 q
theorem QT:gn X (binaryOp .BitAnd) (ou λi j=>.int (Builtin.bitAnd i j)):=zQ λ_ _ _ _ _ _ _ q=>and_int q
theorem Xo:gn X (binaryOp .BitOr) (ou λi j=>.int (Builtin.bitOr i j)):=zQ λ_ _ _ _ _ _ _ q=>or_int q
theorem My{f:Value->Sem Value}{g:Int->Int}(rule:∀(i:Int) (t:Tok) (s:Shared) (Q:Value->Shared->Prop) (E:Value->Shared->Prop),Q (.int (g i) s.toks) { s with toks:=s.toks+1 }->wpAny (model X.prog X.w) X.A (f (.int i t)) Q E s) :
  zS X f (rU λi=>.int (g i)):=by
 intro pins s σ H x v Q I rx h;obtain⟨i,rfl,q⟩:=h;obtain⟨t,rfl⟩:=rx;exact rule i t s _ _ ⟨.int (g i),H,I.tok _,⟨_,rfl⟩,q⟩
theorem SG:zS X (unaryOp .USub) (rU λi=>.int (-i)):=My λ_ _ _ _ _ q=>neg_int q
end
def HX:V->V->Bool
 |.cj,.cj=>true|.cj,.int _=>true|.int _,.cj=>true|.cj,.bl _=>true|.bl _,.cj=>true|.cj,.str _=>true|.str _,.cj=>true
 |.int _,.int _=>true|.bl _,.bl _=>true|.str _,.str _=>true|.lW _,.lW _=>true
 |.int _,.str _=>true|.str _,.int _=>true|.bl _,.str _=>true|.str _,.bl _=>true
 |_,_=>false
def MQ:R2:=λx y H Q=>HX x y=true/\Q (.bl (decide (x=y))) H
def MP:R2:=λx y H Q=>HX x y=true/\Q (.bl (!decide (x=y))) H
theorem zk{i j:Int}:decide (V.int i=V.int j)=(i==j):=by
 rw[aZ];simp
theorem yV{i j:Bool}:decide (V.bl i=V.bl j)=(i==j):=by
 rw[aZ];simp
theorem zl{i j:Str}:decide (V.str i=V.str j)=(i==j):=by
 rw[aZ];simp
theorem Kv{i j:Array UInt8}:decide (V.lW i=V.lW j)=(i.toList==j.toList):=by
 rw[aZ];cases i;cases j;simp
section
variable{a b:Expr}{tc:TE}
theorem n4{Q:VK}{k k':Bool}(I:Inv X pins σ H s)(q:Q (.bl k) H)(e:k=k'):EP X pins σ Q (.bool k') s:=by
 subst e;exact⟨.bl k,H,I,rfl,q⟩
theorem DW:gn X (compareOp .Eq) MQ:=by
 intro pins s σ H x y v u Q I rx ry h;obtain⟨hs,q⟩:=h;cases x with
 |cj =>
  cases rx;cases y with
  |cj=>cases ry;exact PySem.EqNone.eq_none_none (n4 I q (by simp))
  |bl j=>cases ry;exact PySem.EqNone.eq_none_bool (n4 I q (by simp))
  |int j=>obtain⟨t',rfl⟩:=ry;exact PySem.EqNone.eq_none_int (n4 I q (by simp))
  |str j=>obtain⟨t',rfl⟩:=ry;exact PySem.EqNone.eq_none_str (n4 I q (by simp))
  |_=>exact absurd (show false=true from hs) Bool.false_ne_true
 |bl i =>
  cases rx;cases y with
  |cj=>cases ry;exact PySem.EqNone.eq_bool_none (n4 I q (by simp))
  |bl j=>cases ry;exact eq_bool (n4 I q yV)
  |str j=>obtain⟨t',rfl⟩:=ry;exact PySem.EqMixed.eq_bool_str (n4 I q (by simp))
  |_=>exact absurd (show false=true from hs) Bool.false_ne_true
 |int i =>
  obtain⟨t,rfl⟩:=rx;cases y with
  |cj=>cases ry;exact PySem.EqNone.eq_int_none (n4 I q (by simp))
  |int j=>obtain⟨t',rfl⟩:=ry;exact eq_int (n4 I q zk)
  |str j=>obtain⟨t',rfl⟩:=ry;exact PySem.EqMixed.eq_int_str (n4 I q (by simp))
  |_=>exact absurd (show false=true from hs) Bool.false_ne_true
 |str i =>
  obtain⟨t,rfl⟩:=rx;cases y with
  |cj=>cases ry;exact PySem.EqNone.eq_str_none (n4 I q (by simp))
  |bl j=>cases ry;exact PySem.EqMixed.eq_str_bool (n4 I q (by simp))
  |int j=>obtain⟨t',rfl⟩:=ry;exact PySem.EqMixed.eq_str_int (n4 I q (by simp))
  |str j=>obtain⟨t',rfl⟩:=ry;exact eq_str (n4 I q zl)
  |_=>exact absurd (show false=true from hs) Bool.false_ne_true
 |lW i =>
  obtain⟨t,rfl⟩:=rx;cases y with
  |lW j=>obtain⟨t',rfl⟩:=ry;exact PySem.W.eq_bytes (n4 I q Kv)
  |_=>exact absurd (show false=true from hs) Bool.false_ne_true
 |_=>cases y<;>exact absurd (show false=true from hs) ft
theorem DX:gn X (compareOp .NotEq) MP:=by
 intro pins s σ H x y v u Q I rx ry h;obtain⟨hs,q⟩:=h;cases x with
 |cj =>
  cases rx;cases y with
  |cj=>cases ry;exact PySem.EqNone.ne_none_none (n4 I q (by simp))
  |bl j=>cases ry;exact PySem.EqNone.ne_none_bool (n4 I q (by simp))
  |int j=>obtain⟨t',rfl⟩:=ry;exact PySem.EqNone.ne_none_int (n4 I q (by simp))
  |str j=>obtain⟨t',rfl⟩:=ry;exact PySem.EqNone.ne_none_str (n4 I q (by simp))
  |_=>exact absurd (show false=true from hs) Bool.false_ne_true
 |bl i =>
  cases rx;cases y with
  |cj=>cases ry;exact PySem.EqNone.ne_bool_none (n4 I q (by simp))
  |bl j=>cases ry;exact ne_bool (n4 I q (congrArg not yV))
  |str j=>obtain⟨t',rfl⟩:=ry;exact PySem.EqMixed.ne_bool_str (n4 I q (by simp))
  |_=>exact absurd (show false=true from hs) Bool.false_ne_true
 |int i =>
  obtain⟨t,rfl⟩:=rx;cases y with
  |cj=>cases ry;exact PySem.EqNone.ne_int_none (n4 I q (by simp))
  |int j=>obtain⟨t',rfl⟩:=ry;exact ne_int (n4 I q (congrArg not zk))
  |str j=>obtain⟨t',rfl⟩:=ry;exact PySem.EqMixed.ne_int_str (n4 I q (by simp))
  |_=>exact absurd (show false=true from hs) Bool.false_ne_true
 |str i =>
  obtain⟨t,rfl⟩:=rx;cases y with
  |cj=>cases ry;exact PySem.EqNone.ne_str_none (n4 I q (by simp))
  |bl j=>cases ry;exact PySem.EqMixed.ne_str_bool (n4 I q (by simp))
  |int j=>obtain⟨t',rfl⟩:=ry;exact PySem.EqMixed.ne_str_int (n4 I q (by simp))
  |str j=>obtain⟨t',rfl⟩:=ry;exact ne_str (n4 I q (congrArg not zl))
  |_=>exact absurd (show false=true from hs) Bool.false_ne_true
 |lW i =>
  obtain⟨t,rfl⟩:=rx;cases y with
  |lW j=>obtain⟨t',rfl⟩:=ry;exact PySem.W.ne_bytes (n4 I q (congrArg not Kv))
  |_=>exact absurd (show false=true from hs) Bool.false_ne_true
 |_=>cases y<;>exact absurd (show false=true from hs) ft
theorem Xm:gn X (compareOp .Lt) (ou λi j=>.bl (decide (i<j))):=zP λ_ _ _ _ _ _ _ q=>lt_int q
theorem Xl:gn X (compareOp .LtE) (ou λi j=>.bl (decide (i<=j))):=zP λ_ _ _ _ _ _ _ q=>le_int q
theorem Xk:gn X (compareOp .Gt) (ou λi j=>.bl (decide (j<i))):=zP λ_ _ _ _ _ _ _ q=>gt_int q
theorem Xj:gn X (compareOp .GtE) (ou λi j=>.bl (decide (j<=i))):=zP λ_ _ _ _ _ _ _ q=>ge_int q
theorem QW:gn X (compareOp .Is) (λx y H Q=>y=.cj/\Q (.bl (decide (x=.cj))) H):=by
 intro pins s σ H x y v u Q I rx ry h;obtain⟨rfl,q⟩:=h;cases ry;refine is_none_gen (n4 I q ?_);cases x<;>first
  |(cases rx;rfl)
  |(obtain⟨t,rfl⟩:=rx;rfl)
theorem Tw:gn X (compareOp .IsNot) (λx y H Q=>y=.cj/\Q (.bl (!decide (x=.cj))) H):=by
 intro pins s σ H x y v u Q I rx ry h;obtain⟨rfl,q⟩:=h;cases ry;refine isnot_none_gen (n4 I q ?_);cases x<;>first
  |(cases rx;rfl)
  |(obtain⟨t,rfl⟩:=rx;rfl)
theorem KL(ho:gn X (compareOp op) r)(ha:PE X a ta)(hb:PE X b tb)(hm:behindInMarks op b=false):PE X (.Compare a [op] [b] pos) (tq r ta tb):=by
 intro pins s σ H Q I h;exact wpAny_Compare1 (EI ha hb I h λv u s2 x y H2 I2 rx ry q=>ho pins s2 σ H2 x y v u Q I2 rx ry q) hm
def Eg(t:TE):TT:=λσ H Q=>t σ H λx H'=>∃k,x=.bl k/\Q k H'
theorem KQ(ho:gn X (compareOp op) r)(ha:PE X a ta)(hb:PE X b tb)(hm:behindInMarks op b=false):PT X (.Compare a [op] [b] pos) (Eg (tq r ta tb)):=by
 intro pins s σ H Q I h;refine wpAny_isTrue_Compare1 (cW (ha pins s σ H _ I h) λv s1 ⟨x,H1,I1,r1,q1⟩=>cW (hb pins s1 σ H1 _ I1 q1) λu s2 ⟨y,H2,I2,r2,q2⟩ =>
  cW (ho pins s2 σ H2 x y v u _ I2 r1 r2 q2) λc s3 ⟨z,H3,I3,r3,k,e,q3⟩=>?_) hm
 subst e;cases r3;exact cP ⟨H3,I3,q3⟩
def Cr(r r':R2)(ta tb tc:TE):TE:=λσ H Q=>ta σ H λx H1=>tb σ H1 λy H2=>r x y H2 λz H3=>∃k,z=.bl k /\
 (if k=true then tc σ H3 λw' H4=>r' y w' H4 Q else Q (.bl false) H3)
theorem a50{iV:CmpOp}{r':R2}(ho:gn X (compareOp op) r)(nM:gn X (compareOp iV) r')(ha:PE X a ta)(hb:PE X b tb)(hc:PE X c tc)(hm:lastMarks [op,iV] [b,c]=false:=by with_unfolding_all rfl):PE X (.Compare a [op,iV] [b,c] pos) (Cr r r' ta tb tc):=by
 intro pins s σ H Q I h;refine Compare_chain (cW (ha pins s σ H _ I h) λv s1 ⟨x,H1,I1,r1,q1⟩=>chain_link (cW (hb pins s1 σ H1 _ I1 q1) λu s2 ⟨y,H2,I2,r2,q2⟩ =>
  cW (ho pins s2 σ H2 x y v u _ I2 r1 r2 q2) λd s3 ⟨z,H3,I3,r3,k,e,q3⟩=>?_)) hm
 subst e;cases r3;refine cP ?_;cases k with
 |false=>exact ite_ff ⟨.bl false,H3,I3,rfl,q3⟩
 |true=>exact ite_tt (chain_last (cW (hc pins s3 σ H3 _ I3 q3) λw' s4 ⟨z',H4,I4,r4,q4⟩=>nM pins s4 σ H4 y z' u w' Q I4 r2 r4 q4))
theorem a38{iV:CmpOp}{r':R2}(ho:gn X (compareOp op) r)(nM:gn X (compareOp iV) r')(ha:PE X a ta)(hb:PE X b tb)(hc:PE X c tc)(hm:lastMarks [op,iV] [b,c]=false:=by with_unfolding_all rfl):PT X (.Compare a [op,iV] [b,c] pos) (Eg (Cr r r' ta tb tc)):=by
 intro pins s σ H Q I h;refine isTrue_chain (cW (ha pins s σ H _ I h) λv s1 ⟨x,H1,I1,r1,q1⟩=>test_link (cW (hb pins s1 σ H1 _ I1 q1) λu s2 ⟨y,H2,I2,r2,q2⟩ =>
  cW (ho pins s2 σ H2 x y v u _ I2 r1 r2 q2) λd s3 ⟨z,H3,I3,r3,k,e,q3⟩=>?_)) hm
 subst e;cases r3;refine cP ?_;cases k with
 |false =>
  obtain⟨k',e',q'⟩:=q3;cases e';exact ite_ff ⟨H3,I3,q'⟩
 |true =>
  refine ite_tt (test_last (cW (hc pins s3 σ H3 _ I3 q3) λw' s4 ⟨z',H4,I4,r4,q4⟩=>cW (nM pins s4 σ H4 y z' u w' _ I4 r2 r4 q4) λd' s5 bC=>?_));obtain⟨z2,H5,I5,r5,k2,e2,q5⟩:=bC;subst e2;cases r5;exact cP ⟨H5,I5,q5⟩
def EF(K:PySem.W.Frag)(x:V)(H:Hp)(k:Bool):Prop :=
 match x with
 |.cj=>k=false
 |.bl b=>k=b
 |.int i=>k=(i != 0)
 |.str y=>y.length<=sizeLine/\k=((y.length:Int) != 0)
 |.lW y=>y.size<=sizeLine/\k=((y.size:Int) != 0)
 |.ref p=>(∃xs,gA K H p xs/\k=!xs.isEmpty)\/(∃xs,iW K H p xs/\k=!xs.isEmpty)\/∃kvs,H p=some (.dK kvs)/\k=!kvs.isEmpty
 |_=>False
theorem ZU{κ:Type}{kvs:List (κ×V)}{vs:List (κ×Value)}(r:KV kvs vs):(!vs.isEmpty)=!kvs.isEmpty:=by
 cases r<;>rfl
theorem Jy{ba:List Value}(r:Vals xs ba):(!ba.toArray.isEmpty)=!xs.isEmpty:=by
 cases r<;>simp
theorem S1:(sizeLine:Nat)<2 ^ 63:=by rw[jh];decide
theorem SD:UX X (λx H Q=>∃k,EF X.K x H k/\Q k H):=by
 intro pins s σ H x v Q I rx h;obtain⟨k,e,q⟩:=h;have hl:=S1;have hs:sizeLine=16777216:=jh;cases x with
 |cj =>
  cases rx;have e':k=false:=e;subst e';exact truthy_none ⟨H,I,q⟩
 |bl b =>
  cases rx;have e':k=b:=e;subst e';exact cP ⟨H,I,q⟩
 |int i =>
  obtain⟨t,rfl⟩:=rx;have e':k=(i != 0):=e;subst e';exact PySem.P.truthy_int ⟨H,I,q⟩
 |str y =>
  obtain⟨t,rfl⟩:=rx;obtain⟨hy,e'⟩:y.length<=sizeLine/\k=((y.length:Int) != 0):=e;subst e';exact PySem.P.truthy_str (by omega) ⟨H,I.tok _,q⟩
 |lW y =>
  obtain⟨t,rfl⟩:=rx;obtain⟨hy,e'⟩:y.size<=sizeLine/\k=((y.size:Int) != 0):=e;subst e';exact PySem.W.truthy_bytes (by omega) ⟨H,I.tok _,q⟩
 |ref p =>
  cases rx;have e':(∃xs,gA X.K H p xs/\k=!xs.isEmpty)\/(∃xs,iW X.K H p xs/\k=!xs.isEmpty)\/∃kvs,H p=some (.dK kvs)/\k=!kvs.isEmpty:=e;rcases e' with⟨xs,hx,e'⟩|⟨xs,hx,e'⟩|⟨kvs,hx,e'⟩
  ·subst e';obtain⟨ba,r,pl,hz⟩:=I.list hx;have hlen:=r.length;exact wpAny_truthy_list pl.isList (by simp only[List.size_toArray];omega) ⟨H,I.tok _,by rw[Jy r];exact q⟩
  ·subst e';obtain⟨ba,r,pl,hz⟩:=I.tuple hx;have hlen:=r.length;exact truthy_tuple pl (by simp only[List.size_toArray];omega) ⟨H,I.tok _,by rw[Jy r];exact q⟩
  ·subst e';obtain⟨hz,hS,vs,r,m⟩:kvs.length<=sizeLine/\(p==sysModules)=false/\∃vs,KV kvs vs/\s.heap.DictOf (n9 X.prog X.w) p vs:=I.cb p _ hx;have hlen:kvs.length=vs.length:=mS r;exact wpAny_truthy_dict hS m (by omega) ⟨H,I.tok _,by rw[ZU r];exact q⟩
 |_=>exact(show False from e).elim
theorem a37(ha:PE X a ta)(he:∀whole,isTrue a X.env whole=(do let v <- whole;standAt a.pos;holding [v] (truthy v))) :
  PT X a (λσ H Q=>ta σ H λx H'=>∃k,EF X.K x H' k/\Q k H'):=by
 intro pins s σ H Q I h;exact isTrue_plain (cW (ha pins s σ H _ I h) λv s1 ⟨x,H1,I1,r1,q1⟩=>SD pins s1 σ H1 x v Q I1 r1 q1) (he _)
theorem aN6:gn X (binaryOp .Add) (λx y H Q=>∃i j,x=.str i/\y=.str j/\i.length+j.length<=sizeLine/\Q (.str (i++j)) H):=by
 intro pins s σ H x y v u Q I rx ry h;obtain⟨i,j,rfl,rfl,hz,q⟩:=h;obtain⟨t,rfl⟩:=rx;obtain⟨t',rfl⟩:=ry;exact add_str (λt' tk=>⟨.str (i++j),H,I.tok _,⟨_,rfl⟩,q⟩) hz
theorem vals1{x:V}(r:Vals [x] us):∃u,us=[u]/\RelV x u:=by
 cases r with
 |cons r1 r2=>cases r2;exact⟨_,rfl,r1⟩
theorem vals2{x y:V}(r:Vals [x,y] us):∃u w',us=[u,w']/\RelV x u/\RelV y w':=by
 cases r with
 |cons r1 r2 =>
  cases r2 with
  |cons r3 r4=>cases r4;exact⟨_,_,rfl,r1,r3⟩
theorem YJ(hc:X.calm=true):n6 X (.builtin "max") (λxs H Q=>∃i j,xs=[.int i,.int j]/\Q (.int (if j>i then j else i)) H):=by
 intro pins s σ H xs us Q I r h;obtain⟨i,j,rfl,q⟩:=h;obtain⟨u,w',rfl,⟨t,rfl⟩,⟨t',rfl⟩⟩:=vals2 r;refine max_two_ints (I.ok.hd hc) λh' tk k=>⟨_,H,I.kept k,?_,q⟩
 by_cases hj:j>i
 ·rw[aI hj,aI hj];exact⟨_,rfl⟩
 ·rw[aC hj,aC hj];exact⟨_,rfl⟩
theorem YL(hc:X.calm=true):n6 X (.builtin "min") (λxs H Q=>∃i j,xs=[.int i,.int j]/\Q (.int (if j<i then j else i)) H):=by
 intro pins s σ H xs us Q I r h;obtain⟨i,j,rfl,q⟩:=h;obtain⟨u,w',rfl,⟨t,rfl⟩,⟨t',rfl⟩⟩:=vals2 r;refine min_two_ints (I.ok.hd hc) λh' tk k=>⟨_,H,I.kept k,?_,q⟩
 by_cases hj:j<i
 ·rw[aI hj,aI hj];exact⟨_,rfl⟩
 ·rw[aC hj,aC hj];exact⟨_,rfl⟩
theorem IV:n6 X (.type "int") (λxs H Q=>(∃i,xs=[.int i]/\Q (.int i) H)\/∃k,xs=[.bl k]/\Q (.int (if k then 1 else 0)) H):=by
 intro pins s σ H xs us Q I r h;rcases h with⟨i,rfl,q⟩|⟨k,rfl,q⟩
 ·obtain⟨u,rfl,t,rfl⟩:=vals1 r;exact call_int_int ⟨.int i,H,I,⟨_,rfl⟩,q⟩
 ·obtain⟨u,rfl,r1⟩:=vals1 r;cases r1;exact call_int_bool ⟨.int (if k then 1 else 0),H,I.tok _,⟨_,rfl⟩,q⟩
end
structure uc(h:Heap)(x dx C:Addr)(mA:Str->Option Value):Prop where
 obj:h.get? x=some (PySem.W.instObj C dx)
 ns:h.Ns1 dx mA
 ne:dx≠x
theorem Jc{mA:Str->Option Value}(n:h.Ns1 dx mA):∃od,h.get? dx=some od/\∀name,PySem.W.lookIn name od=some (mA name):=by
 obtain⟨o,es,ep,ho,hd,hk,_,hm⟩:=n;refine⟨o,ho,λname=>?_⟩;have e:=hm name;unfold nsFind findBy at e;rw[<- Array.find?_toList] at e;unfold PySem.W.lookIn;rw[hd];dsimp only;split
 ·rename_i y q;rw[q] at e;exact fX some e
 ·rename_i q;rw[q] at e;have a:es.toList.any (·.refKey)=false:=by
   rw[List.any_eq_false];intro y hy;obtain⟨z,t,gw⟩:=hk y (Array.mem_toList_iff.mp hy);simp[DictEntry.refKey,gw]
  have a':¬es.toList.any (·.refKey)=true:=by rw[a];exact ft
  rw[aC a'];exact fX some e
theorem uc.look{x:Addr}{mA:Str->Option Value}(I:uc h x dx C mA):∃od,PySem.W.InstAt h x (PySem.W.instObj C dx) C (some od)/\∀name,PySem.W.lookIn name od=some (mA name) :=
 let ⟨od,ho,hl⟩:=Jc I.ns
 ⟨od,⟨I.obj,rfl,rfl,ho⟩,hl⟩
section
variable{prog:Program}{x:Addr}{mA:Str->Option Value}{name:Str}{v:Value}
theorem get_map{expr:Bool}(X:K.In s.heap)(I:uc s.heap x dx C mA)(hg:PySem.W.plainGet K C name=true)(hh:PySem.W.hasDictIn K C=true)(ha:PySem.W.findIn K (.ref C) name=some none)(hv:mA name=some v)(AO:PySem.W.handedIn v=true)(h:Q v { s with toks:=s.toks+1 }) :
  wpAny (model prog w) A (getAttr (.ref x) name expr) Q E s:=by
 obtain⟨od,J,hl⟩:=I.look;exact PySem.W.get_value X J (PySem.W.plainGet_of hg).1 (PySem.W.findObj_own hh ha rfl (by rw[hl,hv])) AO h
theorem Ux{ns:List Str}{Q:Unit->Shared->Prop}(X:K.In s.heap)(I:uc s.heap x dx C mA)(hs:PySem.W.findIn K (.ref C) "__setattr__"=some (some (.builtin "object.__setattr__")))(hp:PySem.W.plainOver K C=true)(ht:PySem.W.takerIn K C name=some none)(hh:PySem.W.hasDictIn K C=true)(hw:PySem.Within mA ns)(hsz:ns.length<=sizeLine)(h:∀h',uc h' x dx C (λy=>if y=name then some v else mA y)->Heap.SameBut dx s.heap h'->Q () { s with heap:=h',toks:=s.toks+2 }) :
  wpAny (model prog w) A (setAttr (.ref x) name v) Q E s:=by
 obtain⟨od,J,hl⟩:=I.look;refine PySem.W.set_plain X J hs (PySem.W.osa_open (s:={ s with toks:=s.toks+1 }) (r:=none) X J hp ht λb=>?_);obtain⟨cd,hc,Bm⟩:=PySem.W.any_some hh;have hx:s.heap.get? x=some ⟨.ref C,some dx,.plain,#[]⟩:=I.obj;refine aa (ak (aa (aa (wpAny_loadPart hx (aa (PySem.W.Looks.here (s:={ s with toks:=s.toks+1 }) (PySem.W.looks_clsIn X hc) ?_))))));rw[Bm];refine ak (a:=some dx) (aa (ak (aa ?_)));refine wpAny_nsSet1 (s:={ s with toks:=s.toks+1 }) I.ns λh' mZ gK=>?_;obtain⟨oD,esD,epD,NI,NW,NY⟩:=mZ.count (PySem.Within.cons name v hw);refine aa (wpAny_lookBehind NI (by rw[NW];exact pastItsLine_dict (aF NY (by rw[dI];omega))) ?_);exact ak (h _ ⟨(gK.2 _ (cc I.ne)).trans I.obj,mZ,I.ne⟩ gK)
theorem a59{R:Result->Shared->Prop}{vs:List Value}{kw:List (Str×Value)}(X:K.In s.heap)(hm:PySem.W.makesIn K C=true)(hi:PySem.W.findIn K (.ref C) "__init__"=some (some (.ref f)))(hf:PySem.W.typeIn K (.ref f)=some (.type "function"))(h:codeAny (model prog w) (A.under (.builtin "type.__call__" ⟨.ref C :: vs,kw⟩)) (.call (.ref f) ⟨.ref (s.heap.objs.size + 1) :: vs,kw⟩) (PySem.W.InitBack (s.heap.objs.size + 1) R)
   { s with heap:=(s.heap.push PySem.W.emptyDict).push (PySem.W.instObj C s.heap.objs.size) }) :
  codeAny (model prog w) A (.call (.ref C) ⟨vs,kw⟩) R s:=by
 obtain⟨hh,g,d,t,os⟩:=s;exact PySem.W.make_core (PySem.W.makes_of X hm) (PySem.W.looks_findIn X hi) (λself=>PySem.W.bind_fn X self hf) (.inl rfl) h
end
def A7(f:Str)(v:V):List (Str×V)->List (Str×V)
 |[]=>[(f,v)]
 |(g,x)::r=>if g=f then(g,v)::r else(g,x)::A7 f v r
theorem JK(f g:Str)(v:V):∀fs:List (Str×V),(A7 f v fs).lookup g=if g=f then some v else fs.lookup g
 |[]=>by
  show List.lookup g [(f,v)]=_;by_cases h:g=f
  ·have hb:(g==f)=true:=bB.mpr h;simp only[List.lookup,hb,if_pos h]
  ·have hb:(g==f)=false:=cO.mpr h;simp only[List.lookup,hb,if_neg h]
 |(k,x)::r=>by
  have ih:=JK f g v r;rw[show A7 f v ((k,x)::r)=(if k=f then(k,v)::r else(k,x)::A7 f v r) from rfl];by_cases hk:k=f
  ·rw[aI hk];by_cases h:g=k
   ·have hb:(g==k)=true:=bB.mpr h;simp only[List.lookup,hb,if_pos (h.trans hk)]
   ·have hb:(g==k)=false:=cO.mpr h;simp only[List.lookup,hb,if_neg (λe:g=f=>h (e.trans hk.symm))]
  ·rw[aC hk];by_cases h:g=k
   ·have hb:(g==k)=true:=bB.mpr h;simp only[List.lookup,hb,if_neg (λe:g=f=>hk (h.symm.trans e))]
   ·have hb:(g==k)=false:=cO.mpr h;simp only[List.lookup,hb];exact ih
theorem Dn(f:Str)(v:V):∀fs:List (Str×V),f∈(A7 f v fs).map (·.1)/\∀g,g∈fs.map (·.1)->g∈(A7 f v fs).map (·.1)
 |[]=>⟨by simp[A7],λg h=>by simp at h⟩
 |(k,x)::r=>by
  obtain⟨i1,i2⟩:=Dn f v r;rw[show A7 f v ((k,x)::r)=(if k=f then(k,v)::r else(k,x)::A7 f v r) from rfl];by_cases hk:k=f
  ·rw[aI hk];subst hk;exact⟨by simp,λg h=>by simpa using h⟩
  ·rw[aC hk];refine⟨?_,λg h=>?_⟩
   ·rw[bu];exact bG _ i1
   ·rw[bu] at h ⊢;rcases aH.mp h with e|e
    ·exact aH.mpr (.inl e)
    ·exact bG _ (i2 g e)
theorem JJ(f:Str)(v:V):∀fs:List (Str×V),(A7 f v fs).length<=fs.length+1
 |[]=>by simp[A7]
 |(k,x)::r=>by
  have ih:=JJ f v r;rw[show A7 f v ((k,x)::r)=(if k=f then(k,v)::r else(k,x)::A7 f v r) from rfl];by_cases hk:k=f
  ·rw[aI hk,dI,dI];omega
  ·rw[aC hk,dI,dI];omega
theorem F0.some_of{o:Option Value}(r:F0 (some v) o):∃u,o=some u/\RelV v u:=by
 cases o with
 |none=>exact(show False from r).elim
 |some u=>exact⟨u,rfl,r⟩
theorem YV(r:RelV v u):PySem.W.handedIn u=true:=by
 cases v with
 |cj=>cases (show u=Value.none from r);rfl
 |bl b=>cases (show u=Value.bool b from r);rfl
 |int i=>obtain⟨t,e⟩:=(show ∃t,u=Value.int i t from r);cases e;rfl
 |str x=>obtain⟨t,e⟩:=(show ∃t,u=Value.str x t from r);cases e;rfl
 |lW b=>obtain⟨t,e⟩:=(show ∃t,u=Value.bytes b t from r);cases e;rfl
 |sA b=>obtain⟨t,e⟩:=(show ∃t,u=Value.float b t from r);cases e;rfl
 |ref a=>cases (show u=Value.ref a from r);rfl
 |ty n=>cases (show u=Value.type n from r);rfl
section
variable{fs:List (Str×V)}
theorem CM(cb:gU P w H h)(e:H a=some (.ins C dx fs)):∃mA,uc h a dx C mA/\(∀f,F0 (fs.lookup f) (mA f))/\PySem.Within mA (fs.map (·.1))/\fs.length<=1000/\H dx=some (.own a):=by
 obtain⟨d,z,ne,ob,mA,n,r,q⟩:=(show p0 P w H h a (.ins C dx fs) from cb a _ e)
 exact⟨mA,⟨ob,n,ne⟩,r,q,z,d⟩
end
structure kE(K:PySem.W.Frag)(C:Addr):Prop where
 pg:PySem.W.plainGet K C Str.empty=true
 hd:PySem.W.hasDictIn K C=true
 po:PySem.W.plainOver K C=true
 sa:PySem.W.findIn K (.ref C) "__setattr__"=some (some (.builtin "object.__setattr__"))
theorem kE.get(c:kE K C)(f:Str):PySem.W.plainGet K C f=true:=c.pg
def B7(K:PySem.W.Frag)(C:Addr)(f:Str):Prop:=PySem.W.findIn K (.ref C) f=some none
theorem B7.PV{f:Str}(n:B7 K C f):PySem.W.takerIn K C f=some none:=by
 unfold PySem.W.takerIn;rw[show PySem.W.findIn K (.ref C) f=some none from n]
 rfl
structure Meth(K:PySem.W.Frag)(C:Addr)(m:Str)(f:Addr):Prop where
 at_:PySem.W.findIn K (.ref C) m=some (some (.ref f))
 fn:PySem.W.isFn K (.ref f)=true
 kp:PySem.W.keepIn K (.ref f)=true
section
variable{fs:List (Str×V)}{f:Str}
theorem ZT{b:Bool}(I:Inv X pins σ H s)(e:H a=some (.ins C dx fs))(c:kE X.K C)(n:B7 X.K C f)(l:fs.lookup f=some v)(h:∀u s',Inv X pins σ H s'->RelV v u->Q u s'):wpAny (model X.prog X.w) A (getAttr (.ref a) f b) Q E s:=by
 obtain⟨mA,O,r,_,_,_⟩:=CM I.cb e;obtain⟨u,hu,ru⟩:=F0.some_of (v:=v) (o:=mA f) (by rw[<- l];exact r f);exact get_map I.iA O (c.get f) c.hd n hu (YV ru) (h u _ (I.tok _) ru)
theorem aM1{y:V}{Q:Unit->Shared->Prop}(I:Inv X pins σ H s)(e:H a=some (.ins C dx fs))(c:kE X.K C)(n:B7 X.K C f)(hl:fs.length<1000)(ry:RelV y u)(h:∀s',Inv X pins σ (upd H a (.ins C dx (A7 f y fs))) s'->Q () s'):wpAny (model X.prog X.w) A (setAttr (.ref a) f u) Q E s:=by
 obtain⟨mA,O,r,wi,_,ho⟩:=CM I.cb e;have hz:(fs.map (·.1)).length<=sizeLine:=by rw[aj,jh];omega
 refine Ux I.iA O c.sa c.po n.PV c.hd wi hz λh' O' sb=>h _ ?_;have hd:∃o,h'.get? dx=some o:=let ⟨o,_,_,e',_⟩:=O'.ns;⟨o,e'⟩
 refine I.write (x:=a) (e:=dx) (by rw[e];exact True.intro) (.inr ho) (λb q hb z=>(sb.2 b hb).trans z) hd ?_;refine⟨by rw[i6 O.ne];exact ho,?_,O.ne,O'.obj,_,O'.ns,λg=>?_,λg hg=>?_⟩
 ·have:=JJ f y fs;omega
 ·show F0 ((A7 f y fs).lookup g) (if g=f then some u else mA g);rw[JK];by_cases q:g=f
  ·rw[aI q,aI q];exact ry
  ·rw[aC q,aC q];exact r g
 ·by_cases q:g=f
  ·rw[q];exact(Dn f y fs).1
  ·refine(Dn f y fs).2 g (wi g λz=>hg ?_);show(if g=f then some u else mA g)=none;rw[aC q];exact z
theorem Inv.made(I:Inv X pins σ H s):Inv X pins σ (upd (upd H s.heap.objs.size (.own (s.heap.objs.size+1))) (s.heap.objs.size+1) (.ins C s.heap.objs.size []))
  { s with heap:=(s.heap.push PySem.W.emptyDict).push (PySem.W.instObj C s.heap.objs.size) }:=by
 have e1:(s.heap.push PySem.W.emptyDict).get? s.heap.objs.size=some PySem.W.emptyDict:=aD s.heap rfl;have e2:((s.heap.push PySem.W.emptyDict).push (PySem.W.instObj C s.heap.objs.size)).get? (s.heap.objs.size+1)=some (PySem.W.instObj C s.heap.objs.size):=by
  have:=aD (s.heap.push PySem.W.emptyDict) (o:=PySem.W.instObj C s.heap.objs.size) rfl
  rwa [eB] at this
 have e3:(s.heap.push PySem.W.emptyDict).Ns s.heap.objs.size (λ_=>none):=⟨PySem.W.emptyDict,#[],_,e1,rfl,(λe he=>absurd he (by simp)),λ_=>rfl⟩
 have I1:=I.laid (a:=s.heap.objs.size) (o:=.own (s.heap.objs.size+1)) (h':=s.heap.push PySem.W.emptyDict) (t':=s.toks) (λb u q=>ag _ q) (av _) ⟨_,e1⟩;refine I1.laid (a:=s.heap.objs.size+1) (o:=.ins C s.heap.objs.size []) (t':=s.toks) (λb u q=>ag _ q) (fE (eB _ _)) ?_;have ne:s.heap.objs.size≠s.heap.objs.size+1:=aE (fQ _);refine⟨by rw[i6 ne,u7],cF _,ne,e2,λ_=>none,(Heap.Ns1.of_empty e3).at λo q=>ag _ q,λ_=>True.intro,λy hy=>absurd rfl hy⟩
theorem SU{prog:Program}{env:Env}(hb:attributeBase e f env (eval e env)=eval e env)(h:wpAny (model prog w) A (eval e env) (λo bS=>wpAny (model prog w) A (getAttr o f true) Q E bS) E s):wpAny (model prog w) A (eval (.Attribute e f pos) env) Q E s :=
 Attribute_any_ h (by rw[arm_eval_Attribute,hb])
end
def Wc(K:PySem.W.Frag)(ta:TE)(f:Str):TE:=λσ H Q=>ta σ H λx H1=>∃a C dx fs v,x=.ref a/\H1 a=some (.ins C dx fs)/\kE K C/\B7 K C f/\fs.lookup f=some v/\Q v H1
def VS(K:PySem.W.Frag)(ta tv:TE)(f:Str):TS:=λD σ H=>tv σ H λy H1=>ta σ H1 λx H2=>∃a C dx fs,x=.ref a/\H2 a=some (.ins C dx fs)/\kE K C/\B7 K C f/\fs.length<1000 /\
 D.nx σ (upd H2 a (.ins C dx (A7 f y fs)))
section
variable{o value:Expr}{f:Str}{pos':Pos}{tv:TE}
theorem Rj(he:PE X e ta)(hb:attributeBase e f X.env (eval e X.env)=eval e X.env):PE X (.Attribute e f pos) (Wc X.K ta f):=by
 intro pins s σ H Q I h;refine SU hb (cW (he pins s σ H _ I h) λu s1 bC=>?_);obtain⟨x,H1,I1,rx,a,C,dx,fs,v,ex,ea,c,n,l,q⟩:=bC;subst ex;obtain rfl:u=Value.ref a:=rx;exact ZT I1 ea c n l λu' s2 I2 ru=>⟨v,H1,I2,ru,q⟩
theorem Ry(ha:PE X o ta)(hv:PE X value tv)(hs:swapsWith value (some (.Attribute o f pos')) pos.line X.env=pure false):PS X (.Assign [.Attribute o f pos'] value pos) (VS X.K ta tv f):=by
 intro pins s σ H D I h;refine plainObj_wpAny_Assign_Attribute (cW (hv pins s σ H _ I h) λu s1 ⟨y,H1,I1,ry,q⟩=>cW (ha pins s1 σ H1 _ I1 q) λov s2 bC=>?_) hs;obtain⟨x,H2,I2,rx,a,C,dx,fs,ex,ea,c,n,l,q2⟩:=bC;subst ex;obtain rfl:ov=Value.ref a:=rx;exact aM1 I2 ea c n l ry λs3 I3=>⟨σ,_,I3,q2⟩
end
section
variable{c:Value}{b:Bool}
inductive iC(K:PySem.W.Frag)(H:Hp):V->Value->Prop where
 |cj:iC K H .cj (.type "NoneType")
 |bl (x:Bool):iC K H (.bl x) (.type "bool")
 |int (i:Int):iC K H (.int i) (.type "int")
 |str (x:Str):iC K H (.str x) (.type "str")
 |sA (x:UInt64):iC K H (.sA x) (.type "float")
 |lst {a:Addr} {xs:List V} (e:H a=some (.lst xs)):iC K H (.ref a) (.type "list")
 |ku {a:Addr} {o:Obj} {xs:List V} (e:H a=some (.ku o (.lst xs))):iC K H (.ref a) (.type "list")
 |tup {a:Addr} {xs:List V} (e:H a=some (.tup xs)):iC K H (.ref a) (.type "tuple")
 |dK {a:Addr} {kvs:List (Key×V)} (e:H a=some (.dK kvs)):iC K H (.ref a) (.type "dict")
 |dT {a:Addr} {kvs:List (List Key×V)} (e:H a=some (.dT kvs)):iC K H (.ref a) (.type "dict")
 |ins {a C dx:Addr} {fs:List (Str×V)} (e:H a=some (.ins C dx fs)) (cl:kE K C) (ha:PySem.W.findIn K (.ref C) "__class__"=some (some (.builtin "object.__class__")))
   (hn:PySem.W.specialIn K (.builtin "object.__class__") "__get__"=some (some (.builtin "getset_descriptor.__get__"))) (vD:PySem.W.takesIn K (.builtin "object.__class__")=some true)
   (hm:PySem.W.mroIn K C (.type "object")=some true):iC K H (.ref a) (.ref C)
theorem YY{x:V}{t:Value}(I:Inv X pins σ H s)(rx:RelV x u)(ty:iC X.K H x t)(e:PySem.W.kitOne X.K t c=some b)(h:∀tk,Q (.bool b) { s with toks:=tk }) :
  wpAny (model X.prog X.w) A (call (.builtin "isinstance") [u,c]) Q E s:=by
 cases ty with
 |cj=>cases (show u=Value.none from rx);exact bZ PySem.W.kitx_none I.iA True.intro e (λz=>nomatch z) h
 |bl y=>cases (show u=Value.bool y from rx);exact bZ PySem.W.kitx_bool I.iA True.intro e (λz=>nomatch z) h
 |int i=>obtain⟨t,q⟩:=(show ∃t,u=Value.int i t from rx);cases q;exact bZ PySem.W.kitx_int I.iA True.intro e (λz=>nomatch z) h
 |str y=>obtain⟨t,q⟩:=(show ∃t,u=Value.str y t from rx);cases q;exact bZ PySem.W.kitx_str I.iA True.intro e (λz=>nomatch z) h
 |sA y=>obtain⟨t,q⟩:=(show ∃t,u=Value.float y t from rx);cases q;exact bZ PySem.W.kitx_float I.iA True.intro e (λz=>nomatch z) h
 |@lst a xs ea =>
  cases (show u=Value.ref a from rx);obtain⟨_,_,n,_,h1⟩:=(show p0 X.prog X.w H s.heap a (.lst xs) from I.cb a _ ea)
  exact bZ PySem.W.kitx_list I.iA ⟨_,h1,rfl⟩ e (λz=>nomatch z) h
 |@ku a ob xs ea =>
  cases (show u=Value.ref a from rx);obtain⟨_,_,_,n,_,h1⟩:=(show p0 X.prog X.w H s.heap a (.ku ob (.lst xs)) from I.cb a _ ea)
  exact bZ PySem.W.kitx_list I.iA ⟨_,h1,rfl⟩ e (λz=>nomatch z) h
 |@tup a xs ea =>
  cases (show u=Value.ref a from rx);obtain⟨_,_,_,p⟩:=(show p0 X.prog X.w H s.heap a (.tup xs) from I.cb a _ ea)
  obtain⟨o,h1,h2,_⟩:=p;exact bZ Mi I.iA ⟨o,h1,h2⟩ e (λz=>nomatch z) h
 |@dK a kvs ea =>
  cases (show u=Value.ref a from rx);obtain⟨_,_,vs,_,p⟩:=(show p0 X.prog X.w H s.heap a (.dK kvs) from I.cb a _ ea)
  obtain⟨o,es,ep,h1,h2,_⟩:=p;exact bZ PySem.W.kitx_dict I.iA ⟨o,h1,h2.1⟩ e (λz=>nomatch z) h
 |@dT a kvs ea =>
  cases (show u=Value.ref a from rx);obtain⟨_,_,xs,_,o,es,ep,h1,h2,_⟩:=(show p0 X.prog X.w H s.heap a (.dT kvs) from I.cb a _ ea)
  exact bZ PySem.W.kitx_dict I.iA ⟨o,h1,h2.1⟩ e (λz=>nomatch z) h
 |@ins a C dx fs ea cl ha hn vD hm =>
  cases (show u=Value.ref a from rx);obtain⟨mA,O,_⟩:=CM I.cb ea;obtain⟨od,J,_⟩:=O.look;exact bZ (PySem.W.kitx_own (cl.get _) cl.hd ha hn vD hm) I.iA J e (λz=>nomatch z) h
end
structure x5(k:Nat)(A:Around):Prop where
 hd:A.handled=none
 dp:A.depth+3*k+5<recursionLimit
 un:A.units+16*k+200<cLine
theorem x5.mono(r:x5 k A)(h:j<=k):x5 j A:=⟨r.hd,by have:=r.dp;omega,by have:=r.un;omega⟩
theorem x5.deeper{k:Nat}{A:Around}(r:x5 (k+1) A)(env:Env):x5 k (A.deeper env) :=
 ⟨r.hd,by have:=r.dp;show A.depth+1+3*k+5<_;omega,by have:=r.un;show A.units+3+16*k+200<_;omega⟩
theorem ZZ{kw:List (Str×Value)}:(A.under (.builtin "type.__call__" ⟨.ref C::us,kw⟩)).depth=A.depth+1:=by
 first|rfl|simp[Around.under,Code.weight,Code.isCreation,Code.isGuard,Code.isCaller,Code.frames,Code.isFrame,guardIds]
theorem Z'{kw:List (Str×Value)}:(A.under (.builtin "type.__call__" ⟨.ref C::us,kw⟩)).units=A.units+1:=by
 first|rfl|simp[Around.under,Code.cUnits,Code.frames,Code.isFrame]
theorem x5.make(r:x5 (k+1) A)(C:Addr)(us:List Value)(kw:List (Str×Value)):x5 k (A.under (.builtin "type.__call__" ⟨.ref C::us,kw⟩)) :=
 ⟨r.hd,by have:=r.dp;rw[ZZ];omega,by have:=r.un;rw[Z'];omega⟩
theorem x5.depth{k:Nat}{A:Around}(r:x5 k A):A.depth<recursionLimit:=by have:=r.dp;omega
def ET:TA:=λ_ H Q=>Q [] H
def XU(ta:TE)(tr:TA):TA:=λσ H Q=>ta σ H λx H1=>tr σ H1 λxs H2=>Q (x::xs) H2
theorem X8:PA X [] ET:=λ_ _ _ _ H Q I h=>Calls.spliced_nil ⟨[],H,I,.nil,h⟩
theorem Q4(ha:PE X e te)(hr:PA X es t)(hs:starEach (e::es) X.env=(false,eval e X.env)::starEach es X.env:=by rfl):PA X (e::es) (XU te t):=by
 intro pos pins s σ H Q I h;rw[hs];show wpAny _ _ (spliced ((false,eval e X.env)::backTo pos (starEach es X.env))) _ _ s;refine Calls.spliced_cons (cW (ha pins s σ H _ I h) λu s1 bC=>?_);obtain⟨x,H1,I1,r1,q1⟩:=bC;exact cW (hr pos pins s1 σ H1 _ I1 q1) λus s2 ⟨xs,H2,I2,r2,q2⟩=>⟨x::xs,H2,I2,.cons r1 r2,q2⟩
def Wl(t:TA):TE:=λσ H Q=>t σ H λxs H1=>xs.length<=sizeLine/\∀p,H1 p=none->Q (.ref p) (upd H1 p (.tup xs))
def Wf(t:TA):TE:=λσ H Q=>t σ H λxs H1=>xs.length<=sizeLine/\∀p,H1 p=none->Q (.ref p) (upd H1 p (.lst xs))
theorem Rq{x1}(h:PA X es t):PE X (.Tuple es x1 pos) (Wl t):=by
 intro pins s σ H Q I hq;refine wpAny_Tuple_spliced (cW (h pos pins s σ H _ I hq) λus s1 ⟨xs,H1,I1,r,z,q⟩=>⟨by rw[<- r.length];exact z,?_⟩);have hf:H1 s1.heap.objs.size=none:=I1.cb.fresh (av _);refine⟨.ref s1.heap.objs.size,upd H1 s1.heap.objs.size (.tup xs),I1.laid (t':=s1.toks) (λb u e=>ag _ e) (av _) ?_,rfl,q _ hf⟩;exact⟨z,us,r,⟨_,aD _ rfl,rfl,⟨_,rfl⟩,rfl⟩⟩
theorem Rm(h:PA X es t):PE X (.List es pos) (Wf t):=by
 intro pins s σ H Q I hq;refine wpAny_List_spliced (cW (h pos pins s σ H _ I hq) λus s1 ⟨xs,H1,I1,r,z,q⟩=>⟨by rw[<- r.length];exact z,?_⟩);have hf:H1 s1.heap.objs.size=none:=I1.cb.fresh (av _);refine⟨.ref s1.heap.objs.size,upd H1 s1.heap.objs.size (.lst xs),I1.laid (t':=s1.toks) (λb u e=>ag _ e) (av _) ?_,rfl,q _ hf⟩;exact⟨z,us,0,r,aD _ rfl⟩
noncomputable abbrev Sp:=List V->Hp->VK->XK->Prop
noncomputable abbrev om:=List Env->Hp->Shared->XK->Value->Shared->Prop
structure sJ(P:Program)(w:World)(K:PySem.W.Frag)(mg:Str->Option Value)(base:Heap)(A:Around)(outer:List Env)(s:Shared)(H:Hp):Prop where
 frames:A.frames=some outer
 mod:Mod K mg base
 bs:∀b o,base.get? b=some o->s.heap.get? b=some o/\H b=none
 qq:base.objs.size<=s.heap.objs.size
 P1:s.heap.FunFrames base outer
 su:∀b∈iF outer,H b=none
 cb:gU P w H s.heap
 bare:AllBare s.gens
def CE(outer:List Env)(P:Program)(w:World)(H:Hp)(s:Shared)(Q:VK)(u:Value)(s':Shared):Prop :=
 ∃v H',s'.os=s.os/\AllBare s'.gens/\Un (iF outer) [] H H' s.heap s'.heap/\gU P w H' s'.heap/\RelV v u/\Q v H'
def CR(CX:om)(outer:List Env)(P:Program)(w:World)(H:Hp)(s:Shared)(Q:VK)(E:XK)(r:Result)(s':Shared):Prop :=
 match r with
 |.ok (.ret u)=>CE outer P w H s Q u s'
 |.ok _=>False
 |.error e=>CX outer H s E e s'
structure iQ(P:Program)(w:World)(K:PySem.W.Frag)(mg:Str->Option Value)(base:Heap)(CX:om)(k:Nat)(f:Addr)(fd:FuncData)(ps:List Str)(sp:Sp):Prop where
 len:∀vs H Q E,sp vs H Q E->vs.length=ps.length
 run:∀(A:Around) (outer:List Env) (s:Shared) (H:Hp) (args:Args) (us:List Value) (vs:List V) (Q:VK) (E:XK),x5 k A->sJ P w K mg base A outer s H->BindsTo s fd args (ps.zip us)->Vals vs us->sp vs H Q E ->
  codeAny (model P w) A (.call (.ref f) args) (CR CX outer P w H s Q E) s
theorem sJ.make{mg:Str->Option Value}{outer:List Env}(e:sJ P w K mg base A outer s H)(C:Addr)(us:List Value)(kw:List (Str×Value)) :
  sJ P w K mg base (A.under (.builtin "type.__call__" ⟨.ref C::us,kw⟩)) outer s H:=⟨by first|exact e.frames|(simpa[Around.under,Code.envs,Code.isFrame,pushEnvs] using e.frames),e.mod,e.bs,e.qq,e.P1,e.su,e.cb,e.bare⟩
section
variable{s':Shared}
theorem Inv.HM(I:Inv X pins σ H s):sJ X.prog X.w X.K X.mg X.base X.A X.stack s H :=
 ⟨I.ok.frames,I.ok.mod,I.bs,aF I.ok.qq I.sz,I.stack,I.CT,I.cb,I.bare⟩
theorem Inv.after{Q:VK}(I:Inv X pins σ H s)(h:CE X.stack X.prog X.w H s Q u s'):EP X pins σ Q u s':=by
 obtain⟨v,H',os,bare,un,cb,r,q⟩:=h;obtain⟨hh,g,d,t,rn⟩:=s';obtain rfl:rn=s.os:=os;exact⟨v,H',I.call (h':=hh) (g':=g) (d':=d) (t':=t) (ch:=[]) un cb bare (λb z=>absurd z (by simp)),r,q⟩
end
def LD(sp:Sp)(ky:List V)(E:XK)(t:TA):TE:=λσ H Q=>t σ H λvs H1=>sp (vs++ky) H1 Q E
def LH(C:Addr)(sp:Sp)(ky:List V)(E:XK)(t:TA):TE:=λσ H Q=>t σ H λvs H1=>∀x dx,H1 x=none->H1 dx=none->dx≠x ->
 sp (.ref x::(vs++ky)) (upd (upd H1 dx (.own x)) x (.ins C dx [])) (λv H2=>v=.cj/\Q (.ref x) H2) E
def Binds(K:PySem.W.Frag)(fd:FuncData)(ps:List Str)(ds:List Value):Prop :=
 ∀(s:Shared) (us:List Value),K.In s.heap->(us++ds).length=ps.length->BindsTo s fd ⟨us,[]⟩ (ps.zip (us++ds))
theorem Binds.all(h:∀us:List Value,us.length=ps.length->bindArgs fd ⟨us,[]⟩=pure (ps.zip us)):Binds K fd ps []:=λs us _ hl=>by
 rw[dw] at hl ⊢;exact .of_eq (h us hl)
def Passes(CX:om)(X:Cx)(E:XK):Prop:=∀(pins:List (Addr×Obj)) (σ:St) (H:Hp) (s:Shared) (e:Value) (s':Shared),Inv X pins σ H s->CX X.stack H s E e s'->X.xe e s'
section
variable{ky:List V}{ds:List Value}{E:XK}
theorem Km{Q:VK}(F:iQ X.prog X.w X.K X.mg X.base CX k f fd ps sp)(hr:x5 k X.A)(hb:Binds X.K fd ps ds)(hd:Vals ky ds)(hx:Passes CX X E)(I:Inv X pins σ H s)(r:Vals vs us)(h:sp (vs++ky) H Q E):wpAny (model X.prog X.w) X.A (call (.ref f) us) (EP X pins σ Q) X.xe s:=by
 have r2:Vals (vs++ky) (us++ds):=r.append hd;have hl:(us++ds).length=ps.length:=by rw[<- r2.length];exact F.len _ _ _ _ h
 refine wpAny_call (ir (F.run X.A X.stack s H ⟨us,[]⟩ (us++ds) (vs++ky) Q E hr I.HM (hb s us I.iA hl) r2 h) λr s' hq=>?_);cases r with
 |error e=>exact hx pins σ H s e s' I hq
 |ok fl =>
  cases fl with
  |ret u=>exact I.after hq
  |next=>exact False.elim hq
  |brk=>exact False.elim hq
  |cont=>exact False.elim hq
theorem TM(F:iQ X.prog X.w X.K X.mg X.base CX k f fd ps sp)(hr:x5 k X.A)(hg:Gl X x)(hm:X.mg x=some (.ref f))(hk:PySem.W.keepIn X.K (.ref f)=true)(hb:Binds X.K fd ps ds)(hd:Vals ky ds)(hx:Passes CX X E)(ha:PA X (e::es) t)(iE:(x==("__debug__":Str))=false:=by decide)(he:starEach (e::es) X.env=(false,eval e X.env)::starEach es X.env:=by rfl)(iP:(backTo pos (starEach es X.env)).any (·.1)=false:=by rfl) :
  PE X (.Call (.Name x p) (e::es) [] pos) (LD sp ky E t):=by
 intro pins s σ H Q I h;refine cY (Q5 I hg hm ?_ iE);refine Mj (h₀:=X.base) I.ok.mod.ow hk (cW (ha pos pins s σ H _ I h) λus s1 ⟨vs,H1,I1,r,q⟩=>⟨I1.iA,?_⟩) he iP;exact Km F hr hb hd hx I1 r q
theorem a51(F:iQ X.prog X.w X.K X.mg X.base CX k f fd ps sp)(hr:x5 k X.A)(hg:Gl X x)(hm:X.mg x=some (.ref f))(hk:PySem.W.keepIn X.K (.ref f)=true)(hb:Binds X.K fd ps ds)(hd:Vals ky ds)(hx:Passes CX X E)(iE:(x==("__debug__":Str))=false:=by decide):PE X (.Call (.Name x p) [] [] pos) (LD sp ky E ET):=by
 intro pins s σ H Q I h;refine cY (Q5 I hg hm ?_ iE);exact Fi I.iA hk (Km (us:=[]) F hr hb hd hx I .nil h)
structure Mk(K:PySem.W.Frag)(C f:Addr):Prop where
 makes:PySem.W.makesIn K C=true
 init:PySem.W.findIn K (.ref C) "__init__"=some (some (.ref f))
 fn:PySem.W.isFn K (.ref f)=true
 kp:PySem.W.keepIn K (.ref C)=true
theorem Lx{Q:VK}(M:Mk X.K C f)(F:iQ X.prog X.w X.K X.mg X.base CX k f fd ps sp)(hr:x5 (k+1) X.A)(hb:Binds X.K fd ps ds)(hd:Vals ky ds)(hx:Passes CX X E)(I:Inv X pins σ H s)(r:Vals vs us)(h:∀x dx,H x=none->H dx=none->dx≠x->sp (.ref x::(vs++ky)) (upd (upd H dx (.own x)) x (.ins C dx [])) (λv H2=>v=.cj/\Q (.ref x) H2) E) :
  wpAny (model X.prog X.w) X.A (call (.ref C) us) (EP X pins σ Q) X.xe s:=by
 have hq:=h (s.heap.objs.size+1) s.heap.objs.size (I.cb.fresh (cy _)) (I.cb.fresh (av _)) (aE (fQ _));have I2:=Inv.made (C:=C) I;have r2:Vals (V.ref (s.heap.objs.size+1)::(vs++ky)) (Value.ref (s.heap.objs.size+1)::(us++ds)):=.cons rfl (r.append hd);have hl:(Value.ref (s.heap.objs.size+1)::us++ds).length=ps.length:=by
  have e:=r2.length;rw[F.len _ _ _ _ hq] at e;exact e.symm
 refine wpAny_call (a59 (f:=f) I.iA M.makes M.init (bB.mp M.fn) (ir (F.run _ X.stack _ _ ⟨Value.ref (s.heap.objs.size + 1) :: us,[]⟩ (Value.ref (s.heap.objs.size + 1) :: (us ++ ds)) _ _ E (hr.make C us [])
  (I2.HM.make C us []) (hb _ (Value.ref (s.heap.objs.size + 1) :: us) I2.iA hl) r2 hq) λr s' nL=>?_))
 cases r with
 |error e=>exact hx pins σ _ _ e s' I2 nL
 |ok fl =>
  cases fl with
  |ret u =>
   obtain⟨v,H',I3,rv,ev,q3⟩:=I2.after nL;subst ev;exact⟨rv,⟨V.ref (s.heap.objs.size+1),H',I3,rfl,q3⟩⟩
  |next=>exact False.elim nL
  |brk=>exact False.elim nL
  |cont=>exact False.elim nL
theorem TR(M:Mk X.K C f)(F:iQ X.prog X.w X.K X.mg X.base CX k f fd ps sp)(hr:x5 (k+1) X.A)(hg:Gl X x)(hm:X.mg x=some (.ref C))(hb:Binds X.K fd ps ds)(hd:Vals ky ds)(hx:Passes CX X E)(ha:PA X (e::es) t)(iE:(x==("__debug__":Str))=false:=by decide)(he:starEach (e::es) X.env=(false,eval e X.env)::starEach es X.env:=by rfl)(iP:(backTo pos (starEach es X.env)).any (·.1)=false:=by rfl) :
  PE X (.Call (.Name x p) (e::es) [] pos) (LH C sp ky E t):=by
 intro pins s σ H Q I h;refine cY (Q5 I hg hm ?_ iE);refine Mj (h₀:=X.base) I.ok.mod.ow M.kp (cW (ha pos pins s σ H _ I h) λus s1 ⟨vs,H1,I1,r,q⟩=>⟨I1.iA,?_⟩) he iP;exact Lx M F hr hb hd hx I1 r q
theorem a47(M:Mk X.K C f)(F:iQ X.prog X.w X.K X.mg X.base CX k f fd ps sp)(hr:x5 (k+1) X.A)(hg:Gl X x)(hm:X.mg x=some (.ref C))(hb:Binds X.K fd ps ds)(hd:Vals ky ds)(hx:Passes CX X E)(iE:(x==("__debug__":Str))=false:=by decide):PE X (.Call (.Name x p) [] [] pos) (LH C sp ky E ET):=by
 intro pins s σ H Q I h;refine cY (Q5 I hg hm ?_ iE);exact Fi I.iA M.kp (Lx (us:=[]) M F hr hb hd hx I .nil h)
end
structure jn(N P:List Str)(sc:Scope):Prop where
 kind:sc.kind=.function
 co:sc.isCoroutine=false
 gen:sc.isGenerator=false
 nd:N.Nodup
 pre:N.take P.length=P
 par:∀x∈P,sc.names.lookup x=some .local\/sc.names.lookup x=some .cell
 nD:∀y∈sc.names,y.2≠.free
theorem IU{kindOf:Str->Option NameKind}{x:Str}:∀{binds:List (Str×Value)} {m:Str->Option Value},(∀v,(x,v)∉binds)->bindL kindOf binds m x=m x
 |[],_,_=>rfl
 |(n,v)::r,m,h=>by
  unfold bindL;rw[IU λw hw=>h w (bG _ hw)];split
  ·have:x≠n:=by rintro rfl;exact h v cR
   simp[this]
  ·rfl
theorem IS{kindOf:Str->Option NameKind}{x:Str}:∀{binds:List (Str×Value)} {m:Str->Option Value},(∀v,(x,v)∉binds)->bindC kindOf binds m x=m x
 |[],_,_=>rfl
 |(n,v)::r,m,h=>by
  unfold bindC;rw[IS λw hw=>h w (bG _ hw)];split
  ·rfl
  ·have:x≠n:=by rintro rfl;exact h v cR
   simp[this]
theorem IT{kindOf:Str->Option NameKind}{x:Str}{v:Value}:∀{P:List Str} {vs:List Value} {i:Nat} {m:Str->Option Value},P.Nodup->P[i]?=some x->vs[i]?=some v->kindOf x=some .local ->
  bindL kindOf (P.zip vs) m x=some v
 |[],_,_,_,_,h,_,_=>by simp at h
 |_::_,[],_,_,_,_,h,_=>by simp at h
 |p::P,w::vs,0,m,nd,h1,h2,hk=>by
  simp at h1 h2;subst h1;subst h2;show bindL kindOf ((p,w)::P.zip vs) m p=_;unfold bindL;rw[IU λv hv=>(et.mp nd).1 (nj hv).1,aI hk];simp
 |p::P,w::vs,i+1,m,nd,h1,h2,hk=>by
  show bindL kindOf ((p,w)::P.zip vs) m x=_;unfold bindL;exact IT (i:=i) (et.mp nd).2 (by simpa using h1) (by simpa using h2) hk
theorem IQ{kindOf:Str->Option NameKind}{x:Str}{v:Value}:∀{P:List Str} {vs:List Value} {i:Nat} {m:Str->Option Value},P.Nodup->P[i]?=some x->vs[i]?=some v->kindOf x≠some .local ->
  bindC kindOf (P.zip vs) m x=some v
 |[],_,_,_,_,h,_,_=>by simp at h
 |_::_,[],_,_,_,_,h,_=>by simp at h
 |p::P,w::vs,0,m,nd,h1,h2,hk=>by
  simp at h1 h2;subst h1;subst h2;show bindC kindOf ((p,w)::P.zip vs) m p=_;unfold bindC;rw[IS λv hv=>(et.mp nd).1 (nj hv).1,aC hk];simp
 |p::P,w::vs,i+1,m,nd,h1,h2,hk=>by
  show bindC kindOf ((p,w)::P.zip vs) m x=_;unfold bindC;exact IQ (i:=i) (et.mp nd).2 (by simpa using h1) (by simpa using h2) hk
def start(N:List Str)(vs:List V):St:=vs.map some++List.replicate (N.length-vs.length) none
def pF(CX:om)(P:Program)(w:World)(K:PySem.W.Frag)(mg:Str->Option Value)(base:Heap)(N:List Str)(qual:Str)(scope:Scope)(f:Addr)(cd:Value)(A:Around)(outer:List Env)(s:Shared)(H:Hp)(E:XK):Cx where
 prog:=P
 w:=w
 K:=K
 mg:=mg
 base:=base
 A:=A.deeper (envOfC qual scope s.heap.objs.size f cd)
 N:=N
 dD:=s
 jO:=H
 env:=envOfC qual scope s.heap.objs.size f cd
 outer:=outer
 stack:=envOfC qual scope s.heap.objs.size f cd::outer
 ex:=[]
 calm:=true
 fn:=λ_=>true
 pn:=[]
 xe:=λe s'=>wpAny (model P w) (A.deeper (envOfC qual scope s.heap.objs.size f cd)) (leaving (envOfC qual scope s.heap.objs.size f cd) e) (λ_ oN=>CX outer H s E e oN) (λe' oN=>CX outer H s E e' oN) s'
theorem CV{sc:Scope}{n:Nat}(h:sc.names.lookup x=some .cell):∃c,(cellsFrom n sc.names []).lookup x=some c:=by
 have q:=dU sc.names n [] (.inl h);exact ff.mp q
theorem YX{mg:Str->Option Value}{qual:Str}{scope:Scope}{cd:Value}{outer:List Env}{s1:Shared}{E:XK}(S:jn N ps scope)(hd:A.handled=none)(e0:sJ P w K mg base A outer s H)(hl:vs.length=ps.length)(r:Vals vs us)(x:InCallC s s.heap.objs.size (bindL (envOfC qual scope s.heap.objs.size f cd).kindOf (ps.zip us) λ_=>none) (cellsFrom (s.heap.objs.size+1) scope.names []) (bindC (envOfC qual scope s.heap.objs.size f cd).kindOf (ps.zip us) λ_=>none) s1) :
  Inv (pF CX P w K mg base N qual scope f cd A outer s H E) [] (start N vs) H s1:=by
 have iP:ps.length<=N.length:=by have:=fX List.length S.pre;rw[cT] at this;omega
 obtain⟨h1,tk,rfl,hk⟩:=x.done;have vd:∀b:Addr,b∉(pF CX P w K mg base N qual scope f cd A outer s H E).ex:=λb z=>absurd (show b∈([]:List Addr) from z) (by simp);refine ⟨⟨e0.mod,S.kind,rfl,rfl,av _,λy z c h1 h2=>?_,λy hy=>?_,λy c _ h=>?_,λ_=>hd,Around.frames_deeper e0.frames,.inr ⟨rfl,rfl⟩,λb z=>absurd z (vd b),e0.bs,e0.qq,λb _ _=>vd b,λb z=>absurd z (vd b),e0.P1,e0.su⟩,
  rfl,e0.bare,Un.kept hk,⟨_,x.toInCall.ns,λi y v h1 h2 h3=>?_⟩,λy c h=>⟨_,x.cell y c h⟩,e0.cb.fresh (av _),λy c h=>?_,λp hp=>absurd (show p ∈ ([]:List (Addr × Obj)) from hp) (by simp),e0.cb.kept hk,?_⟩
 ·exact name_of_addr x.apart (aR h1) (aR h2)
 ·have hy:scope.names.lookup y=some .cell\/scope.names.lookup y=some .free:=hy;rcases hy with hy|hy
  ·exact CV hy
  ·exact absurd rfl (S.nD _ (aR hy))
 ·exact eT (x.above y c (aR h))
 ·have hi:i<vs.length:=by
   unfold start at h2;by_cases hi:i<vs.length
   ·exact hi
   ·rw[eL (by simpa using hi)] at h2;rw[fz] at h2;split at h2<;>cases h2
  have ha:vs[i]?=some v:=by
   unfold start at h2;rw[aM (by simpa using hi),au] at h2;cases e:vs[i]? with
   |none=>rw[e] at h2;cases h2
   |some a=>rw[e] at h2;cases h2;rfl
  obtain⟨u,hu,rv⟩:=r.get ha;have hp:ps[i]?=some y:=by
   rw[<- S.pre,qI (by omega)];exact h1
  have FU:ps.Nodup:=by rw[<- S.pre];exact S.nd.sublist (List.take_sublist _ _)
  refine⟨u,rv,?_⟩;rcases S.par y (aL hp) with k|k
  ·exact .inl ⟨k,IT FU hp hu k⟩
  ·obtain⟨c,e⟩:=CV (n:=s.heap.objs.size+1) k;refine .inr ⟨.inl k,c,e,?_⟩;have q:=x.cell y c e;rw[IQ FU hp hu (by show scope.names.lookup y≠_;rw[k];decide)] at q;exact q
 ·exact e0.cb.fresh (eT (x.above y c (aR h)))
 ·unfold start;show _=N.length;rw[bj,aj,xw];omega
theorem WL{mg:Str->Option Value}{name qual:Str}{params:Arguments}{body:List Stmt}{scope:Scope}{dV kV doc pm gf ct oc:Value}{an od:Option Addr}{mX:Array (Option Value)}(lk:K.lookup f=some ⟨oc,od,.func (PySem.W.fnOf name qual params body scope dV kV doc pm an gf ct),mX⟩)(mG:PySem.W.codeIn K gf qual=true)(S:jn N ps scope)(len:∀vs H Q E,sp vs H Q E->vs.length=ps.length)(vQ:∀ (A:Around) (outer:List Env) (s:Shared) (H:Hp) (vs:List V) (Q:VK) (E:XK),x5 k (A.deeper (envOfC qual scope s.heap.objs.size f gf))->sp vs H Q E ->
   ∃ t,kW (pF CX P w K mg base N qual scope f gf A outer s H E) body t/\t { nx:=λ_ H'=>Q .cj H',rt:=Q } (start N vs) H) :
  iQ P w K mg base CX (k+1) f (PySem.W.fnOf name qual params body scope dV kV doc pm an gf ct) ps sp:=by
 refine⟨len,λA outer s H args us vs Q E hr e0 hb r tI=>?_⟩;have hl:=len _ _ _ _ tI;have KX:K.In s.heap:=e0.mod.ow.keeps λb o e=>(e0.bs b o e).1;have lim:s.heap.NoLimit:=e0.mod.nolimit.keeps λb o e=>(e0.bs b o e).1;have vI:∀y∈ps.zip us,scope.names.lookup y.1=some .local\/(scope.names.lookup y.1=some .cell/\((cellsFrom (s.heap.objs.size+1) scope.names []).lookup y.1).isSome=true):=λ⟨n,v⟩ hy=>by
  rcases S.par n (nj hy).1 with q|q
  ·exact .inl q
  ·exact .inr ⟨q,dU _ _ _ (.inl q)⟩
 refine codeAny_call_function hr.depth (KX _ _ lk) rfl S.co S.gen rfl (PySem.W.codeRec_of KX mG) (hb _ _ _ _ ?_);refine wpAny_newFunctionEnv_cells S.kind vI λenv he s1 x=>?_;subst he;refine⟨lim.keeps x.toInCall.keep,codeAny_func ?_⟩;obtain⟨t,ht,hq⟩:=vQ A outer s H vs Q E (hr.deeper _) tI;have I:Inv (pF CX P w K mg base N qual scope f gf A outer s H E) [] (start N vs) H s1:=YX S hr.hd e0 hl r x;refine bK (ht [] s1 (start N vs) H _ I hq) (λfl s' hs=>?_) λe s' hs=>hs;have fin:∀{cI:St} {H':Hp} {v:V} {u:Value},Inv (pF CX P w K mg base N qual scope f gf A outer s H E) [] cI H' s'->RelV v u->Q v H'->CE outer P w H s Q u s' :=
  λ{cI H' v u} J rv q=>⟨v,H',J.os,J.bare,J.base,J.cb,rv,q⟩
 cases fl with
 |ret u =>
  obtain⟨v,cI,H',J,rv,q⟩:=hs;exact fin J rv q
 |next =>
  obtain⟨cI,H',J,q⟩:=hs;exact fin (v:=V.cj) (u:=Value.none) J rfl q
 |brk =>
  obtain⟨_,_,_,q⟩:=hs;exact False.elim q
 |cont =>
  obtain⟨_,_,_,q⟩:=hs;exact False.elim q
section
variable{id T:String}{r:List V->Hp->VK->Prop}
def Ao(r:List V->Hp->VK->Prop)(t:TA):TE:=λσ H Q=>t σ H λvs H1=>r vs H1 Q
theorem zE(hc:n6 X (.builtin id) r)(hg:Gl X x)(hm:X.mg x=none)(hv:bootBuiltins x=some (.builtin id))(ha:PA X (e::es) t)(hn:x≠"__name__":=by decide)(iE:(x==("__debug__":Str))=false:=by decide)(he:starEach (e::es) X.env=(false,eval e X.env)::starEach es X.env:=by rfl)(iP:(backTo pos (starEach es X.env)).any (·.1)=false:=by rfl):PE X (.Call (.Name x p) (e::es) [] pos) (Ao r t):=by
 intro pins s σ H Q I h;refine cY (O7 I hg hm hv ?_ hn iE);exact PyProof.Rows.callWith_builtin1 (cW (ha pos pins s σ H _ I h) λus s1 ⟨vs,H1,I1,r1,q1⟩=>hc pins s1 σ H1 vs us Q I1 r1 q1) he iP
theorem O6(hc:n6 X (.type T) r)(hg:Gl X x)(hm:X.mg x=none)(hv:bootBuiltins x=some (.type T))(ha:PA X (e::es) t)(hn:x≠"__name__":=by decide)(iE:(x==("__debug__":Str))=false:=by decide)(he:starEach (e::es) X.env=(false,eval e X.env)::starEach es X.env:=by rfl)(iP:(backTo pos (starEach es X.env)).any (·.1)=false:=by rfl):PE X (.Call (.Name x p) (e::es) [] pos) (Ao r t):=by
 intro pins s σ H Q I h;refine cY (O7 I hg hm hv ?_ hn iE);exact cH (cW (ha pos pins s σ H _ I h) λus s1 ⟨vs,H1,I1,r1,q1⟩=>hc pins s1 σ H1 vs us Q I1 r1 q1) he iP
end
end L2
namespace HT
open PySem PyProof.Rows
section
variable{prog:Program}{w:World}{A:Around}{E:Value->Shared->Prop}{s:Shared}
theorem SV{t b:Addr}{vs ws:List Value}{Q:Value->Shared->Prop}(ht:IsTup s.heap t vs.toArray)(hb:IsTup s.heap b ws.toArray)(hv:vs≠[])(h1:ws=[]->Q (.ref t) s)(h2:ws≠[]->Q (.ref s.heap.objs.size) { s with heap:=s.heap.push { cls:=.type "tuple",data:=.seq (vs++ws).toArray } })(hsz:vs.length+ws.length<=sizeLine):wpAny (model prog w) A (binaryOp .Add (.ref t) (.ref b)) Q E s:=by
 obtain⟨⟨cls,dd,data,sl⟩,ho,hc,n,hd⟩:=id ht;obtain⟨⟨Cm,yA,data2,qU⟩,mE,qe,n2,hd2⟩:=id hb;simp only at hc hd qe hd2;subst hc hd qe hd2;have e:vs.toArray++ws.toArray=(vs++ws).toArray:=by simp
 by_cases hw:ws=[]
 ·exact concat_meets ⟨_,ho,rfl⟩ ⟨_,mE,rfl⟩ qH Mg iX iH (iu _ _)
   (tuple_addW1 t b vs.toArray ws.toArray n n2 dd yA sl qU (by simpa using hv) (by simp[hw])) ⟨ho,mE,h1 hw⟩
 ·refine concat_meets ⟨_,ho,rfl⟩ ⟨_,mE,rfl⟩ qH Mg iX iH (iu _ _)
   (tuple_addW2 t b vs.toArray ws.toArray n n2 dd yA sl qU (by simpa using hv) (by simpa using hw) (by rw[aJ,aJ];exact hsz)) ⟨ho,mE,?_⟩
  rw[e];exact h2 hw
def dX(n d:Nat):Option Int->Nat
 |none=>d
 |some v=>if v<0 then(v+(n:Int)).toNat else min v.toNat n
theorem RJ(n d:Nat)(hd:d<=n)(o:Option Int):dX n d o<=n:=by
 cases o with
 |none=>exact hd
 |some v =>
  show(if v<0 then(v+(n:Int)).toNat else min v.toNat n)<=n;by_cases hv:v<0
  ·rw[aI hv];omega
  ·rw[aC hv];exact Nat.min_le_right _ _
theorem Ku(v:Int)(n d:Nat):(if v<0 then max (v+(n:Int)) 0 else min v (n:Int))=((dX n d (some v):Nat):Int):=by
 show(if v<0 then max (v+(n:Int)) 0 else min v (n:Int))=(((if v<0 then(v+(n:Int)).toNat else min v.toNat n):Nat):Int);by_cases hv:v<0
 ·simp only[if_pos hv];omega
 ·simp only[if_neg hv];omega
theorem ZJ(lo hi:Option Int)(n:Nat):Builtin.Slice.sliceAdjust lo hi 1 (n:Int)=(((dX n 0 lo:Nat):Int),((dX n n hi:Nat):Int)):=by
 have h1:¬((1:Int)<0):=by omega
 unfold Builtin.Slice.sliceAdjust;simp only[h1,if_false];refine zW ?_ ?_
 ·cases lo with
  |none=>rfl
  |some v=>exact Ku v n 0
 ·cases hi with
  |none=>rfl
  |some v=>exact Ku v n n
theorem aM8(i j:Nat):Builtin.Slice.slicePlaces (i:Int) (j:Int) 1=j-i:=by
 unfold Builtin.Slice.slicePlaces;have h1:(1:Int)>0:=by omega
 simp only[h1,if_true,Int.ediv_one];split<;>omega
theorem JC{v:Value}{o:Option Int}{Q:Option Int->Shared->Prop}(p:IsPart v o)(h:Q o s):wpAny (model prog w) A (Builtin.Slice.slicePartIndex v) Q E s:=by
 cases p with
 |none=>exact slicePart_none h
 |int i t=>exact slicePart_int h
theorem R5{sl:Addr}{vl vu:Value}{lo hi:Option Int}{n:Nat}{Q:Int×Int×Nat->Shared->Prop}(hs:s.heap.IsSliceOf sl vl vu .none)(pl:IsPart vl lo)(pu:IsPart vu hi)(h:Q (((dX n 0 lo:Nat):Int),1,dX n n hi-dX n 0 lo) s):wpAny (model prog w) A (Builtin.Slice.sliceApplied (.ref sl) (pure (n:Int))) Q E s:=by
 obtain⟨os,rG,yc,vN⟩:=id hs;unfold Builtin.Slice.sliceApplied Builtin.Slice.sliceFields;refine aa (aa (wpAny_field rG vN (x:=vl) rfl (aa (wpAny_field rG vN (x:=vu) rfl (aa (wpAny_field rG vN (x:=.none) rfl (ak ?_)))))));refine aa (slicePart_none ?_);show wpAny _ _ (if((1:Int)==0)=true then _ else _) _ _ s;rw[aC (by decide)];refine aa (JC pl (aa (JC pu (aa (ak ?_)))));show wpAny _ _ (match Builtin.Slice.sliceAdjust lo hi 1 (n:Int) with|(lo,hi)=>pure (lo,(1:Int),Builtin.Slice.slicePlaces lo hi 1)) _ _ s;rw[ZJ lo hi n];show wpAny _ _ (pure (((dX n 0 lo:Nat):Int),(1:Int),Builtin.Slice.slicePlaces ((dX n 0 lo:Nat):Int) ((dX n n hi:Nat):Int) 1)) _ _ s;rw[aM8];exact ak h
theorem a44(xs:Array Value)(i k:Nat):((List.range k).filterMap λ(m:Nat)=>xs[((i:Int)+(m:Int)*1).toNat]?).toArray=((xs.toList.drop i).take k).toArray:=by
 have e:(λ(m:Nat)=>xs[((i:Int)+(m:Int)*1).toNat]?)=λm=>xs[i+m]?:=by
  funext m
  have:((i:Int)+(m:Int)*1).toNat=i+m:=by omega
  rw[this]
 rw[e];have:=pick_run xs i k;rw[List.filterMap_map] at this;have e2:((λx=>xs[x]?) ∘ λx=>i+x)=λm=>xs[i+m]?:=rfl;rw[e2] at this;rw[this]
theorem YA{t sl:Addr}{items:Array Value}{vl vu:Value}{lo hi:Option Int}{Q:Value->Shared->Prop}(ht:IsTup s.heap t items)(hs:s.heap.IsSliceOf sl vl vu .none)(pl:IsPart vl lo)(pu:IsPart vu hi)(hw:¬(dX items.size 0 lo=0/\dX items.size items.size hi=items.size))(h:Q (.ref s.heap.objs.size) { s with heap:=s.heap.push { cls:=.type "tuple",data:=.seq ((items.toList.drop (dX items.size 0 lo)).take (dX items.size items.size hi-dX items.size 0 lo)).toArray } })(hsz:items.size<=sizeLine):wpAny (model prog w) A (getItem (.ref t) (.ref sl)) Q E s:=by
 have lR:sizeOk (.seq ((items.toList.drop (dX items.size 0 lo)).take (dX items.size items.size hi-dX items.size 0 lo)).toArray):=by
  show((items.toList.drop (dX items.size 0 lo)).take (dX items.size items.size hi-dX items.size 0 lo)).toArray.size<=sizeLine;rw[aJ,cT,mh,bt];omega
 have hj:dX items.size items.size hi<=items.size:=RJ _ _ (av _) hi;obtain⟨os,rG,yc,vN⟩:=id hs;have Bu:s.TypeIs (.ref sl) "slice":=⟨os,rG,yc⟩
 unfold getItem
 try with_reducible refine bJ ?_
 first|refine aa (ak ?_)|skip
 refine aa (wpAny_sequenceKey ht.typeIs (by decide) ?_);refine aa (fP (name:=Str.ofString "__getitem__") ht.typeIs bV
  (cJ bV ht.typeIs entry_tuple_getitem ?_ (args_tuple_getitem _ _)))
 show wpAny _ _ (Builtin.Tuple.tupleItemsOf (.ref t) >>= _) _ _ s;refine aa (tupleItemsOf_ ht ?_);refine aa (dG Bu ?_);rw[aI (by decide)];refine aa (R5 hs pl pu ?_);have ox:¬((((dX items.size 0 lo:Nat):Int)==0&&(1:Int)==1&&(dX items.size items.size hi-dX items.size 0 lo)==items.size)=true):=by
  intro q;rw[aW,aW] at q;have q1:((dX items.size 0 lo:Nat):Int)=0:=eq_of_beq q.1.1;have q2:dX items.size items.size hi-dX items.size 0 lo=items.size:=eq_of_beq q.2;exact hw ⟨by omega,by omega⟩
 show wpAny _ _ (if(((dX items.size 0 lo:Nat):Int)==0&&(1:Int)==1&&(dX items.size items.size hi-dX items.size 0 lo)==items.size)=true then _ else _) _ _ s;rw[aC ox,a44]
 first
  |exact wpAny_bind (m:=Builtin.Tuple.tupleExact _) (wpAny_newObj_type (wpAny_pure ⟨_,rfl,wpAny_pure h⟩) lR)
  |exact wpAny_bind (m:=Builtin.Tuple.tupleExact _) (wpAny_newObj_type (wpAny_bind (wpAny_pure (wpAny_pure ⟨_,rfl,wpAny_pure h⟩))) lR)
  |exact wpAny_bind (wpAny_bind (m:=Builtin.Tuple.tupleExact _) (wpAny_newObj_type (wpAny_pure (wpAny_pure ⟨_,rfl,wpAny_pure h⟩)) lR))
  |exact wpAny_bind (wpAny_bind (m:=Builtin.Tuple.tupleExact _) (wpAny_newObj_type (wpAny_pure ⟨_,rfl,wpAny_pure h⟩) lR))
end
end HT
namespace L2
open PySem PySem.Spec PyProof.Rows
variable{X:Cx}{e:Expr}{pos:Pos}{n t':Nat}{α:Type}{a:Addr}{pins:List (Addr×Obj)}{σ:St}{H H':Hp}{s:Shared}{ba:List Value}{o:Option V}{w:World}{A:Around}{E Q:Value->Shared->Prop}{u:Value}{kvs:List (List Key×V)}{y:V}{P:Program}
noncomputable abbrev TO:=St->Hp->(Option Int->Hp->Prop)->Prop
def PO(X:Cx)(e:Option Expr)(t:TO):Prop :=
 ∀(pins:List (Addr×Obj)) (s:Shared) (σ:St) (H:Hp) (Q:Option Int->Hp->Prop),Inv X pins σ H s->t σ H Q ->
  wpAny (model X.prog X.w) X.A (evalPart e X.env) (λu s'=>∃o H',Inv X pins σ H' s'/\IsPart u o/\Q o H') X.xe s
def UK:TO:=λ_ H Q=>Q none H
def PN(t:TE):TO:=λσ H Q=>t σ H λx H1=>∃i,x=.int i/\Q (some i) H1
section
variable{te:TE}{lo hi:Option Expr}{tl th:TO}{p2:Pos}
theorem zw:PO X none UK:=by
 intro pins s σ H Q I h;rw[evalPart_none];exact ak ⟨none,H,I,.none,h⟩
theorem KP(h:PE X e te):PO X (some e) (PN te):=by
 intro pins s σ H Q I hw;rw[evalPart_some];refine cW (h pins s σ H _ I hw) λu s1 bC=>?_;obtain⟨x,H1,I1,r1,q1⟩:=bC;obtain⟨i,rfl,q⟩:=q1;obtain⟨t,rfl⟩:=r1;exact⟨some i,H1,I1,.int i t,q⟩
def xh(X:Cx)(r:V->Option Int->Option Int->Hp->VK->Prop):Prop :=
 ∀(pins:List (Addr×Obj)) (s:Shared) (σ:St) (H:Hp) (x:V) (v vl vu:Value) (lo hi:Option Int) (sl:Addr) (Q:VK),Inv X pins σ H s->RelV x v->s.heap.IsSliceOf sl vl vu .none->IsPart vl lo->IsPart vu hi->r x lo hi H Q ->
  ∃T id,typeLookup (.type T) "__getitem__"=pure (some (.builtin id))/\s.TypeIs v T/\wpAny (model X.prog X.w) X.A (getItem v (.ref sl)) (EP X pins σ Q) X.xe s
def MA(r:V->Option Int->Option Int->Hp->VK->Prop)(te:TE)(tl th:TO):TE:=λσ H Q=>te σ H λx H1=>tl σ H1 λl H2=>th σ H2 λu H3=>r x l u H3 Q
theorem Df{r:V->Option Int->Option Int->Hp->VK->Prop}(hr:xh X r)(he:PE X e te)(hl:PO X lo tl)(hu:PO X hi th):PE X (.Subscript e (.Slice lo hi none p2) pos) (MA r te tl th):=by
 intro pins s σ H Q I h;refine Subscript_ (cW (he pins s σ H _ I h) λv s1 bC=>?_);obtain⟨x,H1,I1,r1,q1⟩:=bC;refine wpAny_Slice (cW (hl pins s1 σ H1 _ I1 q1) λvl s2 ⟨l,H2,I2,pl,q2⟩=>cW (hu pins s2 σ H2 _ I2 q2) λvu s3 bC=>?_);obtain⟨u,H3,I3,pu,q3⟩:=bC;rw[evalPart_none];refine ak ?_;have I4:Inv X pins σ H3 { s3 with heap:=s3.heap.push { cls:=.type "slice",data:=.fields #[vl,vu,.none] } }:=I3.kept (t':=s3.toks) λb ob q=>ag _ q;obtain⟨T,id,hT,ht,hg⟩:=hr pins { s3 with heap:=s3.heap.push { cls:=.type "slice",data:=.fields #[vl,vu,.none] } } σ H3 x v vl vu l u s3.heap.objs.size Q I4 r1 (Heap.IsSliceOf.new ..) pl pu q3;show wpAny (model X.prog X.w) X.A (subscriptTail e (.Slice lo hi none p2) v (.ref s3.heap.objs.size)) (EP X pins σ Q) X.xe { s3 with heap:=s3.heap.push { cls:=.type "slice",data:=.fields #[vl,vu,.none] } };exact tail_any (ops:=[.ref s3.heap.objs.size,v]) ht hT hg (by with_unfolding_all rfl)
def S5(xs:List V)(lo hi:Option Int):List V:=(xs.drop (HT.dX xs.length 0 lo)).take (HT.dX xs.length xs.length hi-HT.dX xs.length 0 lo)
theorem JG(xs:List V)(lo hi:Option Int):(S5 xs lo hi).length<=xs.length:=by
 unfold S5;rw[cT,mh];omega
def VQ(K:PySem.W.Frag):V->Option Int->Option Int->Hp->VK->Prop:=λx lo hi H Q=>∃a xs,x=.ref a/\iW K H a xs /\
 ¬(HT.dX xs.length 0 lo=0/\HT.dX xs.length xs.length hi=xs.length)/\∀p,H p=none->Q (.ref p) (upd H p (.tup (S5 xs lo hi)))
theorem Sb:xh X (VQ X.K):=by
 intro pins s σ H x v vl vu lo hi sl Q I rx hs pl pu h;obtain⟨a,xs,rfl,hx,hw,q⟩:=h;cases rx;obtain⟨ba,r,ht,hz⟩:=I.tuple hx;have hlen:ba.toArray.size=xs.length:=by rw[aJ];exact r.length.symm
 refine⟨"tuple",_,bV.lookup,ht.typeIs,?_⟩;refine HT.YA ht hs pl pu (by rw[hlen];exact hw) ?_ (by rw[hlen];exact hz);rw[hlen];refine⟨.ref s.heap.objs.size,_,I.laid (t':=s.toks) (o:=.tup (S5 xs lo hi)) (λb ob q=>ag _ q) (av _) ?_,rfl,q _ (I.cb.fresh (av _))⟩;exact⟨aF (JG xs lo hi) hz,_,(r.drop (HT.dX xs.length 0 lo)).take (HT.dX xs.length xs.length hi-HT.dX xs.length 0 lo),M4.new _ _⟩
def XC(K:PySem.W.Frag):R2:=λx y H Q=>∃a b xs ys,x=.ref a/\y=.ref b/\iW K H a xs/\iW K H b ys/\xs≠[]/\xs.length+ys.length<=sizeLine /\
 (ys=[]->Q (.ref a) H)/\(ys≠[]->∀p,H p=none->Q (.ref p) (upd H p (.tup (xs++ys))))
theorem Vals.zu{xs:List V}{us:List Value}(r:Vals xs us):us=[]↔xs=[]:=by
 cases r with
 |nil=>simp
 |cons _ _=>simp
theorem Tu:gn X (binaryOp .Add) (XC X.K):=by
 intro pins s σ H x y v u Q I rx ry h;obtain⟨a,b,xs,ys,rfl,rfl,ha,hb,hx,hz,q1,q2⟩:=h;cases rx;cases ry;obtain⟨ba,r1,p1,_⟩:=I.tuple ha;obtain⟨nH,r2,p2,_⟩:=I.tuple hb;refine HT.SV p1 p2 (λz=>hx (r1.zu.mp z)) (λz=>⟨.ref a,H,I,rfl,q1 (r2.zu.mp z)⟩) (λz=>?_) (by rw[<- r1.length,<- r2.length];exact hz);refine⟨.ref s.heap.objs.size,_,I.laid (t':=s.toks) (o:=.tup (xs++ys)) (λb ob q=>ag _ q) (av _) ?_,rfl,q2 (λw=>z (r2.zu.mpr w)) _ (I.cb.fresh (av _))⟩;exact⟨by rw[bj];exact hz,_,r1.append r2,M4.new _ _⟩
end
def lD(n:Nat)(i:Int):Option Nat:=if 0<=i then(if i<n then some i.toNat else none) else if -(n:Int)<=i then some (i+n).toNat else none
def gI{α:Type}(xs:List α)(i:Int):Option α:=(lD xs.length i).bind λj=>xs[j]?
theorem KC{i:Int}{j:Nat}(h:lD n i=some j):seqIndex? i n=some j/\j<n/\-(n:Int)<=i/\i<n:=by
 unfold lD at h;by_cases h0:0<=i
 ·rw[aI h0] at h;by_cases h1:i<n
  ·rw[aI h1] at h;have e:i.toNat=j:=aQ h;exact⟨by rw[seqIndex_of h0 h1,e],by omega,by omega,h1⟩
  ·rw[aC h1] at h;cases h
 ·rw[aC h0] at h;by_cases h1:-(n:Int)<=i
  ·rw[aI h1] at h;have e:(i+n).toNat=j:=aQ h;exact⟨by rw[seqIndex_neg (by omega) h1,e],by omega,h1,by omega⟩
  ·rw[aC h1] at h;cases h
theorem CD{xs:List α}{i:Int}{v:α}(h:gI xs i=some v):∃j,seqIndex? i xs.length=some j/\xs[j]?=some v/\j<xs.length/\-(xs.length:Int)<=i/\i<xs.length:=by
 unfold gI at h;cases e:lD xs.length i with
 |none=>rw[e] at h;cases h
 |some j =>
  rw[e] at h;obtain⟨h1,h2,h3,h4⟩:=KC e;exact⟨j,h1,h,h2,h3,h4⟩
theorem K8{xs:List α}{j:Nat}{v:α}(h:xs[j]?=some v):gI xs (j:Int)=some v:=by
 have hj:j<xs.length:=(aw.mp h).1;have e:lD xs.length (j:Int)=some j:=by
  unfold lD;rw[aI (by omega),aI (by omega)];simp
 unfold gI;rw[e];exact h
def Cz(b:Expr):Prop:=∀o i,subscripted b false o i=operate [o,i] (getItem o i)
def sW(X:Cx)(r:R2):Prop :=
 ∀(value slice:Expr) (pins:List (Addr×Obj)) (s:Shared) (σ:St) (H:Hp) (x y:V) (v u:Value) (Q:VK),Inv X pins σ H s->RelV x v->RelV y u->r x y H Q ->
  subscripted slice false v u=operate [v,u] (getItem v u)->wpAny (model X.prog X.w) X.A (subscriptTail value slice v u) (EP X pins σ Q) X.xe s
def oj(X:Cx)(id:String)(r:V->List V->Hp->VK->Prop):Prop :=
 ∀(pins:List (Addr×Obj)) (s:Shared) (σ:St) (H:Hp) (x:V) (xs:List V) (v:Value) (us:List Value) (Q:VK),Inv X pins σ H s->RelV x v->Vals xs us->r x xs H Q ->
  wpAny (model X.prog X.w) X.A (call (.builtin id) (v::us)) (EP X pins σ Q) X.xe s
section
variable{a b:Expr}{ta tb:TE}
theorem IC{r:R2}(hr:sW X r)(ha:PE X a ta)(hb:PE X b tb)(hs:Cz b):PE X (.Subscript a b pos) (tq r ta tb):=by
 intro pins s σ H Q I h;exact Subscript_ (EI ha hb I h λv u s2 x y H2 I2 rx ry q=>hr a b pins s2 σ H2 x y v u Q I2 rx ry q (hs _ _))
def VJ(K:PySem.W.Frag):R2:=λx y H Q=>∃p xs i v,x=.ref p/\y=.int i/\gA K H p xs/\gI xs i=some v/\Q v H
def VM(K:PySem.W.Frag):R2:=λx y H Q=>∃p xs i v,x=.ref p/\y=.int i/\iW K H p xs/\gI xs i=some v/\Q v H
def VL:R2:=λx y H Q=>∃z i c,x=.str z/\y=.int i/\z.length<=sizeLine/\gI z.cps.toList i=some c/\Q (.str ⟨#[c]⟩) H
theorem Tg:sW X (VJ X.K):=by
 intro value slice pins s σ H x y v u Q I rx ry h hs;obtain⟨p,xs,i,z,rfl,rfl,hq,he,q⟩:=h;cases rx;obtain⟨t,rfl⟩:=ry;obtain⟨ba,r,pl,hz⟩:=I.list hq;obtain⟨j,h1,h2,h3,h4,h5⟩:=CD he;obtain⟨w,ew,gC⟩:=r.get h2;have hl:=r.length;have hn:=S1;have fin:EP X pins σ Q w s:=⟨z,H,I,gC,q⟩
 by_cases h0:0<=i
 ·have hj:i.toNat=j:=by
   rw[seqIndex_of h0 h5] at h1;exact aQ h1
  exact item_listR pl.isList h0 (by omega) (by rw[hj];simpa using ew) fin hs
 ·have hj:(i+(ba.toArray.size:Int)).toNat=j:=by
   rw[seqIndex_neg (by omega) h4] at h1;rw[aJ,<- hl];exact aQ h1
  exact subscriptTail_builtinR (x:=w) pl.isList.typeIs slot_list_getitem.lookup
   (wpAny_getItem_list_neg (Q:=λr s'=>r=w/\EP X pins σ Q r s') pl.isList (by omega) (by rw[aJ]<;>omega) (by omega) (by rw[hj];simpa using ew) ⟨rfl,fin⟩) hs
theorem Qx:sW X (VM X.K):=by
 intro value slice pins s σ H x y v u Q I rx ry h hs;obtain⟨p,xs,i,z,rfl,rfl,hq,he,q⟩:=h;cases rx;obtain⟨t,rfl⟩:=ry;obtain⟨ba,r,pl,hz⟩:=I.tuple hq;obtain⟨j,h1,h2,h3,h4,h5⟩:=CD he;obtain⟨w,ew,gC⟩:=r.get h2;have hl:=r.length;have hn:=S1;have fin:EP X pins σ Q w s:=⟨z,H,I,gC,q⟩
 exact subscriptTail_builtinR (x:=w) pl.typeIs slot_tuple_getitem.lookup
  (getItem_tuple (j:=j) (Q:=λr s'=>r=w/\EP X pins σ Q r s') pl (by omega) (by omega) (by rw[aJ,<- hl];exact h1) (by simpa using ew) ⟨rfl,fin⟩) hs
theorem Qw:sW X VL:=by
 intro value slice pins s σ H x y v u Q I rx ry h hs;obtain⟨z,i,c,rfl,rfl,hz,he,q⟩:=h;obtain⟨t,rfl⟩:=rx;obtain⟨t',rfl⟩:=ry;obtain⟨j,h1,h2,h3,h4,h5⟩:=CD he;have hl:z.cps.toList.length=z.length:=by simp[Str.length]
 rw[hl] at h1 h4 h5;have hn:=S1;exact tail_any (typeIs_str s z t) slot_str_getitem.lookup (getItem_str (c:=c) (by
  have e1:decide (i < -(2 ^ 63:Int))=false:=aK (by omega);have e2:decide (i>=2 ^ 63)=false:=aK (by omega);rw [e1,e2,Bool.or_false]) (by rw [h1];simpa using h2) ⟨.str ⟨#[c]⟩,H,I.tok _,⟨_,rfl⟩,q⟩) hs
theorem aO3(ba:List Value)(n j:Nat)(u:Value):Obj.mapSeq (·.setIfInBounds j u) { cls:=.type "list",data:=.seq ba.toArray n }={ cls:=.type "list",data:=.seq (ba.set j u).toArray n }:=by
 simp[Obj.mapSeq]
theorem Inv.lst{pins:List (Addr×Obj)}{σ:St}{H:Hp}{s:Shared}{p:Addr}{xs:List V}(I:Inv X pins σ H s)(h:H p=some (.lst xs)) :
  ∃(ba:List Value) (n:Nat),Vals xs ba/\s.heap.get? p=some { cls:=.type "list",data:=.seq ba.toArray n }/\xs.length<=sizeLine:=by
 obtain⟨z,ba,n,r,e⟩:=I.cb p _ h;exact⟨ba,n,r,e,z⟩
theorem Inv.QI{p:Addr}{xs ys:List V}{its':List Value}{n':Nat}{f:Obj->Obj}(I:Inv X pins σ H s)(h:H p=some (.lst xs))(ho:s.heap.get? p=some { cls:=.type "list",data:=.seq ba.toArray n })(hf:f { cls:=.type "list",data:=.seq ba.toArray n }={ cls:=.type "list",data:=.seq its'.toArray n' })(r:Vals ys its')(hz:ys.length<=sizeLine)(t:Nat) :
  Inv X pins σ (upd H p (.lst ys)) { s with heap:=s.heap.update p f,toks:=t }:=by
 have e:(s.heap.update p f).get? p=some { cls:=.type "list",data:=.seq its'.toArray n' }:=by
  rw[bw f ho (by rw[hf]<;>rfl),hf]
 refine I.write (x:=p) (e:=p) (by rw[h];trivial) (.inl rfl) (λb u hb q=>(eK _ _ (cc hb)).trans q) ⟨_,e⟩ ?_;exact⟨hz,its',n',r,e⟩
def XE:V->V->V->Hp->(Hp->Prop)->Prop:=λo i v H Q=>∃p xs k j,o=.ref p/\i=.int k/\H p=some (.lst xs)/\lD xs.length k=some j/\Q (upd H p (.lst (xs.set j v)))
theorem set_list:ED X XE:=by
 intro pins s σ H o i v ov iv u Q I ro ri rv h;obtain⟨p,xs,k,j,rfl,rfl,hp,hj,q⟩:=h;cases ro;obtain⟨t,rfl⟩:=ri;obtain⟨ba,n,r,ho,hz⟩:=I.lst hp;obtain⟨h1,h2,h3,h4⟩:=KC hj;have hl:=r.length;have hn:=S1;have I':Inv X pins σ (upd H p (.lst (xs.set j v))) { s with heap:=s.heap.update p (Obj.mapSeq (·.setIfInBounds j u)) } :=
  I.QI hp ho (aO3 ba n j u) (r.set rv j) (by rw[List.length_set];exact hz) s.toks
 by_cases h0:0<=k
 ·have hk:k.toNat=j:=by
   rw[seqIndex_of h0 h4] at h1;exact aQ h1
  exact PySem.W.ki_setAt ho h0 (by omega) (by rw[aJ,<- hl];exact h4) (by rw[hk];exact⟨_,I',q⟩)
 ·have hk:(k+(ba.toArray.size:Int)).toNat=j:=by
   rw[seqIndex_neg (by omega) h3] at h1;rw[aJ,<- hl];exact aQ h1
  exact PySem.W.ki_setBack ho (by omega) (by rw[aJ,<- hl];exact h3) (by omega) (by rw[hk];exact⟨_,I',q⟩)
theorem aA4(lo hi:Option Int)(n:Nat):(sliceBounds lo hi none n).1=((HT.dX n 0 lo:Nat):Int)/\(sliceBounds lo hi none n).2.1=((HT.dX n n hi:Nat):Int)/\(sliceBounds lo hi none n).2.2=1:=by
 refine⟨?_,?_,rfl⟩
 ·cases lo with
  |none=>simp[sliceBounds,HT.dX]
  |some i =>
   simp only[sliceBounds,HT.dX,Option.getD_none,show(1:Int)>0 by decide,if_true];by_cases h:i<0
   ·simp only[h,if_true]<;>omega
   ·simp only[h,if_false]<;>omega
 ·cases hi with
  |none=>simp[sliceBounds,HT.dX]
  |some i =>
   simp only[sliceBounds,HT.dX,Option.getD_none,show(1:Int)>0 by decide,if_true];by_cases h:i<0
   ·simp only[h,if_true]<;>omega
   ·simp only[h,if_false]<;>omega
theorem Yg(ba:List Value)(lo hi:Option Int):slicePick ba.toArray lo hi none=((ba.drop (HT.dX ba.length 0 lo)).take (HT.dX ba.length ba.length hi-HT.dX ba.length 0 lo)).toArray:=by
 obtain⟨h1,h2,h3⟩:=aA4 lo hi ba.toArray.size;unfold slicePick;rw[h1,h2,h3];simp only[sliceRange_one,pick_run,List.size_toArray]<;>rfl
def VP(K:PySem.W.Frag):V->Option Int->Option Int->Hp->VK->Prop:=λx lo hi H Q=>∃a xs,x=.ref a/\gA K H a xs/\∀p,H p=none->Q (.ref p) (upd H p (.lst (S5 xs lo hi)))
theorem UC:xh X (VP X.K):=by
 intro pins s σ H x v vl vu lo hi sl Q I rx hs pl pu h;obtain⟨a,xs,rfl,hx,q⟩:=h;cases rx;obtain⟨ba,r,ht,hz⟩:=I.list hx;have hlen:=r.length;refine⟨"list",_,slot_list_getitem.lookup,ht.isList.typeIs,?_⟩;refine wpAny_getItem_list_slice ht.isList hs pl pu .none (by simp) ?_ (by rw[aJ]<;>omega);rw[Yg,<- hlen];refine⟨.ref s.heap.objs.size,_,I.laid (t':=s.toks) (o:=.lst (S5 xs lo hi)) (λb ob q=>ag _ q) (av _) ?_,rfl,q _ (I.cb.fresh (av _))⟩;exact⟨aF (JG xs lo hi) hz,_,0,(r.drop (HT.dX xs.length 0 lo)).take (HT.dX xs.length xs.length hi-HT.dX xs.length 0 lo),aD _ rfl⟩
def Hq:V->V->Bool
 |.cj,.cj=>true
 |.bl a,.bl b=>a==b
 |.bl a,.int b=>(if a then 1 else 0)==b
 |.int a,.bl b=>a==(if b then 1 else 0)
 |.int a,.int b=>a==b
 |.str a,.str b=>a==b
 |_,_=>false
theorem aE8:n6 X (.builtin "len") (λxs H Q=>∃p ys,xs=[.ref p]/\(gA X.K H p ys\/iW X.K H p ys)/\Q (.int ys.length) H):=by
 intro pins s σ H xs us Q I r h;obtain⟨p,ys,rfl,hq,q⟩:=h;obtain⟨u,rfl,rx⟩:=vals1 r;cases rx;have hn:=S1;rcases hq with hq|hq
 ·obtain⟨ba,r',pl,hz⟩:=I.list hq;have hlen:=r'.length;exact Calls.call_len_list pl.isList (by simp only[List.size_toArray]<;>omega) ⟨.int ys.length,H,I.tok _,⟨s.toks+1,by rw[aJ,hlen]⟩,q⟩
 ·obtain⟨ba,r',pl,hz⟩:=I.tuple hq;have hlen:=r'.length;exact len_tuple pl (by simp only[List.size_toArray]<;>omega) ⟨.int ys.length,H,I.tok _,⟨s.toks+1,by rw[aJ,hlen]⟩,q⟩
theorem aE7:n6 X (.builtin "len") (λxs H Q=>∃z,xs=[.str z]/\z.length<=sizeLine/\Q (.int z.length) H):=by
 intro pins s σ H xs us Q I r h;obtain⟨z,rfl,hz,q⟩:=h;obtain⟨u,rfl,t,rfl⟩:=vals1 r;have hn:=S1;exact len_str (by omega) ⟨.int z.length,H,I.tok _,⟨_,rfl⟩,q⟩
theorem aE6:n6 X (.type "list") (λxs H Q=>∃p ys,xs=[.ref p]/\(gA X.K H p ys\/iW X.K H p ys)/\∀l,H l=none->Q (.ref l) (upd H l (.lst ys))):=by
 intro pins s σ H xs us Q I r h;obtain⟨p,ys,rfl,hq,q⟩:=h;obtain⟨u,rfl,rx⟩:=vals1 r;cases rx;have fin:∀(ba:List Value),Vals ys ba->ys.length<=sizeLine->∀(h':Heap) (c':Nat),(∀b o',s.heap.get? b=some o'->h'.get? b=some o') ->
   h'.get? s.heap.objs.size=some { cls:=.type "list",dict:=none,data:=.seq ba.toArray c',slots:=#[] }->EP X pins σ Q (.ref s.heap.objs.size) { s with heap:=h' }:=λba r' hz h' c' kp e =>
  ⟨.ref s.heap.objs.size,_,I.laid (t':=s.toks) kp (av _) (show p0 X.prog X.w _ h' _ (.lst ys) from⟨hz,ba,c',r',e⟩),rfl,q _ (I.cb.fresh (av _))⟩
 rcases hq with hq|hq
 ·obtain⟨ba,r',pl,hz⟩:=I.list hq;have hlen:=r'.length;obtain⟨o,ho,hc,n,hd⟩:=pl.isList;exact call_list_seq p (.inl rfl) ho hc hd (λh' c' kp e=>fin ba r' hz h' c' kp e) (by simp only[List.size_toArray]<;>omega)
 ·obtain⟨ba,r',pl,hz⟩:=I.tuple hq;have hlen:=r'.length;obtain⟨o,ho,hc,n,hd⟩:=pl;exact call_list_seq p (.inr rfl) ho hc hd (λh' c' kp e=>fin ba r' hz h' c' kp e) (by simp only[List.size_toArray]<;>omega)
theorem Ya:n6 X (.type "tuple") (λxs H Q=>∃p ys,xs=[.ref p]/\((gA X.K H p ys/\∀l,H l=none->Q (.ref l) (upd H l (.tup ys)))\/(iW X.K H p ys/\Q (.ref p) H))):=by
 intro pins s σ H xs us Q I r h;obtain⟨p,ys,rfl,h⟩:=h;obtain⟨u,rfl,rx⟩:=vals1 r;cases rx;rcases h with⟨hq,q⟩|⟨hq,q⟩
 ·obtain⟨ba,r',pl,hz⟩:=I.list hq;have hlen:=r'.length;refine call_tuple_list pl.isList (λh' kp=>?_) (by simp only[List.size_toArray]<;>omega);have I1:Inv X pins σ H { s with heap:=h' }:=I.kept (t':=s.toks) kp;have I2:Inv X pins σ (upd H h'.objs.size (.tup ys)) { s with heap:=h'.push { cls:=.type "tuple",data:=.seq ba.toArray } } :=
   I1.laid (t':=s.toks) (λb o e=>ag _ e) (av _) (show p0 X.prog X.w _ _ _ (.tup ys) from⟨hz,ba,r',M4.new _ _⟩)
  exact⟨.ref h'.objs.size,_,I2,rfl,q _ (I1.cb.fresh (av _))⟩
 ·obtain⟨ba,r',pl,hz⟩:=I.tuple hq;exact call_tuple_same pl ⟨.ref p,H,I,rfl,q⟩
def oq(K:PySem.W.Frag)(T:String)(x:V)(H:Hp):Prop:=match x with
 |.str _=>T="str"
 |.int _=>T="int"
 |.ref p=>(T="list"/\∃xs,gA K H p xs)\/(T="tuple"/\∃o,K.lookup p=some o/\o.cls=.type "tuple"/\o.dict=none) \/
   (T="dict"/\((∃kvs,H p=some (.dK kvs))\/∃kvs,H p=some (.dT kvs)))\/(T="set"/\∃S n,H p=some (.set S n))
 |_=>False
theorem Kr{T:String}{x:V}{v:Value}(I:Inv X pins σ H s)(r:RelV x v)(ty:oq X.K T x H) :
  s.TypeIs v T/\∀a,v=.ref a->∃ob,s.heap.get? a=some ob/\ob.dict=none:=by
 cases x with
 |str z =>
  obtain⟨t,rfl⟩:=r;cases (show T="str" from ty);exact⟨typeIs_str s z t,λ_ e=>nomatch e⟩
 |int i =>
  obtain⟨t,rfl⟩:=r;cases (show T="int" from ty);exact⟨ni s i t,λ_ e=>nomatch e⟩
 |ref p =>
  cases r;rcases ty with⟨rfl,xs,hq⟩|⟨rfl,o,hk,hc,hd⟩|⟨rfl,hk⟩|⟨rfl,S,n,hk⟩
  ·obtain⟨ba,_,pl,_⟩:=I.list hq;refine⟨pl.isList.typeIs,λa e=>?_⟩;cases e;obtain⟨o,n,e,c,hd,_⟩:=pl;exact⟨o,e,hd⟩
  ·refine⟨⟨o,I.iA p o hk,hc⟩,λa e=>?_⟩;cases e;exact⟨o,I.iA _ o hk,hd⟩
  ·have z:∃o,s.heap.get? p=some o/\o.ExactDict:=by
    rcases hk with⟨kvs,hk⟩|⟨kvs,hk⟩
    ·obtain⟨_,_,_,_,o,_,_,e,ex,_⟩:=I.cb p _ hk;exact⟨o,e,ex⟩
    ·obtain⟨_,_,_,_,o,_,_,e,ex,_⟩:=I.cb p _ hk;exact⟨o,e,ex⟩
   obtain⟨o,e,ex⟩:=z;refine⟨⟨o,e,ex.1⟩,λa e2=>?_⟩;cases e2;exact⟨o,e,ex.2.1⟩
  ·obtain⟨o,_,_,_,e,ex,_⟩:=I.cb p _ hk;refine⟨⟨o,e,ex.1⟩,λa e2=>?_⟩;cases e2;exact⟨o,e,ex.2.1⟩
 |_=>exact False.elim ty
def Wb(K:PySem.W.Frag)(T:String)(r:V->List V->Hp->VK->Prop)(to:TE):TE:=λσ H Q=>to σ H λx H1=>oq K T x H1/\r x [] H1 Q
def MD(K:PySem.W.Frag)(T:String)(r:V->List V->Hp->VK->Prop)(to:TE)(t:TA):TE:=λσ H Q=>to σ H λx H1=>oq K T x H1/\t σ H1 λxs H2=>r x xs H2 Q
variable{o:Expr}{es:List Expr}{to:TE}{t:TA}{name:Str}{apos gz:Pos}{T id:String}{r:V->List V->Hp->VK->Prop}
theorem Ri(pa:PlainAttrs T)(slot:Slot T name id)(jW:typeOf (.builtin id)=pure (.type "method_descriptor"))(hm:oj X id r)(ho:PE X o to)(jG:attributeBase o name X.env (eval o X.env)=eval o X.env:=by rfl)(jE:(apos.endLine==gz.line)=true:=by rfl):PE X (.Call (.Attribute o name apos) [] [] gz) (Wb X.K T r to):=by
 intro pins s σ H Q I h;refine wpAny_Call_method0_late jG jE (cW (ho pins s σ H _ I h) λv s1 bC=>?_);obtain⟨x,H1,I1,r1,ty,q1⟩:=bC;obtain⟨h1,h2⟩:=Kr I1 r1 ty;exact⟨T,id,pa,slot,jW,h1,h2,Calls.callWith_builtin rfl (PySem.evalArgs_none (hm pins s1 σ H1 x [] v [] Q I1 r1 .nil q1))⟩
theorem Xt(pa:PlainAttrs T)(slot:Slot T name id)(jW:typeOf (.builtin id)=pure (.type "method_descriptor"))(hm:oj X id r)(ho:PE X o to)(ha:PA X (e::es) t)(jG:attributeBase o name X.env (eval o X.env)=eval o X.env:=by rfl)(rL:((backTo gz (starEach (e :: es) X.env)).all (λx=>!x.1) && (backToKw gz (keywordEach [] X.env)).all (λx=>x.1.isSome)
   && decide ((e :: es).length + ([]:List Keyword).length + (if ([]:List Keyword).isEmpty then 0 else 1) < 30))=true:=by rfl)(jE:(apos.endLine==gz.line)=true:=by rfl)(hs:starEach (e::es) X.env=(false,eval e X.env)::starEach es X.env:=by rfl)(hV:(backTo gz (starEach es X.env)).any (·.1)=false:=by rfl) :
  PE X (.Call (.Attribute o name apos) (e::es) [] gz) (MD X.K T r to t):=by
 intro pins s σ H Q I h;refine wpAny_Call_method_late jG rL jE rfl (cW (ho pins s σ H _ I h) λv s1 bC=>?_);obtain⟨x,H1,I1,r1,ty,q1⟩:=bC;obtain⟨h1,h2⟩:=Kr I1 r1 ty;refine⟨T,id,pa,slot,jW,h1,h2,?_⟩;have hA:=ha gz pins s1 σ H1 _ I1 q1;rw[hs] at hA ⊢;refine Calls.callWith_builtin (by show(false||(backTo gz (starEach es X.env)).any (·.1))=false;rw[hV]<;>rfl) (Calls.evalArgs_plain ?_);exact cW hA λus s2 ⟨vs,H2,I2,r2,q2⟩=>hm pins s2 σ H2 x vs v us Q I2 r1 r2 q2
end
def LY(X:Cx)(id:String)(r:V->List V->Hp->VK->Prop):Prop :=
 ∀(pins:List (Addr×Obj)) (s:Shared) (σ:St) (H:Hp) (x:V) (xs:List V) (v:Value) (us:List Value) (Q:VK),Inv X pins σ H s->RelV x v->Vals xs us->r x xs H Q ->
  wpAny (model X.prog X.w) X.A (call (.builtin id) (v::us)) (EP X pins σ Q) X.xe s
theorem Vals.one{x:V}{us:List Value}(h:Vals [x] us):∃u,us=[u]/\RelV x u:=by
 cases h with
 |cons r h =>
  cases h;exact⟨_,rfl,r⟩
theorem Vals.zero:∀{us:List Value},Vals [] us->us=[]
 |_,.nil=>rfl
theorem Vals.eraseIdx:∀{xs:List V} {us:List Value} (i:Nat),Vals xs us->Vals (xs.eraseIdx i) (us.eraseIdx i)
 |_,_,_,.nil=>.nil
 |_,_,0,.cons _ t=>t
 |_,_,i+1,.cons r t=>.cons r (Vals.eraseIdx i t)
theorem Vals.reverse{xs:List V}{us:List Value}(h:Vals xs us):Vals xs.reverse us.reverse:=by
 induction h with
 |nil=>exact .nil
 |cons r t ih=>rw[ij,ij];exact Vals.append ih (.cons r .nil)
theorem Vals.rep{xs:List V}{us:List Value}(h:Vals xs us):∀k:Nat,Vals (List.replicate k xs).flatten (List.replicate k us).flatten
 |0=>.nil
 |k+1=>by
  rw[cv,cv,dz,dz];exact Vals.append h (Vals.rep h k)
theorem Jb{α:Type}:∀(l:List α) (i:Nat),(l.eraseIdx i).length<=l.length
 |[],_=>av _
 |_::_,0=>cy _
 |_::r,i+1=>Nat.succ_le_succ (Jb r i)
theorem foldl_rep(ba:List Value):∀(k:Nat) (acc:List Value),
  List.foldl (λx1 x2=>x1++x2) acc.toArray (List.replicate k ba.toArray)=(acc++(List.replicate k ba).flatten).toArray
 |0,acc=>by simp
 |k+1,acc=>by
  have e:acc.toArray++ba.toArray=(acc++ba).toArray:=by simp
  have e2:(acc++ba)++(List.replicate k ba).flatten=acc++(List.replicate (k+1) ba).flatten:=by
   rw[cv,dz,bH]
  rw[<- e2,<- foldl_rep ba k (acc++ba),<- e,cv,nr]
section
variable{l:Addr}{xs ys:List V}
theorem Inv.qv{its':List Value}{f:Array Value->Array Value}{t':Nat}(I:Inv X pins σ H s)(hH:H l=some (.lst xs))(e:s.heap.get? l=some { cls:=.type "list",data:=.seq ba.toArray n })(hf:f ba.toArray=its'.toArray)(hv:Vals ys its')(hz:ys.length<=sizeLine) :
  Inv X pins σ (upd H l (.lst ys)) { s with heap:=s.heap.update l (Obj.mapSeq f),toks:=t' }:=by
 have q:=PySem.IsL.update e f;rw[hf] at q;refine I.write (x:=l) (e:=l) (by rw[hH];exact trivial) (.inl rfl) (λb' u hb hu=>(eK s.heap (Obj.mapSeq f) (cc hb)).trans hu) ⟨_,q⟩ ?_;exact⟨hz,its',_,hv,q⟩
theorem Inv.HQ{t':Nat}(I:Inv X pins σ H s)(hv:Vals ys ba)(hz:ys.length<=sizeLine) :
  Inv X pins σ (upd H s.heap.objs.size (.lst ys)) { s with heap:=s.heap.push { cls:=.type "list",data:=.seq ba.toArray },toks:=t' } :=
 I.laid (λ_ _ q=>ag _ q) (av _) ⟨hz,ba,0,hv,aD _ rfl⟩
theorem Inv.fresh(I:Inv X pins σ H s):H s.heap.objs.size=none:=I.cb.fresh (av _)
theorem Inv.xc(I:Inv X pins σ H s)(hH:H l=some (.lst xs)):xs.length<=sizeLine/\∃(ba:List Value) (n:Nat),Vals xs ba/\xs.length=ba.length/\s.heap.get? l=some { cls:=.type "list",data:=.seq ba.toArray n }:=by
 obtain⟨z,ba,n,r,e⟩:=I.cb l _ hH;exact⟨z,ba,n,r,r.length,e⟩
theorem a55(h:n<=sizeLine):Builtin.List.listTooLong n=false:=by
 unfold Builtin.List.listTooLong;exact aK (by omega)
end
def Ui:V->List V->Hp->VK->Prop:=λx vs H Q=>∃l xs y,x=.ref l/\vs=[y]/\H l=some (.lst xs)/\xs.length<sizeLine/\Q .cj (upd H l (.lst (xs++[y])))
theorem Zf:LY X "list.append" Ui:=by
 intro pins s σ H x vs v us Q I rx rv h;obtain⟨l,xs,y,rfl,rfl,hH,hz,q⟩:=h;cases rx;obtain⟨u,rfl,ru⟩:=rv.one;obtain⟨z,ba,n,r,hl,e⟩:=I.xc hH;refine ke F.slot_list_append ⟨_,e,rfl⟩ F.entry_list_append (F.args_list_append_2 _ _) (PySem.list_append l ba.toArray n u (by rw[aJ];omega)) ⟨e,?_⟩;refine⟨.cj,_,I.qv (its':=ba++[u]) hH e (by simp) (r.append (.cons ru .nil)) ?_,rfl,q⟩;rw[bj,jv];omega
def RH:V->List V->Hp->VK->Prop:=λx vs H Q=>∃l xs i k y,x=.ref l/\vs=[.int i]/\H l=some (.lst xs)/\-(2 ^ 63)<=i/\i<2 ^ 63/\seqIndex? i xs.length=some k/\xs[k]?=some y/\Q y (upd H l (.lst (xs.eraseIdx k)))
theorem a58:LY X "list.pop" RH:=by
 intro pins s σ H x vs v us Q I rx rv h;obtain⟨l,xs,i,k,y,rfl,rfl,hH,h1,h2,hk,hy,q⟩:=h;cases rx;obtain⟨u,rfl,ru⟩:=rv.one;obtain⟨t,rfl⟩:=ru;obtain⟨z,ba,n,r,hl,e⟩:=I.xc hH;obtain⟨w,hw,gC⟩:=r.get hy;refine ke F.slot_list_pop ⟨_,e,rfl⟩ F.entry_list_pop (F.args_list_pop_2 _ _)
  (MeetsSeq.list_pop_at l ba.toArray n i t k w (fitsIndex_both h1 h2) (by rw[aJ,<- hl];exact hk) (by rw[<- eG];exact hw) (by rw[aJ];omega)) ⟨e,?_⟩
 refine⟨y,_,I.qv (its':=ba.eraseIdx k) hH e ?_ (r.eraseIdx k) ?_,gC,q⟩
 ·show ba.toArray.eraseIdxIfInBounds k=(ba.eraseIdx k).toArray;rw[List.eraseIdxIfInBounds_toArray]
 ·have:=Jb xs k;omega
def VI:R2:=λx y H Q=>∃l b xs zs,x=.ref l/\y=.ref b/\H l=some (.lst xs)/\H b=some (.lst zs)/\xs.length+zs.length<=sizeLine/\∀p,H p=none->Q (.ref p) (upd H p (.lst (xs++zs)))
theorem QV:gn X (binaryOp .Add) VI:=by
 intro pins s σ H x y v u Q I rx ry h;obtain⟨l,b,xs,zs,rfl,rfl,hH,hB,hz,q⟩:=h;cases rx;cases ry;obtain⟨z,ba,n,r,hl,e⟩:=I.xc hH;obtain⟨z2,nH,n2,r2,nP,e2⟩:=I.xc hB;refine PySem.P.add_list e e2 ?_ (by rw[aJ,aJ];omega);have ea:ba.toArray++nH.toArray=(ba++nH).toArray:=by simp
 rw[ea];exact⟨.ref _,_,I.HQ (t':=s.toks) (r.append r2) (by rw[bj];omega),rfl,q _ I.fresh⟩
def VN:R2:=λx y H Q=>∃l k xs,x=.ref l/\y=.int k/\H l=some (.lst xs)/\-(2 ^ 63)<=k/\k<2 ^ 63/\xs.length*k.toNat<=sizeLine /\
 ∀p,H p=none->Q (.ref p) (upd H p (.lst (List.replicate k.toNat xs).flatten))
theorem len_rep(xs:List α)(k:Nat):(List.replicate k xs).flatten.length=k*xs.length:=by
 induction k with
 |zero=>simp
 |succ k ih=>rw[cv,dz,bj,ih,Nat.succ_mul,Nat.add_comm]
theorem Ra:gn X (binaryOp .Mult) VN:=by
 intro pins s σ H x y v u Q I rx ry h;obtain⟨l,k,xs,rfl,rfl,hH,h1,h2,hz,q⟩:=h;cases rx;obtain⟨t,rfl⟩:=ry;obtain⟨z,ba,n,r,hl,e⟩:=I.xc hH;have hlen:ba.toArray.size*k.toNat<=sizeLine:=by rw[aJ,<- hl];exact hz
 have Bo:¬ba.toArray.size*k.toNat>(2 ^ 63-1) / 8:=by
  have:(sizeLine:Nat)<=(2 ^ 63-1) / 8:=by decide
  omega
 have Bl:¬(!Builtin.List.listFitsIndex k)=true:=by
  rw[fitsIndex_both h1 h2];exact ft
 have vG:¬Builtin.List.listTooLong (ba.toArray.size*k.toNat)=true:=by
  rw[a55 hlen];exact ft
 have mF:List.foldl (λx1 x2=>x1++x2) #[] (List.replicate (if ba.toArray.isEmpty=true then 0 else k.toNat) ba.toArray)=(List.replicate k.toNat ba).flatten.toArray:=by
  have f0:∀m:Nat,List.foldl (λx1 x2=>x1++x2) #[] (List.replicate m ba.toArray)=(List.replicate m ba).flatten.toArray:=λm=>by
   have:=foldl_rep ba m [];rw[nk] at this;exact this
  rw[f0];cases ba with
  |nil=>simp
  |cons a r'=>rw[if_neg (by simp)]
 refine Fg (T:="list") (U:="int") (by decide) ⟨_,e,rfl⟩ (λs'=>ni s' k t) noFill_list_mul F.fills_int_mul kz repeat_list F.slot_int_index.lookup
  (ke kz (ni s k t) F.entry_int_rmul (F.args_int_rmul_2 _ _) (int___rmul___int_list k t l ba.toArray n)
   ⟨e,rfl,⟨_,e,rfl⟩,ke F.slot_list_mul ⟨_,e,rfl⟩ F.entry_list_mul (F.args_list_mul_2 _ _) (AutoListH.list___mul___list_int_3 l ba.toArray n k t Bl Bo vG) ⟨e,?_⟩⟩)
 rw[mF];exact⟨.ref _,_,I.HQ (t':=s.toks) (r.rep k.toNat) (by rw[len_rep,lr];exact hz),rfl,q _ I.fresh⟩
section
variable{κ:Type}[DecidableEq κ]
def L1(kvs:List (κ×V))(k:κ):Option V:=(kvs.find? λkv=>decide (kv.1=k)).map (·.2)
def putK(kvs:List (κ×V))(k:κ)(v:V):List (κ×V) :=
 if(kvs.any λkv=>decide (kv.1=k))=true then kvs.map (λkv=>if kv.1=k then(kv.1,v) else kv) else kvs++[(k,v)]
theorem Dk{p:κ×V}{r:List (κ×V)}{k:κ}(e:p.1=k):L1 (p::r) k=some p.2:=by simp[L1,List.find?_cons,e]
theorem Dj{p:κ×V}{r:List (κ×V)}{k:κ}(e:¬p.1=k):L1 (p::r) k=L1 r k:=by simp[L1,List.find?_cons,e]
theorem IL(k:κ):∀kvs:List (κ×V),(kvs.any λkv=>decide (kv.1=k))=(L1 kvs k).isSome
 |[]=>rfl
 |p::r=>by
  rw[fV];by_cases e:p.1=k
  ·simp only[Dk e,decide_eq_true e,Bool.true_or,Option.isSome_some]
  ·rw[Dj e,aK e,qL];exact IL k r
theorem V9(kvs:List (κ×V))(k:κ)(v:V):(putK kvs k v).length<=kvs.length+1:=by
 unfold putK;split
 ·rw[aj];omega
 ·rw[bj,dI,List.length_nil];omega
theorem F0.O9{u:Option Value}(r:F0 o u):o.isSome=u.isSome:=by
 cases o with
 |none=>cases u with
  |none=>rfl
  |some _=>exact(show False from r).elim
 |some _=>cases u with
  |none=>exact(show False from r).elim
  |some _=>rfl
theorem F0.getD{o:Option V}{u:Option Value}{d:V}{d':Value}(r:F0 o u)(rd:RelV d d'):RelV (o.getD d) (u.getD d'):=by
 cases o with
 |none=>cases u with
  |none=>exact rd
  |some _=>exact(show False from r).elim
 |some _=>cases u with
  |none=>exact(show False from r).elim
  |some _=>exact r
theorem KV.val{kvs:List (κ×V)}{vs:List (κ×Value)}(r:KV kvs vs)(k:κ):F0 (L1 kvs k) (valueAt vs k):=by
 unfold KV at r
 induction r with
 |nil=>exact True.intro
 |@cons p q ps qs h t ih =>
  obtain⟨h1,h2⟩:=h;by_cases e:p.1=k
  ·have e':q.1=k:=h1.symm.trans e;have b:valueAt (q::qs) k=some q.2:=by simp[valueAt,List.find?_cons,e']
   rw[Dk e,b];exact h2
  ·have e':¬q.1=k:=λz=>e (h1.trans z);have b:valueAt (q::qs) k=valueAt qs k:=by simp[valueAt,List.find?_cons,e']
   rw[Dj e,b];exact ih
theorem KV.any{kvs:List (κ×V)}{vs:List (κ×Value)}(r:KV kvs vs)(k:κ):(kvs.any λkv=>decide (kv.1=k))=vs.any λkv=>decide (kv.1=k):=by
 unfold KV at r
 induction r with
 |nil=>rfl
 |cons h t ih=>rw[fV,fV,ih,h.1]
theorem KV.ES{kvs:List (κ×V)}{vs:List (κ×Value)}(r:KV kvs vs)(k:κ)(ry:RelV y u) :
  KV (kvs.map λkv=>if kv.1=k then(kv.1,y) else kv) (vs.map λkv=>if kv.1=k then(kv.1,u) else kv):=by
 unfold KV at r ⊢
 induction r with
 |nil=>exact .nil
 |@cons p q ps qs h t ih =>
  rw[bu,bu];refine .cons ?_ ih;obtain⟨h1,h2⟩:=h;by_cases e:p.1=k
  ·rw[aI e,aI (h1.symm.trans e)];exact⟨h1,ry⟩
  ·rw[aC e,aC (λz=>e (h1.trans z))];exact⟨h1,h2⟩
theorem KV.put{kvs:List (κ×V)}{vs:List (κ×Value)}(r:KV kvs vs)(k:κ)(ry:RelV y u):KV (putK kvs k y) (stored vs k u):=by
 unfold putK stored;rw[r.any k];by_cases e:(vs.any λkv=>decide (kv.1=k))=true
 ·rw[aI e,aI e];exact r.ES k ry
 ·rw[aC e,aC e];exact Paired.snoc r ⟨rfl,ry⟩
theorem KV.keys{kvs:List (κ×V)}{vs:List (κ×Value)}(r:KV kvs vs):kvs.map (·.1)=vs.map (·.1):=by
 unfold KV at r
 induction r with
 |nil=>rfl
 |cons h t ih=>rw[bu,bu,ih,h.1]
theorem KV.length{kvs:List (κ×V)}{vs:List (κ×Value)}(r:KV kvs vs):kvs.length=vs.length:=mS r
end
theorem sR{k:Key}(r:RelV (kV k) u):(n9 P w).is k u=true:=by
 cases k with
 |inl i=>obtain⟨t,e⟩:=(show ∃t,u=Value.int i t from r);subst e;exact V2 P w i t
 |inr x=>obtain⟨t,e⟩:=(show ∃t,u=Value.str x t from r);subst e;exact aG5 P w x t
theorem Ja{P:Program}{w:World}:∀{ks:List Key} {us:List Value},Vals (ks.map kV) us->ItemsAre (n9 P w) ks us
 |[],_,r=>by rw[uC] at r;cases r;exact .nil
 |k::ks,_,r=>by
  rw[bu] at r;cases r with
  |cons h t=>exact .cons (sR h) (Ja t)
noncomputable abbrev KT(H:Hp):List (List Key×V)->List (List Key×Addr×Value)->Prop:=Paired λp q=>p.1=q.1/\H q.2.1=some (.tup (p.1.map kV))/\RelV p.2 q.2.2
theorem KT.val{xs:List (List Key×Addr×Value)}(r:KT H kvs xs)(k:List Key):F0 (L1 kvs k) ((atKey xs k).map (·.2)):=by
 induction r with
 |nil=>exact True.intro
 |@cons p q ps qs h t ih =>
  obtain⟨h1,_,h2⟩:=h;by_cases e:p.1=k
  ·have e':q.1=k:=h1.symm.trans e;have b:atKey (q::qs) k=some q.2:=by simp[atKey,List.find?_cons,e']
   rw[Dk e,b];exact h2
  ·have e':¬q.1=k:=λz=>e (h1.trans z);have b:atKey (q::qs) k=atKey qs k:=by simp[atKey,List.find?_cons,e']
   rw[Dj e,b];exact ih
theorem KT.ES{xs:List (List Key×Addr×Value)}(r:KT H kvs xs)(k:List Key)(ry:RelV y u) :
  KT H (kvs.map λkv=>if kv.1=k then(kv.1,y) else kv) (xs.map (putAt k u)):=by
 induction r with
 |nil=>exact .nil
 |@cons p q ps qs h t ih =>
  rw[bu,bu];refine .cons ?_ ih;obtain⟨h1,h2,h3⟩:=h;unfold putAt;by_cases e:p.1=k
  ·rw[aI e,aI (h1.symm.trans e)];exact⟨h1,h2,ry⟩
  ·rw[aC e,aC (λz=>e (h1.trans z))];exact⟨h1,h2,h3⟩
theorem KT.put{xs:List (List Key×Addr×Value)}(r:KT H kvs xs)(k:List Key){b:Addr}(hb:H b=some (.tup (k.map kV)))(ry:RelV y u) :
  KT H (putK kvs k y) (storedH xs k b u):=by
 have e:(kvs.any λkv=>decide (kv.1=k))=(atKey xs k).isSome:=by
  rw[IL,(r.val k).O9,fC]
 unfold putK storedH;rw[e];by_cases q:(atKey xs k).isSome=true
 ·rw[aI q,aI q];exact r.ES k ry
 ·rw[aC q,aC q];exact Paired.snoc r ⟨rfl,hb,ry⟩
theorem KT.keeps{xs:List (List Key×Addr×Value)}(r:KT H kvs xs)(ht:∀b ys,H b=some (.tup ys)->H' b=some (.tup ys)):KT H' kvs xs :=
 Paired.HS r λ_ _ z=>⟨z.1,ht _ _ z.2.1,z.2.2⟩
section
variable{h:Heap}
theorem IE{u:HO}(ok:gU P w H h)(e:Rd H a u):p0 P w H h a u:=e.ok ok
theorem U7{kvs:List (Key×V)}(ok:gU P w H h)(e:Rd H a (.dK kvs)):kvs.length<=sizeLine/\(a==sysModules)=false/\∃vs,KV kvs vs/\h.DictOf (n9 P w) a vs :=
 show p0 P w H h a (.dK kvs) from IE ok e
theorem DS{kvs:List (Key×V)}(ok:gU P w H h)(e:H a=some (.dK kvs)):kvs.length<=sizeLine/\(a==sysModules)=false/\∃vs,KV kvs vs/\h.DictOf (n9 P w) a vs:=U7 ok (.inl e)
theorem Y3{ks:List Key}(ok:gU P w H h)(e:H a=some (.tup (ks.map kV))):(tupleKind (n9 P w)).is h ks a:=by
 obtain⟨_,ba,r,o,h1,h2,⟨n,h3⟩,_⟩:=(show p0 P w H h a (.tup (ks.map kV)) from ok a _ e)
 exact⟨o,ba.toArray,n,h1,h2,h3,by simpa using Ja r⟩
theorem uo(ok:gU P w H h)(e:Rd H a (.dT kvs)):kvs.length<=sizeLine/\(a==sysModules)=false /\
  ∃xs,KT H kvs xs/\h.DictOfH (tupleKind (n9 P w)) a xs:=by
 obtain⟨z,y,xs,r,o,es,ep,h1,h2,h3,h4,h5⟩:=(show p0 P w H h a (.dT kvs) from IE ok e)
 refine⟨z,y,xs,r,o,es,ep,h1,h2,h3,h4,λx hx=>?_,h5⟩;have all:∀{l:List (List Key×V)} {m:List (List Key×Addr×Value)},KT H l m->∀x∈m,(tupleKind (n9 P w)).is h x.1 x.2.1:=by
  intro l m q
  induction q with
  |nil=>intro x hx;exact nomatch hx
  |@cons p q ps qs hq t ih =>
   intro x hx;rcases aH.mp hx with e|hx
   ·subst e;exact Y3 ok (by rw[<- hq.1];exact hq.2.1)
   ·exact ih x hx
 exact all r x hx
theorem WK(ok:gU P w H h)(e:H a=some (.dT kvs)):kvs.length<=sizeLine/\(a==sysModules)=false /\
  ∃xs,KT H kvs xs/\h.DictOfH (tupleKind (n9 P w)) a xs:=uo ok (.inl e)
end
def P2(H:Hp)(a:Addr)(y:V)(r:Option V):Prop :=
 (∃kvs k,Rd H a (.dK kvs)/\y=kV k/\r=L1 kvs k)\/∃kvs k b,Rd H a (.dT kvs)/\y=.ref b/\H b=some (.tup (k.map kV))/\r=L1 kvs k
def zG(H:Hp)(a:Addr)(y v:V)(H':Hp):Prop :=
 (∃kvs k,H a=some (.dK kvs)/\y=kV k/\kvs.length<sizeLine/\H'=upd H a (.dK (putK kvs k v))) \/
 ∃kvs k b,H a=some (.dT kvs)/\y=.ref b/\H b=some (.tup (k.map kV))/\kvs.length<sizeLine/\H'=upd H a (.dT (putK kvs k v))
theorem P2.k{H:Hp}{a:Addr}{kvs:List (Key×V)}{k:Key}(e:H a=some (.dK kvs)):P2 H a (kV k) (L1 kvs k):=.inl ⟨kvs,k,.inl e,rfl,rfl⟩
theorem zG.k{H:Hp}{a:Addr}{kvs:List (Key×V)}{k:Key}{v:V}(e:H a=some (.dK kvs))(hl:kvs.length<sizeLine):zG H a (kV k) v (upd H a (.dK (putK kvs k v))):=.inl ⟨kvs,k,e,rfl,hl,rfl⟩
section
variable{v:V}{r:Value}
theorem Inv.big(I:Inv X pins σ H s):sysModules<s.heap.objs.size:=by
 have h:mainGlobals<s.heap.objs.size:=(I.mod.glob.keeps I.bk).lt;exact cL (by decide) h
theorem YQ(hu:A.units+1<cLine)(I:Inv X pins σ H s)(g:P2 H a y (some v))(ry:RelV y u)(h:∀w' s',Inv X pins σ H s'->RelV v w'->Q w' s') :
  wpAny (model X.prog X.w) A (getItem (.ref a) u) Q E s:=by
 rcases g with⟨kvs,k,e,ey,l⟩|⟨kvs,k,b,e,ey,eb,l⟩
 ·subst ey;obtain⟨z,hd,vs,rel,dd⟩:=U7 I.cb e;obtain⟨w',hw,gC⟩:=F0.some_of (v:=v) (o:=valueAt vs k) (by rw[l];exact rel.val k);exact wpAny_getItem_of (sR ry) dd.mapOf hw (h w' _ (I.tok _) gC)
 ·subst ey;cases (show u=Value.ref b from ry);obtain⟨z,hd,xs,rel,dd⟩:=uo I.cb e;obtain⟨w',hw,gC⟩:=F0.some_of (v:=v) (o:=(atKey xs k).map (·.2)) (by rw[l];exact rel.val k);obtain⟨p,hp,rF⟩:=ae.mp hw;refine wpAny_getItem_heap (fM hu) (Y3 I.cb eb) dd hp ?_;rw[rF];exact h w' _ (I.tok _) gC
theorem Vi(hu:A.units+1<cLine)(I:Inv X pins σ H s)(g:P2 H a y o)(ry:RelV y u)(h:∀s',Inv X pins σ H s'->Q (.bool o.isSome) s') :
  wpAny (model X.prog X.w) A (compareOp .In u (.ref a)) Q E s:=by
 rcases g with⟨kvs,k,e,ey,l⟩|⟨kvs,k,b,e,ey,eb,l⟩
 ·subst ey;obtain⟨z,hd,vs,rel,dd⟩:=U7 I.cb e;refine wpAny_in_of (sR ry) hd dd.mapOf ?_;rw[<- (rel.val k).O9,<- l];exact h _ (I.tok _)
 ·subst ey;cases (show u=Value.ref b from ry);obtain⟨z,hd,xs,rel,dd⟩:=uo I.cb e;refine wpAny_in_heap (fM hu) (Y3 I.cb eb) hd dd ?_;have q:=(rel.val k).O9;rw[fC] at q;rw[<- q,<- l];exact h _ (I.tok _)
theorem SX(hu:A.units+1<cLine)(I:Inv X pins σ H s)(g:P2 H a y o)(ry:RelV y u)(h:∀s',Inv X pins σ H s'->Q (.bool (!o.isSome)) s') :
  wpAny (model X.prog X.w) A (compareOp .NotIn u (.ref a)) Q E s:=by
 rcases g with⟨kvs,k,e,ey,l⟩|⟨kvs,k,b,e,ey,eb,l⟩
 ·subst ey;obtain⟨z,hd,vs,rel,dd⟩:=U7 I.cb e;refine wpAny_notIn_of (sR ry) hd dd.mapOf ?_;rw[<- (rel.val k).O9,<- l];exact h _ (I.tok _)
 ·subst ey;cases (show u=Value.ref b from ry);obtain⟨z,hd,xs,rel,dd⟩:=uo I.cb e;refine wpAny_notIn_heap (fM hu) (Y3 I.cb eb) hd dd ?_;have q:=(rel.val k).O9;rw[fC] at q;rw[<- q,<- l];exact h _ (I.tok _)
theorem CJ{h':Heap}{t':Nat}{ob:HO}(I:Inv X pins σ H s)(mu:xk (H a))(hs:Heap.SameBut a s.heap h')(he:∃q,h'.get? a=some q)(new:p0 X.prog X.w (upd H a ob) h' a ob) :
  Inv X pins σ (upd H a ob) { s with heap:=h',toks:=t' } :=
 I.write (x:=a) (e:=a) mu (.inl rfl) (λb q hb z=>(hs.2 b hb).trans z) he new
theorem yW{h':Heap}{kvs:List (Key×V)}{vs:List (Key×Value)}(z:kvs.length<=sizeLine)(hd:(a==sysModules)=false)(rel:KV kvs vs)(dd:h'.DictOf (n9 P w) a vs) :
  p0 P w H' h' a (.dK kvs):=⟨z,hd,vs,rel,dd⟩
theorem YR{Q:Unit->Shared->Prop}(hu:A.units+1<cLine)(I:Inv X pins σ H s)(g:zG H a y v H')(ry:RelV y u)(rv:RelV v r)(h:∀s',Inv X pins σ H' s'->Q () s') :
  wpAny (model X.prog X.w) A (setItem (.ref a) u r) Q E s:=by
 rcases g with⟨kvs,k,e,ey,l,eH⟩|⟨kvs,k,b,e,ey,eb,l,eH⟩
 ·subst ey eH;obtain⟨z,hd,vs,rel,dd⟩:=DS I.cb e;have hz:vs.length<=sizeLine:=by rw[<- rel.length];exact z
  have hl:(putK kvs k v).length<=sizeLine:=by have:=V9 kvs k v;omega
  refine wpAny_setItem_pairs (hsz:=hz) (sR ry) dd λh' pB hs=>h _ ?_;have he:∃q,h'.get? a=some q:=let ⟨q,_,_,hq,_⟩:=pB;⟨q,hq⟩
  exact CJ I (by rw[e];exact True.intro) hs he (yW hl hd (rel.put k rv) pB)
 ·subst ey eH;cases (show u=Value.ref b from ry);obtain⟨z,hd,xs,rel,dd⟩:=WK I.cb e;have hz:xs.length<=sizeLine:=by rw[<- mS rel];exact z
  have hl:(putK kvs k v).length<=sizeLine:=by have:=V9 kvs k v;omega
  refine wpAny_setItem_heap (hsz:=hz) (fM hu) (Y3 I.cb eb) dd λh' pB hs=>h _ ?_;obtain⟨q,es,ep,hq,h2,h3,h4,_,h5⟩:=pB;refine CJ I (by rw[e];exact True.intro) hs ⟨q,hq⟩ ⟨hl,hd,_,(rel.put k eb rv).keeps λc ys ec=>?_,q,es,ep,hq,h2,h3,h4,h5⟩;rw[i6 (Xh ec e (λz=>nomatch z))];exact ec
end
section
variable{kvs:List (Key×V)}
theorem WI(I:Inv X pins σ H s)(e:Rd H a (.dK kvs))(h:∀t s',Inv X pins σ H s'->Q (.int kvs.length t) s'):wpAny (model X.prog X.w) A (call (.builtin "len") [.ref a]) Q E s:=by
 obtain⟨z,hd,vs,rel,dd⟩:=U7 I.cb e;refine call_len_dict hd dd (by rw[<- rel.length];rw[jh] at z;omega) ?_;rw[<- rel.length];exact h _ _ (I.tok _)
end
theorem aG9(I:Inv X pins σ H s)(g:P2 H a y o):s.TypeIs (.ref a) "dict":=by
 rcases g with⟨kvs,k,e,_,_⟩|⟨kvs,k,b,e,_,_,_⟩
 ·obtain⟨_,_,vs,_,dd⟩:=U7 I.cb e;exact dd.typeIs
 ·obtain⟨_,_,xs,_,dd⟩:=uo I.cb e;exact dd.typeIs
theorem Ll(h:Heap)(hb:sysModules<h.objs.size):p0 P w H (h.push { cls:=.type "dict",data:=.dict #[] }) h.objs.size (.dK []) :=
 ⟨cF _,cO.mpr (cc (aE hb)),[],.nil,Heap.DictOf.new h⟩
def Su:TE:=λ_ H Q=>∀p,H p=none->Q (.ref p) (upd H p (.dK []))
theorem a49:PE X (.Dict [] [] pos) Su:=λpins s σ H Q I h =>
 wpAny_Dict_empty ⟨.ref s.heap.objs.size,_,I.laid (a:=s.heap.objs.size) (o:=.dK []) (t':=s.toks) (λ_ _ q=>ag _ q) (av _) (Ll s.heap I.big),rfl,h _ (I.cb.fresh (av _))⟩
def ze:List (TE×TE)->St->Hp->(List (V×V)->Hp->Prop)->Prop
 |[],_,H,Q=>Q [] H
 |(tk,tv)::r,σ,H,Q=>tk σ H λx H1=>tv σ H1 λy H2=>ze r σ H2 λps H3=>Q ((x,y)::ps) H3
noncomputable abbrev VV:List (V×V)->List (Value×Value)->Prop:=Paired λp q=>RelV p.1 q.1/\RelV p.2 q.2
def xi(X:Cx)(pos:Pos)(keys:List (Option Expr))(values:List Expr)(iT:List (TE×TE)):Prop :=
 ∀(pins:List (Addr×Obj)) (s:Shared) (σ:St) (H:Hp) (Q:List (V×V)->Hp->Prop),Inv X pins σ H s->ze iT σ H Q ->
  wpAny (model X.prog X.w) X.A (evalPairs (pairTrees keys values X.env pos)) (λvs s'=>∃ps H',Inv X pins σ H' s'/\VV ps vs/\Q ps H') X.xe s
theorem TY:xi X pos [] [] []:=λpins s σ H Q I h=>pairTrees_nil_walk ⟨[],H,I,.nil,h⟩
theorem a41{k v:Expr}{ks:List (Option Expr)}{vs:List Expr}{tk tv:TE}{iT:List (TE×TE)}(hk:PE X k tk)(hv:PE X v tv)(hr:xi X pos ks vs iT) :
  xi X pos (some k::ks) (v::vs) ((tk,tv)::iT):=λpins s σ H Q I h =>
 pairTrees_cons_walk (cW (hk pins s σ H _ I h) λu s1 ⟨x,H1,I1,rx,q1⟩=>cW (hv pins s1 σ H1 _ I1 q1) λw2 s2 ⟨y,H2,I2,ry,q2⟩ =>
  cW (hr pins s2 σ H2 _ I2 q2) λws s3 ⟨ps,H3,I3,rel,q3⟩=>⟨(x,y) :: ps,H3,I3,.cons ⟨rx,ry⟩ rel,q3⟩)
def R8(kvs more:List (Key×V)):List (Key×V):=more.foldl (λacc kv=>putK acc kv.1 kv.2) kvs
theorem KV.merge:∀{more:List (Key×V)} {rs:List (Key×Value)} {kvs:List (Key×V)} {vs:List (Key×Value)},KV more rs->KV kvs vs->KV (R8 kvs more) (merged vs rs):=by
 intro more rs kvs vs r;unfold KV at r
 induction r generalizing kvs vs with
 |nil=>intro q;exact q
 |@cons p q ps qs h t ih =>
  intro r0;have e:KV (putK kvs p.1 p.2) (stored vs q.1 q.2):=by
   have:=r0.put p.1 h.2;rw[<- h.1];exact this
  exact ih e
theorem JX:∀(more kvs:List (Key×V)),(R8 kvs more).length<=kvs.length+more.length
 |[],kvs=>by show kvs.length<=kvs.length+0;omega
 |p::r,kvs=>by
  have h1:=JX r (putK kvs p.1 p.2);have h2:=V9 kvs p.1 p.2;show(R8 (putK kvs p.1 p.2) r).length<=_;rw[dI];omega
theorem Jr{P:Program}{w:World}:∀{kvs:List (Key×V)} {ws:List (Value×Value)},VV (kvs.map λkv=>(kV kv.1,kv.2)) ws->∃rs,Carries (n9 P w) ws rs/\KV kvs rs
 |[],_,r=>by rw[uC] at r;cases r;exact⟨[],True.intro,.nil⟩
 |p::kvs,_,r=>by
  rw[bu] at r;cases r with
  |@cons a b as bs h t =>
   obtain⟨rs,c,q⟩:=Jr (P:=P) (w:=w) t;obtain⟨b1,b2⟩:=b;exact⟨(p.1,b2)::rs,⟨sR h.1,rfl,c⟩,.cons ⟨rfl,h.2⟩ q⟩
def XW(iT:List (TE×TE)):TE:=λσ H Q=>∀p,H p=none->ze iT σ (upd H p (.dK [])) λps H2=>H2 p=some (.dK [])/\∃kvs:List (Key×V),ps=kvs.map (λkv=>(kV kv.1,kv.2))/\kvs.length<=15/\Q (.ref p) (upd H2 p (.dK (R8 [] kvs)))
theorem TN{keys:List (Option Expr)}{values:List Expr}{iT:List (TE×TE)}(h:xi X pos keys values iT)(kr:keys.all (·.isSome)=true)(hl:keys.length=values.length)(h0:keys≠[])(qh:keys.length<=15):PE X (.Dict keys values pos) (XW iT):=by
 intro pins s σ H Q I q;have hn:=I.cb.fresh (av s.heap.objs.size);have I1:=I.laid (a:=s.heap.objs.size) (o:=.dK []) (h':=s.heap.push { cls:=.type "dict",data:=.dict #[] }) (t':=s.toks) (λ_ _ q=>ag _ q) (av _) (Ll s.heap I.big);refine wpAny_Dict_walk (knd:=n9 X.prog X.w) kr hl h0 qh (cW (h pins _ σ _ _ I1 (q _ hn)) λws s2 bC=>?_);obtain⟨ps,H2,I2,rel,e,kvs,ep,lk,q2⟩:=bC;subst ep;obtain⟨rs,c,rk⟩:=Jr (P:=X.prog) (w:=X.w) rel;obtain⟨z,hd,vs0,r0,dd⟩:=DS I2.cb e;cases r0;refine⟨rs,c,dd,λh' pB hs=>⟨.ref s.heap.objs.size,_,?_,rfl,q2⟩⟩;have hz:(R8 [] kvs).length<=sizeLine:=by
  have h1:=JX kvs [];rw[List.length_nil] at h1;rw[jh];omega
 have he:∃q,h'.get? s.heap.objs.size=some q:=let ⟨q,_,_,hq,_⟩:=pB;⟨q,hq⟩
 exact CJ I2 (by rw[e];exact True.intro) hs he (yW hz hd (rk.merge .nil) pB)
section
variable{d:V}{r:Value}
theorem Qn(hu:A.units+1<cLine)(I:Inv X pins σ H s)(g:P2 H a y o)(ry:RelV y u)(rd:RelV d r)(h:∀w' s',Inv X pins σ H s'->RelV (o.getD d) w'->Q w' s') :
  wpAny (model X.prog X.w) A (call (.builtin "dict.get") [.ref a,u,r]) Q E s:=by
 rcases g with⟨kvs,k,e,ey,l⟩|⟨kvs,k,b,e,ey,eb,l⟩
 ·subst ey;obtain⟨z,hd,vs,rel,dd⟩:=U7 I.cb e;refine call_meetsIn jq dd.typeIs uz (sY _ _ _) (meets_dict_get_default (n9 X.prog X.w) a (sR ry) hd r) ⟨_,dd.mapOf,h _ _ (I.tok _) ?_⟩;rw[l];exact(rel.val k).getD rd
 ·subst ey;cases (show u=Value.ref b from ry);obtain⟨z,hd,xs,rel,dd⟩:=uo I.cb e;refine call_meetsIn jq dd.typeIs uz (sY _ _ _) (meetsH_dict_get_default (tupleKind (n9 X.prog X.w)) a b hd r) ⟨fM hu,k,xs,Y3 I.cb eb,dd,h _ _ (I.tok _) ?_⟩;rw[l];exact(rel.val k).getD rd
end
section
variable{kvs:List (Key×V)}
theorem a76(I:Inv X pins σ H s)(e:Rd H a (.dK kvs))(h:∀p s',H p=none->Inv X pins σ (upd H p (.dK kvs)) s'->Q (.ref p) s'):wpAny (model X.prog X.w) A (call (.type "dict") [.ref a]) Q E s:=by
 obtain⟨z,hd,vs,rel,dd⟩:=U7 I.cb e;refine kt_call_dict hd dd (by rw[<- rel.length];exact z) λh' pB hs=>?_;refine h _ _ (I.cb.fresh (av _)) (I.laid (a:=s.heap.objs.size) (o:=.dK kvs) (t':=s.toks) (λb q hq=>?_) (av _) (yW z (cO.mpr (cc (aE I.big))) rel pB));exact(hs.2 b (aE (ax hq))).trans (ag _ hq)
end
end L2
namespace Me
open PySem PySem.W PySem.Calls PyProof.Rows
theorem Yw{P:Params}{h:Heap}:∀(ns:List Int) (vs:List Value),WellAll P h vs (ns.map WData.int)->IntsAre vs ns:=by
 intro ns
 induction ns with
 |nil =>
  intro vs w;rw[uC] at w;cases w;exact .nil
 |cons n ns ih =>
  intro vs w;rw[bu] at w;cases w with
  |cons a b =>
   cases a;exact .cons _ _ (ih _ b)
theorem Zy{l:OpenLaw}{n:Nat}(hn:l.most=some n){P:Params}{h:Heap}{args:List WData}{vals:List Value}(oT:l.row.toRowW.claim.pre args=true)(AN:WellAll P h vals args) :
  ∃a vs ns,vals=[Value.ref a]/\args=[WData.list (ns.map WData.int)]/\h.get? a=some { cls:=.type "list",data:=.seq vs.toArray }/\IntsAre vs ns/\ns.length<=n:=by
 have ko:WShape.hasAll [] args [.list .int]=true:=(pre_splitW oT).1;have hc:l.pre.holds [] { args:=args }=true:=(pre_splitW oT).2;obtain⟨d,r,rfl,h1,h2⟩:=hasAllW_cons ko;obtain rfl:=hasAllW_nil h2;obtain⟨xs,rfl,h3⟩:=hasW_list h1;obtain⟨ns,rfl⟩:=items_int h3;have hlen:ns.length<=n:=by
  unfold OpenLaw.pre at hc;have h4:(WTm.not (.lt (.lit (.int (n:Int))) (.len (.arg 0)))).holds [] { args:=[.list (ns.map .int)] }=true:=by
   have h4:=(holds_andW hc).1;rw[hn] at h4;exact h4
  have h5:=condW_of h4 (w_not (w_lt w_lit (w_len_list (w_arg rfl))));rw[aj] at h5;refine Nat.le_of_not_lt λq=>?_;have q':(n:Int)<((ns.length:Nat):Int):=by omega
  first
   |(rw[az q'] at h5;exact absurd h5 (by decide))
   |(simp at h5;omega)
 cases AN with
 |cons w1 w2 =>
  cases w2;cases w1 with
  |list ho kr=>exact⟨_,_,ns,rfl,rfl,ho,Yw ns _ kr,hlen⟩
theorem Zu(l:OpenLaw)(args:List WData):l.row.toRowW.claim.post args (.bool true) args=true :=
 postW_of (r:=l.row.toRowW) (X:=(true==true))
  (show WShape.has [] (.bool true) .bool=true by first|rfl|decide|simp[WShape.has,WShape.arms,WShape.armsAll])
  (show(WTm.eq .res (.lit (.bool true))).value [] { args:=args,res:=some (.bool true),after:=args }=some (.bool (true==true)) from w_eq_bool (w_res rfl) w_lit) rfl
theorem aH3{l:OpenLaw}{n:Nat}{q:Program}{loose:List Str}{XP:(Str->Option Value)->Heap->Prop}{YP:World->Heap->Prop}{d:DefRec}(hn:l.most=some n)(vO:d.params.defaults=[])(call:∀ (w:World) (dD bS:Shared) (mg mb:Str->Option Value) (fa:Addr) (o:Obj) (pm cd doc:Value) (a:Addr) (vs:List Value) (ns:List Int),
   Ground q loose [] XP w dD mg mb bS.heap->YP w bS.heap ->
   bS.heap.get? fa=some o->o.data=.func (docDef d.name d.params d.body d.scope pm cd doc)->bS.heap.CodeRec cd d.name->mg d.name=some (.ref fa) ->
   bS.heap.get? a=some { cls:=.type "list",data:=.seq vs.toArray }->IntsAre vs ns->ns.length<=n->bS.gens=#[] ->
   codeAny (model l.prog w) callerA (.call (.ref fa) ⟨[.ref a],[]⟩) (λr s'=>r=.ok (.ret (.bool true))/\OldK bS.heap s'.heap/\s'.os=bS.os/\AllBare s'.gens) bS) :
  WalkO q loose XP YP l.row.toRowW d [] (λf vs=>PySem.call f vs):=by
 intro w dD bS mg mb G Y fa o pm cd doc dV kV ho hd mG hD hmg hg args vals as oT NP hrd AN qb;obtain rfl:dV=.none:=Dflts.none hD vO;obtain rfl:kV=.none:=Dflts.noKw hD;obtain⟨a,vs,ns,rfl,rfl,jD,hints,hlen⟩:=Zy hn oT AN;refine enter_call (ir (call w dD bS mg mb fa o pm cd doc a vs ns G Y ho (fd_plain hd) mG hmg jD hints hlen hg) λr s' hq=>?_);obtain⟨rfl,h2,h3,h4⟩:=hq;exact⟨.inl ⟨.bool true,.bool true,[],rfl,λ_=>rfl,.bool true,Zu l _,λ_=>⟨List.Pairwise.nil,λ_ hm=>(nomatch hm)⟩⟩,h2,h3,h4⟩
end Me
namespace L2
open PySem PySem.Spec PyProof.Rows
variable{x:Str}
theorem Jj:∀{vs:List Value} {ns:List Int},IntsAre vs ns->Vals (ns.map V.int) vs
 |_,_,.nil=>.nil
 |_,_,.cons n t h=>.cons ⟨t,rfl⟩ (Jj h)
def zH(H:Hp):Prop:=∀b,H b=none\/∃o xs,H b=some (.ku o (.lst xs))
theorem a62{P:Program}{w:World}{K:PySem.W.Frag}{mg mb:Str->Option Value}{CX:om}{k:Nat}{fa a:Addr}{fd:FuncData}{sp:Sp}{bS:Shared}{vs:List Value}{ns:List Int}(KX:K.In bS.heap)(rH:bS.heap.Ns mainGlobals mg)(hb:bS.heap.Ns builtinsNs mb)(Bp:∀x:Str,x≠"__name__"->mb x=bootBuiltins x)(Bf:bS.heap.NoLimit)(hg:bS.gens=#[])(ha:bS.heap.get? a=some { cls:=.type "list",data:=.seq vs.toArray })(hi:IntsAre vs ns)(hl:ns.length<=sizeLine)(hr:x5 k callerA)(F:∀base:Heap,K.In base->base.Ns mainGlobals mg->iQ P w K mg base CX k fa fd [x] sp)(vR:∀(s:Shared) (u:Value),BindsTo s fd ⟨[u],[]⟩ [(x,u)])(tI:∀H:Hp,zH H->gA K H a (ns.map V.int)->sp [.ref a] H (λv _=>v=.bl true) λ_ _ _=>False)(Bz:∀H e s',CX [] H bS (λ_ _ _=>False) e s'->False) :
  codeAny (model P w) callerA (.call (.ref fa) ⟨[.ref a],[]⟩) (λr s'=>r=.ok (.ret (.bool true))/\OldK bS.heap s'.heap/\s'.os=bS.os/\AllBare s'.gens) bS:=by
 have rv:=Jj hi;have AE:=hi.length;have core:∀H:Hp,zH H->gA K H a (ns.map V.int)->gU P w H bS.heap->(∀b,H b≠none->b=a)->(H a≠none->K.lookup a=none) ->
   codeAny (model P w) callerA (.call (.ref fa) ⟨[.ref a],[]⟩) (λr s'=>r=.ok (.ret (.bool true))/\OldK bS.heap s'.heap/\s'.os=bS.os/\AllBare s'.gens) bS:=by
  intro H hO hS cb hA hK;have Q7:∀{b:Addr} {o:Obj},bS.heap.get? b=some o->H b=none->(pH bS.heap H).get? b=some o:=λe n=>a70 e n;have vd:∀{b:Addr} {o:Obj} {es:Array DictEntry} {ep:Nat},bS.heap.get? b=some o->o.data=.dict es ep->H b=none:=λ{b o es ep} e d=>by
   cases q:H b with
   |none=>rfl
   |some u =>
    have e':b=a:=hA b (by rw[q];simp);subst e';rw[ha] at e;cases e;have d':Data.seq vs.toArray _=Data.dict es ep:=d;cases d'
  have xM:∀{b:Addr} {m:Str->Option Value},bS.heap.Ns b m->(pH bS.heap H).Ns b m:=λ{b m} ⟨o,es,ep,e,d,r⟩=>⟨o,es,ep,Q7 e (vd e d),d,r⟩
  have Hb:K.In (pH bS.heap H):=λb o e=>Q7 (KX b o e) (by
   cases q:H b with
   |none=>rfl
   |some u =>
    have e':b=a:=hA b (by rw[q];simp);subst e';rw [hK (by rw [q];simp)] at e;cases e)
  have hM:Mod K mg (pH bS.heap H):=⟨Hb,xM rH,⟨mb,xM hb,Bp⟩,let ⟨mc,h1,h2⟩:=Bf;⟨mc,xM h1,h2⟩⟩
  have e0:sJ P w K mg (pH bS.heap H) callerA [] bS H:=⟨rfl,hM,λb o e=>Ts e,fE (YW _ _),trivial,λb hb=>absurd (show b∈([]:List Addr) from hb) (by simp),cb,.of_eq hg⟩
  refine ir ((F _ Hb (xM rH)).run callerA [] bS H ⟨[.ref a],[]⟩ [.ref a] [.ref a] _ _ hr e0 (vR bS (.ref a)) (.cons rfl .nil) (tI H hO hS)) λr s' h=>?_;cases r with
  |error e=>exact(Bz H e s' h).elim
  |ok fl =>
   cases fl with
   |next=>exact False.elim h
   |brk=>exact False.elim h
   |cont=>exact False.elim h
   |ret u =>
    obtain⟨v,H',os,bare,un,AS,r',q⟩:=h;have q':v=.bl true:=q;subst q';obtain rfl:u=Value.bool true:=r';refine⟨rfl,OldK.of_keep λb o e=>?_,os,bare⟩;cases q:H b with
    |none=>exact un.keep b o e q (by intro z;exact absurd (show b∈([]:List Addr) from z) (by simp)) (by simp)
    |some u =>
     rcases hO b with z|⟨ob,xs,z⟩
     ·rw[q] at z;cases z
     ·have z2:=un.je b ob _ z;obtain⟨e1,_⟩:=cb b _ z;obtain⟨e2,_⟩:=AS b _ z2;rw[e] at e1;cases e1;exact e2
 cases hk:K.lookup a with
 |some o =>
  have e:=KX a o hk;rw[ha] at e;cases e;refine core (λ_=>none) (λ_=>.inl rfl) (.inr ⟨_,vs.toArray,_,hk,rfl,rfl,rfl,by rw[aJ,AE];exact hl,by simpa using rv⟩) (λb u z=>by have z':(none:Option HO)=some u:=z;cases z') (λb z=>absurd rfl z) λz=>absurd rfl z
 |none =>
  refine core (λb=>if b=a then some (.ku { cls:=.type "list",data:=.seq vs.toArray } (.lst (ns.map V.int))) else none) (λb=>?_) (.inl (.inr ⟨{ cls:=.type "list",data:=.seq vs.toArray },aI rfl⟩)) (λb u z=>?_) (λb z=>?_) λ_=>hk
  ·by_cases hb:b=a
   ·exact .inr ⟨_,_,aI hb⟩
   ·exact .inl (aC hb)
  ·by_cases hb:b=a
   ·have z':=(aI hb).symm.trans z;cases z';subst hb;exact⟨ha,by rw[aj];exact hl,vs,_,rv,ha⟩
   ·have z':=(aC hb).symm.trans z;cases z'
  ·by_cases hb:b=a
   ·exact hb
   ·exact absurd (aC hb) z
theorem UO{l:PySem.W.OpenLaw}{n k:Nat}{q:Program}{loose:List Str}{XP:(Str->Option Value)->Heap->Prop}{YP:World->Heap->Prop}{d:DefRec}{K:Params->PySem.W.Frag}{CX:World->om}{sp:World->Sp}(hn:l.most=some n)(mZ:n<=sizeLine)(vO:d.params.defaults=[])(hr:x5 k callerA)(hY:∀(w:World) (h:Heap),YP w h->(K w.params).In h)(F:∀ (w:World) (mg:Str->Option Value) (fa:Addr) (h:Heap),(K w.params).In h->h.Ns mainGlobals mg->mg d.name=some (.ref fa) ->
   ∃fd:FuncData,(∀(s:Shared) (u:Value),BindsTo s fd ⟨[u],[]⟩ [(x,u)]) /\
    ∀ base:Heap,(K w.params).In base->base.Ns mainGlobals mg->iQ l.prog w (K w.params) mg base (CX w) k fa fd [x] (sp w))(tI:∀(w:World) (H:Hp) (a:Addr) (ns:List Int),ns.length<=n->zH H->gA (K w.params) H a (ns.map V.int)->sp w [.ref a] H (λv _=>v=.bl true) λ_ _ _=>False)(Bz:∀(w:World) (H:Hp) (s:Shared) (e:Value) (s':Shared),CX w [] H s (λ_ _ _=>False) e s'->False) :
  PySem.W.WalkO q loose XP YP l.row.toRowW d [] (λf vs=>PySem.call f vs):=by
 refine Me.aH3 hn vO λw dD bS mg mb fa o pm cd doc a vs ns G Y ho hd mG hmg jD hints hlen hg=>?_;have KX:=hY w _ Y;obtain⟨fd,hb,hF⟩:=F w mg fa _ KX G.T.g hmg;exact a62 KX G.T.g G.T.b G.T.builtins G.T.nolimit hg jD hints (aF hlen mZ) hr hF hb (λH hO hS=>tI w H a ns hlen hO hS) λH e s'=>Bz w H bS e s'
def B4(s:Stmt):Arguments:=match s with
 |.FunctionDef _ a _ _ _ _ _ _ _ _=>a
 |_=>{ posonlyargs:=[],args:=[],vararg:=none,kwonlyargs:=[],kw_defaults:=[],kwarg:=none,defaults:=[] }
def t8(s:Stmt):List Stmt:=match s with
 |.FunctionDef _ _ b _ _ _ _ _ _ _=>b
 |_=>[]
def s9(s:Stmt):Scope:=match s with
 |.FunctionDef _ _ _ _ _ _ sc _ _ _=>sc
 |_=>{ kind:=.function,names:=[],isGenerator:=false,isCoroutine:=false }
structure qE(K:PySem.W.Frag)(x qual:Str)(st:Stmt)(f:Addr)(fd:FuncData):Prop where
 ex:∃(oc:Value) (od:Option Addr) (kV doc pm:Value) (an:Option Addr) (gf ct:Value) (mX:Array (Option Value)),
  fd=PySem.W.fnOf x qual (B4 st) (t8 st) (s9 st) .none kV doc pm an gf ct/\K.lookup f=some ⟨oc,od,.func fd,mX⟩/\PySem.W.codeIn K gf qual=true
 kp:PySem.W.keepIn K (.ref f)=true
section
variable{K:PySem.W.Frag}
theorem qE.binds{qual:Str}{st:Stmt}{f:Addr}{fd:FuncData}{ps:List Str}(F:qE K x qual st f fd)(h:∀(kV doc pm:Value) (an:Option Addr) (gf ct:Value) (us:List Value),us.length=ps.length->bindArgs (PySem.W.fnOf x qual (B4 st) (t8 st) (s9 st) .none kV doc pm an gf ct) ⟨us,[]⟩=pure (ps.zip us)):Binds K fd ps []:=by
 obtain⟨oc,od,kV,doc,pm,an,gf,ct,mX,rfl,lk,mG⟩:=F.ex;exact .all (h kV doc pm an gf ct)
theorem Kc{qual:Str}{st:Stmt}{f:Addr}{oc:Value}{od an:Option Addr}{mX:Array (Option Value)}{kV doc pm gf ct:Value}(l:K.lookup f=some ⟨oc,od,.func (PySem.W.fnOf x qual (B4 st) (t8 st) (s9 st) .none kV doc pm an gf ct),mX⟩)(c:PySem.W.codeIn K gf qual=true)(k:PySem.W.keepIn K (.ref f)=true):qE K x qual st f (PySem.W.fnOf x qual (B4 st) (t8 st) (s9 st) .none kV doc pm an gf ct):=⟨⟨oc,od,kV,doc,pm,an,gf,ct,mX,rfl,l,c⟩,k⟩
end
section
variable{X:Cx}
theorem YI:n6 X (.builtin "len") (λxs H Q=>∃a kvs,xs=[V.ref a]/\H a=some (.dK kvs)/\Q (.int kvs.length) H):=by
 intro pins s σ H xs us Q I r h;obtain⟨a,kvs,rfl,ha,q⟩:=h;obtain⟨u,rfl,ru⟩:=vals1 r;cases ru;exact WI I (.inl ha) λt s' I'=>⟨.int kvs.length,H,I',⟨t,rfl⟩,q⟩
end
end L2
namespace TS
open PySem PyProof.Rows
def BS:Bool->Keyed->Array Keyed->Nat->Nat->Nat->StateT SortSt Sem (Option Nat):=sortPriv% PySem.Builtin.gallop
def Ga:Array Keyed->Array Keyed->StateT SortSt Sem (Array Keyed):=sortPriv% PySem.Builtin.mergeLo
def Gb:Array Keyed->Array Keyed->StateT SortSt Sem (Array Keyed):=sortPriv% PySem.Builtin.mergeHi
noncomputable abbrev kn(p:Keyed):Int:=numOf p.1
def IK(p:Keyed):Prop:=∃n t,p.1=.int n t
section
variable{prog:Program}{w:World}{A:Around}{E:Value->Shared->Prop}{s:Shared}
theorem yL{st:SortSt}{x y:Keyed}{Q:Option Bool->SortSt->Prop}(hk:kindOf st=oneType')(hx:IK x)(hy:IK y)(h:Q (some (decide (kn x<kn y))) st) :
  wpS (model prog w) A E s (lt' x y) Q st:=by
 obtain⟨a,t,ha⟩:=hx;obtain⟨b,u,hb⟩:=hy;rw[lt'_eq];refine aB (mP ?_);rw[hk,keyLt'_oneType,ha,hb];refine aB (pM (mQ (oneLt_int ⟨rfl,?_⟩)));have:kn x=a/\kn y=b:=by unfold kn;rw[ha,hb];exact⟨rfl,rfl⟩
 rw[this.1,this.2] at h;exact aG h
theorem z9{st:SortSt}{xs:Array Keyed}{i:Nat}{p:Keyed}{Q:Keyed->SortSt->Prop}(h1:xs[i]?=some p)(h:Q p st):wpS (model prog w) A E s (elem' xs i) Q st:=by
 rw[elem'_eq,h1];exact aG h
theorem i0{M:Model}{σ α:Type}{c:Prop}[Decidable c]{x y:StateT σ Sem α}{Q:α->σ->Prop}{st:σ}(h1:c->wpS M A E s x Q st)(h2:¬c->wpS M A E s y Q st):wpS M A E s (if c then x else y) Q st:=by
 by_cases h:c
 ·rw[aI h];exact h1 h
 ·rw[aC h];exact h2 h
def fO(left:Bool)(key p:Keyed):Bool:=if left then decide (kn p<kn key) else !decide (kn key<kn p)
theorem yU{st:SortSt}{left:Bool}{key p:Keyed}{arr:Array Keyed}{i:Nat}{Q:Option Bool->SortSt->Prop}(hk:kindOf st=oneType')(gw:IK key)(hp:arr[i]?=some p)(hi:IK p)(h:Q (some (fO left key p)) st) :
  wpS (model prog w) A E s (elem' arr i >>= λx=>if left=true then lt' x key else lt' key x >>= λr=>pure (r.map λb=>!b)) Q st:=by
 refine aB (z9 hp ?_);cases left
 ·exact aB (yL hk gw hi (aG h))
 ·exact yL hk hi gw h
theorem Qr{st:SortSt}{left:Bool}{key:Keyed}{arr:Array Keyed}{base n hint:Nat}{f:Nat->Keyed}{Q:Option Nat->SortSt->Prop}(hk:kindOf st=oneType')(gw:IK key)(hf:∀i,i<n->arr[base+i]?=some (f i)/\IK (f i))(hm:∀i j,i<=j->j<n->fO left key (f j)=true->fO left key (f i)=true)(hh:hint<n)(h:∀k,k<=n->(∀i,i<k->fO left key (f i)=true)->(∀i,k<=i->i<n->fO left key (f i)=false)->Q (some k) st):wpS (model prog w) A E s (BS left key arr base n hint) Q st:=by
 have oz:∀i j,i<=j->j<n->fO left key (f i)=false->fO left key (f j)=false:=λi j a b c=>by
  cases e:fO left key (f j) with
  |false=>rfl
  |true=>rw[hm i j a b e] at c;exact absurd c (by decide)
 unfold BS;refine aB ?_;refine yU hk gw (hf hint hh).1 (hf hint hh).2 ?_;have last:∀lo hi:Nat,lo<=hi->hi<=n->(∀i,i<lo->fO left key (f i)=true)->(∀i,hi<=i->i<n->fO left key (f i)=false)->∀(F:Nat->Option (Option Nat)×Nat×Nat->StateT SortSt Sem (ForInStep (Option (Option Nat)×Nat×Nat))),
   (F=λ_ c=>if c.2.1 >= c.2.2 then pure (.done (none,c.2.1,c.2.2)) else (elem' arr (base + (c.2.1 + (c.2.2 - c.2.1) / 2)) >>= λx=>if left=true then lt' x key else lt' key x >>= λr=>pure (r.map λb=>!b)) >>= λr=>match r with
    |some more=>if more=true then pure (.yield (none,c.2.1+(c.2.2-c.2.1) / 2+1,c.2.2)) else pure (.yield (none,c.2.1,c.2.1+(c.2.2-c.2.1) / 2))
    | x=>pure (.done (some none,c.2.1,c.2.2))) ->
   wpS (model prog w) A E s (forIn [0:n] (none,lo,hi) F) (λc aX=>aX=st/\c.1=none/\Q (some c.2.2) st) st:=by
  intro lo hi h1 h2 h3 h4 F e;subst e;refine dE (I:=λx c aX=>aX=st/\c.1=none/\c.2.1<=c.2.2/\c.2.2<=n/\c.2.2-c.2.1<=n-x/\(∀i,i<c.2.1->fO left key (f i)=true)/\(∀i,c.2.2<=i->i<n->fO left key (f i)=false)) ?_ ?_ ⟨rfl,rfl,h1,h2,by show hi-lo<=_;omega,h3,h4⟩
  ·rintro x ⟨c1,l,r⟩ aX _ hx ⟨rfl,rfl,q1,q2,q3,q4,q5⟩;dsimp only at q1 q2 q3 q4 q5 ⊢;by_cases jN:l>=r
   ·rw[aI jN];have:l=r:=by omega
    subst this;exact aG ⟨rfl,rfl,h l q2 q4 q5⟩
   ·rw[aC jN];have oy:l+(r-l) / 2<n:=by omega
    refine aB (yU hk gw (hf _ oy).1 (hf _ oy).2 ?_);cases e:fO left key (f (l+(r-l) / 2)) with
    |true=>exact aG ⟨rfl,rfl,by dsimp only;omega,q2,by dsimp only;omega,λi hi=>hm i _ (Nat.le_of_lt_succ hi) oy e,q5⟩
    |false=>exact aG ⟨rfl,rfl,by dsimp only;omega,by dsimp only;omega,by dsimp only;omega,q4,λi hi hn=>oz _ i hi hn e⟩
  ·rintro⟨c1,l,r⟩ aX ⟨rfl,rfl,q1,q2,q3,q4,q5⟩;dsimp only at q1 q2 q3 q4 q5;have:l=r:=by omega
   subst this;exact⟨rfl,rfl,h l q2 q4 q5⟩
 cases e0:fO left key (f hint) with
 |true =>
  refine aB (wpS_mono (dE (I:=λx (c:Option (Option Nat) × Nat × Nat) aX=>aX=st/\c.1=none/\c.2.1 < c.2.2/\hint + c.2.1 < n/\x < c.2.2/\fO left key (f (hint + c.2.1))=true)
   (Q:=λc aX=>aX=st/\c.1=none/\c.2.1 < c.2.2/\hint + c.2.1 < n/\fO left key (f (hint + c.2.1))=true/\(c.2.2 >= n - hint \/ fO left key (f (hint + c.2.2))=false)) ?_ ?_ ⟨rfl,rfl,by decide,hh,by decide,e0⟩) ?_)
  ·rintro x ⟨c1,l,r⟩ aX _ hx ⟨rfl,rfl,q1,q2,q3,q4⟩;dsimp only at q1 q2 q3 q4 ⊢;by_cases jN:r>=n-hint
   ·rw[aI jN];exact aG ⟨rfl,rfl,q1,q2,q4,.inl jN⟩
   ·rw[aC jN];have oy:hint+r<n:=by omega
    refine aB (yU hk gw (hf _ oy).1 (hf _ oy).2 ?_);cases e:fO left key (f (hint+r)) with
    |true=>exact aG ⟨rfl,rfl,by show r<2*r+1;omega,oy,by show x+1<2*r+1;omega,e⟩
    |false=>exact aG ⟨rfl,rfl,q1,q2,q4,.inr e⟩
  ·rintro⟨c1,l,r⟩ aX ⟨rfl,rfl,q1,q2,q3,q4⟩;dsimp only at q1 q2 q3 q4;exact⟨rfl,rfl,q1,q2,q4,.inl (by show r>=_;omega)⟩
  ·rintro⟨c1,l,r⟩ aX ⟨rfl,rfl,q1,q2,q3,q4⟩;dsimp only at q1 q2 q3 q4 ⊢;refine aB (wpS_mono (last (hint+l+1) (hint+min r (n-hint)) (by omega) (by omega) (λi hi=>hm i _ (Nat.le_of_lt_succ hi) q2 q3) ?_ _ rfl) ?_)
   ·intro i h1 h2;rcases q4 with q4|q4
    ·omega
    ·exact oz (hint+r) i (by omega) h2 q4
   ·rintro⟨c1,l,r⟩ aX ⟨rfl,rfl,q⟩;exact aG q
 |false =>
  refine aB (wpS_mono (dE (I:=λx (c:Option (Option Nat) × Nat × Nat) aX=>aX=st/\c.1=none/\c.2.1 < c.2.2/\c.2.1 <= hint/\x < c.2.2/\fO left key (f (hint - c.2.1))=false)
   (Q:=λc aX=>aX=st/\c.1=none/\c.2.1 < c.2.2/\c.2.1 <= hint/\fO left key (f (hint - c.2.1))=false/\(c.2.2 >= hint + 1 \/ fO left key (f (hint - c.2.2))=true)) ?_ ?_ ⟨rfl,rfl,by decide,cF _,by decide,e0⟩) ?_)
  ·rintro x ⟨c1,l,r⟩ aX _ hx ⟨rfl,rfl,q1,q2,q3,q4⟩;dsimp only at q1 q2 q3 q4 ⊢;by_cases jN:r>=hint+1
   ·rw[aI jN];exact aG ⟨rfl,rfl,q1,q2,q4,.inl jN⟩
   ·rw[aC jN];have oy:hint-r<n:=by omega
    refine aB (yU hk gw (hf _ oy).1 (hf _ oy).2 ?_);cases e:fO left key (f (hint-r)) with
    |true=>exact aG ⟨rfl,rfl,q1,q2,q4,.inr e⟩
    |false=>exact aG ⟨rfl,rfl,by show r<2*r+1;omega,by show r<=hint;omega,by show x+1<2*r+1;omega,e⟩
  ·rintro⟨c1,l,r⟩ aX ⟨rfl,rfl,q1,q2,q3,q4⟩;dsimp only at q1 q2 q3 q4;exact⟨rfl,rfl,q1,q2,q4,.inl (by show r>=_;omega)⟩
  ·rintro⟨c1,l,r⟩ aX ⟨rfl,rfl,q1,q2,q3,q4⟩;dsimp only at q1 q2 q3 q4 ⊢;refine aB (wpS_mono (last (hint+1-min r (hint+1)) (hint-l) (by omega) (by omega) ?_ (λi hi hn=>oz _ i hi hn q3) _ rfl) ?_)
   ·intro i h1;rcases q4 with q4|q4
    ·omega
    ·exact hm i (hint-r) (by omega) (by omega) q4
   ·rintro⟨c1,l,r⟩ aX ⟨rfl,rfl,q⟩;exact aG q
theorem a84{left:Bool}{key p q:Keyed}(h:kn p<=kn q)(hq:fO left key q=true):fO left key p=true:=by
 unfold fO at hq ⊢;cases left
 ·simp only[Bool.false_eq_true,if_false,Bool.not_eq_true',decide_eq_false_iff_not] at hq ⊢;omega
 ·simp only[if_true,decide_eq_true_eq] at hq ⊢;omega
theorem uf{st:SortSt}{left:Bool}{key:Keyed}{xs:Array Keyed}{base n hint:Nat}{Q:Option Nat->SortSt->Prop}(hk:kindOf st=oneType')(gw:IK key)(gX:∀p∈xs.toList,IK p)(hs:∀i j (hj:j<xs.size) (iB:i<=j),base<=i->j<base+n->kn xs[i]<=kn xs[j])(hn:base+n<=xs.size)(hh:hint<n)(h:∀k,k<=n->(∀p∈(xs.toList.drop base).take k,fO left key p=true)->(∀p∈(xs.toList.drop (base+k)).take (n-k),fO left key p=false)->Q (some k) st):wpS (model prog w) A E s (BS left key xs base n hint) Q st:=by
 refine Qr (f:=λt=>(xs[base+t]?).getD key) hk gw (λt ht=>?_) (λu v mD hv hq=>a84 ?_ hq) hh λk hk kq lg=>h k hk ?_ ?_
 ·rw[cB xs (base+t) (by omega)];exact⟨rfl,gX _ (by simp)⟩
 ·rw[cB xs (base+u) (by omega),cB xs (base+v) (by omega)];exact hs _ _ (by omega) (by omega) (by omega) (by omega)
 ·intro p hp;obtain⟨t,ht,rfl⟩:=bz.mp hp;simp only[List.length_take,List.length_drop,Array.length_toList] at ht;have:=kq t (by omega);rw[cB xs (base+t) (by omega)] at this;simpa using this
 ·intro p hp;obtain⟨t,ht,rfl⟩:=bz.mp hp;simp only[List.length_take,List.length_drop,Array.length_toList] at ht;have:=lg (k+t) (by omega) (by omega);rw[cB xs (base+(k+t)) (by omega)] at this;simpa[Nat.add_assoc] using this
end
section
variable{r:Keyed->Keyed->Prop}{all o x y u v:List Keyed}
structure MI(r:Keyed->Keyed->Prop)(all o x y:List Keyed):Prop where
 pm:(o++(x++y)).Perm all
 so:o.Pairwise r
 sx:x.Pairwise r
 sy:y.Pairwise r
 cr:∀p∈o,∀q,q∈x\/q∈y->r p q
 hl:∀q∈y,∀z,x.getLast?=some z->r q z
theorem MI.x1(h:MI r all o (u++v) y)(c:∀p∈u,∀q∈y,r p q)(ne:v≠[]):MI r all (o++u) v y:=by
 obtain⟨a1,a2,a3⟩:=aS.mp h.sx;refine⟨by have:=h.pm;simpa[List.append_assoc] using this,aS.mpr ⟨h.so,a1,λp hp q hq=>h.cr p hp q (.inl (bA _ hq))⟩,a2,h.sy,λp hp q hq=>?_,λq hq z hz=>h.hl q hq z ?_⟩
 ·rcases aU.mp hp with hp|hp
  ·exact h.cr p hp q (hq.imp (aN _) id)
  ·rcases hq with hq|hq
   ·exact a3 p hp q hq
   ·exact c p hp q hq
 ·rw[List.getLast?_append,hz];rfl
theorem MI.y1(h:MI r all o y (u++v))(c:∀p∈u,∀q∈y,r p q):MI r all (o++u) y v:=by
 obtain⟨a1,a2,a3⟩:=aS.mp h.sy;refine⟨?_,aS.mpr ⟨h.so,a1,λp hp q hq=>h.cr p hp q (.inr (bA _ hq))⟩,h.sx,a2,λp hp q hq=>?_,λq hq z hz=>h.hl q (aN _ hq) z hz⟩
 ·refine List.Perm.trans ?_ h.pm;rw[bH];refine eE _ ?_;rw[<- bH,<- bH];exact fI _ js
 ·rcases aU.mp hp with hp|hp
  ·exact h.cr p hp q (hq.imp id (aN _))
  ·rcases hq with hq|hq
   ·exact c p hp q hq
   ·exact a3 p hp q hq
def Fn(r:Keyed->Keyed->Prop)(all z:List Keyed):Prop:=z.Perm all/\z.Pairwise r
theorem MI.e1(h:MI r all o x []):Fn r all (o++x):=by
 refine⟨by have:=h.pm;simpa using this,aS.mpr ⟨h.so,h.sx,λp hp q hq=>h.cr p hp q (.inl hq)⟩⟩
theorem MI.e0(h:MI r all o x y)(c:∀p∈x,∀q∈y,r p q):Fn r all (o++(x++y)) :=
 ⟨h.pm,aS.mpr ⟨h.so,aS.mpr ⟨h.sx,h.sy,c⟩,λp hp q hq=>h.cr p hp q (aU.mp hq)⟩⟩
theorem MI.e2{z:Keyed}(h:MI r all o [z] y):Fn r all (o++(y++[z])):=by
 refine⟨List.Perm.trans (eE _ js) h.pm,aS.mpr ⟨h.so,aS.mpr ⟨h.sy,h.sx,λp hp q hq=>?_⟩,λp hp q hq=>?_⟩⟩
 ·rw[bf] at hq;subst hq;exact h.hl p hp q rfl
 ·exact h.cr p hp q ((aU.mp hq).symm)
theorem MI.len(h:MI r all o x y):o.length+x.length+y.length=all.length:=by
 have:=h.pm.length_eq;simp only[List.length_append] at this;omega
theorem MI.hx{p q:Keyed}(h:MI r all o (p::x) y)(tr:∀a b c,r a b->r b c->r a c)(c:r q p):∀z∈p::x,r q z:=by
 intro z hz;rcases aH.mp hz with rfl|hz
 ·exact c
 ·exact tr _ _ _ c ((fo.mp h.sx).1 z hz)
theorem MI.hy{p q:Keyed}(h:MI r all o y (p::x))(tr:∀a b c,r a b->r b c->r a c)(c:r q p):∀z∈p::x,r q z:=by
 intro z hz;rcases aH.mp hz with rfl|hz
 ·exact c
 ·exact tr _ _ _ c ((fo.mp h.sy).1 z hz)
def Sm(st aX:SortSt):Prop:=kindOf aX=kindOf st/\arrOf aX=arrOf st/\pendingOf aX=pendingOf st/\failedOf aX=failedOf st
theorem dc{xs:Array Keyed}{i:Nat}(h:i<xs.size):xs.toList.drop i=xs[i]::xs.toList.drop (i+1):=by
 rw[eX (by simpa using h)];simp
theorem ex(o':Array Keyed)(xs:Array Keyed)(i k:Nat):(o'++xs.extract i (i+k)).toList=o'.toList++(xs.toList.drop i).take k:=by
 rw[br,dB,List.extract_eq_drop_take,Nat.add_sub_cancel_left]
theorem dk(l:List Keyed)(i k:Nat):l.drop i=(l.drop i).take k++l.drop (i+k):=by
 rw[<- gN,bP]
theorem EH{k p:Keyed}(h:fO false k p=true):kn p<=kn k:=by
 unfold fO at h;simp only[Bool.false_eq_true,if_false,Bool.not_eq_true',decide_eq_false_iff_not] at h;omega
theorem yE{k p:Keyed}(h:fO false k p=false):kn k<kn p:=by
 unfold fO at h;simpa using h
theorem zI{k p:Keyed}(h:fO true k p=true):kn p<kn k:=by
 unfold fO at h;simpa using h
theorem DM{k p:Keyed}(h:fO true k p=false):kn k<=kn p:=by
 unfold fO at h;simp only[if_true,decide_eq_false_iff_not] at h;omega
theorem dt{xs:Array Keyed}{i n:Nat}(h:xs.size-i<=n):(xs.toList.drop i).take n=xs.toList.drop i:=df (by simp;omega)
end
section
variable{prog:Program}{w:World}{A:Around}{E:Value->Shared->Prop}{s:Shared}
def VW:Nat->StateT SortSt Sem Unit:=sortPriv% PySem.Builtin.setMinGallop
theorem Sm.trans{a b c:SortSt}(h:Sm a b)(q:Sm b c):Sm a c:=⟨q.1.trans h.1,q.2.1.trans h.2.1,q.2.2.1.trans h.2.2.1,q.2.2.2.trans h.2.2.2⟩
theorem yO{st:SortSt}{g:Nat}{Q:Unit->SortSt->Prop}(h:∀aX,Sm st aX->Q () aX):wpS (model prog w) A E s (VW g) Q st:=mO (h _ ⟨rfl,rfl,rfl,rfl⟩)
def fs{β σ:Type}(Q I:β->σ->Prop):ForInStep β->σ->Prop
 |.done c,st=>Q c st
 |.yield c,st=>I c st
theorem forR{M:Model}{σ β:Type}{a b:Nat}{f:Nat->β->StateT σ Sem (ForInStep β)}(I:Nat->β->σ->Prop){Q:β->σ->Prop}(hs:∀i c st,a<=i->i<b->I i c st->wpS M A E s (f i c) (fs Q (I (i+1))) st)(hd:∀c st,I (max a b) c st->Q c st){c:β}{st:σ}(h:I a c st):wpS M A E s (forIn [a:b] c f) Q st :=
 dE I (λi c st h1 h2 h3=>wpS_mono (hs i c st h1 h2 h3) λr aX hq=>by cases r<;>exact hq) hd h
noncomputable abbrev le(p q:Keyed):Prop:=kn p<=kn q
theorem yJ:∀a b c,le a b->le b c->le a c:=λ_ _ _=>fJ
theorem wX{xs:Array Keyed}(h:xs.toList.Pairwise le){u v:Nat}(hv:v<xs.size)(mD:u<=v):kn xs[u]<=kn xs[v]:=by
 by_cases e:u=v
 ·subst e;exact dR _
 ·have:=du.mp h u v (by simp;omega) (by simpa using hv) (by omega);simpa using this
section
variable{st aX:SortSt}{a b o:Array Keyed}{i j n k:Nat}{p q:Keyed}
structure LI(st:SortSt)(a b:Array Keyed)(n:Nat)(o:Array Keyed)(i j:Nat)(aX:SortSt):Prop where
 sm:Sm st aX
 mi:MI le (a.toList++b.toList) o.toList (a.toList.drop i) (b.toList.drop j)
 hi:i+1<a.size
 hj:j<b.size
 ho:n<o.size
theorem dq{xs:Array Keyed}{i:Nat}{p:Keyed}(h:xs[i]?=some p):xs.toList.drop i=p::xs.toList.drop (i+1):=by
 obtain⟨hi,rfl⟩:=oJ.mp h;exact dc hi
theorem dn{xs:Array Keyed}{i:Nat}(h:xs.size<=i):xs.toList.drop i=[]:=uE (by simpa using h)
theorem tY(xs:Array Keyed)(i:Nat):(xs.extract i xs.size).toList=xs.toList.drop i:=by
 rw[dB,List.extract_eq_drop_take,dt (av _)]
theorem KI{xs:Array Keyed}{i:Nat}(h:i<xs.size):xs.toList.drop i≠[]:=by rw[dc h];exact List.cons_ne_nil _ _
theorem fD(hm:MI le (a.toList++b.toList) o.toList (a.toList.drop i) (b.toList.drop j))(h:b.size<=j):Fn le (a.toList++b.toList) (o++a.extract i a.size++b.extract j b.size).toList:=by
 rw[br,br,tY,tY,dn h,dw];rw[dn h] at hm;exact hm.e1
theorem fL(hm:MI le (a.toList++b.toList) o.toList (a.toList.drop i) (b.toList.drop j))(h:i+1=a.size):Fn le (a.toList++b.toList) (o++b.extract j b.size++a.extract i a.size).toList:=by
 have e:a.toList.drop i=[a[i]]:=by rw[dc (by omega),dn (by omega)]
 rw[br,br,tY,tY,bH,e];rw[e] at hm;exact hm.e2
theorem LI.y(h:LI st a b n o i j aX)(hp:a[i]?=some p)(hq:b[j]?=some q)(hc:kn q<=kn p) :
  (j+1=b.size->Fn le (a.toList++b.toList) (o.push q++a.extract i a.size++b.extract (j+1) b.size).toList)/\(¬j+1=b.size->LI st a b (n+1) (o.push q) i (j+1) aX):=by
 have hm:MI le (a.toList++b.toList) (o.push q).toList (a.toList.drop i) (b.toList.drop (j+1)):=by
  have hm:=h.mi;rw[dq hp] at hm ⊢;rw[dq hq] at hm;rw[dA];exact hm.y1 (u:=[q]) λu hu z hz=>by rw[bf] at hu;subst hu;exact hm.hx yJ hc z hz
 have hj:=h.hj;exact⟨λe=>fD hm (fE e.symm),λe=>⟨h.sm,hm,h.hi,by omega,by rw[jj];have:=h.ho;omega⟩⟩
theorem LI.x(h:LI st a b n o i j aX)(hp:a[i]?=some p)(hq:b[j]?=some q)(hc:kn p<=kn q) :
  (i+1+1=a.size->Fn le (a.toList++b.toList) (o.push p++b.extract j b.size++a.extract (i+1) a.size).toList)/\(¬i+1+1=a.size->LI st a b (n+1) (o.push p) (i+1) j aX):=by
 have hm:MI le (a.toList++b.toList) (o.push p).toList (a.toList.drop (i+1)) (b.toList.drop j):=by
  have hm:=h.mi;rw[dq hq] at hm ⊢;rw[dq hp] at hm;rw[dA];exact hm.x1 (u:=[p]) (λu hu z hz=>by rw[bf] at hu;subst hu;exact hm.hy yJ hc z hz) (KI h.hi)
 have hi:=h.hi;exact⟨λe=>fL hm e,λe=>⟨h.sm,hm,by omega,h.hj,by rw[jj];have:=h.ho;omega⟩⟩
theorem LI.gx(h:LI st a b n o i j aX)(hq:b[j]?=some q)(h1:k<=a.size-i)(h2:∀p∈(a.toList.drop i).take k,fO false q p=true)(h3:∀p∈(a.toList.drop (i+k)).take (a.size-i-k),fO false q p=false) :
  (i+k+1=a.size->Fn le (a.toList++b.toList) (o++a.extract i (i+k)++b.extract j b.size++a.extract (i+k) a.size).toList) /\
  (i+k=a.size->Fn le (a.toList++b.toList) (o++a.extract i (i+k)++a.extract (i+k) a.size++b.extract j b.size).toList) /\
  (¬i+k+1=a.size->¬i+k=a.size->LI st a b n (o++a.extract i (i+k)) (i+k) j aX)/\∀p,a[i+k]?=some p->kn q<=kn p:=by
 have hi:=h.hi;have XY:∀p∈(a.toList.drop i).take k,∀q∈b.toList.drop j,le p q:=λp hp q xU=>by
  have hm:=h.mi;rw[dq hq] at xU hm;exact hm.hy yJ (EH (h2 p hp)) q xU
 have M2:i+k<a.size->MI le (a.toList++b.toList) (o++a.extract i (i+k)).toList (a.toList.drop (i+k)) (b.toList.drop j):=λdO=>by
  have hm:=h.mi;rw[dk a.toList i k] at hm;rw[ex];exact hm.x1 XY (KI dO)
 refine⟨λe=>fL (M2 (by omega)) e,λe=>?_,λe1 e2=>⟨h.sm,M2 (by omega),by omega,h.hj,by rw[ik];have:=h.ho;omega⟩,λp hp=>cC (yE (h3 p ?_))⟩
 ·rw[br,br,ex,tY,tY,dn (fE e.symm),dt (by omega),dw,bH];rw[dt (by omega)] at XY;exact h.mi.e0 XY
 ·rw[dt (by omega),dq hp];exact cR ..
theorem LI.gy(h:LI st a b n o i j aX)(hp:a[i]?=some p)(h1:k<=b.size-j)(h2:∀q∈(b.toList.drop j).take k,fO true p q=true)(h3:∀q∈(b.toList.drop (j+k)).take (b.size-j-k),fO true p q=false) :
  (j+k=b.size->Fn le (a.toList++b.toList) (o++b.extract j (j+k)++a.extract i a.size++b.extract (j+k) b.size).toList) /\
  (¬j+k=b.size->LI st a b n (o++b.extract j (j+k)) i (j+k) aX)/\∀q,b[j+k]?=some q->kn p<=kn q:=by
 have hj:=h.hj;have hm:MI le (a.toList++b.toList) (o++b.extract j (j+k)).toList (a.toList.drop i) (b.toList.drop (j+k)):=by
  have hm:=h.mi;rw[dk b.toList j k] at hm;rw[ex];refine hm.y1 λq hq z hz=>?_;rw[dq hp] at hz hm;exact hm.hx yJ (cC (zI (h2 q hq))) z hz
 refine⟨λe=>fD hm (fE e.symm),λe=>⟨h.sm,hm,h.hi,by omega,by rw[ik];have:=h.ho;omega⟩,λq hq=>DM (h3 q ?_)⟩;rw[dt (by omega),dq hq];exact cR ..
theorem LI.ex(h:LI st a b n o i j aX)(gX:∀p∈a.toList++b.toList,IK p):∃p q,a[i]?=some p/\b[j]?=some q/\IK p/\IK q:=by
 have hi:=h.hi;have hj:=h.hj;exact⟨a[i],b[j],by simp,by simp,gX _ (bA _ (by simp)),gX _ (aN _ (by simp))⟩
theorem LI.uU(h:LI st a b n o i j aX){gW:SortSt}(q:Sm aX gW):LI st a b n o i j gW:=⟨h.sm.trans q,h.mi,h.hi,h.hj,h.ho⟩
theorem LI.wk(h:LI st a b n o i j aX){m:Nat}(hm:m<=n):LI st a b m o i j aX:=⟨h.sm,h.mi,h.hi,h.hj,dh hm h.ho⟩
theorem LI.full(h:LI st a b (a.size+b.size) o i j aX):False:=by
 have h1:=h.mi.len;have h2:=h.ho;simp only[List.length_append,Array.length_toList] at h1;omega
def LR(st:SortSt)(a b:Array Keyed)(n:Nat)(Q:Array Keyed->SortSt->Prop)(r:Option (Array Keyed))(o:Array Keyed)(i j:Nat)(aX:SortSt):Prop:=match r with
 |some z=>Q z aX
 |none=>LI st a b n o i j aX
end
noncomputable abbrev nQ:Array Keyed->SortSt->Prop:=λ_ _=>False
theorem QL{st:SortSt}{a b:Array Keyed}{Q:Array Keyed->SortSt->Prop}(hk:kindOf st=oneType')(gX:∀p∈a.toList++b.toList,IK p)(ha:0<a.size)(hb:0<b.size)(h0:MI le (a.toList++b.toList) [] a.toList b.toList)(hf:∀p∈a.toList,kn b[0]<=kn p)(h:∀z aX,Sm st aX->Fn le (a.toList++b.toList) z.toList->Q z aX):wpS (model prog w) A E s (Ga a b) Q st:=by
  have IA:∀p∈a.toList,IK p:=λp hp=>gX p (bA _ hp);have IB:∀p∈b.toList,IK p:=λp hp=>gX p (aN _ hp);have SA:∀x n u v (hv:v<a.size) (mD:u<=v),x<=u->v<x+n->kn a[u]<=kn a[v]:=λ_ _ u v hv mD _ _=>wX h0.sx hv mD;have SB:∀x n u v (hv:v<b.size) (mD:u<=v),x<=u->v<x+n->kn b[u]<=kn b[v]:=λ_ _ u v hv mD _ _=>wX h0.sy hv mD;have h1:MI le (a.toList++b.toList) (#[b[0]]:Array Keyed).toList (a.toList.drop 0) (b.toList.drop 1):=by
    have:b.toList=[b[0]]++b.toList.drop 1:=by have:=dc hb;simpa using this
    refine MI.y1 (o:=[]) (by rw[<- this];exact h0) ?_;intro p hp q hq;rw[bf] at hp;subst hp;exact hf q hq
  have s0:Sm st st:=⟨rfl,rfl,rfl,rfl⟩
  unfold Ga;refine aB (pM (cX ⟨rfl,?_⟩));refine aB (z9 (p:=b[0]) (by simp[hb]) ?_);refine i0 (λe=>aG (h _ st s0 (fD h1 (fE (eq_of_beq e).symm)))) λe=>?_;refine i0 (λe2=>aG (h _ st s0 (fL h1 (eq_of_beq e2)))) λe2=>?_;have e:¬1=b.size:=λz=>e (bB.mpr z);have e2:¬0+1=a.size:=λz=>e2 (bB.mpr z);refine aB (mP ?_);refine aB (wpS_mono (forR (I:=λn (c:Option (Array Keyed)×Array Keyed×Nat×Nat×Nat)=>LR st a b n nQ c.1 c.2.1 c.2.2.1 c.2.2.2.1) (Q:=λc=>LR st a b (a.size+b.size) Q c.1 c.2.1 c.2.2.1 c.2.2.2.1) ?_ ?_ (show LI st a b 0 #[b[0]] 0 1 st from⟨s0,h1,by omega,by omega,by simp⟩)) ?_)
  · rintro n ⟨c1,o,i,j,mg⟩ eP _ hn hL;cases c1 with
    |some z=>exact hL.elim
    |none =>
    replace hL:LI st a b n o i j eP:=hL
    refine aB (wpS_mono (forR (I:=λx (c:Option (Array Keyed)×Array Keyed×Nat×Nat×Nat×Nat)=>LR st a b (n+x) nQ c.1 c.2.1 c.2.2.1 c.2.2.2.1) (Q:=λc=>LR st a b (n+1) Q c.1 c.2.1 c.2.2.1 c.2.2.2.1) ?_ ?_ hL) ?_)
    · rintro x ⟨c1,o,i,j,ac,bc⟩ eP _ _ hL;cases c1 with
      |some z=>exact hL.elim
      |none =>
      replace hL:LI st a b (n+x) o i j eP:=hL
      obtain⟨p,q,hp,hq,ip,iq⟩:=hL.ex gX;refine aB (z9 hq (aB (z9 hp (aB (yL (hL.sm.1.trans hk) iq ip ?_)))));refine i0 (λhc=>aB (z9 hq ?_)) (λhc=>aB (z9 hp ?_))
      · have Y:=hL.y hp hq (cC (bg hc));refine i0 (λe=>aG (h _ _ hL.sm (Y.1 (eq_of_beq e)))) λe=>?_;have Z:=Y.2 λz=>e (bB.mpr z);exact i0 (λ_=>aG (Z.wk (by omega))) (λ_=>aG Z)
      · have Y:=hL.x hp hq (gP.mp λz=>hc (az z));refine i0 (λe=>aG (h _ _ hL.sm (Y.1 (eq_of_beq e)))) λe=>?_;have Z:=Y.2 λz=>e (bB.mpr z);exact i0 (λ_=>aG (Z.wk (by omega))) (λ_=>aG Z)
    · rintro⟨c1,o,i,j,ac,bc⟩ eP hL;cases c1 with
      |some z=>exact hL.elim
      |none=>exact LI.wk hL (by omega)
    · rintro⟨c1,o,i,j,ac,bc⟩ eP hL;cases c1 with
      |some z=>exact aG hL
      |none =>
      replace hL:LI st a b (n+1) o i j eP:=hL
      refine aB (pM (cX ⟨rfl,?_⟩));refine aB (wpS_mono (forR (I:=λx (c:Option (Array Keyed)×Array Keyed×Nat×Nat×Nat×Nat×Nat)=>LR st a b (n+1) nQ c.1 c.2.1 c.2.2.1 c.2.2.2.1) (Q:=λc=>LR st a b (n+1) Q c.1 c.2.1 c.2.2.1 c.2.2.2.1) ?_ ?_ hL) ?_)
      · rintro x ⟨c1,o,i,j,mg,ac,bc⟩ eP _ _ hL;cases c1 with
        |some z=>exact hL.elim
        |none =>
        replace hL:LI st a b (n+1) o i j eP:=hL
        lift_lets
        intro s1 out s2 ia s3 ib s4 Ng s5 YD UU Gn jp;have e1:o=out:=rfl;have e2:i=ia:=rfl;have e3:j=ib:=rfl;have e4:j+1=Gn:=rfl
        clear_value out ia ib Gn
        subst e1 e2 e3 e4;have J:∀u m,wpS (model prog w) A E s (jp u m) (fs (λc=>LR st a b (n+1) Q c.1 c.2.1 c.2.2.1 c.2.2.2.1) (λc=>LR st a b (n+1) nQ c.1 c.2.1 c.2.2.1 c.2.2.2.1)) eP:=by
          intro u m;dsimp -zeta -zetaHave only[jp]
          clear_value jp
          refine aB (yO (g:=m) λgW gK=>?_)
          replace hL:=hL.uU gK
          obtain⟨p,q,hp,hq,ip,iq⟩:=hL.ex gX;refine aB (z9 hq ?_);refine aB (uf (hL.sm.1.trans hk) iq IA (SA _ _) (by have:=hL.hi;omega) (by have:=hL.hi;omega) λk lG kq lg=>?_);have G:=hL.gx hq lG kq lg;clear lG kq lg hp ip;dsimp -zeta -zetaHave only
          lift_lets
          intro Dz oQ Ax ia2;have J2:∀u o i,LI st a b (n+1) o i j gW->(∀p,a[i]?=some p->kn q<=kn p)->wpS (model prog w) A E s (oQ u o i) (fs (λc=>LR st a b (n+1) Q c.1 c.2.1 c.2.2.1 c.2.2.2.1) (λc=>LR st a b (n+1) nQ c.1 c.2.1 c.2.2.1 c.2.2.2.1)) gW:=by
            clear G hL;intro u o i hL hc;dsimp -zeta -zetaHave only[oQ]
            clear_value oQ Dz
            obtain⟨p,q2,hp,_,ip,_⟩:=hL.ex gX;have Y:=hL.y hp hq (hc p hp);refine aB (z9 hq ?_);refine i0 (λe=>aG (h _ _ hL.sm (Y.1 (eq_of_beq e)))) λe=>?_;have Z:=Y.2 λz=>e (bB.mpr z);refine aB (z9 hp ?_);refine aB (uf (hL.sm.1.trans hk) ip IB (SB _ _) (by have:=Z.hj;omega) (by have:=Z.hj;omega) λk lG kq lg=>?_);have G:=Z.gy hp lG kq lg;clear lG kq lg Y e hc;dsimp -zeta -zetaHave only
            lift_lets
            intro US rB Aw ib3;have J3:∀u o j,LI st a b (n+1) o i j gW->(∀q,b[j]?=some q->kn p<=kn q)->wpS (model prog w) A E s (rB u o j) (fs (λc=>LR st a b (n+1) Q c.1 c.2.1 c.2.2.1 c.2.2.2.1) (λc=>LR st a b (n+1) nQ c.1 c.2.1 c.2.2.1 c.2.2.2.1)) gW:=by
              clear G Z hL hq;intro u o j hL hc;dsimp -zeta -zetaHave only[rB];obtain⟨p2,q,_,hq,_,_⟩:=hL.ex gX;have Y:=hL.x hp hq (hc q hq);refine aB (z9 hp ?_);refine i0 (λe=>aG (h _ _ hL.sm (Y.1 (eq_of_beq e)))) λe=>?_;have Z:=Y.2 λz=>e (bB.mpr z);exact i0 (λ_=>aG (Z.wk (cy _))) (λ_=>aG (Z.wk (cy _)))
            clear_value rB
            refine i0 (λ_=>i0 (λe=>aG (h _ _ hL.sm (G.1 (eq_of_beq e)))) λe=>J3 _ _ _ ((G.2.1 λz=>e (bB.mpr z)).wk (cy _)) G.2.2) (λe=>J3 _ _ _ (Z.wk (cy _)) ?_);have e:k=0:=by omega
            subst e;exact G.2.2
          clear_value oQ
          refine i0 (λ_=>i0 (λe=>aG (h _ _ hL.sm (G.1 (eq_of_beq e)))) λe=>i0 (λe2=>aG (h _ _ hL.sm (G.2.1 (eq_of_beq e2)))) λe2=>J2 _ _ _ (G.2.2.1 (λz=>e (bB.mpr z)) (λz=>e2 (bB.mpr z))) G.2.2.2) (λe=>J2 _ _ _ hL ?_);have e:k=0:=by omega
          subst e;exact G.2.2.2
        clear_value jp
        exact i0 (λ_=>J _ _) (λ_=>J _ _)
      · rintro⟨c1,o,i,j,mg,ac,bc⟩ eP hL;cases c1 with
        |some z=>exact hL.elim
        |none=>exact hL
      · rintro⟨c1,o,i,j,mg,ac,bc⟩ eP hL;cases c1 with
        |some z=>exact aG hL
        |none=>exact aB (yO λgW gK=>aG (LI.uU hL gK))
  · rintro⟨c1,o,i,j,mg⟩ eP hL;cases c1 with
    |some z=>exact hL.elim
    |none=>exact LI.wk hL (by omega)
  · rintro⟨c1,o,i,j,mg⟩ eP hL;cases c1 with
    |some z=>exact aG hL
    |none=>exact(LI.full hL).elim
end
section
variable{prog:Program}{w:World}{A:Around}{E:Value->Shared->Prop}{s:Shared}
noncomputable abbrev ge(p q:Keyed):Prop:=kn q<=kn p
theorem yH:∀a b c,ge a b->ge b c->ge a c:=λ_ _ _ h1 h2=>fJ h2 h1
def rt(xs:Array Keyed)(n:Nat):List Keyed:=(xs.toList.take n).reverse
theorem Ea{xs:Array Keyed}{n:Nat}(h:n<xs.size):rt xs (n+1)=xs[n]::rt xs n:=by
 unfold rt;rw[List.take_succ_eq_append_getElem (by simpa using h),Fj];simp
theorem Kl{xs:Array Keyed}{n:Nat}{p:Keyed}(h:p∈rt xs n):p∈xs.toList:=dy (fR.mp h)
theorem EA(xs:Array Keyed){k n:Nat}(h:k<=n):rt xs n=((xs.toList.drop k).take (n-k)).reverse++rt xs k:=by
 unfold rt;rw[<- Fj]
 congr 1
 have:=bP k (xs.toList.take n);rw[List.take_take,List.drop_take,Nat.min_eq_left h] at this;exact this.symm
theorem Eb(o xs:Array Keyed)(k n:Nat):(o++(xs.extract k n).reverse).toList=o.toList++((xs.toList.drop k).take (n-k)).reverse:=by
 rw[br,fY,dB,List.extract_eq_drop_take]
theorem uw(xs:Array Keyed)(n:Nat):(xs.extract 0 n).toList=(rt xs n).reverse:=by
 rw[dB,List.extract_eq_drop_take];simp[rt]
theorem Fn.rev{all l:List Keyed}(h:Fn ge all l):Fn le all l.reverse:=⟨(lx l).trans h.1,jt.mpr h.2⟩
theorem XG{xs:Array Keyed}{i:Nat}(h:0<i)(hi:i<xs.size):rt xs i≠[]:=by
 obtain⟨i,rfl⟩:∃m,i=m+1:=⟨i-1,by omega⟩
 rw[Ea (by omega)];exact List.cons_ne_nil _ _
theorem wV(xs:Array Keyed):rt xs xs.size=xs.toList.reverse:=by unfold rt;rw[df (by simp)]
section
variable{st aX:SortSt}{a b o:Array Keyed}{na nb n t:Nat}{p q:Keyed}
theorem pJ{xs:Array Keyed}{n:Nat}{p:Keyed}(h0:0<n)(h:xs[n-1]?=some p):rt xs n=p::rt xs (n-1):=by
 obtain⟨n,rfl⟩:∃m,n=m+1:=⟨n-1,by omega⟩
 obtain⟨hi,rfl⟩:=oJ.mp h;exact Ea hi
theorem xg(xs:Array Keyed):rt xs 0=[]:=by simp[rt]
structure HI(st:SortSt)(a b:Array Keyed)(n:Nat)(na nb:Nat)(o:Array Keyed)(aX:SortSt):Prop where
 sm:Sm st aX
 mi:MI ge (a.toList++b.toList) o.toList (rt b nb) (rt a na)
 b1:1<nb
 b2:nb<=b.size
 a1:0<na
 a2:na<=a.size
 ho:n<o.size
theorem hD(hm:MI ge (a.toList++b.toList) o.toList (rt b nb) (rt a na))(h:na=0):Fn le (a.toList++b.toList) (a.extract 0 na++b.extract 0 nb++o.reverse).toList:=by
 subst h;rw[xg] at hm;rw[br,br,fY,uw,uw,xg];simpa using hm.e1.rev
theorem hL(hm:MI ge (a.toList++b.toList) o.toList (rt b nb) (rt a na))(h:nb=1)(hb:0<b.size):Fn le (a.toList++b.toList) (b.extract 0 nb++a.extract 0 na++o.reverse).toList:=by
 subst h;have e:rt b 1=[b[0]]:=by rw[Ea hb,xg]
 rw[e] at hm;rw[br,br,fY,uw,uw,e];simpa using hm.e2.rev
theorem HI.y(h:HI st a b n na nb o aX)(hp:a[na-1]?=some p)(hq:b[nb-1]?=some q)(hc:kn q<=kn p) :
  (na-1=0->Fn le (a.toList++b.toList) (a.extract 0 (na-1)++b.extract 0 nb++(o.push p).reverse).toList)/\(¬na-1=0->HI st a b (n+1) (na-1) nb (o.push p) aX):=by
 have h1:=h.b1;have h2:=h.a2;have hm:MI ge (a.toList++b.toList) (o.push p).toList (rt b nb) (rt a (na-1)):=by
  have hm:=h.mi;rw[pJ (by omega) hq] at hm ⊢;rw[pJ h.a1 hp] at hm;rw[dA];exact hm.y1 (u:=[p]) λu hu z hz=>by rw[bf] at hu;subst hu;exact hm.hx yH hc z hz
 exact⟨λe=>hD hm e,λe=>⟨h.sm,hm,h1,h.b2,by omega,by omega,by rw[jj];have:=h.ho;omega⟩⟩
theorem HI.x(h:HI st a b n na nb o aX)(hp:a[na-1]?=some p)(hq:b[nb-1]?=some q)(hc:kn p<=kn q) :
  (nb-1=1->Fn le (a.toList++b.toList) (b.extract 0 (nb-1)++a.extract 0 na++(o.push q).reverse).toList)/\(¬nb-1=1->HI st a b (n+1) na (nb-1) (o.push q) aX):=by
 have h1:=h.b1;have h2:=h.b2;have hm:MI ge (a.toList++b.toList) (o.push q).toList (rt b (nb-1)) (rt a na):=by
  have hm:=h.mi;rw[pJ h.a1 hp] at hm ⊢;rw[pJ (by omega) hq] at hm;rw[dA];exact hm.x1 (u:=[q]) (λu hu z hz=>by rw[bf] at hu;subst hu;exact hm.hy yH hc z hz) (XG (by omega) (by omega))
 exact⟨λe=>hL hm e (by omega),λe=>⟨h.sm,hm,by omega,by omega,h.a1,h.a2,by rw[jj];have:=h.ho;omega⟩⟩
theorem HI.gy(h:HI st a b n na nb o aX)(hq:b[nb-1]?=some q)(h1:t<=na)(h2:∀p∈(a.toList.drop 0).take t,fO false q p=true)(h3:∀p∈(a.toList.drop (0+t)).take (na-t),fO false q p=false) :
  (t=0->Fn le (a.toList++b.toList) (a.extract 0 t++b.extract 0 nb++(o++(a.extract t na).reverse).reverse).toList)/\(¬t=0->HI st a b n t nb (o++(a.extract t na).reverse) aX)/\∀p,0<t->a[t-1]?=some p->kn p<=kn q:=by
 have h4:=h.b1;have h5:=h.a2;rw[Nat.zero_add] at h3;have hm:MI ge (a.toList++b.toList) (o++(a.extract t na).reverse).toList (rt b nb) (rt a t):=by
  have hm:=h.mi;rw[EA a h1] at hm;rw[Eb];refine hm.y1 λp hp z hz=>?_;rw[pJ (by omega) hq] at hz hm;exact hm.hx yH (cC (yE (h3 p (fR.mp hp)))) z hz
 refine⟨λe=>hD hm e,λe=>⟨h.sm,hm,h4,h.b2,by omega,by omega,by rw[ik];have:=h.ho;omega⟩,λp h0 hp=>EH (h2 p ?_)⟩;have:=pJ h0 hp;exact fR.mp (show p∈rt a t by rw[this];exact cR ..)
theorem HI.gx(h:HI st a b n na nb o aX)(hp:a[na-1]?=some p)(h1:t<=nb)(h2:∀q∈(b.toList.drop 0).take t,fO true p q=true)(h3:∀q∈(b.toList.drop (0+t)).take (nb-t),fO true p q=false) :
  (t=1->Fn le (a.toList++b.toList) (b.extract 0 t++a.extract 0 na++(o++(b.extract t nb).reverse).reverse).toList)/\(t=0->Fn le (a.toList++b.toList) (a.extract 0 na++b.extract 0 t++(o++(b.extract t nb).reverse).reverse).toList) /\
  (¬t=1->¬t=0->HI st a b n na t (o++(b.extract t nb).reverse) aX)/\∀q,0<t->b[t-1]?=some q->kn q<=kn p:=by
 have h4:=h.b1;have h5:=h.b2;rw[Nat.zero_add] at h3;have Y2:∀p∈((b.toList.drop t).take (nb-t)).reverse,∀q∈rt a na,ge p q:=λq hq z hz=>by
  have hm:=h.mi;rw[pJ h.a1 hp] at hz hm;exact hm.hy yH (DM (h3 q (fR.mp hq))) z hz
 have hm:0<t->MI ge (a.toList++b.toList) (o++(b.extract t nb).reverse).toList (rt b t) (rt a na):=λh0=>by
  have hm:=h.mi;rw[EA b h1] at hm;rw[Eb];refine hm.x1 Y2 λe=>?_;have:=fX List.length e;simp only[rt,List.length_reverse,List.length_take,Array.length_toList,List.length_nil] at this;omega
 refine⟨λe=>hL (hm (by omega)) e (by omega),λe=>?_,λe1 e2=>⟨h.sm,hm (by omega),by omega,by omega,h.a1,h.a2,by rw[ik];have:=h.ho;omega⟩,λq h0 hq=>cC (zI (h2 q ?_))⟩
 ·subst e;have hm:=h.mi;rw[EA b h1,xg,dw] at hm;have:=(hm.e0 Y2).rev;rw[br,br,fY,Eb,uw,uw,xg];simpa[List.append_assoc] using this
 ·have:=pJ h0 hq;exact fR.mp (show q∈rt b t by rw[this];exact cR ..)
theorem HI.ex(h:HI st a b n na nb o aX)(gX:∀p∈a.toList++b.toList,IK p):∃p q,a[na-1]?=some p/\b[nb-1]?=some q/\IK p/\IK q:=by
 have h1:=h.b1;have h2:=h.b2;have h3:=h.a1;have h4:=h.a2;have h5:na-1<a.size:=by omega
 have h6:nb-1<b.size:=by omega
 exact⟨a[na-1],b[nb-1],cB a (na-1) h5,cB b (nb-1) h6,gX _ (bA _ (by simp)),gX _ (aN _ (by simp))⟩
theorem HI.uU(h:HI st a b n na nb o aX){gW:SortSt}(q:Sm aX gW):HI st a b n na nb o gW:=⟨h.sm.trans q,h.mi,h.b1,h.b2,h.a1,h.a2,h.ho⟩
theorem HI.wk(h:HI st a b n na nb o aX){m:Nat}(hm:m<=n):HI st a b m na nb o aX:=⟨h.sm,h.mi,h.b1,h.b2,h.a1,h.a2,dh hm h.ho⟩
theorem HI.full(h:HI st a b (a.size+b.size) na nb o aX):False:=by
 have h1:=h.mi.len;have h2:=h.ho;simp only[List.length_append,Array.length_toList] at h1;omega
def HR(st:SortSt)(a b:Array Keyed)(n:Nat)(Q:Array Keyed->SortSt->Prop)(r:Option (Array Keyed))(na nb:Nat)(o:Array Keyed)(aX:SortSt):Prop:=match r with
 |some z=>Q z aX
 |none=>HI st a b n na nb o aX
end
theorem QK{st:SortSt}{a b:Array Keyed}{Q:Array Keyed->SortSt->Prop}(hk:kindOf st=oneType')(gX:∀p∈a.toList++b.toList,IK p)(ha:0<a.size)(hb:0<b.size)(sa:a.toList.Pairwise le)(sb:b.toList.Pairwise le)(h0:MI ge (a.toList++b.toList) [] (rt b b.size) (rt a a.size))(hf:∀p∈b.toList,kn p<=kn a[a.size-1])(h:∀z aX,Sm st aX->Fn le (a.toList++b.toList) z.toList->Q z aX):wpS (model prog w) A E s (Gb a b) Q st:=by
  have IA:∀p∈a.toList,IK p:=λp hp=>gX p (bA _ hp);have IB:∀p∈b.toList,IK p:=λp hp=>gX p (aN _ hp);have SA:∀x n u v (hv:v<a.size) (mD:u<=v),x<=u->v<x+n->kn a[u]<=kn a[v]:=λ_ _ u v hv mD _ _=>wX sa hv mD;have SB:∀x n u v (hv:v<b.size) (mD:u<=v),x<=u->v<x+n->kn b[u]<=kn b[v]:=λ_ _ u v hv mD _ _=>wX sb hv mD;have tK:a[a.size-1]?=some a[a.size-1]:=cB _ _ _;have h1:MI ge (a.toList++b.toList) (#[a[a.size-1]]:Array Keyed).toList (rt b b.size) (rt a (a.size-1)):=by
    rw[pJ ha tK] at h0;refine MI.y1 (o:=[]) (u:=[a[a.size-1]]) h0 ?_;intro p hp q hq;rw[bf] at hp;subst hp;exact hf q (Kl hq)
  have s0:Sm st st:=⟨rfl,rfl,rfl,rfl⟩
  unfold Gb;refine aB (pM (cX ⟨rfl,?_⟩));refine aB (z9 tK ?_);refine i0 (λe=>aG (h _ st s0 (hD h1 (eq_of_beq e)))) λe=>?_;refine i0 (λe2=>aG (h _ st s0 (hL h1 (eq_of_beq e2) hb))) λe2=>?_;have e:¬a.size-1=0:=λz=>e (bB.mpr z);have e2:¬b.size=1:=λz=>e2 (bB.mpr z);refine aB (mP ?_);refine aB (wpS_mono (forR (I:=λn (c:Option (Array Keyed)×Nat×Nat×Array Keyed×Nat)=>HR st a b n nQ c.1 c.2.1 c.2.2.1 c.2.2.2.1) (Q:=λc=>HR st a b (a.size+b.size) Q c.1 c.2.1 c.2.2.1 c.2.2.2.1) ?_ ?_ (show HI st a b 0 (a.size-1) b.size #[a[a.size-1]] st from⟨s0,h1,by omega,by omega,by omega,by omega,by simp⟩)) ?_)
  · rintro n ⟨c1,na,nb,o,mg⟩ eP _ hn hL;cases c1 with
    |some z=>exact hL.elim
    |none =>
    replace hL:HI st a b n na nb o eP:=hL
    refine aB (wpS_mono (forR (I:=λx (c:Option (Array Keyed)×Nat×Nat×Array Keyed×Nat×Nat)=>HR st a b (n+x) nQ c.1 c.2.1 c.2.2.1 c.2.2.2.1) (Q:=λc=>HR st a b (n+1) Q c.1 c.2.1 c.2.2.1 c.2.2.2.1) ?_ ?_ hL) ?_)
    · rintro x ⟨c1,na,nb,o,ac,bc⟩ eP _ _ hL;cases c1 with
      |some z=>exact hL.elim
      |none =>
      replace hL:HI st a b (n+x) na nb o eP:=hL
      obtain⟨p,q,hp,hq,ip,iq⟩:=hL.ex gX;refine aB (z9 hq (aB (z9 hp (aB (yL (hL.sm.1.trans hk) iq ip ?_)))));refine i0 (λhc=>aB (z9 hp ?_)) (λhc=>aB (z9 hq ?_))
      · have Y:=hL.y hp hq (cC (bg hc));refine i0 (λe=>aG (h _ _ hL.sm (Y.1 (eq_of_beq e)))) λe=>?_;have Z:=Y.2 λz=>e (bB.mpr z);exact i0 (λ_=>aG (Z.wk (by omega))) (λ_=>aG Z)
      · have Y:=hL.x hp hq (gP.mp λz=>hc (az z));refine i0 (λe=>aG (h _ _ hL.sm (Y.1 (eq_of_beq e)))) λe=>?_;have Z:=Y.2 λz=>e (bB.mpr z);exact i0 (λ_=>aG (Z.wk (by omega))) (λ_=>aG Z)
    · rintro⟨c1,na,nb,o,ac,bc⟩ eP hL;cases c1 with
      |some z=>exact hL.elim
      |none=>exact HI.wk hL (by omega)
    · rintro⟨c1,na,nb,o,ac,bc⟩ eP hL;cases c1 with
      |some z=>exact aG hL
      |none =>
      replace hL:HI st a b (n+1) na nb o eP:=hL
      refine aB (pM (cX ⟨rfl,?_⟩));refine aB (wpS_mono (forR (I:=λx (c:Option (Array Keyed)×Nat×Nat×Array Keyed×Nat×Nat×Nat)=>HR st a b (n+1) nQ c.1 c.2.1 c.2.2.1 c.2.2.2.1) (Q:=λc=>HR st a b (n+1) Q c.1 c.2.1 c.2.2.1 c.2.2.2.1) ?_ ?_ hL) ?_)
      · rintro x ⟨c1,na,nb,o,mg,ac,bc⟩ eP _ _ hL;cases c1 with
        |some z=>exact hL.elim
        |none =>
        replace hL:HI st a b (n+1) na nb o eP:=hL
        lift_lets
        intro s1 FX s2 FW s3 out s4 Ng s5 YD UU FV jp;have e1:na=FX:=rfl;have e2:nb=FW:=rfl;have e3:o=out:=rfl;have e4:nb-1=FV:=rfl
        clear_value FX FW out FV
        subst e1 e2 e3 e4;have J:∀u m,wpS (model prog w) A E s (jp u m) (fs (λc=>HR st a b (n+1) Q c.1 c.2.1 c.2.2.1 c.2.2.2.1) (λc=>HR st a b (n+1) nQ c.1 c.2.1 c.2.2.1 c.2.2.2.1)) eP:=by
          intro u m;dsimp -zeta -zetaHave only[jp]
          clear_value jp
          refine aB (yO (g:=m) λgW gK=>?_)
          replace hL:=hL.uU gK
          obtain⟨p,q,hp,hq,ip,iq⟩:=hL.ex gX;refine aB (z9 hq ?_);refine aB (uf (hL.sm.1.trans hk) iq IA (SA _ _) (by have:=hL.a2;omega) (by have:=hL.a1;omega) λk lG kq lg=>?_);have G:=hL.gy hq lG kq lg;clear kq lg hp ip;dsimp -zeta -zetaHave only
          lift_lets
          intro k2 Dz oQ Ax na2;have J2:∀u na o,HI st a b (n+1) na nb o gW->(∀p,0<na->a[na-1]?=some p->kn p<=kn q)->wpS (model prog w) A E s (oQ u na o) (fs (λc=>HR st a b (n+1) Q c.1 c.2.1 c.2.2.1 c.2.2.2.1) (λc=>HR st a b (n+1) nQ c.1 c.2.1 c.2.2.1 c.2.2.2.1)) gW:=by
            clear G hL;intro u na o hL hc;dsimp -zeta -zetaHave only[oQ]
            clear_value oQ Dz
            obtain⟨p,q2,hp,_,ip,_⟩:=hL.ex gX;have Y:=hL.x hp hq (hc p hL.a1 hp);refine aB (z9 hq ?_);refine i0 (λe=>aG (h _ _ hL.sm (Y.1 (eq_of_beq e)))) λe=>?_;have Z:=Y.2 λz=>e (bB.mpr z);refine aB (z9 hp ?_);refine aB (uf (hL.sm.1.trans hk) ip IB (SB _ _) (by have:=Z.b2;omega) (by have:=Z.b1;omega) λk lG kq lg=>?_);have G:=Z.gx hp lG kq lg;clear kq lg Y e hc;dsimp -zeta -zetaHave only
            lift_lets
            intro k3 US rB Aw nb3;have J3:∀u nb o,HI st a b (n+1) na nb o gW->(∀q,0<nb->b[nb-1]?=some q->kn q<=kn p)->wpS (model prog w) A E s (rB u nb o) (fs (λc=>HR st a b (n+1) Q c.1 c.2.1 c.2.2.1 c.2.2.2.1) (λc=>HR st a b (n+1) nQ c.1 c.2.1 c.2.2.1 c.2.2.2.1)) gW:=by
              clear G Z hL hq;intro u nb o hL hc;dsimp -zeta -zetaHave only[rB];obtain⟨p2,q,_,hq,_,_⟩:=hL.ex gX;have Y:=hL.y hp hq (hc q (by have:=hL.b1;omega) hq);refine aB (z9 hp ?_);refine i0 (λe=>aG (h _ _ hL.sm (Y.1 (eq_of_beq e)))) λe=>?_;have Z:=Y.2 λz=>e (bB.mpr z);exact i0 (λ_=>aG (Z.wk (cy _))) (λ_=>aG (Z.wk (cy _)))
            clear_value rB
            refine i0 (λ_=>i0 (λe=>aG (h _ _ hL.sm (G.1 (eq_of_beq e)))) λe=>i0 (λe2=>aG (h _ _ hL.sm (G.2.1 (eq_of_beq e2)))) λe2=>J3 _ _ _ ((G.2.2.1 (λz=>e (bB.mpr z)) (λz=>e2 (bB.mpr z))).wk (cy _)) G.2.2.2) (λe=>J3 _ _ _ (Z.wk (cy _)) ?_);have e:k=nb-1:=by have e:¬nb-1-k>0:=e;omega
            subst e;exact G.2.2.2
          clear_value oQ
          refine i0 (λ_=>i0 (λe=>aG (h _ _ hL.sm (G.1 (eq_of_beq e)))) λe=>J2 _ _ _ (G.2.1 (λz=>e (bB.mpr z))) G.2.2) (λe=>J2 _ _ _ hL ?_);have e:k=na:=by have e:¬na-k>0:=e;omega
          subst e;exact G.2.2
        clear_value jp
        exact i0 (λ_=>J _ _) (λ_=>J _ _)
      · rintro⟨c1,na,nb,o,mg,ac,bc⟩ eP hL;cases c1 with
        |some z=>exact hL.elim
        |none=>exact hL
      · rintro⟨c1,na,nb,o,mg,ac,bc⟩ eP hL;cases c1 with
        |some z=>exact aG hL
        |none=>exact aB (yO λgW gK=>aG (HI.uU hL gK))
  · rintro⟨c1,na,nb,o,mg⟩ eP hL;cases c1 with
    |some z=>exact hL.elim
    |none=>exact HI.wk hL (by omega)
  · rintro⟨c1,na,nb,o,mg⟩ eP hL;cases c1 with
    |some z=>exact aG hL
    |none=>exact(HI.full hL).elim
end
def seg(l:List Keyed)(s n:Nat):List Keyed:=(l.drop s).take n
theorem B3{l:List Keyed}{s n:Nat}(h:s+n<=l.length):(seg l s n).length=n:=by simp[seg];omega
theorem X3(l:List Keyed)(s n k:Nat):(seg l s n)[k]?=if k<n then l[s+k]? else none:=by
 unfold seg;rw[Mn];split<;>simp
theorem CS(l:List Keyed)(s n m:Nat):seg l s (n+m)=seg l s n++seg l (s+n) m:=by
 unfold seg;rw[List.take_add,gN]
theorem Dx{l l':List Keyed}{s n:Nat}(h:∀k,s<=k->k<s+n->l'[k]?=l[k]?):seg l' s n=seg l s n:=by
 apply cz;intro k;rw[X3,X3];by_cases hk:k<n
 ·rw[aI hk,aI hk];exact h _ (by omega) (by omega)
 ·rw[aC hk,aC hk]
def put(l:List Keyed)(s:Nat)(m:List Keyed):List Keyed:=l.take s++(m++l.drop (s+m.length))
theorem M7{l:List Keyed}{s:Nat}{m:List Keyed}(h:s+m.length<=l.length)(k:Nat):(put l s m)[k]?=if s<=k/\k<s+m.length then m[k-s]? else l[k]?:=by
 unfold put;rw[Aa,cT,Nat.min_eq_left (by omega)];by_cases h1:k<s
 ·rw[aI h1,aC (by omega),Mn,aI h1]
 ·rw[aC h1,Aa];by_cases h2:k-s<m.length
  ·rw[aI h2,aI (by omega)]
  ·rw[aC h2,aC (by omega),List.getElem?_drop];congr 1;omega
theorem Ug{l:List Keyed}{s:Nat}{m:List Keyed}(h:s+m.length<=l.length):seg (put l s m) s m.length=m:=by
 apply cz;intro k;rw[X3,M7 h];by_cases hk:k<m.length
 ·rw[aI hk,aI (by omega)];congr 1;omega
 ·rw[aC hk,aT (by omega)]
theorem a35{l:List Keyed}{s:Nat}{m:List Keyed}(h:m.Perm (seg l s m.length)):(put l s m).Perm l:=by
 have e:l=l.take s++(seg l s m.length++l.drop (s+m.length)):=by
  unfold seg;rw[<- gN,bP,bP]
 conv=>rhs;rw[e]
 exact eE _ (fI _ h)
theorem Lu:∀(m:List Keyed) (s j:Nat) (a:Array Keyed),s+j+m.length<=a.size->((m.zipIdx j).foldl (λa (p:Keyed×Nat)=>a.setIfInBounds (s+p.2) p.1) a).toList=put a.toList (s+j) m
 |[],s,j,a,h=>by simp[put]
 |p::m,s,j,a,h=>by
  rw[List.zipIdx_cons,nr,Lu m s (j+1) _ (by simp at h ⊢;omega)];have h1:s+j+(p::m).length<=a.toList.length:=by simpa using h
  have h2:s+(j+1)+m.length<=(a.setIfInBounds (s+j) p).toList.length:=by simp at h ⊢;omega
  apply cz;intro k;rw[M7 h1,M7 h2];simp only[Array.toList_setIfInBounds,List.getElem?_set,List.length_cons,Array.length_toList] at h ⊢;by_cases h3:s+(j+1)<=k/\k<s+(j+1)+m.length
  ·rw[aI h3,aI (by omega),show k-(s+j)=(k-(s+(j+1)))+1 by omega,tm]
  ·rw[aC h3];by_cases e:s+j=k
   ·subst e;rw[aI rfl,aI (by omega),aI (by omega),Nat.sub_self];rfl
   ·rw[aC e,aC (by omega)]
theorem a34{l z:List Keyed}{s k r:Nat}(h:s+k+z.length+r<=l.length):put l (s+k) z=put l s (seg l s k++(z++seg l (s+k+z.length) r)):=by
 have e:(seg l s k++(z++seg l (s+k+z.length) r)).length=k+z.length+r:=by
  rw[bj,bj,B3 (by omega),B3 (by omega)];omega
 have e2:l.drop (s+k+z.length)=seg l (s+k+z.length) r++l.drop (s+(k+z.length+r)):=by
  unfold seg;rw[show s+(k+z.length+r)=s+k+z.length+r by omega,<- gN (i:=r),bP]
 unfold put;rw[e,List.take_add,e2];simp only[seg,List.append_assoc]
theorem Tn{a1 a2 b1 b2 m:List Keyed}(sa:(a1++a2).Pairwise le)(sb:(b1++b2).Pairwise le)(hm:Fn le (a2++b1) m)(h1:∀p∈a1,∀q∈b1++b2,le p q)(h2:∀p∈a2,∀q∈b2,le p q):(a1++(m++b2)).Pairwise le:=by
 obtain⟨x1,x2,x3⟩:=aS.mp sa;obtain⟨y1,y2,y3⟩:=aS.mp sb;have mm:∀p∈m,p∈a2\/p∈b1:=λp hp=>aU.mp (hm.1.mem_iff.mp hp);refine aS.mpr ⟨x1,aS.mpr ⟨hm.2,y2,λp hp q hq=>?_⟩,λp hp q hq=>?_⟩
 ·rcases mm p hp with hp|hp
  ·exact h2 p hp q hq
  ·exact y3 p hp q hq
 ·rcases aU.mp hq with hq|hq
  ·rcases mm q hq with hq|hq
   ·exact x3 p hp q hq
   ·exact h1 p hp q (bA _ hq)
  ·exact h1 p hp q (aN _ hq)
def AD:Nat->StateT SortSt Sem Bool:=sortPriv% PySem.Builtin.mergeAt
section
variable{prog:Program}{w:World}{A:Around}{E:Value->Shared->Prop}{s:Shared}
theorem UT{σ:Type}{M:Model}{x st:σ}{Q:PUnit->σ->Prop}(h:Q ⟨⟩ x):wpS M A E s (set x:StateT σ Sem PUnit) Q st:=by
 unfold wpS;rw[StateT.run_set];exact ak ⟨rfl,h⟩
theorem QJ{st:SortSt}{i sa na pw sb nb tD:Nat}{Q:Bool->SortSt->Prop}(hk:kindOf st=oneType')(GK:failedOf st=none)(gX:∀p∈(arrOf st).toList,IK p)(e1:(pendingOf st)[i]?=some (sa,na,pw))(e2:(pendingOf st)[i+1]?=some (sb,nb,tD))(Pf:sb=sa+na)(hn:sb+nb<=(arrOf st).size)(OR:0<na)(h0b:0<nb)(ha:(seg (arrOf st).toList sa na).Pairwise le)(hb:(seg (arrOf st).toList sb nb).Pairwise le)(h:∀ aX m,m.length=na + nb->m.Pairwise le->m.Perm (seg (arrOf st).toList sa (na + nb))->kindOf aX=oneType'->failedOf aX=none->(arrOf aX).toList=put (arrOf st).toList sa m ->
   pendingOf aX=((pendingOf st).setIfInBounds i (sa,na + nb,pw)).eraseIdxIfInBounds (i + 1)->Q true aX):wpS (model prog w) A E s (AD i) Q st:=by
 obtain⟨kd,X,pd,mg,fl⟩:=st;dsimp only[arrOf,kindOf,pendingOf,failedOf] at *;subst hk GK;unfold AD;refine aB (mP ?_);rw[e1,e2];refine aB (m:=set _) (UT ?_);have hsz:X.toList.length=X.size:=by simp
 have tP:sb<X.size:=by omega
 refine aB (z9 (p:=X[sb]) (cB _ sb tP) ?_);have IX:∀t (ht:t<X.size),IK X[t]:=λt ht=>gX _ (by simp);have xF:∀u n,u+n<=X.size->(seg X.toList u n).Pairwise le->∀i j (hj:j<X.size) (iB:i<=j),u<=i->j<u+n->kn X[i]<=kn X[j]:=by
  intro u n hun hp i j hj iB h1 h2;by_cases e:i=j
  ·subst e;exact dR _
  ·have l1:=B3 (l:=X.toList) (s:=u) (n:=n) (by omega);have:=du.mp hp (i-u) (j-u) (by omega) (by omega) (by omega);simp only[seg,List.getElem_take,List.getElem_drop,show u+(i-u)=i by omega,show u+(j-u)=j by omega,Array.getElem_toList] at this;exact this
 refine aB (uf (xs:=X) rfl (IX sb tP) gX (xF sa na (by omega) ha) (by omega) OR λk lG kq lg=>?_);have ea:seg X.toList sa na=seg X.toList sa k++seg X.toList (sa+k) (na-k):=by rw[<- CS];congr 1;omega
 have wt:seg X.toList sa (na+nb)=seg X.toList sa na++seg X.toList sb nb:=by rw[CS,Pf]
 have iE:∀q∈seg X.toList sb nb,kn X[sb]<=kn q:=by
  intro q hq;obtain⟨t,ht,rfl⟩:=bz.mp hq;rw[B3 (by omega)] at ht;simp only[seg,List.getElem_take,List.getElem_drop,Array.getElem_toList];exact xF sb nb hn hb sb (sb+t) (by omega) (by omega) (by omega) (by omega)
 have X1:∀p∈seg X.toList sa k,∀q∈seg X.toList sb nb,le p q:=λp hp q hq=>fJ (EH (kq p hp)) (iE q hq);have keep:(∀p∈seg X.toList (sa+k) (na-k),∀q∈seg X.toList sb nb,le p q)->∀aX,kindOf aX=oneType'->failedOf aX=none->arrOf aX=X->pendingOf aX=(pd.setIfInBounds i (sa,na+nb,pw)).eraseIdxIfInBounds (i+1)->Q true aX:=by
  intro hc aX g1 g2 g3 g4;have l2:(seg X.toList sa (na+nb)).length=na+nb:=B3 (by omega);refine h aX (seg X.toList sa (na+nb)) l2 ?_ (gO _) g1 g2 ?_ g4
  ·rw[wt];refine aS.mpr ⟨ha,hb,λp hp q hq=>?_⟩;rw[ea] at hp;rcases aU.mp hp with hp|hp
   ·exact X1 p hp q hq
   ·exact hc p hp q hq
  ·show(arrOf aX).toList=_;rw[g3];unfold put;rw[l2];unfold seg;rw[<- gN,bP,bP]
 dsimp only;refine i0 (λhe=>?_) (λhe=>?_)
 ·have he:na-k=0:=by simpa using he
  refine aG (keep (λp hp=>?_) _ rfl rfl rfl rfl);rw[he] at hp;simp[seg] at hp
 have GB:0<na-k:=by simp at he;omega
 rw[show sa+k+(na-k)-1=sb-1 by omega];have tK:sb-1<X.size:=by omega
 refine aB (z9 (p:=X[sb-1]) (cB X (sb-1) tK) ?_);refine aB (uf (xs:=X) rfl (IX _ tK) gX (xF sb nb hn hb) hn (by omega) λt ht1 Gv Nv=>?_);have yh:∀p∈seg X.toList (sa+k) (na-k),kn p<=kn X[sb-1]:=by
  intro q hq;obtain⟨u,hu,rfl⟩:=bz.mp hq;rw[B3 (by omega)] at hu;simp only[seg,List.getElem_take,List.getElem_drop,Array.getElem_toList];exact xF sa na (by omega) ha (sa+k+u) (sb-1) tK (by omega) (by omega) (by omega)
 have eb:seg X.toList sb nb=seg X.toList sb t++seg X.toList (sb+t) (nb-t):=by rw[<- CS];congr 1;omega
 have X2:∀p∈seg X.toList (sa+k) (na-k),∀q∈seg X.toList (sb+t) (nb-t),le p q:=λp hp q hq=>fJ (yh p hp) (DM (Nv q hq));dsimp only;refine i0 (λhe=>?_) (λhe=>?_)
 ·have he:t=0:=by simpa using he
  subst he;refine aG (keep (λp hp q hq=>?_) _ rfl rfl rfl rfl);exact X2 p hp q hq
 have ht:0<t:=by simp at he;omega
 have pj:(X.extract (sa+k) sb).toList=seg X.toList (sa+k) (na-k):=by
  rw[dB,List.extract_eq_drop_take];unfold seg;congr 1;omega
 have ph:(X.extract sb (sb+t)).toList=seg X.toList sb t:=by
  rw[dB,List.extract_eq_drop_take];unfold seg;congr 1;omega
 rw[ea] at ha;rw[eb] at hb;have s1:=(aS.mp ha).2.1;have s2:=(aS.mp hb).1;have z1:(X.extract (sa+k) sb).size=na-k:=by simp;omega
 have z2:(X.extract sb (sb+t)).size=t:=by simp;omega
 have sub:∀u n p,p∈seg X.toList u n->IK p:=λu n p hp=>gX p (zZ (dy hp));have Gm:∀p∈(X.extract (sa+k) sb).toList++(X.extract sb (sb+t)).toList,IK p:=by
  rw[pj,ph];intro p hp;rcases aU.mp hp with hp|hp
  ·exact sub _ _ p hp
  ·exact sub _ _ p hp
 have y0:∀h,kn ((X.extract sb (sb+t))[0]'h)=kn X[sb]:=λh=>by simp
 have xl:∀h,kn ((X.extract (sa+k) sb)[(X.extract (sa+k) sb).size-1]'h)=kn X[sb-1]:=λh=>by
  simp only[Array.getElem_extract];congr 2;omega
 have lst:∀z,(seg X.toList (sa+k) (na-k)).getLast?=some z->kn z=kn X[sb-1]:=by
  intro z hz;rw[List.getLast?_eq_getElem?,B3 (by omega),X3,aI (by omega),show sa+k+(na-k-1)=sb-1 by omega,ao (by omega)] at hz;cases hz;simp
 refine i0 (λhc=>?_) (λhc=>?_);refine aB (QL rfl Gm (by omega) (by omega) ⟨gO _,List.Pairwise.nil,by rw[pj];exact s1,by rw[ph];exact s2,λp hp=>absurd hp mf,λq hq z hz=>?_⟩ (λp hp=>?_) λz aX hs hz=>?_)
 ·rw[pj] at hz;rw[ph] at hq;show kn q<=kn z;rw[lst z hz];exact cC (zI (Gv q hq))
 ·rw[pj] at hp;rw[y0];exact cC (yE (lg p hp))
 rotate_left
 refine aB (QK rfl Gm (by omega) (by omega) (by rw[pj];exact s1) (by rw[ph];exact s2) ⟨?_,List.Pairwise.nil,?_,?_,λp hp=>absurd hp mf,λq hq z hz=>?_⟩ (λp hp=>?_) λz aX hs hz=>?_)
 ·rw[wV,wV,nk];exact(List.Perm.append (lx _) (lx _)).trans js
 ·rw[wV,ph];exact jt.mpr s2
 ·rw[wV,pj];exact jt.mpr s1
 ·have hq:=Kl hq;rw[pj] at hq;rw[wV,List.getLast?_reverse,ph,List.head?_eq_getElem?,X3,aI ht,ao (by simp;omega)] at hz;cases hz;exact cC (by simpa using yE (lg q hq))
 ·rw[ph] at hp;rw[xl];exact cC (zI (Gv p hp))
 all_goals
  refine aB (mO (aB (mP (aG ?_))));show Q (failedOf aX).isNone _;rw[hs.2.2.2];have Nm:z.toList.length=na-k+t:=by rw[hz.1.length_eq,bj,pj,ph,B3 (by omega),B3 (by omega)]
  rw[pj,ph] at hz;have hA:(seg X.toList sa k).length=k:=B3 (by omega);have hB:(seg X.toList (sb+t) (nb-t)).length=nb-t:=B3 (by omega);refine h _ (seg X.toList sa k++(z.toList++seg X.toList (sb+t) (nb-t))) (by rw[bj,bj,hA,hB];omega) (Tn ha hb hz (by rw[<- eb];exact X1) X2) ?_ hs.1 hs.2.2.2 ?_ hs.2.2.1
  ·rw[wt,ea,eb,bH];refine eE _ ?_;rw[<- bH];exact fI _ hz.1
  ·have:=Lu z.toList (sa+k) 0 (arrOf aX) (by rw[hs.2.1];show sa+k+0+_<=X.size;omega);refine Eq.trans this ?_;rw[hs.2.1];have:=a34 (l:=X.toList) (z:=z.toList) (s:=sa) (k:=k) (r:=nb-t) (by omega);rw[show sa+k+z.toList.length=sb+t by omega] at this;exact this
end
structure Nr(st aX:SortSt)(lo hi:Nat):Prop where
 kd:kindOf aX=oneType'
 fl:failedOf aX=none
 pd:pendingOf aX=pendingOf st
 pm:(arrOf aX).Perm (arrOf st)
 out:∀k,k<lo\/hi<=k->(arrOf aX)[k]?=(arrOf st)[k]?
theorem Nr.arr{st aX:SortSt}{lo hi:Nat}(h:Nr st aX lo hi){xs:Array Keyed}(hp:xs.Perm (arrOf aX))(ho:∀k,k<lo\/hi<=k->xs[k]?=(arrOf aX)[k]?):Nr st (setArr aX xs) lo hi :=
 ⟨h.kd,h.fl,h.pd,hp.trans h.pm,λk hk=>(ho k hk).trans (h.out k hk)⟩
def SB(xs:Array Keyed)(lo m:Nat):Prop:=∀i j,lo<=i->i<=j->j<lo+m->K xs i<=K xs j
def ND(xs:Array Keyed)(lo m:Nat):Prop:=∀i j,lo<=i->i<=j->j<lo+m->K xs j<=K xs i
theorem SB.one(xs:Array Keyed)(lo:Nat):SB xs lo 1:=λi j a b c=>by
 have:i=j:=by omega
 subst this;exact dR _
theorem SB.more{xs:Array Keyed}{lo x:Nat}(h:SB xs lo x)(h0:0<x)(hc:¬K xs (lo+x)<K xs (lo+x-1)):SB xs lo (x+1):=by
 intro i j h1 h2 h3;by_cases hj:j<lo+x
 ·exact h i j h1 h2 hj
 ·have:j=lo+x:=by omega
  subst this;by_cases hi:i=lo+x
  ·subst hi;exact dR _
  ·exact fJ (h i (lo+x-1) h1 (by omega) (by omega)) (gP.mp hc)
theorem ND.more{xs:Array Keyed}{lo x:Nat}(h:ND xs lo x)(h0:0<x)(hc:K xs (lo+x)<=K xs (lo+x-1)):ND xs lo (x+1):=by
 intro i j h1 h2 h3;by_cases hj:j<lo+x
 ·exact h i j h1 h2 hj
 ·have:j=lo+x:=by omega
  subst this;by_cases hi:i=lo+x
  ·subst hi;exact dR _
  ·exact fJ hc (h i (lo+x-1) h1 (by omega) (by omega))
theorem ND.same{xs ys:Array Keyed}{lo m:Nat}(h:ND xs lo m)(hk:∀k,K ys k=K xs k):ND ys lo m:=λi j a b c=>by rw[hk,hk];exact h i j a b c
section
variable{prog:Program}{w:World}{A:Around}{E:Value->Shared->Prop}{s:Shared}
theorem HH{xs:Array Keyed}{i:Nat}(hi:i<xs.size)(hk:IK xs[i]):∃t q,xs[i]?=some (.int (K xs i) t,q):=by
 obtain⟨n,t,e⟩:=hk;refine⟨t,xs[i].2,?_⟩;have e2:xs[i]?=some xs[i]:=cB _ i hi;have e3:xs[i]=(.int n t,xs[i].2):=zW e rfl;unfold K;rw[e2,e3]
 rfl
theorem vj{st:SortSt}{i j:Nat}{Q:Option Bool->SortSt->Prop}(hk:kindOf st=oneType')(h0:∀p∈(arrOf st).toList,IK p)(hi:i<(arrOf st).size)(hj:j<(arrOf st).size)(h:Q (some (decide (K (arrOf st) i<K (arrOf st) j))) st) :
  wpS (model prog w) A E s (ltAt' i j) Q st:=by
 obtain⟨t,p,e1⟩:=HH hi (h0 _ (by simp));obtain⟨u,q,e2⟩:=HH hj (h0 _ (by simp));exact wpS_ltAt hk e1 e2 h
theorem Qk{st:SortSt}{lo n ok:Nat}{Q:Bool->SortSt->Prop}(hk:kindOf st=oneType')(hf:failedOf st=none)(h0:∀p∈(arrOf st).toList,IK p)(hn:lo+n<=(arrOf st).size)(cb:ok<=n)(hs:SB (arrOf st) lo ok)(h:∀aX,Nr st aX lo (lo+n)->SB (arrOf aX) lo n->Q true aX):wpS (model prog w) A E s (binarySort' lo n ok) Q st:=by
 unfold binarySort';refine aB (wpS_mono (dE (I:=λk (c:Option Bool × Unit) aX=>c=(none,())/\Nr st aX lo (lo + n)/\SB (arrOf aX) lo (min k n))
  (Q:=λc aX=>c=(none,())/\Nr st aX lo (lo + n)/\SB (arrOf aX) lo n) ?_ ?_ ⟨rfl,⟨hk,hf,rfl,nu _,λ_ _=>rfl⟩,?_⟩) ?_)
 ·rintro k c aX hak hkn ⟨rfl,hN,jc⟩;rw[show min k n=k by omega] at jc;have hsz:(arrOf aX).size=(arrOf st).size:=hN.pm.size_eq;have tX:∀p∈(arrOf aX).toList,IK p:=λp hp=>h0 p ((bX.mp hN.pm).mem_iff.mp hp);refine aB (wpS_mono (dE (I:=λx (c:Option Bool × Nat × Nat) gR=>gR=aX/\c.1=none/\c.2.1 <= c.2.2/\c.2.2 <= k/\c.2.2 - c.2.1 <= k - x /\
    (∀ i,lo <= i->i < lo + c.2.1->K (arrOf aX) i <= K (arrOf aX) (lo + k))/\(∀ i,lo + c.2.2 <= i->i < lo + k->K (arrOf aX) (lo + k) < K (arrOf aX) i))
   (Q:=λc gR=>gR=aX/\c.1=none/\c.2.1<=k/\(∀i,lo<=i->i<lo+c.2.1->K (arrOf aX) i<=K (arrOf aX) (lo+k))/\(∀i,lo+c.2.1<=i->i<lo+k->K (arrOf aX) (lo+k)<K (arrOf aX) i)) ?_ ?_
   ⟨rfl,rfl,cF _,av _,av _,λi h1 h2=>absurd h2 (by dsimp only;omega),λi h1 h2=>absurd h2 (by dsimp only at h1;omega)⟩) ?_)
  ·rintro x ⟨c1,l,r⟩ gR _ hx ⟨rfl,rfl,q1,q2,q3,q4,q5⟩;dsimp only at q1 q2 q3 q4 q5;refine i0 (λjN=>?_) (λjN=>?_)
   ·have:l=r:=by dsimp only at jN;omega
    subst this;exact aG ⟨rfl,rfl,q2,q4,q5⟩
   ·have jN:l<r:=by dsimp only at jN;omega
    refine aB (vj hN.kd tX (by rw[hsz];omega) (by rw[hsz];dsimp only;omega) ?_);refine i0 (λhc=>?_) (λhc=>?_)
    ·have hc:=bg hc;exact aG ⟨rfl,rfl,by dsimp only;omega,by dsimp only;omega,by dsimp only;omega,q4,λi h1 h2=>Int.lt_of_lt_of_le hc (jc _ _ (by omega) h1 h2)⟩
    ·have hc:=gP.mp λz=>hc (az z);exact aG ⟨rfl,rfl,by dsimp only;omega,q2,by dsimp only;omega,λi h1 h2=>fJ (jc i (lo+(l+r) / 2) h1 (by dsimp only at h2;omega) (by omega)) hc,q5⟩
  ·rintro⟨c1,l,r⟩ gR ⟨rfl,rfl,q1,q2,q3,q4,q5⟩;dsimp only at q1 q2 q3 q4 q5;have:l=r:=by omega
   subst this;exact⟨rfl,rfl,q2,q4,q5⟩
  ·rintro⟨c1,l,r⟩ gR ⟨rfl,rfl,q1,q2,q3⟩;dsimp only at q1 q2 q3 ⊢;have vH:lo+k<(arrOf gR).size:=by rw[hsz];omega
   refine aB (mO (aG ⟨rfl,hN.arr (bubble_perm _ (lo+k) (lo+k-(lo+l))) (λt ht=>?_),?_⟩))
   ·show(bubble (arrOf gR) (lo+k) (lo+k-(lo+l)))[t]?=_;rw[getElem?_bubble vH _ (by omega),aC (by omega),aC (by omega)]
   ·rw[show min (k+1) n=k+1 by omega];intro i j h1 iB hj;show K (bubble (arrOf gR) (lo+k) (lo+k-(lo+l))) i<=K (bubble (arrOf gR) (lo+k) (lo+k-(lo+l))) j;rw[K_bubble vH (by omega),K_bubble vH (by omega),show lo+k-(lo+k-(lo+l))=lo+l by omega]
    repeat' split
    all_goals first
     |(exfalso;omega)
     |exact dR _
     |exact q2 _ (by omega) (by omega)
     |exact cC (q3 _ (by omega) (by omega))
     |exact jc _ _ (by omega) (by omega) (by omega)
 ·rintro c aX ⟨rfl,hN,jc⟩;refine⟨rfl,hN,?_⟩
  rwa [show min (max (max ok 1) n) n=n by omega] at jc
 ·intro i j h1 iB hj;by_cases e:ok=0
  ·have:i=j:=by omega
   subst this;exact dR _
  ·exact hs i j h1 iB (by omega)
 ·rintro c aX ⟨rfl,hN,jc⟩;exact aG (h aX hN jc)
theorem Nr.xP{st aX:SortSt}{lo hi i j:Nat}(h:Nr st aX lo hi)(h1:lo<=i)(h2:j<=hi)(h3:j<=(arrOf aX).size):Nr st (setArr aX (mirror (arrOf aX) i j ((j-i) / 2))) lo hi :=
 h.arr (mirror_perm _ _ _ _) λk hk=>by rw[getElem?_mirror_all h3,aC (by omega)]
theorem RI{st:SortSt}{lo gp:Nat}{Q:Option Nat->SortSt->Prop}(hk:kindOf st=oneType')(hf:failedOf st=none)(h0:∀p∈(arrOf st).toList,IK p)(hn:lo+gp<=(arrOf st).size)(h1:1<=gp)(h:∀m aX,Nr st aX lo (lo+gp)->1<=m->m<=gp->SB (arrOf aX) lo m->Q (some m) aX):wpS (model prog w) A E s (countRun' lo gp) Q st:=by
 have asc:∀aX n,Nr st aX lo (lo+gp)->1<=n->n<=gp->SB (arrOf aX) lo n->∀(F:Nat->Option (Option Nat)×Nat->StateT SortSt Sem (ForInStep (Option (Option Nat)×Nat))),
   (F=λ_ c=>ltAt' (lo + c.2) (lo + c.2 - 1) >>= λr=>match r with
    |some b=>if b=true then pure (.done (none,c.2)) else pure (.yield (none,c.2+1))
    | x=>pure (.done (some none,c.2))) ->
   wpS (model prog w) A E s (forIn [n:gp] (none,n) F) (λc gR=>gR=aX/\c.1=none/\1<=c.2/\c.2<=gp/\SB (arrOf aX) lo c.2/\(c.2=gp\/K (arrOf aX) (lo+c.2)<K (arrOf aX) (lo+c.2-1))) aX:=by
  intro aX n hN h2 h3 hs F e;subst e;have hsz:(arrOf aX).size=(arrOf st).size:=hN.pm.size_eq;have tX:∀p∈(arrOf aX).toList,IK p:=λp hp=>h0 p ((bX.mp hN.pm).mem_iff.mp hp);refine dE (I:=λx c gR=>gR=aX/\c=(none,x)/\1<=x/\SB (arrOf aX) lo x) ?_ ?_ ⟨rfl,rfl,h2,hs⟩
  ·rintro x c gR GV Gs ⟨rfl,rfl,q1,q2⟩;refine aB (vj hN.kd tX (by rw[hsz];dsimp only;omega) (by rw[hsz];dsimp only;omega) ?_);refine i0 (λhc=>?_) (λhc=>?_)
   ·exact aG ⟨rfl,rfl,q1,by dsimp only;omega,q2,.inr (bg hc)⟩
   ·exact aG ⟨rfl,rfl,by omega,q2.more (by omega) λz=>hc (az z)⟩
  ·rintro c gR ⟨rfl,rfl,q1,q2⟩;rw[show max n gp=gp by omega] at q1 q2 ⊢;exact⟨rfl,rfl,q1,av _,q2,.inl rfl⟩
 have N0:Nr st st lo (lo+gp):=⟨hk,hf,rfl,nu _,λ_ _=>rfl⟩
 unfold countRun';refine aB (wpS_mono (asc st 1 N0 (av _) h1 (SB.one _ _) _ rfl) ?_);rintro⟨c1,n⟩ eP ⟨rfl,rfl,xX,mZ,hs,Gz⟩;dsimp only at xX mZ hs Gz ⊢;refine i0 (λhe=>aG (h n eP N0 xX mZ hs)) (λhe=>?_);have hnn:n<gp:=by simp at he;omega
 have dO:K (arrOf eP) (lo+n)<K (arrOf eP) (lo+n-1):=Gz.resolve_left (by omega);refine i0 (λhg=>?_) (λhg=>?_);refine aB (vj hk h0 (by omega) (by omega) ?_);refine i0 (λhc=>aG (h n eP N0 xX mZ hs)) (λhc=>?_);have hc:=gP.mp λz=>hc (az z);have kr:∀k,lo<=k->k<lo+n->K (arrOf eP) k=K (arrOf eP) (lo+n-1):=by
  intro k lG kq;have a1:=hs lo k (av _) lG kq;have a2:=hs k (lo+n-1) lG (by omega) (by omega);omega
 refine aB (wpS_reverse ?_);have hN:=N0.xP (i:=lo) (j:=lo+n) (av _) (by omega) (by omega);have hD:ND (arrOf (setArr eP (mirror (arrOf eP) lo (lo+n) ((lo+n-lo) / 2)))) lo (n+1):=by
  refine ND.more (x:=n) (ND.same (xs:=arrOf eP) (λi j a b c=>?_) λk=>jQ (by omega) kr k) (by omega) ?_
  ·rw[kr i a (by omega),kr j (by omega) c];exact dR _
  ·rw[jQ (by omega) kr,jQ (by omega) kr];exact cC dO
 generalize setArr eP (mirror (arrOf eP) lo (lo+n) ((lo+n-lo) / 2))=gW at hN hD ⊢
 rotate_left
 have AX:n=1:=by omega
 subst AX;have hN:=N0;have hD:ND (arrOf eP) lo (1+1):=ND.more (x:=1) (λi j a b c=>by rw[show i=j by omega];exact dR _) (by decide) (cC dO)
 all_goals
  refine aB (pM (cX ⟨rfl,?_⟩));refine aB (wpS_mono (dE (I:=λx (c:Option (Option Nat) × Nat × Nat) aX=>c.1=none/\c.2.1=x/\Nr eP aX lo (lo + gp)/\ND (arrOf aX) lo x/\c.2.2 + 1 <= x/\∀ i,lo + x - (c.2.2 + 1) <= i->i < lo + x->K (arrOf aX) i=K (arrOf aX) (lo + x - 1))
   (Q:=λc aX=>c.1=none/\1<=c.2.1/\c.2.1<=gp/\Nr eP aX lo (lo+gp)/\ND (arrOf aX) lo c.2.1/\c.2.2+1<=c.2.1/\∀i,lo+c.2.1-(c.2.2+1)<=i->i<lo+c.2.1->K (arrOf aX) i=K (arrOf aX) (lo+c.2.1-1)) ?_ ?_
   ⟨rfl,rfl,hN,hD,by dsimp only;omega,λi a b=>by dsimp only at a;congr 1;omega⟩) ?_)
  ·rintro x ⟨c1,c2,q⟩ aX GV Gs ⟨rfl,rfl,lT,jc,hq,lh⟩;dsimp only at GV Gs jc hq lh ⊢;have hsz:(arrOf aX).size=(arrOf eP).size:=lT.pm.size_eq;have tX:∀p∈(arrOf aX).toList,IK p:=λp hp=>h0 p ((bX.mp lT.pm).mem_iff.mp hp);refine aB (vj lT.kd tX (by rw[hsz];omega) (by rw[hsz];omega) ?_);refine i0 (λhc=>?_) (λhc=>?_)
   ·have hm:=jc.more (by omega) (cC (bg hc));refine i0 (λhg=>?_) (λhg=>?_)
    ·exact aB (wpS_reverse (aG ⟨rfl,rfl,lT.xP (by omega) (by omega) (by rw[hsz];omega),hm.same λk=>jQ (by rw[hsz];omega) lh k,by dsimp only;omega,λi a b=>by dsimp only at a;congr 1;omega⟩))
    ·exact aG ⟨rfl,rfl,lT,hm,by dsimp only;omega,λi a b=>by dsimp only at a;congr 1;omega⟩
   ·have hc:=gP.mp λz=>hc (az z);refine aB (vj lT.kd tX (by rw[hsz];omega) (by rw[hsz];omega) ?_);refine i0 (λhd=>aG ⟨rfl,by dsimp only;omega,by dsimp only;omega,lT,jc,hq,lh⟩) (λhd=>?_);have hd:=gP.mp λz=>hd (az z);refine aG ⟨rfl,rfl,lT,jc.more (by omega) hd,by dsimp only;omega,λi a b=>?_⟩;rw[show lo+(c2+1)-1=lo+c2 by omega];by_cases e:i=lo+c2
    ·rw[e]
    ·rw[lh i (by dsimp only at a;omega) (by omega)];omega
  ·rintro⟨c1,c2,q⟩ aX ⟨rfl,e2,lT,jc,hq,lh⟩;dsimp only at e2;have e3:c2=gp:=by omega
   rw[<- e2] at jc hq lh;exact⟨rfl,by dsimp only;omega,by dsimp only;omega,lT,jc,hq,lh⟩
  ·rintro⟨c1,n,q⟩ aX ⟨rfl,rJ,GC,lT,jc,hq,lh⟩;dsimp only at rJ GC jc hq lh ⊢;have hsz:(arrOf aX).size=(arrOf eP).size:=lT.pm.size_eq;refine i0 (λhg=>aB (wpS_reverse ?_)) (λhg=>?_);have tS:=lT.xP (i:=lo+n-(q+1)) (j:=lo+n) (by omega) (by omega) (by rw[hsz];omega);have gK:ND (arrOf (setArr aX (mirror (arrOf aX) (lo+n-(q+1)) (lo+n) ((lo+n-(lo+n-(q+1))) / 2)))) lo n:=jc.same λk=>jQ (by rw[hsz];omega) lh k;generalize setArr aX (mirror (arrOf aX) (lo+n-(q+1)) (lo+n) ((lo+n-(lo+n-(q+1))) / 2))=jz at tS gK ⊢
   rotate_left
   have tS:=lT;have gK:=jc
   all_goals
    have hsz2:=tS.pm.size_eq;refine aB (wpS_reverse ?_);have tR:=tS.xP (i:=lo) (j:=lo+n) (av _) (by omega) (by omega);refine aB (wpS_mono (asc _ n tR rJ GC (λi j a b c=>?_) _ rfl) ?_)
    ·show K (mirror _ lo (lo+n) _) i<=K (mirror _ lo (lo+n) _) j;rw[K_mirror (by omega),K_mirror (by omega),aI (by omega),aI (by omega)];exact gK _ _ (by omega) (by omega) (by omega)
    ·rintro⟨c1,m⟩ st4 ⟨rfl,rfl,q1,q2,q3,_⟩;exact aG (h m _ tR q1 q2 q3)
end
def Ch(l:List Keyed):List (Nat×Nat×Nat)->Nat->Nat->Prop
 |[],a,b=>a=b
 |(s,n,_)::r,a,b=>s=a/\0<n/\(seg l a n).Pairwise le/\Ch l r (a+n) b
theorem Ch.le{l:List Keyed}:∀{p:List (Nat×Nat×Nat)} {a b:Nat},Ch l p a b->a+p.length<=b
 |[],a,b,h=>fE h
 |(s,n,w)::r,a,b,⟨_,h1,_,h2⟩=>by have:=Ch.le h2;simp only[List.length_cons];omega
theorem Ch.congr{l l':List Keyed}:∀{p:List (Nat×Nat×Nat)} {a b:Nat},Ch l p a b->(∀k,a<=k->k<b->l'[k]?=l[k]?)->Ch l' p a b
 |[],a,b,h,_=>h
 |(s,n,w)::r,a,b,⟨h0,h1,h2,h3⟩,hc=>by
  have:=Ch.le h3;exact⟨h0,h1,by rw[Dx λk a b=>hc k a (by omega)];exact h2,Ch.congr h3 λk a b=>hc k (by omega) b⟩
theorem Ch.push{l:List Keyed}{n w:Nat}:∀{p:List (Nat×Nat×Nat)} {a b:Nat},Ch l p a b->0<n->(seg l b n).Pairwise TS.le->Ch l (p++[(b,n,w)]) a (b+n)
 |[],a,b,h,h1,h2=>by cases h;exact⟨rfl,h1,h2,rfl⟩
 |(s,m,v)::r,a,b,⟨g0,g1,g2,g3⟩,h1,h2=>⟨g0,g1,g2,Ch.push g3 h1 h2⟩
theorem Ch.pow{l:List Keyed}{f:Nat×Nat×Nat->Nat×Nat×Nat}(hf:∀x,(f x).1=x.1/\(f x).2.1=x.2.1):∀{p:List (Nat×Nat×Nat)} {a b i:Nat},Ch l p a b->Ch l (p.modify i f) a b
 |[],a,b,i,h=>by simpa using h
 |(s,m,v)::r,a,b,0,⟨g0,g1,g2,g3⟩=>by
  obtain⟨x,y⟩:∃z,f (s,m,v)=(s,m,z):=⟨(f (s,m,v)).2.2,zW (hf _).1 (zW (hf _).2 rfl)⟩
  rw[List.modify_zero_cons,y];exact⟨g0,g1,g2,g3⟩
 |(s,m,v)::r,a,b,i+1,⟨g0,g1,g2,g3⟩=>by rw[List.modify_succ_cons];exact⟨g0,g1,g2,Ch.pow hf g3⟩
theorem Ch.merge{l:List Keyed}{b sa na pw sb nb tD:Nat}:∀{i:Nat} {p:List (Nat×Nat×Nat)} {a:Nat},Ch l p a b->p[i]?=some (sa,na,pw)->p[i+1]?=some (sb,nb,tD)->a<=sa/\sb=sa+na/\0<na/\0<nb/\sb+nb<=b/\(seg l sa na).Pairwise TS.le/\(seg l sb nb).Pairwise TS.le /\
  ∀m,m.length=na+nb->m.Pairwise TS.le->b<=l.length->Ch (put l sa m) ((p.set i (sa,na+nb,pw)).eraseIdx (i+1)) a b
 |0,(s,n,w)::(s',n',w')::r,a,⟨g0,g1,g2,g3,g4,g5,g6⟩,e1,e2=>by
  simp only[List.getElem?_cons_zero,List.getElem?_cons_succ,Nat.zero_add,Option.some.injEq,Prod.mk.injEq] at e1 e2;obtain⟨rfl,rfl,rfl⟩:=e1;obtain⟨rfl,rfl,rfl⟩:=e2;subst g0;have:=Ch.le g6;subst g3;refine⟨av _,rfl,g1,g4,by omega,g2,g5,λm hm hs hb=>?_⟩;simp only[List.set_cons_zero,Nat.zero_add,List.eraseIdx_cons_succ,List.eraseIdx_cons_zero];have hl:s+m.length<=l.length:=by omega
  refine⟨rfl,by omega,by rw[<- hm,Ug hl];exact hs,?_⟩;rw[<- Nat.add_assoc];exact Ch.congr g6 λk h1 h2=>by rw[M7 hl,aC (by omega)]
 |i+1,(s,n,w)::r,a,⟨g0,g1,g2,g3⟩,e1,e2=>by
  rw[tm] at e1 e2;obtain⟨h1,h2,h3,h4,h5,h6,h7,h8⟩:=Ch.merge g3 e1 e2;refine⟨by omega,h2,h3,h4,h5,h6,h7,λm hm hs hb=>?_⟩;rw[List.set_cons_succ,List.eraseIdx_cons_succ];refine⟨g0,g1,?_,h8 m hm hs hb⟩;rw[Dx (l:=l) (l':=put l sa m) λk h1 h2=>by rw[M7 (by omega),aC (by omega)]];exact g2
theorem SB.seg{xs:Array Keyed}{lo n:Nat}(hn:lo+n<=xs.size)(h:SB xs lo n):(seg xs.toList lo n).Pairwise le:=by
 rw[du];intro i j hi hj iB;rw[B3 (by simpa using hn)] at hi hj;have:=h (lo+i) (lo+j) (by omega) (by omega) (by omega);rw[K_eq (by omega),K_eq (by omega)] at this;simpa[TS.seg] using this
section
variable{prog:Program}{w:World}{A:Around}{E:Value->Shared->Prop}{s:Shared}
structure Go(a₀:Array Keyed)(st:SortSt)(lo:Nat):Prop where
 kd:kindOf st=oneType'
 fl:failedOf st=none
 pm:(arrOf st).Perm a₀
 ch:Ch (arrOf st).toList (pendingOf st).toList 0 lo
theorem Lb{a₀:Array Keyed}{st:SortSt}{lo i:Nat}{Q:Bool->SortSt->Prop}(h0:∀p∈a₀.toList,IK p)(hG:Go a₀ st lo)(qb:lo<=a₀.size)(hi:i+1<(pendingOf st).size)(h:∀aX,Go a₀ aX lo->(pendingOf aX).size+1=(pendingOf st).size->(∀k,lo<=k->(arrOf aX).toList[k]?=(arrOf st).toList[k]?)->Q true aX):wpS (model prog w) A E s (AD i) Q st:=by
 obtain⟨sa,na,pw,e1⟩:∃sa na pw,(pendingOf st)[i]?=some (sa,na,pw):=⟨_,_,_,cB _ i (by omega)⟩
 obtain⟨sb,nb,tD,e2⟩:∃sb nb tD,(pendingOf st)[i+1]?=some (sb,nb,tD):=⟨_,_,_,cB _ (i+1) hi⟩
 obtain⟨g1,g2,g3,g4,g5,g6,g7,g8⟩:=hG.ch.merge (i:=i) (by simpa using e1) (by simpa using e2);have hsz:=hG.pm.size_eq;have hl:(arrOf st).toList.length=a₀.size:=by simpa using hsz
 refine QJ hG.kd hG.fl (λp hp=>h0 p ((bX.mp hG.pm).mem_iff.mp hp)) e1 e2 g2 (by omega) g3 g4 g6 g7 λaX m m1 m2 m3 m4 m5 m6 m7=>h aX ⟨m4,m5,?_,?_⟩ ?_ ?_
 ·refine Array.Perm.trans (bX.mpr ?_) hG.pm;rw[m6];exact a35 (by rw[m1];exact m3)
 ·rw[m6,m7];have:=g8 m m1 m2 (by omega);simpa using this
 ·rw[m7,<- bt,Array.toList_eraseIdxIfInBounds,List.length_eraseIdx,Array.toList_setIfInBounds,List.length_set,bt,aI hi];omega
 ·intro k hk;rw[m6,M7 (by omega),aC (by omega)]
theorem Nk{c:Prop}[Decidable c]{n:Nat}(h:1<n):(if c then n-2-1 else n-2)+1<n:=by split<;>omega
theorem Go.near{a₀:Array Keyed}{st aX:SortSt}{lo hi:Nat}(h:Go a₀ st lo)(hN:Nr st aX lo hi):Go a₀ aX lo :=
 ⟨hN.kd,hN.fl,hN.pm.trans h.pm,by rw[hN.pd];exact h.ch.congr λk _ hk=>by rw[eG,eG];exact hN.out k (.inl hk)⟩
theorem Ul{a₀:Array Keyed}{st:SortSt}{Q:Unit->SortSt->Prop}(h0:∀p∈a₀.toList,IK p)(hG:Go a₀ st 0)(h2:0<a₀.size)(h:∀aX,(arrOf aX).Perm a₀->failedOf aX=none->(arrOf aX).toList.Pairwise le->Q () aX):wpS (model prog w) A E s sortRuns' Q st:=by
 unfold sortRuns';refine aB (mP ?_);have hsz:∀aX lo,Go a₀ aX lo->(arrOf aX).size=a₀.size:=λaX lo h=>h.pm.size_eq;have e0:=hsz st 0 hG;refine aB (wpS_mono (dE (I:=λx (c:Option Unit × Nat) aX=>c.1=none/\Go a₀ aX c.2/\c.2 <= a₀.size/\x <= c.2)
  (Q:=λc aX=>c.1=none/\Go a₀ aX a₀.size) ?_ ?_ ⟨rfl,hG,cF _,cF _⟩) ?_)
 ·rintro x ⟨c1,lo⟩ eP _ hx ⟨rfl,mI,qb,xR⟩;dsimp only at mI qb xR;rw[e0];refine i0 (λjN=>aG ⟨rfl,?_⟩) (λjN=>?_)
  ·have:lo=a₀.size:=by dsimp only at jN;omega
   rw[<- this];exact mI
  have jN:lo<a₀.size:=by dsimp only at jN;omega
  have z1:=hsz eP lo mI;have i1:∀p∈(arrOf eP).toList,IK p:=λp hp=>h0 p ((bX.mp mI.pm).mem_iff.mp hp);refine aB (RI mI.kd mI.fl i1 (by dsimp only;omega) (by dsimp only;omega) λm gW hN NN NM hs=>?_);dsimp only at hN NM hs ⊢;rw[show lo+(a₀.size-lo)=a₀.size by omega] at hN;have z2:(arrOf gW).size=a₀.size:=hN.pm.size_eq.trans z1;have i2:∀p∈(arrOf gW).toList,IK p:=λp hp=>i1 p ((bX.mp hN.pm).mem_iff.mp hp);have fin:∀jz n,Go a₀ jz lo->0<n->lo+n<=a₀.size->(seg (arrOf jz).toList lo n).Pairwise le->(λc aX=>c.1=none/\Go a₀ aX c.2/\c.2<=a₀.size/\x+1<=c.2:Option Unit×Nat->SortSt->Prop) (none,lo+n) (setPending jz ((pendingOf jz).push (lo,n,0))):=by
   intro jz n hG h1 h2 h3;refine⟨rfl,⟨hG.kd,hG.fl,hG.pm,?_⟩,h2,by dsimp only;omega⟩;show Ch _ ((pendingOf jz).push (lo,n,0)).toList 0 _;rw[dA];exact hG.ch.push h1 h3
  refine i0 (λhc=>?_) (λhc=>?_);refine aB (pM (cX ⟨rfl,?_⟩));refine aB (Qk hN.kd hN.fl i2 (by omega) (by omega) hs λjz tR Gw=>?_);simp only[Bool.not_true,Bool.false_eq_true,if_false];have hc:m<minRun' a₀.size a₀.size 0:=hc;have rJ:lo+min (a₀.size-lo) (minRun' a₀.size a₀.size 0)<=a₀.size:=by omega
  have hq:=Gw.seg (by rw[tR.pm.size_eq,z2];exact rJ);have AY:0<min (a₀.size-lo) (minRun' a₀.size a₀.size 0):=by omega
  have yn:=(mI.near hN).near tR;clear tR Gw hN hs i2 z2;change Go a₀ jz lo at yn
  rotate_left
  have AY:0<m:=NN;have yn:=mI.near hN;have rJ:lo+m<=a₀.size:=by omega
  have hq:=hs.seg (by omega);clear hN hs i2 z2;generalize gW=jz at *
  all_goals
   refine aB (mP ?_);cases hb:(pendingOf jz).back? with
   |none=>exact aB (mO (aG (fin jz _ yn AY rJ hq)))
   |some q =>
    obtain⟨s1,n1,p1⟩:=q;refine aB (wpS_mono (dE (I:=λ_ (c:Option Unit × Unit) aX=>c=(none,())/\Go a₀ aX lo/\∀ k,lo <= k->(arrOf aX).toList[k]?=(arrOf jz).toList[k]?)
     (Q:=λc aX=>c=(none,())/\Go a₀ aX lo/\∀ k,lo <= k->(arrOf aX).toList[k]?=(arrOf jz).toList[k]?) ?_ (λ_ _ z=>z) ⟨rfl,yn,λ_ _=>rfl⟩) ?_)
    ·rintro y c aX _ _ ⟨rfl,kC,jd⟩;refine aB (mP ?_);by_cases hp:(pendingOf aX).size>1
     ·rw[aI hp,cB (pendingOf aX) ((pendingOf aX).size-2) (by omega)];exact i0 (λ_=>aG ⟨rfl,kC,jd⟩) λ_=>aB (Lb h0 kC qb (show(pendingOf aX).size-2+1<(pendingOf aX).size by omega) λmz g1 g2 g3=>aG ⟨rfl,g1,λk hk=>(g3 k hk).trans (jd k hk)⟩)
     ·rw[aC hp];exact aG ⟨rfl,kC,jd⟩
    ·rintro c aX ⟨rfl,kC,jd⟩;refine aB (mO (aB (mO (aG (fin (setPending aX ((pendingOf aX).modify ((pendingOf aX).size-1) _)) _ ⟨kC.kd,kC.fl,kC.pm,?_⟩ AY rJ ?_)))))
     ·show Ch _ ((pendingOf aX).modify _ _).toList 0 lo;rw[Array.toList_modify];refine Ch.pow ?_ kC.ch;exact λx=>⟨rfl,rfl⟩
     ·show(seg (arrOf aX).toList lo _).Pairwise le;rw[Dx λk h1 _=>jd k h1];exact hq
 ·rintro⟨c1,lo⟩ eP ⟨rfl,mI,qb,xR⟩;rw[e0] at xR;have:lo=a₀.size:=by dsimp only at xR qb;omega
  subst this;exact⟨rfl,mI⟩
 ·rintro⟨c1,lo⟩ eP ⟨rfl,mI⟩;dsimp only;rw[e0];refine aB (wpS_mono (dE (I:=λx (c:Option Unit × Unit) aX=>c=(none,())/\Go a₀ aX a₀.size/\(pendingOf aX).size <= max 1 (a₀.size - x))
   (Q:=λc aX=>c=(none,())/\Go a₀ aX a₀.size/\(pendingOf aX).size <= 1) ?_ ?_ ⟨rfl,mI,?_⟩) ?_)
  ·rintro y c aX _ hy ⟨rfl,kC,jd⟩;refine aB (mP ?_);refine i0 (λhp=>aG ⟨rfl,kC,hp⟩) λhp=>?_;have hp:1<(pendingOf aX).size:=Nat.lt_of_not_le hp;refine aB (Lb h0 kC (av _) ?_ λmz g1 g2 g3=>aG ⟨rfl,g1,by omega⟩);exact Nk hp
  ·rintro c aX ⟨rfl,kC,jd⟩;exact⟨rfl,kC,by omega⟩
  ·have:=mI.ch.le;simp at this;show(pendingOf eP).size<=_;omega
  ·rintro c aX ⟨rfl,kC,jd⟩;refine aG (h aX kC.pm kC.fl ?_);have hc:=kC.ch
   match hp:(pendingOf aX).toList with
   |[]=>rw[hp] at hc;exact absurd (show 0=a₀.size from hc) (by omega)
   |[(s1,n1,w1)] =>
    rw[hp] at hc;obtain⟨q1,q2,q3,q4⟩:=hc;have q4:0+n1=a₀.size:=q4;have e:seg (arrOf aX).toList 0 n1=(arrOf aX).toList:=by
     have:=kC.pm.size_eq;unfold seg;rw[List.drop_zero,df (by simp;omega)]
    rw[e] at q3;exact q3
   |_::_::_ =>
    have:(pendingOf aX).toList.length<=1:=by simpa using jd
    rw[hp] at this;simp at this
theorem Lz{a:Addr}{vs:List Value}{ns:List Int}{n:Nat}{P:Fin->Shared->Prop}(ho:s.heap.get? a=some (seqObj "list" vs.toArray n))(hI:IntsAre vs ns)(hl:vs.length<=100000)(h:∀(out:Array Value) (kO:List Int),IntsAre out.toList kO->kO.Perm ns->kO.Pairwise (·<=·)->P (.done (.ret .none)) { s with heap:=sortedHeap s.heap a vs out }):wpAny (model prog w) A (Builtin.«list.sort» ⟨[.ref a],[]⟩) P E s:=by
 by_cases yo:vs.length<64
 ·exact list_sort_tree ho hI yo h
 rw[list_sort_plain];have ha:=ax ho;refine aa (listItems_at ho rfl (aa (listUpdate_at ho rfl ?_)));have pZ:=get?_update_seq ho (λ_=>#[]);refine aa (seqEpoch_at pZ rfl (aa (wpAny_newTuple (aa (Mf (bJ ?_))))));have GA:(((s.heap.update a (Obj.mapSeq λ_=>#[])).push (seqObj "tuple" vs.toArray 0)).push (seqObj "list" #[] 0)).get? a=some (seqObj "list" #[] (if((λ_=>#[]) vs.toArray:Array Value).size==vs.toArray.size then n else n+1)):=by
  rw[Heap.get?_push_ne _ _ _ (by rw[jP,Heap.size_update];exact aE (ig ha)),Heap.get?_push_ne _ _ _ (by rw[Heap.size_update];exact aE ha)];exact pZ
 dsimp only;have h2:¬vs.toArray.size<2:=by simp;omega
 rw[aC h2,aC h2];obtain⟨v1,v2,r,rfl⟩:∃v1 v2 r,vs=v1::v2::r:=by
  match vs,yo with
  |[],h=>simp at h
  |[_],h=>simp at h
  |x::y::r,_=>exact⟨x,y,r,rfl⟩
 rw[keyKind_ints hI];refine aa (ak (aa (bK (Ul (a₀:=pairsOf (v1::v2::r)) (Q:=λ_ aX=>(arrOf aX).Perm (pairsOf (v1::v2::r))/\failedOf aX=none/\(arrOf aX).toList.Pairwise le) hI.intKeys ⟨rfl,rfl,nu _,rfl⟩ (by rw[pairsOf_size];simp) λaX a1 a2 a3=>⟨a1,a2,a3⟩) ?_ λ_ _ e=>e)));rintro⟨⟨⟩,aX⟩ s' ⟨rfl,hp,hf,hs⟩;dsimp only;refine aa (seqEpoch_at GA rfl (aa (listUpdate_at GA rfl ?_ (hsz2:=?_))))
 ·rw[hf];simp only[bne_self_eq_false,Bool.false_eq_true,if_false];obtain⟨kO,q1,q2,q3⟩:=sorted_out hI hp λi j iB hj=>by
   have e:=hp.size_eq;rw[K_eq (by omega),K_eq (by omega)];exact wX hs (by omega) iB
  exact ak (h _ kO q1 q2 q3)
 ·rw[Array.size_map,hp.size_eq,pairsOf_size,jh];omega
end
end TS
namespace L2
open PySem PySem.Spec PyProof.Rows
variable{A:Around}{s:Shared}{elt iter tg:Expr}{ifs:List Expr}{scope:Scope}{pos:Pos}{X:Cx}{cl:List (Str×Addr)}{C:Addr}{x:Str}{N':List Str}{d6:List Nat}{fp:List Addr}{g:TG}{tc:TT}{te:TE}
section
variable{prog:Program}{w:World}{R:Result->Shared->Prop}
theorem aE3{target:Expr}{it acc:Value}{env:Env}(I:Nat->Shared->Prop)(turn:∀ n s,I n s->wpAny (model prog w) A (pyNext it) (λr bS=>match r with
   |none=>R (.ok .next) bS
   | some v=>wpAny (model prog w) A (letOwnedTupleGo target it v) (λ_ bS=>wpAny (model prog w) A (assign target env v) (λ_ iy =>
     wpAny (model prog w) A (forIn ifs true λc r=>if r=true then do let ok <- isTrue c env (eval c env);pure (ForInStep.yield ok) else pure (ForInStep.yield r)) (λok fZ =>
      if ok=true then wpAny (model prog w) A (eval elt env) (λx kl =>
       wpAny (model prog w) A (call (.builtin "list.append") [acc,x]) (λ_ nz=>∃ m,m < n/\I m nz) (λ_ _=>False) kl) (notedBy (model prog w) A env λe s'=>R (.error e) s') fZ
      else ∃ m,m < n/\I m fZ) (λ_ _=>False) iy) (λ_ _=>False) bS) (λ_ _=>False) bS) (λ_ _=>False) s)(n:Nat)(h:I n s) :
  codeAny (model prog w) A (.compLoop (.ListComp elt [⟨target,iter,ifs,0⟩] scope pos) 0 it acc env) R s:=by
 refine codeAny_loop rfl I (λn s hI=>?_) n h;show wpAny _ A ((compTurn (.ListComp elt [⟨target,iter,ifs,0⟩] scope pos) 0 it acc env).onRaise (λx=>do noteFrame x env;theTreesLotGoes x)) _ _ s;refine wpAny_noted ?_;rw[compTurn_list];refine aa (eO (aa (bK (turn n s hI) (λr bS dY=>?_) λ_ _ h'=>h'.elim)));cases r with
 |none=>exact ak dY
 |some v =>
  refine aa (bK dY (λ_ bS dY=>?_) λ_ _ h'=>h'.elim);refine aa (bK dY (λ_ iy jC=>aa (bK jC (λok fZ nK=>?_) λ_ _ h'=>h'.elim)) λ_ _ h'=>h'.elim);cases ok with
  |false=>exact wpAny_pure ⟨rfl,nK⟩
  |true =>
   exact aa (aa (bK nK (λx kl rE=>aa (bK rE (λ_ nz rD=>ak (ak ⟨rfl,rD⟩)) λ_ _ h'=>h'.elim)) λ_ _ h'=>h'))
end
def lZ(X:Cx)(es:List Expr)(t:TT):Prop :=
 ∀(pins:List (Addr×Obj)) (s:Shared) (σ:St) (H:Hp) (Q:Bool->Hp->Prop),Inv X pins σ H s->t σ H Q ->
  wpAny (model X.prog X.w) X.A (forIn es true λc r=>if r=true then do let ok <- isTrue c X.env (eval c X.env);pure (ForInStep.yield ok) else pure (ForInStep.yield r)) (TP X pins σ Q) X.xe s
def Wn:TT:=λ_ H Q=>Q true H
theorem Ud:lZ X [] Wn:=λpins s σ H Q I h=>ak ⟨H,I,h⟩
theorem Ue{c:Expr}{t:TT}(h:PT X c t):lZ X [c] t:=by
 intro pins s σ H Q I q;simp only[List.forIn_cons,List.forIn_nil,if_true];exact aa (aa (bK (h pins s σ H Q I q) (λb s' hb=>ak (ak hb)) λ_ _ x=>x))
def K2(scope:Scope)(cl:List (Str×Addr))(C:Addr):List (Str×Addr):=cellsFrom (C+1) scope.names []++cl
theorem E1:∀(names:List (Str×NameKind)) (n:Nat) (acc:List (Str×Addr)),cellsFrom n names acc=cellsFrom n names []++acc
 |[],_,_=>rfl
 |(y,k)::r,n,acc=>by
  unfold cellsFrom;split
  ·rw[E1 r (n+1) ((y,n)::acc),E1 r (n+1) [(y,n)],bH]
   rfl
  ·exact E1 r n acc
theorem S7{x:Str}{c:Addr}:∀{names:List (Str×NameKind)} {n:Nat},(x,c)∈cellsFrom n names []->(x,NameKind.cell)∈names
 |[],_,h=>by simp[cellsFrom] at h
 |(y,k)::r,n,h=>by
  unfold cellsFrom at h;split at h
  ·rename_i hk;rw[E1] at h;rcases aU.mp h with z|z
   ·exact bG _ (S7 z)
   ·cases bf.mp z;rw[show k=NameKind.cell from by simpa using hk];exact cR
  ·exact bG _ (S7 h)
theorem F9{α:Type}{x:Str}:∀{a b:List (Str×α)},(a++b).lookup x=(a.lookup x).or (b.lookup x)
 |[],_=>rfl
 |(y,v)::r,b=>by
  rw[List.cons_append,cS,cS];cases x==y
  ·exact F9
  ·rfl
theorem IW(h:scope.names.lookup x=some .cell\/∃c,cl.lookup x=some c):∃c,(K2 scope cl C).lookup x=some c:=by
 unfold K2;rw[F9];cases e:(cellsFrom (C+1) scope.names []).lookup x with
 |some c=>exact⟨c,rfl⟩
 |none =>
  rcases h with h|h
  ·have q:=dU scope.names (C+1) [] (.inl h);rw[e] at q;cases q
  ·exact h
theorem M5{env:Env}:∀{names:List (Str×NameKind)} {x:Str},names.lookup x=some .cell ->
  (names.map λ(n,k)=>if(k==NameKind.free&&env.scope.kind==.function&&env.kindOf n==some .cell) then(n,NameKind.cell) else(n,k)).lookup x=some .cell
 |[],_,h=>by simp at h
 |(n,k)::r,x,h=>by
  have ih:=@M5 env r x;show List.lookup x ((if(k==NameKind.free&&env.scope.kind==.function&&env.kindOf n==some .cell)=true then(n,NameKind.cell) else(n,k))::_)=_;cases hx:x==n with
  |true =>
   simp only[List.lookup_cons,hx] at h;cases h;simp[List.lookup_cons,hx]
  |false =>
   simp only[List.lookup_cons,hx] at h;by_cases hc:(k==NameKind.free&&env.scope.kind==.function&&env.kindOf n==some .cell)=true
   ·rw[aI hc];simp only[List.lookup_cons,hx];exact ih h
   ·rw[aC hc];simp only[List.lookup_cons,hx];exact ih h
theorem zy{h:Heap}(ck:CellsOk h (C+1) (cellsFrom (C+1) scope.names [])){c:Addr}(e:(K2 scope cl C).lookup x=some c):C<c\/cl.lookup x=some c:=by
 unfold K2 at e;rw[F9] at e;cases e2:(cellsFrom (C+1) scope.names []).lookup x with
 |some c' =>
  rw[e2] at e;cases e;exact .inl (ck.empty x c (aR e2)).2
 |none =>
  rw[e2] at e;exact .inr e
theorem JZ{M:Model}{E:Value->Shared->Prop}{globals:Addr}{qual:Str}{outer:Env}{Q:Env->Shared->Prop}(hQ:∀ dY:Heap,dY.Ns s.heap.objs.size (λ_=>none)->(∀ b o,s.heap.get? b=some o->dY.get? b=some o)->CellsOk dY (s.heap.objs.size + 1) (cellsFrom (s.heap.objs.size + 1) scope.names []) ->
   Q (newEnv scope s.heap.objs.size globals (K2 scope cl s.heap.objs.size) qual none .none (some outer) builtinsNs) { s with heap:=dY }) :
  wpAny M A (newFunctionEnv scope globals cl [] qual none .none (some outer)) Q E s:=by
 simp only[newFunctionEnv,Option.isSome_some,if_true];refine aa (wpAny_alloc ?_);refine aa (wpAny_layCells _ (λname kind cells=>by cases NR:kind==NameKind.cell<;>simp[NR]) _ _ _ _ ?_);have ok:=cellsFrom_ok scope.names (s.heap.push { cls:=.type "dict",data:=.dict #[] }) (s.heap.objs.size+1) [] ⟨λ_ _ hm=>(nomatch hm),List.Pairwise.nil⟩ (by rw[eB];exact av _);rw[eB] at ok;rw[show({ s with heap:=s.heap.push { cls:=.type "dict",data:=.dict #[] } }:Shared).heap.objs.size=s.heap.objs.size+1 from eB ..];rw[List.forIn_nil];refine aa (ak (ak ?_));rw[E1];exact hQ _ ((Heap.Ns.new s.heap (.type "dict")).keeps (pushCells_keeps _ _)) (λb o e=>pushCells_keeps _ _ b o (ag _ e)) ok
def f7(X:Cx)(pins:List (Addr×Obj))(scope:Scope)(N':List Str)(cl:List (Str×Addr))(C:Addr)(s:Shared)(H:Hp)(fp:List Addr):Cx where
 prog:=X.prog
 w:=X.w
 K:=X.K
 mg:=X.mg
 base:=X.base
 A:=X.A
 N:=N'
 dD:=s
 jO:=H
 env:=compEnvC scope (K2 scope cl C) C X.env
 outer:=X.stack
 stack:=X.stack
 ex:=fp
 calm:=true
 fn:=λx=>decide (scope.names.lookup x=some .cell)
 pn:=X.pn++pins
 xe:=λ_ _=>False
structure dM(X:Cx)(scope:Scope)(N':List Str)(d6:List Nat)(cl:List (Str×Addr)):Prop where
 kind:scope.kind=.function
 cells:∀y∈scope.names,y.2=.cell->scope.names.lookup y.1=some .cell
 names:∀y∈scope.names,y.2=.local->scope.names.lookup y.1=some .local
 sG:closureFor scope X.env=pure cl
 cin:∀x c,cl.lookup x=some c->X.env.cells.lookup x=some c
 wC:∀x,scope.names.lookup x=some .free->∃c,cl.lookup x=some c
 nd:N'.Nodup
 PL:∀(i j:Nat),d6[i]?=some j->∃x,N'[i]?=some x/\X.N[j]?=some x/\scope.names.lookup x=some .free/\(X.env.kindOf x=some .cell\/X.env.kindOf x=some .free)
 Cn:d6.length<=N'.length
theorem E4{env:Env}:∀{names:List (Str×NameKind)} {x:Str},names.lookup x=some .free ->
  (names.map λ(n,k)=>if(k==NameKind.free&&env.scope.kind==.function&&env.kindOf n==some .cell) then(n,NameKind.cell) else(n,k)).lookup x=some .cell \/
  (names.map λ(n,k)=>if(k==NameKind.free&&env.scope.kind==.function&&env.kindOf n==some .cell) then(n,NameKind.cell) else(n,k)).lookup x=some .free
 |[],_,h=>by simp at h
 |(n,k)::r,x,h=>by
  have ih:=@E4 env r x;show List.lookup x ((if(k==NameKind.free&&env.scope.kind==.function&&env.kindOf n==some .cell)=true then(n,NameKind.cell) else(n,k))::_)=_\/List.lookup x ((if(k==NameKind.free&&env.scope.kind==.function&&env.kindOf n==some .cell)=true then(n,NameKind.cell) else(n,k))::_)=_;cases hx:x==n with
  |true =>
   simp only[List.lookup_cons,hx] at h;cases h;by_cases hc:(NameKind.free==NameKind.free&&env.scope.kind==.function&&env.kindOf n==some .cell)=true
   ·rw[aI hc];simp[List.lookup_cons,hx]
   ·rw[aC hc];simp[List.lookup_cons,hx]
  |false =>
   simp only[List.lookup_cons,hx] at h;by_cases hc:(k==NameKind.free&&env.scope.kind==.function&&env.kindOf n==some .cell)=true
   ·rw[aI hc];simp only[List.lookup_cons,hx];exact ih h
   ·rw[aC hc];simp only[List.lookup_cons,hx];exact ih h
theorem M6{env:Env}:∀{names:List (Str×NameKind)} {x:Str},((names.map λ(n,k)=>if(k==NameKind.free&&env.scope.kind==.function&&env.kindOf n==some .cell) then(n,NameKind.cell) else(n,k)).lookup x=some .cell \/
  (names.map λ(n,k)=>if (k == NameKind.free && env.scope.kind == .function && env.kindOf n == some .cell) then (n,NameKind.cell) else (n,k)).lookup x=some .free)->names.lookup x=some .free \/ names.lookup x=some .cell
 |[],_,h=>by simp at h
 |(n,k)::r,x,h=>by
  have ih:=@M6 env r x;rw[bu] at h;cases hx:x==n with
  |true =>
   simp only[List.lookup_cons,hx];by_cases hc:(k==NameKind.free&&env.scope.kind==.function&&env.kindOf n==some .cell)=true
   ·left;simp only[Bool.and_eq_true,beq_iff_eq] at hc;rw[hc.1.1]
   ·simp only[if_neg hc,List.lookup_cons,hx] at h;rcases h with h|h
    ·exact .inr h
    ·exact .inl h
  |false =>
   simp only[List.lookup_cons,hx];by_cases hc:(k==NameKind.free&&env.scope.kind==.function&&env.kindOf n==some .cell)=true
   ·simp only[if_pos hc,List.lookup_cons,hx] at h;exact ih h
   ·simp only[if_neg hc,List.lookup_cons,hx] at h;exact ih h
def C4(σ:St)(d6:List Nat)(n:Nat):St:=d6.map (λj=>(σ[j]?).join)++List.replicate (n-d6.length) none
section
variable{pins:List (Addr×Obj)}{σ:St}{H:Hp}
theorem Inv.Jt{h1:Heap}{tk:Nat}(I:Inv X pins σ H s)(S:dM X scope N' d6 cl)(hc:X.calm=true)(hf:∀b∈fp,C6 X pins H b)(ho:∀b∈fp,∃o,s.heap.get? b=some o)(hC:s.heap.objs.size<=C)(hn:∃m,h1.Ns C m)(k:∀b o,s.heap.get? b=some o->h1.get? b=some o)(ck:CellsOk h1 (C+1) (cellsFrom (C+1) scope.names [])) :
  Inv (f7 X pins scope N' cl C s H fp) [] (C4 σ d6 N'.length) H { s with heap:=h1,toks:=tk }:=by
 obtain⟨m,hm⟩:=hn;have NQ:(relabel scope X.env).kind=.function:=S.kind;have FQ:∀b o,s.heap.get? b=some o->b≠C:=λb o e z=>absurd (ax e) (by rw[z];exact kG.mpr hC);have two:∀{x:Str} {c:Addr},(K2 scope cl C).lookup x=some c->(C<c/\h1.IsCell c none/\(x,c)∈cellsFrom (C+1) scope.names [])\/(cl.lookup x=some c/\(cellsFrom (C+1) scope.names []).lookup x=none):=λ{x c} h=>by
  unfold K2 at h;rw[F9] at h;cases e:(cellsFrom (C+1) scope.names []).lookup x with
  |some c' =>
   rw[e] at h;cases h;have hm:=aR e;exact .inl ⟨(ck.empty x c hm).2,(ck.empty x c hm).1,hm⟩
  |none =>
   rw[e] at h;exact .inr ⟨h,rfl⟩
 have uY:∀{x:Str} {c:Addr},cl.lookup x=some c->c<s.heap.objs.size:=λ{x c} h=>by
  obtain⟨v,o,e,_⟩:=I.cell x c (S.cin x c h);exact ax e
 have frees:∀{x:Str},scope.names.lookup x=some .free->(K2 scope cl C).lookup x=cl.lookup x:=λ{x} h=>by
  unfold K2;rw[F9];cases e:(cellsFrom (C+1) scope.names []).lookup x with
  |some c' =>
   have:=S.cells _ (S7 (aR e)) rfl;rw[h] at this;cases this
  |none=>rfl
 refine⟨⟨I.mod,NQ,I.ok.glob,I.ok.blt,hC,?_,?_,?_,λ_=>I.ok.hd hc,I.ok.frames,.inl rfl,?_,I.bs,?_,?_,?_,I.stack,I.CT⟩,rfl,I.bare,Un.kept k,⟨m,hm,?_⟩,?_,?_,?_,?_,I.cb.kept k,?_⟩
 ·intro x y c h1 h2;rcases two h1 with⟨l1,_,q1⟩|⟨q1,_⟩<;>rcases two h2 with⟨l2,_,q2⟩|⟨q2,_⟩
  ·exact PySem.name_of_addr ck.apart q1 q2
  ·exact absurd (cL l1 (aA (uY q2) hC)) (bI _)
  ·exact absurd (cL l2 (aA (uY q1) hC)) (bI _)
  ·exact I.ok.inj x y c (S.cin x c q1) (S.cin y c q2)
 ·intro x hx;rcases M6 (env:=X.env) (names:=scope.names) hx with z|z
  ·obtain⟨c,hc⟩:=S.wC x z;exact⟨c,(frees z).trans hc⟩
  ·have q:=dU scope.names (C+1) [] (.inl z);obtain⟨c,hc⟩:=ff.mp q;refine⟨c,?_⟩;show(K2 scope cl C).lookup x=some c;unfold K2;rw[F9,hc]
   rfl
 ·intro x c hf h;have z:scope.names.lookup x=some .cell:=bg hf;have q:=dU scope.names (C+1) [] (.inl z);rcases two h with⟨l,_⟩|⟨_,e⟩
  ·exact eT (dh hC l)
  ·rw[e] at q;cases q
 ·intro b hb;obtain⟨f0,f1,f2,f3,f4,f5⟩:=hf b hb;obtain⟨o,e⟩:=ho b hb;refine⟨FQ b o e,λx c h=>?_⟩;rcases two h with⟨l,_⟩|⟨q,_⟩
  ·intro z;subst z;exact absurd (cL l (aA (ax e) hC)) (bI _)
  ·exact f4 x c (S.cin x c q)
 ·exact aF I.ok.qq I.sz
 ·intro b o e hb;obtain⟨f0,f1,f2,f3,f4,f5⟩:=hf b hb;rcases f3 with f3|f3
  ·exact I.ok.nE b o e f3
  ·exact absurd (ax (I.ok.bs b o e).1) (kG.mpr f3)
 ·intro b hb z;obtain⟨f0,f1,f2,f3,f4,f5⟩:=hf b hb;rcases aH.mp (I.L4 b z) with z|z
  ·exact f1 z
  ·exact f2 z
 ·intro i x v OO h2 h3;have hi:i<d6.length:=by
   unfold C4 at h2;by_cases hi:i<d6.length
   ·exact hi
   ·rw[eL (by simpa using hi),fz] at h2;split at h2<;>cases h2
  obtain⟨j,hj⟩:∃j,d6[i]?=some j:=⟨_,ao hi⟩
  have hs:σ[j]?=some (some v):=by
   unfold C4 at h2;rw[aM (by simpa using hi),au,hj] at h2;simp only[Option.map_some] at h2;cases e:σ[j]? with
   |none=>rw[e] at h2;cases h2
   |some a=>rw[e] at h2;exact fX some (aQ h2)
  obtain⟨y,Np,Nn,AL,Gq⟩:=S.PL i j hj;have ey:y=x:=by
   have we:N'[i]?=some x:=OO;rw[Np] at we;exact aQ we
  subst ey;obtain⟨m0,hm0,hl⟩:=I.loc;obtain ⟨u,ru,hu⟩:=hl j y v Nn hs (by
   rcases Gq with z|z
   ·exact .inr (.inl z)
   ·exact .inr (.inr z))
  refine⟨u,ru,.inr ⟨E4 (env:=X.env) (names:=scope.names) AL,?_⟩⟩;rcases hu with⟨z,_⟩|⟨_,c,rQ,qe⟩
  ·rcases Gq with z'|z'<;>(rw[z'] at z;cases z)
  ·obtain⟨c',jF⟩:=S.wC y AL;have e:=S.cin y c' jF;rw[rQ] at e;cases e;obtain⟨o,e1,e2⟩:=qe;exact⟨c,(frees AL).trans jF,o,k _ _ e1,e2⟩
 ·intro x c h;rcases two h with⟨_,q,_⟩|⟨q,_⟩
  ·exact⟨none,q⟩
  ·obtain⟨v,o,e1,e2⟩:=I.cell x c (S.cin x c q);exact⟨v,o,k _ _ e1,e2⟩
 ·exact I.cb.fresh hC
 ·intro x c h;rcases two h with⟨l,_⟩|⟨q,_⟩
  ·exact I.cb.fresh (eT (dh hC l))
  ·exact I.gk x c (S.cin x c q)
 ·intro p hp;have gL:p∈X.pn++pins:=by simpa[f7] using hp
  obtain⟨p1,p2,p3,p4,p5⟩:=I.pin p gL;refine⟨k _ _ p1,p2,FQ _ _ p1,λz=>?_,p5⟩;rcases aH.mp (I.L4 _ z) with z|z
  ·exact p3 z
  ·exact p4 z
 ·unfold C4;show _=N'.length;rw[bj,aj,xw];have:=S.Cn;omega
theorem Inv.Li{lP:List (Addr×Obj)}{cI:St}{H':Hp}{s':Shared}(I:Inv X pins σ H s)(hf:∀b∈fp,C6 X pins H b)(J:Inv (f7 X pins scope N' cl C s H fp) lP cI H' s'):Inv X pins σ H' s' :=
 I.DO (ch:=fp) J.os J.base J.cb J.bare λb hb=>by
  obtain⟨f0,f1,f2,f3,f4,f5⟩:=hf b hb;exact⟨f3,f1,f4,f5⟩
theorem Inv.PY{D:Addr}{ys:List V}{ba:List Value}{n:Nat}(I:Inv X pins σ H s)(f:C6 X pins H D)(hs:X.dD.heap.objs.size<=D)(hv:Vals ys ba)(hz:ys.length<=sizeLine)(ho:s.heap.get? D=some { cls:=.type "list",data:=.seq ba.toArray n }):Inv X pins σ (upd H D (.lst ys)) s:=by
 obtain⟨f0,f1,f2,f3,f4,f5⟩:=f;have fy:∀b o,X.dD.heap.get? b=some o->b≠D:=λb o e z=>absurd (ax e) (by rw[z];exact kG.mpr hs);have tup:∀b u,H b=some u->upd H D (.lst ys) b=some u:=λb u e=>by rw[i6 (o8 e f0)];exact e
 refine⟨I.ok,I.os,I.bare,⟨?_,?_,?_,I.base.there,?_,?_,?_⟩,I.loc,I.cell,?_,?_,?_,?_,I.len⟩
 ·exact λb o e n1 n2 n3=>I.base.keep b o e n1 n2 n3
 ·exact λb o e n1 n2 n3=>I.base.slot b o e n1 n2 n3
 ·exact λb o e n1 n2=>by rw[i6 (fy b o e)];exact I.base.free b o e n1 n2
 ·exact λb xs e=>tup _ _ (I.base.jx b xs e)
 ·exact λb o u e=>tup _ _ (I.base.je b o u e)
 ·exact λb ps e=>by
   obtain⟨more,q⟩:=I.base.jy b ps e;exact⟨more,tup _ _ q⟩
 ·rw[i6 f1.symm];exact I.free
 ·exact λx c e=>by rw[i6 (f4 x c e)];exact I.gk x c e
 ·intro p hp;obtain⟨p1,p2,p3⟩:=I.pin p hp;exact⟨p1,by rw[i6 (f5 p hp)];exact p2,p3⟩
 ·intro a o e;by_cases ha:a=D
  ·subst ha;rw[u7] at e;cases e;exact⟨hz,ba,n,hv,ho⟩
  ·rw[i6 ha] at e;have q:=I.cb a o e;refine q.Z4 (λb u _ h=>h) (λb hb=>tup _ _ hb) (λb xs hb=>tup _ _ hb)
end
def Ef(wi:TI)(d6:List Nat)(n:Nat)(g:TG)(tc:TT)(te:TE):TE:=λσ H Q=>wi σ H λJ H1=>∃W:Nat->Nat->List V->St->Hp->Prop,(∃m,W 0 m [] (C4 σ d6 n) H1)/\∀i m ys σ H,W i m ys σ H ->
 (J.stop i H/\∀p,H p=none->Q (.ref p) (upd H p (.lst ys))) \/
 (J.go i H/\ys.length < sizeLine/\∀ x H',J.qP i H x H'->g x σ H' λcV H2=>tc cV H2 λb H3 =>
  if b=true then te cV H3 λy H4=>∃ m',m' < m/\W (i + 1) m' (ys ++ [y]) cV H4 else ∃ m',m' < m/\W (i + 1) m' ys cV H3)
noncomputable abbrev M8(ba:List Value)(n:Nat):Obj:={ cls:=.type "list",data:=.seq ba.toArray n }
section
variable{pins:List (Addr×Obj)}{σ:St}{H:Hp}
theorem Js{it:Addr}{tn:Nat->Heap->Prop}{J:It}{xx:Addr->Shared->Hp->Value->Shared->Prop}{RR:Value->Addr->Result->Shared->Prop}{E:Value->Shared->Prop}{W:Nat->Nat->List V->St->Hp->Prop}{m0:Nat}{Q:VK}(S:dM X scope N' d6 cl)(hc:X.calm=true)(hg:∀C s H,PG (f7 X pins scope N' cl C s H fp) tg g)(ht:∀C s H,lZ (f7 X pins scope N' cl C s H fp) ifs tc)(he:∀C s H,PE ((f7 X pins scope N' cl C s H fp).Z1 (xx C s H)) elt te)(I:Inv X pins σ H s)(T:Turn X.prog X.w X.K tg J fp it tn)(st:tn 0 s.heap)(hf:∀b∈fp,C6 X pins H b)(w0:W 0 m0 [] (C4 σ d6 N'.length) H)(turn:∀ i m ys σ H,W i m ys σ H->(J.stop i H/\∀ p,H p=none->Q (.ref p) (upd H p (.lst ys))) \/
   (J.go i H/\ys.length < sizeLine/\∀ x H',J.qP i H x H'->g x σ H' λcV H2=>tc cV H2 λb H3 =>
    if b=true then te cV H3 λy H4=>∃ m',m' < m/\W (i + 1) m' (ys ++ [y]) cV H4 else ∃ m',m' < m/\W (i + 1) m' ys cV H3))(Bv:∀D C s' H' m,Inv X pins σ H' s'->Q (.ref D) H'->s'.heap.Ns C m->H' C=none->s.heap.objs.size<=C->RR (.ref D) C (.ok .next) s')(Oq:∀D C e s',s.heap.objs.size<=C->xx C s H e s'->notedBy (model X.prog X.w) X.A (compEnvC scope (K2 scope cl C) C X.env) (λe s'=>RR (.ref D) C (.error e) s') e s') :
  wpAny (model X.prog X.w) X.A (newList []) (λacc fZ=>wpAny (model X.prog X.w) X.A (newFunctionEnv scope X.env.globals cl [] X.env.qual none .none (some X.env)) (λmM kl =>
   mM.frame=X.env.frame/\codeAny (model X.prog X.w) X.A (.compStart (.ListComp elt [⟨tg,iter,ifs,0⟩] scope pos) 0 (.ref it) acc { mM with scope:=relabel scope X.env }) (RR acc mM.locals) kl) E fZ) E s:=by
 refine cE (JZ λdY hX gb nU=>?_);dsimp only at hX gb nU ⊢;generalize rV:s.heap.push { cls:=.type "list",dict:=none,data:=.seq ([]:List Value).toArray }=H2 at hX gb nU ⊢;generalize eD:s.heap.objs.size=D at *;have hC:H2.objs.size=D+1:=by rw[<- rV,eB,eD]
 generalize eC:H2.objs.size=C at *;have vX:D≠C:=by omega
 have lt:∀b o,s.heap.get? b=some o->b<D:=λb o e=>by rw[<- eD];exact ax e
 have rA:D<=C:=by omega
 have pT:∀b o,s.heap.get? b=some o->b≠C:=λb o e=>aE (aA (lt b o e) rA);have nF:∀b o,s.heap.get? b=some o->b≠D:=λb o e=>aE (lt b o e);have old:∀b o,s.heap.get? b=some o->dY.get? b=some o:=λb o e=>gb b o (rV▸ag _ e);have lI:dY.get? D=some (M8 [] 0):=gb _ _ (by rw[<- rV,<- eD];exact aD _ rfl);have jD:∀b∈fp,∃o,s.heap.get? b=some o:=λb hb=>by
  obtain⟨o,e,_⟩:=T.obj _ _ st b hb;exact⟨o,e⟩
 have vW:D∉fp:=λhm=>by
  obtain⟨o,e⟩:=jD D hm;exact nF D o e rfl
 have X1:Inv (f7 X pins scope N' cl C s H fp) [] (C4 σ d6 N'.length) H { s with heap:=dY } :=
  I.Jt S hc hf jD (by rw[eD];omega) ⟨_,hX⟩ old nU
 have eP:tn 0 dY:=T.keep _ _ _ st λb _ o e=>old b o e;have BU:∀{H':Hp},(∀b∈fp,H' b=none)->∀b∈fp,C6 (f7 X pins scope N' cl C s H fp) [] H' b:=λhn b hb=>by
  obtain⟨f0,f1,f2,f3,f4,f5⟩:=hf b hb;obtain⟨o,e⟩:=jD b hb;refine⟨hn b hb,?_,?_,.inl hb,λx c q=>(zy nU q).elim (λl z=>absurd (cL (z▸l) (aA (lt b o e) rA)) (bI _)) λq=>f4 x c (S.cin x c q),λp hp=>?_⟩
  ·exact pT b o e
  ·exact λz=>by
    rcases aH.mp (I.L4 b z) with z|z
    ·exact f1 z
    ·exact f2 z
  ·have gL:p∈X.pn++pins:=by simpa[f7] using hp
   exact f5 p gL
 have fD:∀{H':Hp},H' D=none->C6 (f7 X pins scope N' cl C s H fp) [] H' D:=λhn=>by
  refine⟨hn,vX,λz=>?_,.inr (by show s.heap.objs.size<=D;omega),λx c q=>?_,λp hp=>?_⟩
  ·exact absurd (I.xf (a:=D) (by omega)) λox=>by
    rcases aH.mp (I.L4 D z) with z|z
    ·exact absurd I.lt (by rw[<- z,eD];exact bI _)
    ·exact ox z
  ·rcases zy nU q with l|q
   ·exact λz=>absurd (aA (z▸l) rA) (bI _)
   ·obtain⟨v,o,e,_⟩:=I.cell x c (S.cin x c q);exact nF c o e
  ·have gL:p∈X.pn++pins:=by simpa[f7] using hp
   exact nF _ _ (I.pin p gL).1
 have rm:∀{H':Hp} {s':Shared} {cI:St} {ba:List Value} {n:Nat},Inv (f7 X pins scope N' cl C s H fp) [] cI H' s'->H' D=none->s'.heap.get? D=some (M8 ba n) ->
   Inv (f7 X pins scope N' cl C s H fp) [(D,M8 ba n)] cI H' s':=λ{H' s' cI ba n} J0 hn e=>J0.K4 λp hp=>by
  have z:p=(D,M8 ba n):=by simpa using hp
  subst z;obtain⟨f0,f1,f2,_⟩:=fD hn;exact⟨e,f0,f1,f2,λv z=>nomatch z⟩
 have sv:∀{H':Hp} {ba:List Value} {n:Nat},(∀b∈fp,H' b=none)->∀b∈fp,C6 (f7 X pins scope N' cl C s H fp) [(D,M8 ba n)] H' b:=λ{H' ba n} hn b hb=>by
  obtain⟨f0,f1,f2,f3,f4,f5⟩:=BU hn b hb;refine⟨f0,f1,f2,f3,f4,λp hp=>?_⟩;have gL:p∈(f7 X pins scope N' cl C s H fp).pn\/p=(D,M8 ba n):=by simpa using hp
  rcases gL with z|z
  ·exact f5 p (bA _ z)
  ·subst z;exact λz=>vW (by rw[show D=b from z];exact hb)
 have loop:∀fZ:Shared,fZ={ s with heap:=dY } ->
   codeAny (model X.prog X.w) X.A (.compLoop (.ListComp elt [⟨tg,iter,ifs,0⟩] scope pos) 0 (.ref it) (.ref D) (compEnvC scope (K2 scope cl C) C X.env)) (RR (.ref D) C) fZ:=by
  rintro fZ rfl;refine aE3 (λn s'=>∃ i ys cI H' ba nn,Inv (f7 X pins scope N' cl C s H fp) [] cI H' s'/\tn i s'.heap/\(∀ b ∈ fp,H' b=none)/\H' D=none/\Vals ys ba/\ys.length <= sizeLine /\
   s'.heap.get? D=some (M8 ba nn)/\W i n ys cI H') ?_ m0 ⟨0,[],_,H,[],0,X1,eP,λb hb=>(hf b hb).1,I.cb.fresh (by omega),.nil,cF _,lI,w0⟩
  rintro n s3 ⟨i,ys,lO,H3,ba,nn,I3,jz,qm,d3,v3,z3,o3,w3⟩;have xp:=rm I3 d3 o3;rcases turn i n ys lO H3 w3 with⟨stop,q⟩|⟨go,hz,step⟩
  ·refine cW (T.done (f7 X pins scope N' cl C s H fp) rfl rfl rfl rfl i _ s3 _ H3 _ xp (sv qm) jz stop) λr s4 ⟨hr,I4⟩=>?_;subst hr;have o4:=(I4.pin (D,M8 ba nn) (by simp)).1;have J4:Inv X pins σ H3 s4:=I.Li hf I4;have BV:C6 X pins H3 D:=by
    refine⟨d3,bQ (by rw[<- eD];exact I.lt),I.xf (by omega),.inr (by have:=I.sz;omega),λx c q=>?_,λp hp=>?_⟩
    ·obtain⟨v,o,e,_⟩:=I.cell x c q;exact nF c o e
    ·exact nF _ _ (I.pin p hp).1
   obtain⟨mC,Bb,_⟩:=I4.loc;exact Bv D C s4 (upd H3 D (.lst ys)) mC (J4.PY BV (by have:=I.sz;omega) v3 z3 o4) (q D d3) Bb (by rw[i6 vX.symm];exact I4.free) (by omega)
  ·refine cW (T.item (f7 X pins scope N' cl C s H fp) rfl rfl rfl rfl i _ s3 _ H3 _ xp (sv qm) jz go) λr s4 ⟨u,hr,h4⟩=>?_;subst hr;refine cW h4 λ_ s5 bC=>?_;obtain⟨x,H5,I5,r5,y5,mz,wo⟩:=bC;have o5:=I5.pin (D,M8 ba nn) (by simp);have xo:=I5.pinned (sv wo) (T.obj _ _ mz);refine cW (hg C s H _ s5 _ H5 x u _ xo r5 (step x H5 y5)) λ_ s6 bC=>?_;obtain⟨ml,H6,I6,q6⟩:=bC;refine cW (ht C s H _ s6 ml H6 _ I6 q6) λok s7 ⟨H7,I7,q7⟩=>?_;have back:∀{uH:St} {H8:Hp} {s8:Shared},Inv (f7 X pins scope N' cl C s H fp) ([(D,M8 ba nn)]++X7 fp s5.heap) uH H8 s8->(∀b∈fp,H8 b=none)/\tn (i+1) s8.heap/\H8 D=none/\s8.heap.get? D=some (M8 ba nn) :=
    λ{uH H8 s8} I8=>by
     have pf:∀b∈fp,∀o,s5.heap.get? b=some o->s8.heap.get? b=some o/\H8 b=none:=λb hb o e=>by
      have:=I8.pin (b,o) (aN _ (aN _ (P6 hb e)));exact⟨this.1,this.2.1⟩
     have pd:=I8.pin (D,M8 ba nn) (by simp);refine⟨λb hb=>?_,T.keep _ _ _ mz λb hb o e=>(pf b hb o e).1,pd.2.1,pd.1⟩;obtain⟨o,e,_⟩:=T.obj _ _ mz b hb;exact(pf b hb o e).2
   cases ok with
   |false =>
    obtain⟨m',hm,w7⟩:=q7;obtain⟨b1,b2,b3,b4⟩:=back I7;exact⟨m',hm,i+1,ys,ml,H7,ba,nn,I7.K4 λp hp=>absurd hp (by simp),b2,b1,b3,v3,z3,b4,w7⟩
   |true =>
    refine bK (he C s H _ s7 ml H7 _ (I7.Z1 _) q7) (λxv s8 bC=>?_) λe s' hx=>Oq D C e s' (by omega) hx;obtain⟨y,H8,I8,r8,m',hm,w8⟩:=bC;have I8:=I8.Ct;obtain⟨b1,b2,b3,b4⟩:=back I8;refine ke F.slot_list_append ⟨_,b4,rfl⟩ F.entry_list_append (F.args_list_append_2 _ _) (PySem.list_append D ba.toArray nn xv (by rw[aJ];have:=v3.length;omega)) ⟨b4,?_⟩;have q:∃n',(s8.heap.update D (Obj.mapSeq (·.push xv))).get? D=some (M8 (ba++[xv]) n'):=by
     have q0:=PySem.IsL.update b4 (·.push xv);have e0:ba.toArray.push xv=(ba++[xv]).toArray:=by simp
     rw[e0] at q0;exact⟨_,q0⟩
    obtain⟨n',q⟩:=q;have Fc:Inv (f7 X pins scope N' cl C s H fp) [] ml H8 s8:=I8.K4 λp hp=>absurd hp (by simp);obtain⟨f0,f1,f2,f3,f4,f5⟩:=fD (H':=H8) b3;have kp:∀b o,b≠D->s8.heap.get? b=some o->(s8.heap.update D (Obj.mapSeq (·.push xv))).get? b=some o:=λb' u hb hu=>(eK s8.heap (Obj.mapSeq (·.push xv)) (cc hb)).trans hu;refine⟨m',hm,i+1,ys++[y],ml,H8,ba++[xv],n',Fc.turned (it:=D) (t':=s8.toks) kp f0 f1 f3 f4 f5,T.keep _ _ _ b2 λb hb o e=>kp b o (λz=>vW (by rw[<- z];exact hb)) e,b1,b3,v3.append (.cons r8 .nil),?_,q,w8⟩;rw[bj,jv];omega
 exact⟨rfl,codeAny_compStart_list (loop _ rfl) (T.self _ 0 _ _ _ eP (loop _ rfl))⟩
theorem Inv.Iy{h':Heap}{s2:Shared}{H2:Hp}(I:Inv X pins σ H s)(hC:s2.heap.objs.size<=C)(I2:Inv X pins σ H2 s2)(hn:H C=none)(sb:Heap.SameBut C s.heap h'):Inv X pins σ H { s with heap:=h' }:=by
 have f:=I2.sN (b:=C) (H':=H) hC hn;obtain⟨f0,f1,f2,f3,f4,f5⟩:=f;exact I.turned (t':=s.toks) (λb o hb e=>sb.extBut b o hb e) f0 f1 f3 f4 f5
theorem Jv{M:Model}{E:Value->Shared->Prop}{a:Sem Value}{b:Sem Env}{P:Env->Prop}{Q:Value->Env->Shared->Prop}(h:wpAny M A a (λx s1=>wpAny M A b (λy s2=>P y/\Q x y s2) E s1) E s):wpAny M A a (λx s1=>wpAny M A b (λy s2=>Q x y s2) E s1) E s :=
 bK h (λ_ _ h=>bK h (λ_ _ h=>h.2) λ_ _ z=>z) λ_ _ z=>z
theorem KN{wi:TI}(S:dM X scope N' d6 cl)(hc:X.calm=true)(hi:PI X tg iter wi)(hg:∀pins C s H fp,PG (f7 X pins scope N' cl C s H fp) tg g)(ht:∀pins C s H fp,lZ (f7 X pins scope N' cl C s H fp) ifs tc)(he:∀pins C s H fp,PE (f7 X pins scope N' cl C s H fp) elt te)(hs:∀x,foldedSetIterable iter X.env x=pure x):PE X (.ListComp elt [⟨tg,iter,ifs,0⟩] scope pos) (Ef wi d6 N'.length g tc te):=by
 intro pins s σ H Q I h;rw[eval_ListComp];refine jo (use:=none) rfl hs S.sG S.kind S.names (cW (hi pins s σ H _ I h) λxv bS dY=>cW dY λvx iy jC=>?_);obtain⟨it,fp,tn,J,H2,e,I2,T,gW,f2,W,⟨m0,w0⟩,turn⟩:=jC;subst e;refine Jv (Js (xx:=λ_ _ _ _ _=>False) (RR:=λacc C=>compPost (model X.prog X.w) X.A X.xe none (EP X pins σ Q) acc C) S hc (λC s H=>hg pins C s H fp) (λC s H=>ht pins C s H fp) (λC s H=>he pins C s H fp) I2 T gW f2 w0 turn ?_ λ_ _ _ _ _ z=>z.elim);intro D C s' H' m I' q hn hC hsz;exact⟨m,hn,λh' sb=>⟨.ref D,H',I'.Iy hsz I2 hC sb,rfl,q⟩⟩
theorem aG4{uS px:Pos}{wi:TI}{i:Nat}(S:dM X scope N' d6 cl)(hc:X.calm=true)(hi:PI X tg iter wi)(hg:∀pins C s H fp,PG (f7 X pins scope N' cl C s H fp) tg g)(ht:∀pins C s H fp,lZ (f7 X pins scope N' cl C s H fp) ifs tc)(he:∀pins C s H fp,PE (f7 X pins scope N' cl C s H fp) elt te)(hs:∀x,foldedSetIterable iter X.env x=pure x)(hN:X.N.Nodup)(vL:X.N[i]?=some x)(hx:Loc X.env.scope x)(hf:X.fn x=true\/X.env.scope.names.lookup x=some .local) :
  PS X (.Assign [.Name x px] (.ListComp elt [⟨tg,iter,ifs,0⟩] scope pos) uS) (wF (Ef wi d6 N'.length g tc te) (uq i)):=by
 intro pins s σ H D I h;have xT:∃b,swapsWith (.ListComp elt [⟨tg,iter,ifs,0⟩] scope pos) (some (.Name x px)) uS.line X.env=pure b:=⟨_,rfl⟩
 obtain⟨b,xT⟩:=xT;cases b with
 |false=>exact Kk hN vL hx (KN S hc hi hg ht he hs) xT hf pins s σ H D I h
 |true =>
  rw[exec_Assign_Name_used _ _ _ _ xT];refine aa (eO (aa ?_));show wpAny _ X.A (do let _ <- comprehension (.ListComp elt [⟨tg,iter,ifs,0⟩] scope pos) scope X.env _ (newList []) false (eval iter X.env) (some (assign (.Name x px) X.env))) _ _ s;refine aa (bK (jo (use:=some (assign (.Name x px) X.env)) (Q:=λ_ s'=>SP X pins D .next s') rfl hs S.sG S.kind S.names
   (cW (hi pins s σ H _ I h) λxv bS dY=>cW dY λvx iy jC=>?_)) (λ_ s' hq=>ak (ak hq)) λ_ _ e=>e)
  obtain⟨it,fp,tn,J,H2,e,I2,T,gW,f2,W,⟨m0,w0⟩,turn⟩:=jC;subst e;refine Jv (Js (xx:=λ_ _ _ _ _=>False) (Q:=λv H1=>uq i v σ H1 D.nx) (RR:=λacc C=>compPost (model X.prog X.w) X.A X.xe (some (assign (.Name x px) X.env)) (λ_ s'=>SP X pins D .next s') acc C) S hc (λC s H=>hg pins C s H fp) (λC s H=>ht pins C s H fp) (λC s H=>he pins C s H fp) I2 T gW f2 w0 turn ?_ λ_ _ _ _ _ z=>z.elim);intro Dl C s' H' m I' q hn hC hsz;show wpAny _ X.A (assign (.Name x px) X.env (.ref Dl)) _ _ _;refine wpAny_assign_Name (Ji I' hN vL hx (v:=.ref Dl) rfl (λs3 I3 ⟨a,sb,ha⟩=>?_) hf);have Ou:C≠a:=by
   obtain⟨f0,f1,f2,f3,f4,f5⟩:=I2.sN (b:=C) (H':=H') hsz hC;rcases ha with z|z
   ·rw[z];exact f1
   ·exact λz'=>f4 _ _ z z'.symm
  obtain⟨f0,f1,f2,f3,f4,f5⟩:=I2.sN (b:=C) (H':=H') hsz hC;refine⟨m,hn.sameBut sb Ou,λh3 MK=>⟨_,H',I3.turned (t':=s3.toks) (λb o hb e=>MK.extBut b o hb e) f0 f1 f3 f4 f5,q⟩⟩
end
end L2
namespace HT
open PySem PyProof.Rows
section
variable{prog:Program}{w:World}{A:Around}{E:Value->Shared->Prop}{s:Shared}
theorem a79{t b:Addr}{ws:List Value}{Q:Value->Shared->Prop}(ht:IsTup s.heap t #[])(hb:IsTup s.heap b ws.toArray)(h1:Q (.ref b) s):wpAny (model prog w) A (binaryOp .Add (.ref t) (.ref b)) Q E s:=by
 obtain⟨⟨cls,dd,data,sl⟩,ho,hc,n,hd⟩:=id ht;obtain⟨⟨Cm,yA,data2,qU⟩,mE,qe,n2,hd2⟩:=id hb;simp only at hc hd qe hd2;subst hc hd qe hd2;exact concat_meets ⟨_,ho,rfl⟩ ⟨_,mE,rfl⟩ qH Mg iX iH (iu _ _)
   (tuple_addW0 t b #[] ws.toArray n n2 dd yA sl qU rfl) ⟨ho,mE,h1⟩
theorem YC{t sl:Addr}{items:Array Value}{vl vu:Value}{lo hi:Option Int}{Q:Value->Shared->Prop}(ht:IsTup s.heap t items)(hs:s.heap.IsSliceOf sl vl vu .none)(pl:IsPart vl lo)(pu:IsPart vu hi)(hw:dX items.size 0 lo=0/\dX items.size items.size hi=items.size)(h:Q (.ref t) s):wpAny (model prog w) A (getItem (.ref t) (.ref sl)) Q E s:=by
 obtain⟨os,rG,yc,vN⟩:=id hs;have Bu:s.TypeIs (.ref sl) "slice":=⟨os,rG,yc⟩
 unfold getItem
 try with_reducible refine bJ ?_
 first|refine aa (ak ?_)|skip
 refine aa (wpAny_sequenceKey ht.typeIs (by decide) ?_);refine aa (fP (name:=Str.ofString "__getitem__") ht.typeIs bV
  (cJ bV ht.typeIs entry_tuple_getitem ?_ (args_tuple_getitem _ _)))
 show wpAny _ _ (Builtin.Tuple.tupleItemsOf (.ref t) >>= _) _ _ s;refine aa (tupleItemsOf_ ht ?_);refine aa (dG Bu ?_);rw[aI (by decide)];refine aa (R5 hs pl pu ?_);have AK:((((dX items.size 0 lo:Nat):Int)==0&&(1:Int)==1&&(dX items.size items.size hi-dX items.size 0 lo)==items.size)=true):=by
  rw[hw.1,hw.2];simp
 show wpAny _ _ (if(((dX items.size 0 lo:Nat):Int)==0&&(1:Int)==1&&(dX items.size items.size hi-dX items.size 0 lo)==items.size)=true then _ else _) _ _ s;rw[aI AK];obtain⟨o,ho,hc,_⟩:=id ht;unfold Builtin.Tuple.tupleIsExact;refine aa (aa (dG ht.typeIs (ak ?_)));rw[aI (by decide)]
 first
  |exact wpAny_bind (wpAny_rule (wpAny_bind (wpAny_pure ⟨_,rfl,wpAny_pure h⟩)))
  |exact wpAny_bind (wpAny_rule (wpAny_pure ⟨_,rfl,wpAny_pure h⟩))
  |exact wpAny_bind (wpAny_rule (wpAny_bind (wpAny_pure (wpAny_pure ⟨_,rfl,wpAny_pure h⟩))))
end
end HT
namespace L2
open PySem PySem.Spec PyProof.Rows
section
variable{X:Cx}
def RG(K:PySem.W.Frag):R2:=λx y H Q=>∃a b xs ys,x=.ref a/\y=.ref b/\iW K H a xs/\iW K H b ys/\xs.length+ys.length<=sizeLine /\
 (xs=[]->Q (.ref b) H)/\(ys=[]->Q (.ref a) H)/\(∀p,H p=none->Q (.ref p) (upd H p (.tup (xs++ys))))
theorem a53:gn X (binaryOp .Add) (RG X.K):=by
 intro pins s σ H x y v u Q I rx ry h;obtain⟨a,b,xs,ys,rfl,rfl,ha,hb,hz,q0,q1,q2⟩:=h;by_cases hx:xs=[]
 ·subst hx;cases rx;cases ry;obtain⟨ba,r1,p1,_⟩:=I.tuple ha;obtain⟨nH,r2,p2,_⟩:=I.tuple hb;cases r1;exact HT.a79 p1 p2 ⟨.ref b,H,I,rfl,q0 rfl⟩
 ·exact Tu pins s σ H _ _ v u Q I rx ry ⟨a,b,xs,ys,rfl,rfl,ha,hb,hx,hz,q1,λ_=>q2⟩
def XF(K:PySem.W.Frag):V->Option Int->Option Int->Hp->VK->Prop:=λx lo hi H Q=>∃a xs,x=.ref a/\iW K H a xs /\
 (S5 xs lo hi=xs->Q (.ref a) H)/\∀p,H p=none->Q (.ref p) (upd H p (.tup (S5 xs lo hi)))
theorem UD:xh X (XF X.K):=by
 intro pins s σ H x v vl vu lo hi sl Q I rx hs pl pu h;obtain⟨a,xs,rfl,hx,q0,q⟩:=h;by_cases hw:HT.dX xs.length 0 lo=0/\HT.dX xs.length xs.length hi=xs.length
 ·cases rx;obtain⟨ba,r,ht,hz⟩:=I.tuple hx;have hlen:ba.toArray.size=xs.length:=by rw[aJ];exact r.length.symm
  refine⟨"tuple",_,bV.lookup,ht.typeIs,?_⟩;exact HT.YC ht hs pl pu (by rw[hlen];exact hw) ⟨.ref a,H,I,rfl,q0 (by unfold S5;rw[hw.1,hw.2];simp)⟩
 ·exact Sb pins s σ H _ v vl vu lo hi sl Q I rx hs pl pu ⟨a,xs,rfl,hx,hw,q⟩
theorem aH1:n6 X (.builtin "isinstance") (λxs H Q=>∃x t c b,xs=[x,.ty c]/\iC X.K H x t/\PySem.W.kitOne X.K t (.type c)=some b/\Q (.bl b) H):=by
 intro pins s σ H xs us Q I r h;obtain⟨x,t,c,b,rfl,hT,hk,q⟩:=h;obtain⟨u,w',rfl,ru,gC⟩:=vals2 r;cases (show w'=Value.type c from gC);exact YY I ru hT hk λtk=>⟨.bl b,H,I.tok tk,rfl,q⟩
theorem YG(hc:X.calm=true):n6 X (.builtin "all") (λxs H Q=>∃(a:Addr) (bs:List Bool),xs=[.ref a]/\gA X.K H a (bs.map V.bl)/\Q (.bl (bs.all id)) H):=by
 intro pins s σ H xs us Q I r h;obtain⟨a,bs,rfl,ha,q⟩:=h;obtain⟨u,rfl,ru⟩:=vals1 r;cases ru;obtain⟨ba,rv,p,hz⟩:=I.list ha;refine call_all_walk ?_;refine fW p.isList ?_;have fy:a≠s.heap.objs.size:=by
  obtain⟨o,e,_⟩:=id p.isList;exact aE (ax e)
 have hl:=rv.length;rw[aj] at hl;refine⟨s.heap.objs.size,_,_,_,_,_,λi=>bs.getD i true,rfl,zV (A:=X.A.in1) (I.ok.hd hc) _ a fy ba.toArray,⟨⟨_,aD _ rfl,rfl,rfl⟩,?_⟩,?_,λh' tk k=>?_⟩
 ·obtain⟨o,e,q1⟩:=id p.isList;exact⟨o,ag _ e,q1⟩
 ·intro i v s' Q' E' hP hQ;have hv:ba[i]?=some v:=by simpa using hP
  have hi:i<bs.length:=by rw[hl];exact(aw.mp hv).1
  obtain⟨u',vC,As⟩:=rv.get (i:=i) (x:=V.bl bs[i]) (by rw[au,ao hi];rfl);rw[hv] at vC;cases vC;cases (show v=Value.bool bs[i] from As);refine cP ?_;have:bs.getD i true=bs[i]:=by simp[List.getD,hi]
  dsimp only at hQ;rw[this] at hQ;exact hQ
 ·have e1:(List.range ba.toArray.size).all (λi=>bs.getD i true)=bs.all id:=by
   rw[aJ,<- hl];rw[aZ];simp only[List.all_eq_true,List.mem_range,id];constructor
   ·intro hh x hx;obtain⟨i,hi,rfl⟩:=bz.mp hx;have:=hh i hi;simpa[List.getD,hi] using this
   ·intro hh i hi;have:=hh bs[i] (cG hi);simpa[List.getD,hi] using this
  rw[e1];exact ⟨.bl (bs.all id),H,I.kept (t':=tk) λb o e=>k b o (by
   intro hb;have:b=s.heap.objs.size:=by simpa using hb
   exact absurd (ax e) (by rw [this];exact bI _)) (ag _ e),rfl,q⟩
end
end L2
namespace HT
open PySem PyProof.Rows
end HT
namespace L2
open PySem PySem.Spec PyProof.Rows
variable{X:Cx}{pos p:Pos}{H H':Hp}{σ:St}{s s':Shared}{B:Heap}{ea C:Addr}{a0:Value}{ta:TA}
theorem p0.get{P:Program}{w:World}{h:Heap}{a:Addr}:∀{o:HO},p0 P w H h a o->∃ob,h.get? a=some ob
 |.lst _,x=>by obtain⟨_,_,_,_,e⟩:=x;exact⟨_,e⟩
 |.tup _,x=>by obtain⟨_,_,_,o,e,_⟩:=x;exact⟨o,e⟩
 |.dK _,x=>by obtain⟨_,_,_,_,o,es,ep,e,_⟩:=x;exact⟨o,e⟩
 |.dT _,x=>by obtain⟨_,_,_,_,o,es,ep,e,_⟩:=x;exact⟨o,e⟩
 |.set _ _,x=>by obtain⟨o,es,ep,t,e,_⟩:=x;exact⟨o,e⟩
 |.ins _ _ _,x=>by obtain⟨_,_,_,e,_⟩:=x;exact⟨_,e⟩
 |.own _,x=>x
 |.xd _,x=>by obtain⟨mA,n,_⟩:=x;obtain⟨od,e,_⟩:=Jc n;exact⟨od,e⟩
 |.mW _ _,x=>by obtain⟨_,_,_,e⟩:=x;exact⟨_,e⟩
 |.ku _ _,x=>⟨_,x.1⟩
 |.my _,x=>⟨_,x⟩
 |.met _ _,x=>⟨_,x⟩
 |.ext _,x=>x.2.1
def DG(H':Hp)(h0:Heap)(l:List Env)(e:Value)(C:Addr)(h:Heap):Prop :=
 ∃(ea:Addr) (a0:Value) (B:Heap),e=.ref ea/\Heap.FlyingW B l ea (.ref C) a0 h/\∀b o,h.get? b=some o->b∉iF l->(H' b≠none\/∃o0,h0.get? b=some o0)->B.get? b=some o
def jJ(P:Program)(w:World):om:=λouter H s E e s'=>∃(C:Addr) (H':Hp),s'.os=s.os/\AllBare s'.gens/\Un (iF outer) [] H H' s.heap s'.heap/\gU P w H' s'.heap/\DG H' s.heap outer e C s'.heap/\E (.ref C) none H'
section
variable{pins:List (Addr×Obj)}{E:XK}{e:Value}
theorem Inv.flew(I:Inv X pins σ H s)(h:jJ X.prog X.w X.stack H s E e s'):∃C H',Inv X pins σ H' s'/\DG H' s.heap X.stack e C s'.heap/\E (.ref C) none H':=by
 obtain⟨C,H',ho,hb,hu,cb,fl,hE⟩:=h;exact⟨C,H',I.DO (ch:=[]) ho hu cb hb (by simp),fl,hE⟩
theorem CY(I:Inv X pins σ H s){b:Addr}(hb:b∈iF X.stack):∃o,s.heap.get? b=some o/\∀vs,o.data≠.fields vs:=(I.stack.mem hb).2
theorem DQ{oE:Heap}(I:Inv X pins σ H s)(fx:X.stack=X.env::X.outer)(hex:X.ex=[])(hf:X.env.frame=some X.env.locals)(vz:∀b o,s.heap.get? b=some o->b∉iF X.stack->(H b≠none\/∃o0,X.dD.heap.get? b=some o0)->B.get? b=some o)(sl:∀b∈iF X.stack,∀o,s.heap.get? b=some o->∃sl,oE.get? b=some { o with slots:=sl })(fw:Heap.FlyingW B X.outer ea (.ref C) a0 oE)(hE:E (.ref C) none H):jJ X.prog X.w X.outer X.jO X.dD E (.ref ea) { s with heap:=oE }:=by
 have AQ:∀b,b∈iF X.outer->b∈iF X.stack:=λb hb=>by rw[fx];unfold iF at hb ⊢;rw[fb,hf];exact bG _ hb
 have vc:∀b o,X.dD.heap.get? b=some o->b∉iF X.outer->b∉iF X.stack:=λb o e hb z=>by
  rcases aH.mp (I.L4 b z) with z|z
  ·exact absurd (ax e) (by rw[z];exact kG.mpr I.ok.above)
  ·exact hb z
 have qQ:∀b u,H b=some u->b∉iF X.stack:=λb u e z=>by rw[I.CT b z] at e;cases e
 have kept:∀b o,s.heap.get? b=some o->b∉iF X.stack->(H b≠none\/∃o0,X.dD.heap.get? b=some o0)->oE.get? b=some o:=λb o e n q=>fw.1 b o (vz b o e n q);have ve:∀b,b∉X.ex:=λb=>by rw[hex];simp
 refine⟨C,H,I.os,I.bare,⟨?_,?_,?_,?_,I.base.jx,I.base.je,I.base.jy⟩,?_,⟨ea,a0,B,rfl,fw,?_⟩,hE⟩
 ·exact λb o e n1 n2 _=>kept b o (I.base.keep b o e n1 n2 (ve b)) (vc b o e n2) (.inr ⟨o,e⟩)
 ·intro b o e n1 n2 _;obtain⟨sl1,e1⟩:=I.base.slot b o e n1 n2 (ve b);obtain⟨qU,e2⟩:=sl b (AQ b n2) _ e1;exact⟨qU,e2⟩
 ·exact λb o e n1 _=>I.base.free b o e n1 (ve b)
 ·intro b o e _;obtain⟨o1,e1⟩:=I.base.there b o e (ve b);by_cases hb:b∈iF X.stack
  ·obtain⟨qU,e2⟩:=sl b hb _ e1;exact⟨_,e2⟩
  ·exact⟨o1,kept b o1 e1 hb (.inr ⟨o,e⟩)⟩
 ·intro a o e;exact (I.cb a o e).Z4 (λb u hb q=>by
   have lS:∃v,H b=some v:=by
    rcases hb with rfl|hb
    ·exact⟨o,e⟩
    ·exact⟨_,hb⟩
   obtain⟨v,hv⟩:=lS;exact kept b u q (qQ b v hv) (.inl (by rw [hv];simp))) (λb hb=>hb) (λb xs hb=>hb)
 ·intro b o e n q;rcases q with q|⟨o0,q⟩
  ·obtain⟨v,hv⟩:=Option.ne_none_iff_exists'.mp q;obtain⟨o1,e1⟩:=(I.cb b v hv).get;have z:=vz b o1 e1 (qQ b v hv) (.inl (by rw[hv];simp));have z':=fw.1 b o1 z;have:o=o1:=by
    have e':oE.get? b=some o:=e;rw[z'] at e';exact(aQ e').symm
   subst this;exact z
  ·obtain⟨o1,e1⟩:=I.base.there b o0 q (ve b);have z:=vz b o1 e1 (vc b o0 q n) (.inr ⟨o0,q⟩);have z':=fw.1 b o1 z;have:o=o1:=by
    have e':oE.get? b=some o:=e;rw[z'] at e';exact(aQ e').symm
   subst this;exact z
theorem aC8{h0:Heap}{Ex:Value->Shared->Prop}(I:Inv X pins σ H s)(fl:DG H h0 X.stack e C s.heap)(OQ:∀b o,X.dD.heap.get? b=some o->∃o',h0.get? b=some o')(fx:X.stack=X.env::X.outer)(hex:X.ex=[])(hf:X.env.frame=some X.env.locals)(hE:E (.ref C) none H):wpAny (model X.prog X.w) X.A (leaving X.env e) (λ_ oN=>jJ X.prog X.w X.outer X.jO X.dD E e oN) Ex s:=by
 obtain⟨ea,a0,B,rfl,fw,hB⟩:=fl;have fw0:=fw;rw[fx] at fw;refine wpAny_leaves_onW (by rw[I.ok.frames,fx]) hf fw λoE OZ us=>?_;refine DQ I fx hex hf (λb o e n q=>hB b o e n (q.imp id λ⟨o0,q⟩=>OQ b o0 q)) (λb hb o e=>?_) OZ hE;obtain⟨o1,e1,nf⟩:=CY I hb;rw[e] at e1;cases e1;exact us b o e nf
theorem ZX{h':Heap}{vs:List Value}{Ex:Value->Shared->Prop}(I:Inv X pins σ H s)(hx:Heap.MadeExcOf s.heap h' ea (.ref C) vs)(fx:X.stack=X.env::X.outer)(hex:X.ex=[])(hf:X.env.frame=some X.env.locals)(hE:E (.ref C) none H):wpAny (model X.prog X.w) X.A (leaving X.env (.ref ea)) (λ_ oN=>jJ X.prog X.w X.outer X.jO X.dD E (.ref ea) oN) Ex { s with heap:=h' }:=by
 have tN:=I.stack;rw[fx] at tN;have lH:∀env∈(X.env::X.outer),∀b,env.frame=some b->b∈iF X.stack:=λenv he b hb=>by rw[fx];exact kH.mpr ⟨env,he,hb⟩
 refine wpAny_leaves_madeW (s:={ s with heap:=h' }) (base:=PySem.W.hideAll s.heap (iF X.stack)) (h:=s.heap) (by rw[I.ok.frames,fx]) hf (λb o q=>Mh _ q) (PySem.W.funFrames_hide tN lH) hx λoE t fw _ _ us=>?_;refine(show jJ X.prog X.w X.outer X.jO X.dD E (.ref ea) { s with heap:=oE } from DQ I fx hex hf (λb o e n _=>Fh _ e n) (λb hb o e=>?_) fw hE);obtain⟨o1,e1,nf⟩:=CY I hb;rw[e] at e1;cases e1;exact us b o (hx.keeps b o e) nf
structure Lies(X:Cx)(H H':Hp)(s:Shared)(B:Heap)(ea C:Addr)(a0:Value)(s':Shared):Prop where
 os:s'.os=s.os
 bare:AllBare s'.gens
 un:Un (iF X.stack) [] H H' s.heap s'.heap
 cb:gU X.prog X.w H' s'.heap
 vz:∀b o,s'.heap.get? b=some o->b∉iF X.stack->(H' b≠none\/∃o0,s.heap.get? b=some o0)->B.get? b=some o
theorem Lies.inv(I:Inv X pins σ H s)(l:Lies X H H' s B ea C a0 s'):Inv X pins σ H' s':=I.DO (ch:=[]) l.os l.un l.cb l.bare (by simp)
theorem leave_held{Ex:Value->Shared->Prop}(I:Inv X pins σ H s)(l:Lies X H H' s B ea C a0 s')(hh:Heap.HeldW B X.stack ea (.ref C) a0 X.env.locals s'.heap)(fx:X.stack=X.env::X.outer)(hex:X.ex=[])(hf:X.env.frame=some X.env.locals)(hE:E (.ref C) none H'):wpAny (model X.prog X.w) X.A (leaving X.env (.ref ea)) (λ_ oN=>jJ X.prog X.w X.outer X.jO X.dD E (.ref ea) oN) Ex s':=by
 have J:=l.inv I;have Bk:=hh;rw[fx] at Bk;unfold leaving;refine aa (wpAny_noteFrame_againW hf Bk.2.2.2 ?_);refine wpAny_landsW Bk λoE fl us=>?_;obtain⟨k1,k2,⟨_,_,k3⟩,k4⟩:=fl;refine DQ J fx hex hf (λb o e n q=>l.vz b o e n (q.imp id λ⟨o0,q⟩=>I.base.there b o0 q (by rw[hex];simp))) (λb hb o e=>?_) ⟨k1,k2,k3,k4⟩ hE;obtain⟨o1,e1,nf⟩:=CY J hb;rw[e] at e1;cases e1;exact us b o e nf
def zg(X:Cx)(Ξ:XK):Prop:=∀(pins:List (Addr×Obj)) (σ:St) (H:Hp) (s:Shared) (h':Heap) (ea C:Addr) (vs:List Value),Inv X pins σ H s->Heap.MadeExcOf s.heap h' ea (.ref C) vs->Ξ (.ref C) none H->X.xe (.ref ea) { s with heap:=h' }
def LP(X:Cx)(Ξ:XK):Prop:=∀(pins:List (Addr×Obj)) (σ:St) (H H':Hp) (s s':Shared) (B:Heap) (ea C:Addr) (a0:Value),Inv X pins σ H s->Lies X H H' s B ea C a0 s'->Heap.HeldW B X.stack ea (.ref C) a0 X.env.locals s'.heap->Ξ (.ref C) none H'->X.xe (.ref ea) s'
def Sv(C:Addr)(Ξ:XK)(t:TA):TS:=λ_ σ H=>t σ H λvs H1=>vs.length<=sizeLine/\Ξ (.ref C) none H1
theorem a40{x:Str}{B newId hJ:String}{bm:List Value}{np gz:Pos}{kx:Expr}{rest:List Expr}{t:TA}{Ξ:XK}(hc:X.calm=true)(O:OwnCls x C bm newId X.mg X.base)(FB:ExcBaseFacts B newId hJ bm)(hg:Gl X x)(ha:PA X (kx::rest) t)(hr:zg X Ξ)(he:starEach (kx::rest) X.env=(false,eval kx X.env)::starEach rest X.env)(hV:(backTo gz (starEach rest X.env)).any (·.1)=false)(hd:(x==("__debug__":Str))=false) :
  PS X (.Raise (some (.Call (.Name x np) (kx::rest) [] gz)) none pos) (Sv C Ξ t):=by
 intro pins s σ H D I h;obtain⟨tl,N,nm,q,bs,hdct,sn,sub,ab,col,dd,k0,k1,k2,k3,k5,mN,hC,hN,xV,T⟩:=O.obj;refine wpAny_Raise_call_subT (C:=C) (nm:=nm) (q:=q) (N:=N) (bs:=bs) (bm:=tl) (hdct:=hdct) (sn:=sn) (sub:=sub) (ab:=ab) (col:=col) (dd:=dd) (k0:=k0) (k1:=k1) (k2:=k2) (k3:=k3) (k5:=k5)
  FB (mN:=mN) (T.hasType FB.hasBase) (I.ok.hd hc) (by rw[he];show(false||(backTo gz (starEach rest X.env)).any (·.1))=false;rw[hV];rfl) xV (Q5 I hg O.bound ⟨rfl,?_⟩ hd)
 have h':=ha gz pins s σ H _ I h;rw[he] at h' ⊢;refine Calls.evalArgs_plain (bK h' (λvs iy jC=>?_) λ_ _ y=>y);obtain⟨ws,H1,I1,rv,hz,hE⟩:=jC;exact⟨rfl,by rw[<- rv.length];exact hz,I1.bk _ _ hC,hN.keeps I1.bk,T.keeps I1.bk,λh2 ea hm=>hr pins σ H1 iy h2 ea C vs I1 hm hE⟩
end
def Fb(K:PySem.W.Frag)(a:Addr):It :=
 ⟨λi H=>∃xs x,gA K H a xs/\xs[i]?=some x,λi H v H'=>∃p x,H p=none/\v=.ref p/\(∀xs,gA K H a xs->xs[i]?=some x)/\H'=upd H p (.tup [.int i,x]),λi H=>∃xs,gA K H a xs/\xs.length<=i⟩
theorem ZH{P:Program}{w:World}{K:PySem.W.Frag}{elts:List Expr}{x1:Nat}{tp:Pos}(a e it:Addr)(GP:e≠it):Turn P w K (.Tuple elts x1 tp) (Fb K a) [e,it] e (λi h=>(∃old,IsEnum h e it i old)/\h.IsListIter it a i) where
 mem:=by simp
 obj:=λi h st b hb=>by
  obtain⟨⟨old,h1⟩,o,h2,c,d⟩:=st;rcases aH.mp hb with z|z
  ·subst z;exact ⟨_,h1,λv z=>by
    have z':Data.fields _=Data.cell v:=z;cases z'⟩
  ·have z:b=it:=by simpa using z
   subst z;exact⟨o,h2,λv z=>by rw[d] at z;cases z⟩
 keep:=λi h h' st k=>by
  obtain⟨⟨old,h1⟩,h2⟩:=st;exact⟨⟨old,k e (by simp) _ h1⟩,h2.at λo x=>k it (by simp) o x⟩
 item:=by
  intro X hP hw hK hc i pins s σ H E I hf st hg;subst hP hw hK;obtain⟨⟨old,h1⟩,h2⟩:=st;obtain⟨xs,x,hq,hx⟩:=hg;obtain⟨ba,rv,p,hz⟩:=I.list hq;obtain⟨u,hu,ru⟩:=rv.get hx;obtain⟨e0,e1,e2,e3,e4,e5⟩:=hf e (by simp);obtain⟨f0,f1,f2,f3,f4,f5⟩:=hf it (by simp);refine wpAny_pyNext_enum_item h1 h2 p.isList (x:=u) (by simpa using hu) GP λh' qc Bh pX vB oA=>?_;refine⟨_,rfl,wpAny_letOwnedTupleGo_enum qc λwb NU gK=>?_⟩;have gK:Heap.SameBut e h' wb:=gK;have elt:e<s.heap.objs.size:=ax h1;have kp:∀b o,b≠e->b≠it->s.heap.get? b=some o->wb.get? b=some o:=λb o b1 b2 q=>(gK.2 b b1).trans (oA b o b1 b2 q);have hn:H s.heap.objs.size=none:=I.cb.fresh (av _);have Al:wb.get? s.heap.objs.size=some { cls:=.type "tuple",data:=.seq #[.int i s.toks,u] }:=(gK.2 _ (bQ elt)).trans pX;have ne:∀b u',H b=some u'->b≠e/\b≠it:=λb u' q=>And.intro (λ(z:b=e)=>by rw[z,e0] at q;cases q) (λ(z:b=it)=>by rw[z,f0] at q;cases q);have cb:gU X.prog X.w (upd H s.heap.objs.size (.tup [.int i,x])) wb:=λb o q=>by
   by_cases hb:b=s.heap.objs.size
   ·subst hb;rw[u7] at q;cases q;exact⟨by show 2<=sizeLine;decide,[.int i s.toks,u],.cons ⟨_,rfl⟩ (.cons ru .nil),_,Al,rfl,⟨_,rfl⟩,rfl⟩
   ·rw[i6 hb] at q;refine(I.cb b o q).Z4 (λc v hc q'=>?_) (λc q'=>by rw[i6 (o8 q' hn)];exact q') λc ys q'=>by rw[i6 (o8 q' hn)];exact q'
    rcases hc with z|z
    ·subst z;exact kp _ _ (ne _ _ q).1 (ne _ _ q).2 q'
    ·exact kp _ _ (ne _ _ z).1 (ne _ _ z).2 q'
  have I2:Inv X pins σ (upd H s.heap.objs.size (.tup [.int i,x])) { s with heap:=wb,toks:=s.toks+1 }:=by
   refine I.step (g':=s.gens) (d':=s.drawn) (t':=s.toks+1) (ch:=[e,it]) (λb hb=>?_) (λb o _ _ hb q _=>kp b o (λz=>hb (by simp[z])) (λz=>hb (by simp[z])) q) (λb o _ _ hb q _=>⟨o.slots,kp b o (λz=>hb (by simp[z])) (λz=>hb (by simp[z])) q⟩)
    (λb o _ q n=>by rw[i6 (aE (ax q))];exact n) (λb o hb q=>⟨o,kp b o (λz=>hb (by simp[z])) (λz=>hb (by simp[z])) q⟩)
    (λb ys q=>by rw[i6 (o8 q hn)];exact q) (λb o' ys q=>by rw[i6 (o8 q hn)];exact q) (λb ps q=>⟨#[],by rw[i6 (o8 q hn),q];simp⟩) (λm hm=>?_) cb I.bare
   ·rcases aH.mp hb with z|z
    ·subst z;exact⟨e3,e1,e4,e5⟩
    ·have z:b=it:=by simpa using z
     subst z;exact⟨f3,f1,f4,f5⟩
   ·obtain⟨o,es,ep,ho,r⟩:=hm;exact⟨o,es,ep,kp _ o (cc e1) (cc f1) ho,r⟩
  refine⟨.ref s.heap.objs.size,_,I2,rfl,⟨s.heap.objs.size,x,hn,rfl,λys hy=>by rw[I.Lp hy hq];exact hx,rfl⟩,⟨⟨u,by simpa using NU⟩,Bh.at λo y=>(gK.2 it GP.symm).trans y⟩,λb hb=>?_⟩;have lS:b<s.heap.objs.size:=by
   rcases aH.mp hb with z|z
   ·subst z;exact elt
   ·have z:b=it:=by simpa using z
    subst z;obtain⟨o,h2,_⟩:=h2;exact ax h2
  rw[i6 (aE lS)];exact(hf b hb).1
 done:=by
  intro X hP hw hK hc i pins s σ H E I hf st hg;subst hP hw hK;obtain⟨⟨old,h1⟩,h2⟩:=st;obtain⟨xs,hq,hx⟩:=hg;obtain⟨ba,rv,p,hz⟩:=I.list hq;obtain⟨f0,f1,f2,f3,f4,f5⟩:=hf it (by simp);have hl:=rv.length;exact wpAny_pyNext_enum_end (I.ok.hd hc) h1 h2 p.isList (by simp;omega) λh' eb=>⟨rfl,I.turned (t':=s.toks) (λb o hb e=>eb b o hb e) f0 f1 f3 f4 f5⟩
 self:=λ_ _ _ _ _ st h=>by
  obtain⟨⟨old,h1⟩,h2⟩:=st;exact wpAny_pyIter_enum h1 h
theorem TX{l:Expr}{tp:Pos}{elts:List Expr}{x1:Nat}(hg:Gl X "enumerate")(hm:X.mg "enumerate"=none)(ha:PA X [l] ta)(hs:starEach [l] X.env=[(false,eval l X.env)]) :
  PI X (.Tuple elts x1 tp) (.Call (.Name "enumerate" p) [l] [] pos) (λσ H R=>ta σ H λvs H1=>∃a,vs=[.ref a]/\(∃xs,gA X.K H1 a xs)/\R (Fb X.K a) H1):=by
 intro pins s σ H R I h;refine Call_ (O7 I hg hm PyProof.Rows.boot_enumerate (cH (cW (ha pos pins s σ H _ I h) λus s1 bC=>?_) hs rfl));obtain⟨vs,H1,I1,r1,q1⟩:=bC;obtain⟨a,e,⟨xs,hq⟩,q⟩:=q1;subst e;cases r1 with
 |cons r rr =>
  cases rr;cases r;obtain⟨ba,rv,p,hz⟩:=I1.list hq;refine call_enumerate_list p.isList λh' he hit hsz hk=>wpAny_pyIter_enum he ?_;refine⟨s1.heap.objs.size+1,[s1.heap.objs.size+1,s1.heap.objs.size],_,_,H1,rfl,I1.kept (t':=s1.toks) hk,ZH a _ _ (by simp),⟨⟨_,he⟩,hit⟩,λb hb=>?_,q⟩;have lS:s1.heap.objs.size<=b:=by
   rcases aH.mp hb with z|z
   ·rw[z];exact cy _
   ·have z:b=s1.heap.objs.size:=by simpa using z
    rw[z];exact av _
  exact I1.sN lS (I1.cb.fresh lS)
theorem Xu{e:Expr}{t:TE}(he:PE X e t):PE X (.FormattedValue e (-1) none pos) (λσ H Q=>t σ H λx H1=>(∃i,x=.int i/\i.natAbs.log2<1920/\Q (.str (toString i)) H1)\/∃y,x=.str y/\y.length<=sizeLine/\Q (.str y) H1):=by
 intro pins s σ H Q I h;refine wpAny_FormattedValue_plain (cW (he pins s σ H _ I h) λv s1 bC=>?_);obtain⟨x,H1,I1,r1,q1⟩:=bC;rcases q1 with⟨i,rfl,hd,q⟩|⟨y,rfl,hy,q⟩
 ·obtain⟨t,rfl⟩:=r1;exact wpAny_formatField_int hd ⟨.str _,H1,I1.tok _,⟨_,rfl⟩,q⟩
 ·obtain⟨t,rfl⟩:=r1;exact wpAny_formatField_str ⟨.str _,H1,I1,⟨_,rfl⟩,q⟩ ⟨.str _,H1,I1.tok _,⟨_,rfl⟩,q⟩ hy
inductive ux(X:Cx):List Expr->List TE->Prop
 |nil:ux X [] []
 |cons {e:Expr} {t:TE} {es:List Expr} {ts:List TE} (h:PE X e t) (r:ux X es ts):ux X (e::es) (t::ts)
def yP:List TE->St->Hp->Str->(Str->Hp->Prop)->Prop
 |[],_,H,acc,Q=>Q acc H
 |t::ts,σ,H,acc,Q=>t σ H λx H1=>∃y,x=.str y/\(acc++y).length<=sizeLine/\yP ts σ H1 (acc++y) Q
theorem Lo{pins:List (Addr×Obj)}{σ:St}{Q:Str->Hp->Prop}:∀{es:List Expr} {ts:List TE},ux X es ts->∀{s:Shared} {H:Hp} {acc:Str},Inv X pins σ H s->yP ts σ H acc Q ->
  Joins (model X.prog X.w) X.A X.xe (evalEach es X.env) acc (λout s1=>∃H1,Inv X pins σ H1 s1/\Q out H1) s
 |_,_,.nil,s,H,acc,I,h=>⟨H,I,h⟩
 |_,_,.cons he r,s,H,acc,I,h=>by
  rw[arm_evalEach_cons];refine cW (he pins s σ H _ I h) λv s1 bC=>?_;obtain⟨x,H1,I1,r1,y,ey,hy,q1⟩:=bC;subst ey;obtain⟨t,rfl⟩:=r1;exact⟨y,t,rfl,hy,Lo r I1 q1⟩
theorem Jo{M:Model}{A:Around}{E:Value->Shared->Prop}{Q Q':Str->Shared->Prop}(hq:∀x s,Q x s->Q' x s):∀{l:List (Sem Value)} {acc:Str} {s:Shared},Joins M A E l acc Q s->Joins M A E l acc Q' s
 |[],acc,s,h=>hq _ _ h
 |x::r,acc,s,h=>cW h λv s1 ⟨y,t,e,hz,h1⟩=>⟨y,t,e,hz,Jo hq h1⟩
theorem TQ{mq mn:Expr}{rest:List Expr}{ts:List TE}(h:ux X (mq::mn::rest) ts):PE X (.JoinedStr (mq::mn::rest) pos) (λσ H Q=>yP ts σ H Str.empty λout H1=>out.length<=sizeLine/\Q (.str out) H1):=by
 intro pins s σ H Q I hw;refine wpAny_JoinedStr (Jo (λx s1 ⟨H1,I1,hl,q⟩=>⟨hl,.str x,H1,I1.tok _,⟨_,rfl⟩,q⟩) (Lo h I hw))
theorem ZV{lo:Int}{acc:Array Value}{n:Nat}(h:ItemsOf (λi v=>∃t,v=.int (lo+i*1) t) acc n):Vals ((List.range n).map λ(k:Nat)=>V.int (lo+k)) acc.toList:=by
 have hl:acc.toList.length=n:=by
  have:=h.1;simpa using this
 have go:∀(m:Nat) (l:List Value),l.length<=n->m+l.length=n->(∀i v,l[i]?=some v->∃t,v=Value.int (lo+((m+i:Nat):Int)) t)->Vals ((List.range' m l.length).map λ(k:Nat)=>V.int (lo+k)) l:=by
  intro m l
  induction l generalizing m with
  |nil=>intro _ _ _;exact .nil
  |cons x r ih =>
   intro h1 h2 h3;simp only[List.length_cons,List.range'_succ,List.map_cons];refine .cons ?_ (ih (m+1) (by simp at h1;omega) (by simp at h2;omega) λi v hv=>?_)
   ·obtain⟨t,e⟩:=h3 0 x rfl;exact⟨t,by rw[e];simp⟩
   ·obtain⟨t,e⟩:=h3 (i+1) v (by simpa using hv);exact⟨t,by rw[e,show m+(i+1)=m+1+i by omega]⟩
 have:=go 0 acc.toList (by omega) (by omega) λi v hv=>?_
 ·rw[hl,<- List.range_eq_range'] at this;exact this
 ·have hi:i<n:=by
   have:=(aw.mp hv).1;omega
  have:acc[i]?=some v:=by rw[<- eG];exact hv
  obtain⟨t,e⟩:=h.2 i v this;refine⟨t,?_⟩;rw[e];simp
theorem JV(hc:X.calm=true):n6 X (.type "list") (λxs H Q=>∃a lo hi,xs=[.ref a]/\H a=some (.mW lo hi)/\(-(2 ^ 62)<=lo/\lo<2 ^ 62/\-(2 ^ 62)<=hi/\hi<2 ^ 62/\hi-lo<=100000)/\∀p,H p=none->Q (.ref p) (upd H p (.lst ((List.range (hi-lo).toNat).map λ(k:Nat)=>V.int (lo+k))))):=by
 intro pins s σ H xs us Q I r h;obtain⟨a,lo,hi,rfl,ha,⟨h1,h2,h3,h4,h5⟩,q⟩:=h;obtain⟨t,u,v,ho⟩:=I.cb a _ ha;cases r with
 |cons r rr =>
 cases rr;cases r;have hn:Builtin.Range.rangeSize lo hi 1=((hi-lo).toNat:Nat):=by rw[rangeSize_one];split<;>omega
 refine call_list_range (n:=(hi-lo).toNat) (I.ok.hd hc) ho (small_one h1 h2 h3 h4) hn (by omega) λh' kA acc c hk hS jI=>?_;have hp:H s.heap.objs.size=none:=I.cb.fresh (av _);refine⟨.ref _,_,I.laid (a:=s.heap.objs.size) (o:=.lst ((List.range (hi-lo).toNat).map λ(k:Nat)=>V.int (lo+k))) (t':=kA) hk (av _) ⟨?_,acc.toList,c,ZV jI,by simpa using hS⟩,rfl,q _ hp⟩;rw[aj,fG];have:(hi-lo).toNat<=100000:=by omega
 exact aF this (by decide)
theorem Zn{a:Expr}(hg:Gl X "range")(hm:X.mg "range"=none)(ha:PA X [a] ta)(hs:starEach [a] X.env=[(false,eval a X.env)]):PE X (.Call (.Name "range" p) [a] [] pos) (λσ H Q=>ta σ H λvs H1=>∃j:Int,vs=[.int j]/\∀q,H1 q=none->Q (.ref q) (upd H1 q (.mW 0 j))):=by
 intro pins s σ H Q I h;refine cY (O7 I hg hm boot_range (cH (cW (ha pos pins s σ H _ I h) λus s1 bC=>?_) hs rfl));obtain⟨vs,H1,I1,r1,q1⟩:=bC;obtain⟨j,e,q⟩:=q1;subst e;cases r1 with
 |cons r rr =>
  cases rr;obtain⟨t,rfl⟩:=r;exact call_range_1 ⟨.ref s1.heap.objs.size,_,I1.laid (a:=s1.heap.objs.size) (o:=.mW 0 j) (λb o e=>ag _ e) (av _) ⟨_,_,_,aD _ rfl⟩,rfl,q _ (I1.cb.fresh (av _))⟩
theorem Zo{a b:Expr}(hg:Gl X "range")(hm:X.mg "range"=none)(ha:PA X [a,b] ta)(hs:starEach [a,b] X.env=[(false,eval a X.env),(false,eval b X.env)])(gK:starEach [b] X.env=[(false,eval b X.env)]):PE X (.Call (.Name "range" p) [a,b] [] pos) (λσ H Q=>ta σ H λvs H1=>∃i j:Int,vs=[.int i,.int j]/\∀q,H1 q=none->Q (.ref q) (upd H1 q (.mW i j))):=by
 intro pins s σ H Q I h;refine cY (O7 I hg hm boot_range (cH (cW (ha pos pins s σ H _ I h) λus s1 bC=>?_) (by rw[hs,gK]) (by rw[gK];rfl)));obtain⟨vs,H1,I1,r1,q1⟩:=bC;obtain⟨i,j,e,q⟩:=q1;subst e;cases r1 with
 |cons r rr =>
  cases rr with
  |cons r' rr =>
   cases rr;obtain⟨t,rfl⟩:=r;obtain⟨t',rfl⟩:=r';exact call_range_2 ⟨.ref s1.heap.objs.size,_,I1.laid (a:=s1.heap.objs.size) (o:=.mW i j) (λb o e=>ag _ e) (av _) ⟨_,_,_,aD _ rfl⟩,rfl,q _ (I1.cb.fresh (av _))⟩
def wK(K:PySem.W.Frag)(P:Params)(a:Addr)(kvs:List (Str×V)):Prop :=
 ∃es n,K.lookup a=some ⟨.type "dict",none,.dict es n,#[]⟩/\PySem.W.KeysLit P es.toList/\(a==sysModules)=false/\∀x,F0 (kvs.lookup x) (findBy Value.isStrOf es x)
theorem Ke{kvs:List (Str×V)}(neg:Bool):gn X (compareOp (if neg then .NotIn else .In)) (λx y H Q=>∃a z,y=.ref a/\wK X.K X.w.params a kvs/\x=.str z/\Q (.bl (xor neg (kvs.lookup z).isSome)) H):=by
 intro pins s σ H x y v u Q I rx ry h;obtain⟨a,z,rfl,⟨es,n,hl,hk,lo,hf⟩,rfl,q⟩:=h;obtain⟨t,rfl⟩:=rx;cases ry;have hm:=PySem.W.mapOf_K (prog:=X.prog) (w:=X.w) I.iA hl hk;have e:=hf z;have ee:(findBy Value.isStrOf es z).isSome=(kvs.lookup z).isSome:=by
  cases h1:kvs.lookup z<;>cases h2:findBy Value.isStrOf es z<;>rw[h1,h2] at e<;>first|rfl|exact e.elim
 cases neg
 ·exact wpAny_in_of (strKind_is X.prog X.w z t) lo hm ⟨.bl _,H,I.tok _,by rw[ee];rfl,by simpa using q⟩
 ·exact wpAny_notIn_of (strKind_is X.prog X.w z t) lo hm ⟨.bl _,H,I.tok _,by rw[ee];rfl,by simpa using q⟩
theorem WV{kvs:List (Str×V)}:sW X (λx y H Q=>∃a z v,x=.ref a/\wK X.K X.w.params a kvs/\y=.str z/\kvs.lookup z=some v/\Q v H):=by
 intro value slice pins s σ H x y v u Q I rx ry h hs;obtain⟨a,z,d,rfl,⟨es,n,hl,hk,lo,hf⟩,rfl,hz,q⟩:=h;cases rx;obtain⟨t,rfl⟩:=ry;have hm:=PySem.W.mapOf_K (prog:=X.prog) (w:=X.w) I.iA hl hk;have e:=hf z;rw[hz] at e;cases h2:findBy Value.isStrOf es z with
 |none=>rw[h2] at e;exact e.elim
 |some r =>
  rw[h2] at e;exact tail_any hm.typeIs slot_dict_getitem.lookup (wpAny_getItem_of (strKind_is X.prog X.w z t) hm h2 ⟨d,H,I.tok _,e,q⟩) hs
theorem Tf(hu:X.A.units+1<cLine):sW X (λx y H Q=>∃a v,x=.ref a/\P2 H a y (some v)/\Q v H):=by
 intro value slice pins s σ H x y v u Q I rx ry h hs;obtain⟨a,d,rfl,g,q⟩:=h;cases rx;exact tail_any (aG9 I g) slot_dict_getitem.lookup (YQ hu I g ry λw' s3 I3 gC=>⟨d,H,I3,gC,q⟩) hs
end L2
namespace ST
open PySem PyProof.Rows
variable{xs:Array Nat}{i k j n ep:Nat}{t:SetTable}{h h':Heap}{L:Bool}{es:Array (Int×Value)}{x f:Value}{prog:Program}{w:World}{a I b l:Addr}{ks ns:List Int}{A:Around}{E Q:Value->Shared->Prop}{s:Shared}{pl:List Nat}{α:Type}{r:Rd}{items:Array Value}
noncomputable abbrev lq(xs:Array Nat):Prop:=xs.toList.Pairwise (· < ·)
theorem lq.lt(h:lq xs)(gX:i<k)(hk:k<xs.size):xs.getD i 0<xs.getD k 0:=by
 have:=du.mp h i k (by simpa using cL gX hk) (by simpa using hk) gX;simp only[Array.getElem_toList] at this;rw[<- eF (h:=cL gX hk),<- eF (h:=hk)];exact this
theorem lq.le(h:lq xs)(gX:i<=k)(hk:k<xs.size):xs.getD i 0<=xs.getD k 0:=by
 rcases Nat.eq_or_lt_of_le gX with e|e
 ·rw[e];exact av _
 ·exact eT (h.lt e hk)
theorem CL{xs:Array Nat}{j:Nat}(h:lq xs):∀(fuel lo hi:Nat),hi-lo<=fuel->lo<=hi->hi<=xs.size->(∀i,i<lo->xs.getD i 0<j)->(∀i,hi<=i->i<xs.size->j<=xs.getD i 0) ->
  SetTable.below.go xs j fuel lo hi<=xs.size/\(∀i,i<SetTable.below.go xs j fuel lo hi->xs.getD i 0<j)/\∀i,SetTable.below.go xs j fuel lo hi<=i->i<xs.size->j<=xs.getD i 0
 |0,lo,hi,h1,h2,h3,h4,h5=>by
  unfold SetTable.below.go;have:lo=hi:=by omega
  subst this;exact⟨h3,h4,h5⟩
 |fuel+1,lo,hi,h1,h2,h3,h4,h5=>by
  unfold SetTable.below.go;split
  ·rename_i hl;have hm:(lo+hi) / 2<xs.size:=by omega
   have em:xs.getD ((lo+hi) / 2) j=xs.getD ((lo+hi) / 2) 0:=by simp[Array.getD,hm]
   dsimp only;rw[em];by_cases hc:xs.getD ((lo+hi) / 2) 0<j
   ·rw[aI hc];exact CL h fuel _ hi (by omega) (by omega) h3 (λi jI=>dh (h.le (by omega) hm) hc) h5
   ·rw[aC hc];exact CL h fuel lo _ (by omega) (by omega) (by omega) h4 λi jI hs=>aF (Nat.le_of_not_lt hc) (h.le jI hs)
  ·have:lo=hi:=by omega
   subst this;exact⟨h3,h4,h5⟩
theorem Q1(j:Nat)(h:lq xs):SetTable.below xs j<=xs.size/\(∀i,i<SetTable.below xs j->xs.getD i 0<j)/\∀i,SetTable.below xs j<=i->i<xs.size->j<=xs.getD i 0 :=
 CL h _ 0 _ (by omega) (by omega) (av _) (λi hi=>absurd hi (Nat.not_lt_zero _)) λi h1 h2=>absurd h2 (by omega)
theorem below_at(h:lq xs)(hi:i<xs.size):SetTable.below xs (xs.getD i 0)=i:=by
 obtain⟨h1,h2,h3⟩:=Q1 (xs.getD i 0) h;rcases ie (SetTable.below xs (xs.getD i 0)) i with z|z|z
 ·exact absurd (h3 _ (av _) (by omega)) (Nat.not_le_of_lt (h.lt z hi))
 ·exact z
 ·exact absurd (h2 i z) (bI _)
theorem ZM(h:lq xs)(hi:i<xs.size):SetTable.below xs (xs.getD i 0+1)=i+1:=by
 obtain⟨h1,h2,h3⟩:=Q1 (xs.getD i 0+1) h;rcases ie (SetTable.below xs (xs.getD i 0+1)) (i+1) with z|z|z
 ·have:=h3 i (by omega) hi;omega
 ·exact z
 ·have:=h2 (i+1) z;have:=h.lt (fQ i) (k:=i+1) (by omega);omega
theorem ZN(h:lq xs):SetTable.below xs 0=0:=by
 obtain⟨_,h2,_⟩:=Q1 0 h;rcases Nat.eq_zero_or_pos (SetTable.below xs 0) with z|z
 ·exact z
 ·exact absurd (h2 0 z) (Nat.not_lt_zero _)
theorem getD_mem(hi:i<xs.size):xs[i]?=some (xs.getD i 0):=by simp[Array.getD,hi]
theorem aL8(h:lq t.place)(hs:t.slot j=.empty):j∉t.place.toList:=by
 intro hm;obtain⟨i,hi,e⟩:=bz.mp hm;have jI:i<t.place.size:=by simpa using hi
 have ej:t.place.getD i 0=j:=by rw[<- eF (h:=jI)];simpa using e
 have hb:=below_at h jI;rw[ej] at hb;unfold SetTable.slot at hs;dsimp only at hs;rw[hb,getD_mem jI,ej] at hs;simp at hs
theorem aM6(h:lq xs)(hj:j∉xs.toList):lq (SetTable.insertAt xs (SetTable.below xs j) j):=by
 obtain⟨h1,h2,h3⟩:=Q1 j h;show(SetTable.insertAt xs (SetTable.below xs j) j).toList.Pairwise (· < ·);rw[SetTable.toList_insertAt,aS];have tk:∀a∈xs.toList.take (SetTable.below xs j),a<j:=λa ha=>by
  obtain⟨i,hi,e⟩:=bz.mp ha;rw[cT] at hi;rw[List.getElem_take] at e;have hs:i<xs.size:=by simp at hi;omega
  have:=h2 i (by omega);rw[<- eF (h:=hs)] at this;simp at e;omega
 have dp:∀b∈xs.toList.drop (SetTable.below xs j),j<b:=λb hb=>by
  obtain⟨i,hi,e⟩:=bz.mp hb;rw[mh] at hi;rw[List.getElem_drop] at e;have hs:SetTable.below xs j+i<xs.size:=by simp at hi;omega
  have:=h3 (SetTable.below xs j+i) (by omega) hs;rw[<- eF (h:=hs)] at this;have fy:b≠j:=λz=>hj (by rw[<- z];exact zZ hb);simp at e;omega
 refine⟨h.take,fo.mpr ⟨dp,h.drop⟩,λa ha b hb=>?_⟩;have nV:=tk a ha;rcases aH.mp hb with z|z
 ·omega
 ·have:=dp b z;omega
theorem Zx(n:Nat):lq (Array.range n):=by
 show(Array.range n).toList.Pairwise (· < ·);rw[Array.toList_range];exact uB
structure Well(L:Bool)(t:SetTable):Prop where
 xI:lq t.place
 Ce:t.dummies=#[]
 led:t.led=L
theorem a56(hd:t.dummies=#[])(j:Nat):t.slot j≠.dummy:=by
 unfold SetTable.slot;dsimp only;split
 ·intro z;cases z
 ·rw[hd];split
  ·rename_i z;simp[SetTable.has] at z
  ·intro z;cases z
theorem JN{t:SetTable}(hd:t.dummies=#[]){hashAt:Nat->Int}{h:Int}:∀(fuel:Nat) (p:SetTable.Probe) {j:Nat} {dm:Option Nat},p.dummy=none->SetTable.probe.go t hashAt h fuel p=some (.empty j dm)->t.slot j=.empty/\dm=none
 |0,p,j,dm,_,e=>by simp[SetTable.probe.go] at e
 |fuel+1,p,j,dm,hp,e=>by
  unfold SetTable.probe.go at e;have ad:∀q:SetTable.Probe,q.dummy=none->(t.advance q).dummy=none:=λq hq=>by
   unfold SetTable.advance;split
   ·exact hq
   ·exact hq
  split at e
  ·rename_i hs;cases e;exact⟨hs,hp⟩
  ·rename_i hs;exact absurd hs (a56 hd _)
  ·split at e
   ·cases e
   ·exact JN hd fuel _ (ad p hp) e
theorem YT(hd:t.dummies=#[]){h:Int}{wd:Bool}(e:t.freeSlot h=some (j,wd)):t.slot j=.empty/\wd=false:=by
 unfold SetTable.freeSlot at e;split at e
 ·rename_i j' dm hp;obtain⟨h1,h2⟩:=JN hd _ _ rfl hp;subst h2;cases e;exact⟨h1,rfl⟩
 ·cases e
theorem L5(h:Well L t)(n:Nat):Well L (t.standIn n):=⟨Zx n,rfl,h.led⟩
theorem aG6{h:Int}(hw:Well L t):Well L (layNew t es h x).2.1/\(layNew t es h x).2.2.1=false:=by
 unfold layNew;split
 ·rename_i slot wd e;obtain⟨h1,h2⟩:=YT hw.Ce e;refine⟨?_,h2⟩;have hd:SetTable.has t.dummies slot=false:=by rw[hw.Ce];simp[SetTable.has]
  have w2:Well L (t.put slot).1:=⟨aM6 hw.xI (aL8 hw.xI h1),by simp only[SetTable.put,hd];exact hw.Ce,hw.led⟩
  dsimp only;unfold SetTable.orStandIn;split
  ·exact w2
  ·exact L5 w2 _
 ·exact⟨L5 hw _,rfl⟩
theorem Zb{mask finger moves:Nat}{led plain:Bool}{hashes:Array Int}{o:Array Nat}(hl:led=L)(e:SetTable.laid mask finger moves led plain hashes=some (t,o)):Well L t:=by
 unfold SetTable.laid at e;cases ho:SetTable.layClean mask hashes with
 |none=>rw[ho] at e;cases e
 |some owner =>
  rw[ho] at e;simp only[Option.bind_eq_bind,Option.bind_some,Option.pure_def,Option.some.injEq,Prod.mk.injEq] at e;obtain⟨rfl,_⟩:=e;refine⟨?_,rfl,hl⟩;show(List.map _ _).toArray.toList.Pairwise (· < ·);rw[List.toList_toArray];have sub:((List.range (mask+1)).filterMap λj=>(owner.getD j none).map (j,·)).map (·.1) |>.Sublist (List.range (mask+1)):=by
   generalize List.range (mask+1)=l
   induction l with
   |nil=>simp
   |cons a r ih =>
    rw[fb];cases owner.getD a none with
    |none=>exact ih.cons a
    |some k=>exact ih.cons_cons a
  exact List.Pairwise.sublist sub uB
theorem Ye(hw:Well L t):Well L (relayAll t es n).2.1:=by
 unfold relayAll;split
 ·rename_i t' order e;dsimp only;split
  ·exact Zb hw.led e
  ·exact L5 hw _
 ·exact L5 hw _
def toI:Value->Int
 |.int k _=>k
 |_=>0
def Led(w:World):Bool:=!(w.params.followText "set-order")
def v5(prog:Program)(w:World)(h:Heap)(a:Addr)(ks:List Int):Prop :=
 ∃o es ep t,h.get? a=some o/\o.ExactSet/\o.data=.set es ep t/\ElemsOf (intKind prog w) es.toList/\(es.toList.map λe=>toI e.2).Perm ks/\ks.Nodup/\es.size<scanBound/\t.fits es.size=true/\Well (Led w) t
theorem v5.at(x:v5 prog w h a ks)(k:∀o,h.get? a=some o->h'.get? a=some o):v5 prog w h' a ks:=by
 obtain⟨o,es,ep,t,e,r⟩:=x;exact⟨o,es,ep,t,k o e,r⟩
theorem Kw{e:Int×Value}{es:List (Int×Value)}(h:ElemsOf (intKind prog w) es)(he:e∈es):∃tk,e.2=.int (toI e.2) tk/\e.1=(intKind prog w).hash (toI e.2):=by
 obtain⟨⟨k,h1,h2⟩,_⟩:=h e he;obtain⟨t,ht⟩:=oG (k:=k) (v:=e.2) h1;refine⟨t,by rw[ht];rfl,?_⟩;rw[h2,ht]
 rfl
theorem Kb{e:Int×Value}{es:List (Int×Value)}(h:ElemsOf (intKind prog w) es)(he:e∈es)(k:Int):(intKind prog w).is k e.2=decide (toI e.2=k):=by
 obtain⟨t,ht,_⟩:=Kw h he;show Value.isInt k e.2=_;rw[ht];generalize toI e.2=m;show Value.isInt k (.int m t)=decide (m=k);by_cases z:m=k
 ·subst z;simp[Value.isInt]
 ·rw[aK z];cases hv:Value.isInt k (.int m t) with
  |false=>rfl
  |true =>
   obtain⟨t',e'⟩:=oG hv;cases e';exact absurd rfl z
theorem v5.mem{a:Addr}{es:List (Int×Value)}(h:ElemsOf (intKind prog w) es)(hp:(es.map λe=>toI e.2).Perm ks)(k:Int):(es.findIdx? λe=>(intKind prog w).is k e.2).isSome=decide (k∈ks):=by
 rw[aZ,dS,<- hp.mem_iff,aP,ff];constructor
 ·rintro⟨i,hi⟩;obtain⟨h1,h2,_⟩:=kY.mp hi;have hm:=cG h1;rw[Kb h hm] at h2;exact⟨_,hm,bg h2⟩
 ·rintro⟨e,he,rfl⟩;cases hf:es.findIdx? λe'=>(intKind prog w).is (toI e.2) e'.2 with
  |some i=>exact⟨i,rfl⟩
  |none =>
   have:=List.findIdx?_eq_none_iff.mp hf e he;rw[Kb h he] at this;simp at this
def B0(ks:List Int)(k:Int):List Int:=if k∈ks then ks else ks++[k]
theorem a87(ks:List Int)(k:Int):(B0 ks k).length<=ks.length+1:=by unfold B0;split<;>simp
theorem Ih{k:Int}{tk:Tok}{Q:Bool->Shared->Prop}(hS:v5 prog w s.heap a ks)(hr:ks.length+1<scanBound)(h:∀h' b,Heap.SameBut a s.heap h'->v5 prog w h' a (B0 ks k)->Q b { s with heap:=h' }):wpAny (model prog w) A (setAddHashed a (.int k tk) ((intKind prog w).hash k)) Q E s:=by
 obtain⟨o,es,ep,t,ho,hx,hd,rO,hp,hn,hb,hf,hw⟩:=hS;have hlen:es.size=ks.length:=by rw[<- hp.length_eq];simp
 have gw:(intKind prog w).is k (.int k tk)=true:=gD _ _ _ _;have gv:∀(b:Bool) (s1:Shared) (Q':Unit->Shared->Prop),Q' () s1->wpAny (model prog w) A (match b with|true=>rule "set.scan.the-table-gave-way"|false=>pure ()) Q' E s1:=λb s1 Q' q=>by
  cases b
  ·exact ak q
  ·exact cX q
 unfold setAddHashed setAddHashedIn;refine bJ (aa (cQ ho hd hf ?_));dsimp only;rw[byScan_of rfl hb rO,aI rfl];unfold setAddByScan;refine aa (aa (cX (aa (wpAny_setScan_of gw ho hd hf rO ?_))));have hm:=v5.mem (a:=a) rO hp k;cases eY:es.toList.findIdx? (λe=>(intKind prog w).is k e.2) with
 |some j =>
  rw[eY] at hm;have hk:k∈ks:=by simpa using hm.symm
  refine ak (ak ?_);have e0:s={ s with heap:=s.heap }:=rfl;rw[e0];refine h s.heap _ (Heap.SameBut.refl a s.heap) ?_;unfold B0;rw[aI hk];exact⟨o,es,ep,t,ho,hx,hd,rO,hp,hn,hb,hf,hw⟩
 |none =>
  rw[eY] at hm;have hk:k∉ks:=by simpa using hm.symm
  dsimp only;have p1:=layNew_perm t es ((intKind prog w).hash k) (.int k tk);have f1:=layNew_fits t es ((intKind prog w).hash k) (.int k tk);obtain⟨w1,Ai⟩:=aG6 (es:=es) (h:=(intKind prog w).hash k) (x:=.int k tk) hw;generalize layNew t es ((intKind prog w).hash k) (.int k tk)=R1 at p1 f1 w1 Ai ⊢;obtain⟨ic,t1,wd,OX⟩:=R1;dsimp only at p1 f1 w1 Ai ⊢;subst Ai;rw[dA] at p1;have Hr:ElemsOf (intKind prog w) ic.toList:=(rO.push gw rfl).perm p1;have sz1:ic.size=es.size+1:=by rw[<- bt,p1.length_eq];simp
  have k1:(ic.toList.map λe=>toI e.2).Perm (B0 ks k):=by
   unfold B0;rw[aC hk];refine(p1.map _).trans ?_;rw[eA];exact hp.append_right _
  have n1:(B0 ks k).Nodup:=by
   unfold B0;rw[aC hk,cM];exact⟨hn,by simp,λx hx y hy=>by simp at hy;subst hy;exact λz=>hk (z▸hx)⟩
  refine aa (gv _ _ _ ?_);have fin:∀ (t2:SetTable),t2.fits ic.size=true->Well (Led w) t2->wpAny (model prog w) A (do
    storeSet a ic t2
    if(!false&&t2.tooFull)=true then do
      (match(relayAll t2 ic (SetTable.grown ic.size)).2.2 with|true=>rule "set.scan.the-table-gave-way"|false=>pure ())
      storeSet a (relayAll t2 ic (SetTable.grown ic.size)).1 (relayAll t2 ic (SetTable.grown ic.size)).2.1
      pure (some true)
     else pure (some true)) (λr s'=>wpAny (model prog w) A (match r with | some added=>pure added | none=>setAddHashedIn a (.int k tk) ((intKind prog w).hash k) 99999) Q E s') E s:=λt2 f2 w2=>by
   have g1:(s.heap.update a (Obj.putSet ic t2)).get? a=some { o with data:=.set ic (ep+1) t2 }:=by
    have:=bw (Obj.putSet ic t2) ho (by rw[lM ic t2 hd];rfl);rw[lM ic t2 hd] at this;exact this
   refine aa (wpAny_storeSet_of ho hd ?_ (fits_of_scanBound (by omega)));have FE:=bR s.heap a (Obj.putSet ic t2);split
   ·have p2:=relayAll_perm t2 ic (SetTable.grown ic.size);have f3:=relayAll_fits t2 ic (SetTable.grown ic.size);have w3:=Ye (es:=ic) (n:=SetTable.grown ic.size) w2;generalize relayAll t2 ic (SetTable.grown ic.size)=R2 at p2 f3 w3 ⊢;obtain⟨nZ,t3,gv2⟩:=R2;dsimp only at p2 f3 w3 ⊢;have sz2:nZ.size=ic.size:=by rw[<- bt,p2.length_eq,bt]
    refine aa (gv _ _ _ ?_);refine aa (wpAny_storeSet_of g1 rfl ?_ (fits_of_scanBound (by omega)));refine ak (ak (h _ _ (FE.trans (bR _ a _)) ?_));have g2:((s.heap.update a (Obj.putSet ic t2)).update a (Obj.putSet nZ t3)).get? a=some { o with data:=.set nZ (ep+1+1) t3 }:=by
     have:=bw (Obj.putSet nZ t3) g1 (by rw[lM nZ t3 rfl];rfl);rw[lM nZ t3 rfl] at this;exact this
    exact⟨_,nZ,_,t3,g2,hx,rfl,Hr.perm p2,(p2.map _).trans k1,n1,by omega,f3,w3⟩
   ·exact ak (ak (h _ _ FE ⟨_,ic,_,t2,g1,hx,rfl,Hr,k1,n1,by omega,f1 |> λ_=>f2,w2⟩))
  split
  ·refine aa (eJ (hashByValue_scannable 8 rfl) ?_);exact fin _ f1 w1
  ·refine aa (ak ?_);exact fin _ f1 w1
theorem aD8:entryFor table "set.__iter__"=some Builtin.«frozenset.__iter__» :=
 entryFor_alias (id':="frozenset.__iter__") (by kernel_rfl) rfl (by decide +kernel) (by kernel_rfl)
theorem C1:Slot "set_iterator" "__next__" "set_iterator.__next__" :=
 .of (owner:="set_iterator") (n:="__next__") (by rw[gZ,eQ];kernel_rfl) (by decide +kernel) (by decide +kernel) (by decide +kernel)
  (by first|exact .inl (by decide +kernel)|exact .inr (by decide +kernel)) (by rw[ei];kernel_rfl)
theorem JH:entryFor table "set_iterator.__next__"=some Builtin.«set_iterator.__next__»:=entryFor_of_tree (by kernel_rfl)
theorem JR(a:Value):argsOk "set_iterator.__next__" ⟨[a],[]⟩:=by
 unfold argsOk
 kernel_rfl
theorem JU:Slot "set_iterator" "__iter__" "set_iterator.__iter__" :=
 .of (owner:="set_iterator") (n:="__iter__") (by rw[gZ,eQ];kernel_rfl) (by decide +kernel) (by decide +kernel) (by decide +kernel)
  (by first|exact .inl (by decide +kernel)|exact .inr (by decide +kernel)) (by rw[ei];kernel_rfl)
theorem aG8:entryFor table "set_iterator.__iter__"=some Builtin.«dict_keyiterator.__iter__» :=
 entryFor_alias (id':="dict_keyiterator.__iter__") (by kernel_rfl) rfl (by decide +kernel) (by kernel_rfl)
theorem aF3(a:Value):argsOk "set_iterator.__iter__" ⟨[a],[]⟩:=by
 unfold argsOk
 kernel_rfl
inductive Rd|text|plain|drawn
structure Lies(h:Heap)(a:Addr)(es:Array (Int×Value))(ep:Nat)(t:SetTable):Prop where
 at_:∃o,h.get? a=some o/\o.cls=.type "set"/\o.data=.set es ep t
 fit:t.fits es.size=true
theorem Lies.at(x:Lies h a es ep t)(k:∀o,h.get? a=some o->h'.get? a=some o):Lies h' a es ep t :=
 ⟨let ⟨o,e,r⟩:=x.at_;⟨o,k o e,r⟩,x.fit⟩
def C8(h:Heap)(I a:Addr)(f:Value)(i n ep:Nat):Prop:=∃o,h.get? I=some o/\o.cls=.type "set_iterator"/\o.data=.fields #[f,rawInt i,.ref a,rawInt n,rawInt ep]
theorem C8.at(x:C8 h I a f i n ep)(k:∀o,h.get? I=some o->h'.get? I=some o):C8 h' I a f i n ep:=let ⟨o,e,r⟩:=x;⟨o,k o e,r⟩
theorem C8.ty(x:C8 s.heap I a f i n ep):s.TypeIs (.ref I) "set_iterator":=let ⟨o,e,c,_⟩:=x;⟨o,e,c⟩
def wO(w:World)(a:Addr)(es:Array (Int×Value))(ep:Nat)(pl:List Nat):Rd->List Value
 |.text=>(pickOrder (w.params.setOrder a ep) es).toList.map (·.2)
 |.plain=>es.toList.map (·.2)
 |.drawn=>pl.map λj=>(es.getD j (0,.none)).2
def slotAt(t:SetTable):Nat->Nat
 |0=>0
 |i+1=>t.place.getD i 0+1
def N1(h:Heap)(t:SetTable)(b:Addr)(pl:List Nat)(i:Nat)(f:Value):Rd->Prop
 |.text=>∃k:Nat,f=rawInt k
 |.plain=>f=rawInt (slotAt t i)
 |.drawn=>f=.ref b/\∃o e,h.get? b=some o/\o.cls=.type "tuple"/\o.data=.seq (pl.map λj=>rawInt (j:Nat)).toArray e
def ud(w:World)(es:Array (Int×Value))(t:SetTable)(pl:List Nat):Rd->Prop
 |.text=>w.params.followText "set-order"=true
 |.plain=>w.params.followText "set-order"=false/\(t.plain=true\/es.size<=1)/\Well true t
 |.drawn=>w.params.followText "set-order"=false/\pl.Perm (List.range es.size)
theorem wR{Q:Bool->Shared->Prop}(h:Q (w.params.followText "set-order") s):wpAny (model prog w) A setsByText Q E s:=by
 unfold setsByText;exact aa (qG (ak h))
theorem Je(hL:Lies s.heap a es ep t)(ht:w.params.followText "set-order"=true){sl g:Nat}{Q:Option (Value×Nat)->Shared->Prop}(h:Q (((pickOrder (w.params.setOrder a ep) es)[g]?).map λe=>(e.2,sl)) s) :
  wpAny (model prog w) A (setNext a sl g ep) Q E s:=by
 obtain⟨o,ho,_,hd⟩:=hL.at_;unfold setNext;refine aa (cQ ho hd hL.fit ?_);refine aa (wR ?_);rw[ht,aI rfl,aC (by simp)];unfold setWalk;refine aa (aa (cQ ho hd hL.fit ?_));refine aa (wR ?_);rw[ht,aI rfl];exact aa (qG (ak (ak h)))
theorem Jz(hL:Lies s.heap a es ep t)(ht:w.params.followText "set-order"=false)(hp:t.plain=true\/es.size<=1)(hl:t.led=true){sl g:Nat}{Q:Option (Value×Nat)->Shared->Prop}(h:Q (match es[SetTable.below t.place sl]?,t.place[SetTable.below t.place sl]? with|some (_,x),some j=>some (x,j+1)|_,_=>none) s):wpAny (model prog w) A (setNext a sl g ep) Q E s:=by
 obtain⟨o,ho,_,hd⟩:=hL.at_;unfold setNext;refine aa (cQ ho hd hL.fit ?_);refine aa (wR ?_);rw[ht,aC (by decide)];show wpAny _ _ (if(!t.plain&&decide (es.size>1))=true then _ else _) _ _ _;rw[aC (by rcases hp with e|e<;>simp[e])];refine aa (eJ (a:=()) ?_ (ak h));show((if(!t.led&&!es.isEmpty)=true then unsupported "set:maker-not-led" else pure ()):Sem Unit)=pure ();rw[hl]
 rfl
theorem aN9(hL:Lies s.heap a es ep t)(hj:j<es.size)(h:Q (es.getD j (0,.none)).2 s):wpAny (model prog w) A (setNextDrawn a j ep) Q E s:=by
 obtain⟨o,ho,_,hd⟩:=hL.at_;unfold setNextDrawn;refine aa (cQ ho hd hL.fit ?_);dsimp only;rw[aC (by simp)];have e:es[j]?=some (es.getD j (0,.none)):=by simp[Array.getD,hj]
 rw[e];exact ak h
theorem II(hL:Lies s.heap a es ep t):t.place.size=es.size:=by
 have:=hL.fit;unfold SetTable.fits at this;simp at this;exact this.1
theorem Jq(hw:lq t.place)(hi:i<=t.place.size):SetTable.below t.place (slotAt t i)=i:=by
 cases i with
 |zero=>exact ZN hw
 |succ i=>exact ZM hw (by omega)
theorem entries{Q:Array (Int×Value)->Shared->Prop}(hL:Lies s.heap a es ep t)(h:Q es s):wpAny (model prog w) A (setEntries a) Q E s:=by
 obtain⟨o,ho,_,hd⟩:=hL.at_;unfold setEntries;exact aa (cQ ho hd hL.fit (ak h))
theorem Vl{f':Value}(hi:C8 h I a f i n ep)(hx:x=rawInt ((i:Int)+1)):C8 ((h.update I (Obj.mapFields (·.setIfInBounds 0 f'))).update I (Obj.mapFields (·.setIfInBounds 1 x))) I a f' (i+1) n ep:=by
 obtain⟨o,ho,hc,hd⟩:=hi;have h1:=bw (Obj.mapFields (·.setIfInBounds 0 f')) ho (eR (cq hd _));have d1:(Obj.mapFields (·.setIfInBounds 0 f') o).data=.fields #[f',rawInt i,.ref a,rawInt n,rawInt ep]:=by rw[cq hd];simp
 have h2:=bw (Obj.mapFields (·.setIfInBounds 1 x)) h1 (eR (cq d1 _));refine⟨_,h2,(oH ..).trans ((oH ..).trans hc),?_⟩;rw[cq d1];subst hx;simp[rawInt]
theorem Vk(hi:C8 h I a f i n ep)(hx:x=rawInt ((i:Int)+1)):C8 (h.update I (Obj.mapFields (·.setIfInBounds 1 x))) I a f (i+1) n ep:=by
 obtain⟨o,ho,hc,hd⟩:=hi;have h2:=bw (Obj.mapFields (·.setIfInBounds 1 x)) ho (eR (cq hd _));refine⟨_,h2,(oH ..).trans hc,?_⟩;rw[cq hd];subst hx;simp[rawInt]
theorem HY{f':Value}{m:Sem α}{Q':α->Shared->Prop}(hi:C8 s.heap I a f i n ep)(hx:x=rawInt ((i:Int)+1))(h:∀h',C8 h' I a f' (i+1) n ep->Heap.SameBut I s.heap h'->wpAny (model prog w) A m Q' E { s with heap:=h' }) :
  wpAny (model prog w) A (do setField (.ref I) 0 f';setField (.ref I) 1 x;m) Q' E s:=by
 obtain⟨o,ho,hc,hd⟩:=id hi;refine aa (fe ho hd (by simp) ?_);have h1:=bw (Obj.mapFields (·.setIfInBounds 0 f')) ho (eR (cq hd _));have d1:(Obj.mapFields (·.setIfInBounds 0 f') o).data=.fields #[f',rawInt i,.ref a,rawInt n,rawInt ep]:=by rw[cq hd];simp
 refine aa (fe (s:={ s with heap:=_ }) h1 d1 (by simp) ?_);exact h _ (Vl hi hx) ((bR ..).trans (bR ..))
theorem VT{m:Sem α}{Q':α->Shared->Prop}(hi:C8 s.heap I a f i n ep)(hx:x=rawInt ((i:Int)+1))(h:∀h',C8 h' I a f (i+1) n ep->Heap.SameBut I s.heap h'->wpAny (model prog w) A m Q' E { s with heap:=h' }) :
  wpAny (model prog w) A (do setField (.ref I) 1 x;m) Q' E s:=by
 obtain⟨o,ho,hc,hd⟩:=id hi;refine aa (fe ho hd (by simp) ?_);exact h _ (Vk hi hx) (bR ..)
theorem Dg(next:Nat->Nat)(xs:Array α):(pickOrder next xs).toList.Perm xs.toList:=by
 have go:∀(fuel k:Nat) (left:List α) (out:Array α),fuel=left.length->(pickOrder.go next fuel k left out).toList.Perm (out.toList++left):=by
  intro fuel
  induction fuel with
  |zero =>
   intro k left out e;have:left=[]:=dQ e.symm;subst this;simp[pickOrder.go]
  |succ n ih =>
   intro k left out e;have dO:next k % left.length<left.length:=Ml _ (by omega)
   unfold pickOrder.go;rw[ao dO];refine(ih _ _ _ (by rw[gM dO];omega)).trans ?_;rw[dA,bH];refine eE _ ?_;have:left.Perm (left[next k % left.length]::left.eraseIdx (next k % left.length)):=by
    rw[lN]
    conv=>lhs;rw[<- bP (next k % left.length) left,eX dO]
    exact List.perm_middle
   exact this.symm
 have:=go xs.size 0 xs.toList #[] (by simp);simpa[pickOrder] using this
theorem next_item{Q:Option Value->Shared->Prop}(hL:Lies s.heap a es ep t)(hr:ud w es t pl r)(hi:C8 s.heap I a f i es.size ep)(hf:N1 s.heap t b pl i f r)(fy:b≠I)(dO:i<es.size)(h:∀v h' f',(wO w a es ep pl r)[i]?=some v->C8 h' I a f' (i+1) es.size ep->N1 h' t b pl (i+1) f' r->Heap.SameBut I s.heap h'->Q (some v) { s with heap:=h' }):wpAny (model prog w) A (pyNext (.ref I)) Q E s:=by
 obtain⟨o,ho,hc,hd⟩:=id hi;unfold pyNext;refine aa (mQ (fP (name:=Str.ofString "__next__") hi.ty C1 (cJ C1 hi.ty JH ?_ (JR _))));unfold Builtin.«set_iterator.__next__»;refine aa (ak ?_);refine aa (wpAny_fieldsOf ho hd ?_);dsimp only[rawInt];refine aa (entries hL ?_);rw[aC (by simp)];rw[cN,cN];cases r with
 |text =>
  obtain⟨k,rfl⟩:=hf;dsimp only[rawInt];refine aa (Je hL hr ?_);have hl:i<(pickOrder (w.params.setOrder a ep) es).size:=by
   have:=(Dg (w.params.setOrder a ep) es).length_eq;simp at this;omega
  rw[pO hl];refine HY hi rfl λh' h1 h2=>ak ⟨_,rfl,ak (h _ _ _ ?_ h1 ⟨_,rfl⟩ h2)⟩;show((pickOrder (w.params.setOrder a ep) es).toList.map (·.2))[i]?=_;simp[hl]
 |plain =>
  obtain⟨r1,r2,r3⟩:=hr;have hs:=II hL;obtain rfl:=hf;dsimp only[rawInt];rw[cN];refine aa (Jz hL r1 r2 r3.led ?_);rw[Jq r3.xI (by omega),pO dO,getD_mem (by omega)];refine HY hi rfl λh' h1 h2=>ak ⟨_,rfl,ak (h _ _ _ ?_ h1 rfl h2)⟩;show(es.toList.map (·.2))[i]?=_;simp[dO]
 |drawn =>
  obtain⟨r1,r2⟩:=hr;obtain⟨rfl,ob,e,hb,GU,yg⟩:=hf;have iP:i<pl.length:=by rw[r2.length_eq];simpa using dO
  dsimp only;refine aa (wpAny_seqItems hb yg ?_);have hj:pl[i]<es.size:=by
   have:=r2.mem_iff.mp (cG iP);simpa using this
  have e1:(pl.map λj=>rawInt (j:Nat)).toArray[i]?=some (rawInt (pl[i]:Nat)):=by simp[iP]
  dsimp only;rw[e1];dsimp only[rawInt];rw[cN];refine aa (aN9 hL hj ?_);refine VT hi rfl λh' h1 h2=>ak ⟨_,rfl,ak (h _ _ _ ?_ h1 ⟨rfl,ob,e,by rw[h2.2 b fy];exact hb,GU,yg⟩ h2)⟩;show(pl.map λj=>(es.getD j (0,.none)).2)[i]?=_;simp[iP]
theorem Dh{Q:Option Value->Shared->Prop}{h0:Heap}(hh:A.handled=none)(OP:Heap.ExtBut I h0 s.heap)(h:∀h',Heap.ExtBut I h0 h'->Q none { s with heap:=h' }) :
  wpAny (model prog w) A.in1 (newExc (.type "StopIteration") [] >>= λe=>(raiseNew e:Sem Fin)) (λfin s'=>∃v,fin=Fin.done (Flow.ret v)/\wpAny (model prog w) A (pure (some v)) Q E s')
   (λe s'=>wpAny (model prog w) A (do
     let x <- isInstance e (Value.type "StopIteration")
     if x=true then pure none else throw e) Q E s') s:=by
 refine aa ?_;simp only[newExc,newTuple];refine aa (cE ?_ (by size_fits));refine aa (m:=firstArgMember _ _) (eJ (a:=Value.none) (by first|rfl|(simp only[firstArgMember];rfl)) ?_);refine cE ?_ (by size_fits);simp only[raiseNew];refine aa (wpAny_handled ?_);rw[show A.in1.handled=none from hh];refine aa (ak (wpAny_throw ?_));refine aa (fm (T:="StopIteration") (b:=true) ⟨_,aD _ rfl,rfl⟩ isSubtype_stop ?_);exact ak (h _ ((OP.push _).push _))
theorem next_end{Q:Option Value->Shared->Prop}(hh:A.handled=none)(hL:Lies s.heap a es ep t)(hr:ud w es t pl r)(hi:C8 s.heap I a f es.size es.size ep)(hf:N1 s.heap t b pl es.size f r)(fy:b≠I)(h:∀h',Heap.ExtBut I s.heap h'->Q none { s with heap:=h' }):wpAny (model prog w) A (pyNext (.ref I)) Q E s:=by
 obtain⟨o,ho,hc,hd⟩:=id hi;unfold pyNext;refine aa (mQ (fP (name:=Str.ofString "__next__") hi.ty C1 (cJ C1 hi.ty JH ?_ (JR _))));unfold Builtin.«set_iterator.__next__»;refine aa (ak ?_);refine aa (wpAny_fieldsOf ho hd ?_);dsimp only[rawInt];refine aa (entries hL ?_);rw[aC (by simp)];rw[cN,cN];cases r with
 |text =>
  obtain⟨k,rfl⟩:=hf;dsimp only[rawInt];refine aa (Je hL hr ?_);have hl:(pickOrder (w.params.setOrder a ep) es).size<=es.size:=by
   have:=(Dg (w.params.setOrder a ep) es).length_eq;simp at this;omega
  rw[uG hl];refine aa (fe ho hd (by simp) ?_);exact Dh (s:={ s with heap:=_ }) hh (bR ..).extBut h
 |plain =>
  obtain⟨r1,r2,r3⟩:=hr;have hs:=II hL;obtain rfl:=hf;dsimp only[rawInt];rw[cN];refine aa (Jz hL r1 r2 r3.led ?_);rw[Jq r3.xI (by omega),uG (av _)];refine aa (fe ho hd (by simp) ?_);exact Dh (s:={ s with heap:=_ }) hh (bR ..).extBut h
 |drawn =>
  obtain⟨r1,r2⟩:=hr;obtain⟨rfl,ob,e,hb,GU,yg⟩:=hf;have iP:pl.length=es.size:=by rw[r2.length_eq];simp
  dsimp only;refine aa (wpAny_seqItems hb yg ?_);have e1:(pl.map λj=>rawInt (j:Nat)).toArray[es.size]?=none:=by simp[iP]
  dsimp only;rw[e1];dsimp only[rawInt];refine aa (fe ho hd (by simp) ?_);have h1:=bw (Obj.mapFields (·.setIfInBounds 0 (Value.int 0 0))) ho (eR (cq hd _));refine aa (fe (s:={ s with heap:=_ }) h1 (cq hd _) (by simp) ?_);exact Dh (s:={ s with heap:=_ }) hh ((bR ..).trans (bR ..)).extBut h
theorem Zp{l:List α}(dO:k<l.length):(l[k]::l.eraseIdx k).Perm l:=by
 rw[lN]
 conv=>rhs;rw[<- bP k l,eX dO]
 exact List.perm_middle.symm
theorem Ju{α:Type}:∀(n:Nat) (xs:List α) (s:Shared) (Q:List α->Shared->Prop),n=xs.length->(∀ys d,ys.Perm xs->Q ys { s with drawn:=d })->wpAny (model prog w) A (drawOrder n xs) Q E s
 |0,xs,s,Q,e,h=>by
  have:xs=[]:=dQ e.symm;subst this;exact ak (h [] s.drawn (gO _))
 |n+1,[],s,Q,e,h=>by simp at e
 |n+1,x::xs,s,Q,e,h=>by
  unfold drawOrder;refine aa ?_;intro Γ p hΓ;refine⟨by simp,?_⟩;generalize (model prog w).w.draws .order (s.drawn.get .order)=k;have dO:k % (x::xs).length<(x::xs).length:=Ml _ (by simp);have go:wpAny (model prog w) A (match (x :: xs)[k % (x :: xs).length]? with
   |some y=>do
    let ys <- drawOrder n ((x::xs).eraseIdx (k % (x::xs).length))
    pure (y::ys)
   | none=>unsupported "internal:drawOrder") Q E { s with drawn:=s.drawn.bump .order }:=by
   rw[ao dO];refine aa (Ju n _ _ _ (by rw[gM dO];simp at e ⊢;omega) λys d hp=>ak ?_);exact h _ d ((List.Perm.cons _ hp).trans (Zp dO))
  exact go
theorem Ls(hr:ud w es t pl r):(wO w a es ep pl r).Perm (es.toList.map (·.2)):=by
 cases r with
 |text=>exact(Dg _ es).map _
 |plain=>exact gO _
 |drawn =>
  refine(hr.2.map _).trans ?_;have:(List.range es.size).map (λj=>(es.getD j (0,.none)).2)=es.toList.map (·.2):=by
   apply List.ext_getElem
   ·simp
   ·intro i h1 h2;simp at h1;simp[Array.getD,h1]
  rw[this]
theorem Lies.ty(hL:Lies s.heap a es ep t):s.TypeIs (.ref a) "set":=let ⟨o,e,c,_⟩:=hL.at_;⟨o,e,c⟩
theorem a18(hL:Lies s.heap a es ep t)(hw:Well (Led w) t)(hz:es.size<=10000)(h:∀r pl b f I h' d',ud w es t pl r->C8 h' I a f 0 es.size ep->N1 h' t b pl 0 f r->b≠I->(b=a\/s.heap.objs.size<=b)->(∀c o,s.heap.get? c=some o->h'.get? c=some o)->s.heap.objs.size<=I->s.heap.objs.size<=h'.objs.size->Q (.ref I) { s with heap:=h',drawn:=d' }) :
  wpAny (model prog w) A (pyIter (.ref a)) Q E s:=by
 obtain⟨o,ho,AV,hd⟩:=hL.at_;refine wpAny_pyIter_slot hL.ty F.slot_set_iter (cJ F.slot_set_iter hL.ty aD8 ?_ (F.args_set_iter_1 _));unfold Builtin.«frozenset.__iter__»;refine aa (ak ?_);unfold Builtin.Frozenset.sizeOf;refine aa (aa (entries hL (ak ?_)));unfold setDrawn;refine aa (aa (cQ ho hd hL.fit ?_));refine aa (wR (ak ?_));have dO:=ax ho;have fin:∀(r:Rd) (f:Value) (b:Addr) (pl:List Nat) (h1:Heap) (d1:Drawn),ud w es t pl r->(∀h',(∀c o,h1.get? c=some o->h'.get? c=some o)->N1 h' t b pl 0 f r)->b<h1.objs.size->(b=a\/s.heap.objs.size<=b)->(∀c o,s.heap.get? c=some o->h1.get? c=some o)->s.heap.objs.size<=h1.objs.size ->
   wpAny (model prog w) A.in1 (do
    let e <- setEpoch a
    ret (<- newFields "set_iterator" [f,rawInt 0,.ref a,rawInt es.size,rawInt e])) (λfin s'=>∃ v,fin=Fin.done (Flow.ret v)/\∃ T' r,s'.TypeIs v T'/\typeLookup (.type T') "__next__"=pure (some r)/\Q v s') E { s with heap:=h1,drawn:=d1 }:=λr f b pl h1 d1 hr hf hb tP he hsz=>by
  have tT:Lies h1 a es ep t:=hL.at λo e=>he a o e;obtain⟨o1,pZ,_,GS⟩:=tT.at_;unfold setEpoch;refine aa (aa (cQ (s:={ s with heap:=h1,drawn:=d1 }) pZ GS tT.fit (ak ?_)));refine aa (cE (ak ⟨_,rfl,"set_iterator",_,⟨_,aD _ rfl,rfl⟩,C1.lookup,?_⟩));refine h r pl b f h1.objs.size _ d1 hr ⟨_,aD _ rfl,rfl,rfl⟩ (hf _ λc o e=>ag _ e) (aE hb) tP (λc o e=>ag _ (he c o e)) hsz (by rw[jP];exact Nat.le_succ_of_le hsz)
 have e0:s={ s with heap:=s.heap,drawn:=s.drawn }:=rfl;cases hT:w.params.followText "set-order" with
 |true =>
  dsimp only[Bool.not_true,Bool.false_and];rw[aC (by simp)];refine aa (ak ?_);rw[e0];exact fin .text (rawInt 0) a [] s.heap s.drawn hT (λh' _=>⟨0,rfl⟩) dO (.inl rfl) (λc o e=>e) (av _)
 |false =>
  show wpAny _ _ (if(!false&&(!t.plain&&decide (es.size>1)))=true then _ else _ ) _ _ _;by_cases hp:t.plain=true\/es.size<=1
  ·rw[aC (by rcases hp with e|e<;>simp[e])];refine aa (ak ?_);rw[e0];refine fin .plain (rawInt 0) a [] s.heap s.drawn ⟨hT,hp,?_⟩ (λh' _=>rfl) dO (.inl rfl) (λc o e=>e) (av _);have:Led w=true:=by unfold Led;rw[hT];rfl
   rw[<- this];exact hw
  ·have h1:t.plain=false:=by cases hq:t.plain with|true=>exact absurd (.inl hq) hp|false=>rfl
   have h2:¬es.size<=1:=λz=>hp (.inr z);rw[aI (by simp[h1];omega)];refine aa (Ju _ _ _ _ (fG).symm λys d hy=>?_);have hl:ys.length=es.size:=by rw[hy.length_eq];simp
   refine aa (cE ?_ (by show(List.map _ ys).toArray.size<=sizeLine;rw[aJ,aj,hl];exact aF hz (by decide)));refine fin .drawn (.ref s.heap.objs.size) s.heap.objs.size ys _ d ⟨hT,hy⟩ (λh' hk=>⟨rfl,_,_,hk _ _ (aD _ rfl),rfl,rfl⟩) (by rw[jP];exact fQ _) (.inr (av _)) (λc o e=>ag _ e) (by rw[jP];exact cy _)
theorem ZA(hh:A.handled=none)(hr:ud w es t pl r)(fy:b≠I)(GB:a≠I) :
  Walks prog w A I [I,a,b] [I] es.size (λi v=>(wO w a es ep pl r)[i]?=some v) (λi h=>Lies h a es ep t/\∃f,C8 h I a f i es.size ep/\N1 h t b pl i f r) where
 sub:=λc hc=>by simp at hc;simp[hc]
 frame:=λi h h' st hk=>by
  obtain⟨hL,f,hi,hf⟩:=st;refine⟨hL.at λo e=>hk a (by simp) o e,f,hi.at λo e=>hk I (by simp) o e,?_⟩;cases r with
  |text=>exact hf
  |plain=>exact hf
  |drawn =>
   obtain⟨e1,o,e,h1,h2⟩:=hf;exact⟨e1,o,e,hk b (by simp) o h1,h2⟩
 item:=λi s Q E hi st hQ=>by
  obtain⟨hL,f,hI,hf⟩:=st;exact next_item hL hr hI hf fy hi λv h' f' hv h1 h2 h3=>hQ v h' s.toks hv ⟨hL.at λo e=>by rw[h3.2 a GB];exact e,f',h1,h2⟩ λc o hc e=>h3.extBut c o (λz=>hc (by simp[z])) e
 done:=λs Q E st hQ=>by
  obtain⟨hL,f,hI,hf⟩:=st;exact next_end hh hL hr hI hf fy λh' he=>hQ h' s.toks λc o hc e=>he c o (λz=>hc (by simp[z])) e
 self:=λi s Q E st hQ=>by
  obtain⟨hL,f,hI,hf⟩:=st;refine wpAny_pyIter_slot hI.ty JU (cJ JU hI.ty aG8 ?_ (aF3 _));exact aa (ak (ak ⟨_,rfl,"set_iterator",_,hI.ty,C1.lookup,hQ⟩))
theorem aC5:typeLookup (.type "set") "__len__"=pure (some (.builtin "set.__len__")):=by rw[gZ,eQ];kernel_rfl
theorem aG2(hh:A.handled=none)(hL:Lies s.heap a es ep t)(hw:Well (Led w) t)(hz:es.size<=10000){Q:List Value->Shared->Prop}(h:∀(vs:List Value) h' d' kA,vs.Perm (es.toList.map (·.2))->(∀c o,s.heap.get? c=some o->h'.get? c=some o)->s.heap.objs.size<=h'.objs.size->s.toks<=kA->Q vs { s with heap:=h',drawn:=d',toks:=kA }) :
  wpAny (model prog w) A (collect (.ref a)) Q E s:=by
 have dO:a<s.heap.objs.size:=let ⟨o,ho,_⟩:=hL.at_;ax ho
 unfold collect;refine aa (wpAny_runValue (dF F.entry_proto_collect ?_));rw[de F.plain_proto_collect _];show wpAny _ A.in1 (newList [] >>= λl=>again (.builtin "list.__iadd__" ⟨[l,.ref a],[]⟩)) _ _ s;refine aa (cE ?_);refine ak ⟨gJ F.plain_list_iadd _,dF F.entry_list_iadd ?_⟩;rw[de F.plain_list_iadd _];have tT:Lies (s.heap.push { cls:=.type "list",data:=.seq ([]:List Value).toArray }) a es ep t:=hL.at λo e=>ag _ e;have Om:(s.heap.push { cls:=.type "list",data:=.seq ([]:List Value).toArray }).get? s.heap.objs.size=some { cls:=.type "list",data:=.seq ([]:List Value).toArray }:=aD _ rfl;have fy:s.heap.objs.size≠a:=bQ dO;have h1:Builtin.List.listSameRef (.ref s.heap.objs.size) (.ref a)=false:=by simp[Builtin.List.listSameRef,fy]
 show wpAny _ A.in1 (Builtin.List.listExtendWith (.ref s.heap.objs.size) (.ref a) (.ref s.heap.objs.size)) _ _ _;unfold Builtin.List.listExtendWith;refine aa (dG (Lies.ty (s:={ s with heap:=_ }) tT) ?_);rw[aC (by rw[h1];decide)];refine aa (a18 (s:={ s with heap:=_ }) tT hw hz λr pl b f I h2 d2 hr hI hf hb Oc he Bw h2z=>?_);have rS:Lies h2 a es ep t:=tT.at λo e=>he a o e;have qf:=he _ _ Om;refine aa (bJ ?_);unfold Builtin.List.listLengthHint;refine aa (wpAny_specialOf (Lies.ty (s:={ s with heap:=h2,drawn:=d2 }) rS) aC5 ?_);generalize GH:("set.__len__":String)=Nl;dsimp only;rw[show splitId Nl=some ("set","__len__") from by subst GH;decide +kernel];dsimp only;refine aa (fm (b:=true) (Lies.ty (s:={ s with heap:=h2,drawn:=d2 }) rS) (by rw[ei];kernel_rfl) ?_);rw[aC (by decide)];subst GH;rw[aI (by decide +kernel)];refine aa (dG (Lies.ty (s:={ s with heap:=h2,drawn:=d2 }) rS) ?_);refine ak ?_;rw[aI (by decide +kernel)];refine aa (cX ?_);refine aa ?_;show wpAny _ A.in1 (updateSeq s.heap.objs.size (·.push .none) >>= λ_=>updateSeq s.heap.objs.size (·.pop)) _ _ _;refine aa (wpAny_updateSeq (s:={ s with heap:=h2,drawn:=d2 }) qf rfl ?_);have Ha:=bw (Obj.mapSeq (·.push Value.none)) qf rfl;refine wpAny_updateSeq (s:={ s with heap:=_,drawn:=d2 }) Ha rfl ?_;have Ol:=bw (Obj.mapSeq (·.pop)) Ha rfl;have xK:∀c o,c≠s.heap.objs.size->h2.get? c=some o->((h2.update s.heap.objs.size (Obj.mapSeq (·.push Value.none))).update s.heap.objs.size (Obj.mapSeq (·.pop))).get? c=some o :=
  λc o hc e=>(eK _ _ (cc hc)).trans ((eK _ _ (cc hc)).trans e)
 have tH:s.heap.objs.size<(s.heap.push { cls:=.type "list",data:=.seq ([]:List Value).toArray }).objs.size:=by rw[jP];exact fQ _
 have hSI:I≠s.heap.objs.size:=bQ (aA tH Bw);have hSb:b≠s.heap.objs.size:=by
  rcases Oc with z|z
  ·rw[z];exact cc fy
  ·exact bQ (aA tH z)
 have W:=(ZA (prog:=prog) (w:=w) (A:=A.in1) (a:=a) (b:=b) (I:=I) (es:=es) (ep:=ep) (t:=t) (pl:=pl) hh hr hb (aE (aA (cL dO tH) Bw))).toS;have st:Lies h2 a es ep t/\∃f,C8 h2 I a f 0 es.size ep/\N1 h2 t b pl 0 f r:=⟨rS,f,hI,hf⟩
 have gW:=W.frame 0 ({ s with heap:=h2,drawn:=d2 }:Shared) _ s.toks st (av _) λc hc o e=>xK c o (λz=>by simp at hc;rcases hc with y|y|y<;>simp_all) e;refine ak ⟨gJ F.plain_extend_loop _,codeAny_extend_loopS W (aF hz (by decide)) _ (λz=>by simp at z;rcases z with y|y|y<;>simp_all) _ es.size 0 _ _ _ rfl (cF _) gW Ol (ItemsOf.nil _) λs' wZ c' hm lJ lI=>?_⟩;show wpAny _ A (load s.heap.objs.size >>= _) _ _ s';refine aa (wpAny_load lJ ?_);refine ak ?_;have eS:s'={ s with heap:=s'.heap,drawn:=d2,toks:=s'.toks }:=by
  obtain⟨gL,g',d',kA,rn⟩:=s';have m1:g'=s.gens:=hm.gens;have m2:d'=d2:=hm.drawn;have m3:rn=s.os:=hm.os;subst m1;subst m2;subst m3
  rfl
 have eo:wZ.toList=wO w a es ep pl r:=by
  have l1:(wO w a es ep pl r).length=es.size:=by rw[(Ls hr).length_eq];simp
  apply List.ext_getElem
  ·rw[l1];simpa using lI.1
  ·intro i h1 h2;have:=lI.2 i wZ.toList[i] (by simp at h1 ⊢);dsimp only at this;rw[ao h2] at this;exact(aQ this).symm
 rw[eo,eS];refine h _ _ d2 s'.toks (Ls hr) (λc o e=>?_) (eT (ax lJ)) hm.toks;have hc:c<s.heap.objs.size:=ax e;have n1:c≠s.heap.objs.size:=aE hc;have n2:c≠I:=aE (aA (cL hc tH) Bw);exact hm.heap c o (by simp[n1,n2]) (xK c o n1 (he c o (ag _ e)))
theorem aL6(hh:A.handled=none)(hS:v5 prog w s.heap a ks)(yo:ks.length<=600)(h:∀(S:Addr) (vs:List Value) (ns:List Int) e h' d' kA,IntsAre vs ns->ns.Perm ks->ns.Pairwise (·<=·)->h'.get? S=some (seqObj "list" vs.toArray e)->s.heap.objs.size<=S->(∀c o,s.heap.get? c=some o->h'.get? c=some o)->s.toks<=kA->Q (.ref S) { s with heap:=h',drawn:=d',toks:=kA }) :
  wpAny (model prog w) A (call (.builtin "sorted") [.ref a]) Q E s:=by
 obtain⟨o,es,ep,t,ho,hx,hd,rO,hp,hn,hb,hf,hw⟩:=hS;have hL:Lies s.heap a es ep t:=⟨⟨o,ho,hx.1,hd⟩,hf⟩
 have hz:es.size=ks.length:=by rw[<- hp.length_eq];simp
 refine Fp kind_sorted plain_sorted entry_sorted (args_sorted1 _) ?_;unfold Builtin.«sorted»;refine aa (m:=checkCount "sorted" 1 1 _) (ak ?_);refine aa (aG2 (A:=A.in1) hh hL hw (by omega) λvs h1 d1 uP hv he tH vD=>?_);have hI:IntsAre vs (vs.map toI):=by
  have all:∀v∈vs,∃tk,v=.int (toI v) tk:=λv AO=>by
   obtain⟨e,lh,rfl⟩:=aP.mp (hv.mem_iff.mp AO);obtain⟨tk,h1,_⟩:=Kw rO lh;exact⟨tk,h1⟩
  clear hv
  induction vs with
  |nil=>exact .nil
  |cons v r ih =>
   obtain⟨tk,e⟩:=all v (by simp);have:=IntsAre.cons (toI v) tk (ih λu hu=>all u (by simp[hu]));rw[<- e] at this;exact this
 have hk:(vs.map toI).Perm ks:=by
  refine(hv.map toI).trans ?_;rw[bx];exact hp
 have hl:vs.length<=100000:=by rw[hv.length_eq];simp;omega
 refine aa (Mf (s:={ s with heap:=h1,drawn:=d1,toks:=uP }) ?_);have oU:(h1.push (seqObj "list" vs.toArray 0)).get? h1.objs.size=some (seqObj "list" vs.toArray 0):=aD _ rfl;refine aa (bJ (cJ (s:={ s with heap:=h1.push (seqObj "list" vs.toArray 0),drawn:=d1,toks:=uP }) slot_list_sort ⟨_,oU,rfl⟩ entry_list_sort (TS.Lz oU hI hl λout kO a1 a2 a3=>⟨_,rfl,?_⟩) (args_list_sort _)));obtain⟨e,lh⟩:=sortedHeap_at (vs:=vs) (out:=out) oU;refine ak ⟨_,rfl,h h1.objs.size out.toList kO e _ d1 uP a1 (a2.trans hk) a3 lh tH (λc o' e'=>?_) vD⟩;have hc:=ax (he c o' e');rw[sortedHeap_old (aE hc) (by rw[jP];exact ig hc)];exact ag _ (he c o' e')
def j5(ks xs:List Int):List Int:=xs.foldl B0 ks
theorem M3:∀(xs ks:List Int),(j5 ks xs).length<=ks.length+xs.length
 |[],ks=>by simp[j5]
 |x::xs,ks=>by
  have:=M3 xs (B0 ks x);have h2:=a87 ks x;show(j5 (B0 ks x) xs).length<=_;simp only[List.length_cons];omega
theorem DF:∀(xs ks:List Int) (k:Int),k∈j5 ks xs↔k∈ks\/k∈xs
 |[],ks,k=>by simp[j5]
 |x::xs,ks,k=>by
  show k∈j5 (B0 ks x) xs↔_;rw[DF xs];unfold B0;split
  ·rename_i h;constructor
   ·rintro(a|a)
    ·exact .inl a
    ·exact .inr (by simp[a])
   ·rintro(a|a)
    ·exact .inl a
    ·rcases aH.mp a with rfl|b
     ·exact .inl h
     ·exact .inr b
  ·simp[or_assoc]
theorem Dv:∀(xs ks:List Int),ks.Nodup->(j5 ks xs).Nodup
 |[],ks,h=>h
 |x::xs,ks,h=>by
  show(j5 (B0 ks x) xs).Nodup;refine Dv xs _ ?_;unfold B0;split
  ·exact h
  ·rename_i hk;rw[cM];exact⟨h,by simp,λa ha b hb=>by simp at hb;subst hb;exact λz=>hk (z▸ha)⟩
theorem ZS:Well (Led w) (SetTable.fresh 0 0 (Led w)):=⟨by simp[lq,SetTable.fresh],rfl,rfl⟩
theorem IY(e:h.get? a=some { cls:=.type "set",dict:=none,data:=.set #[] 0 (.fresh 0 0 (Led w)) }):v5 prog w h a [] :=
 ⟨_,#[],0,_,e,⟨rfl,rfl,rfl⟩,rfl,(by intro e he;simp at he),by simp,by simp,by decide,by rfl,ZS⟩
theorem a08{R:Result->Shared->Prop}{fp wr:List Addr}{G:Array GenState->Array GenState->Prop}{P:Nat->Value->Prop}{St:Nat->Shared->Prop}(W:WalksS prog w A.in1 I fp wr G n P St)(GZ:a∉fp)(hn:n=ns.length)(hv:∀i v,P i v->∃tk,v=.int (ns.getD i 0) tk)(hb:n+1<scanBound):∀(k i:Nat) (s:Shared),i+k=n->St i s->v5 prog w s.heap a (j5 [] (ns.take i)) ->
   (∀s',Moved (a::wr) G s s'->v5 prog w s'.heap a (j5 [] ns)->R (.ok (.ret .none)) s')->codeAny (model prog w) A (.builtin "set.update.loop" ⟨[.ref a,.ref I],[]⟩) R s:=by
 have hw:a∉wr:=λh=>GZ (W.sub _ h);have nA:∀b∈wr,b∈a::wr:=λb hb=>by simp[hb]
 intro k
 induction k with
 |zero =>
  intro i s e st hS hR;obtain rfl:i=n:=by omega
  refine dF kf ?_;rw[de eZ _];unfold Builtin.«set.update.loop»;refine aa (W.done s _ _ st λs' m=>ak (hR s' (m.mono nA) (v5.at ?_ λo e=>m.heap a o hw e)));rw[hn,bO] at hS;exact hS
 |succ k ih =>
  intro i s e st hS hR;have dO:i<ns.length:=by omega
  refine dF kf ?_;rw[de eZ _];unfold Builtin.«set.update.loop»;refine aa (W.item i s _ _ (by omega) st λv s' hP aX m=>?_);obtain⟨tk,rfl⟩:=hv i v hP;have lJ:=v5.at hS λo e=>m.heap a o hw e;have hl:=M3 (ns.take i) [];rw[cT] at hl;simp only[List.length_nil] at hl;refine aa (bJ ?_);unfold setAdd;refine bJ (aa ((intKind prog w).pyHash (k:=ns.getD i 0) (gD _ _ _ _) ?_));refine Ih (s:={ s' with toks:=s'.toks+1 }) lJ (by omega) λh' bb sb qf=>?_;have e2:B0 (j5 [] (ns.take i)) (ns.getD i 0)=j5 [] (ns.take (i+1)):=by
   unfold j5;rw[bL,List.foldl_append,ao dO];simp[List.getD,dO]
  rw[e2] at qf;refine ak ⟨gJ eZ _,ih (i+1) _ (by omega) (W.frame _ s' _ _ aX (cy _) λb hb o e=>by rw[sb.2 b λz=>GZ (z▸hb)];exact e) qf λs2 m2 h2=>?_⟩;exact hR s2 (Moved.trans W.gtrans ((m.mono nA).then_heap (cy _) λb o hb e=>by rw[sb.2 b λz=>hb (by rw[z];simp)];exact e) m2) h2
noncomputable abbrev A3(w:World):Obj:={ cls:=.type "set",dict:=none,data:=.set #[] 0 (.fresh 0 0 (Led w)) }
theorem KJ(h:Q (.ref s.heap.objs.size) { s with heap:=s.heap.push (A3 w) }):wpAny (model prog w) A (newSet (.type "set")) Q E s:=by
 unfold newSet;refine aa (wR ?_);exact cE h (cF _)
theorem a77(x:Value)(h:Q (.ref s.heap.objs.size) { s with heap:=s.heap.push (A3 w) }):codeAny (model prog w) A (.call (.builtin "set.__new__") ⟨[.type "set",x],[]⟩) (wants Q E) s:=by
 refine uy (?_:wpAny _ A.in1 (do
  checkBuiltinCall "set.__new__" ⟨[.type "set",x],[]⟩
  again (.builtin "set.__new__" ⟨[.type "set",x],[]⟩)) _ _ s)
 refine aa (eJ (F.newCall_set_1 x) (ak ⟨gJ F.plain_set_new _,?_⟩));refine dF F.entry_set_new ?_;rw[de F.plain_set_new _];unfold Builtin.«set.__new__»;have sub:=sub_set_self;refine aa (m:=Builtin.Frozenset.newClass "set" _) ?_;unfold Builtin.Frozenset.newClass;dsimp only;refine aa (eJ (a:=true) (by first|rfl|(simp[isType];rfl)) ?_);rw[aC (by decide)];refine aa (eJ sub ?_);rw[aC (by decide)];refine ak ?_;exact aa (KJ (ak h))
theorem CZ{vs:List Value}(h:IntsAre vs ns):vs.length=ns.length:=by
 induction h with
 |nil=>rfl
 |cons n t r ih=>simp[ih]
def xa(h:Heap)(l:Addr)(items:Array Value):Prop:=h.IsList l items\/h.IsTuple l items
theorem xa.lt(x:xa h l items):l<h.objs.size:=by
 rcases x with⟨_,e,_⟩|⟨_,e,_⟩<;>exact ax e
theorem a68{Q:Fin->Shared->Prop}(hh:A.handled=none)(hS:s.heap.get? a=some (A3 w))(hl:xa s.heap l items)(hi:IntsAre items.toList ns)(hb:items.size+1<scanBound)(fy:a≠l)(h:∀h' tk,v5 prog w h' a (j5 [] ns)->(∀b o,b≠a->s.heap.get? b=some o->h'.get? b=some o)->s.toks<=tk->wpAny (model prog w) A (ret .none) Q E { s with heap:=h',toks:=tk }) :
  wpAny (model prog w) A (Builtin.«set.__init__» ⟨[.ref a,.ref l],[]⟩) Q E s:=by
 have hT:s.TypeIs (.ref a) "set":=⟨_,hS,rfl⟩
 have hLi:Lies s.heap a #[] 0 (SetTable.fresh 0 0 (Led w)):=⟨⟨_,hS,rfl,rfl⟩,rfl⟩
 have dO:=hl.lt;have xW:l≠s.heap.objs.size:=aE dO;unfold Builtin.«set.__init__» noKeywords;dsimp only;refine aa (eJ (a:=()) rfl ?_);have nm:∀{Q':String->Shared->Prop},(∀x,Q' x s)->wpAny (model prog w) A (typeNameOfCut 200 (.ref a)) Q' E s:=λ{Q'} q=>by
  unfold typeNameOfCut shownTypeOf;refine aa (aa (dG hT ?_));rw[aC (by decide)];refine ak (eJ (a:="set") ?_ (q _));unfold typeNameCut;dsimp only
  first|(unfold typeName;rw[find?_eq_fast];kernel_rfl)|kernel_rfl
 refine aa (nm λx=>?_);refine aa (m:=checkCount _ 0 1 _) (ak ?_);refine aa (m:=Builtin.Frozenset.addrOf _) (ak ?_);unfold setUsed;refine aa (aa (cQ hS rfl rfl (ak ?_)));rw[aC (by show ¬((SetTable.fill (SetTable.fresh 0 0 (Led w)) != 0)=true);unfold SetTable.fill;simp[SetTable.fresh])];unfold Builtin.Frozenset.updateFrom Builtin.Frozenset.isAnySet;obtain⟨c,tO,vU,it,hit,GG,St,W,fx⟩:∃c:String,(c="list"\/c="tuple")/\s.TypeIs (.ref l) c/\∃it:Obj,(∀Q':Value->Shared->Prop,Q' (.ref s.heap.objs.size) { s with heap:=s.heap.push it }->wpAny (model prog w) A (pyIter (.ref l)) Q' E s) /\
   (∀b o,s.heap.get? b=some o->(s.heap.push it).get? b=some o)/\∃St:Nat->Shared->Prop,WalksS prog w A.in1 s.heap.objs.size [s.heap.objs.size,l] [s.heap.objs.size] (λa b=>b=a) items.size (λi v=>items[i]?=some v) St/\St 0 { s with heap:=s.heap.push it }:=by
  rcases hl with hl|hl
  ·obtain⟨o,ho,hc,_⟩:=id hl;exact⟨"list",.inl rfl,⟨o,ho,hc⟩,_,λQ' q=>fW hl q,λb o e=>ag _ e,_,(zV (A:=A.in1) hh _ l xW items).toS,⟨⟨_,aD _ rfl,rfl,rfl⟩,hl.push _⟩⟩
  ·obtain⟨o,ho,hc,_⟩:=id hl;exact⟨"tuple",.inr rfl,⟨o,ho,hc⟩,_,λQ' q=>wpAny_pyIter_tuple hl q,λb o e=>ag _ e,_,(Walks.tuple (A:=A.in1) hh _ l xW items).toS,⟨⟨_,aD _ rfl,rfl,rfl⟩,hl.push _⟩⟩
 refine aa (aa (aa (fm (b:=false) vU (by rcases tO with rfl|rfl<;>(rw[ei];kernel_rfl)) ?_)));show wpAny (model prog w) A (isInstance (Value.ref l) (Value.type "frozenset")) _ _ _;refine fm (b:=false) vU (by rcases tO with rfl|rfl<;>(rw[ei];kernel_rfl)) ?_;rw[aC (by decide)];refine aa (dG vU ?_);rw[aC (by rcases tO with rfl|rfl<;>decide)];refine aa (hit _ ?_);refine aa (wpAny_runValue ?_);have Of:a<s.heap.objs.size:=ax hS;have hsz:items.size=ns.length:=by rw[<- bt];exact CZ hi
 refine a08 (a:=a) (ns:=ns) W (by simp only[List.mem_cons,List.not_mem_nil,or_false,not_or];exact⟨aE Of,fy⟩) hsz (λi v hv=>IntsAre.int_at hi i v (by rw[eG];exact hv)) hb items.size 0 _ (by omega)
  fx (IY (GG _ _ hS)) λs' m lJ=>?_
 have eS:s'={ s with heap:=s'.heap,toks:=s'.toks }:=by
  obtain⟨gL,g',d',kA,rn⟩:=s';have m1:g'=s.gens:=m.gens;have m2:d'=s.drawn:=m.drawn;have m3:rn=s.os:=m.os;subst m1;subst m2;subst m3
  rfl
 rw[eS];refine ak (h _ _ lJ (λb o hb e=>?_) m.toks);exact m.heap b o (by simp only[List.mem_cons,List.not_mem_nil,or_false,not_or];exact⟨hb,aE (ax e)⟩) (GG _ _ e)
theorem a80(hh:A.handled=none)(hl:xa s.heap l items)(hi:IntsAre items.toList ns)(hb:items.size+1<scanBound)(h:∀h' tk,v5 prog w h' s.heap.objs.size (j5 [] ns)->(∀b o,s.heap.get? b=some o->h'.get? b=some o)->s.toks<=tk->Q (.ref s.heap.objs.size) { s with heap:=h',toks:=tk }) :
  wpAny (model prog w) A (call (.type "set") [.ref l]) Q E s:=by
 have cs:=F.called_set;obtain⟨_,_,y1⟩:=cs.mro;have y2:=cs.made;have y3:=cs.sub;have y4:=cs.notType;have y5:=cs.canCreate;have y6:=F.typeCall_set_1 (.ref l);refine wpAny_call (uy (?_:wpAny _ _ (callAny (.type "set") _) _ _ _));refine ak ⟨Code.quiet_builtin _ (by decide +kernel),dF F.entry_type_call ?_⟩;rw[Around.under_plain (weight_type_call_type "set" [.ref l] []) rfl]
 repeat (any_goals (first|assumption|wp_step))
 refine ir (a77 (.ref l) (E:=E) (Q:=λv s1=>v=.ref s.heap.objs.size/\s1={ s with heap:=s.heap.push (A3 w) }) ⟨rfl,rfl⟩) ?_;rintro(e|fl) s1 hr
 ·exact hr
 cases fl with
 |next=>exact hr
 |brk=>exact hr
 |cont=>exact hr
 |ret v =>
 obtain⟨rfl,rfl⟩:=hr;have hS:(s.heap.push (A3 w)).get? s.heap.objs.size=some (A3 w):=aD _ rfl;have hT:Shared.TypeIs { s with heap:=s.heap.push (A3 w) } (.ref s.heap.objs.size) "set":=⟨_,hS,rfl⟩
 have y7:=cs.init.lookup;have y8:=cs.init.bind (.ref s.heap.objs.size)
 repeat (any_goals (first|assumption|wp_step))
 refine ir (codeAny_call_builtin (R:=wants (λv s2=>v=.none/\∃h' tk,s2={ s with heap:=h',toks:=tk }/\v5 prog w h' s.heap.objs.size (j5 [] ns)/\(∀b o,s.heap.get? b=some o->h'.get? b=some o)/\s.toks<=tk) E) cs.init.plain F.entry_set_init (check_set_init_1 hT ?_)) ?_
 ·have jM:xa (s.heap.push (A3 w)) l items:=hl.imp (·.push _) (·.push _);have NO:=hl.lt;refine a68 (s:={ s with heap:=s.heap.push (A3 w) }) (by simp[hh]) hS jM hi hb (bQ NO) λh' tk h1 h2 h3=>ak ⟨rfl,h',tk,rfl,h1,λb o e=>h2 b o (aE (ax e)) (ag _ e),h3⟩
 ·rintro(e|fl) s2 hr
  ·exact hr
  cases fl with
  |next=>exact hr
  |brk=>exact hr
  |cont=>exact hr
  |ret v =>
  obtain⟨rfl,h',tk,rfl,h1,h2,h3⟩:=hr
  repeat (any_goals (first|assumption|wp_step))
  exact h _ _ h1 h2 h3
end ST
namespace L2
open PySem PySem.Spec PyProof.Rows
def sP(X:Cx)(a:Addr)(ks:List Int):HO:=.ext λh=>ST.v5 X.prog X.w h a ks
def p8(ns:List Int):List Int:=(ST.j5 [] ns).mergeSort (λa b=>decide (a<=b))
theorem U1:∀{a b:List Int},a.Perm b->a.Pairwise (·<=·)->b.Pairwise (·<=·)->a=b
 |[],b,h,_,_=>by rw[List.nil_perm.mp h]
 |x::a,[],h,_,_=>absurd h.length_eq (by simp)
 |x::a,y::b,h,h1,h2=>by
  rw[fo] at h1 h2;have e:x=y:=by
   have m1:=h.mem_iff (a:=y);have m2:=h.mem_iff (a:=x);simp only[List.mem_cons,true_or,true_iff,iff_true] at m1 m2;rcases m1 with z|z
   ·exact z.symm
   ·rcases m2 with z'|z'
    ·exact z'
    ·have:=h1.1 y z;have:=h2.1 x z';omega
  subst e;rw[U1 (h.cons_inv) h1.2 h2.2]
theorem JE(ns:List Int):(p8 ns).Pairwise (·<=·):=by
 have:=tj (le:=λa b:Int=>decide (a<=b)) (λa b c h1 h2=>by simp at *;omega) (λa b=>by simp;omega) (ST.j5 [] ns);exact this.imp λh=>by simpa using h
theorem L7(ns:List Int):(p8 ns).Perm (ST.j5 [] ns):=Fl _ _
theorem T2(ns:List Int):(p8 ns).length<=ns.length:=by
 rw[(L7 ns).length_eq];have:=ST.M3 ns [];simpa using this
section
variable{X:Cx}{pins:List (Addr×Obj)}{σ:St}{H:Hp}{s:Shared}
theorem Inv.draw(I:Inv X pins σ H s)(d:Drawn):Inv X pins σ H { s with drawn:=d } :=
 I.step (g':=s.gens) (t':=s.toks) (d':=d) (ch:=[]) (by simp) (λb o _ _ _ e _=>e) (λb o _ _ _ e _=>⟨o.slots,e⟩) (λb o _ _ e=>e) (λb o _ e=>⟨o,e⟩) (λ_ _ e=>e) (λ_ _ _ e=>e) (λb ps e=>⟨#[],by simp[e]⟩) (λm hm=>hm) I.cb I.bare
theorem KY{h:Heap}{a:Addr}{ks:List Int}(x:ST.v5 X.prog X.w h a ks):p0 X.prog X.w H h a (sP X a ks) :=
 ⟨x,by obtain⟨o,_,_,_,e,_⟩:=x;exact⟨o,e⟩,λh1 h2 y k=>y.at k⟩
theorem JF{ns:List Int}{vs:List Value}(h:IntsAre vs ns):Vals (ns.map V.int) vs:=by
 induction h with
 |nil=>exact .nil
 |cons n t r ih=>exact .cons ⟨t,rfl⟩ ih
theorem H9:∀{ns:List Int} {vs:List Value},Vals (ns.map V.int) vs->IntsAre vs ns
 |[],_,h=>by cases h;exact .nil
 |n::ns,_,h=>by
  cases h with
  |cons r rr =>
   obtain⟨t,rfl⟩:=r;exact .cons n t (H9 rr)
theorem JS(hc:X.calm=true):n6 X (.type "set") (λxs H Q=>∃a ns,xs=[.ref a]/\gA X.K H a (ns.map V.int)/\ns.length<600/\∀p,H p=none->Q (.ref p) (upd H p (sP X p (ST.j5 [] ns)))):=by
 intro pins s σ H xs us Q I r h;obtain⟨a,ns,rfl,hq,hl,q⟩:=h;cases r with
 |cons r rr =>
 cases rr;cases r;obtain⟨ba,rv,p,hz⟩:=I.list hq;have hI:=H9 rv;have hlen:=ST.CZ hI;refine ST.a80 (ns:=ns) (I.ok.hd hc) (.inl p.isList) (by simpa using hI) (by rw[aJ,hlen];exact aA (Nat.succ_lt_succ hl) (by decide)) λh' tk hS hk _=>?_;exact⟨.ref _,_,I.laid (a:=s.heap.objs.size) (t':=tk) hk (av _) (KY hS),rfl,q _ (I.cb.fresh (av _))⟩
theorem U8(hc:X.calm=true):n6 X (.builtin "sorted") (λxs H Q=>∃a ns,xs=[.ref a]/\H a=some (sP X a (ST.j5 [] ns))/\ns.length<600/\∀p,H p=none->Q (.ref p) (upd H p (.lst ((p8 ns).map V.int)))):=by
 intro pins s σ H xs us Q I r h;obtain⟨a,ns,rfl,ha,hl,q⟩:=h;cases r with
 |cons r rr =>
 cases rr;cases r;have hS:ST.v5 X.prog X.w s.heap a (ST.j5 [] ns):=(I.cb a _ ha).1;have hn:=ST.M3 ns [];simp only[List.length_nil] at hn;refine ST.aL6 (I.ok.hd hc) hS (by omega) λS vs kO e h' d' kA h1 h2 h3 h4 h5 h6 _=>?_;have e1:kO=p8 ns:=U1 (h2.trans (L7 ns).symm) h3 (JE ns);subst e1;have hz:=T2 ns;exact⟨.ref S,_,(I.laid (a:=S) (o:=.lst ((p8 ns).map V.int)) (t':=kA) h6 h5 ⟨by rw[aj];exact aF hz (aF (eT hl) (by decide)),vs,e,JF h1,h4⟩).draw d',rfl,q S (I.cb.fresh h5)⟩
end
end L2
namespace ST
open PySem PyProof.Rows
theorem a81{prog:Program}{w:World}{A:Around}{E:Value->Shared->Prop}{s:Shared}{a:Addr}{ks:List Int}{k:Int}{tk:Tok}{Q:Value->Shared->Prop}(hS:v5 prog w s.heap a ks)(hr:ks.length+1<scanBound)(h:∀h',Heap.SameBut a s.heap h'->v5 prog w h' a (B0 ks k)->Q .none { s with heap:=h',toks:=s.toks+1 }):wpAny (model prog w) A (call (.builtin "set.add") [.ref a,.int k tk]) Q E s:=by
 have hT:s.TypeIs (.ref a) "set":=let ⟨o,_,_,_,e,x,_⟩:=hS;⟨o,e,x.1⟩
 refine cJ F.slot_set_add hT F.entry_set_add ?_ (F.args_set_add_2 _ _);have go:∀(Q':Fin->Shared->Prop),(∀h',Heap.SameBut a s.heap h'->v5 prog w h' a (B0 ks k)->wpAny (model prog w) A.in1 (ret .none) Q' E { s with heap:=h',toks:=s.toks+1 })->wpAny (model prog w) A.in1 (do let _ <- setAdd a (.int k tk);ret .none) Q' E s:=λQ' q=>by
  unfold setAdd;refine aa (bJ (aa ((intKind prog w).pyHash (k:=k) (gD _ _ _ _) ?_)));exact Ih (s:={ s with toks:=s.toks+1 }) hS hr λh' b sb S2=>q h' sb S2
 unfold Builtin.«set.add» Builtin.Frozenset.oneOther;simp only[List.isEmpty_nil,bind_assoc];unfold Builtin.Frozenset.addrOf;refine aa (ak ?_)
 try dsimp only
 refine aa (ak ?_)
 try dsimp only
 exact go _ λh' sb S2=>ak ⟨_,rfl,h h' sb S2⟩
end ST
namespace L2
open PySem PySem.Spec PyProof.Rows
variable{elt iter:Expr}{ifs:List Expr}{scope:Scope}{pos:Pos}
section
variable{prog:Program}{w:World}{A:Around}{R:Result->Shared->Prop}{s:Shared}
theorem aL1(elt target iter:Expr)(ifs:List Expr)(scope:Scope)(pos:Pos)(it acc:Value)(env:Env):compTurn (.SetComp elt [⟨target,iter,ifs,0⟩] scope pos) 0 it acc env=(do
      standAt iter.pos
      match <- pyNext it with
      |none=>pure (.done .next)
      |some v =>
        letOwnedTupleGo target it v
        assign target env v
        let mut ok:=true
        for c in ifs do if ok then ok <- isTrue c env (eval c env)
        if ok then(do let x <- eval elt env;standAt elt.pos;let _ <- call (.builtin "set.add") [acc,x])
        again (.compLoop (.SetComp elt [⟨target,iter,ifs,0⟩] scope pos) 0 it acc env)):=by rfl
theorem Yf{target:Expr}{it acc:Value}{env:Env}(I:Nat->Shared->Prop)(turn:∀ n s,I n s->wpAny (model prog w) A (pyNext it) (λr bS=>match r with
   |none=>R (.ok .next) bS
   | some v=>wpAny (model prog w) A (letOwnedTupleGo target it v) (λ_ bS=>wpAny (model prog w) A (assign target env v) (λ_ iy =>
     wpAny (model prog w) A (forIn ifs true λc r=>if r=true then do let ok <- isTrue c env (eval c env);pure (ForInStep.yield ok) else pure (ForInStep.yield r)) (λok fZ =>
      if ok=true then wpAny (model prog w) A (eval elt env) (λx kl =>
       wpAny (model prog w) A (call (.builtin "set.add") [acc,x]) (λ_ nz=>∃ m,m < n/\I m nz) (λ_ _=>False) kl) (λ_ _=>False) fZ
      else ∃ m,m < n/\I m fZ) (λ_ _=>False) iy) (λ_ _=>False) bS) (λ_ _=>False) bS) (λ_ _=>False) s)(n:Nat)(h:I n s) :
  codeAny (model prog w) A (.compLoop (.SetComp elt [⟨target,iter,ifs,0⟩] scope pos) 0 it acc env) R s:=by
 refine codeAny_loop rfl I (λn s hI=>?_) n h;show wpAny _ A ((compTurn (.SetComp elt [⟨target,iter,ifs,0⟩] scope pos) 0 it acc env).onRaise (λx=>do noteFrame x env;theTreesLotGoes x)) _ _ s;refine wpAny_noted ?_;rw[aL1];refine aa (eO (aa (bK (turn n s hI) (λr bS dY=>?_) λ_ _ h'=>h'.elim)));cases r with
 |none=>exact ak dY
 |some v =>
  refine aa (bK dY (λ_ bS dY=>?_) λ_ _ h'=>h'.elim);refine aa (bK dY (λ_ iy jC=>aa (bK jC (λok fZ nK=>?_) λ_ _ h'=>h'.elim)) λ_ _ h'=>h'.elim);cases ok with
  |false=>exact wpAny_pure ⟨rfl,nK⟩
  |true =>
   exact aa (aa (bK nK (λx kl rE=>aa (eO (aa (bK rE (λ_ nz rD=>ak (ak ⟨rfl,rD⟩)) λ_ _ h'=>h'.elim)))) λ_ _ h'=>h'.elim))
theorem aM3{target:Expr}{it acc:Value}{env:Env}(h0:codeAny (model prog w) A (.compLoop (.SetComp elt [⟨target,iter,ifs,0⟩] scope pos) 0 it acc env) R s)(h:wpAny (model prog w) A (pyIter it) (λGj s'=>codeAny (model prog w) A (.compLoop (.SetComp elt [⟨target,iter,ifs,0⟩] scope pos) 0 Gj acc env) R s') (notedBy (model prog w) A env λx s'=>R (.error x) s') s) :
  codeAny (model prog w) A (.compStart (.SetComp elt [⟨target,iter,ifs,0⟩] scope pos) 0 it acc env) R s:=by
 refine uy (?_:wpAny _ _ ((compStart (.SetComp elt [⟨target,iter,ifs,0⟩] scope pos) 0 it acc env).onRaise (λx=>do noteFrame x env;standAt theWindowsPlace)) _ _ s);refine wpAny_notedAt ?_;unfold compStart;refine aa (qG (wpAny_ite ?_));split
 ·first
   |exact ak ⟨rfl,h0⟩
   |exact aa (ak (ak ⟨rfl,h0⟩))
 ·refine aa (cX ?_);exact aa (eO (aa (bK h (λGj s' h'=>ak ⟨rfl,h'⟩) λ_ _ x=>x)))
end
def En(o:Obj):Prop:=∀v,o.data≠.cell v
def Sw(X:Cx)(wi:TI)(d6:List Nat)(n:Nat)(g:TG)(tc:TT)(te:TE):TE:=λσ H Q=>wi σ H λJ H1=>∃W:Nat->Nat->List Int->St->Hp->Prop,(∃m,W 0 m [] (C4 σ d6 n) H1)/\∀i m ys σ H,W i m ys σ H ->
 (J.stop i H/\∀p,H p=none->Q (.ref p) (upd H p (sP X p (ST.j5 [] ys)))) \/
 (J.go i H/\ys.length < 60/\∀ x H',J.qP i H x H'->g x σ H' λcV H2=>tc cV H2 λb H3 =>
  if b=true then te cV H3 λy H4=>∃ k,y=.int k/\∃ m',m' < m/\W (i + 1) m' (ys ++ [k]) cV H4 else ∃ m',m' < m/\W (i + 1) m' ys cV H3)
section
variable{X:Cx}{pins:List (Addr×Obj)}{σ:St}{H:Hp}{s:Shared}
theorem Inv.Sy{D:Addr}{φ:Heap->Prop}(I:Inv X pins σ H s)(f:C6 X pins H D)(hs:X.dD.heap.objs.size<=D)(ho:p0 X.prog X.w (upd H D (.ext φ)) s.heap D (.ext φ)):Inv X pins σ (upd H D (.ext φ)) s:=by
 obtain⟨f0,f1,f2,f3,f4,f5⟩:=f;have fy:∀b o,X.dD.heap.get? b=some o->b≠D:=λb o e z=>absurd (ax e) (by rw[z];exact kG.mpr hs);have tup:∀b u,H b=some u->upd H D (.ext φ) b=some u:=λb u e=>by rw[i6 (o8 e f0)];exact e
 refine⟨I.ok,I.os,I.bare,⟨?_,?_,?_,I.base.there,?_,?_,?_⟩,I.loc,I.cell,?_,?_,?_,?_,I.len⟩
 ·exact λb o e n1 n2 n3=>I.base.keep b o e n1 n2 n3
 ·exact λb o e n1 n2 n3=>I.base.slot b o e n1 n2 n3
 ·exact λb o e n1 n2=>by rw[i6 (fy b o e)];exact I.base.free b o e n1 n2
 ·exact λb xs e=>tup _ _ (I.base.jx b xs e)
 ·exact λb o u e=>tup _ _ (I.base.je b o u e)
 ·exact λb ps e=>by
   obtain⟨more,q⟩:=I.base.jy b ps e;exact⟨more,tup _ _ q⟩
 ·rw[i6 f1.symm];exact I.free
 ·exact λx c e=>by rw[i6 (f4 x c e)];exact I.gk x c e
 ·intro p hp;obtain⟨p1,p2,p3⟩:=I.pin p hp;exact⟨p1,by rw[i6 (f5 p hp)];exact p2,p3⟩
 ·intro a o e;by_cases ha:a=D
  ·subst ha;rw[u7] at e;cases e;exact ho
  ·rw[i6 ha] at e;have q:=I.cb a o e;refine q.Z4 (λb u _ h=>h) (λb hb=>tup _ _ hb) (λb xs hb=>tup _ _ hb)
theorem aG3{tg:Expr}{N':List Str}{d6:List Nat}{cl:List (Str×Addr)}{it:Addr}{fp:List Addr}{tn:Nat->Heap->Prop}{J:It}{g:TG}{tc:TT}{te:TE}{RR:Value->Addr->Result->Shared->Prop}{E:Value->Shared->Prop}{W:Nat->Nat->List Int->St->Hp->Prop}{m0:Nat}{Q:VK}(S:dM X scope N' d6 cl)(hc:X.calm=true)(hg:∀C s H,PG (f7 X pins scope N' cl C s H fp) tg g)(ht:∀C s H,lZ (f7 X pins scope N' cl C s H fp) ifs tc)(he:∀C s H,PE (f7 X pins scope N' cl C s H fp) elt te)(I:Inv X pins σ H s)(T:Turn X.prog X.w X.K tg J fp it tn)(st:tn 0 s.heap)(hf:∀b∈fp,C6 X pins H b)(w0:W 0 m0 [] (C4 σ d6 N'.length) H)(turn:∀ i m ys σ H,W i m ys σ H->(J.stop i H/\∀ p,H p=none->Q (.ref p) (upd H p (sP X p (ST.j5 [] ys)))) \/
   (J.go i H/\ys.length < 60/\∀ x H',J.qP i H x H'->g x σ H' λcV H2=>tc cV H2 λb H3 =>
    if b=true then te cV H3 λy H4=>∃ k,y=.int k/\∃ m',m' < m/\W (i + 1) m' (ys ++ [k]) cV H4 else ∃ m',m' < m/\W (i + 1) m' ys cV H3))(Bv:∀D C s' H' m,Inv X pins σ H' s'->Q (.ref D) H'->s'.heap.Ns C m->H' C=none->s.heap.objs.size<=C->RR (.ref D) C (.ok .next) s') :
  wpAny (model X.prog X.w) X.A (newSet (.type "set")) (λacc fZ=>wpAny (model X.prog X.w) X.A (newFunctionEnv scope X.env.globals cl [] X.env.qual none .none (some X.env)) (λmM kl =>
   codeAny (model X.prog X.w) X.A (.compStart (.SetComp elt [⟨tg,iter,ifs,0⟩] scope pos) 0 (.ref it) acc { mM with scope:=relabel scope X.env }) (RR acc mM.locals) kl) E fZ) E s:=by
 refine ST.KJ (JZ λdY hX gb nU=>?_);dsimp only at hX gb nU ⊢;generalize rV:s.heap.push (ST.A3 X.w)=H2 at hX gb nU ⊢;generalize eD:s.heap.objs.size=D at *;have hC:H2.objs.size=D+1:=by rw[<- rV,eB,eD]
 generalize eC:H2.objs.size=C at *;have vX:D≠C:=by omega
 have lt:∀b o,s.heap.get? b=some o->b<D:=λb o e=>by rw[<- eD];exact ax e
 have rA:D<=C:=by omega
 have pT:∀b o,s.heap.get? b=some o->b≠C:=λb o e=>aE (aA (lt b o e) rA);have nF:∀b o,s.heap.get? b=some o->b≠D:=λb o e=>aE (lt b o e);have old:∀b o,s.heap.get? b=some o->dY.get? b=some o:=λb o e=>gb b o (rV▸ag _ e);have lI:dY.get? D=some (ST.A3 X.w):=gb _ _ (by rw[<- rV,<- eD];exact aD _ rfl);have jD:∀b∈fp,∃o,s.heap.get? b=some o:=λb hb=>by
  obtain⟨o,e,_⟩:=T.obj _ _ st b hb;exact⟨o,e⟩
 have vW:D∉fp:=λhm=>by
  obtain⟨o,e⟩:=jD D hm;exact nF D o e rfl
 have X1:Inv (f7 X pins scope N' cl C s H fp) [] (C4 σ d6 N'.length) H { s with heap:=dY } :=
  I.Jt S hc hf jD (by rw[eD];omega) ⟨_,hX⟩ old nU
 have eP:tn 0 dY:=T.keep _ _ _ st λb _ o e=>old b o e;have BU:∀{H':Hp},(∀b∈fp,H' b=none)->∀b∈fp,C6 (f7 X pins scope N' cl C s H fp) [] H' b:=λhn b hb=>by
  obtain⟨f0,f1,f2,f3,f4,f5⟩:=hf b hb;obtain⟨o,e⟩:=jD b hb;refine⟨hn b hb,?_,?_,.inl hb,λx c q=>(zy nU q).elim (λl z=>absurd (cL (z▸l) (aA (lt b o e) rA)) (bI _)) λq=>f4 x c (S.cin x c q),λp hp=>?_⟩
  ·exact pT b o e
  ·exact λz=>by
    rcases aH.mp (I.L4 b z) with z|z
    ·exact f1 z
    ·exact f2 z
  ·have gL:p∈X.pn++pins:=by simpa[f7] using hp
   exact f5 p gL
 have fD:∀{H':Hp},H' D=none->C6 (f7 X pins scope N' cl C s H fp) [] H' D:=λhn=>by
  refine⟨hn,vX,λz=>?_,.inr (by show s.heap.objs.size<=D;omega),λx c q=>?_,λp hp=>?_⟩
  ·exact absurd (I.xf (a:=D) (by omega)) λox=>by
    rcases aH.mp (I.L4 D z) with z|z
    ·exact absurd I.lt (by rw[<- z,eD];exact bI _)
    ·exact ox z
  ·rcases zy nU q with l|q
   ·exact λz=>absurd (aA (z▸l) rA) (bI _)
   ·obtain⟨v,o,e,_⟩:=I.cell x c (S.cin x c q);exact nF c o e
  ·have gL:p∈X.pn++pins:=by simpa[f7] using hp
   exact nF _ _ (I.pin p gL).1
 have rm:∀{H':Hp} {s':Shared} {cI:St} {oD:Obj},En oD->Inv (f7 X pins scope N' cl C s H fp) [] cI H' s'->H' D=none->s'.heap.get? D=some oD ->
   Inv (f7 X pins scope N' cl C s H fp) [(D,oD)] cI H' s':=λ{H' s' cI oD} jX J0 hn e=>J0.K4 λp hp=>by
  have z:p=(D,oD):=by simpa using hp
  subst z;obtain⟨f0,f1,f2,_⟩:=fD hn;exact⟨e,f0,f1,f2,jX⟩
 have sv:∀{H':Hp} {oD:Obj},(∀b∈fp,H' b=none)->∀b∈fp,C6 (f7 X pins scope N' cl C s H fp) [(D,oD)] H' b:=λ{H' oD} hn b hb=>by
  obtain⟨f0,f1,f2,f3,f4,f5⟩:=BU hn b hb;refine⟨f0,f1,f2,f3,f4,λp hp=>?_⟩;have gL:p∈(f7 X pins scope N' cl C s H fp).pn\/p=(D,oD):=by simpa using hp
  rcases gL with z|z
  ·exact f5 p (bA _ z)
  ·subst z;exact λz=>vW (by rw[show D=b from z];exact hb)
 have loop:∀fZ:Shared,fZ={ s with heap:=dY } ->
   codeAny (model X.prog X.w) X.A (.compLoop (.SetComp elt [⟨tg,iter,ifs,0⟩] scope pos) 0 (.ref it) (.ref D) (compEnvC scope (K2 scope cl C) C X.env)) (RR (.ref D) C) fZ:=by
  rintro fZ rfl;refine Yf (λn s'=>∃ (i:Nat) (ys:List Int) (cI:St) (H':Hp) (oD:Obj),Inv (f7 X pins scope N' cl C s H fp) [] cI H' s'/\tn i s'.heap/\(∀ b ∈ fp,H' b=none)/\H' D=none/\ys.length <= 60/\En oD /\
   s'.heap.get? D=some oD/\ST.v5 X.prog X.w s'.heap D (ST.j5 [] ys)/\W i n ys cI H') ?_ m0 ⟨0,[],_,H,ST.A3 X.w,X1,eP,λb hb=>(hf b hb).1,I.cb.fresh (by omega),cF _,(λv (z:Data.set _ _ _=_)=>by cases z),lI,ST.IY lI,w0⟩
  rintro n s3 ⟨i,ys,lO,H3,oD,I3,jz,qm,d3,z3,c3,o3,S3,w3⟩;have xp:=rm c3 I3 d3 o3;rcases turn i n ys lO H3 w3 with⟨stop,q⟩|⟨go,hz,step⟩
  ·refine cW (T.done (f7 X pins scope N' cl C s H fp) rfl rfl rfl rfl i _ s3 _ H3 _ xp (sv qm) jz stop) λr s4 ⟨hr,I4⟩=>?_;subst hr;have o4:=(I4.pin (D,oD) (by simp)).1;have J4:Inv X pins σ H3 s4:=I.Li hf I4;have BV:C6 X pins H3 D:=by
    refine⟨d3,bQ (by rw[<- eD];exact I.lt),I.xf (by omega),.inr (by have:=I.sz;omega),λx c q=>?_,λp hp=>?_⟩
    ·obtain⟨v,o,e,_⟩:=I.cell x c q;exact nF c o e
    ·exact nF _ _ (I.pin p hp).1
   obtain⟨mC,Bb,_⟩:=I4.loc;exact Bv D C s4 (upd H3 D (sP X D (ST.j5 [] ys))) mC (J4.Sy BV (by have:=I.sz;omega) (KY (S3.at λo e=>by rw[o3] at e;cases e;exact o4))) (q D d3) Bb (by rw[i6 vX.symm];exact I4.free) (by omega)
  ·refine cW (T.item (f7 X pins scope N' cl C s H fp) rfl rfl rfl rfl i _ s3 _ H3 _ xp (sv qm) jz go) λr s4 ⟨u,hr,h4⟩=>?_;subst hr;refine cW h4 λ_ s5 bC=>?_;obtain⟨x,H5,I5,r5,y5,mz,wo⟩:=bC;have o5:=I5.pin (D,oD) (by simp);have xo:=I5.pinned (sv wo) (T.obj _ _ mz);refine cW (hg C s H _ s5 _ H5 x u _ xo r5 (step x H5 y5)) λ_ s6 bC=>?_;obtain⟨ml,H6,I6,q6⟩:=bC;refine cW (ht C s H _ s6 ml H6 _ I6 q6) λok s7 ⟨H7,I7,q7⟩=>?_;have back:∀{uH:St} {H8:Hp} {s8:Shared},Inv (f7 X pins scope N' cl C s H fp) ([(D,oD)]++X7 fp s5.heap) uH H8 s8->(∀b∈fp,H8 b=none)/\tn (i+1) s8.heap/\H8 D=none/\s8.heap.get? D=some oD :=
    λ{uH H8 s8} I8=>by
     have pf:∀b∈fp,∀o,s5.heap.get? b=some o->s8.heap.get? b=some o/\H8 b=none:=λb hb o e=>by
      have:=I8.pin (b,o) (aN _ (aN _ (P6 hb e)));exact⟨this.1,this.2.1⟩
     have pd:=I8.pin (D,oD) (by simp);refine⟨λb hb=>?_,T.keep _ _ _ mz λb hb o e=>(pf b hb o e).1,pd.2.1,pd.1⟩;obtain⟨o,e,_⟩:=T.obj _ _ mz b hb;exact(pf b hb o e).2
   cases ok with
   |false =>
    obtain⟨m',hm,w7⟩:=q7;obtain⟨b1,b2,b3,b4⟩:=back I7;exact⟨m',hm,i+1,ys,ml,H7,oD,I7.K4 λp hp=>absurd hp (by simp),b2,b1,b3,z3,c3,b4,S3.at λo e=>by rw[o3] at e;cases e;exact b4,w7⟩
   |true =>
    refine cW (he C s H _ s7 ml H7 _ I7 q7) λxv s8 bC=>?_;obtain⟨y,H8,I8,r8,kk,ey,m',hm,w8⟩:=bC;subst ey;obtain⟨tk,rfl⟩:=r8;obtain⟨b1,b2,b3,b4⟩:=back I8;have S8:ST.v5 X.prog X.w s8.heap D (ST.j5 [] ys):=S3.at λo e=>by rw[o3] at e;cases e;exact b4
    have AF:=ST.M3 ys [];simp only[List.length_nil] at AF;refine ST.a81 S8 (aA (by omega:_<62) (by decide)) λh' sb S9=>?_;have e9:ST.B0 (ST.j5 [] ys) kk=ST.j5 [] (ys++[kk]):=by unfold ST.j5;rw[List.foldl_append];rfl
    rw[e9] at S9;obtain⟨o9,es9,ep9,t9,g9,x9,d9,r9⟩:=id S9;have c9:En o9:=λv z=>by rw[d9] at z;cases z
    have Fc:Inv (f7 X pins scope N' cl C s H fp) [] ml H8 s8:=I8.K4 λp hp=>absurd hp (by simp);obtain⟨f0,f1,f2,f3,f4,f5⟩:=fD (H':=H8) b3;have kp:∀b o,b≠D->s8.heap.get? b=some o->h'.get? b=some o:=λb' u hb hu=>by rw[sb.2 b' hb];exact hu
    refine⟨m',hm,i+1,ys++[kk],ml,H8,o9,Fc.turned (it:=D) (t':=s8.toks+1) kp f0 f1 f3 f4 f5,T.keep _ _ _ b2 λb hb o e=>kp b o (λz=>vW (by rw[<- z];exact hb)) e,b1,b3,?_,c9,g9,S9,w8⟩;rw[bj,jv];omega
 exact aM3 (loop _ rfl) (T.self _ 0 _ _ _ eP (loop _ rfl))
theorem a46{tg:Expr}{N':List Str}{d6:List Nat}{cl:List (Str×Addr)}{wi:TI}{g:TG}{tc:TT}{te:TE}(S:dM X scope N' d6 cl)(hc:X.calm=true)(hi:PI X tg iter wi)(hg:∀pins C s H fp,PG (f7 X pins scope N' cl C s H fp) tg g)(ht:∀pins C s H fp,lZ (f7 X pins scope N' cl C s H fp) ifs tc)(he:∀pins C s H fp,PE (f7 X pins scope N' cl C s H fp) elt te)(hs:∀x,foldedSetIterable iter X.env x=pure x):PE X (.SetComp elt [⟨tg,iter,ifs,0⟩] scope pos) (Sw X wi d6 N'.length g tc te):=by
 intro pins s σ H Q I h;rw[arm_eval_SetComp];refine jo (use:=none) rfl hs S.sG S.kind S.names (cW (hi pins s σ H _ I h) λxv bS dY=>cW dY λvx iy jC=>?_);obtain⟨it,fp,tn,J,H2,e,I2,T,gW,f2,W,⟨m0,w0⟩,turn⟩:=jC;subst e;refine aG3 (RR:=λacc C=>compPost (model X.prog X.w) X.A X.xe none (EP X pins σ Q) acc C) S hc (λC s H=>hg pins C s H fp) (λC s H=>ht pins C s H fp) (λC s H=>he pins C s H fp) I2 T gW f2 w0 turn ?_;intro D C s' H' m I' q hn hC hsz;exact⟨m,hn,λh' sb=>⟨.ref D,H',I'.Iy hsz I2 hC sb,rfl,q⟩⟩
end
end L2
namespace HT
open PySem PyProof.Rows Builtin
theorem Yz:fillsNumberSlot (.type "tuple") "mul"=pure false :=
 PySem.fillsNumberSlot_seq (id:="tuple.__mul__") (r:=some (.builtin "tuple.__rmul__")) qJ.lookup (by decide +kernel) F.slot_tuple_rmul.lookup (by decide +kernel)
theorem aB0:seqRepeat? (.type "tuple")=pure (some (.builtin "tuple.__mul__")):=by
 unfold seqRepeat?;rw[PySem.seqSlot_of (T:="tuple") (name:="__mul__") (id:="tuple.__mul__") qJ.lookup (by decide +kernel),PySem.seqSlot_of (T:="tuple") (name:="__rmul__") (id:="tuple.__rmul__") F.slot_tuple_rmul.lookup (by decide +kernel)]
 rfl
theorem Yp(a:Int)(t:Tok)(l:Addr)(items:Array Value)(n:Nat)(dd:Option Addr)(sl:Array (Option Value)) :
  Meets (Builtin.«int.__rmul__» ⟨[.int a t,.ref l],[]⟩) (λ_ R s=>s.heap.get? l=some { cls:=.type "tuple",dict:=dd,data:=.seq items n,slots:=sl }/\R (.ok (.ret Value.notImplemented)) s) :=
 .of_wp λprog w A R s h=>by obtain⟨hp,g,d,tk,os⟩:=s;obtain⟨hl,h⟩:=h;wp_walk;exact⟨_,rfl,h⟩
theorem Yt(t:Value)(c:Value):Builtin.«tuple.__mul__» ⟨[t,c],[]⟩=(do
 let n <- asIndex c
 if n < -(2 ^ 63)||n>=2 ^ 63 then
  rule "tuple.repeat.overflow";raiseError "OverflowError" s!"cannot fit '{<- typeNameOf c}' into an index-sized integer"
 let xs <- Builtin.Tuple.tupleItemsOf t
 if xs.isEmpty||n==1 then
  if <- Builtin.Tuple.tupleIsExact t then rule "tuple.repeat.same-object";return <- ret t
 if n<=0||xs.isEmpty then return <- ret (<- Builtin.Tuple.tupleExact #[])
 if xs.size*n>(2 ^ 63-1) / 8 then rule "tuple.repeat.no-memory";raiseNew (<- newExc (.type "MemoryError") [])
 if Builtin.Tuple.tupleTooMany (xs.size*n) then unsupported "tuple.__mul__:memory"
 ret (<- Builtin.Tuple.tupleExact ((List.replicate n.toNat xs).foldl (· ++ ·) #[]))):=rfl
section
variable{prog:Program}{w:World}{A:Around}{E:Value->Shared->Prop}{s:Shared}
theorem ZQ(ba:List Value):∀(m:Nat) (acc:Array Value),List.foldl (λx1 x2=>x1++x2) acc (List.replicate m ba.toArray)=acc++(List.replicate m ba).flatten.toArray:=by
 intro m
 induction m with
 |zero=>intro acc;simp
 |succ m ih=>intro acc;rw[cv,nr,ih,cv,dz];simp
theorem ZG{a:Addr}{ba:List Value}{n:Int}{t:Tok}{Q:Value->Shared->Prop}(ht:IsTup s.heap a ba.toArray)(fy:ba≠[])(h1:1<=n)(h2:n<2 ^ 62)(hz:ba.length*n.toNat<=sizeLine)(q1:n=1->Q (.ref a) s)(q2:Q (.ref s.heap.objs.size) { s with heap:=s.heap.push { cls:=.type "tuple",data:=.seq (List.replicate n.toNat ba).flatten.toArray } }):wpAny (model prog w) A (binaryOp .Mult (.ref a) (.int n t)) Q E s:=by
 obtain⟨o,ho,hc,k,hd⟩:=id ht;obtain⟨cls,dict,data,slots⟩:=o;dsimp only at hc hd;subst hc hd;have he:ba.toArray.isEmpty=false:=by cases ba<;>first|exact absurd rfl fy|rfl
 refine Fg (T:="tuple") (U:="int") (by decide) ht.typeIs (λs'=>ni s' n t) Yz F.fills_int_mul kz aB0 F.slot_int_index.lookup
  (ke kz (ni s n t) F.entry_int_rmul (F.args_int_rmul_2 _ _) (Yp n t a ba.toArray k dict slots) ⟨ho,rfl,ht.typeIs,?_⟩)
 refine cJ qJ ht.typeIs F.entry_tuple_mul ?_ (F.args_tuple_mul_2 _ _);rw[Yt];refine aa (eJ (show asIndex (.int n t)=pure n from rfl) ?_);dsimp only;rw[aC (by simp only[Bool.or_eq_true,decide_eq_true_eq];omega)];refine aa (tupleItemsOf_ ht ?_);have big:¬((ba.toArray.size:Int)*n>(2 ^ 63-1) / 8):=by
  rw[aJ];have:((ba.length*n.toNat:Nat):Int)=(ba.length:Int)*n:=by rw[Int.natCast_mul];rw[show((n.toNat:Nat):Int)=n by omega]
  rw[<- this];have hs:sizeLine<2 ^ 59:=by decide
  omega
 have many:¬(Builtin.Tuple.tupleTooMany ((ba.toArray.size:Int)*n)=true):=by
  unfold Builtin.Tuple.tupleTooMany;rw[aJ,dS];have:((ba.length*n.toNat:Nat):Int)=(ba.length:Int)*n:=by rw[Int.natCast_mul];rw[show((n.toNat:Nat):Int)=n by omega]
  rw[<- this];omega
 have hsz:sizeOk (.seq (List.replicate n.toNat ba).flatten.toArray):=by
  show(List.replicate n.toNat ba).flatten.toArray.size<=sizeLine;simp only[List.size_toArray,List.length_flatten,List.map_replicate,List.sum_replicate_nat];rw[lr];exact hz
 by_cases e1:n=1
 ·subst e1;rw[aI (by rw[he];rfl)];unfold Builtin.Tuple.tupleIsExact;refine aa (aa (dG ht.typeIs (ak ?_)));rw[aI (by decide)]
  first
   |exact aa (cX (aa (ak ⟨_,rfl,ak (q1 rfl)⟩)))
   |exact aa (cX (ak ⟨_,rfl,(q1 rfl)⟩))
   |exact aa (cX (ak ⟨_,rfl,ak (q1 rfl)⟩))
 ·rw[aC (by rw[he];simpa using e1)];rw[aC (by rw[he];simp;omega),aC big,aC many];rw[show List.foldl (λx1 x2=>x1++x2) #[] (List.replicate n.toNat ba.toArray)=(List.replicate n.toNat ba).flatten.toArray by rw[ZQ];simp]
  first
   |exact aa (m:=Builtin.Tuple.tupleExact _) (cE (ak ⟨_,rfl,q2⟩) hsz)
   |exact aa (m:=Builtin.Tuple.tupleExact _) (cE (ak ⟨_,rfl,ak q2⟩) hsz)
end
end HT
namespace L2
open PySem PySem.Spec PyProof.Rows
section
variable{X:Cx}
def XD(K:PySem.W.Frag):R2:=λx y H Q=>∃(a:Addr) (n:Int) (xs:List V),x=.ref a/\y=.int n/\iW K H a xs/\xs≠[]/\1<=n/\n<2 ^ 62/\xs.length*n.toNat<=sizeLine /\
 (n=1->Q (.ref a) H)/\(∀p,H p=none->Q (.ref p) (upd H p (.tup (List.replicate n.toNat xs).flatten)))
theorem Tx:gn X (binaryOp .Mult) (XD X.K):=by
 intro pins s σ H x y v u Q I rx ry h;obtain⟨a,n,xs,rfl,rfl,ha,fy,h1,h2,hz,q1,q2⟩:=h;cases rx;obtain⟨tk,rfl⟩:=ry;obtain⟨ba,r,p,_⟩:=I.tuple ha;refine HT.ZG p (λz=>fy (r.zu.mp z)) h1 h2 (by rw[<- r.length];exact hz) (λe=>⟨.ref a,H,I,rfl,q1 e⟩) ?_;refine⟨.ref s.heap.objs.size,_,I.laid (t':=s.toks) (o:=.tup (List.replicate n.toNat xs).flatten) (λb ob q=>ag _ q) (av _) ?_,rfl,q2 _ (I.cb.fresh (av _))⟩;exact⟨by rw[len_rep,lr];exact hz,_,r.rep _,M4.new _ _⟩
def Th(sep:Str)(ys:List Str):Nat:=ys.foldl (λn y=>n+y.length+sep.length) 0
end
end L2
namespace HT
open PySem PyProof.Rows Builtin PySem.SeqAt
end HT
namespace L2
open PySem PySem.Spec PyProof.Rows
def EG(K:PySem.W.Frag)(H:Hp)(a:Addr)(xs:List V):Prop :=
 H a=some (.tup xs)\/∃(o:Obj) (ba:Array Value) (n:Nat),K.lookup a=some o/\o.cls=.type "tuple"/\o.dict=none/\o.data=.seq ba n/\ba.size<=sizeLine/\Vals xs ba.toList
theorem EG.sq{K:PySem.W.Frag}{H:Hp}{a:Addr}{xs:List V}(h:EG K H a xs):iW K H a xs:=by
 rcases h with h|⟨o,ba,n,h1,h2,_,h3,h4,h5⟩
 ·exact .inl (.inl h)
 ·exact .inr ⟨o,ba,n,h1,h2,h3,h4,h5⟩
end L2
namespace ST
open PySem PyProof.Rows
variable{h:Heap}
def Spot(k:Int):Prop:=0<=k/\k<8
structure Own(mask:Nat)(owner:Array (Option Nat))(pre:List Int):Prop where
 sz:owner.size=mask+1
 fwd:∀(i:Nat) (k:Int),pre[i]?=some k->owner[k.toNat]?=some (some i)
 bwd:∀(j i:Nat),owner[j]?=some (some i)->pre[i]?=some (j:Int)
section
variable{prog:Program}{w:World}{a:Addr}
def UW(prog:Program)(w:World)(h:Heap)(a:Addr)(ks:List Int):Prop :=
 ∃o es ep t,h.get? a=some o/\o.ExactSet/\o.data=.set es ep t/\ElemsOf (intKind prog w) es.toList/\(es.toList.map λe=>toI e.2).Perm ks/\ks.Nodup/\es.size<scanBound/\t.fits es.size=true/\Well (Led w) t/\(ks=[]->7<=t.mask)
theorem v5.toV{ks:List Int}(x:v5 prog w h a ks)(hn:ks≠[]):UW prog w h a ks:=by
 obtain⟨o,es,ep,t,h1,h2,h3,h4,h5,h6,h7,h8,h9⟩:=x;exact⟨o,es,ep,t,h1,h2,h3,h4,h5,h6,h7,h8,h9,λz=>absurd z hn⟩
theorem v5.same{ks us:List Int}(x:v5 prog w h a ks)(hp:ks.Perm us):v5 prog w h a us:=by
 obtain⟨o,es,ep,t,h1,h2,h3,h4,h5,h6,h7⟩:=x;exact⟨o,es,ep,t,h1,h2,h3,h4,h5.trans hp,hp.nodup_iff.mp h6,h7⟩
theorem M7{o:Obj}{es pq:Array (Int×Value)}{ep:Nat}{t t':SetTable}(ho:h.get? a=some o)(hd:o.data=.set es ep t):(h.update a (Obj.putSet pq t')).get? a=some { o with data:=.set pq (ep+1) t' }:=by
 have:=bw (Obj.putSet pq t') ho (by rw[lM pq t' hd];rfl);rw[lM pq t' hd] at this;exact this
theorem above:∀n,n<300->7<SetTable.sizeAbove n/\n<SetTable.sizeAbove n/\SetTable.sizeAbove n<=sizeLine:=by decide +kernel
end
end ST
namespace L2
open PySem PySem.Spec PyProof.Rows
variable{X:Cx}
end L2
namespace ST
open PySem PyProof.Rows
end ST
namespace L2
open PySem PySem.Spec PyProof.Rows
variable{X:Cx}
theorem JQ:∀{ns ks:List Int},(ks++ns).Nodup->ST.j5 ks ns=ks++ns
 |[],ks,_=>by simp[ST.j5]
 |n::r,ks,h=>by
  have hn:n∉ks:=λz=>by
   have:=(cM.mp h).2.2 n z n (by simp);exact this rfl
  have e:ST.B0 ks n=ks++[n]:=by
   unfold ST.B0;rw[aC (by simpa using hn)]
  show ST.j5 (ST.B0 ks n) r=_;rw[e,JQ (by rw[bH];exact h),bH]
  rfl
theorem W3{ba:List Value}{ns:List Int}(hi:IntsAre ba ns):∃xs,ba.toArray=intItems xs/\ns=xs.toList.map (·.1):=by
 obtain⟨xs,e⟩:=hi.allInts.items;exact⟨xs,e,by rw[<- hi.numsOf,<- nums_intItems,<- e]⟩
theorem YO(hc:X.calm=true):n6 X (.builtin "sum") (λxs H Q=>∃a,∃ns:List Int,xs=[.ref a]/\gA X.K H a (ns.map V.int)/\Q (.int ns.sum) H):=by
 intro pins s σ H xs us Q I r h;obtain⟨a,ns,rfl,ha,q⟩:=h;obtain⟨u,rfl,ru⟩:=vals1 r;cases ru;obtain⟨ba,rv,p,hz⟩:=I.list ha;obtain⟨xs,e,en⟩:=W3 (H9 rv);refine sum_intListG (xs:=xs) (I.ok.hd hc) (by rw[<- e];exact p.isList) λh' tk t' k=>⟨.int ns.sum,H,I.kept k,⟨t',?_⟩,q⟩
 rw[preSum_eq,df (by simp),en]
theorem YK(hc:X.calm=true):n6 X (.builtin "max") (λxs H Q=>∃a,∃(ns:List Int) (M:Int),xs=[.ref a]/\gA X.K H a (ns.map V.int)/\M∈ns/\(∀x∈ns,x<=M)/\Q (.int M) H):=by
 intro pins s σ H xs us Q I r h;obtain⟨a,ns,M,rfl,ha,hm,hM,q⟩:=h;obtain⟨u,rfl,ru⟩:=vals1 r;cases ru;obtain⟨ba,rv,p,hz⟩:=I.list ha;obtain⟨xs,e,en⟩:=W3 (H9 rv);have hsz:0<xs.size:=by
  have:=fH hm;rw[en,aj,bt] at this;exact this
 refine max_intList (xs:=xs) (I.ok.hd hc) (by rw[<- e];exact p.isList) hsz λv h' tk hv k=>?_;obtain⟨t,rfl⟩:=intItems_at hv;obtain⟨h1,h2⟩:=argBest_gt (numAt xs) (xs.size-1);generalize argBest (λi j=>decide (numAt xs i>numAt xs j)) (xs.size-1)=j0 at *;have m1:numAt xs j0∈ns:=by rw[en,numAt_eq];exact getD_mem (by rw[aj,bt];omega)
 have m2:M<=numAt xs j0:=by
  rw[en] at hm;obtain⟨j,hj,rfl⟩:=mem_getD hm;rw[aj,bt] at hj;rw[<- numAt_eq];exact h2 j (by omega)
 have e2:numAt xs j0=M:=Int.le_antisymm (hM _ m1) m2;exact⟨.int M,H,I.kept k,⟨t,by rw[e2]⟩,q⟩
theorem YN(hc:X.calm=true):n6 X (.builtin "min") (λxs H Q=>∃a,∃(ns:List Int) (M:Int),xs=[.ref a]/\gA X.K H a (ns.map V.int)/\M∈ns/\(∀x∈ns,M<=x)/\Q (.int M) H):=by
 intro pins s σ H xs us Q I r h;obtain⟨a,ns,M,rfl,ha,hm,hM,q⟩:=h;obtain⟨u,rfl,ru⟩:=vals1 r;cases ru;obtain⟨ba,rv,p,hz⟩:=I.list ha;obtain⟨xs,e,en⟩:=W3 (H9 rv);have hsz:0<xs.size:=by
  have:=fH hm;rw[en,aj,bt] at this;exact this
 refine min_intList (xs:=xs) (I.ok.hd hc) (by rw[<- e];exact p.isList) hsz λv h' tk hv k=>?_;obtain⟨t,rfl⟩:=intItems_at hv;obtain⟨h1,h2⟩:=argBest_lt (numAt xs) (xs.size-1);generalize argBest (λi j=>decide (numAt xs i<numAt xs j)) (xs.size-1)=j0 at *;have m1:numAt xs j0∈ns:=by rw[en,numAt_eq];exact getD_mem (by rw[aj,bt];omega)
 have m2:numAt xs j0<=M:=by
  rw[en] at hm;obtain⟨j,hj,rfl⟩:=mem_getD hm;rw[aj,bt] at hj;rw[<- numAt_eq];exact h2 j (by omega)
 have e2:numAt xs j0=M:=Int.le_antisymm m2 (hM _ m1);exact⟨.int M,H,I.kept k,⟨t,by rw[e2]⟩,q⟩
theorem YH(hc:X.calm=true):n6 X (.builtin "all") (λxs H Q=>∃(a:Addr) (ns:List Int),xs=[.ref a]/\gA X.K H a (ns.map V.int)/\Q (.bl (ns.all λn=>n != 0)) H):=by
 intro pins s σ H xs us Q I r h;obtain⟨a,ns,rfl,ha,q⟩:=h;obtain⟨u,rfl,ru⟩:=vals1 r;cases ru;obtain⟨ba,rv,p,hz⟩:=I.list ha;refine call_all_walk ?_;refine fW p.isList ?_;have fy:a≠s.heap.objs.size:=by
  obtain⟨o,e,_⟩:=id p.isList;exact aE (ax e)
 have hl:=rv.length;rw[aj] at hl;refine⟨s.heap.objs.size,_,_,_,_,_,λi=>ns.getD i 1 != 0,rfl,zV (A:=X.A.in1) (I.ok.hd hc) _ a fy ba.toArray,⟨⟨_,aD _ rfl,rfl,rfl⟩,?_⟩,?_,λh' tk k=>?_⟩
 ·obtain⟨o,e,q1⟩:=id p.isList;exact⟨o,ag _ e,q1⟩
 ·intro i v s' Q' E' hP hQ;have hv:ba[i]?=some v:=by simpa using hP
  have hi:i<ns.length:=by rw[hl];exact(aw.mp hv).1
  obtain⟨u',vC,As⟩:=rv.get (i:=i) (x:=V.int ns[i]) (by rw[au,ao hi];rfl);rw[hv] at vC;cases vC;obtain⟨t,rfl⟩:=As;refine truthy_int ?_;have:ns.getD i 1=ns[i]:=by simp[List.getD,hi]
  dsimp only at hQ;rw[this] at hQ;exact hQ
 ·have e1:(List.range ba.toArray.size).all (λi=>ns.getD i 1 != 0)=ns.all λn=>n != 0:=by
   rw[aJ,<- hl];rw[aZ];simp only[List.all_eq_true,List.mem_range];constructor
   ·intro hh x hx;obtain⟨i,hi,rfl⟩:=bz.mp hx;have:=hh i hi;simpa[List.getD,hi] using this
   ·intro hh i hi;have:=hh ns[i] (cG hi);simpa[List.getD,hi] using this
  rw[e1];exact ⟨.bl _,H,I.kept (t':=tk) λb o e=>k b o (by
   intro hb;have:b=s.heap.objs.size:=by simpa using hb
   exact absurd (ax e) (by rw [this];exact bI _)) (ag _ e),rfl,q⟩
theorem X':n6 X (.builtin "len") (λxs H Q=>∃a,∃ks:List Int,xs=[.ref a]/\H a=some (sP X a ks)/\Q (.int ks.length) H):=by
 intro pins s σ H xs us Q I r h;obtain⟨a,ks,rfl,ha,q⟩:=h;obtain⟨u,rfl,ru⟩:=vals1 r;cases ru;have hS:ST.v5 X.prog X.w s.heap a ks:=(I.cb a _ ha).1;obtain⟨o,es,ep,t,e,ex,ed,_,hp,nd,hz,hf,_⟩:=hS;have hl:es.size=ks.length:=by have:=hp.length_eq;simpa using this
 refine call_len_set e ex ed hf (by have:scanBound<2 ^ 62:=(by decide);omega) ⟨.int ks.length,H,I.tok _,⟨_,by rw[hl]⟩,q⟩
theorem TU{i:Int}{j:Nat}{p pos:Pos}(nT:PySem.W.kdsCode X.K X.env.code=true):PE X (.Set [.Constant (.int i) j p] 0 pos) (λσ H Q=>∀q,H q=none->Q (.ref q) (upd H q (.set (λk=>decide (k=i)) 1))):=by
 intro pins s σ H Q I h;rw[arm_eval_Set];refine aa (eO ?_);refine aa (PySem.W.kds_main I.iA nT λb=>?_);rw[PySem.W.kds_star _ (by rfl),bx];refine PySem.W.kds_core (ts:=(evalEach [Expr.Constant (.int i) j p] X.env).map λt=>do let v <- t;standAt pos;pure v) (by rfl) (by rfl) (by show 1<=30;decide) (by rw[bx];rfl) λled=>?_;refine PySem.W.kds_all pos _ _ _ ?_;show wpAny _ _ (eval (.Constant (.int i) j p) X.env) _ _ _;refine wpAny_Constant_int ?_;refine PySem.W.kds_fill_cons ?_;have Oo:(s.heap.push { cls:=.type "set",dict:=none,data:=.set #[] 0 (.fresh 0 0 led) }).SetOf (intKind X.prog X.w) s.heap.objs.size (λ_=>false) 0:=(setObjOf_fresh led).setOf (aD _ rfl) (by decide);unfold setAdd;refine bJ (aa ((intKind X.prog X.w).pyHash (k:=i) (gD _ _ _ _) ?_));refine wpAny_setAddHashed_of (knd:=intKind X.prog X.w) (gD _ _ _ _) rfl Oo (by decide) λh' AR lJ=>?_;refine PySem.W.kds_fill_nil (by rfl) ?_;have kp:∀b u,s.heap.get? b=some u->h'.get? b=some u:=λb u e=>(AR.2 b (aE (ax e))).trans (ag _ e);exact⟨.ref s.heap.objs.size,_,I.laid (a:=s.heap.objs.size) (o:=.set (λk=>decide (k=i)) 1) kp (av _) (by show Heap.SetOf _ _ _ _ _;simpa using lJ),rfl,h _ (I.cb.fresh (av _))⟩
theorem Zi:gn X (compareOp .In) (λx y H Q=>∃i a S n,x=.int i/\y=.ref a/\H a=some (.set S n)/\Q (.bl (S i)) H):=by
 intro pins s σ H x y v u Q I rx ry h;obtain⟨i,a,S,n,rfl,rfl,ha,q⟩:=h;obtain⟨t,rfl⟩:=rx;cases ry;exact wpAny_inSet_of (knd:=intKind X.prog X.w) (k:=i) (gD _ _ _ _) rfl (I.cb a _ ha) ⟨.bl (S i),H,I.tok _,rfl,q⟩
theorem aB5:gn X (compareOp .NotIn) (λx y H Q=>∃i a S n,x=.int i/\y=.ref a/\H a=some (.set S n)/\Q (.bl (!S i)) H):=by
 intro pins s σ H x y v u Q I rx ry h;obtain⟨i,a,S,n,rfl,rfl,ha,q⟩:=h;obtain⟨t,rfl⟩:=rx;cases ry;exact wpAny_notInSet_of (knd:=intKind X.prog X.w) (k:=i) (gD _ _ _ _) rfl (I.cb a _ ha) ⟨.bl (!S i),H,I.tok _,rfl,q⟩
theorem aO1:oj X "set.add" (λx xs H Q=>∃a i S n,x=.ref a/\xs=[.int i]/\H a=some (.set S n)/\n+1<4096/\Q .cj (upd H a (.set (λk=>S k||decide (k=i)) (if S i then n else n+1)))):=by
 intro pins s σ H x vs v us Q I rx rv h;obtain⟨a,i,S,n,rfl,rfl,ha,hn,q⟩:=h;cases rx;obtain⟨u,rfl,t,rfl⟩:=rv.one;refine call_set_add (knd:=intKind X.prog X.w) (k:=i) (gD _ _ _ _) rfl (I.cb a _ ha) (show n+1<scanBound from hn) λh' AR lJ=>?_;obtain⟨o,es,ep,tb,ho,_⟩:=id lJ;exact⟨.cj,_,I.write (x:=a) (e:=a) (o:=.set (λk=>S k||decide (k=i)) (if S i then n else n+1)) (by rw[ha];trivial) (.inl rfl) (λb u hb e=>(AR.2 b hb).trans e) ⟨o,ho⟩ lJ,rfl,q⟩
end L2
namespace ST
open PySem PyProof.Rows
section
variable{prog:Program}{w:World}{A:Around}{E:Value->Shared->Prop}{s:Shared}{a:Addr}
theorem aL7{T:String}{o:Obj}{items:Array Value}{n:Nat}{ns:List Int}(hT:T="list"\/T="tuple")(ho:s.heap.get? a=some o)(hc:o.cls=.type T)(hd:o.data=.seq items n)(hI:IntsAre items.toList ns)(yo:ns.length<=10000){Q:Value->Shared->Prop}(h:∀(h1:Heap) (vs:List Value) (kO:List Int) e h',(∀b o',s.heap.get? b=some o'->h1.get? b=some o')->IntsAre vs kO->kO.Perm ns->kO.Pairwise (·<=·)->h'.get? h1.objs.size=some (seqObj "list" vs.toArray e)->(∀c o,h1.get? c=some o->h'.get? c=some o)->Q (.ref h1.objs.size) { s with heap:=h' }) :
  wpAny (model prog w) A (call (.builtin "sorted") [.ref a]) Q E s:=by
 have hl:items.toList.length=ns.length:=CZ hI;refine Fp kind_sorted plain_sorted entry_sorted (args_sorted1 _) ?_;unfold Builtin.«sorted»;refine aa (m:=checkCount "sorted" 1 1 _) (ak ?_);refine aa (wpAny_collect_seq (A:=A.in1) a hT ho hc hd (λh1 kp=>?_) (by simp at hl;unfold sizeLine;omega));have nP:items.toList.length<=100000:=by omega
 generalize items.toList=vs at *;refine aa (Mf (s:={ s with heap:=h1 }) ?_);have oU:(h1.push (seqObj "list" vs.toArray 0)).get? h1.objs.size=some (seqObj "list" vs.toArray 0):=aD _ rfl;refine aa (bJ (cJ (s:={ s with heap:=h1.push (seqObj "list" vs.toArray 0) }) slot_list_sort ⟨_,oU,rfl⟩ entry_list_sort (TS.Lz oU hI nP λout kO a1 a2 a3=>⟨_,rfl,?_⟩) (args_list_sort _)));obtain⟨e,lh⟩:=sortedHeap_at (vs:=vs) (out:=out) oU;refine ak ⟨_,rfl,h h1 out.toList kO e _ kp a1 a2 a3 lh (λc o' e'=>?_)⟩;have hc:=ax e';rw[sortedHeap_old (aE hc) (by rw[jP];exact ig hc)];exact ag _ e'
end
end ST
namespace L2
open PySem PyProof.Rows
def J7(ns:List Int):List Int:=ns.mergeSort (λa b=>decide (a<=b))
theorem JD(ns:List Int):(J7 ns).Pairwise (·<=·):=by
 have:=tj (le:=λa b:Int=>decide (a<=b)) (λa b c h1 h2=>by simp at *;omega) (λa b=>by simp;omega) ns;exact this.imp λh=>by simpa using h
theorem Z6(ns:List Int):(J7 ns).Perm ns:=Fl _ _
section
variable{X:Cx}
theorem Yk:n6 X (.builtin "sorted") (λxs H Q=>∃p,∃ns:List Int,xs=[.ref p]/\(gA X.K H p (ns.map V.int)\/iW X.K H p (ns.map V.int))/\ns.length<=10000/\∀l,H l=none->Q (.ref l) (upd H l (.lst ((J7 ns).map V.int)))):=by
 intro pins s σ H xs us Q I r h;obtain⟨p,ns,rfl,hq,hl,q⟩:=h;obtain⟨u,rfl,rx⟩:=vals1 r;cases rx;obtain⟨T,ba,o,n,hT,r',ho,hc,hd⟩:∃T,∃(ba:List Value) (o:Obj) (n:Nat),(T="list"\/T="tuple")/\Vals (ns.map V.int) ba/\s.heap.get? p=some o/\o.cls=.type T/\o.data=.seq ba.toArray n:=by
  rcases hq with hq|hq
  ·obtain⟨ba,r',pl,_⟩:=I.list hq;obtain⟨o,ho,hc,n,hd⟩:=pl.isList;exact⟨_,ba,o,n,.inl rfl,r',ho,hc,hd⟩
  ·obtain⟨ba,r',⟨o,ho,hc,n,hd⟩,_⟩:=I.tuple hq;exact⟨_,ba,o,n,.inr rfl,r',ho,hc,hd⟩
 refine ST.aL7 hT ho hc hd (H9 r') hl λh1 vs kO e h' kp i1 i2 i3 i4 i5=>?_;have e1:kO=J7 ns:=U1 (i2.trans (Z6 ns).symm) i3 (JD ns);subst e1;have I1:Inv X pins σ H { s with heap:=h1 }:=I.kept (t':=s.toks) kp;have hz:(J7 ns).length<=10000:=by rw[(Z6 ns).length_eq];exact hl
 exact⟨.ref h1.objs.size,_,(I1.laid (a:=h1.objs.size) (o:=.lst ((J7 ns).map V.int)) (t':=s.toks) i5 (av _) ⟨by rw[aj];exact aF hz (by decide),vs,e,JF i1,i4⟩),rfl,q _ (I1.cb.fresh (av _))⟩
theorem Jk:∀{ks:List Key} {l:List Value},l.length=ks.length->(∀(i:Nat) v,l[i]?=some v->∃k,ks[i]?=some k/\sT k v=true)->Vals (ks.map kV) l
 |[],[],_,_=>.nil
 |k::ks,v::l,hl,h=>by
  obtain⟨k',e,hk⟩:=h 0 v rfl;cases e;refine .cons ?_ (Jk (by simpa using hl) λi v e=>h (i+1) v e);rcases v8 hk with⟨i,t,rfl,rfl⟩|⟨x,t,rfl,rfl⟩<;>exact⟨t,rfl⟩
theorem Yj(hc:X.calm=true):n6 X (.type "list") (λxs H Q=>∃a kvs,xs=[.ref a]/\H a=some (.dK kvs)/\kvs.length<=10000/\∀p,H p=none->Q (.ref p) (upd H p (.lst ((kvs.map (·.1)).map kV)))):=by
 intro pins s σ H xs us Q I r h;obtain⟨a,kvs,rfl,ha,hl,q⟩:=h;obtain⟨u,rfl,rx⟩:=vals1 r;cases rx;obtain⟨_,hd,vs,kv,hD⟩:=DS I.cb ha;obtain⟨ep,hA⟩:=hD.dictAt;have nP:vs.length<=10000:=by rw[<- kv.length];exact hl
 refine PySem.W.kdl_call (PySem.W.kdl_dict (kvs:=vs) (ep:=ep) hd) (I.ok.hd hc) hA (aF nP (by decide)) λh' tk acc c k1 k2 k3=>?_;have hv:Vals ((kvs.map (·.1)).map kV) acc.toList:=by
  refine Jk (by rw[bt,k3.1,aj,kv.length]) λi v e=>?_;obtain⟨k,x,e1,e2⟩:=k3.2 i v (by simpa using e);exact⟨k,by rw[kv.keys,au,e1];rfl,e2⟩
 exact⟨.ref s.heap.objs.size,_,(I.laid (a:=s.heap.objs.size) (o:=.lst ((kvs.map (·.1)).map kV)) (t':=tk) k1 (av _) ⟨by rw[aj,aj];exact aF hl (by decide),acc.toList,c,hv,by simpa using k2⟩),rfl,q _ (I.cb.fresh (av _))⟩
end
end L2
namespace ST
open PySem PyProof.Rows
variable{tk:Tok}{items:Array Value}{n:Nat}{ks:List Int}
theorem aC6:typeLookup (.type "list") "keys"=pure none:=by rw[gZ,eQ];kernel_rfl
theorem Yy:typeLookup (.type "list") "__getattr__"=pure none:=by rw[gZ,eQ];kernel_rfl
section
variable{prog:Program}{w:World}{A:Around}{E:Value->Shared->Prop}{h:Heap}{g:Array GenState}{d:Drawn}{t:Nat}{os:OsState}{a:Addr}{o:Obj}
theorem Yx{Q:Fin->Shared->Prop}(hh:A.handled=none)(hx:h.get? a=some o)(hc:o.cls=.type "list")(hn:o.dict=none)(hd:o.data=.seq items n)(hq:∀e h' tk,(∀b o,h.get? b=some o->h'.get? b=some o)->t<=tk->(∃oe,h'.get? e=some oe/\oe.cls=.type "AttributeError")->E (.ref e) ⟨h',g,d,tk,os⟩) :
  wpAny (model prog w) A (Builtin.«object.__getattribute__» ⟨[.ref a,.str "keys" tk],[]⟩) Q E ⟨h,g,d,t,os⟩:=by
 have hT:(⟨h,g,d,t,os⟩:Shared).TypeIs (.ref a) "list":=⟨_,hx,hc⟩
 have f4:=aC6
 repeat (any_goals (first|assumption|wp_step))
 rw[hd];dsimp only;unfold instanceDict
 repeat (any_goals (first|assumption|wp_step))
 rw[hc];dsimp only;rw[hn];dsimp only;rw[aI (by rfl)];refine ak ?_;unfold Builtin.ObjectAttr.inDict;refine ak ?_;dsimp only
 repeat (any_goals (first|assumption|wp_step))
 have hm:(Str.ofString (toString "'"++toString ((Manifest.find? "list").elim "list" λx=>x.tpName)++toString "' object has no attribute '")++Str.ofString "keys"++Str.ofString "'").length<=sizeLine:=by decide +kernel
 generalize (Str.ofString (toString "'"++toString ((Manifest.find? "list").elim "list" λx=>x.tpName)++toString "' object has no attribute '")++Str.ofString "keys"++Str.ofString "'")=msg at *;unfold raiseAttrError
 repeat (any_goals (first|assumption|wp_step))
 have f5:isSubtype (.type "AttributeError") (.type "AttributeError")=pure true:=by rw[ei];kernel_rfl
 refine eJ f5 ?_;rw[aC (by decide)]
 repeat (any_goals (first|assumption|wp_step))
 refine wpAny_raiseNew_none hh (hq _ _ _ (λb ob e=>?_) (by omega) ?_)
 ·have hb:b≠(h.push { cls:=Value.type "tuple",data:=Data.seq #[Value.str msg t] }).objs.size:=by
   have:=ax e;rw[eB];exact aE (ig this)
  exact((bR _ _ _).2 b hb).trans (ag _ (ag _ e))
 ·exact⟨_,bw _ (aD _ rfl) rfl,rfl⟩
theorem Yr{R:Result->Shared->Prop}(hh:A.handled=none)(hx:h.get? a=some o)(hc:o.cls=.type "list")(hn:o.dict=none)(hd:o.data=.seq items n)(hq:∀e h' tk,(∀b o,h.get? b=some o->h'.get? b=some o)->t<=tk->(∃oe,h'.get? e=some oe/\oe.cls=.type "AttributeError")->R (.error (.ref e)) ⟨h',g,d,tk,os⟩) :
  codeAny (model prog w) A (.call (.builtin "list.__getattribute__") ⟨[.ref a,.str "keys" tk],[]⟩) R ⟨h,g,d,t,os⟩ :=
 codeAny_call_builtin fK.plain F.entry_list_ga (fK.check _ _ _ _ _ _ _ _ (show(⟨h,g,d,t,os⟩:Shared).TypeIs (.ref a) "list" from⟨_,hx,hc⟩) (F.args_list_getattribute_2 _ _) (Yx (by simp[hh]) hx hc hn hd hq))
theorem aC9{Q:Value->Shared->Prop}(hh:A.handled=none)(hx:h.get? a=some o)(hc:o.cls=.type "list")(hn:o.dict=none)(hd:o.data=.seq items n)(hq:∀e h' tk,(∀b o,h.get? b=some o->h'.get? b=some o)->t<=tk->(∃oe,h'.get? e=some oe/\oe.cls=.type "AttributeError")->E (.ref e) ⟨h',g,d,tk,os⟩):wpAny (model prog w) A (getAttrBy (.ref a) (.str "keys" tk) false) Q E ⟨h,g,d,t,os⟩:=by
 have hT:(⟨h,g,d,t,os⟩:Shared).TypeIs (.ref a) "list":=⟨_,hx,hc⟩
 have f2:=fK.lookup;have f3:=fK.bind (.ref a)
 repeat (any_goals (first|assumption|wp_step))
 refine Yr hh hx hc hn hd λe h' kA k1 k2 ⟨oe,he,yd⟩=>?_;have Oi:(⟨h',g,d,kA,os⟩:Shared).TypeIs (.ref e) "AttributeError":=⟨_,he,yd⟩
 have f5:isSubtype (.type "AttributeError") (.type "AttributeError")=pure true:=by rw[ei];kernel_rfl
 have f6:=Yy;dsimp only;unfold getattributeRaised;refine aa (fm Oi f5 ?_);rw[aI rfl];unfold hookBehind
 repeat (any_goals (first|assumption|wp_step))
 exact hq e h' kA k1 k2 ⟨oe,he,yd⟩
theorem Yq{Q:Option Value->Shared->Prop}(hh:A.handled=none)(hx:h.get? a=some o)(hc:o.cls=.type "list")(hn:o.dict=none)(hd:o.data=.seq items n)(hq:∀h' tk,(∀b o,h.get? b=some o->h'.get? b=some o)->t<=tk->Q none ⟨h',g,d,tk,os⟩):wpAny (model prog w) A (getAttr? (.ref a) "keys") Q E ⟨h,g,d,t,os⟩:=by
 unfold getAttr? getAttrBy?;have f5:isSubtype (.type "AttributeError") (.type "AttributeError")=pure true:=by rw[ei];kernel_rfl
 refine aa (wpAny_mkText ?_);refine aa (mQ (aC9 hh hx hc hn hd λe h' kA k1 k2 ⟨oe,he,yd⟩=>?_));dsimp only;refine aa (fm (show(⟨h',g,d,kA,os⟩:Shared).TypeIs (.ref e) "AttributeError" from⟨_,he,yd⟩) f5 ?_);rw[aI rfl];exact ak (hq h' kA k1 (Nat.le_of_succ_le k2))
theorem N6:plainId "dict.update.loop"=true:=by decide +kernel
theorem JI:entryFor table "dict.update.loop"=some Builtin.«dict.update.loop»:=entryFor_of_tree (by kernel_rfl)
def J5(ks:List Int):List (L2.Key×Value):=ks.map λk=>(.inl k,.bool true)
theorem stored_new{k:Int}(h:k∉ks):stored (J5 ks) (.inl k:L2.Key) (.bool true)=J5 (ks++[k]):=by
 unfold stored;rw[aC]
 ·simp[J5]
 ·intro z;rw[aV] at z;obtain⟨x,hx,e⟩:=z;obtain⟨j,hj,rfl⟩:=aP.mp hx;have:j=k:=mR (bg e);exact h (this▸hj)
theorem aN1{R:Result->Shared->Prop}{I:Addr}{fp wr:List Addr}{G:Array GenState->Array GenState->Prop}{P:Nat->Value->Prop}{St:Nat->Shared->Prop}(W:WalksS prog w A.in1 I fp wr G n P St)(GW:a∉fp)(hn:n=ks.length){tp:Nat->Addr}(hv:∀i v,P i v->v=.ref (tp i))(Gu:∀i,i<n->tp i∉a::wr)(hb:n<=10000)(nd:ks.Nodup):∀(k i:Nat) (s:Shared),i+k=n->St i s->(∀j,j<n->∃tk,s.heap.IsTuple (tp j) #[.int (ks.getD j 0) tk,.bool true])->s.heap.DictOf (L2.n9 prog w) a (J5 (ks.take i)) ->
   (∀s',Moved (a::wr) G s s'->s'.heap.DictOf (L2.n9 prog w) a (J5 ks)->R (.ok (.ret .none)) s')->codeAny (model prog w) A (.builtin "dict.update.loop" ⟨[.ref a,.ref I,rawInt i,.none],[]⟩) R s:=by
 have hw:a∉wr:=λh=>GW (W.sub _ h);have nA:∀b∈wr,b∈a::wr:=λb hb=>by simp[hb]
 intro k
 induction k with
 |zero =>
  intro i s e st ht hS hR;obtain rfl:i=n:=by omega
  refine dF JI ?_;rw[de N6 _];unfold Builtin.«dict.update.loop»;dsimp only;refine aa (W.done s _ _ st λs' m=>?_);refine aa (m:=Builtin.Dict.addKeywords _ _) (ak ?_);refine ak (hR s' (m.mono nA) ?_);rw[hn,bO] at hS;obtain⟨o,es,ep,ho,r⟩:=hS;exact⟨o,es,ep,m.heap a o hw ho,r⟩
 |succ k ih =>
  intro i s e st ht hS hR;have dO:i<ks.length:=by omega
  refine dF JI ?_;rw[de N6 _];unfold Builtin.«dict.update.loop»;dsimp only;refine aa (W.item i s _ _ (by omega) st λv s' hP aX m=>?_);cases hv i v hP;have lJ:s'.heap.DictOf (L2.n9 prog w) a (J5 (ks.take i)):=by
   obtain⟨o,es,ep,ho,r⟩:=hS;exact⟨o,es,ep,m.heap a o hw ho,r⟩
  have pX:∀j,j<n->∃tk,s'.heap.IsTuple (tp j) #[.int (ks.getD j 0) tk,.bool true]:=λj hj=>by
   obtain⟨tk,o,ho,r⟩:=ht j hj;exact⟨tk,o,m.heap _ o (λz=>Gu j hj (by simp[z])) ho,r⟩
  obtain⟨tk,o,ho,hc,nn,hd⟩:=pX i (by omega);refine aa (bJ ?_);refine aa (wpAny_tryCatch ?_);unfold Builtin.Dict.pairItems;refine aa (dG (show s'.TypeIs (.ref (tp i)) "tuple" from⟨o,ho,hc⟩) ?_);rw[aI (by decide)];unfold seqItems?;dsimp only;refine aa (aa (wpAny_load ho ?_));rw[hd];refine ak (ak ?_);show wpAny (model prog w) A.in1 (holding [.int (ks.getD i 0) tk,.bool true] (dictSet a (.int (ks.getD i 0) tk) (.bool true))) _ _ _;refine bJ ?_;unfold dictSet;refine bJ (aa ((L2.n9 prog w).pyHash (k:=.inl (ks.getD i 0)) (L2.V2 _ _ _ _) ?_));have hl:(J5 (ks.take i)).length<=10000:=by
   unfold J5;rw[aj,cT];omega
  refine wpAny_dictSetHashed_pairs (s:={ s' with toks:=s'.toks+1 }) (k:=(.inl (ks.getD i 0):L2.Key)) (L2.V2 _ _ _ _) lJ (λh' qf sb=>?_) (aF hl (by decide));have ek:ks.take (i+1)=ks.take i++[ks.getD i 0]:=by
   rw[bL,ao dO];simp[List.getD,dO]
  have ox:ks.getD i 0∉ks.take i:=by
   have:(ks.take (i+1)).Nodup:=nd.sublist (List.take_sublist _ _);rw[ek,cM] at this;exact λz=>this.2.2 _ z _ (by simp) rfl
  rw[stored_new ox,<- ek] at qf;refine ak ⟨gJ N6 _,?_⟩;rw[show((i:Nat):Int)+1=((i+1:Nat):Int) by omega];refine ih (i+1) _ (by omega) (W.frame _ s' _ _ aX (cy _) λb hb o e=>by rw[sb.2 b λz=>GW (z▸hb)];exact e) (λj hj=>?_) qf λs2 m2 h2=>?_
  ·obtain⟨tk,o,ho,r⟩:=pX j hj;exact⟨tk,o,(sb.2 _ λz=>Gu j hj (by simp[z])).trans ho,r⟩
  ·exact hR s2 (Moved.trans W.gtrans ((m.mono nA).then_heap (cy _) λb o hb e=>by rw[sb.2 b λz=>hb (by rw[z];simp)];exact e) m2) h2
theorem ZO{l:Addr}{tp:Nat->Addr}{nn:Nat}{s:Shared}{Q:Value->Shared->Prop}(hh:A.handled=none)(ho:s.heap.get? l=some o)(hc:o.cls=.type "list")(hn:o.dict=none)(hd:o.data=.seq items nn)(hsz:items.size=ks.length)(hit:∀(i:Nat) (v:Value),items[i]?=some v->v=.ref (tp i))(ht:∀j,j<ks.length->∃tk,s.heap.IsTuple (tp j) #[.int (ks.getD j 0) tk,.bool true])(hb:ks.length<=10000)(nd:ks.Nodup)(h:∀h' tk,h'.DictOf (L2.n9 prog w) s.heap.objs.size (J5 ks)->(∀b o,s.heap.get? b=some o->h'.get? b=some o)->s.toks<=tk->Q (.ref s.heap.objs.size) { s with heap:=h',toks:=tk }) :
  wpAny (model prog w) A (call (.type "dict") [.ref l]) Q E s:=by
 refine callType_codes (Q₁:=λobj bS=>obj=.ref s.heap.objs.size/\bS={ s with heap:=s.heap.push { cls:=.type "dict",data:=.dict #[] } }) F.kt_called_dict (F.kt_typeCall_dict_1 _) F.entry_dict_init (kt_code_dict_new _ ⟨rfl,rfl⟩) ?_;rintro obj bS ⟨rfl,rfl⟩;have mF:(s.heap.push { cls:=.type "dict",data:=.dict #[] }).DictOf (L2.n9 prog w) s.heap.objs.size []:=Heap.DictOf.new s.heap;refine⟨mF.typeIs,F.args_dict_init_2 _ _,?_⟩;have pZ:(s.heap.push { cls:=.type "dict",data:=.dict #[] }).get? l=some o:=ag _ ho;have vU:Shared.TypeIs { s with heap:=s.heap.push { cls:=.type "dict",data:=.dict #[] } } (.ref l) "list":=⟨o,pZ,hc⟩
 unfold Builtin.«dict.__init__»;refine aa ?_;unfold Builtin.Dict.selfAndRest;refine aa (wpAny_notOrdered_dict mF.typeIs ?_);show wpAny _ _ (pure (s.heap.objs.size,[Value.ref l])) _ _ _;refine ak ?_;show wpAny _ _ (Builtin.Dict.updateFrom "dict.__init__" s.heap.objs.size (.ref l) [] .none) _ _ _;unfold Builtin.Dict.updateFrom;refine aa (dG vU ?_);rw[aI (by decide)];refine aa (Yq (by simp[hh]) pZ hc hn hd λh1 uP k1 k2=>?_);rw[aI (by rfl)];refine aa (cX ?_);have mE:h1.get? l=some o:=k1 _ _ pZ;have nP:h1.IsList l items:=⟨o,mE,hc,nn,hd⟩
 have dO:l<h1.objs.size:=ax mE;have xW:l≠h1.objs.size:=aE dO;refine aa (fW (s:={ s with heap:=h1,toks:=uP }) nP ?_);refine ak ⟨gJ N6 _,?_⟩;have la:l<s.heap.objs.size:=ax ho;obtain⟨oa,_,_,NH,_⟩:=id mF;have oC:s.heap.objs.size<h1.objs.size:=ax (k1 _ _ NH);have tl:∀j,j<ks.length->tp j<s.heap.objs.size:=λj hj=>by
  obtain⟨_,o',e,_⟩:=ht j hj;exact ax e
 refine aN1 (A:=A.in1) (a:=s.heap.objs.size) (ks:=ks) (tp:=tp) (zV (A:=A.in1.in1) (by simp[hh]) h1.objs.size l xW items).toS (λz=>?_) hsz hit (λj hj z=>?_) (by omega) nd items.size 0 _ (by omega) ⟨⟨_,aD _ rfl,rfl,rfl⟩,nP.push _⟩ (λj hj=>?_) ?_ λs' m lJ=>?_
 ·simp only[List.mem_cons,List.not_mem_nil,or_false] at z;rcases z with z|z
  ·exact aE oC z
  ·exact bQ la z
 ·have:=tl j (by omega);simp only[List.mem_cons,List.not_mem_nil,or_false] at z;rcases z with z|z
  ·exact aE this z
  ·exact aE (cL this oC) z
 ·obtain⟨tk,o',e,r⟩:=ht j (by omega);exact⟨tk,o',ag _ (k1 _ _ (ag _ e)),r⟩
 ·obtain⟨o',es,ep,e,r⟩:=mF;exact⟨o',es,ep,ag _ (k1 _ _ e),r⟩
 ·have eS:s'={ s with heap:=s'.heap,toks:=s'.toks }:=by
   obtain⟨gL,g',d',kA,rn⟩:=s';have m1:g'=s.gens:=m.gens;have m2:d'=s.drawn:=m.drawn;have m3:rn=s.os:=m.os;subst m1;subst m2;subst m3
   rfl
  rw[eS];refine⟨rfl,h _ _ lJ (λb o' e=>?_) (aF k2 m.toks)⟩;have lb:=ax e;refine m.heap b o' (λz=>?_) (ag _ (k1 _ _ (ag _ e)));simp only[List.mem_cons,List.not_mem_nil,or_false] at z;rcases z with z|z
  ·exact aE lb z
  ·exact aE (cL lb oC) z
end
end ST
namespace L2
open PySem PyProof.Rows
section
variable{X:Cx}
theorem Le:∀ks:List Int,KV (ks.map λk=>((.inl k:Key),V.bl true)) (ST.J5 ks)
 |[]=>.nil
 |_::ks=>.cons ⟨rfl,rfl⟩ (Le ks)
theorem Yu(hc:X.calm=true):n6 X (.type "dict") (λxs H Q=>∃a,∃(ts:List Addr) (ks:List Int),xs=[.ref a]/\gA X.K H a (ts.map V.ref)/\ts.length=ks.length/\(∀(i:Nat) t k,ts[i]?=some t->ks[i]?=some k->iW X.K H t [.int k,.bl true])/\ks.length<=10000/\ks.Nodup/\∀p,H p=none->Q (.ref p) (upd H p (.dK (ks.map λk=>(.inl k,.bl true))))):=by
 intro pins s σ H xs us Q I r h;obtain⟨a,ts,ks,rfl,hq,hl,ht,hz,nd,q⟩:=h;obtain⟨u,rfl,ru⟩:=vals1 r;cases ru;obtain⟨ba,rv,⟨o,n,ho,jX,NV,hd⟩,_⟩:=I.list hq;have hlen:ba.length=ts.length:=by rw[<- rv.length];simp
 refine ST.ZO (tp:=λi=>ts.getD i 0) (ks:=ks) (I.ok.hd hc) ho jX NV hd (by rw[aJ];omega) (λi v hv=>?_) (λj hj=>?_) hz nd λh' tk hS hk vD=>?_
 ·rw[List.getElem?_toArray] at hv;have hi:i<ts.length:=by rw[<- hlen];exact(aw.mp hv).1
  obtain⟨u,hu,ru⟩:=rv.get (i:=i) (x:=V.ref ts[i]) (by rw[au,ao hi];rfl);rw[hv] at hu;cases hu;rw[show ts.getD i 0=ts[i] by simp[List.getD,hi]];exact ru
 ·have tL:j<ts.length:=by omega
  obtain⟨nH,MM,p2,_⟩:=I.tuple (ht j ts[j] ks[j] (ao tL) (ao hj));cases MM with
  |cons r1 r2 =>
  cases r2 with
  |cons r2 r3 =>
  cases r3;obtain⟨tk,rfl⟩:=r1;cases r2;rw[show ts.getD j 0=ts[j] by simp[List.getD,tL],show ks.getD j 0=ks[j] by simp[List.getD,hj]];exact⟨tk,p2⟩
 ·exact⟨.ref _,_,I.laid (a:=s.heap.objs.size) (t':=tk) hk (av _) (yW (by rw[aj];exact aF hz (by decide)) (cO.mpr (cc (aE I.big))) (Le ks) hS),rfl,q _ (I.cb.fresh (av _))⟩
end
end L2
namespace M
open PySem L2
set_option genInjectivity true in
inductive D where
 |cj|bl (b:Bool)|int (i:Int)|str (x:Str)|ty (n:String)|ref (i:Nat)|tup (l:List D)
set_option genInjectivity true in
inductive O where
 |lst (l:List D)|oY (l:List D)
 |dg (kvs:List (Key×D))
 |ins (c:Str) (fs:List (Str×D))
 |set (S:Int->Bool) (n:Nat)
def O.mut:O->Bool
 |.oY _=>false
 |_=>true
def W0:D->Option Key
 |.int i=>some (.inl i)
 |.str x=>some (.inr x)
 |_=>none
def u4(kvs:List (Key×D))(k:Key):Option D:=(kvs.find? λkv=>decide (kv.1=k)).map (·.2)
def putD(kvs:List (Key×D))(k:Key)(v:D):List (Key×D) :=
 if(kvs.any λkv=>decide (kv.1=k))=true then kvs.map (λkv=>if kv.1=k then(kv.1,v) else kv) else kvs++[(k,v)]
def n8(f:Str)(v:D):List (Str×D)->List (Str×D)
 |[]=>[(f,v)]
 |(g,x)::r=>if g=f then(g,v)::r else(g,x)::n8 f v r
def O1:List D->Str->Option D
 |.tup [.str y,v]::r,x=>if x=y then some v else O1 r x
 |_::_,_=>none
 |[],_=>none
def U5:List D->Option Str
 |[]=>some Str.empty
 |.str x::r=>(U5 r).map λy=>x++y
 |_=>none
structure Xn where
 cls:Str
noncomputable abbrev G:=List O
noncomputable abbrev S:=List (Option D)
noncomputable abbrev KD:=D->G->Prop
noncomputable abbrev KX:=Xn->G->Prop
noncomputable abbrev jZ:KX:=λ_ _=>False
def Et:Option O->Option (List D)
 |some (.lst l)=>some l
 |some (.oY l)=>some l
 |_=>none
noncomputable abbrev d5(g:G)(a:Nat):Option (List D):=Et g[a]?
def rd(g:G):Nat->D->Option PyData
 |_,.cj=>some .none
 |_,.bl b=>some (.bool b)
 |_,.int i=>some (.int i)
 |_,.str x=>some (.str x)
 |_,.ty _=>none
 |0,.ref _=>none
 |0,.tup _=>none
 |n+1,.ref a=>match d5 g a with
  |some l=>(l.mapM (rd g n)).map .list
  |none=>none
 |n+1,.tup l=>(l.mapM (rd g n)).map .tuple
def MN(g:G)(l:List D):Option (List PyData):=l.mapM (rd g 6)
def O8(g:G):D->Option (List D)
 |.tup l=>some l
 |.ref a=>d5 g a
 |_=>none
def O2:D->Bool
 |.cj=>true
 |_=>false
def cut{α:Type}(xs:List α)(lo hi:Option Int):List α:=(xs.drop (HT.dX xs.length 0 lo)).take (HT.dX xs.length xs.length hi-HT.dX xs.length 0 lo)
def EL(g:G)(x:D)(c:String):Option Bool:=match x with
 |.cj=>some (c=="NoneType")
 |.bl _=>some (c=="bool"||c=="int")
 |.int _=>some (c=="int")
 |.str _=>some (c=="str")
 |.tup _=>some (c=="tuple")
 |.ref a=>match g[a]? with
  |some (.lst _)=>some (c=="list")
  |_=>none
 |.ty _=>none
def l9(lo:Int)(n:Nat):List D:=(List.range n).map λ(k:Nat)=>.int (lo+k)
def V1:List D->Option Bool
 |[]=>some true
 |.bl b::r=>(V1 r).map λc=>b&&c
 |_=>none
inductive Pr where
 |bin (op:Operator)|un (op:UnaryOp)|cmp (op:CmpOp)
 |ix|ot (lo hi:Bool)|rev|tup|lst|W6
 |len|list|tuple|isin|all|max|min|int|str|jU|kR|sset|MG|kU
 |Hg|wj|nY|fv|mK|fld (f:Str)
 |append|pop|get|index|join|iadd|clear|Au|extend|any|kJ|sum|qv|AH|kL|kK (i:Int)
noncomputable abbrev DR:=List D->G->D->G->Prop
def Yn:Operator->Int->Int->Int->Prop
 |.Add,i,j,r=>r=i+j
 |.Sub,i,j,r=>r=i-j
 |.Mult,i,j,r=>sI i j/\r=i*j
 |.FloorDiv,i,j,r=>EC i j/\r=i / j
 |.Mod,i,j,r=>0<j/\r=i % j
 |.Pow,i,j,r=>pC i j/\r=i ^ j.toNat
 |.LShift,i,j,r=>pC i j/\r=i*2 ^ j.toNat
 |.BitAnd,i,j,r=>r=Builtin.bitAnd i j
 |.BitOr,i,j,r=>r=Builtin.bitOr i j
 |_,_,_,_=>False
def Vc(op:Operator):DR:=λxs g d g' =>
 (∃i j r,xs=[.int i,.int j]/\Yn op i j r/\d=.int r/\g'=g) \/
 (op=.Add/\((∃ l m,xs=[.tup l,.tup m]/\l.length + m.length <= 100000/\d=.tup (l ++ m)/\g'=g) \/
  (∃a b l m,xs=[.ref a,.ref b]/\g[a]?=some (.lst l)/\g[b]?=some (.lst m)/\l.length+m.length<=100000/\d=.ref g.length/\g'=g++[.lst (l++m)]) \/
  (∃ x y,xs=[.str x,.str y]/\x.length + y.length <= 100000/\d=.str (x ++ y)/\g'=g))) \/
 (op=.Mult/\((∃ a l n,xs=[.ref a,.int n]/\g[a]?=some (.lst l)/\-(2 ^ 62) <= n/\n < 2 ^ 62/\l.length * n.toNat <= 100000/\d=.ref g.length/\g'=g ++ [.lst (List.replicate n.toNat l).flatten]) \/
  (∃ l n,xs=[.tup l,.int n]/\l ≠ []/\1 <= n/\n < 2 ^ 62/\l.length * n.toNat <= 100000/\d=.tup (List.replicate n.toNat l).flatten/\g'=g)))
def Mx(op:UnaryOp):DR:=λxs g d g'=>op=.USub/\∃i,xs=[.int i]/\d=.int (-i)/\g'=g
def wq(g:G)(x y:D)(b:Bool):Prop :=
 (∃i j,x=.int i/\y=.int j/\b=decide (i=j))\/(∃i j,x=.bl i/\y=.bl j/\b=(i==j))\/(∃i j,x=.str i/\y=.str j/\b=decide (i=j)) \/
 ∃p q,rd g 6 x=some p/\rd g 6 y=some q/\p.canLay0=true/\q.canLay0=true/\b=PyData.eqv p q
def inR(g:G)(x y:D)(b:Bool):Prop :=
 (∃a kvs c,y=.ref a/\g[a]?=some (.dg kvs)/\W0 x=some c/\b=(u4 kvs c).isSome) \/
 ∃l ps p,O8 g y=some l/\MN g l=some ps/\rd g 6 x=some p/\PyData.canLayAll0 ps=true/\p.canLay0=true/\b=(ps.any λq=>PyData.eqv q p)
def HZ(g:G)(x y:D)(b:Bool):Prop:=∃a S n i,y=.ref a/\g[a]?=some (.set S n)/\x=.int i/\b=S i
def HL(g:G)(x y:D)(b:Bool):CmpOp->Prop
 |.Eq=>wq g x y b
 |.NotEq=>wq g x y (!b)
 |.In=>inR g x y b\/HZ g x y b
 |.NotIn=>inR g x y (!b)\/HZ g x y (!b)
 |.Lt=>∃i j,x=.int i/\y=.int j/\b=decide (i<j)
 |.LtE=>∃i j,x=.int i/\y=.int j/\b=decide (i<=j)
 |.Gt=>∃i j,x=.int i/\y=.int j/\b=decide (j<i)
 |.GtE=>∃i j,x=.int i/\y=.int j/\b=decide (j<=i)
 |.Is=>y=.cj/\b=O2 x
 |.IsNot=>y=.cj/\b=!O2 x
def Vh(op:CmpOp):DR:=λxs g d g'=>∃x y b,xs=[x,y]/\HL g x y b op/\d=.bl b/\g'=g
def Ic(g:G)(x:D)(b:Bool):Prop :=
 (x=.cj/\b=false)\/x=.bl b\/(∃i,x=.int i/\b=(i != 0))\/(∃l,x=.tup l/\b=!l.isEmpty)\/∃a l,x=.ref a/\d5 g a=some l/\b=!l.isEmpty
def Nj:DR:=λxs g d g'=>g'=g/\((∃x l i,xs=[x,.int i]/\O8 g x=some l/\gI l i=some d)\/(∃a kvs y c,xs=[.ref a,y]/\g[a]?=some (.dg kvs)/\W0 y=some c/\u4 kvs c=some d) \/
 ∃ x i c,xs=[.str x,.int i]/\x.length <= 100000/\gI x.cps.toList i=some c/\d=.str ⟨#[c]⟩)
def uW(x:D)(lo hi:Option Int)(g:G)(d:D)(g':G):Prop:=(∃l,x=.tup l/\d=.tup (cut l lo hi)/\g'=g)\/∃a l,x=.ref a/\d5 g a=some l/\d=.ref g.length/\g'=g++[.lst (cut l lo hi)]
def VX:Bool->Bool->DR
 |false,false,xs,g,d,g'=>∃x,xs=[x]/\uW x none none g d g'
 |true,false,xs,g,d,g'=>∃x i,xs=[x,.int i]/\uW x (some i) none g d g'
 |false,true,xs,g,d,g'=>∃x j,xs=[x,.int j]/\uW x none (some j) g d g'
 |true,true,xs,g,d,g'=>∃x i j,xs=[x,.int i,.int j]/\uW x (some i) (some j) g d g'
def VR:DR:=λxs g d g'=>(∃l,xs=[.tup l]/\d=.tup l.reverse/\g'=g)\/∃a l,xs=[.ref a]/\d5 g a=some l/\d=.ref g.length/\g'=g++[.lst l.reverse]
def Wr:DR:=λxs g d g'=>xs.length<=1000/\d=.tup xs/\g'=g
def Vw:DR:=λxs g d g'=>xs.length<=1000/\d=.ref g.length/\g'=g++[.lst xs]
def xb:List D->List (Key×D)->Option (List (Key×D))
 |[],kvs=>some kvs
 |k::v::r,kvs=>(W0 k).bind λc=>xb r (putD kvs c v)
 |_,_=>none
def WJ:DR:=λxs g d g'=>xs=[]/\d=.ref g.length/\g'=g++[.dg []]
def Vv:DR:=λxs g d g'=>g'=g/\((∃x l,xs=[x]/\O8 g x=some l/\d=.int l.length)\/(∃a kvs,xs=[.ref a]/\g[a]?=some (.dg kvs)/\d=.int kvs.length)\/∃x,xs=[.str x]/\x.length<=100000/\d=.int x.length)
def kD:Key->D
 |.inl i=>.int i
 |.inr x=>.str x
def Xa:DR:=λxs g d g'=>(∃x l,xs=[x]/\O8 g x=some l/\d=.ref g.length/\g'=g++[.lst l])\/∃a kvs,xs=[.ref a]/\g[a]?=some (.dg kvs)/\kvs.length<=10000/\d=.ref g.length/\g'=g++[.lst ((kvs.map (·.1)).map kD)]
def SF:DR:=λxs g d g'=>∃x l,xs=[x]/\O8 g x=some l/\d=.tup l/\g'=g
def WT:DR:=λxs g d g'=>∃x c b,xs=[x,.ty c]/\c∈["int","bool","str","tuple","list"]/\EL g x c=some b/\d=.bl b/\g'=g
def allR:DR:=λxs g d g'=>∃a l b,xs=[.ref a]/\d5 g a=some l/\(V1 l=some b\/∃ns:List Int,l=ns.map .int/\b=ns.all λn=>n != 0)/\d=.bl b/\g'=g
def Ii:List D->Option Bool
 |[]=>some false
 |.bl b::r=>(Ii r).map λc=>b||c
 |_=>none
def anyR:DR:=λxs g d g'=>∃a l b,xs=[.ref a]/\d5 g a=some l/\Ii l=some b/\d=.bl b/\g'=g
def Sd:DR:=λxs g d g'=>False\/∃x,∃ns:List Int,xs=[x]/\O8 g x=some (ns.map .int)/\ns.length<=10000/\d=.ref g.length/\g'=g++[.lst ((J7 ns).map .int)]
def Vx:DR:=λxs g d g'=>g'=g/\((∃i j,xs=[.int i,.int j]/\d=.int (if j>i then j else i))\/∃a,∃(ns:List Int) (M:Int),xs=[.ref a]/\d5 g a=some (ns.map .int)/\M∈ns/\(∀x∈ns,x<=M)/\d=.int M)
def Vy:DR:=λxs g d g'=>g'=g/\((∃i j,xs=[.int i,.int j]/\d=.int (if j<i then j else i))\/∃a,∃(ns:List Int) (M:Int),xs=[.ref a]/\d5 g a=some (ns.map .int)/\M∈ns/\(∀x∈ns,M<=x)/\d=.int M)
def XH:DR:=λxs g d g'=>∃a i S n,xs=[.ref a,.int i]/\g[a]?=some (.set S n)/\n+1<4096/\d=.cj/\g'=g.set a (.set (λk=>S k||decide (k=i)) (if S i then n else n+1))
def RK(i:Int):DR:=λxs g d g'=>xs=[]/\d=.ref g.length/\g'=g++[.set (λk=>decide (k=i)) 1]
def VZ:DR:=λxs g d g'=>∃a,∃ns:List Int,xs=[.ref a]/\d5 g a=some (ns.map .int)/\d=.int ns.sum/\g'=g
def Xb:DR:=λxs g d g'=>∃a,∃ns:List Int,xs=[.ref a]/\d5 g a=some (ns.map .int)/\ns.length<60/\d=.int (ST.j5 [] ns).length/\g'=g
def WU:DR:=λxs g d g'=>∃i j,xs=[.int i,.int j]/\d=.int (i-j)/\g'=g
def Vs:DR:=λxs g d g'=>g'=g/\((∃i,xs=[.int i]/\d=.int i)\/∃b,xs=[.bl b]/\d=.int (if b then 1 else 0))
def VY:DR:=λxs g d g'=>(∃i,xs=[.int i]/\i.natAbs.log2<1920/\d=.str (toString i)/\g'=g)\/∃x,xs=[.str x]/\d=.str x/\g'=g
def QF:DR:=λxs g d g'=>∃j,xs=[.int j]/\-(2 ^ 62)<=j/\j<=100000/\d=.ref g.length/\g'=g++[.lst (l9 0 j.toNat)]
def QG:DR:=λxs g d g'=>∃i j,xs=[.int i,.int j]/\(-(2 ^ 62)<=i/\i<2 ^ 62/\-(2 ^ 62)<=j/\j<2 ^ 62/\j-i<=100000)/\d=.ref g.length/\g'=g++[.lst (l9 i (j-i).toNat)]
def XO:DR:=λxs g d g'=>∃a ns,xs=[.ref a]/\d5 g a=some (ns.map .int)/\ns.length<600/\d=.ref g.length/\g'=g++[.lst ((p8 ns).map .int)]
def V':DR:=λxs g d g'=>∃ns ms:List Int,xs=[.tup (ns.map .int),.tup (ms.map .int)]/\(∀k∈ns,ST.Spot k)/\(∀k∈ms,ST.Spot k)/\ns.length+ms.length<50/\d=.ref g.length/\g'=g++[.lst ((p8 (ns++ms)).map .int)]
def EK(neg:Bool):DR:=λxs g d g'=>∃kvs x,xs=[.tup kvs,.str x]/\d=.bl (xor neg (O1 kvs x).isSome)/\g'=g
def WN:DR:=λxs g d g'=>∃kvs x,xs=[.tup kvs,.str x]/\O1 kvs x=some d/\g'=g
def Pa:DR:=λxs g d g'=>g'=g/\((∃i,xs=[.int i]/\i.natAbs.log2<1920/\d=.str (toString i))\/∃x,xs=[.str x]/\x.length<=2000/\d=.str x)
def WM:DR:=λxs g d g'=>∃x,U5 xs=some x/\d=.str x/\g'=g
def Vm(f:Str):DR:=λxs g d g'=>∃a c fs,xs=[.ref a]/\g[a]?=some (.ins c fs)/\fs.lookup f=some d/\g'=g
def appendR:DR:=λxs g d g'=>∃a y l,xs=[.ref a,y]/\g[a]?=some (.lst l)/\l.length<100000/\d=.cj/\g'=g.set a (.lst (l++[y]))
def VG:DR:=λxs g d g'=>∃a i l k,xs=[.ref a,.int i]/\g[a]?=some (.lst l)/\-(2 ^ 63)<=i/\i<2 ^ 63/\seqIndex? i l.length=some k/\l[k]?=some d/\g'=g.set a (.lst (l.eraseIdx k))
def Vp:DR:=λxs g d g'=>∃a y z kvs c,xs=[.ref a,y,z]/\g[a]?=some (.dg kvs)/\W0 y=some c/\d=(u4 kvs c).getD z/\g'=g
def Ip:D->Bool
 |.cj=>true
 |.bl _=>true
 |.int _=>true
 |.str _=>true
 |_=>false
def toV:D->V
 |.bl b=>.bl b
 |.int i=>.int i
 |.str x=>.str x
 |_=>.cj
def Qg(l:List D)(y:D)(n:Nat):Prop:=l.all Ip=true/\Ip y=true/\(∃z,l[n]?=some z/\Hq (toV z) (toV y)=true)/\∀(m:Nat) z,m<n->l[m]?=some z->Hq (toV z) (toV y)=false
def Qt:DR:=λxs g d g'=>∃x y l n,xs=[x,y]/\O8 g x=some l/\Qg l y n/\l.length<=100000/\d=.int n/\g'=g
def joinR:DR:=λxs g d g'=>∃sep a ys,xs=[.str sep,.ref a]/\d5 g a=some (ys.map .str)/\Th sep ys<=100000/\d=.str (Builtin.Str.glued sep ys)/\g'=g
def WR:DR:=λxs g d g'=>(∃i j,xs=[.int i,.int j]/\d=.int (i+j)/\g'=g)\/∃l m,xs=[.tup l,.tup m]/\l.length+m.length<=100000/\d=.tup (l++m)/\g'=g
def Ql:DR:=λxs g d g'=>∃a l,xs=[.ref a]/\g[a]?=some (.lst l)/\d=.cj/\g'=g.set a (.lst [])
def Xy:DR:=λxs g d g'=>∃a l,xs=[.ref a]/\g[a]?=some (.lst (l++[d]))/\g'=g.set a (.lst l)
def SY:DR:=λxs g d g'=>∃a b l m,xs=[.ref a,.ref b]/\g[a]?=some (.lst l)/\g[b]?=some (.lst m)/\l.length+m.length<=100000/\d=.cj/\g'=g.set a (.lst (l++m))
def Qo:DR:=λxs g d g'=>(∃a kvs,xs=[.ref a]/\g[a]?=some (.dg kvs)/\d=.ref g.length/\g'=g++[.dg kvs])\/∃a,∃ks:List Int,xs=[.ref a]/\d5 g a=some (ks.map λk=>.tup [.int k,.bl true])/\ks.length<=1000/\ks.Nodup/\d=.ref g.length/\g'=g++[.dg (ks.map λk=>(.inl k,.bl true))]
def PR:Pr->DR
 |.clear=>Ql
 |.any=>anyR
 |.sum=>VZ
 |.kL=>XH
 |.kK i=>RK i
 |.qv=>Xb
 |.AH=>WU
 |.kJ=>Sd
 |.extend=>SY
 |.Au=>Xy
 |.kU=>Qo
 |.bin op=>Vc op
 |.un op=>Mx op
 |.cmp op=>Vh op
 |.ix=>Nj
 |.ot a b=>VX a b
 |.rev=>VR
 |.tup=>Wr
 |.lst=>Vw
 |.W6=>WJ
 |.len=>Vv
 |.list=>Xa
 |.tuple=>SF
 |.isin=>WT
 |.all=>allR
 |.max=>Vx
 |.min=>Vy
 |.int=>Vs
 |.str=>VY
 |.jU=>QF
 |.kR=>QG
 |.sset=>XO
 |.MG=>V'
 |.Hg=>EK false
 |.wj=>EK true
 |.nY=>WN
 |.fv=>Pa
 |.mK=>WM
 |.fld f=>Vm f
 |.append=>appendR
 |.pop=>VG
 |.get=>Vp
 |.index=>Qt
 |.join=>joinR
 |.iadd=>WR
def da(p:Pr)(xs:List D)(g:G)(Q:KD):Prop:=∃d g',PR p xs g d g'/\Q d g'
def sC(g:G)(x y:D)(k:Bool->Prop):Prop:=∃b,wq g x y b/\k b
def rC(g:G)(x y:D)(k:Bool->Prop):Prop:=∃b,inR g x y b/\k b
def qx(g:G)(x:D)(k:Bool->Prop):Prop:=∃b,Ic g x b/\k b
def VU(x y v:D)(g g':G):Prop:=(∃a i l j,x=.ref a/\y=.int i/\g[a]?=some (.lst l)/\lD l.length i=some j/\g'=g.set a (.lst (l.set j v))) \/
 ∃a kvs c,x=.ref a/\g[a]?=some (.dg kvs)/\W0 y=some c/\kvs.length<100000/\g'=g.set a (.dg (putD kvs c v))
def Z8(x y v:D)(g:G)(k:G->Prop):Prop:=∃g',VU x y v g g'/\k g'
def IF(f:Str)(cs:List Str)(x v:D)(g g':G):Prop:=∃a c fs,x=.ref a/\g[a]?=some (.ins c fs)/\c∈cs/\fs.length<100/\g'=g.set a (.ins c (n8 f v fs))
def wQ(f:Str)(cs:List Str)(x v:D)(g:G)(k:G->Prop):Prop:=∃g',IF f cs x v g g'/\k g'
def mY:Pr->D->G->Prop
 |.get,x,g=>∃a kvs,x=.ref a/\g[a]?=some (.dg kvs)
 |.join,x,g=>∃y,x=.str y
 |.kL,x,g=>∃a S n,x=.ref a/\g[a]?=some (.set S n)
 |.index,x,g=>(∃l,x=.tup l)\/∃a l,x=.ref a/\d5 g a=some l
 |_,x,g=>∃a l,x=.ref a/\d5 g a=some l
inductive IK where
 |fix (l:List D)|lst (a:Nat)|pz (a:Nat)|FH (a n:Nat)
def IK.at:IK->Nat->G->Option (Option D)
 |.fix l,i,_=>some l[i]?
 |.lst a,i,g=>match d5 g a with
  |some l=>some l[i]?
  |none=>none
 |.pz a,i,g=>match d5 g a with
  |some l=>some (l[i]?.map λd=>.tup [.int i,d])
  |none=>none
 |.FH a n,i,g=>match d5 g a with
  |some l=>if l.length=n then some (if i<n then l[n-1-i]? else none) else none
  |none=>none
inductive MT where
 |one (i:Nat)|many (is:List Nat)
def E0:List Nat->List D->S->Option S
 |[],[],σ=>some σ
 |i::is,d::ds,σ=>E0 is ds (σ.set i (some d))
 |_,_,_=>none
def kj(t:MT)(x:D)(σ:S)(k:S->Prop):Prop:=match t with
 |.one i=>k (σ.set i (some x))
 |.many is=>∃l cI,x=.tup l/\E0 is l σ=some cI/\k cI
set_option genInjectivity false in
set_option genSizeOf false in
inductive ME where
 |var (i:Nat)|lit (d:D)
 |nil|cons (a b:ME)|prim (p:Pr) (es:ME)|fg (p:Pr) (o es:ME)|qp (es:ME)
 |chain (o1 o2:CmpOp) (a b c:ME)
 |eI (a b:ME)|jT (a b:ME)|eU (a:ME)|ite (c a b:ME)
 |call (f:Nat) (es:ME)|make (c:Str) (f:Nat) (es:ME)|kP (m:Str) (cs:List (Str×Nat)) (o es:ME)
 |comp (d6:List Nat) (n:Nat) (tg:MT) (it cond elt:ME)|iz (d6:List Nat) (n:Nat) (tg:MT) (it cond elt:ME)|kM (d6:List Nat) (n:Nat) (tg:MT) (it cond elt:ME)
 |fu (e:ME)|eV (a:ME)|kS (a b:ME)|lE (e:ME)|tG (e:ME)|gi (e:ME)|no
noncomputable abbrev gh:=Nat->List D->G->KD->KX->Prop
def I9(σ:S)(d6:List Nat)(n:Nat):S:=d6.map (λj=>(σ[j]?).join)++List.replicate (n-d6.length) none
def turns(k:IK)(σ:S)(g:G)(fin:S->G->Prop)(turn:D->(S->G->Prop)->S->G->Prop):Prop :=
 ∃W:Nat->Nat->S->G->Prop,(∃m,W 0 m σ g)/\∀i m σ g,W i m σ g->(k.at i g=some none/\fin σ g)\/∃x,k.at i g=some (some x)/\∃N2:S->G->Prop,(∀cI g',N2 cI g'->∃m',m'<m/\W (i+1) m' cI g')/\turn x N2 σ g
def zf(k:IK)(σ:S)(g:G)(fin:List D->G->Prop)(turn:D->(Option D->S->G->Prop)->S->G->Prop):Prop :=
 ∃W:Nat->Nat->List D->S->G->Prop,(∃m,W 0 m [] σ g)/\∀i m ys σ g,W i m ys σ g->(k.at i g=some none/\fin ys g) \/
  ∃x,k.at i g=some (some x)/\ys.length<100000/\turn x (λy cI g'=>∃m',m'<m/\W (i+1) m' (ys++y.toList) cI g') σ g
def Cs(k:IK)(σ:S)(g:G)(fin:List Int->G->Prop)(turn:D->(Option Int->S->G->Prop)->S->G->Prop):Prop :=
 ∃W:Nat->Nat->List Int->S->G->Prop,(∃m,W 0 m [] σ g)/\∀i m ys σ g,W i m ys σ g->(k.at i g=some none/\ys.length<60/\fin ys g) \/
  ∃x,k.at i g=some (some x)/\ys.length<60/\turn x (λy cI g'=>∃m',m'<m/\W (i+1) m' (ys++y.toList) cI g') σ g
mutual
noncomputable def bh(P:gh):ME->S->G->KD->KX->Prop
 |.var i,σ,g,Q,_=>∃d,σ[i]?=some (some d)/\Q d g
 |.lit d,_,g,Q,_=>Q d g
 |.prim p es,σ,g,Q,E=>gB P es σ g (λxs g1=>da p xs g1 Q) E
 |.fg p o es,σ,g,Q,E=>bh P o σ g (λx g1=>mY p x g1/\gB P es σ g1 (λxs g2=>da p (x::xs) g2 Q) E) E
 |.qp es,σ,g,Q,E=>gB P es σ (g++[.dg []]) (λxs g1=>∃kvs,xb xs []=some kvs/\xs.length<=30/\g1[g.length]?=some (.dg [])/\Q (.ref g.length) (g1.set g.length (.dg kvs))) E
 |.chain o1 o2 a b c,σ,g,Q,E=>bh P a σ g (λx g1=>bh P b σ g1 (λy g2=>da (.cmp o1) [x,y] g2 λz g3=>∃t,z=.bl t/\if t=true then bh P c σ g3 (λw g4=>da (.cmp o2) [y,w] g4 Q) E else Q (.bl false) g3) E) E
 |.eI a b,σ,g,Q,E=>bh P a σ g (λx g1=>∃t,x=.bl t/\if t=true then bh P b σ g1 Q E else Q (.bl false) g1) E
 |.jT a b,σ,g,Q,E=>bh P a σ g (λx g1=>∃t,x=.bl t/\if t=true then Q (.bl true) g1 else bh P b σ g1 Q E) E
 |.eU a,σ,g,Q,E=>bh P a σ g (λx g1=>∃t,x=.bl t/\Q (.bl (!t)) g1) E
 |.ite c a b,σ,g,Q,E=>dC P c σ g (λt g1=>if t=true then bh P a σ g1 Q E else bh P b σ g1 Q E) E
 |.call f es,σ,g,Q,E=>gB P es σ g (λxs g1=>P f xs g1 Q E) E
 |.make c f es,σ,g,Q,E=>gB P es σ g (λxs g1=>P f (.ref g1.length::xs) (g1++[.ins c []]) (λd g2=>d=.cj/\Q (.ref g1.length) g2) E) E
 |.kP m cs o es,σ,g,Q,E=>bh P o σ g (λx g1=>∃a c fs f,x=.ref a/\g1[a]?=some (.ins c fs)/\fs.lookup m=none/\cs.lookup c=some f/\gB P es σ g1 (λxs g2=>P f (x::xs) g2 Q E) E) E
 |.comp d6 n tg it cond elt,σ,g,Q,E=>iJ P it σ g (λk g1=>zf k (I9 σ d6 n) g1 (λys g=>Q (.ref g.length) (g++[.lst ys])) λx N σ g=>kj tg x σ λcV=>dC P cond cV g (λb g3=>if b=true then bh P elt cV g3 (λy g4=>N (some y) cV g4) jZ else N none cV g3) jZ) E
 |.kM d6 n tg it cond elt,σ,g,Q,E=>iJ P it σ g (λk g1=>zf k (I9 σ d6 n) g1 (λys g=>Q (.ref g.length) (g++[.lst ys])) λx N σ g=>kj tg x σ λcV=>dC P cond cV g (λb g3=>if b=true then bh P elt cV g3 (λy g4=>N (some y) cV g4) E else N none cV g3) jZ) E
 |.iz d6 n tg it cond elt,σ,g,Q,E=>iJ P it σ g (λk g1=>Cs k (I9 σ d6 n) g1 (λys g=>Q (.ref g.length) (g++[.lst ((p8 ys).map .int)])) λx N σ g=>kj tg x σ λcV=>dC P cond cV g (λb g3=>if b=true then bh P elt cV g3 (λy g4=>∃j,y=.int j/\N (some j) cV g4) jZ else N none cV g3) jZ) E
 |.nil,_,_,_,_=>False
 |.cons _ _,_,_,_,_=>False
 |.fu _,_,_,_,_=>False
 |.eV _,_,_,_,_=>False
 |.kS _ _,_,_,_,_=>False
 |.lE _,_,_,_,_=>False
 |.tG _,_,_,_,_=>False
 |.gi _,_,_,_,_=>False
 |.no,_,_,_,_=>False
noncomputable def gB(P:gh):ME->S->G->(List D->G->Prop)->KX->Prop
 |.nil,_,g,Q,_=>Q [] g
 |.cons a b,σ,g,Q,E=>bh P a σ g (λx g1=>gB P b σ g1 (λxs g2=>Q (x::xs) g2) E) E
 |_,_,_,_,_=>False
noncomputable def dC(P:gh):ME->S->G->(Bool->G->Prop)->KX->Prop
 |.eI a b,σ,g,Q,E=>dC P a σ g (λt g1=>if t=true then dC P b σ g1 Q E else Q false g1) E
 |.jT a b,σ,g,Q,E=>dC P a σ g (λt g1=>if t=true then Q true g1 else dC P b σ g1 Q E) E
 |.eU a,σ,g,Q,E=>dC P a σ g (λt g1=>Q (!t) g1) E
 |.no,_,g,Q,_=>Q true g
 |.gi e,σ,g,Q,E=>bh P e σ g (λx g1=>qx g1 x λb=>Q b g1) E
 |_,_,_,_,_=>False
noncomputable def iJ(P:gh):ME->S->G->(IK->G->Prop)->KX->Prop
 |.fu e,σ,g,R,E=>bh P e σ g (λx g1=>(∃l,x=.tup l/\R (.fix l) g1)\/∃a l,x=.ref a/\d5 g1 a=some l/\R (.lst a) g1) E
 |.eV a,σ,g,R,E=>bh P a σ g (λx g1=>∃j:Int,x=.int j/\-(2 ^ 62)<=j/\j<2 ^ 62/\R (.fix (l9 0 j.toNat)) g1) E
 |.kS a b,σ,g,R,E=>bh P a σ g (λx g1=>bh P b σ g1 (λy g2=>∃i j:Int,x=.int i/\y=.int j/\(-(2 ^ 62)<=i/\i<2 ^ 62/\-(2 ^ 62)<=j/\j<2 ^ 62)/\R (.fix (l9 i (j-i).toNat)) g2) E) E
 |.lE e,σ,g,R,E=>bh P e σ g (λx g1=>∃a l,x=.ref a/\d5 g1 a=some l/\R (.pz a) g1) E
 |.tG e,σ,g,R,E=>bh P e σ g (λx g1=>∃a l,x=.ref a/\d5 g1 a=some l/\R (.FH a l.length) g1) E
 |_,_,_,_,_=>False
end
set_option genInjectivity false in
set_option genSizeOf false in
inductive MS where
 |pass|seq (a b:MS)|expr (e:ME)|set (i:Nat) (e:ME)|mr (t:MT) (e:ME)|fc (o i v:ME)|iK (f:Str) (cs:List Str) (o v:ME)
 |wI (f:Str) (cs:List Str) (o v:ME)|wH (i:Nat) (p:Pr) (v:ME)|xD (o1 i1 o2 i2 e:ME)
 |ifs (c:ME) (a b:MS)|dP (t:MT) (it:ME) (b:MS)|uN (c:ME) (b:MS)|ret (e:ME)|qW|brk|cont
 |raise (x:Str) (es:ME)|uO (b:MS) (hs:List (Str×ME))
structure Ends where
 nx:S->G->Prop
 rt:KD
 bk:S->G->Prop:=λ_ _=>False
 ct:S->G->Prop:=λ_ _=>False
def uM(P:gh)(N:Ends)(σ:S)(E:KX):List (Str×ME)->KX
 |[],x,g=>E x g
 |(y,e)::r,x,g=>if x.cls=y\/y="MintError" then bh P e σ g N.rt jZ else uM P N σ E r x g
def wpS(P:gh):MS->Ends->S->G->KX->Prop
 |.pass,N,σ,g,_=>N.nx σ g
 |.seq a b,N,σ,g,E=>wpS P a { N with nx:=λki g1=>wpS P b N ki g1 E } σ g E
 |.expr e,N,σ,g,E=>bh P e σ g (λ_ g1=>N.nx σ g1) E
 |.set i e,N,σ,g,E=>bh P e σ g (λx g1=>N.nx (σ.set i (some x)) g1) E
 |.mr t e,N,σ,g,E=>bh P e σ g (λx g1=>kj t x σ λki=>N.nx ki g1) E
 |.fc o i v,N,σ,g,E=>bh P v σ g (λx g1=>bh P o σ g1 (λy g2=>bh P i σ g2 (λz g3=>Z8 y z x g3 λg4=>N.nx σ g4) E) E) E
 |.iK f cs o v,N,σ,g,E=>bh P v σ g (λx g1=>bh P o σ g1 (λy g2=>wQ f cs y x g2 λg3=>N.nx σ g3) E) E
 |.wI f cs o v,N,σ,g,E=>bh P o σ g (λy g1=>∃a c fs x,y=.ref a/\g1[a]?=some (.ins c fs)/\c∈cs/\fs.lookup f=some x/\bh P v σ g1 (λz g3=>da .iadd [x,z] g3 λw g4=>∃sk,g4[a]?=some (.ins c sk)/\sk.length<100/\N.nx σ (g4.set a (.ins c (n8 f w sk)))) E) E
 |.xD o1 i1 o2 i2 e,N,σ,g,E=>bh P e σ g (λx g1=>∃u v,x=.tup [u,v]/\bh P o1 σ g1 (λy1 g2=>bh P i1 σ g2 (λz1 g3=>Z8 y1 z1 u g3 λg4=>bh P o2 σ g4 (λy2 g5=>bh P i2 σ g5 (λz2 g6=>Z8 y2 z2 v g6 λg7=>N.nx σ g7) E) E) E) E) E
 |.wH i p v,N,σ,g,E=>∃x,σ[i]?=some (some x)/\bh P v σ g (λz g1=>da p [x,z] g1 λw g2=>N.nx (σ.set i (some w)) g2) E
 |.ifs c a b,N,σ,g,E=>dC P c σ g (λt g1=>if t=true then wpS P a N σ g1 E else wpS P b N σ g1 E) E
 |.dP t it b,N,σ,g,E=>iJ P it σ g (λk g1=>turns k σ g1 N.nx λx N2 σ g=>kj t x σ λcV=>wpS P b { N with nx:=N2,ct:=N2,bk:=N.nx } cV g E) E
 |.uN c b,N,σ,g,E=>∃W:Nat->S->G->Prop,(∃m,W m σ g)/\∀m σ g,W m σ g->dC P c σ g (λt g1=>if t=true then ∃N2:S->G->Prop,(∀cI g',N2 cI g'->∃m',m'<m/\W m' cI g')/\wpS P b { N with nx:=N2,ct:=N2,bk:=N.nx } σ g1 E else N.nx σ g1) E
 |.ret e,N,σ,g,E=>bh P e σ g N.rt E
 |.qW,N,_,g,_=>N.rt .cj g
 |.brk,N,σ,g,_=>N.bk σ g
 |.cont,N,σ,g,_=>N.ct σ g
 |.raise x es,_,σ,g,E=>gB P es σ g (λvs g1=>vs.length<=1000/\E ⟨x⟩ g1) E
 |.uO b hs,N,σ,g,E=>wpS P b N σ g (uM P N (σ.map λ_=>none) E hs)
structure bo where
 ar:Nat
 n:Nat
 body:MS
def d8(m:bo)(ds:List D):S:=ds.map some++List.replicate (m.n-ds.length) none
def d0(T:Nat->Option bo):Nat->gh
 |0,_,_,_,_,_=>False
 |k+1,f,ds,g,Q,E=>∃m,T f=some m/\ds.length=m.ar/\wpS (d0 T k) m.body ⟨λ_ g'=>Q .cj g',Q,λ_ _=>False,λ_ _=>False⟩ (d8 m ds) g E
end M
namespace M
open PySem L2
variable{g:G}{K:PySem.W.Frag}{H:Hp}{a p:Addr}{vs:List V}{i:Nat}{o:O}{u:HO}{l:List D}
theorem v9{p xs}{Q Q':KD}(h:∀d g,Q d g->Q' d g)(q:da p xs g Q):da p xs g Q':=by
 obtain⟨d,g',a,b⟩:=q;exact⟨d,g',a,h _ _ b⟩
theorem ZE{x}{k k':Bool->Prop}(h:∀b,k b->k' b)(q:qx g x k):qx g x k':=by
 obtain⟨b,a,z⟩:=q;exact⟨b,a,h _ z⟩
theorem U0{x y v}{k k':G->Prop}(h:∀g,k g->k' g)(q:Z8 x y v g k):Z8 x y v g k':=by
 obtain⟨b,a,z⟩:=q;exact⟨b,a,h _ z⟩
theorem aM0{f cs x v}{k k':G->Prop}(h:∀g,k g->k' g)(q:wQ f cs x v g k):wQ f cs x v g k':=by
 obtain⟨b,a,z⟩:=q;exact⟨b,a,h _ z⟩
theorem A6{t x σ}{k k':S->Prop}(h:∀σ,k σ->k' σ)(q:kj t x σ k):kj t x σ k':=by
 cases t with
 |one i=>exact h _ q
 |many is=>obtain⟨l,cI,a,b,c⟩:=q;exact⟨l,cI,a,b,h _ c⟩
theorem aK9{k σ g}{fin kT:S->G->Prop}{turn iS:D->(S->G->Prop)->S->G->Prop}(h:∀σ g,fin σ g->kT σ g)(h2:∀x N σ g,turn x N σ g->iS x N σ g)(q:turns k σ g fin turn):turns k σ g kT iS:=by
 obtain⟨W,w0,q⟩:=q;refine⟨W,w0,λi m σ g w=>?_⟩;rcases q i m σ g w with⟨a,b⟩|⟨x,a,N2,b,c⟩
 ·exact .inl ⟨a,h _ _ b⟩
 ·exact .inr ⟨x,a,N2,b,h2 _ _ _ _ c⟩
theorem JP{k σ g}{fin kT:List D->G->Prop}{turn iS:D->(Option D->S->G->Prop)->S->G->Prop}(h:∀ys g,fin ys g->kT ys g)(h2:∀x N σ g,turn x N σ g->iS x N σ g)(q:zf k σ g fin turn):zf k σ g kT iS:=by
 obtain⟨W,w0,q⟩:=q;refine⟨W,w0,λi m ys σ g w=>?_⟩;rcases q i m ys σ g w with⟨a,b⟩|⟨x,a,b,c⟩
 ·exact .inl ⟨a,h _ _ b⟩
 ·exact .inr ⟨x,a,b,h2 _ _ _ _ c⟩
theorem aF9{k σ g}{fin kT:List Int->G->Prop}{turn iS:D->(Option Int->S->G->Prop)->S->G->Prop}(h:∀ys g,fin ys g->kT ys g)(h2:∀x N σ g,turn x N σ g->iS x N σ g)(q:Cs k σ g fin turn):Cs k σ g kT iS:=by
 obtain⟨W,w0,q⟩:=q;refine⟨W,w0,λi m ys σ g w=>?_⟩;rcases q i m ys σ g w with⟨a,b,c⟩|⟨x,a,b,c⟩
 ·exact .inl ⟨a,b,h _ _ c⟩
 ·exact .inr ⟨x,a,b,h2 _ _ _ _ c⟩
theorem E8{t:Bool}{A B A' B':Prop}(h1:A->A')(h2:B->B')(q:if t=true then A else B):if t=true then A' else B':=by
 cases t
 ·exact h2 q
 ·exact h1 q
def j9(P:gh):Prop:=∀f xs g Q Q' E E',(∀d g,Q d g->Q' d g)->(∀x g,E x g->E' x g)->P f xs g Q E->P f xs g Q' E'
mutual
theorem c7{P:gh}(hP:j9 P):∀(e:ME) (σ:S) (g:G) (Q Q':KD) (E E':KX),(∀d g,Q d g->Q' d g)->(∀x g,E x g->E' x g)->bh P e σ g Q E->bh P e σ g Q' E'
 |.var i,σ,g,Q,Q',E,E',h,hx,q=>by
  obtain⟨d,a,b⟩:=q;exact⟨d,a,h _ _ b⟩
 |.lit d,σ,g,Q,Q',E,E',h,hx,q=>by exact h _ _ q
 |.prim p es,σ,g,Q,Q',E,E',h,hx,q=>by
  exact A2 hP es _ _ _ _ _ _ (λxs g1 q=>v9 h q) hx q
 |.fg p o es,σ,g,Q,Q',E,E',h,hx,q=>by
  exact c7 hP o _ _ _ _ _ _ (λx g1 q=>⟨q.1,A2 hP es _ _ _ _ _ _ (λxs g2 q=>v9 h q) hx q.2⟩) hx q
 |.qp es,σ,g,Q,Q',E,E',h,hx,q=>by
  exact A2 hP es _ _ _ _ _ _ (λxs g1 ⟨kvs,a,b,c,d⟩=>⟨kvs,a,b,c,h _ _ d⟩) hx q
 |.chain o1 o2 a b c,σ,g,Q,Q',E,E',h,hx,q=>by
  refine c7 hP a _ _ _ _ _ _ (λx g1 q=>c7 hP b _ _ _ _ _ _ (λy g2 q=>v9 (λz g3 q=>?_) q) hx q) hx q;obtain⟨t,e,q⟩:=q;exact⟨t,e,E8 (λq=>c7 hP c _ _ _ _ _ _ (λw g4 q=>v9 h q) hx q) (h _ _) q⟩
 |.eI a b,σ,g,Q,Q',E,E',h,hx,q=>by
  refine c7 hP a _ _ _ _ _ _ (λx g1 q=>?_) hx q;obtain⟨t,e,q⟩:=q;exact⟨t,e,E8 (λq=>c7 hP b _ _ _ _ _ _ h hx q) (h _ _) q⟩
 |.jT a b,σ,g,Q,Q',E,E',h,hx,q=>by
  refine c7 hP a _ _ _ _ _ _ (λx g1 q=>?_) hx q;obtain⟨t,e,q⟩:=q;exact⟨t,e,E8 (h _ _) (λq=>c7 hP b _ _ _ _ _ _ h hx q) q⟩
 |.eU a,σ,g,Q,Q',E,E',h,hx,q=>by
  refine c7 hP a _ _ _ _ _ _ (λx g1 q=>?_) hx q;obtain⟨t,e,q⟩:=q;exact⟨t,e,h _ _ q⟩
 |.ite c a b,σ,g,Q,Q',E,E',h,hx,q=>by
  exact u6 hP c _ _ _ _ _ _ (λt g1 q=>E8 (λq=>c7 hP a _ _ _ _ _ _ h hx q) (λq=>c7 hP b _ _ _ _ _ _ h hx q) q) hx q
 |.call f es,σ,g,Q,Q',E,E',h,hx,q=>by
  exact A2 hP es _ _ _ _ _ _ (λxs g1 q=>hP _ _ _ _ _ _ _ h hx q) hx q
 |.make c f es,σ,g,Q,Q',E,E',h,hx,q=>by
  exact A2 hP es _ _ _ _ _ _ (λxs g1 q=>hP _ _ _ _ _ _ _ (λd g2 q=>⟨q.1,h _ _ q.2⟩) hx q) hx q
 |.kP m cs o es,σ,g,Q,Q',E,E',h,hx,q=>by
  refine c7 hP o _ _ _ _ _ _ (λx g1 q=>?_) hx q;obtain⟨a,c,fs,f,q1,q2,q3,q4,q⟩:=q;exact⟨a,c,fs,f,q1,q2,q3,q4,A2 hP es _ _ _ _ _ _ (λxs g2 q=>hP _ _ _ _ _ _ _ h hx q) hx q⟩
 |.comp d6 n tg it cond elt,σ,g,Q,Q',E,E',h,hx,q=>by
  exact B8 hP it _ _ _ _ _ _ (λk g1 q=>JP (λys g q=>h _ _ q) (λ_ _ _ _ q=>q) q) hx q
 |.kM d6 n tg it cond elt,σ,g,Q,Q',E,E',h,hx,q=>by
  exact B8 hP it _ _ _ _ _ _ (λk g1 q=>JP (λys g q=>h _ _ q) (λx N σ g q=>A6 (λcV q=>u6 hP cond _ _ _ _ _ _ (λb g3 q=>by
   cases b
   ·exact q
   ·exact c7 hP elt _ _ _ _ _ _ (λ_ _ z=>z) hx q) (λ_ _ z=>z) q) q) q) hx q
 |.iz d6 n tg it cond elt,σ,g,Q,Q',E,E',h,hx,q=>by
  exact B8 hP it _ _ _ _ _ _ (λk g1 q=>aF9 (λys g q=>h _ _ q) (λ_ _ _ _ q=>q) q) hx q
 |.nil,σ,g,Q,Q',E,E',h,hx,q=>(show False from q).elim
 |.cons _ _,σ,g,Q,Q',E,E',h,hx,q=>(show False from q).elim
 |.fu _,σ,g,Q,Q',E,E',h,hx,q=>(show False from q).elim
 |.eV _,σ,g,Q,Q',E,E',h,hx,q=>(show False from q).elim
 |.kS _ _,σ,g,Q,Q',E,E',h,hx,q=>(show False from q).elim
 |.lE _,σ,g,Q,Q',E,E',h,hx,q|.tG _,σ,g,Q,Q',E,E',h,hx,q=>(show False from q).elim
 |.gi _,σ,g,Q,Q',E,E',h,hx,q=>(show False from q).elim
 |.no,σ,g,Q,Q',E,E',h,hx,q=>(show False from q).elim
theorem A2{P:gh}(hP:j9 P):∀(e:ME) (σ:S) (g:G) (Q Q':List D->G->Prop) (E E':KX),(∀d g,Q d g->Q' d g)->(∀x g,E x g->E' x g)->gB P e σ g Q E->gB P e σ g Q' E'
 |.nil,σ,g,Q,Q',E,E',h,hx,q=>by exact h _ _ q
 |.cons a b,σ,g,Q,Q',E,E',h,hx,q=>by
  exact c7 hP a _ _ _ _ _ _ (λx g1 q=>A2 hP b _ _ _ _ _ _ (λxs g2 q=>h _ _ q) hx q) hx q
 |.var _,σ,g,Q,Q',E,E',h,hx,q|.lit _,σ,g,Q,Q',E,E',h,hx,q|.prim _ _,σ,g,Q,Q',E,E',h,hx,q|.fg _ _ _,σ,g,Q,Q',E,E',h,hx,q|.qp _,σ,g,Q,Q',E,E',h,hx,q|.chain _ _ _ _ _,σ,g,Q,Q',E,E',h,hx,q|.eI _ _,σ,g,Q,Q',E,E',h,hx,q|.jT _ _,σ,g,Q,Q',E,E',h,hx,q|.eU _,σ,g,Q,Q',E,E',h,hx,q|.ite _ _ _,σ,g,Q,Q',E,E',h,hx,q|.call _ _,σ,g,Q,Q',E,E',h,hx,q
 |.make _ _ _,σ,g,Q,Q',E,E',h,hx,q|.kP _ _ _ _,σ,g,Q,Q',E,E',h,hx,q|.comp _ _ _ _ _ _,σ,g,Q,Q',E,E',h,hx,q|.iz _ _ _ _ _ _,σ,g,Q,Q',E,E',h,hx,q|.kM _ _ _ _ _ _,σ,g,Q,Q',E,E',h,hx,q|.fu _,σ,g,Q,Q',E,E',h,hx,q|.eV _,σ,g,Q,Q',E,E',h,hx,q|.kS _ _,σ,g,Q,Q',E,E',h,hx,q|.lE _,σ,g,Q,Q',E,E',h,hx,q|.tG _,σ,g,Q,Q',E,E',h,hx,q|.gi _,σ,g,Q,Q',E,E',h,hx,q|.no,σ,g,Q,Q',E,E',h,hx,q=>(show False from q).elim
theorem u6{P:gh}(hP:j9 P):∀(e:ME) (σ:S) (g:G) (Q Q':Bool->G->Prop) (E E':KX),(∀d g,Q d g->Q' d g)->(∀x g,E x g->E' x g)->dC P e σ g Q E->dC P e σ g Q' E'
 |.eI a b,σ,g,Q,Q',E,E',h,hx,q=>by
  exact u6 hP a _ _ _ _ _ _ (λt g1 q=>E8 (λq=>u6 hP b _ _ _ _ _ _ h hx q) (h _ _) q) hx q
 |.jT a b,σ,g,Q,Q',E,E',h,hx,q=>by
  exact u6 hP a _ _ _ _ _ _ (λt g1 q=>E8 (h _ _) (λq=>u6 hP b _ _ _ _ _ _ h hx q) q) hx q
 |.eU a,σ,g,Q,Q',E,E',h,hx,q=>by exact u6 hP a _ _ _ _ _ _ (λt g1 q=>h _ _ q) hx q
 |.no,σ,g,Q,Q',E,E',h,hx,q=>by exact h _ _ q
 |.gi e,σ,g,Q,Q',E,E',h,hx,q=>by exact c7 hP e _ _ _ _ _ _ (λx g1 q=>ZE (λb q=>h _ _ q) q) hx q
 |.var _,σ,g,Q,Q',E,E',h,hx,q|.lit _,σ,g,Q,Q',E,E',h,hx,q|.prim _ _,σ,g,Q,Q',E,E',h,hx,q|.fg _ _ _,σ,g,Q,Q',E,E',h,hx,q|.qp _,σ,g,Q,Q',E,E',h,hx,q|.chain _ _ _ _ _,σ,g,Q,Q',E,E',h,hx,q|.ite _ _ _,σ,g,Q,Q',E,E',h,hx,q|.call _ _,σ,g,Q,Q',E,E',h,hx,q|.nil,σ,g,Q,Q',E,E',h,hx,q|.cons _ _,σ,g,Q,Q',E,E',h,hx,q
 |.make _ _ _,σ,g,Q,Q',E,E',h,hx,q|.kP _ _ _ _,σ,g,Q,Q',E,E',h,hx,q|.comp _ _ _ _ _ _,σ,g,Q,Q',E,E',h,hx,q|.iz _ _ _ _ _ _,σ,g,Q,Q',E,E',h,hx,q|.kM _ _ _ _ _ _,σ,g,Q,Q',E,E',h,hx,q|.fu _,σ,g,Q,Q',E,E',h,hx,q|.eV _,σ,g,Q,Q',E,E',h,hx,q|.kS _ _,σ,g,Q,Q',E,E',h,hx,q|.lE _,σ,g,Q,Q',E,E',h,hx,q|.tG _,σ,g,Q,Q',E,E',h,hx,q=>(show False from q).elim
theorem B8{P:gh}(hP:j9 P):∀(e:ME) (σ:S) (g:G) (Q Q':IK->G->Prop) (E E':KX),(∀d g,Q d g->Q' d g)->(∀x g,E x g->E' x g)->iJ P e σ g Q E->iJ P e σ g Q' E'
 |.fu e,σ,g,Q,Q',E,E',h,hx,q=>by
  exact c7 hP e _ _ _ _ _ _ (λx g1 q=>q.imp (λ⟨l,a,b⟩=>⟨l,a,h _ _ b⟩) λ⟨i,l,a,b,c⟩=>⟨i,l,a,b,h _ _ c⟩) hx q
 |.eV a,σ,g,Q,Q',E,E',h,hx,q=>by
  exact c7 hP a _ _ _ _ _ _ (λx g1 ⟨j,a,b,c,d⟩=>⟨j,a,b,c,h _ _ d⟩) hx q
 |.kS a b,σ,g,Q,Q',E,E',h,hx,q=>by
  exact c7 hP a _ _ _ _ _ _ (λx g1 q=>c7 hP b _ _ _ _ _ _ (λy g2 ⟨i,j,a,b,c,d⟩=>⟨i,j,a,b,c,h _ _ d⟩) hx q) hx q
 |.lE e,σ,g,Q,Q',E,E',h,hx,q=>by
  exact c7 hP e _ _ _ _ _ _ (λx g1 ⟨i,l,a,b,c⟩=>⟨i,l,a,b,h _ _ c⟩) hx q
 |.tG e,σ,g,Q,Q',E,E',h,hx,q=>by
  exact c7 hP e _ _ _ _ _ _ (λx g1 ⟨i,l,a,b,c⟩=>⟨i,l,a,b,h _ _ c⟩) hx q
 |.var _,σ,g,Q,Q',E,E',h,hx,q|.lit _,σ,g,Q,Q',E,E',h,hx,q|.prim _ _,σ,g,Q,Q',E,E',h,hx,q|.fg _ _ _,σ,g,Q,Q',E,E',h,hx,q|.qp _,σ,g,Q,Q',E,E',h,hx,q|.chain _ _ _ _ _,σ,g,Q,Q',E,E',h,hx,q|.ite _ _ _,σ,g,Q,Q',E,E',h,hx,q|.call _ _,σ,g,Q,Q',E,E',h,hx,q|.nil,σ,g,Q,Q',E,E',h,hx,q|.cons _ _,σ,g,Q,Q',E,E',h,hx,q
 |.eI _ _,σ,g,Q,Q',E,E',h,hx,q|.jT _ _,σ,g,Q,Q',E,E',h,hx,q|.eU _,σ,g,Q,Q',E,E',h,hx,q|.gi _,σ,g,Q,Q',E,E',h,hx,q|.no,σ,g,Q,Q',E,E',h,hx,q
 |.make _ _ _,σ,g,Q,Q',E,E',h,hx,q|.kP _ _ _ _,σ,g,Q,Q',E,E',h,hx,q|.comp _ _ _ _ _ _,σ,g,Q,Q',E,E',h,hx,q|.iz _ _ _ _ _ _,σ,g,Q,Q',E,E',h,hx,q|.kM _ _ _ _ _ _,σ,g,Q,Q',E,E',h,hx,q=>(show False from q).elim
end
structure Ends.le(N N':Ends):Prop where
 nx:∀σ g,N.nx σ g->N'.nx σ g
 rt:∀d g,N.rt d g->N'.rt d g
 bk:∀σ g,N.bk σ g->N'.bk σ g
 ct:∀σ g,N.ct σ g->N'.ct σ g
theorem IP{P:gh}(hP:j9 P){N N':Ends}{E E':KX}(h:N.le N')(hx:∀x g,E x g->E' x g){σ:S}:∀(hs:List (Str×ME)) x g,uM P N σ E hs x g->uM P N' σ E' hs x g
 |[],x,g,q=>hx x g q
 |(y,e)::r,x,g,q=>by
  unfold uM at q ⊢;split
  ·rename_i hh;rw[aI hh] at q;exact c7 hP e _ _ _ _ _ _ h.rt (λ_ _ z=>z) q
  ·rename_i hh;rw[aC hh] at q;exact IP hP h hx r x g q
theorem wpS_mono{P:gh}(hP:j9 P):∀(s:MS) (N N':Ends) (σ:S) (g:G) (E E':KX),N.le N'->(∀x g,E x g->E' x g)->wpS P s N σ g E->wpS P s N' σ g E'
 |.pass,N,N',σ,g,E,E',h,hx,q=>h.nx _ _ q
 |.seq a b,N,N',σ,g,E,E',h,hx,q=>wpS_mono hP a { N with nx:=λki g1=>wpS P b N ki g1 E } { N' with nx:=λki g1=>wpS P b N' ki g1 E' } _ _ _ _ ⟨λki g1 q=>wpS_mono hP b _ _ _ _ _ _ h hx q,h.rt,h.bk,h.ct⟩ hx q
 |.expr e,N,N',σ,g,E,E',h,hx,q=>c7 hP e _ _ _ _ _ _ (λx g1 q=>h.nx _ _ q) hx q
 |.set i e,N,N',σ,g,E,E',h,hx,q=>c7 hP e _ _ _ _ _ _ (λx g1 q=>h.nx _ _ q) hx q
 |.mr t e,N,N',σ,g,E,E',h,hx,q=>c7 hP e _ _ _ _ _ _ (λx g1 q=>A6 (λσ q=>h.nx _ _ q) q) hx q
 |.fc o i v,N,N',σ,g,E,E',h,hx,q=>c7 hP v _ _ _ _ _ _ (λx g1 q=>c7 hP o _ _ _ _ _ _ (λy g2 q=>c7 hP i _ _ _ _ _ _ (λz g3 q=>U0 (λg q=>h.nx _ _ q) q) hx q) hx q) hx q
 |.iK f cs o v,N,N',σ,g,E,E',h,hx,q=>c7 hP v _ _ _ _ _ _ (λx g1 q=>c7 hP o _ _ _ _ _ _ (λy g2 q=>aM0 (λg q=>h.nx _ _ q) q) hx q) hx q
 | .wI f cs o v,N,N',σ,g,E,E',h,hx,q=>c7 hP o _ _ _ _ _ _ (λy g1 q=>by
   obtain⟨a,c,fs,x,q1,q2,q3,q4,q⟩:=q;exact ⟨a,c,fs,x,q1,q2,q3,q4,c7 hP v _ _ _ _ _ _ (λz g3 q=>v9 (λw g4 q=>by
    obtain⟨sk,k1,k2,k3⟩:=q;exact ⟨sk,k1,k2,h.nx _ _ k3⟩) q) hx q⟩) hx q
 |.xD o1 i1 o2 i2 e,N,N',σ,g,E,E',h,hx,q=>c7 hP e _ _ _ _ _ _ (λx g1 q=>let ⟨u,v,q1,q⟩:=q;⟨u,v,q1,c7 hP o1 _ _ _ _ _ _ (λy g2 q=>c7 hP i1 _ _ _ _ _ _ (λz g3 q=>U0 (λg4 q=>c7 hP o2 _ _ _ _ _ _ (λy g5 q=>c7 hP i2 _ _ _ _ _ _ (λz g6 q=>U0 (λg q=>h.nx _ _ q) q) hx q) hx q) q) hx q) hx q⟩) hx q
 |.wH i p v,N,N',σ,g,E,E',h,hx,q=>let ⟨x,q1,q⟩:=q;⟨x,q1,c7 hP v _ _ _ _ _ _ (λz g1 q=>v9 (λw g2 q=>h.nx _ _ q) q) hx q⟩
 |.ifs c a b,N,N',σ,g,E,E',h,hx,q=>u6 hP c _ _ _ _ _ _ (λt g1 q=>E8 (λq=>wpS_mono hP a _ _ _ _ _ _ h hx q) (λq=>wpS_mono hP b _ _ _ _ _ _ h hx q) q) hx q
 |.dP t it b,N,N',σ,g,E,E',h,hx,q=>B8 hP it _ _ _ _ _ _ (λk g1 q=>aK9 h.nx (λx N2 σ g q=>A6 (λcV q=>wpS_mono hP b { N with nx:=N2,ct:=N2,bk:=N.nx } { N' with nx:=N2,ct:=N2,bk:=N'.nx } _ _ _ _ ⟨λ_ _ z=>z,h.rt,h.nx,λ_ _ z=>z⟩ hx q) q) q) hx q
 |.uN c b,N,N',σ,g,E,E',h,hx,q=>by
  obtain⟨W,w0,q⟩:=q;refine⟨W,w0,λm σ g w=>u6 hP c _ _ _ _ _ _ (λt g1 q=>E8 (λq=>?_) (h.nx _ _) q) hx (q m σ g w)⟩;obtain⟨N2,a,q⟩:=q;exact⟨N2,a,wpS_mono hP b { N with nx:=N2,ct:=N2,bk:=N.nx } { N' with nx:=N2,ct:=N2,bk:=N'.nx } _ _ _ _ ⟨λ_ _ z=>z,h.rt,h.nx,λ_ _ z=>z⟩ hx q⟩
 |.ret e,N,N',σ,g,E,E',h,hx,q=>c7 hP e _ _ _ _ _ _ h.rt hx q
 |.qW,N,N',σ,g,E,E',h,hx,q=>h.rt _ _ q
 |.brk,N,N',σ,g,E,E',h,hx,q=>h.bk _ _ q
 |.cont,N,N',σ,g,E,E',h,hx,q=>h.ct _ _ q
 |.raise x es,N,N',σ,g,E,E',h,hx,q=>A2 hP es _ _ _ _ _ _ (λvs g1 q=>⟨q.1,hx _ _ q.2⟩) hx q
 |.uO b hs,N,N',σ,g,E,E',h,hx,q=>wpS_mono hP b _ _ _ _ _ _ h (λx g q=>IP hP h hx hs x g q) q
theorem b0(T:Nat->Option bo):∀k,j9 (d0 T k)
 |0=>λf xs g Q Q' E E' h hx q=>q.elim
 |k+1=>λf xs g Q Q' E E' h hx q=>by
  obtain⟨m,a,b,q⟩:=q;exact⟨m,a,b,wpS_mono (b0 T k) m.body ⟨λ_ g'=>Q .cj g',Q,λ_ _=>False,λ_ _=>False⟩ _ _ _ _ _ ⟨λ_ _ z=>h _ _ z,h,λ_ _ z=>z,λ_ _ z=>z⟩ hx q⟩
def TupAt(K:PySem.W.Frag)(H:Hp)(a:Addr)(vs:List V):Prop :=
 H a=some (.tup vs)\/∃(o:Obj) (ba:Array Value) (n:Nat),K.lookup a=some o/\o.cls=.type "tuple"/\o.dict=none/\o.data=.seq ba n/\ba.size<=sizeLine/\Vals vs ba.toList
theorem TupAt.d(h:TupAt K H a vs):EG K H a vs:=h
theorem TupAt.sq{K:PySem.W.Frag}{H:Hp}{a:Addr}{vs:List V}(h:TupAt K H a vs):iW K H a vs:=h.d.sq
mutual
inductive f9(K:PySem.W.Frag)(ρ:List Addr)(H:Hp):D->V->Prop
 |cj:f9 K ρ H .cj .cj
 |bl (b:Bool):f9 K ρ H (.bl b) (.bl b)
 |int (i:Int):f9 K ρ H (.int i) (.int i)
 |str (x:Str):f9 K ρ H (.str x) (.str x)
 |ty (n:String):f9 K ρ H (.ty n) (.ty n)
 |ref {i:Nat} {a:Addr} (h:ρ[i]?=some a):f9 K ρ H (.ref i) (.ref a)
 |tup {l:List D} {a:Addr} {vs:List V} (h:TupAt K H a vs) (r:c5 K ρ H l vs):f9 K ρ H (.tup l) (.ref a)
inductive c5(K:PySem.W.Frag)(ρ:List Addr)(H:Hp):List D->List V->Prop
 |nil:c5 K ρ H [] []
 |cons {d:D} {v:V} {ds:List D} {vs:List V} (h:f9 K ρ H d v) (r:c5 K ρ H ds vs):c5 K ρ H (d::ds) (v::vs)
end
structure Ext(ρ:List Addr)(H:Hp)(bW:List Addr)(H':Hp):Prop where
 pre:∃more,bW=ρ++more
 tup:∀a xs,H a=some (.tup xs)->H' a=some (.tup xs)
theorem Ext.refl(ρ:List Addr)(H:Hp):Ext ρ H ρ H:=⟨⟨[],by simp⟩,λ_ _ h=>h⟩
theorem Ext.trans{ρ H cu H1 fS H2}(a:Ext ρ H cu H1)(b:Ext cu H1 fS H2):Ext ρ H fS H2:=by
 obtain⟨⟨m,rfl⟩,t⟩:=a;obtain⟨⟨m',rfl⟩,t'⟩:=b;exact⟨⟨m++m',by simp⟩,λx xs h=>t' _ _ (t _ _ h)⟩
theorem Ext.get{ρ H bW H'}(e:Ext ρ H bW H')(h:ρ[i]?=some a):bW[i]?=some a:=by
 obtain⟨⟨m,rfl⟩,_⟩:=e;rw[aM (aw.mp h).1];exact h
theorem TupAt.ext{K ρ H bW H'}(e:Ext ρ H bW H'){a:Addr}{vs:List V}(h:TupAt K H a vs):TupAt K H' a vs:=h.elim (λz=>.inl (e.tup _ _ z)) .inr
mutual
theorem f9.ext{K ρ H bW H'}(e:Ext ρ H bW H'):∀{d v},f9 K ρ H d v->f9 K bW H' d v
 |_,_,.cj=>.cj
 |_,_,.bl b=>.bl b
 |_,_,.int i=>.int i
 |_,_,.str x=>.str x
 |_,_,.ty n=>.ty n
 |_,_,.ref h=>.ref (e.get h)
 |_,_,.tup h r=>.tup (h.ext e) (c5.ext e r)
theorem c5.ext{K ρ H bW H'}(e:Ext ρ H bW H'):∀{ds vs},c5 K ρ H ds vs->c5 K bW H' ds vs
 |_,_,.nil=>.nil
 |_,_,.cons h r=>.cons (f9.ext e h) (c5.ext e r)
end
theorem c5.length{K ρ H}{ds:List D}{vs:List V}(h:c5 K ρ H ds vs):ds.length=vs.length:=by
 induction ds generalizing vs with
 |nil=>cases h;rfl
 |cons d ds ih =>
  cases h with
  |cons q r=>simp[ih r]
theorem c5.get{K ρ H}:∀{ds vs} {i:Nat} {d:D},c5 K ρ H ds vs->ds[i]?=some d->∃v,vs[i]?=some v/\f9 K ρ H d v
 |_,_,_,_,.nil,h=>by simp at h
 |_,_,0,_,.cons h _,e=>by simp at e;subst e;exact⟨_,rfl,h⟩
 |_,_,i+1,d,.cons _ r,e=>by
  obtain⟨v,h1,h2⟩:=c5.get (i:=i) (d:=d) r (by simpa using e);exact⟨v,by simpa using h1,h2⟩
theorem c5.set{K ρ H}{d:D}{v:V}(h:f9 K ρ H d v):∀{ds vs} (i:Nat),c5 K ρ H ds vs->c5 K ρ H (ds.set i d) (vs.set i v)
 |_,_,_,.nil=>.nil
 |_,_,0,.cons _ r=>.cons h r
 |_,_,i+1,.cons q r=>.cons q (c5.set h i r)
theorem c5.append{K ρ H}{ds es:List D}{ws:List V}(h:c5 K ρ H ds vs)(s:c5 K ρ H es ws):c5 K ρ H (ds++es) (vs++ws):=by
 induction ds generalizing vs with
 |nil=>cases h;exact s
 |cons d ds ih =>
  cases h with
  |cons q r=>exact .cons q (ih r)
theorem c5.rep{K ρ H}{ds:List D}{vs:List V}(r:c5 K ρ H ds vs):∀n,c5 K ρ H (List.replicate n ds).flatten (List.replicate n vs).flatten
 |0=>.nil
 |n+1=>by
  rw[cv,cv,dz,dz];exact c5.append r (c5.rep r n)
theorem c5.erase{K ρ H}:∀{ds:List D} {vs:List V} (i:Nat),c5 K ρ H ds vs->c5 K ρ H (ds.eraseIdx i) (vs.eraseIdx i)
 |_,_,_,.nil=>.nil
 |_,_,0,.cons _ r=>r
 |_,_,i+1,.cons q r=>.cons q (c5.erase i r)
theorem c5.take{K ρ H}:∀{ds:List D} {vs:List V} (n:Nat),c5 K ρ H ds vs->c5 K ρ H (ds.take n) (vs.take n)
 |_,_,0,_=>.nil
 |_,_,_+1,.nil=>.nil
 |_,_,n+1,.cons h r=>.cons h (c5.take n r)
theorem c5.drop{K ρ H}:∀{ds:List D} {vs:List V} (n:Nat),c5 K ρ H ds vs->c5 K ρ H (ds.drop n) (vs.drop n)
 |_,_,0,r=>r
 |_,_,_+1,.nil=>.nil
 |_,_,n+1,.cons _ r=>c5.drop n r
theorem c5.reverse{K ρ H}:∀{ds:List D} {vs:List V},c5 K ρ H ds vs->c5 K ρ H ds.reverse vs.reverse
 |_,_,.nil=>.nil
 |_,_,.cons h r=>by
  rw[ij,ij];exact c5.append (c5.reverse r) (.cons h .nil)
theorem c5.cut{K ρ H}{ds:List D}{vs:List V}(r:c5 K ρ H ds vs)(lo hi:Option Int):c5 K ρ H (M.cut ds lo hi) (S5 vs lo hi):=by
 unfold M.cut S5;rw[r.length];exact(r.drop _).take _
theorem c5.ints{K ρ H}:∀{ns:List Int} {vs:List V},c5 K ρ H (ns.map D.int) vs->vs=ns.map V.int
 |[],_,.nil=>rfl
 |_::_,_,.cons h r=>by cases h;rw[c5.ints r];rfl
theorem c5.ofInts{K ρ H}:∀(ns:List Int),c5 K ρ H (ns.map D.int) (ns.map V.int)
 |[]=>.nil
 |n::r=>.cons (.int n) (c5.ofInts r)
def uj(K:PySem.W.Frag)(H:Hp)(a:Addr)(vs:List V):Prop :=
 (∃o,H a=some (.ku o (.lst vs)))\/∃(o:Obj) (ba:Array Value) (n:Nat),K.lookup a=some o/\o.cls=.type "list"/\o.dict=none/\o.data=.seq ba n/\ba.size<=sizeLine/\Vals vs ba.toList
theorem uj.sq(h:uj K H a vs):gA K H a vs:=h.elim (λ⟨o,z⟩=>.inl (.inr ⟨o,z⟩)) .inr
inductive i9{α:Type}(K:PySem.W.Frag)(ρ:List Addr)(H:Hp):List (α×D)->List (α×V)->Prop
 |nil:i9 K ρ H [] []
 |cons {k:α} {d:D} {v:V} {ds:List (α×D)} {vs:List (α×V)} (h:f9 K ρ H d v) (r:i9 K ρ H ds vs):i9 K ρ H ((k,d)::ds) ((k,v)::vs)
theorem i9.ext{α:Type}{K ρ H bW H'}(e:Ext ρ H bW H'){ds:List (α×D)}{vs:List (α×V)}(h:i9 K ρ H ds vs):i9 K bW H' ds vs:=by
 induction h with
 |nil=>exact .nil
 |cons h r ih=>exact .cons (h.ext e) ih
theorem i9.length{α:Type}{K ρ H}{ds:List (α×D)}{vs:List (α×V)}(h:i9 K ρ H ds vs):ds.length=vs.length:=by
 induction h with
 |nil=>rfl
 |cons h r ih=>simp[ih]
def sQ(K:PySem.W.Frag)(ρ:List Addr)(H:Hp):Option D->Option V->Prop
 |some d,some v=>f9 K ρ H d v
 |none,none=>True
 |_,_=>False
theorem i9.val{K ρ H}:∀{ds vs} (k:Key),i9 K ρ H ds vs->sQ K ρ H (u4 ds k) (L1 vs k)
 |_,_,k,.nil=>trivial
 |_,_,k,.cons (k:=k') h r=>by
  unfold u4 L1;rw[fj,fj];by_cases e:k'=k
  ·simp only[e,decide_true];exact h
  ·simp only[e,decide_false];exact i9.val k r
theorem i9.Ij{K ρ H}:∀{ds vs} (k:Key),i9 K ρ H ds vs->(ds.any λkv=>decide (kv.1=k))=(vs.any λkv=>decide (kv.1=k))
 |_,_,k,.nil=>rfl
 |_,_,k,.cons h r=>by simp only[List.any_cons,i9.Ij k r]
theorem i9.snoc{K ρ H}{k:Key}{d:D}{v:V}(h:f9 K ρ H d v){ds vs}(t:i9 K ρ H ds vs):i9 K ρ H (ds++[(k,d)]) (vs++[(k,v)]):=by
 induction ds generalizing vs with
 |nil=>cases t;exact .cons h .nil
 |cons d ds ih =>
  cases t with
  |cons q r=>exact .cons q (ih r)
theorem i9.Ey{K ρ H}{k:Key}{d:D}{v:V}(h:f9 K ρ H d v):∀{ds vs},i9 K ρ H ds vs->i9 K ρ H (ds.map λkv=>if kv.1=k then(kv.1,d) else kv) (vs.map λkv=>if kv.1=k then(kv.1,v) else kv)
 |_,_,.nil=>.nil
 |_,_,.cons (k:=k') q r=>by
  simp only[List.map_cons];by_cases e:k'=k
  ·rw[aI e,aI e];exact .cons h (i9.Ey h r)
  ·rw[aC e,aC e];exact .cons q (i9.Ey h r)
theorem i9.put{K ρ H}{k:Key}{d:D}{v:V}(h:f9 K ρ H d v){ds vs}(r:i9 K ρ H ds vs):i9 K ρ H (putD ds k d) (putK vs k v):=by
 unfold putD putK;rw[r.Ij k];split
 ·exact r.Ey h
 ·exact r.snoc h
noncomputable abbrev x4(K:PySem.W.Frag)(x:Str)(C:Addr):Prop:=PySem.W.nsIn K mainGlobals x=some (some (.ref C))
theorem i9.look{K ρ H}{ds:List (Str×D)}{vs:List (Str×V)}(f:Str)(h:i9 K ρ H ds vs):sQ K ρ H (ds.lookup f) (vs.lookup f):=by
 induction h with
 |nil=>trivial
 |cons h r ih =>
  rename_i k d v ds vs;rw[cS,cS];cases f==k
  ·exact ih
  ·exact h
theorem i9.A7{K ρ H}{f:Str}{d:D}{v:V}(h:f9 K ρ H d v){ds:List (Str×D)}{vs:List (Str×V)}(r:i9 K ρ H ds vs):i9 K ρ H (n8 f d ds) (L2.A7 f v vs):=by
 induction r with
 |nil=>exact .cons h .nil
 |cons q r ih =>
  unfold n8 L2.A7;split
  ·exact .cons h r
  ·exact .cons q ih
theorem JB{f:Str}{d:D}{p:Str->Prop}(hf:p f):∀{ds:List (Str×D)},(∀x∈ds,p x.1)->∀x∈n8 f d ds,p x.1
 |[],_,x,hx=>by
  have:x=(f,d):=by simpa[n8] using hx
  rw[this];exact hf
 |(k,e)::r,h,x,hx=>by
  unfold n8 at hx;split at hx
  ·rcases aH.mp hx with z|z
   ·rw[z];exact h (k,e) (by simp)
   ·exact h x (by simp[z])
  ·rcases aH.mp hx with z|z
   ·rw[z];exact h (k,e) (by simp)
   ·exact JB hf (λy hy=>h y (by simp[hy])) x z
def OH(K:PySem.W.Frag)(ρ:List Addr)(H:Hp):O->HO->Prop
 |.lst l,.lst vs=>c5 K ρ H l vs
 |.dg kvs,.dK vs=>i9 K ρ H kvs vs
 |.set S n,.set S' n'=>S=S'/\n=n'
 |.ins c fs,.ins C _ vs=>x4 K c C/\kE K C/\i9 K ρ H fs vs/\∀x∈fs,B7 K C x.1
 |_,_=>False
theorem OH.ext{K ρ H bW H'}(e:Ext ρ H bW H'){o:O}{u:HO}(h:OH K ρ H o u):OH K bW H' o u:=by
 cases o<;>cases u<;>first|exact h.elim|exact c5.ext e h|exact i9.ext e h|exact⟨h.1,h.2.1,h.2.2.1.ext e,h.2.2.2⟩|exact h
theorem OH.uv{K ρ H}{xs:List V}(h:OH K ρ H o (.tup xs)):False:=by cases o<;>exact h
theorem OH.Xi{K ρ H}{ob:Obj}(h:OH K ρ H o (.ku ob u)):False:=by cases o<;>exact h
def J1(K:PySem.W.Frag)(ρ:List Addr)(H:Hp)(o:O)(a:Addr):Prop:=match o with
 |.oY l=>∃vs,uj K H a vs/\c5 K ρ H l vs
 |o=>∃u,H a=some u/\OH K ρ H o u
theorem J1.of{K ρ H}(hu:H a=some u)(h:OH K ρ H o u):J1 K ρ H o a:=by
 cases o<;>first|exact⟨u,hu,h⟩|(cases u<;>exact h.elim)
theorem J1.inv{K ρ H}(m:o.mut=true)(h:J1 K ρ H o a):∃u,H a=some u/\OH K ρ H o u:=by
 cases o<;>first|exact h|cases m
theorem J1.lst{K ρ H}{l:List D}{a:Addr}(h:J1 K ρ H (.lst l) a):∃vs,H a=some (.lst vs)/\c5 K ρ H l vs:=by
 obtain⟨u,h1,h2⟩:=h;cases u<;>first|exact⟨_,h1,h2⟩|exact h2.elim
theorem J1.dg{K ρ H}{l:List (Key×D)}{a:Addr}(h:J1 K ρ H (.dg l) a):∃vs,H a=some (.dK vs)/\i9 K ρ H l vs:=by
 obtain⟨u,h1,h2⟩:=h;cases u<;>first|exact⟨_,h1,h2⟩|exact h2.elim
theorem J1.set{K ρ H}{S:Int->Bool}{n:Nat}{a:Addr}(h:J1 K ρ H (.set S n) a):H a=some (.set S n):=by
 obtain⟨u,h1,h2⟩:=h;cases u<;>first|(obtain⟨rfl,rfl⟩:=(show _/\_ from h2);exact h1)|exact h2.elim
theorem J1.ins{K ρ H}{c:Str}{fs:List (Str×D)}{a:Addr}(h:J1 K ρ H (.ins c fs) a):∃C dx vs,H a=some (.ins C dx vs)/\x4 K c C/\kE K C/\i9 K ρ H fs vs/\∀x∈fs,B7 K C x.1:=by
 obtain⟨u,h1,h2⟩:=h;cases u<;>first|exact⟨_,_,_,h1,h2⟩|exact h2.elim
structure Rl(K:PySem.W.Frag)(ρ:List Addr)(g:G)(H:Hp):Prop where
 len:ρ.length=g.length
 obj:∀(i:Nat) o a,g[i]?=some o->ρ[i]?=some a->J1 K ρ H o a
 nd:∀(i j:Nat) o o' a,g[i]?=some o->g[j]?=some o'->o.mut=true->o'.mut=true->ρ[i]?=some a->ρ[j]?=some a->i=j
section
variable{ρ:List Addr}
theorem Rl.lst(R:Rl K ρ g H){i:Nat}{l:List D}{a:Addr}(h:g[i]?=some (.lst l))(ha:ρ[i]?=some a):∃vs,H a=some (.lst vs)/\c5 K ρ H l vs:=(R.obj _ _ _ h ha).lst
theorem Rl.dg(R:Rl K ρ g H){i:Nat}{l:List (Key×D)}{a:Addr}(h:g[i]?=some (.dg l))(ha:ρ[i]?=some a):∃vs,H a=some (.dK vs)/\i9 K ρ H l vs:=(R.obj _ _ _ h ha).dg
theorem Rl.set(R:Rl K ρ g H){i:Nat}{S:Int->Bool}{n:Nat}{a:Addr}(h:g[i]?=some (.set S n))(ha:ρ[i]?=some a):H a=some (.set S n):=(R.obj _ _ _ h ha).set
theorem Rl.ins(R:Rl K ρ g H){i:Nat}{c:Str}{fs:List (Str×D)}{a:Addr}(h:g[i]?=some (.ins c fs))(ha:ρ[i]?=some a):∃C dx vs,H a=some (.ins C dx vs)/\x4 K c C/\kE K C/\i9 K ρ H fs vs/\∀x∈fs,B7 K C x.1:=(R.obj _ _ _ h ha).ins
theorem Rl.items(R:Rl K ρ g H)(h:d5 g i=some l)(ha:ρ[i]?=some a):∃vs,gA K H a vs/\c5 K ρ H l vs:=by
 cases e:g[i]? with
 |none=>rw[d5,e] at h;cases h
 |some o =>
  rw[d5,e] at h;have q:=R.obj _ _ _ e ha;cases o with
  |lst m=>cases h;obtain⟨vs,z,r⟩:=q.lst;exact⟨vs,gA.of z,r⟩
  |oY m=>cases h;obtain⟨vs,z,r⟩:=q;exact⟨vs,z.sq,r⟩
  |_=>cases h
theorem B1{o:HO}(hp:H p=none):Ext ρ H ρ (upd H p o):=⟨⟨[],by simp⟩,λa xs h=>by rw[i6 (o8 h hp)];exact h⟩
theorem uj.upd{p a:Addr}{o:HO}{vs:List V}(h:uj K H a vs)(hp:∀ob u,H p≠some (.ku ob u)):uj K (upd H p o) a vs:=by
 rcases h with⟨ob,z⟩|z
 ·refine .inl ⟨ob,?_⟩;rw[i6 ?_]
  ·exact z
  ·intro e;subst e;exact hp _ _ z
 ·exact .inr z
theorem J1.upd{p a:Addr}{o:O}{u:HO}{bW:List Addr}(h:J1 K ρ H o a)(fy:o.mut=true->a≠p)(hp:∀ob u,H p≠some (.ku ob u))(e:Ext ρ H bW (L2.upd H p u)):J1 K bW (L2.upd H p u) o a:=by
 cases hm:o.mut with
 |true =>
  obtain⟨u',h1,h2⟩:=h.inv hm;exact .of (by rw[i6 (fy hm)];exact h1) (h2.ext e)
 |false =>
  cases o<;>first|cases hm|skip
  obtain⟨vs,z,r⟩:=h;exact⟨vs,z.upd hp,r.ext e⟩
theorem Rl.grow{o:HO}(R:Rl K ρ g H)(hp:H p=none):Rl K ρ g (upd H p o):=by
 have e:Ext ρ H ρ (upd H p o):=B1 hp;refine⟨R.len,λi ob a h1 h2=>?_,R.nd⟩;have q:=R.obj _ _ _ h1 h2;refine q.upd (λhm=>?_) (λob u z=>by rw[hp] at z;cases z) e;obtain⟨u,h1,_⟩:=q.inv hm;exact o8 h1 hp
theorem Rl.x8(R:Rl K ρ g H)(p:Addr):(ρ++[p])[g.length]?=some p:=by rw[<- R.len];simp
theorem B9{o:HO}(hp:H p=none):Ext ρ H (ρ++[p]) (upd H p o):=⟨⟨[p],rfl⟩,(B1 (ρ:=ρ) hp).tup⟩
theorem Rl.new(R:Rl K ρ g H)(hp:H p=none)(r:OH K ρ H o u):Rl K (ρ++[p]) (g++[o]) (upd H p u):=by
 have e:Ext ρ H (ρ++[p]) (upd H p u):=B9 hp;have old:∀{i:Nat} {ob:O} {a:Addr},g[i]?=some ob->(ρ++[p])[i]?=some a->ρ[i]?=some a:=λ{i ob a} h1 h2=>by
  rw[aM (by rw[R.len];exact(aw.mp h1).1)] at h2;exact h2
 have split:∀{i:Nat} {ob:O},(g++[o])[i]?=some ob->g[i]?=some ob\/(i=g.length/\ob=o):=λ{i ob} h=>by
  rcases ie i g.length with q|q|q
  ·rw[aM q] at h;exact .inl h
  ·subst q;simp at h;exact .inr ⟨rfl,h.symm⟩
  ·rw[aT (by simp;omega)] at h;cases h
 refine⟨by simp[R.len],λi ob a h1 h2=>?_,λi j o1 o2 a h1 h2 m1 m2 h3 h4=>?_⟩
 ·rcases split h1 with q|⟨rfl,rfl⟩
  ·have z:=R.obj _ _ _ q (old q h2);refine z.upd (λhm=>?_) (λob u z=>by rw[hp] at z;cases z) e;obtain⟨u,h1,_⟩:=z.inv hm;exact o8 h1 hp
  ·rw[R.x8] at h2;cases h2;exact .of u7 (r.ext e)
 ·have nq:∀{i:Nat} {o:O} {a:Addr},g[i]?=some o->o.mut=true->ρ[i]?=some a->a≠p:=λ{i o a} h1 hm h2=>by
   obtain⟨u,z,_⟩:=(R.obj _ _ _ h1 h2).inv hm;exact o8 z hp
  rcases split h1 with q|⟨rfl,_⟩
  ·rcases split h2 with q'|⟨rfl,_⟩
   ·exact R.nd _ _ _ _ _ q q' m1 m2 (old q h3) (old q' h4)
   ·rw[R.x8] at h4;cases h4;exact absurd rfl (nq q m1 (old q h3))
  ·rcases split h2 with q'|⟨rfl,_⟩
   ·rw[R.x8] at h3;cases h3;exact absurd rfl (nq q' m2 (old q' h4))
   ·rfl
theorem Rl.alloc(R:Rl K ρ g H)(hp:H p=none)(r:c5 K ρ H l vs):Rl K (ρ++[p]) (g++[.lst l]) (upd H p (.lst vs)):=R.new hp r
theorem Rl.put{o':O}(R:Rl K ρ g H)(h:g[i]?=some o)(hm:o.mut=true)(ha:ρ[i]?=some a)(r:OH K ρ H o' u) :
  Rl K ρ (g.set i o') (upd H a u)/\Ext ρ H ρ (upd H a u):=by
 obtain⟨u0,z0,FP⟩:=(R.obj _ _ _ h ha).inv hm;have e:Ext ρ H ρ (upd H a u):=⟨⟨[],by simp⟩,λb xs q=>by rw[i6];exact q;intro z;subst z;rw[z0] at q;cases q;exact FP.uv⟩
 refine⟨⟨by simp[R.len],λj ob b h1 h2=>?_,λj k o1 o2 b h1 h2 m1 m2 h3 h4=>?_⟩,e⟩
 ·by_cases iB:i=j
  ·subst iB;rw[ha] at h2;cases h2;have hi:i<g.length:=(aw.mp h).1;rw[aY hi] at h1;cases h1;exact .of u7 (r.ext e)
  ·rw[ay iB] at h1;refine(R.obj _ _ _ h1 h2).upd (λoz ez=>?_) (λob u z=>by rw[z0] at z;cases z;exact FP.Xi) e;subst ez;exact iB (R.nd _ _ _ _ _ h h1 hm oz ha h2)
 ·have back:∀{j:Nat} {m:O},(g.set i o')[j]?=some m->m.mut=true->∃m',g[j]?=some m'/\m'.mut=true:=λ{j m} q oz=>by
   by_cases iB:i=j
   ·subst iB;exact⟨o,h,hm⟩
   ·rw[ay iB] at q;exact⟨m,q,oz⟩
  obtain⟨_,q1,n1⟩:=back h1 m1;obtain⟨_,q2,n2⟩:=back h2 m2;exact R.nd _ _ _ _ _ q1 q2 n1 n2 h3 h4
theorem Rl.write{l':List D}(R:Rl K ρ g H)(h:g[i]?=some (.lst l))(ha:ρ[i]?=some a)(r:c5 K ρ H l' vs) :
  Rl K ρ (g.set i (.lst l')) (upd H a (.lst vs))/\Ext ρ H ρ (upd H a (.lst vs)):=R.put h rfl ha r
end
structure u3(K:PySem.W.Frag)(ρ:List Addr)(H:Hp)(σ:S)(cx:St):Prop where
 len:σ.length=cx.length
 val:∀(i:Nat) d,σ[i]?=some (some d)->∃v,cx[i]?=some (some v)/\f9 K ρ H d v
section
variable{ρ bW:List Addr}{H':Hp}
theorem u3.ext{σ cx}(e:Ext ρ H bW H')(r:u3 K ρ H σ cx):u3 K bW H' σ cx:=⟨r.len,λi d h=>let ⟨v,a,b⟩:=r.val i d h;⟨v,a,b.ext e⟩⟩
theorem u3.set{σ cx d v}(r:u3 K ρ H σ cx)(i:Nat)(h:f9 K ρ H d v):u3 K ρ H (σ.set i (some d)) (cx.set i (some v)):=by
 refine⟨by simp[r.len],λj e q=>?_⟩;by_cases iB:i=j
 ·subst iB;have hi:i<σ.length:=by
   have:=(aw.mp q).1;simpa using this
  rw[aY hi] at q;cases q;exact⟨v,by rw[aY (by rw[<- r.len];exact hi)],h⟩
 ·rw[ay iB] at q ⊢;exact r.val j e q
theorem u3.start{ds vs}{n:Nat}(r:c5 K ρ H ds vs):u3 K ρ H (ds.map some++List.replicate (n-ds.length) none) (vs.map some++List.replicate (n-vs.length) none):=by
 refine⟨by simp[r.length],λi d h=>?_⟩;by_cases hi:i<ds.length
 ·rw[aM (by simpa using hi),au] at h;cases e:ds[i]? with
  |none=>rw[e] at h;cases h
  |some x =>
   rw[e] at h;cases h;obtain⟨v,h1,h2⟩:=r.get e;refine⟨v,?_,h2⟩;rw[aM (by rw[aj,<- r.length];exact hi),au,h1]
   rfl
 ·rw[eL (by simpa using hi),fz] at h;split at h<;>cases h
theorem u3.d6{σ cx}(r:u3 K ρ H σ cx)(d6:List Nat)(n:Nat):u3 K ρ H (I9 σ d6 n) (C4 cx d6 n):=by
 refine⟨by simp[I9,C4],λi d h=>?_⟩;unfold I9 at h;unfold C4;by_cases hi:i<d6.length
 ·rw[aM (by simpa using hi),au,ao hi] at h;rw[aM (by simpa using hi),au,ao hi];simp only[Option.map_some] at h ⊢;cases e:σ[d6[i]]? with
  |none=>rw[e] at h;cases h
  |some x =>
   rw[e] at h;have hx:x=some d:=aQ h;subst hx;obtain⟨v,h1,h2⟩:=r.val _ _ e;exact⟨v,by rw[h1];rfl,h2⟩
 ·rw[eL (by simpa using hi),fz] at h;split at h<;>cases h
end
end M
namespace M
open PySem L2 PySem.Spec PyProof.Rows
variable{g:G}{l:List D}{vs:List V}{b:Bool}{d:D}{X:Cx}{ρ:List Addr}{H:Hp}{σ:L2.St}{s:Shared}{v x:V}
def LQ(K:PySem.W.Frag)(ρ:List Addr)(H:Hp)(Q:VK):KD:=λd g'=>∀bW H' v,Ext ρ H bW H'->Rl K bW g' H'->f9 K bW H' d v->Q v H'
theorem LQ.ext{K ρ H cu H1 Q d g}(e:Ext ρ H cu H1)(h:LQ K ρ H Q d g):LQ K cu H1 Q d g:=λbW H' v e' R r=>h bW H' v (e.trans e') R r
theorem LQ.now{K ρ H Q d g v}(h:LQ K ρ H Q d g)(R:Rl K ρ g H)(r:f9 K ρ H d v):Q v H:=h ρ H v (.refl _ _) R r
theorem LQ.new{K ρ H Q}{p:Addr}(h:LQ K ρ H Q (.ref g.length) (g++[.lst l]))(R:Rl K ρ g H)(hp:H p=none)(r:c5 K ρ H l vs):Q (.ref p) (upd H p (.lst vs)) :=
 h (ρ++[p]) _ _ (B9 hp) (R.alloc hp r) (.ref (R.x8 p))
theorem LQ.tup{K ρ H Q}{g:G}{l:List D}{vs:List V}{p:Addr}(h:LQ K ρ H Q (.tup l) g)(R:Rl K ρ g H)(hp:H p=none)(r:c5 K ρ H l vs):Q (.ref p) (upd H p (.tup vs)) :=
 h ρ _ _ (B1 hp) (R.grow hp) (.tup (.inl u7) (r.ext (B1 hp)))
def r2(K:PySem.W.Frag)(p:Pr):R2:=λx y H Q=>∃d e g ρ,Rl K ρ g H/\f9 K ρ H d x/\f9 K ρ H e y/\da p [d,e] g (LQ K ρ H Q)
def r1(K:PySem.W.Frag)(p:Pr):V->Hp->VK->Prop:=λx H Q=>∃d g ρ,Rl K ρ g H/\f9 K ρ H d x/\da p [d] g (LQ K ρ H Q)
def rN(K:PySem.W.Frag)(p:Pr):List V->Hp->VK->Prop:=λxs H Q=>∃ds g ρ,Rl K ρ g H/\c5 K ρ H ds xs/\da p ds g (LQ K ρ H Q)
theorem p9{n:Nat}(h:n<=100000):n<=sizeLine:=aF h (by decide)
theorem CN{n:Nat}(h:n<100000):n<sizeLine:=aA h (by decide)
theorem f9.m9{K ρ H i v}(h:f9 K ρ H (.int i) v):v=.int i:=by cases h;rfl
theorem f9.C9{K ρ H i v}(h:f9 K ρ H (.str i) v):v=.str i:=by cases h;rfl
theorem f9.M0{K ρ H i v}(h:f9 K ρ H (.bl i) v):v=.bl i:=by cases h;rfl
theorem f9.zc{K ρ H v}(h:f9 K ρ H .cj v):v=.cj:=by cases h;rfl
theorem f9.Qa{K ρ H n v}(h:f9 K ρ H (.ty n) v):v=.ty n:=by cases h;rfl
theorem f9.m8{K ρ H i v}(h:f9 K ρ H (.ref i) v):∃a,v=.ref a/\ρ[i]?=some a:=by cases h;exact⟨_,rfl,by assumption⟩
theorem f9.O3{K ρ H l v}(h:f9 K ρ H (.tup l) v):∃a vs,v=.ref a/\TupAt K H a vs/\c5 K ρ H l vs:=by cases h;exact⟨_,_,rfl,by assumption,by assumption⟩
theorem c5.one{K ρ H d vs}(h:c5 K ρ H [d] vs):∃v,vs=[v]/\f9 K ρ H d v:=by
 cases h with
 |cons r rr=>cases rr;exact⟨_,rfl,r⟩
theorem c5.two{K ρ H d e vs}(h:c5 K ρ H [d,e] vs):∃v w,vs=[v,w]/\f9 K ρ H d v/\f9 K ρ H e w:=by
 cases h with
 |cons r rr=>obtain⟨w,rfl,q⟩:=rr.one;exact⟨_,_,rfl,r,q⟩
theorem E2{a b c:D}(h:[a,b]=[c,d]):a=c/\b=d:=by cases h;exact⟨rfl,rfl⟩
section
theorem QU(op:Operator):gn X (binaryOp op) (r2 X.K (.bin op)):=by
 intro pins s σ H x y v u Q I rx ry h;obtain⟨d,e,g,ρ,R,rd,re,d',g',h,q⟩:=h;rcases h with⟨i,j,r,ex,ha,rfl,rfl⟩|⟨rfl,h⟩|⟨rfl,h⟩
 ·obtain⟨rfl,rfl⟩:=E2 ex;obtain rfl:=rd.m9;obtain rfl:=re.m9;have fin:=q.now R (.int r);cases op<;>first|exact(show False from ha).elim|skip
  ·cases ha;exact QS pins s σ H _ _ v u Q I rx ry ⟨i,j,rfl,rfl,fin⟩
  ·cases ha;exact Rc pins s σ H _ _ v u Q I rx ry ⟨i,j,rfl,rfl,fin⟩
  ·obtain⟨hc,rfl⟩:=ha;exact QY pins s σ H _ _ v u Q I rx ry ⟨i,j,rfl,rfl,hc,fin⟩
  ·obtain⟨hc,rfl⟩:=ha;exact QX pins s σ H _ _ v u Q I rx ry ⟨i,j,rfl,rfl,hc,fin⟩
  ·obtain⟨hc,rfl⟩:=ha;exact QZ pins s σ H _ _ v u Q I rx ry ⟨i,j,rfl,rfl,hc,fin⟩
  ·obtain⟨hc,rfl⟩:=ha;exact Rb pins s σ H _ _ v u Q I rx ry ⟨i,j,rfl,rfl,hc,fin⟩
  ·cases ha;exact Xo pins s σ H _ _ v u Q I rx ry ⟨i,j,rfl,rfl,fin⟩
  ·cases ha;exact QT pins s σ H _ _ v u Q I rx ry ⟨i,j,rfl,rfl,fin⟩
  ·obtain⟨hc,rfl⟩:=ha;exact Tv pins s σ H _ _ v u Q I rx ry ⟨i,j,rfl,rfl,hc,fin⟩
 ·rcases h with⟨l,m,ex,hz,rfl,rfl⟩|⟨a,b,l,m,ex,ha,hb,hz,rfl,rfl⟩|⟨x',y',ex,hz,rfl,rfl⟩
  ·obtain⟨rfl,rfl⟩:=E2 ex;obtain⟨a,vs,rfl,ta,rs⟩:=rd.O3;obtain⟨b,ws,rfl,tb,rt⟩:=re.O3;refine a53 pins s σ H _ _ v u Q I rx ry ⟨a,b,vs,ws,rfl,rfl,ta.sq,tb.sq,?_,λz=>?_,λz=>?_,λp hp=>q.tup R hp (rs.append rt)⟩
   ·rw[<- rs.length,<- rt.length];exact p9 hz
   ·subst z;cases rs;exact q.now R (.tup tb rt)
   ·subst z;cases rt;rw[dw] at q;exact q.now R (.tup ta rs)
  ·obtain⟨rfl,rfl⟩:=E2 ex;obtain⟨a',rfl,ra⟩:=rd.m8;obtain⟨b',rfl,rb⟩:=re.m8;obtain⟨vs,z1,rs⟩:=R.lst ha ra;obtain⟨ws,z2,rt⟩:=R.lst hb rb;exact QV pins s σ H _ _ v u Q I rx ry ⟨_,_,vs,ws,rfl,rfl,z1,z2,by rw[<- rs.length,<- rt.length];exact p9 hz,λp hp=>q.new R hp (rs.append rt)⟩
  ·obtain⟨rfl,rfl⟩:=E2 ex;obtain rfl:=rd.C9;obtain rfl:=re.C9;exact aN6 pins s σ H _ _ v u Q I rx ry ⟨_,_,rfl,rfl,p9 hz,q.now R (.str _)⟩
 ·rcases h with⟨a,l,n,ex,ha,h1,h2,hz,rfl,rfl⟩|⟨l,n,ex,fy,h1,h2,hz,rfl,rfl⟩
  rotate_left
  ·obtain⟨rfl,rfl⟩:=E2 ex;obtain⟨a',vs,rfl,ta,rs⟩:=rd.O3;obtain rfl:=re.m9;refine Tx pins s σ H _ _ v u Q I rx ry ⟨_,_,vs,rfl,rfl,ta.sq,λz=>?_,h1,h2,by rw[<- rs.length];exact p9 hz,λz=>?_,λp hp=>q.tup R hp (rs.rep _)⟩
   ·subst z;cases rs;exact fy rfl
   ·subst z;have:(List.replicate (Int.toNat 1) l).flatten=l:=by simp
    rw[this] at q;exact q.now R (.tup ta rs)
  obtain⟨rfl,rfl⟩:=E2 ex;obtain⟨a',rfl,ra⟩:=rd.m8;obtain rfl:=re.m9;obtain⟨vs,z1,rs⟩:=R.lst ha ra;exact Ra pins s σ H _ _ v u Q I rx ry ⟨_,_,vs,rfl,rfl,z1,by omega,by omega,by rw[<- rs.length];exact p9 hz,λp hp=>q.new R hp (rs.rep _)⟩
theorem Xp(op:UnaryOp):zS X (unaryOp op) (r1 X.K (.un op)):=by
 intro pins s σ H x v Q I rx h;obtain⟨d,g,ρ,R,rd,d',g',⟨rfl,i,ex,rfl,rfl⟩,q⟩:=h;cases ex;obtain rfl:=rd.m9;exact SG pins s σ H _ v Q I rx ⟨_,rfl,q.now R (.int _)⟩
section
variable{pins:List (Addr×Obj)}
theorem JO(I:Inv X pins σ H s)(R:Rl X.K ρ g H)(n:Nat)(ih:∀{d:D} {v:V} {u:Value} {p:PyData},rd g n d=some p->f9 X.K ρ H d v->RelV v u->∃as,Reads s.heap u p as/\p.depth<=n):∀{vs:List V} {us:List Value} {ps:List PyData},l.mapM (rd g n)=some ps->c5 X.K ρ H l vs->Vals vs us->∃as,ReadsAll s.heap us ps as/\PyData.depthAll ps<=n:=by
 induction l with
 |nil =>
  intro vs us ps h rs rv;cases rs;cases rv;simp at h;subst h;exact⟨_,.nil,cF _⟩
 |cons d l il =>
  intro vs us ps h rs rv;cases rs with
  |cons iU rs =>
   cases rv with
   |cons ru rv =>
    rw[List.mapM_cons] at h;cases e:rd g n d with
    |none=>rw[e] at h;cases h
    |some p =>
     rw[e] at h;cases e2:l.mapM (rd g n) with
     |none=>rw[e2] at h;cases h
     |some qs =>
      rw[e2] at h;cases h;obtain⟨as,q1,d1⟩:=ih e iU ru;obtain⟨bs,q2,d2⟩:=il e2 rs rv;refine⟨_,.cons q1 q2,?_⟩;simp only[PyData.depthAll];omega
theorem R7(I:Inv X pins σ H s)(R:Rl X.K ρ g H)(n:Nat):∀{d:D} {v:V} {u:Value} {p:PyData},rd g n d=some p->f9 X.K ρ H d v->RelV v u->∃as,Reads s.heap u p as/\p.depth<=n:=by
 induction n with
 |zero =>
  intro d v u p h r ru;cases r with
  |cj=>simp only[rd] at h;cases h;cases ru;exact⟨_,.none,Nat.zero_le _⟩
  |bl b=>simp only[rd] at h;cases h;cases ru;exact⟨_,.bool b,Nat.zero_le _⟩
  |int i=>simp only[rd] at h;cases h;obtain⟨t,rfl⟩:=ru;exact⟨_,.int i t,Nat.zero_le _⟩
  |str x=>simp only[rd] at h;cases h;obtain⟨t,rfl⟩:=ru;exact⟨_,.str x t,Nat.zero_le _⟩
  |_=>simp only[rd] at h;cases h
 |succ n ih =>
  intro d v u p h r ru;cases r with
  |cj=>simp only[rd] at h;cases h;cases ru;exact⟨_,.none,Nat.zero_le _⟩
  |bl b=>simp only[rd] at h;cases h;cases ru;exact⟨_,.bool b,Nat.zero_le _⟩
  |int i=>simp only[rd] at h;cases h;obtain⟨t,rfl⟩:=ru;exact⟨_,.int i t,Nat.zero_le _⟩
  |str x=>simp only[rd] at h;cases h;obtain⟨t,rfl⟩:=ru;exact⟨_,.str x t,Nat.zero_le _⟩
  |ty x=>simp only[rd] at h;cases h
  |ref ha =>
   rename_i i a;simp only[rd] at h;cases e:d5 g i with
   |none=>rw[e] at h;cases h
   |some l =>
    rw[e] at h;dsimp only at h;cases e2:l.mapM (rd g n) with
    |none=>rw[e2] at h;cases h
    |some ps =>
     rw[e2] at h;cases h;cases ru;obtain⟨vs,hq,rs⟩:=R.items e ha;obtain⟨ba,rv,p,hz⟩:=I.list hq;obtain⟨as,q,hd⟩:=JO I R n ih e2 rs rv;obtain⟨o,ho,hc,k,rP⟩:=p.isList;refine⟨_,.list ho hc rP (by simpa using q),?_⟩;simp only[PyData.depth];omega
  |tup ht rs =>
   rename_i l a vs;simp only[rd] at h;cases e2:l.mapM (rd g n) with
   |none=>rw[e2] at h;cases h
   |some ps =>
    rw[e2] at h;cases h;cases ru;obtain⟨ba,rv,pt,hz⟩:=I.tuple ht.sq;obtain⟨as,q,hd⟩:=JO I R n ih e2 rs rv;obtain⟨o,ho,hc,k,rP⟩:=id pt;refine⟨_,.tuple ho hc rP (by simpa using q),?_⟩;simp only[PyData.depth];omega
end
end
theorem zj{α:Type}[BEq α][LawfulBEq α][DecidableEq α](a b:α):decide (a=b)=(a==b):=by
 by_cases e:a=b
 ·subst e;simp
 ·rw[aK e];exact(cO.mpr e).symm
theorem Y1{K ρ H}{c:Key}(h:W0 d=some c)(r:f9 K ρ H d v):v=kV c:=by
 cases r<;>first|(cases h;rfl)|cases h
theorem sQ.some{K ρ H}{o:Option V}{d:D}(h:sQ K ρ H (some d) o):∃v,o=some v/\f9 K ρ H d v:=by
 cases o with
 |none=>exact h.elim
 |some v=>exact⟨v,rfl,h⟩
theorem sQ.isSome{K ρ H}{o:Option V}{d:Option D}(h:sQ K ρ H d o):d.isSome=o.isSome:=by
 cases o<;>cases d<;>first|rfl|exact h.elim
theorem Im{pins:List (Addr×Obj)}{e:D}{y:V}{v u:Value}{Q:VK}(hu:X.A.units+100<cLine)(I:Inv X pins σ H s)(rx:RelV x v)(ry:RelV y u)(R:Rl X.K ρ g H)(iU:f9 X.K ρ H d x)(re:f9 X.K ρ H e y)(h:wq g d e b)(neg:Bool)(q:Q (.bl (xor neg b)) H):wpAny (model X.prog X.w) X.A (compareOp (if neg then .NotEq else .Eq) v u) (EP X pins σ Q) X.xe s:=by
 rcases h with⟨i,j,rfl,rfl,rfl⟩|⟨i,j,rfl,rfl,rfl⟩|⟨i,j,rfl,rfl,rfl⟩|⟨p,p',h1,h2,c1,c2,rfl⟩
 ·obtain rfl:=iU.m9;obtain rfl:=re.m9;cases neg
  ·exact DW pins s σ H _ _ v u Q I rx ry ⟨rfl,by rw[zk];simpa[zj] using q⟩
  ·exact DX pins s σ H _ _ v u Q I rx ry ⟨rfl,by rw[zk];simpa[zj] using q⟩
 ·obtain rfl:=iU.M0;obtain rfl:=re.M0;cases neg
  ·exact DW pins s σ H _ _ v u Q I rx ry ⟨rfl,by rw[yV];simpa using q⟩
  ·exact DX pins s σ H _ _ v u Q I rx ry ⟨rfl,by rw[yV];simpa using q⟩
 ·obtain rfl:=iU.C9;obtain rfl:=re.C9;cases neg
  ·exact DW pins s σ H _ _ v u Q I rx ry ⟨rfl,by rw[zl];simpa[zj] using q⟩
  ·exact DX pins s σ H _ _ v u Q I rx ry ⟨rfl,by rw[zl];simpa[zj] using q⟩
 ·obtain⟨as,q1,d1⟩:=R7 I R 6 h1 iU rx;obtain⟨bs,q2,d2⟩:=R7 I R 6 h2 re ry;have hr:X.A.units+min p.depth p'.depth<cLine:=by omega
  cases neg
  ·exact SeqAt.compareEq_reads q1 q2 c1 c2 hr ⟨.bl _,H,I,rfl,by simpa using q⟩
  ·exact SeqAt.compareNe_reads q1 q2 c1 c2 hr ⟨.bl _,H,I,rfl,by simpa using q⟩
theorem in_of{pins:List (Addr×Obj)}{e:D}{y:V}{v u:Value}{Q:VK}(hu:X.A.units+100<cLine)(I:Inv X pins σ H s)(rx:RelV x v)(ry:RelV y u)(R:Rl X.K ρ g H)(iU:f9 X.K ρ H d x)(re:f9 X.K ρ H e y)(h:inR g d e b)(neg:Bool)(q:Q (.bl (xor neg b)) H):wpAny (model X.prog X.w) X.A (compareOp (if neg then .NotIn else .In) v u) (EP X pins σ Q) X.xe s:=by
 rcases h with⟨a,kvs,c,rfl,ha,hc,rfl⟩|⟨l,ps,p,h0,h1,h2,c1,c2,rfl⟩
 ·obtain⟨a',rfl,ra⟩:=re.m8;obtain⟨vs,z,rs⟩:=R.dg ha ra;have:=Y1 hc iU;subst this;cases ry;rw[(rs.val c).isSome] at q;cases neg
  ·exact Vi (by omega) I (P2.k z) rx λs' I'=>⟨.bl _,H,I',rfl,by simpa using q⟩
  ·exact SX (by omega) I (P2.k z) rx λs' I'=>⟨.bl _,H,I',rfl,by simpa using q⟩
 ·obtain⟨as,q1,d1⟩:=R7 I R 6 h2 iU rx;cases e with
  |tup m =>
   cases h0;have h3:rd g 7 (.tup l)=some (.tuple ps):=by simp only[rd];rw[show l.mapM (rd g 6)=some ps from h1];rfl
   obtain⟨bs,q2,d2⟩:=R7 I R 7 h3 re ry;have hr:X.A.units+1+min (PyData.depthAll ps) p.depth<cLine:=by omega
   cases neg
   ·exact SeqAt.in_tuple_reads q2 q1 c1 c2 hr ⟨.bl _,H,I,rfl,by simpa using q⟩
   ·exact SeqAt.notIn_tuple_reads q2 q1 c1 c2 hr ⟨.bl _,H,I,rfl,by simpa using q⟩
  |ref a =>
   have h3:rd g 7 (.ref a)=some (.list ps):=by
    simp only[rd];rw[show d5 g a=some l from h0];dsimp only;rw[show l.mapM (rd g 6)=some ps from h1]
    rfl
   obtain⟨bs,q2,d2⟩:=R7 I R 7 h3 re ry;have hr:X.A.units+1+min (PyData.depthAll ps) p.depth<cLine:=by omega
   cases neg
   ·exact SeqAt.in_list_reads q2 q1 c1 c2 hr ⟨.bl _,H,I,rfl,by simpa using q⟩
   ·exact SeqAt.notIn_list_reads q2 q1 c1 c2 hr ⟨.bl _,H,I,rfl,by simpa using q⟩
  |_=>cases h0
theorem X9(hu:X.A.units+100<cLine)(op:CmpOp):gn X (compareOp op) (r2 X.K (.cmp op)):=by
 intro pins s σ H x y v u Q I rx ry h;obtain⟨d,e,g,ρ,R,iU,re,d',g',⟨x',y',b,ex,h,rfl,rfl⟩,q⟩:=h;obtain⟨rfl,rfl⟩:=E2 ex;have fin:=q.now R (.bl b);have oR:∀{P:Int->Int->Bool},(∃i j,d=.int i/\e=.int j/\b=P i j)->∃i j,x=.int i/\y=.int j/\b=P i j:=λhh=>by
  obtain⟨i,j,z1,z2,z3⟩:=hh;exact⟨i,j,(z1▸iU).m9,(z2▸re).m9,z3⟩
 cases op
 ·exact Im hu I rx ry R iU re h false (by simpa using fin)
 ·exact Im hu I rx ry R iU re h true (by simpa using fin)
 ·obtain⟨i,j,e1,e2,e3⟩:=oR (P:=λi j=>decide (i<j)) h;exact Xm pins s σ H _ _ v u Q I rx ry ⟨i,j,e1,e2,by subst e3;exact fin⟩
 ·obtain⟨i,j,e1,e2,e3⟩:=oR (P:=λi j=>decide (i<=j)) h;exact Xl pins s σ H _ _ v u Q I rx ry ⟨i,j,e1,e2,by subst e3;exact fin⟩
 ·obtain⟨i,j,e1,e2,e3⟩:=oR (P:=λi j=>decide (j<i)) h;exact Xk pins s σ H _ _ v u Q I rx ry ⟨i,j,e1,e2,by subst e3;exact fin⟩
 ·obtain⟨i,j,e1,e2,e3⟩:=oR (P:=λi j=>decide (j<=i)) h;exact Xj pins s σ H _ _ v u Q I rx ry ⟨i,j,e1,e2,by subst e3;exact fin⟩
 ·obtain⟨rfl,rfl⟩:=(show _/\_ from h)
  obtain rfl:=re.zc;refine QW pins s σ H _ _ v u Q I rx ry ⟨rfl,?_⟩;have e:O2 d=decide (x=V.cj):=by cases iU<;>simp[O2]
  rw[<- e];exact fin
 ·obtain⟨rfl,rfl⟩:=(show _/\_ from h)
  obtain rfl:=re.zc;refine Tw pins s σ H _ _ v u Q I rx ry ⟨rfl,?_⟩;have e:O2 d=decide (x=V.cj):=by cases iU<;>simp[O2]
  rw[<- e];exact fin
 ·rcases h with h|⟨a,S,n,i,rfl,ha,rfl,rfl⟩
  ·exact in_of hu I rx ry R iU re h false (by simpa using fin)
  ·obtain⟨a',rfl,ra⟩:=re.m8;obtain rfl:=iU.m9;exact Zi pins s σ H _ _ v u Q I rx ry ⟨i,a',S,n,rfl,rfl,R.set ha ra,fin⟩
 ·rcases h with h|⟨a,S,n,i,rfl,ha,rfl,hb⟩
  ·exact in_of hu I rx ry R iU re h true (by simpa using fin)
  ·obtain⟨a',rfl,ra⟩:=re.m8;obtain rfl:=iU.m9;exact aB5 pins s σ H _ _ v u Q I rx ry ⟨i,a',S,n,rfl,rfl,R.set ha ra,by rw[<- hb,uF];exact fin⟩
theorem empty_eq{K ρ H}(r:c5 K ρ H l vs):l.isEmpty=vs.isEmpty:=by cases r<;>rfl
theorem Sz{K:PySem.W.Frag}(R:Rl K ρ g H)(r:f9 K ρ H d x)(h:Ic g d b):EF K x H b:=by
 rcases h with⟨rfl,rfl⟩|rfl|⟨i,rfl,rfl⟩|⟨l,rfl,rfl⟩|⟨a,l,rfl,hl,rfl⟩
 ·obtain rfl:=r.zc;rfl
 ·obtain rfl:=r.M0;rfl
 ·obtain rfl:=r.m9;rfl
 ·obtain⟨a,vs,rfl,ht,rs⟩:=r.O3;exact .inr (.inl ⟨_,ht.sq,by rw[empty_eq rs]⟩)
 ·obtain⟨a',rfl,ha⟩:=r.m8;obtain⟨vs,hq,rs⟩:=R.items hl ha;exact .inl ⟨_,hq,by rw[empty_eq rs]⟩
theorem SR{K ρ H}{i:Int}(r:c5 K ρ H l vs)(h:gI l i=some d):∃v,gI vs i=some v/\f9 K ρ H d v:=by
 unfold gI at h ⊢;rw[<- r.length];cases e:lD l.length i with
 |none=>rw[e] at h;cases h
 |some j =>
  rw[e] at h;exact r.get h
theorem wW{K ρ H}{x:D}(R:Rl K ρ g H)(r:f9 K ρ H x v)(h:O8 g x=some l):∃a vs,v=.ref a/\c5 K ρ H l vs/\((∃i,x=.ref i/\ρ[i]?=some a)/\gA K H a vs\/x=.tup l/\TupAt K H a vs):=by
 cases r with
 |tup ht rs=>cases h;exact⟨_,_,rfl,rs,.inr ⟨rfl,ht⟩⟩
 |ref ha=>obtain⟨vs,hq,rs⟩:=R.items h ha;exact⟨_,_,rfl,rs,.inl ⟨⟨_,rfl,ha⟩,hq⟩⟩
 |_=>cases h
theorem WW(hu:X.A.units+100<cLine):sW X (r2 X.K .ix):=by
 intro value slice pins s σ H x y v u Q I rx ry h hs;obtain⟨d,e,g,ρ,R,iU,re,d',g',⟨rfl,h⟩,q⟩:=h;rcases h with⟨x',l,i,ex,hl,ha⟩|⟨a,kvs,y',c,ex,ha,hc,hv⟩|⟨x',i,c,ex,h0,h1,rfl⟩
 ·obtain⟨rfl,rfl⟩:=E2 ex;obtain rfl:=re.m9;obtain⟨a,vs,rfl,rs,h⟩:=wW R iU hl;obtain⟨w,hw,gC⟩:=SR rs ha;rcases h with⟨_,hq⟩|⟨_,ht⟩
  ·exact Tg value slice pins s σ H _ _ v u Q I rx ry ⟨_,_,i,w,rfl,rfl,hq,hw,q.now R gC⟩ hs
  ·exact Qx value slice pins s σ H _ _ v u Q I rx ry ⟨_,_,i,w,rfl,rfl,ht.sq,hw,q.now R gC⟩ hs
 ·obtain⟨rfl,rfl⟩:=E2 ex;obtain⟨a',rfl,ra⟩:=iU.m8;obtain⟨vs,z,rs⟩:=R.dg ha ra;have:=Y1 hc re;subst this;have q2:=rs.val c;rw[hv] at q2;obtain⟨w,hw,gC⟩:=q2.some;exact Tf (by omega) value slice pins s σ H _ _ v u Q I rx ry ⟨_,w,rfl,by have:=P2.k (k:=c) z;rw[hw] at this;exact this,q.now R gC⟩ hs
 ·obtain⟨rfl,rfl⟩:=E2 ex;obtain rfl:=iU.C9;obtain rfl:=re.m9;exact Qw value slice pins s σ H _ _ v u Q I rx ry ⟨x',i,c,rfl,rfl,p9 h0,h1,q.now R (.str _)⟩ hs
def MO(K:PySem.W.Frag):V->Option Int->Option Int->Hp->VK->Prop:=λx lo hi H Q=>∃d g ρ d' g',Rl K ρ g H/\f9 K ρ H d x/\uW d lo hi g d' g'/\LQ K ρ H Q d' g'
theorem Ed:xh X (MO X.K):=by
 intro pins s σ H x v vl vu lo hi sl Q I rx hs pl pu h;obtain⟨d,g,ρ,d',g',R,iU,h,q⟩:=h;rcases h with⟨l,rfl,rfl,rfl⟩|⟨a,l,rfl,hl,rfl,rfl⟩
 ·obtain⟨a,vs,rfl,ht,rs⟩:=iU.O3;refine UD pins s σ H _ v vl vu lo hi sl Q I rx hs pl pu ⟨_,_,rfl,ht.sq,λz=>?_,λp hp=>q.tup R hp (rs.cut lo hi)⟩;refine q.now R (.tup ht ?_);have:=rs.cut lo hi;rw[z] at this;exact this
 ·obtain⟨a',rfl,ha⟩:=iU.m8;obtain⟨vs,hq,rs⟩:=R.items hl ha;exact UC pins s σ H _ v vl vu lo hi sl Q I rx hs pl pu ⟨_,_,rfl,hq,λp hp=>q.new R hp (rs.cut lo hi)⟩
def VO(K:PySem.W.Frag):V->V->V->Hp->(Hp->Prop)->Prop:=λo i v H Q=>∃Cf di dv g ρ,Rl K ρ g H/\f9 K ρ H Cf o/\f9 K ρ H di i/\f9 K ρ H dv v/\Z8 Cf di dv g (λg'=>∀bW H',Ext ρ H bW H'->Rl K bW g' H'->Q H')
theorem RY(hu:X.A.units+100<cLine):ED X (VO X.K):=by
 intro pins s σ H o i v ov iv u Q I ro ri rv h;obtain⟨Cf,di,dv,g,ρ,R,r1,r2,r3,g',h,q⟩:=h;rcases h with⟨a,i',l,j,rfl,rfl,hl,hj,rfl⟩|⟨a,kvs,c,rfl,ha,hc,hz,rfl⟩
 ·obtain⟨a',rfl,ha⟩:=r1.m8;obtain rfl:=r2.m9;obtain⟨vs,z,rs⟩:=R.lst hl ha;obtain⟨R',e'⟩:=R.write hl ha (rs.set r3 j);exact set_list pins s σ H _ _ _ ov iv u Q I ro ri rv ⟨_,vs,_,j,rfl,rfl,z,by rw[<- rs.length];exact hj,q ρ _ e' R'⟩
 ·obtain⟨a',rfl,ra⟩:=r1.m8;obtain⟨vs,z,rs⟩:=R.dg ha ra;have:=Y1 hc r2;subst this;obtain⟨R',e'⟩:=R.put (o':=.dg (putD kvs c dv)) (u:=.dK (putK vs c v)) ha rfl ra (rs.put r3);cases ro;exact YR (by omega) I (zG.k z (by rw[<- rs.length];exact CN hz)) ri rv λs' I'=>⟨_,I',q ρ _ e' R'⟩
theorem QE:n6 X (.builtin "len") (rN X.K .len):=by
 intro pins s σ H xs us Q I r h;obtain⟨ds,g,ρ,R,rs,d',g',⟨rfl,h⟩,q⟩:=h;rcases h with⟨x,l,rfl,hl,rfl⟩|⟨a,kvs,rfl,ha,rfl⟩|⟨x,rfl,hz,rfl⟩
 ·obtain⟨v,rfl,rv⟩:=rs.one;obtain⟨a,vs,rfl,rl,h⟩:=wW R rv hl;refine aE8 pins s σ H _ us Q I r ⟨_,_,rfl,?_,by rw[<- rl.length];exact q.now R (.int _)⟩;exact h.imp (λz=>z.2) (λz=>z.2.sq)
 ·obtain⟨v,rfl,rv⟩:=rs.one;obtain⟨a',rfl,ra⟩:=rv.m8;obtain⟨vs,z,rk⟩:=R.dg ha ra;exact YI pins s σ H _ us Q I r ⟨_,_,rfl,z,by rw[<- rk.length];exact q.now R (.int _)⟩
 ·obtain⟨v,rfl,rv⟩:=rs.one;obtain rfl:=rv.C9;exact aE7 pins s σ H _ us Q I r ⟨_,rfl,p9 hz,q.now R (.int _)⟩
theorem Dc{K ρ H}:∀(ks:List Key),c5 K ρ H (ks.map kD) (ks.map kV)
 |[]=>.nil
 |.inl _::r=>.cons (.int _) (Dc r)
 |.inr _::r=>.cons (.str _) (Dc r)
theorem i9.keys{α:Type}{K ρ H}{ds:List (α×D)}{vs:List (α×V)}(h:i9 K ρ H ds vs):ds.map (·.1)=vs.map (·.1):=by
 induction h with
 |nil=>rfl
 |cons _ _ ih=>rw[bu,bu,ih]
theorem Ti(hc:X.calm=true):n6 X (.type "list") (rN X.K .list):=by
 intro pins s σ H xs us Q I r h;obtain⟨ds,g,ρ,R,rs,d',g',⟨x,l,rfl,hl,rfl,rfl⟩|⟨a,kvs,rfl,ha,hn,rfl,rfl⟩,q⟩:=h
 rotate_left
 ·obtain⟨v,rfl,rv⟩:=rs.one;obtain⟨a',rfl,ra⟩:=rv.m8;obtain⟨vs,z,rk⟩:=R.dg ha ra;exact Yj hc pins s σ H _ us Q I r ⟨_,vs,rfl,z,by rw[<- rk.length];exact hn,λp hp=>q (ρ++[p]) _ _ (B9 hp) (R.new hp (o:=.lst ((kvs.map (·.1)).map kD)) (u:=.lst ((vs.map (·.1)).map kV)) (by rw[rk.keys];exact Dc _)) (.ref (R.x8 p))⟩
 obtain⟨v,rfl,rv⟩:=rs.one;obtain⟨a,vs,rfl,rl,h⟩:=wW R rv hl;exact aE6 pins s σ H _ us Q I r ⟨_,_,rfl,h.imp (λz=>z.2) (λz=>z.2.sq),λp hp=>q.new R hp rl⟩
theorem a10:n6 X (.type "tuple") (rN X.K .tuple):=by
 intro pins s σ H xs us Q I r h;obtain⟨ds,g,ρ,R,rs,d',g',⟨x,l,rfl,hl,rfl,rfl⟩,q⟩:=h;obtain⟨v,rfl,rv⟩:=rs.one;obtain⟨a,vs,rfl,rl,h⟩:=wW R rv hl;refine Ya pins s σ H _ us Q I r ⟨a,vs,rfl,?_⟩;exact h.imp (λz=>⟨z.2,λp hp=>q.tup R hp rl⟩) (λz=>⟨z.2.sq,q.now R (.tup z.2 rl)⟩)
theorem Te:n6 X (.builtin "isinstance") (rN X.K .isin):=by
 intro pins s σ H xs us Q I r h;obtain⟨ds,g,ρ,R,rs,d',g',⟨x,c,b,rfl,hc,hb,rfl,rfl⟩,q⟩:=h;obtain⟨v,w,rfl,r1,r2⟩:=rs.two;obtain rfl:=r2.Qa;have fin:=q.now R (.bl b);have go:∀(t:Value) (v:V),iC X.K H v t->PySem.W.kitOne X.K t (.type c)=some b->Vals [v,V.ty c] us->wpAny (model X.prog X.w) X.A (call (.builtin "isinstance") us) (EP X pins σ Q) X.xe s :=
  λt v ht hk r=>aH1 pins s σ H _ us Q I r ⟨v,t,c,b,rfl,ht,hk,fin⟩
 simp only[List.mem_cons,List.mem_nil_iff,or_false] at hc;cases r1 with
 |cj=>refine go _ _ .cj ?_ r;cases hb;rcases hc with rfl|rfl|rfl|rfl|rfl<;>rfl
 |bl y=>refine go _ _ (.bl y) ?_ r;cases hb;rcases hc with rfl|rfl|rfl|rfl|rfl<;>rfl
 |int y=>refine go _ _ (.int y) ?_ r;cases hb;rcases hc with rfl|rfl|rfl|rfl|rfl<;>rfl
 |str y=>refine go _ _ (.str y) ?_ r;cases hb;rcases hc with rfl|rfl|rfl|rfl|rfl<;>rfl
 |ty _=>cases hb
 |tup ht rs =>
  cases hb;rcases ht with ht|ht
  ·refine go _ _ (.tup ht) ?_ r;rcases hc with rfl|rfl|rfl|rfl|rfl<;>rfl
  ·obtain⟨o,ba,n,lk,jX,_⟩:=ht;obtain⟨u,w',rfl,ru,gC⟩:=vals2 r;cases (show w'=Value.type c from gC);cases ru;have hk:PySem.W.kitOne X.K (.type "tuple") (.type c)=some (c=="tuple"):=by rcases hc with rfl|rfl|rfl|rfl|rfl<;>rfl
   exact bZ Mi I.iA ⟨o,I.iA _ _ lk,jX⟩ hk (λz=>nomatch z) λtk=>⟨.bl _,H,I.tok tk,rfl,fin⟩
 |@ref i a ha =>
  have vS:∃m,g'[i]?=some (.lst m)/\b=(c=="list"):=by
   simp only[EL] at hb;split at hb
   ·exact⟨_,by assumption,(aQ hb).symm⟩
   ·cases hb
  obtain⟨m,e,rfl⟩:=vS;obtain⟨vs,z,_⟩:=R.lst e ha;refine go _ _ (.lst z) ?_ r;rcases hc with rfl|rfl|rfl|rfl|rfl<;>rfl
theorem ZK:∀{l:List D} {b:Bool},V1 l=some b->∃bs:List Bool,l=bs.map D.bl/\b=bs.all id:=by
 intro l
 induction l with
 |nil=>intro b h;cases h;exact⟨[],rfl,rfl⟩
 |cons d r ih =>
  intro b h;cases d<;>first|(cases h;done)|skip
  rename_i c;simp only[V1] at h;cases e:V1 r with
  |none=>rw[e] at h;cases h
  |some b' =>
   rw[e] at h;cases h;obtain⟨bs,rfl,rfl⟩:=ih e;exact⟨c::bs,rfl,by simp⟩
theorem c5.SE{K ρ H}:∀{bs:List Bool} {vs:List V},c5 K ρ H (bs.map D.bl) vs->vs=bs.map V.bl:=by
 intro bs
 induction bs with
 |nil=>intro vs h;cases h;rfl
 |cons b r ih =>
  intro vs h;cases h with
  |cons h rr=>rw[ih rr,h.M0];rfl
theorem Qi(hc:X.calm=true):n6 X (.builtin "all") (rN X.K .all):=by
 intro pins s σ H xs us Q I r h;obtain⟨ds,g,ρ,R,rs,d',g',⟨a,l,b,rfl,hl,hb,rfl,rfl⟩,q⟩:=h;obtain⟨v,rfl,rv⟩:=rs.one;obtain⟨a',rfl,ra⟩:=rv.m8;obtain⟨vs,hq,rs⟩:=R.items hl ra;rcases hb with hb|⟨ns,rfl,rfl⟩
 rotate_left
 ·have:=rs.ints;subst this;exact YH hc pins s σ H _ us Q I r ⟨_,ns,rfl,hq,q.now R (.bl _)⟩
 obtain⟨bs,rfl,rfl⟩:=ZK hb;have:=rs.SE;subst this;exact YG hc pins s σ H _ us Q I r ⟨_,bs,rfl,hq,q.now R (.bl _)⟩
theorem Ln{K ρ H}:∀(ns:List Int),c5 K ρ H (ns.map D.int) (ns.map V.int)
 |[]=>.nil
 |_::r=>.cons (.int _) (Ln r)
theorem a17(hc:X.calm=true):n6 X (.builtin "sorted") (rN X.K .kJ):=by
 intro pins s σ H xs us Q I r h;obtain⟨ds,g,ρ,R,rs,d',g',z|⟨x,ns,rfl,hx,hn,rfl,rfl⟩,q⟩:=h
 rotate_left
 ·obtain⟨v,rfl,rv⟩:=rs.one;obtain⟨a,vs,rfl,rl,h⟩:=wW R rv hx;have:=rl.ints;subst this;exact Yk pins s σ H _ us Q I r ⟨_,ns,rfl,h.imp (λz=>z.2) (λz=>z.2.sq),hn,λp hp=>q (ρ++[p]) _ _ (B9 hp) (R.new hp (o:=.lst ((J7 ns).map .int)) (u:=.lst ((J7 ns).map V.int)) (Ln _)) (.ref (R.x8 p))⟩
 exact z.elim
theorem QN(hc:X.calm=true):n6 X (.builtin "max") (rN X.K .max):=by
 intro pins s σ H xs us Q I r h;obtain⟨ds,g,ρ,R,rs,d',g',⟨rfl,⟨i,j,rfl,rfl⟩|⟨a,ns,M,rfl,hl,h1,h2,rfl⟩⟩,q⟩:=h
 rotate_left
 ·obtain⟨v,rfl,rv⟩:=rs.one;obtain⟨a',rfl,ra⟩:=rv.m8;obtain⟨vs,hq,rs⟩:=R.items hl ra;have:=rs.ints;subst this;exact YK hc pins s σ H _ us Q I r ⟨_,ns,M,rfl,hq,h1,h2,q.now R (.int _)⟩
 obtain⟨v,w,rfl,r1,r2⟩:=rs.two;obtain rfl:=r1.m9;obtain rfl:=r2.m9;exact YJ hc pins s σ H _ us Q I r ⟨i,j,rfl,q.now R (.int _)⟩
theorem QO(hc:X.calm=true):n6 X (.builtin "min") (rN X.K .min):=by
 intro pins s σ H xs us Q I r h;obtain⟨ds,g,ρ,R,rs,d',g',⟨rfl,⟨i,j,rfl,rfl⟩|⟨a,ns,M,rfl,hl,h1,h2,rfl⟩⟩,q⟩:=h
 rotate_left
 ·obtain⟨v,rfl,rv⟩:=rs.one;obtain⟨a',rfl,ra⟩:=rv.m8;obtain⟨vs,hq,rs⟩:=R.items hl ra;have:=rs.ints;subst this;exact YN hc pins s σ H _ us Q I r ⟨_,ns,M,rfl,hq,h1,h2,q.now R (.int _)⟩
 obtain⟨v,w,rfl,r1,r2⟩:=rs.two;obtain rfl:=r1.m9;obtain rfl:=r2.m9;exact YL hc pins s σ H _ us Q I r ⟨i,j,rfl,q.now R (.int _)⟩
theorem Sl(hc:X.calm=true):n6 X (.builtin "sum") (rN X.K .sum):=by
 intro pins s σ H xs us Q I r h;obtain⟨ds,g,ρ,R,rs,d',g',⟨a,ns,rfl,hl,rfl,rfl⟩,q⟩:=h;obtain⟨v,rfl,rv⟩:=rs.one;obtain⟨a',rfl,ra⟩:=rv.m8;obtain⟨vs,hq,rs⟩:=R.items hl ra;have:=rs.ints;subst this;exact YO hc pins s σ H _ us Q I r ⟨_,ns,rfl,hq,q.now R (.int _)⟩
theorem Qv:n6 X (.type "int") (rN X.K .int):=by
 intro pins s σ H xs us Q I r h;obtain⟨ds,g,ρ,R,rs,d',g',⟨rfl,h⟩,q⟩:=h;rcases h with⟨i,rfl,rfl⟩|⟨b,rfl,rfl⟩
 ·obtain⟨v,rfl,rv⟩:=rs.one;obtain rfl:=rv.m9;exact IV pins s σ H _ us Q I r (.inl ⟨i,rfl,q.now R (.int _)⟩)
 ·obtain⟨v,rfl,rv⟩:=rs.one;obtain rfl:=rv.M0;exact IV pins s σ H _ us Q I r (.inr ⟨b,rfl,q.now R (.int _)⟩)
def rM(K:PySem.W.Frag)(p:Pr):V->List V->Hp->VK->Prop:=λx xs H Q=>∃d ds g ρ,Rl K ρ g H/\f9 K ρ H d x/\c5 K ρ H ds xs/\da p (d::ds) g (LQ K ρ H Q)
theorem zx{a b:D}{m:List D}(h:a::l=b::m):a=b/\l=m:=by cases h;exact⟨rfl,rfl⟩
theorem a02:oj X "list.append" (rM X.K .append):=by
 intro pins s σ H x xs v us Q I rx r h;obtain⟨d,ds,g,ρ,R,rd,rs,d',g',⟨a,y,l,ex,ha,hz,rfl,rfl⟩,q⟩:=h;obtain⟨rfl,rfl⟩:=zx ex;obtain⟨a',rfl,ra⟩:=rd.m8;obtain⟨w,rfl,gC⟩:=rs.one;obtain⟨vs,z1,rv⟩:=R.lst ha ra;obtain⟨R2,e2⟩:=R.write ha ra (rv.append (.cons gC .nil));exact Zf pins s σ H _ _ v us Q I rx r ⟨_,vs,_,rfl,rfl,z1,by rw[<- rv.length];exact CN hz,q ρ _ _ e2 R2 .cj⟩
theorem i9.LK{K ρ H}:∀ks:List Int,i9 K ρ H (ks.map λk=>((.inl k:Key),D.bl true)) (ks.map λk=>((.inl k:Key),V.bl true))
 |[]=>.nil
 |_::ks=>.cons (.bl true) (i9.LK ks)
theorem Jg{K ρ H}:∀{ks:List Int} {vs:List V},c5 K ρ H (ks.map λk=>.tup [.int k,.bl true]) vs->∃ts:List Addr,vs=ts.map V.ref/\ts.length=ks.length/\∀(i:Nat) t k,ts[i]?=some t->ks[i]?=some k->iW K H t [.int k,.bl true]
 |[],_,h=>by cases h;exact⟨[],rfl,rfl,λi t k z=>by cases i<;>cases z⟩
 |k::ks,_,h=>by
  cases h with
  |cons r rs =>
  obtain⟨ts,rfl,hl,ht⟩:=Jg rs;obtain⟨a,vs,rfl,h1,h2⟩:=r.O3;refine⟨a::ts,rfl,by simp[hl],λi t k' e1 e2=>?_⟩;cases i with
  |zero =>
   cases e1;cases e2;cases h2 with
   |cons r1 r2 =>
   cases r2 with
   |cons r2 r3 =>
   cases r3;cases r1;cases r2;exact h1.sq
  |succ i=>exact ht i t k' e1 e2
theorem a75(hc:X.calm=true):n6 X (.type "dict") (rN X.K .kU):=by
 intro pins s σ H xs us Q I r h;obtain⟨ds,g,ρ,R,rs,d',g',⟨a,kvs,rfl,ha,rfl,rfl⟩|⟨a,ks,rfl,ha,hz,nd,rfl,rfl⟩,q⟩:=h
 ·obtain⟨v,rfl,rv⟩:=rs.one;obtain⟨a',rfl,ra⟩:=rv.m8;obtain⟨vs,z1,rk⟩:=R.dg ha ra;cases r with
  |cons r rr =>
  cases rr;cases r;refine a76 I (.inl z1) λp s' hp I'=>⟨.ref p,_,I',rfl,?_⟩
  exact q (ρ++[p]) _ _ (B9 hp) (R.new hp (o:=.dg kvs) (u:=.dK vs) rk) (.ref (R.x8 p))
 ·obtain⟨v,rfl,rv⟩:=rs.one;obtain⟨a',rfl,ra⟩:=rv.m8;obtain⟨vs,z1,rk⟩:=R.items ha ra;obtain⟨ts,rfl,hl,ht⟩:=Jg rk;refine Yu hc pins s σ H _ us Q I r ⟨a',ts,ks,rfl,z1,hl,ht,by omega,nd,λp hp=>?_⟩;exact q (ρ++[p]) _ _ (B9 hp) (R.new hp (o:=.dg (ks.map λk=>(.inl k,.bl true))) (u:=.dK (ks.map λk=>(.inl k,.bl true))) (i9.LK ks)) (.ref (R.x8 p))
theorem Qs(hu:X.A.units+100<cLine):oj X "dict.get" (rM X.K .get):=by
 intro pins s σ H x xs v us Q I rx r h;obtain⟨d,ds,g,ρ,R,rd,rs,d',g',⟨a,y,z,kvs,c,ex,ha,hc,rfl,rfl⟩,q⟩:=h;obtain⟨rfl,rfl⟩:=zx ex;obtain⟨a',rfl,ra⟩:=rd.m8;obtain⟨w1,w2,rfl,r1,r2⟩:=rs.two;obtain⟨vs,z1,rv⟩:=R.dg ha ra;have:=Y1 hc r1;subst this;obtain⟨u1,u2,rfl,p1,p2⟩:=vals2 r;cases rx;refine Qn (by omega) I (P2.k z1) p1 p2 λw' s4 I4 gC=>⟨_,H,I4,gC,q.now R ?_⟩
 have q:=rv.val c;cases e1:u4 kvs c with
 |none =>
  rw[e1] at q;cases e2:L1 vs c with
  |none=>exact r2
  |some w=>rw[e2] at q;exact q.elim
 |some d' =>
  rw[e1] at q;obtain⟨w,hw,q⟩:=q.some;rw[hw];exact q
theorem a43:oj X "list.pop" (rM X.K .pop):=by
 intro pins s σ H x xs v us Q I rx r h;obtain⟨d,ds,g,ρ,R,rd,rs,y,g',⟨a,i,l,k,ex,ha,h1,h2,hk,hy,rfl⟩,q⟩:=h;obtain⟨rfl,rfl⟩:=zx ex;obtain⟨a',rfl,ra⟩:=rd.m8;obtain⟨w,rfl,gC⟩:=rs.one;obtain rfl:=gC.m9;obtain⟨vs,z1,rv⟩:=R.lst ha ra;obtain⟨w,hw,gC⟩:=rv.get hy;obtain⟨R2,e2⟩:=R.write ha ra (rv.erase k);exact a58 pins s σ H _ _ v us Q I rx r ⟨_,vs,i,k,w,rfl,rfl,z1,h1,h2,by rw[<- rv.length];exact hk,hw,q ρ _ _ e2 R2 (gC.ext e2)⟩
theorem c5.strs{K ρ H}{ys:List Str}(h:c5 K ρ H (ys.map D.str) vs):vs=ys.map V.str:=by
 induction ys generalizing vs with
 |nil=>cases h;rfl
 |cons y ys ih =>
  cases h with
  |cons q r=>cases q;rw[ih r];rfl
theorem ty_list(R:Rl X.K ρ g H)(r:f9 X.K ρ H d v)(h:∃a l,d=.ref a/\d5 g a=some l):oq X.K "list" v H:=by
 obtain⟨a,l,rfl,hl⟩:=h;obtain⟨a',rfl,ra⟩:=r.m8;obtain⟨vs,hq,_⟩:=R.items hl ra;exact .inl ⟨rfl,vs,hq⟩
theorem Um:oj X "set.add" (rM X.K .kL):=by
 intro pins s σ H x xs v us Q I rx r h;obtain⟨d,ds,g,ρ,R,rd,rs,d',g',⟨a,i,S,n,ex,ha,hn,rfl,rfl⟩,q⟩:=h;obtain⟨rfl,rfl⟩:=zx ex;obtain⟨a',rfl,ra⟩:=rd.m8;obtain⟨w,rfl,gC⟩:=rs.one;obtain rfl:=gC.m9;obtain⟨R2,e2⟩:=R.put (o':=.set (λk=>S k||decide (k=i)) (if S i then n else n+1)) (u:=.set (λk=>S k||decide (k=i)) (if S i then n else n+1)) ha rfl ra ⟨rfl,rfl⟩;exact aO1 pins s σ H _ _ v us Q I rx r ⟨_,i,S,n,rfl,rfl,R.set ha ra,hn,q ρ _ _ e2 R2 .cj⟩
theorem ty_set(R:Rl X.K ρ g H)(r:f9 X.K ρ H d v)(h:mY .kL d g):oq X.K "set" v H:=by
 obtain⟨a,S,n,rfl,hl⟩:=h;obtain⟨a',rfl,ra⟩:=r.m8;exact .inr (.inr (.inr ⟨rfl,S,n,R.set hl ra⟩))
theorem ty_dict(R:Rl X.K ρ g H)(r:f9 X.K ρ H d v)(h:mY .get d g):oq X.K "dict" v H:=by
 obtain⟨a,l,rfl,hl⟩:=h;obtain⟨a',rfl,ra⟩:=r.m8;obtain⟨vs,hq,_⟩:=R.dg hl ra;exact .inr (.inr (.inl ⟨rfl,.inl ⟨vs,hq⟩⟩))
noncomputable abbrev jf:=List Str×XK
def LX(K:PySem.W.Frag)(ρ:List Addr)(H:Hp)(Ξ:jf):KX:=λx g'=>∀bW H' C,Ext ρ H bW H'->Rl K bW g' H'->x.cls∈Ξ.1->x4 K x.cls C->Ξ.2 (.ref C) none H'
theorem LX.ext{K:PySem.W.Frag}{ρ cu:List Addr}{H H1:Hp}{Ξ:jf}(e:Ext ρ H cu H1){x:Xn}{g:G}(h:LX K ρ H Ξ x g):LX K cu H1 Ξ x g:=λbW H' C e' R hm c=>h bW H' C (e.trans e') R hm c
noncomputable abbrev sV(ex:List Str):jf:=(ex,λ_ _ _=>False)
def LE(K:PySem.W.Frag)(Ξ:jf)(t:S->G->KD->KX->Prop):TE:=λcx H Q=>∃σ g ρ,u3 K ρ H σ cx/\Rl K ρ g H/\t σ g (LQ K ρ H Q) (LX K ρ H Ξ)
def LT(K:PySem.W.Frag)(Ξ:jf)(t:S->G->(Bool->G->Prop)->KX->Prop):TT:=λcx H Q=>∃σ g ρ,u3 K ρ H σ cx/\Rl K ρ g H/\t σ g (λb g'=>∀bW H',Ext ρ H bW H'->Rl K bW g' H'->Q b H') (LX K ρ H Ξ)
def LA(K:PySem.W.Frag)(Ξ:jf)(t:S->G->(List D->G->Prop)->KX->Prop):TA:=λcx H Q=>∃σ g ρ,u3 K ρ H σ cx/\Rl K ρ g H/\t σ g (λds g'=>∀bW H' vs,Ext ρ H bW H'->Rl K bW g' H'->c5 K bW H' ds vs->Q vs H') (LX K ρ H Ξ)
def qt(K:PySem.W.Frag)(gQ:List Addr)(H0:Hp)(k:IK)(J:It):Prop:=∀ρ g H,Ext gQ H0 ρ H->Rl K ρ g H->∀i,(k.at i g=some none->J.stop i H) /\
 ∀d,k.at i g=some (some d)->J.go i H/\∀v H',J.qP i H v H'->Ext ρ H ρ H'/\Rl K ρ g H'/\f9 K ρ H' d v
def LI(K:PySem.W.Frag)(Ξ:jf)(t:S->G->(IK->G->Prop)->KX->Prop):TI:=λcx H R=>∃σ g ρ,u3 K ρ H σ cx/\Rl K ρ g H/\t σ g (λk g'=>∀bW H' J,Ext ρ H bW H'->Rl K bW g' H'->qt K bW H' k J->R J H') (LX K ρ H Ξ)
def LG(K:PySem.W.Frag)(t:MT):TG:=λv cx H Q=>∃d σ g ρ,u3 K ρ H σ cx/\Rl K ρ g H/\f9 K ρ H d v/\kj t d σ (λcI=>∀dN,u3 K ρ H cI dN->Q dN H)
def LN(K:PySem.W.Frag)(ρ:List Addr)(H:Hp)(N:L2.Ends):Ends where
 nx:=λcI g'=>∀bW H' dN,Ext ρ H bW H'->Rl K bW g' H'->u3 K bW H' cI dN->N.nx dN H'
 rt:=LQ K ρ H N.rt
 bk:=λcI g'=>∀bW H' dN,Ext ρ H bW H'->Rl K bW g' H'->u3 K bW H' cI dN->N.bk dN H'
 ct:=λcI g'=>∀bW H' dN,Ext ρ H bW H'->Rl K bW g' H'->u3 K bW H' cI dN->N.ct dN H'
def LS(K:PySem.W.Frag)(Ξ:jf)(t:Ends->S->G->KX->Prop):TS:=λN cx H=>∃σ g ρ,u3 K ρ H σ cx/\Rl K ρ g H/\t (LN K ρ H N) σ g (LX K ρ H Ξ)
end M
namespace L2
open PySem PySem.Spec PyProof.Rows
variable{t t':TT}
section
variable{X:Cx}{e:Expr}
theorem PE.imp{t t':TE}(h:PE X e t)(i:∀σ H Q,t' σ H Q->t σ H Q):PE X e t':=λpins s σ H Q I q=>h pins s σ H Q I (i σ H Q q)
theorem PT.imp(h:PT X e t)(i:∀σ H Q,t' σ H Q->t σ H Q):PT X e t':=λpins s σ H Q I q=>h pins s σ H Q I (i σ H Q q)
theorem PW.imp(h:PW X e t)(i:∀σ H Q,t' σ H Q->t σ H Q):PW X e t':=λw pins s σ H Q I q=>h w pins s σ H Q I (i σ H Q q)
theorem PA.imp{es:List Expr}{t t':TA}(h:PA X es t)(i:∀σ H Q,t' σ H Q->t σ H Q):PA X es t':=λp pins s σ H Q I q=>h p pins s σ H Q I (i σ H Q q)
theorem lZ.imp{es:List Expr}(h:lZ X es t)(i:∀σ H Q,t' σ H Q->t σ H Q):lZ X es t':=λpins s σ H Q I q=>h pins s σ H Q I (i σ H Q q)
theorem PI.imp{tg:Expr}{t t':TI}(h:PI X tg e t)(i:∀σ H Q,t' σ H Q->t σ H Q):PI X tg e t':=λpins s σ H Q I q=>h pins s σ H Q I (i σ H Q q)
theorem PG.imp{t t':TG}(h:PG X e t)(i:∀v σ H Q,t' v σ H Q->t v σ H Q):PG X e t':=λpins s σ H v u Q I r q=>h pins s σ H v u Q I r (i v σ H Q q)
theorem PS.imp{st:Stmt}{t t':TS}(h:PS X st t)(i:∀N σ H,t' N σ H->t N σ H):PS X st t':=λpins s σ H N I q=>h pins s σ H N I (i N σ H q)
theorem kW.imp{st:List Stmt}{t t':TS}(h:kW X st t)(i:∀N σ H,t' N σ H->t N σ H):kW X st t':=λpins s σ H N I q=>h pins s σ H N I (i N σ H q)
end
end L2
namespace M
open PySem L2 PySem.Spec PyProof.Rows
variable{Ξ:jf}{P:gh}{op iV:CmpOp}{rest es:List Expr}{iD:ME}{p2 q km:Pos}
section
variable{K:PySem.W.Frag}(hP:j9 P){ρ gQ:List Addr}{H H0:Hp}{σ:S}{cx:L2.St}{g:G}{m:ME}
include hP
theorem fT{Q0:KD}{Q:VK}(s:u3 K ρ H σ cx)(R:Rl K ρ g H)(e0:Ext gQ H0 ρ H)(h:bh P m σ g Q0 (LX K gQ H0 Ξ))(k:∀x g1 cu H1 v1,Ext ρ H cu H1->Rl K cu g1 H1->f9 K cu H1 x v1->Q0 x g1->Q v1 H1):LE K Ξ (bh P m) cx H Q :=
 ⟨σ,g,ρ,s,R,c7 hP m _ _ _ _ _ _ (λx g1 h cu H1 v1 e1 R1 r1=>k x g1 cu H1 v1 e1 R1 r1 h) (λ_ _ z=>LX.ext e0 z) h⟩
theorem kZ{Q0:List D->G->Prop}{Q:List V->Hp->Prop}(s:u3 K ρ H σ cx)(R:Rl K ρ g H)(e0:Ext gQ H0 ρ H)(h:gB P m σ g Q0 (LX K gQ H0 Ξ))(k:∀x g1 cu H1 v1,Ext ρ H cu H1->Rl K cu g1 H1->c5 K cu H1 x v1->Q0 x g1->Q v1 H1):LA K Ξ (gB P m) cx H Q :=
 ⟨σ,g,ρ,s,R,A2 hP m _ _ _ _ _ _ (λx g1 h cu H1 v1 e1 R1 r1=>k x g1 cu H1 v1 e1 R1 r1 h) (λ_ _ z=>LX.ext e0 z) h⟩
theorem qR{Q0:Bool->G->Prop}{Q:Bool->Hp->Prop}(s:u3 K ρ H σ cx)(R:Rl K ρ g H)(e0:Ext gQ H0 ρ H)(h:dC P m σ g Q0 (LX K gQ H0 Ξ))(k:∀t g1 cu H1,Ext ρ H cu H1->Rl K cu g1 H1->Q0 t g1->Q t H1):LT K Ξ (dC P m) cx H Q :=
 ⟨σ,g,ρ,s,R,u6 hP m _ _ _ _ _ _ (λt g1 h cu H1 e1 R1=>k t g1 cu H1 e1 R1 h) (λ_ _ z=>LX.ext e0 z) h⟩
theorem uQ{ms:MS}{N:L2.Ends}{N0:Ends}(s:u3 K ρ H σ cx)(R:Rl K ρ g H)(e0:Ext gQ H0 ρ H)(h:wpS P ms N0 σ g (LX K gQ H0 Ξ))(k:N0.le (LN K ρ H N)):LS K Ξ (wpS P ms) N cx H :=
 ⟨σ,g,ρ,s,R,wpS_mono hP ms _ _ _ _ _ _ k (λ_ _ z=>LX.ext e0 z) h⟩
end
theorem c5.mW{K ρ H}(lo:Int)(n:Nat):c5 K ρ H (l9 lo n) ((List.range n).map λ(k:Nat)=>V.int (lo+k)):=by
 unfold l9;have:∀l:List Nat,c5 K ρ H (l.map λ(k:Nat)=>D.int (lo+k)) (l.map λ(k:Nat)=>V.int (lo+k)):=by
  intro l
  induction l with
  |nil=>exact .nil
  |cons x r ih=>exact .cons (.int _) ih
 exact this _
section
variable{X:Cx}(hP:j9 P){a b c e:Expr}{ma mb mc:ME}{pos:Pos}{p:Pr}
include hP
theorem EB(h:PE X e (tq (r2 X.K p) (LE X.K Ξ (bh P ma)) (LE X.K Ξ (bh P mb)))):PE X e (LE X.K Ξ (bh P (.prim p (.cons ma (.cons mb .nil))))) :=
 h.imp λcx H Q bC=>by
  obtain⟨σ,g,ρ,s,R,h⟩:=bC;exact fT hP s R (.refl _ _) h λx g1 cu H1 v1 e1 R1 r1 h=>fT hP (s.ext e1) R1 e1 h λy g2 fS H2 v2 e2 R2 r2 h =>
   ⟨x,y,g2,fS,R2,r1.ext e2,r2,v9 (λd g' h=>h.ext (e1.trans e2)) h⟩
theorem Sj(h:PT X e (Eg (tq (r2 X.K (.cmp op)) (LE X.K Ξ (bh P ma)) (LE X.K Ξ (bh P mb))))):PT X e (LT X.K Ξ (dC P (.gi (.prim (.cmp op) (.cons ma (.cons mb .nil)))))) :=
 h.imp λcx H Q bC=>by
  obtain⟨σ,g,ρ,s,R,h⟩:=bC;refine fT hP s R (.refl _ _) h λx g1 cu H1 v1 e1 R1 r1 h=>fT hP (s.ext e1) R1 e1 h λy g2 fS H2 v2 e2 R2 r2 h=>?_;obtain⟨d',g',h,q⟩:=h;obtain⟨x',y',t,ex,hc,rfl,rfl⟩:=id h;refine⟨x,y,g',fS,R2,r1.ext e2,r2,_,_,h,λbW H' v e' R' r'=>?_⟩;obtain⟨t',ht,q⟩:=q;rcases ht with⟨z,_⟩|z|⟨i,z,_⟩|⟨l,z,_⟩|⟨a,l,z,_⟩<;>cases z
  exact⟨_,r'.M0,q bW H' (e1.trans (e2.trans e')) R'⟩
theorem XM{op:UnaryOp}(ha:PE X a (LE X.K Ξ (bh P ma))):PE X (.UnaryOp op a pos) (LE X.K Ξ (bh P (.prim (.un op) (.cons ma .nil)))) :=
 (Xx (Xp op) ha).imp λcx H Q bC=>by
  obtain⟨σ,g,ρ,s,R,h⟩:=bC;exact fT hP s R (.refl _ _) h λx g1 cu H1 v1 e1 R1 r1 h=>⟨x,g1,cu,R1,r1,v9 (λd g' h=>h.ext e1) h⟩
theorem Lh:∀cx H Q,LE X.K Ξ (bh P (.chain op iV ma mb mc)) cx H Q->Cr (r2 X.K (.cmp op)) (r2 X.K (.cmp iV)) (LE X.K Ξ (bh P ma)) (LE X.K Ξ (bh P mb)) (LE X.K Ξ (bh P mc)) cx H Q:=λcx H Q bC=>by
 obtain⟨σ,g,ρ,s,R,h⟩:=bC;refine fT hP s R (.refl _ _) h λx g1 cu H1 v1 e1 R1 r1 h=>fT hP (s.ext e1) R1 e1 h λy g2 fS H2 v2 e2 R2 r2 h=>?_;refine⟨x,y,g2,fS,R2,r1.ext e2,r2,v9 (λd g3 h lA H3 v3 e3 R3 r3=>?_) h⟩;obtain⟨t,rfl,h⟩:=h;obtain rfl:=r3.M0;refine⟨t,rfl,?_⟩;cases t
 ·exact h lA H3 _ (e1.trans (e2.trans e3)) R3 (.bl _)
 ·exact fT hP (s.ext (e1.trans (e2.trans e3))) R3 (e1.trans (e2.trans e3)) h λz g4 qO H4 v4 e4 R4 r4 h =>
   ⟨y,z,g4,qO,R4,r2.ext (e3.trans e4),r4,v9 (λd g' h=>h.ext (e1.trans (e2.trans (e3.trans e4)))) h⟩
theorem a27(hu:X.A.units+100<cLine)(ha:PE X a (LE X.K Ξ (bh P ma)))(hb:PE X b (LE X.K Ξ (bh P mb)))(hc:PE X c (LE X.K Ξ (bh P mc)))(hm:lastMarks [op,iV] [b,c]=false) :
  PE X (.Compare a [op,iV] [b,c] pos) (LE X.K Ξ (bh P (.chain op iV ma mb mc))):=(a50 (X9 hu op) (X9 hu iV) ha hb hc hm).imp (Lh hP)
theorem a78{σ:S}{g:G}{Q:Bool->G->Prop}{E:KX}(h:dC P (.gi (.chain op iV ma mb mc)) σ g Q E):bh P (.chain op iV ma mb mc) σ g (λd g'=>∃t,d=.bl t/\Q t g') E:=by
 have one:∀{o:CmpOp} {xs:List D} {g:G},da (.cmp o) xs g (λd g1=>qx g1 d λb=>Q b g1)->da (.cmp o) xs g λd g'=>∃t,d=.bl t/\Q t g':=by
  intro o xs g h;obtain⟨d',g',h,t',ht,q⟩:=h;obtain⟨x',y',t,ex,hc,rfl,rfl⟩:=id h;refine⟨_,_,h,t',?_,q⟩;rcases ht with⟨z,_⟩|z|⟨i,z,_⟩|⟨l,z,_⟩|⟨a,l,z,_⟩<;>first|exact z|cases z
 refine c7 hP ma _ _ _ _ _ _ (λx g1 h=>c7 hP mb _ _ _ _ _ _ (λy g2 h=>v9 (λz g3 h=>?_) h) (λ_ _ z=>z) h) (λ_ _ z=>z) h;obtain⟨t,rfl,h⟩:=h;refine⟨t,rfl,?_⟩;cases t
 ·obtain⟨b,hb,q⟩:=(show qx g3 (.bl false) λb=>Q b g3 from h)
  rcases hb with⟨z,_⟩|z|⟨i,z,_⟩|⟨l,z,_⟩|⟨a,l,z,_⟩<;>first|(cases z;exact⟨_,rfl,q⟩)|cases z
 ·exact c7 hP mc _ _ _ _ _ _ (λw g4 h=>one h) (λ_ _ z=>z) h
theorem a16(hu:X.A.units+100<cLine)(ha:PE X a (LE X.K Ξ (bh P ma)))(hb:PE X b (LE X.K Ξ (bh P mb)))(hc:PE X c (LE X.K Ξ (bh P mc)))(hm:lastMarks [op,iV] [b,c]=false) :
  PT X (.Compare a [op,iV] [b,c] pos) (LT X.K Ξ (dC P (.gi (.chain op iV ma mb mc)))) :=
 (a38 (X9 hu op) (X9 hu iV) ha hb hc hm).imp λcx H Q ⟨σ,g,ρ,s,R,h⟩ =>
  Lh hP cx H _ (fT hP s R (.refl _ _) (a78 hP h) λx g1 cu H1 v1 e1 R1 r1 h=>by
   obtain⟨t,rfl,h⟩:=h;exact ⟨t,r1.M0,h cu H1 e1 R1⟩)
theorem RL(ha:PE X a (LE X.K Ξ (bh P ma)))(hb:PE X (.BoolOp .And (b::rest) pos) (LE X.K Ξ (bh P mb))):PE X (.BoolOp .And (a::b::rest) pos) (LE X.K Ξ (bh P (.eI ma mb))) :=
 (Rh ha hb).imp λcx H Q bC=>by
  obtain⟨σ,g,ρ,s,R,h⟩:=bC;refine fT hP s R (.refl _ _) h λx g1 cu H1 v1 e1 R1 r1 h=>?_;obtain⟨t,rfl,h⟩:=h;refine⟨t,r1.M0,?_⟩;cases t
  ·exact h cu H1 _ e1 R1 (.bl _)
  ·exact fT hP (s.ext e1) R1 e1 h λy g2 fS H2 v2 e2 R2 r2 h=>h fS H2 v2 (e1.trans e2) R2 r2
theorem XJ(ha:PE X a (LE X.K Ξ (bh P ma)))(hb:PE X (.BoolOp .Or (b::rest) pos) (LE X.K Ξ (bh P mb))):PE X (.BoolOp .Or (a::b::rest) pos) (LE X.K Ξ (bh P (.jT ma mb))) :=
 (Xw ha hb).imp λcx H Q bC=>by
  obtain⟨σ,g,ρ,s,R,h⟩:=bC;refine fT hP s R (.refl _ _) h λx g1 cu H1 v1 e1 R1 r1 h=>?_;obtain⟨t,rfl,h⟩:=h;refine⟨t,r1.M0,?_⟩;cases t
  ·exact fT hP (s.ext e1) R1 e1 h λy g2 fS H2 v2 e2 R2 r2 h=>h fS H2 v2 (e1.trans e2) R2 r2
  ·exact h cu H1 _ e1 R1 (.bl _)
theorem RU(ha:PE X a (LE X.K Ξ (bh P ma))):PE X (.UnaryOp .Not a pos) (LE X.K Ξ (bh P (.eU ma))) :=
 (Ro ha).imp λcx H Q bC=>by
  obtain⟨σ,g,ρ,s,R,h⟩:=bC;refine fT hP s R (.refl _ _) h λx g1 cu H1 v1 e1 R1 r1 h=>?_;obtain⟨t,rfl,h⟩:=h;exact⟨t,r1.M0,h cu H1 _ e1 R1 (.bl _)⟩
theorem RS(hc:PT X c (LT X.K Ξ (dC P mc)))(ha:PE X a (LE X.K Ξ (bh P ma)))(hb:PE X b (LE X.K Ξ (bh P mb))):PE X (.IfExp c a b pos) (LE X.K Ξ (bh P (.ite mc ma mb))) :=
 (a48 hc ha hb).imp λcx H Q bC=>by
  obtain⟨σ,g,ρ,s,R,h⟩:=bC;refine qR hP s R (.refl _ _) h λt g1 cu H1 e1 R1 h=>?_;cases t
  ·exact fT hP (s.ext e1) R1 e1 h λy g2 fS H2 v2 e2 R2 r2 h=>h fS H2 v2 (e1.trans e2) R2 r2
  ·exact fT hP (s.ext e1) R1 e1 h λy g2 fS H2 v2 e2 R2 r2 h=>h fS H2 v2 (e1.trans e2) R2 r2
theorem RV{k:Nat}(h:PA X es (LA X.K Ξ (gB P iD))):PE X (.Tuple es k pos) (LE X.K Ξ (bh P (.prim .tup iD))) :=
 (Rq h).imp λcx H Q bC=>by
  obtain⟨σ,g,ρ,s,R,h⟩:=bC;refine kZ hP s R (.refl _ _) h λds g1 cu H1 vs e1 R1 r1 h=>?_;obtain⟨d',g',⟨hz,rfl,rfl⟩,q⟩:=h;exact⟨by rw[<- r1.length];exact p9 (aF hz (by decide)),λp hp=>(q.ext e1).tup R1 hp r1⟩
theorem RT(h:PA X es (LA X.K Ξ (gB P iD))):PE X (.List es pos) (LE X.K Ξ (bh P (.prim .lst iD))) :=
 (Rm h).imp λcx H Q bC=>by
  obtain⟨σ,g,ρ,s,R,h⟩:=bC;refine kZ hP s R (.refl _ _) h λds g1 cu H1 vs e1 R1 r1 h=>?_;obtain⟨d',g',⟨hz,rfl,rfl⟩,q⟩:=h;exact⟨by rw[<- r1.length];exact p9 (aF hz (by decide)),λp hp=>(q.ext e1).new R1 hp r1⟩
theorem O4:PA X [] (LA X.K Ξ (gB P .nil)) :=
 (X8 (X:=X)).imp λcx H Q bC=>by
  obtain⟨σ,g,ρ,s,R,h⟩:=bC;exact h ρ H [] (.refl _ _) R .nil
theorem E3(ha:PE X a (LE X.K Ξ (bh P ma)))(h:PA X es (LA X.K Ξ (gB P iD)))(hs:starEach (a::es) X.env=(false,eval a X.env)::starEach es X.env):PA X (a::es) (LA X.K Ξ (gB P (.cons ma iD))) :=
 (Q4 ha h hs).imp λcx H Q bC=>by
  obtain⟨σ,g,ρ,s,R,h⟩:=bC;exact fT hP s R (.refl _ _) h λx g1 cu H1 v1 e1 R1 r1 h=>kZ hP (s.ext e1) R1 e1 h λxs g2 fS H2 vs e2 R2 r2 h=>h fS H2 _ (e1.trans e2) R2 (.cons (r1.ext e2) r2)
theorem a21(ha:PE X a (LE X.K Ξ (bh P ma))):PE X (.Subscript a (.Slice none none none p2) pos) (LE X.K Ξ (bh P (.prim (.ot false false) (.cons ma .nil)))) :=
 (Df Ed ha zw zw).imp λcx H Q bC=>by
  obtain⟨σ,g,ρ,s,R,h⟩:=bC;refine fT hP s R (.refl _ _) h λx g1 cu H1 v1 e1 R1 r1 h=>?_;obtain⟨d',g',⟨x',ex,h⟩,q⟩:=h;cases ex;exact⟨x,g1,cu,d',g',R1,r1,h,q.ext e1⟩
theorem a19(ha:PE X a (LE X.K Ξ (bh P ma)))(hb:PE X b (LE X.K Ξ (bh P mb))):PE X (.Subscript a (.Slice (some b) none none p2) pos) (LE X.K Ξ (bh P (.prim (.ot true false) (.cons ma (.cons mb .nil))))) :=
 (Df Ed ha (KP hb) zw).imp λcx H Q bC=>by
  obtain⟨σ,g,ρ,s,R,h⟩:=bC;refine fT hP s R (.refl _ _) h λx g1 cu H1 v1 e1 R1 r1 h=>fT hP (s.ext e1) R1 e1 h λy g2 fS H2 v2 e2 R2 r2 h=>?_;obtain⟨d',g',⟨x',i,ex,h⟩,q⟩:=h;cases ex;exact⟨i,r2.m9,x,g2,fS,d',g',R2,r1.ext e2,h,q.ext (e1.trans e2)⟩
theorem a20(ha:PE X a (LE X.K Ξ (bh P ma)))(hb:PE X b (LE X.K Ξ (bh P mb))):PE X (.Subscript a (.Slice none (some b) none p2) pos) (LE X.K Ξ (bh P (.prim (.ot false true) (.cons ma (.cons mb .nil))))) :=
 (Df Ed ha zw (KP hb)).imp λcx H Q bC=>by
  obtain⟨σ,g,ρ,s,R,h⟩:=bC;refine fT hP s R (.refl _ _) h λx g1 cu H1 v1 e1 R1 r1 h=>fT hP (s.ext e1) R1 e1 h λy g2 fS H2 v2 e2 R2 r2 h=>?_;obtain⟨d',g',⟨x',i,ex,h⟩,q⟩:=h;cases ex;exact⟨i,r2.m9,x,g2,fS,d',g',R2,r1.ext e2,h,q.ext (e1.trans e2)⟩
theorem Sk(ha:PE X a (LE X.K Ξ (bh P ma)))(he:∀whole,isTrue a X.env whole=(do let v <- whole;standAt a.pos;holding [v] (truthy v))):PT X a (LT X.K Ξ (dC P (.gi ma))) :=
 (a37 ha he).imp λcx H Q bC=>by
  obtain⟨σ,g,ρ,s,R,h⟩:=bC;refine fT hP s R (.refl _ _) h λx g1 cu H1 v1 e1 R1 r1 h=>?_;obtain⟨b,h1,h2⟩:=h;exact⟨b,Sz R1 r1 h1,h2 cu H1 e1 R1⟩
theorem Si(ha:PT X a (LT X.K Ξ (dC P ma))):PT X (.UnaryOp .Not a pos) (LT X.K Ξ (dC P (.eU ma))) :=
 (RC ha).imp λcx H Q bC=>by
  obtain⟨σ,g,ρ,s,R,h⟩:=bC;exact qR hP s R (.refl _ _) h λt g1 cu H1 e1 R1 h=>h cu H1 e1 R1
theorem Sn(ha:PT X a (LT X.K Ξ (dC P ma)))(hb:PW X (.BoolOp .And (b::rest) pos) (LT X.K Ξ (dC P mb))):PW X (.BoolOp .And (a::b::rest) pos) (LT X.K Ξ (dC P (.eI ma mb))) :=
 (RD ha hb).imp λcx H Q bC=>by
  obtain⟨σ,g,ρ,s,R,h⟩:=bC;refine qR hP s R (.refl _ _) h λt g1 cu H1 e1 R1 h=>?_;cases t
  ·exact h cu H1 e1 R1
  ·exact qR hP (s.ext e1) R1 e1 h λt g2 fS H2 e2 R2 h=>h fS H2 (e1.trans e2) R2
theorem XR(ha:PT X a (LT X.K Ξ (dC P ma)))(hb:PW X (.BoolOp .Or (b::rest) pos) (LT X.K Ξ (dC P mb))):PW X (.BoolOp .Or (a::b::rest) pos) (LT X.K Ξ (dC P (.jT ma mb))) :=
 (XA ha hb).imp λcx H Q bC=>by
  obtain⟨σ,g,ρ,s,R,h⟩:=bC;refine qR hP s R (.refl _ _) h λt g1 cu H1 e1 R1 h=>?_;cases t
  ·exact qR hP (s.ext e1) R1 e1 h λt g2 fS H2 e2 R2 h=>h fS H2 (e1.trans e2) R2
  ·exact h cu H1 e1 R1
theorem UH:lZ X [] (LT X.K Ξ (dC P .no)) :=
 (Ud (X:=X)).imp λcx H Q bC=>by
  obtain⟨σ,g,ρ,s,R,h⟩:=bC;exact h ρ H (.refl _ _) R
theorem RN{x:Str}{v:Value}(hv:(∃id,v=.builtin id)\/∃T,v=.type T)(hc:n6 X v (rN X.K p))(hg:Gl X x)(hm:X.mg x=none)(hb:bootBuiltins x=some v)(ha:PA X (e::es) (LA X.K Ξ (gB P iD)))(hn:x≠"__name__")(hd:(x==("__debug__":Str))=false)(fx:starEach (e::es) X.env=(false,eval e X.env)::starEach es X.env)(iP:(backTo pos (starEach es X.env)).any (·.1)=false):PE X (.Call (.Name x q) (e::es) [] pos) (LE X.K Ξ (bh P (.prim p iD))):=by
 have base:PE X (.Call (.Name x q) (e::es) [] pos) (Ao (rN X.K p) (LA X.K Ξ (gB P iD))):=by
  rcases hv with⟨id,rfl⟩|⟨T,rfl⟩
  ·exact zE hc hg hm hb ha hn hd fx iP
  ·exact O6 hc hg hm hb ha hn hd fx iP
 refine base.imp λcx H Q bC=>?_;obtain⟨σ,g,ρ,s,R,h⟩:=bC;exact kZ hP s R (.refl _ _) h λxs g1 cu H1 vs e1 R1 r1 h=>⟨xs,g1,cu,R1,r1,v9 (λd g' h=>h.ext e1) h⟩
theorem Uu{o:Expr}{mo:ME}{T:String}{name:Str}{id:String}{apos:Pos}(pa:PlainAttrs T)(slot:Slot T name id)(jW:typeOf (.builtin id)=pure (.type "method_descriptor"))(hm:oj X id (rM X.K p))(hk:∀{d:D} {v:V} {g:G} {ρ:List Addr} {H:Hp},Rl X.K ρ g H->f9 X.K ρ H d v->mY p d g->oq X.K T v H)(ho:PE X o (LE X.K Ξ (bh P mo)))(ha:PA X (e::es) (LA X.K Ξ (gB P iD)))(jG:attributeBase o name X.env (eval o X.env)=eval o X.env)(rL:((backTo pos (starEach (e::es) X.env)).all (λx=>!x.1)&&(backToKw pos (keywordEach [] X.env)).all (λx=>x.1.isSome)&&decide ((e::es).length+([]:List Keyword).length+(if([]:List Keyword).isEmpty then 0 else 1)<30))=true)(jE:(apos.endLine==pos.line)=true)(hs:starEach (e::es) X.env=(false,eval e X.env)::starEach es X.env)(hV:(backTo pos (starEach es X.env)).any (·.1)=false) :
  PE X (.Call (.Attribute o name apos) (e::es) [] pos) (LE X.K Ξ (bh P (.fg p mo iD))) :=
 (Xt pa slot jW hm ho ha jG rL jE hs hV).imp λcx H Q bC=>by
  obtain⟨σ,g,ρ,s,R,h⟩:=bC;exact fT hP s R (.refl _ _) h λx g1 cu H1 v1 e1 R1 r1 h=>⟨hk R1 r1 h.1,kZ hP (s.ext e1) R1 e1 h.2 λxs g2 fS H2 ws e2 R2 r2 h =>
   ⟨x,xs,g2,fS,R2,r1.ext e2,r2,v9 (λd g' h=>h.ext (e1.trans e2)) h⟩⟩
theorem a23{o:Expr}{mo:ME}{T:String}{name:Str}{id:String}{apos:Pos}(pa:PlainAttrs T)(slot:Slot T name id)(jW:typeOf (.builtin id)=pure (.type "method_descriptor"))(hm:oj X id (rM X.K p))(hk:∀{d:D} {v:V} {g:G} {ρ:List Addr} {H:Hp},Rl X.K ρ g H->f9 X.K ρ H d v->mY p d g->oq X.K T v H)(ho:PE X o (LE X.K Ξ (bh P mo)))(jG:attributeBase o name X.env (eval o X.env)=eval o X.env)(jE:(apos.endLine==pos.line)=true) :
  PE X (.Call (.Attribute o name apos) [] [] pos) (LE X.K Ξ (bh P (.fg p mo .nil))) :=
 (Ri pa slot jW hm ho jG jE).imp λcx H Q bC=>by
  obtain⟨σ,g,ρ,s,R,h⟩:=bC;exact fT hP s R (.refl _ _) h λx g1 cu H1 v1 e1 R1 r1 h=>⟨hk R1 r1 h.1,x,[],g1,cu,R1,r1,.nil,v9 (λd g' h=>h.ext e1) h.2⟩
theorem a26(hc:X.calm=true)(ha:PE X a (LE X.K Ξ (bh P ma)))(nR:Gl X "list")(oV:X.mg "list"=none)(hg:Gl X "range")(hm:X.mg "range"=none)(hs:starEach [a] X.env=[(false,eval a X.env)]) :
  PE X (.Call (.Name "list" p2) [.Call (.Name "range" q) [a] [] pos] [] km) (LE X.K Ξ (bh P (.prim .jU (.cons ma .nil)))) :=
 (O6 (JV hc) nR oV (by first|exact fB|decide +kernel) (Q4 (Zn hg hm (E3 hP ha (O4 hP) (by rw[hs];rfl)) hs) X8)).imp λcx H Q bC=>by
  obtain⟨σ,g,ρ,s,R,h⟩:=bC;refine kZ hP s R (.refl _ _) h λxs g1 cu H1 vs e1 R1 r1 h=>?_;obtain⟨d',g',⟨j,rfl,h1,h2,rfl,rfl⟩,q⟩:=h;obtain⟨v,rfl,rv⟩:=r1.one;obtain rfl:=rv.m9;refine⟨j,rfl,λq' hq=>⟨q',0,j,rfl,u7,⟨by omega,by omega,h1,by omega,by omega⟩,λp hp=>?_⟩⟩;rw[show(j-0).toNat=j.toNat by omega];exact(q.ext (e1.trans (B1 hq))).new (R1.grow hq) hp (c5.mW 0 _)
theorem a25(hc:X.calm=true)(ha:PE X a (LE X.K Ξ (bh P ma)))(hb:PE X b (LE X.K Ξ (bh P mb)))(nR:Gl X "list")(oV:X.mg "list"=none)(hg:Gl X "range")(hm:X.mg "range"=none)(hs:starEach [a,b] X.env=[(false,eval a X.env),(false,eval b X.env)])(gK:starEach [b] X.env=[(false,eval b X.env)]) :
  PE X (.Call (.Name "list" p2) [.Call (.Name "range" q) [a,b] [] pos] [] km) (LE X.K Ξ (bh P (.prim .kR (.cons ma (.cons mb .nil))))) :=
 (O6 (JV hc) nR oV (by first|exact fB|decide +kernel) (Q4 (Zo hg hm (E3 hP ha (E3 hP hb (O4 hP) (by rw[gK];rfl)) (by rw[hs,gK])) hs gK) X8)).imp λcx H Q bC=>by
  obtain⟨σ,g,ρ,s,R,h⟩:=bC;refine kZ hP s R (.refl _ _) h λxs g1 cu H1 vs e1 R1 r1 h=>?_;obtain⟨d',g',⟨i,j,rfl,hb,rfl,rfl⟩,q⟩:=h;obtain⟨v,w,rfl,rv,gC⟩:=r1.two;obtain rfl:=rv.m9;obtain rfl:=gC.m9;exact⟨i,j,rfl,λq' hq=>⟨q',i,j,rfl,u7,hb,λp hp=>(q.ext (e1.trans (B1 hq))).new (R1.grow hq) hp (c5.mW i _)⟩⟩
theorem Uw(hc:X.calm=true)(ha:PE X a (LE X.K Ξ (bh P ma)))(nR:Gl X "sorted")(oV:X.mg "sorted"=none)(hg:Gl X "set")(hm:X.mg "set"=none)(hs:starEach [a] X.env=[(false,eval a X.env)]) :
  PE X (.Call (.Name "sorted" p2) [.Call (.Name "set" q) [a] [] pos] [] km) (LE X.K Ξ (bh P (.prim .sset (.cons ma .nil)))) :=
 (zE (U8 hc) nR oV (by first|exact iw|decide +kernel) (Q4 (O6 (JS hc) hg hm (by first|exact xr|decide +kernel) (E3 hP ha (O4 hP) (by rw[hs];rfl)) (by decide) (by decide) (by rw[hs];rfl) rfl) X8)).imp λcx H Q bC=>by
  obtain⟨σ,g,ρ,s,R,h⟩:=bC;refine kZ hP s R (.refl _ _) h λxs g1 cu H1 vs e1 R1 r1 h=>?_;obtain⟨d',g',⟨i,ns,rfl,hl,hz,rfl,rfl⟩,q⟩:=h;obtain⟨v,rfl,rv⟩:=r1.one;obtain⟨a',rfl,ra⟩:=rv.m8;obtain⟨ws,hq,rs⟩:=R1.items hl ra;obtain rfl:=rs.ints;refine⟨_,ns,rfl,hq,hz,λq' nL=>⟨q',ns,rfl,u7,hz,λp hp=>?_⟩⟩;exact(q.ext (e1.trans (B1 nL))).new (R1.grow nL) hp (c5.ofInts _)
theorem Us(hc:X.calm=true)(ha:PE X a (LE X.K Ξ (bh P ma)))(nR:Gl X "len")(oV:X.mg "len"=none)(hg:Gl X "set")(hm:X.mg "set"=none)(hs:starEach [a] X.env=[(false,eval a X.env)]) :
  PE X (.Call (.Name "len" p2) [.Call (.Name "set" q) [a] [] pos] [] km) (LE X.K Ξ (bh P (.prim .qv (.cons ma .nil)))) :=
 (zE X' nR oV PySem.boot_len (Q4 (O6 (JS hc) hg hm (by first|exact xr|decide +kernel) (E3 hP ha (O4 hP) (by rw[hs];rfl)) (by decide) (by decide) (by rw[hs];rfl) rfl) X8)).imp λcx H Q bC=>by
  obtain⟨σ,g,ρ,s,R,h⟩:=bC;refine kZ hP s R (.refl _ _) h λxs g1 cu H1 vs e1 R1 r1 h=>?_;obtain⟨d',g',⟨i,ns,rfl,hl,hz,rfl,rfl⟩,q⟩:=h;obtain⟨v,rfl,rv⟩:=r1.one;obtain⟨a',rfl,ra⟩:=rv.m8;obtain⟨ws,hq,rs⟩:=R1.items hl ra;obtain rfl:=rs.ints;refine⟨_,ns,rfl,hq,by omega,λq' nL=>⟨q',_,rfl,u7,?_⟩⟩;exact(q.ext (e1.trans (B1 nL))).now (R1.grow nL) (.int _)
theorem Uv{i:Int}{j:Nat}(nT:PySem.W.kdsCode X.K X.env.code=true):PE X (.Set [.Constant (.int i) j q] 0 pos) (LE X.K Ξ (bh P (.prim (.kK i) .nil))) :=
 (TU nT).imp λcx H Q bC=>by
  obtain⟨σ,g,ρ,s,R,h⟩:=bC;obtain⟨d',g',⟨_,rfl,rfl⟩,q⟩:=h;exact λp hp=>q (ρ++[p]) _ _ (B9 hp) (R.new hp (o:=.set (λk=>decide (k=i)) 1) (u:=.set (λk=>decide (k=i)) 1) ⟨rfl,rfl⟩) (.ref (R.x8 p))
theorem RP{f:Str}(ha:PE X a (LE X.K Ξ (bh P ma)))(hb:attributeBase a f X.env (eval a X.env)=eval a X.env):PE X (.Attribute a f pos) (LE X.K Ξ (bh P (.prim (.fld f) (.cons ma .nil)))) :=
 (Rj ha hb).imp λcx H Q bC=>by
  obtain⟨σ,g,ρ,s,R,h⟩:=bC;refine fT hP s R (.refl _ _) h λx g1 cu H1 v1 e1 R1 r1 h=>?_;obtain⟨d',g',⟨i,c,fs,ex,hi,hf,rfl⟩,q⟩:=h;cases ex;obtain⟨a',rfl,ra⟩:=r1.m8;obtain⟨C,dx,vs,hH,_,hC,rk,na⟩:=R1.ins hi ra;have lk:=rk.look f;rw[hf] at lk;obtain⟨v,hv,rv⟩:=lk.some;exact⟨a',C,dx,vs,v,rfl,hH,hC,na _ (aR hf),hv,q cu H1 v e1 R1 rv⟩
end
section
variable{X:Cx}{pos:Pos}
theorem RX{i:Nat}{x:Str}(hN:X.N[i]?=some x)(hv:zR X.env.scope x)(hd:(x==("__debug__":Str))=false)(mG:(x==("__classdict__":Str))=false):PE X (.Name x pos) (LE X.K Ξ (bh P (.var i))) :=
 (Rt hN hv hd mG).imp λcx H Q bC=>by
  obtain⟨σ,g,ρ,s,R,h⟩:=bC;obtain⟨d,e,h⟩:=h;obtain⟨v,h1,h2⟩:=s.val _ _ e;exact⟨v,h1,h.now R h2⟩
theorem R6{e:Expr}{d:D}{v:V}(h:PE X e (tC v))(r:∀ρ H,f9 X.K ρ H d v):PE X e (LE X.K Ξ (bh P (.lit d))) :=
 h.imp λcx H Q bC=>by
  obtain⟨σ,g,ρ,s,R,h⟩:=bC;exact LQ.now h R (r ρ H)
theorem Up:PE X (.Dict [] [] pos) (LE X.K Ξ (bh P (.prim .W6 .nil))) :=
 (a49 (X:=X)).imp λcx H Q ⟨σ,g,ρ,s,R,h⟩ p hp=>by
  obtain⟨d',g',⟨_,rfl,rfl⟩,q⟩:=h;exact q (ρ++[p]) _ _ (B9 hp) (R.new hp (o:=.dg []) (u:=.dK []) i9.nil) (.ref (R.x8 p))
end
end M
namespace L2
open PySem PySem.Spec PyProof.Rows
end L2
namespace M
open PySem L2 PySem.Spec PyProof.Rows
variable{K:PySem.W.Frag}{H H0:Hp}{neg:Bool}{a fa C:Addr}{x:Str}{p:Pos}{kvs xs:List D}{k f:Nat}{fd:FuncData}{ps:List Str}{gQ:List Addr}{vs:List V}
inductive qr(K:PySem.W.Frag):List D->List (Str×V)->Prop
 |nil:qr K [] []
 |cons {x:Str} {d:D} {v:V} {ds:List D} {vs:List (Str×V)} (h:∀ρ H,f9 K ρ H d v) (r:qr K ds vs):qr K (.tup [.str x,d]::ds) ((x,v)::vs)
theorem qr.look{ρ:List Addr}{ds vs}(x:Str)(h:qr K ds vs):sQ K ρ H (O1 ds x) (vs.lookup x):=by
 induction h with
 |nil=>trivial
 |cons h r ih =>
  rename_i y d v ds vs;unfold O1;rw[cS];by_cases e:x=y
  ·rw[aI e,show(x==y)=true from by simp[e]];exact h ρ H
  ·rw[aC e,show(x==y)=false from by simpa using e];exact ih
def yB(X:Cx)(x:Str)(kvs:List D):Prop:=∃A vs,X.mg x=some (.ref A)/\wK X.K X.w.params A vs/\qr X.K kvs vs
def yI(neg:Bool):Pr:=if neg then .wj else .Hg
theorem Kz:PR (yI neg)=EK neg:=by cases neg<;>rfl
theorem ZC(a b c:Str):a++b++c=a++(b++c):=by
 cases a;cases b;cases c;show Str.mk _=Str.mk _;exact fX Str.mk (Mq ..)
theorem UG(x:Str):x++Str.empty=x:=by cases x;show Str.mk _=_;simp[Str.empty]
theorem Tr(x:Str):Str.empty++x=x:=by cases x;show Str.mk _=_;simp[Str.empty]
section
variable{X:Cx}{Ξ:jf}{P:gh}(hP:j9 P){a c:Expr}{ma:ME}{pos:Pos}
include hP
theorem RQ(hg:Gl X x)(hd:(x==("__debug__":Str))=false)(hG:yB X x kvs)(ha:PE X a (LE X.K Ξ (bh P ma)))(hm:behindInMarks (if neg then .NotIn else .In) (.Name x p)=false) :
  PE X (.Compare a [if neg then .NotIn else .In] [.Name x p] pos) (LE X.K Ξ (bh P (.prim (yI neg) (.cons (.lit (.tup kvs)) (.cons ma .nil))))):=by
 obtain⟨A,vs,hmg,hk,gr⟩:=hG;refine(KL (Ke (kvs:=vs) neg) ha (zv (v:=.ref A) hg hmg rfl hd) hm).imp λcx H Q bC=>?_;obtain⟨σ,g,ρ,s,R,h⟩:=bC;refine fT hP s R (.refl _ _) h λd g1 cu H1 v1 e1 R1 r1 h=>?_;obtain⟨d',g',h,q⟩:=h;rw[Kz] at h;obtain⟨jb,z,ex,rfl,rfl⟩:=h;cases ex;obtain rfl:=r1.C9;refine⟨A,z,rfl,hk,rfl,?_⟩;rw[<- (gr.look (ρ:=cu) (H:=H1) z).isSome];exact q cu H1 _ e1 R1 (.bl _)
theorem Sg(hg:Gl X x)(hd:(x==("__debug__":Str))=false)(hG:yB X x kvs)(ha:PE X a (LE X.K Ξ (bh P ma)))(hm:behindInMarks (if neg then .NotIn else .In) (.Name x p)=false) :
  PT X (.Compare a [if neg then .NotIn else .In] [.Name x p] pos) (LT X.K Ξ (dC P (.gi (.prim (yI neg) (.cons (.lit (.tup kvs)) (.cons ma .nil)))))):=by
 obtain⟨A,vs,hmg,hk,gr⟩:=hG;refine(KQ (Ke (kvs:=vs) neg) ha (zv (v:=.ref A) hg hmg rfl hd) hm).imp λcx H Q bC=>?_;obtain⟨σ,g,ρ,s,R,h⟩:=bC;refine fT hP s R (.refl _ _) h λd g1 cu H1 v1 e1 R1 r1 h=>?_;obtain⟨d',g',h,t,ht,q⟩:=h;rw[Kz] at h;obtain⟨jb,z,ex,rfl,rfl⟩:=h;cases ex;obtain rfl:=r1.C9;refine⟨A,z,rfl,hk,rfl,t,?_,q cu H1 e1 R1⟩;rw[<- (gr.look (ρ:=cu) (H:=H1) z).isSome];rcases ht with⟨z,_⟩|z|⟨i,z,_⟩|⟨l,z,_⟩|⟨a,l,z,_⟩<;>cases z
 rfl
theorem Ur(hg:Gl X x)(hd:(x==("__debug__":Str))=false)(hG:yB X x kvs)(ha:PE X a (LE X.K Ξ (bh P ma)))(hs:Cz a):PE X (.Subscript (.Name x p) a pos) (LE X.K Ξ (bh P (.prim .nY (.cons (.lit (.tup kvs)) (.cons ma .nil))))):=by
 obtain⟨A,vs,hmg,hk,gr⟩:=hG;refine(IC (WV (kvs:=vs)) (zv (v:=.ref A) hg hmg rfl hd) ha hs).imp λcx H Q bC=>?_;obtain⟨σ,g,ρ,s,R,h⟩:=bC;refine fT hP s R (.refl _ _) h λd g1 cu H1 v1 e1 R1 r1 h=>?_;obtain⟨d',g',⟨jb,z,ex,hz,rfl⟩,q⟩:=h;cases ex;obtain rfl:=r1.C9;have lk:=gr.look (ρ:=cu) (H:=H1) z;rw[hz] at lk;obtain⟨w,hw,lk⟩:=lk.some;exact⟨A,z,w,rfl,hk,rfl,hw,q cu H1 _ e1 R1 lk⟩
theorem XI(ha:PE X a (LE X.K Ξ (bh P ma))):PE X (.FormattedValue a (-1) none pos) (LE X.K Ξ (bh P (.prim .fv (.cons ma .nil)))) :=
 (Xu ha).imp λcx H Q bC=>by
  obtain⟨σ,g,ρ,s,R,h⟩:=bC;refine fT hP s R (.refl _ _) h λd g1 cu H1 v1 e1 R1 r1 h=>?_;obtain⟨d',g',⟨rfl,h⟩,q⟩:=h;rcases h with⟨i,ex,h1,rfl⟩|⟨z,ex,h1,rfl⟩
  ·cases ex;exact .inl ⟨i,r1.m9,h1,q cu H1 _ e1 R1 (.str _)⟩
  ·cases ex;exact .inr ⟨z,r1.C9,p9 (by omega),q cu H1 _ e1 R1 (.str _)⟩
omit hP in
inductive ng(X:Cx)(Ξ:jf)(P:gh):List Expr->ME->List TE->Prop
 |nil:ng X Ξ P [] .nil []
 |lit {x:Str} {j:Nat} {p:Pos} {es:List Expr} {ms:ME} {ts:List TE} (hx:x.length<=2000) (r:ng X Ξ P es ms ts):ng X Ξ P (.Constant (.str x) j p::es) (.cons (.lit (.str x)) ms) (LE X.K Ξ (bh P (.lit (.str x)))::ts)
 |val {e:Expr} {m:ME} {p:Pos} {es:List Expr} {ms:ME} {ts:List TE} (he:PE X e (LE X.K Ξ (bh P m))) (r:ng X Ξ P es ms ts):ng X Ξ P (.FormattedValue e (-1) none p::es) (.cons (.prim .fv (.cons m .nil)) ms) (LE X.K Ξ (bh P (.prim .fv (.cons m .nil)))::ts)
theorem ng.MU{es ms ts}(h:ng X Ξ P es ms ts):ux X es ts:=by
 induction h with
 |nil=>exact .nil
 |lit hx r ih=>exact .cons (R6 Kh λ_ _=>.str _) ih
 |val he r ih=>exact .cons (XI hP he) ih
theorem ng.join{cx:L2.St}{Q:Str->Hp->Prop}{es ms ts}(hf:ng X Ξ P es ms ts):∀{σ:S} {g:G} {ρ:List Addr} {H:Hp} {acc:Str},acc.length+2000*es.length<=100000->u3 X.K ρ H σ cx->Rl X.K ρ g H ->
  gB P ms σ g (λds g1=>∃x,U5 ds=some x/\∀bW H',Ext ρ H bW H'->Rl X.K bW g1 H'->Q (acc++x) H') (LX X.K ρ H Ξ)->yP ts cx H acc (λout H1=>out.length<=sizeLine/\Q out H1):=by
 have tl:∀{acc y:Str} {ρ:List Addr} {H:Hp} {cu:List Addr} {H1:Hp} {ds:List D} {g1:G},Ext ρ H cu H1->(∃x,U5 (.str y::ds)=some x/\∀bW H',Ext ρ H bW H'->Rl X.K bW g1 H'->Q (acc++x) H')->∃x,U5 ds=some x/\∀bW H',Ext cu H1 bW H'->Rl X.K bW g1 H'->Q (acc++y++x) H':=by
  intro acc y ρ H cu H1 ds g1 e1 h;obtain⟨x,hx,h⟩:=h;simp only[U5] at hx;cases hj:U5 ds with
  |none=>rw[hj] at hx;cases hx
  |some x' =>
   rw[hj] at hx;cases hx;refine⟨x',rfl,λbW H' e' R'=>?_⟩;rw[ZC];exact h bW H' (e1.trans e') R'
 induction hf with
 |nil =>
  intro σ g ρ H acc ha s R h;obtain⟨x,hx,h⟩:=h;cases hx;rw[UG] at h;exact⟨p9 (by simpa using ha),h ρ H (.refl _ _) R⟩
 |lit hx r ih =>
  rename_i y j p es ms ts;intro σ g ρ H acc ha s R h;refine⟨σ,g,ρ,s,R,?_⟩;intro cu H1 v1 e1 R1 r1;obtain rfl:=r1.C9;have hl:(acc++y).length<=acc.length+2000:=by rw[strLen_append];omega
  simp only[List.length_cons] at ha;exact⟨y,rfl,p9 (by omega),ih (by omega) (s.ext e1) R1 (A2 hP _ _ _ _ _ _ _ (λds g1 h=>tl e1 h) (λ_ _ z=>LX.ext e1 z) h)⟩
 |val he r ih =>
  rename_i e m p es ms ts;intro σ g ρ H acc ha s R h;refine⟨σ,g,ρ,s,R,?_⟩;simp only[List.length_cons] at ha;refine c7 hP m _ _ _ _ _ _ (λd g1 h=>?_) (λ_ _ z=>z) h;obtain⟨d',g',⟨rfl,h⟩,q⟩:=h;have hy:∃y,d'=.str y/\y.length<=2000:=by
   rcases h with⟨i,ex,h1,rfl⟩|⟨z,ex,h1,rfl⟩
   ·exact⟨_,rfl,by rw[PySem.ofString_length];have:=int_text_length_le (k:=1920) (by decide) h1;omega⟩
   ·exact⟨z,rfl,h1⟩
  obtain⟨y,rfl,hy⟩:=hy;refine⟨_,_,⟨rfl,h⟩,λcu H1 v1 e1 R1 r1=>?_⟩;obtain rfl:=r1.C9;have hl:(acc++y).length<=acc.length+2000:=by rw[strLen_append];omega
  exact⟨y,rfl,p9 (by omega),ih (by omega) (s.ext e1) R1 (A2 hP _ _ _ _ _ _ _ (λds g1 h=>tl e1 h) (λ_ _ z=>LX.ext e1 z) q)⟩
theorem Uq{mq mn:Expr}{rest:List Expr}{ms:ME}{ts:List TE}(h:ng X Ξ P (mq::mn::rest) ms ts)(hl:(mq::mn::rest).length<=40):PE X (.JoinedStr (mq::mn::rest) pos) (LE X.K Ξ (bh P (.prim .mK ms))) :=
 (TQ (h.MU hP)).imp λcx H Q bC=>by
  obtain⟨σ,g,ρ,s,R,hw⟩:=bC;refine ng.join hP h (Q:=λout H1=>Q (.str out) H1) (acc:=Str.empty) ?_ s R (A2 hP ms _ _ _ _ _ _ (λds g1 hw=>?_) (λ_ _ z=>z) hw)
  ·have:Str.empty.length=0:=rfl;omega
  ·obtain⟨d',g',⟨x,hx,rfl,rfl⟩,q⟩:=hw;refine⟨x,hx,λbW H' e' R'=>?_⟩;rw[Tr];exact q bW H' _ e' R' (.str _)
omit hP in
def pR(ex:List Str)(K:PySem.W.Frag)(n:Nat)(t:List D->G->KD->KX->Prop):Sp:=λvs H Q E=>vs.length=n/\∃ds g ρ,c5 K ρ H ds vs/\Rl K ρ g H/\t ds g (LQ K ρ H Q) (LX K ρ H (ex,E))
omit hP in
def pK(X:Cx)(P:gh)(ex:List Str)(k f:Nat)(fa:Addr)(fd:FuncData)(ps:List Str):Prop :=
 iQ X.prog X.w X.K X.mg X.base (jJ X.prog X.w) k fa fd ps (pR ex X.K ps.length (P f))/\Binds X.K fd ps []/\∀ds g Q E,P f ds g Q E->ds.length=ps.length
theorem Ee{k:Nat}(F:pK X P Ξ.1 k f fa fd ps){ρ:List Addr}{g:G}{Q0:KD}{Q:VK}(e0:Ext gQ H0 ρ H)(R:Rl X.K ρ g H)(r:c5 X.K ρ H xs vs)(h:P f xs g Q0 (LX X.K gQ H0 Ξ))(k:∀d g',Q0 d g'->LQ X.K ρ H Q d g'):pR Ξ.1 X.K ps.length (P f) (vs++[]) H Q Ξ.2:=by
 rw[dw];exact⟨by rw[<- r.length];exact F.2.2 _ _ _ _ h,xs,g,ρ,r,R,hP _ _ _ _ _ _ _ k (λ_ _ z=>LX.ext e0 z) h⟩
theorem Uo{es:List Expr}{e:Expr}{iD:ME}(hx:Passes (jJ X.prog X.w) X Ξ.2)(F:pK X P Ξ.1 k f fa fd ps)(hr:x5 k X.A)(hg:Gl X x)(hm:X.mg x=some (.ref fa))(hk:PySem.W.keepIn X.K (.ref fa)=true)(ha:PA X (e::es) (LA X.K Ξ (gB P iD)))(hd:(x==("__debug__":Str))=false)(fx:starEach (e::es) X.env=(false,eval e X.env)::starEach es X.env)(iP:(backTo pos (starEach es X.env)).any (·.1)=false):PE X (.Call (.Name x p) (e::es) [] pos) (LE X.K Ξ (bh P (.call f iD))) :=
 (TM F.1 hr hg hm hk F.2.1 .nil hx ha hd fx iP).imp λcx H Q bC=>by
  obtain⟨σ,g,ρ,s,R,h⟩:=bC;exact kZ hP s R (.refl _ _) h λxs g1 cu H1 vs e1 R1 r1 h=>Ee hP F e1 R1 r1 h λd g' h=>h.ext e1
theorem a28(hx:Passes (jJ X.prog X.w) X Ξ.2)(F:pK X P Ξ.1 k f fa fd ps)(hr:x5 k X.A)(hg:Gl X x)(hm:X.mg x=some (.ref fa))(hk:PySem.W.keepIn X.K (.ref fa)=true)(hd:(x==("__debug__":Str))=false):PE X (.Call (.Name x p) [] [] pos) (LE X.K Ξ (bh P (.call f .nil))) :=
 (a51 F.1 hr hg hm hk F.2.1 .nil hx hd).imp λcx H Q bC=>by
  obtain⟨σ,g,ρ,s,R,h⟩:=bC;exact Ee hP F (.refl _ _) R .nil h λd g' h=>h
theorem KG{c:Str}(F:pK X P Ξ.1 k f fa fd ps)(hC:x4 X.K c C)(hc:kE X.K C){ρ:List Addr}{g1:G}{Q:VK}(e0:Ext gQ H0 ρ H)(R:Rl X.K ρ g1 H)(r:c5 X.K ρ H xs vs)(h:P f (.ref g1.length::xs) (g1++[.ins c []]) (λd g2=>d=.cj/\LQ X.K gQ H0 Q (.ref g1.length) g2) (LX X.K gQ H0 Ξ)):∀x dx,H x=none->H dx=none->dx≠x->pR Ξ.1 X.K ps.length (P f) (.ref x::(vs++[])) (upd (upd H dx (.own x)) x (.ins C dx [])) (λv H2=>v=.cj/\Q (.ref x) H2) Ξ.2:=by
 intro x dx hx GQ fy;have xS:upd H dx (.own x) x=none:=by rw[i6 (cc fy)];exact hx
 have R2:=R.grow (o:=.own x) GQ;have e2:Ext ρ H ρ (upd H dx (.own x)):=B1 GQ;have R3:=R2.new (o:=.ins c []) (u:=.ins C dx []) xS ⟨hC,hc,.nil,λx hx=>absurd hx (by simp)⟩;have e3:Ext ρ (upd H dx (.own x)) (ρ++[x]) (upd (upd H dx (.own x)) x (.ins C dx [])):=B9 xS;have:=Ee hP F (e0.trans (e2.trans e3)) R3 (.cons (.ref (R.x8 x)) (r.ext (e2.trans e3))) h (Q:=λv H2=>v=.cj/\Q (.ref x) H2) λd g' q bW H' v e' R' r'=>by
  obtain⟨rfl,q⟩:=q;exact⟨r'.zc,q bW H' _ (e0.trans (e2.trans (e3.trans e'))) R' (.ref (e'.get (R.x8 x)))⟩
 exact this
theorem Ut{es:List Expr}{e:Expr}{iD:ME}(hx:Passes (jJ X.prog X.w) X Ξ.2)(F:pK X P Ξ.1 k f fa fd ps)(M:Mk X.K C fa)(hC:x4 X.K x C)(hc:kE X.K C)(hr:x5 (k+1) X.A)(hg:Gl X x)(hm:X.mg x=some (.ref C))(ha:PA X (e::es) (LA X.K Ξ (gB P iD)))(hd:(x==("__debug__":Str))=false)(fx:starEach (e::es) X.env=(false,eval e X.env)::starEach es X.env)(iP:(backTo pos (starEach es X.env)).any (·.1)=false):PE X (.Call (.Name x p) (e::es) [] pos) (LE X.K Ξ (bh P (.make x f iD))) :=
 (TR M F.1 hr hg hm F.2.1 .nil hx ha hd fx iP).imp λcx H Q bC=>by
  obtain⟨σ,g,ρ,s,R,h⟩:=bC;exact kZ hP s R (.refl _ _) h λxs g1 cu H1 vs e1 R1 r1 h=>KG hP F hC hc e1 R1 r1 h
theorem a24(hx:Passes (jJ X.prog X.w) X Ξ.2)(F:pK X P Ξ.1 k f fa fd ps)(M:Mk X.K C fa)(hC:x4 X.K x C)(hc:kE X.K C)(hr:x5 (k+1) X.A)(hg:Gl X x)(hm:X.mg x=some (.ref C))(hd:(x==("__debug__":Str))=false):PE X (.Call (.Name x p) [] [] pos) (LE X.K Ξ (bh P (.make x f .nil))) :=
 (a47 M F.1 hr hg hm F.2.1 .nil hx hd).imp λcx H Q bC=>by
  obtain⟨σ,g,ρ,s,R,h⟩:=bC;exact KG hP F hC hc (.refl _ _) R .nil h
end
inductive kX(K:PySem.W.Frag)(ρ:List Addr)(H:Hp):List D->List (V×V)->Prop
 |nil:kX K ρ H [] []
 |cons {k d:D} {x y:V} {ds:List D} {ps:List (V×V)} (h1:f9 K ρ H k x) (h2:f9 K ρ H d y) (r:kX K ρ H ds ps):kX K ρ H (k::d::ds) ((x,y)::ps)
theorem Qp{K ρ H}{ps:List (V×V)}(r:kX K ρ H xs ps):∀{acc kvs:List (Key×D)} {accV:List (Key×V)},xb xs acc=some kvs->i9 K ρ H acc accV->∃more:List (Key×V),ps=more.map (λkv=>(kV kv.1,kv.2))/\2*more.length=xs.length/\i9 K ρ H kvs (R8 accV more):=by
 induction r with
 |nil =>
  intro acc kvs accV h ra;cases h;exact⟨[],rfl,rfl,ra⟩
 |cons h1 h2 r ih =>
  rename_i k d x y ds ps;intro acc kvs accV h ra;simp only[xb] at h;cases hk:W0 k with
  |none=>rw[hk] at h;cases h
  |some c =>
   rw[hk] at h;obtain⟨more,e1,e2,r2⟩:=ih (show xb ds (putD acc c d)=some kvs from h) (ra.put h2);have ex:=Y1 hk h1;subst ex;refine⟨(c,y)::more,by rw[bu,<- e1],by simp only[List.length_cons];omega,r2⟩
section
variable{X:Cx}{Ξ:jf}{P:gh}(hP:j9 P){pos:Pos}
inductive nh(X:Cx)(Ξ:jf)(P:gh):List (Option Expr)->List Expr->ME->List (TE×TE)->Prop
 |nil:nh X Ξ P [] [] .nil []
 |cons {k v:Expr} {ks:List (Option Expr)} {vs:List Expr} {mk mv ms:ME} {iT:List (TE×TE)} (hk:PE X k (LE X.K Ξ (bh P mk))) (hv:PE X v (LE X.K Ξ (bh P mv))) (r:nh X Ξ P ks vs ms iT) :
   nh X Ξ P (some k::ks) (v::vs) (.cons mk (.cons mv ms)) ((LE X.K Ξ (bh P mk),LE X.K Ξ (bh P mv))::iT)
theorem nh.MR{ks vs ms iT}(h:nh X Ξ P ks vs ms iT):xi X pos ks vs iT:=by
 induction h with
 |nil=>exact TY
 |cons hk hv r ih=>exact a41 hk hv ih
theorem nh.len{ks vs ms iT}(h:nh X Ξ P ks vs ms iT):ks.all (·.isSome)=true/\ks.length=vs.length:=by
 induction h with
 |nil=>exact⟨rfl,rfl⟩
 |cons hk hv r ih=>exact⟨by simpa using ih.1,by simp[ih.2]⟩
include hP
theorem nh.pairs{ks vs ms iT}(hd:nh X Ξ P ks vs ms iT):∀{cx:L2.St} {σ:S} {g:G} {ρ gQ:List Addr} {H H0:Hp} {Qd:List D->G->Prop} {Q:List (V×V)->Hp->Prop},u3 X.K ρ H σ cx->Rl X.K ρ g H->Ext gQ H0 ρ H->gB P ms σ g Qd (LX X.K gQ H0 Ξ) ->
  (∀ds g' bW H' ps,Ext ρ H bW H'->Rl X.K bW g' H'->kX X.K bW H' ds ps->Qd ds g'->Q ps H')->ze iT cx H Q:=by
 induction hd with
 |nil =>
  intro cx σ g ρ gQ H H0 Qd Q s R e0 h k;exact k [] g ρ H [] (.refl _ _) R .nil h
 |cons hk hv r ih =>
  intro cx σ g ρ gQ H H0 Qd Q s R e0 h k;refine fT hP s R e0 h λx g1 cu H1 v1 e1 R1 r1 h=>fT hP (s.ext e1) R1 (e0.trans e1) h λy g2 fS H2 v2 e2 R2 r2 h=>?_;refine ih (s.ext (e1.trans e2)) R2 (e0.trans (e1.trans e2)) h λds g' bW H' ps e' R' rp hq=>?_;exact k _ g' bW H' _ (e1.trans (e2.trans e')) R' (.cons (r1.ext (e2.trans e')) (r2.ext e') rp) hq
theorem RO{ks:List (Option Expr)}{vs:List Expr}{ms:ME}{iT:List (TE×TE)}(hd:nh X Ξ P ks vs ms iT)(h0:ks≠[])(qh:ks.length<=15):PE X (.Dict ks vs pos) (LE X.K Ξ (bh P (.qp ms))) :=
 (TN hd.MR hd.len.1 hd.len.2 h0 qh).imp λcx H Q ⟨σ,g,ρ,s,R,h⟩ p hp=>by
  have e1:Ext ρ H (ρ++[p]) (upd H p (.dK [])):=B9 hp;refine nh.pairs hP hd (s.ext e1) (R.new hp (o:=.dg []) (u:=.dK []) i9.nil) e1 h λds g2 fS H2 ps e2 R2 rp hq=>?_;obtain⟨kvs,hk,hz,hg,q⟩:=hq;have rF:fS[g.length]?=some p:=e2.get (R.x8 p);obtain⟨vs',hv,rv⟩:=R2.dg hg rF;cases rv;obtain⟨more,em,hl,rk⟩:=Qp rp hk (accV:=[]) .nil;refine⟨hv,more,em,by omega,?_⟩;obtain⟨R3,e3⟩:=R2.put (o':=.dg kvs) (u:=.dK (R8 [] more)) hg rfl rF rk;exact q fS _ _ (e1.trans (e2.trans e3)) R3 (.ref rF)
end
theorem WZ{l:List D}(ht:TupAt K H0 a vs)(rs:c5 K gQ H0 l vs):qt K gQ H0 (.fix l) (EY K a):=by
 intro ρ g H e R i;have pX:=ht.ext e;have FI:=rs.ext e;refine⟨λh=>⟨vs,pX.sq,?_⟩,λd h=>?_⟩
 ·simp only[IK.at] at h;have:=eW.mp (aQ h);rw[<- FI.length];exact this
 ·simp only[IK.at] at h;obtain⟨v,hv,rv⟩:=FI.get (aQ h);refine⟨⟨vs,v,pX.sq,hv⟩,λw H' y=>?_⟩;obtain⟨rfl,y⟩:=y;have:=y vs pX.sq;rw[hv] at this;cases this;exact⟨.refl _ _,R,rv⟩
theorem WY{j:Nat}(ha:gQ[j]?=some a):qt K gQ H0 (.lst j) (EZ K a):=by
 intro ρ g H e R i;have nV:=e.get ha;refine⟨λh=>?_,λd h=>?_⟩
 ·simp only[IK.at] at h;cases el:d5 g j with
  |none=>rw[el] at h;cases h
  |some l =>
   rw[el] at h;obtain⟨vs,hq,rs⟩:=R.items el nV;refine⟨vs,hq,?_⟩;have:=eW.mp (aQ h);rw[<- rs.length];exact this
 ·simp only[IK.at] at h;cases el:d5 g j with
  |none=>rw[el] at h;cases h
  |some l =>
   rw[el] at h;obtain⟨vs,hq,rs⟩:=R.items el nV;obtain⟨v,hv,rv⟩:=rs.get (aQ h);refine⟨⟨vs,v,hq,hv⟩,λw H' y=>?_⟩;obtain⟨rfl,y⟩:=y;have:=y vs hq;rw[hv] at this;cases this;exact⟨.refl _ _,R,rv⟩
theorem Iv{lo:Int}{n:Nat}:qt K gQ H0 (.fix (l9 lo n)) (xn lo n):=by
 unfold l9;intro ρ g H e R i;refine⟨λh=>?_,λd h=>?_⟩
 ·simp only[IK.at] at h;have:=eW.mp (aQ h);show n<=i;simpa using this
 ·simp only[IK.at] at h;have h:=aQ h;have hi:i<n:=by
   have:=(aw.mp h).1;simpa using this
  rw[au,cw hi] at h;cases h;refine⟨hi,λw H' y=>?_⟩;obtain⟨rfl,rfl⟩:=y;exact⟨.refl _ _,R,.int _⟩
theorem WX{j:Nat}(ha:gQ[j]?=some a):qt K gQ H0 (.pz j) (Fb K a):=by
 intro ρ g H e R i;have nV:=e.get ha;refine⟨λh=>?_,λd h=>?_⟩
 ·simp only[IK.at] at h;cases el:d5 g j with
  |none=>rw[el] at h;cases h
  |some l =>
   rw[el] at h;obtain⟨vs,hq,rs⟩:=R.items el nV;refine⟨vs,hq,?_⟩;have h:=aQ h;rw[Option.map_eq_none_iff] at h;have:=eW.mp h;rw[<- rs.length];exact this
 ·simp only[IK.at] at h;cases el:d5 g j with
  |none=>rw[el] at h;cases h
  |some l =>
   rw[el] at h;obtain⟨vs,hq,rs⟩:=R.items el nV;have h:=aQ h;rw[ae] at h;obtain⟨d',hd,rfl⟩:=h;obtain⟨v,hv,rv⟩:=rs.get hd;refine⟨⟨vs,v,hq,hv⟩,λw H' y=>?_⟩;obtain⟨p,x,hp,rfl,y,rfl⟩:=y;have:=y vs hq;rw[hv] at this;cases this;exact⟨B1 hp,R.grow hp,.tup (.inl u7) (.cons (.int _) (.cons (rv.ext (B1 hp)) .nil))⟩
end M
namespace L2
open PySem PySem.Spec PyProof.Rows
theorem Rw{X:Cx}{tg l:Expr}{tl:TE}(hl:PE X l tl):PI X tg l (λσ H R=>tl σ H λx H1=>(∃a,x=.ref a/\(∃xs,gA X.K H1 a xs)/\R (EZ X.K a) H1)\/(∃a,x=.ref a/\(∃xs,iW X.K H1 a xs)/\R (EY X.K a) H1)):=by
 intro pins s σ H R I h;refine cW (hl pins s σ H _ I h) λv s1 bC=>?_;obtain⟨x,H1,I1,r1,q1⟩:=bC;rcases q1 with⟨a,e,⟨xs,hq⟩,q⟩|⟨a,e,⟨xs,hq⟩,q⟩
 ·subst e;cases r1;obtain⟨ba,rv,p,hz⟩:=I1.list hq;refine fW p.isList ?_;refine⟨s1.heap.objs.size,[s1.heap.objs.size],_,_,H1,rfl,I1.kept (t':=s1.toks) λb o e=>ag _ e,ZI a _,⟨_,aD _ rfl,rfl,rfl⟩,λb hb=>?_,q⟩;have e:b=s1.heap.objs.size:=by simpa using hb
  subst e;exact I1.sN (av _) (I1.cb.fresh (av _))
 ·subst e;cases r1;obtain⟨ba,rv,p,hz⟩:=I1.tuple hq;refine wpAny_pyIter_tuple (show s1.heap.IsTuple a ba.toArray from p) ?_;refine⟨s1.heap.objs.size,[s1.heap.objs.size],_,_,H1,rfl,I1.kept (t':=s1.toks) λb o e=>ag _ e,aL0 a _,⟨_,aD _ rfl,rfl,rfl⟩,λb hb=>?_,q⟩;have e:b=s1.heap.objs.size:=by simpa using hb
  subst e;exact I1.sN (av _) (I1.cb.fresh (av _))
end L2
namespace M
open PySem L2 PySem.Spec PyProof.Rows
variable{X:Cx}{Ξ:jf}{P:gh}{a b o e:Expr}{c:i7}{pos tp px:Pos}{p:Pr}{i k n:Nat}{x f qual:Str}{es args:List Expr}{t:MT}{mi m:ME}{H:Hp}{scope:Scope}{env:Env}{r:CF}{cd:Value}{N:List Str}{A:Around}{outer:List Env}{s:Shared}{E:XK}
section
variable(hP:j9 P){tg:Expr}{ma mb:ME}{p:Pos}
include hP
theorem Sa(ha:PE X a (LE X.K Ξ (bh P ma))):PI X tg a (LI X.K Ξ (iJ P (.fu ma))) :=
 (Rw ha).imp λcx H R bC=>by
  obtain⟨σ,g,ρ,s,Rr,h⟩:=bC;refine fT hP s Rr (.refl _ _) h λx g1 cu H1 v1 e1 R1 r1 h=>?_;rcases h with⟨l,rfl,h⟩|⟨i,l,rfl,hl,h⟩
  ·obtain⟨a',vs,rfl,ht,rs⟩:=r1.O3;exact .inr ⟨_,rfl,⟨_,ht.sq⟩,h cu H1 _ e1 R1 (WZ ht rs)⟩
  ·obtain⟨a',rfl,nV⟩:=r1.m8;obtain⟨vs,hq,rs⟩:=R1.items hl nV;exact .inl ⟨_,rfl,⟨_,hq⟩,h cu H1 _ e1 R1 (WY nV)⟩
theorem Uz{elts:List Expr}{x1:Nat}(ha:PE X a (LE X.K Ξ (bh P ma)))(hg:Gl X "enumerate")(hm:X.mg "enumerate"=none)(hs:starEach [a] X.env=[(false,eval a X.env)]):PI X (.Tuple elts x1 tp) (.Call (.Name "enumerate" p) [a] [] pos) (LI X.K Ξ (iJ P (.lE ma))) :=
 (TX hg hm (E3 hP ha (O4 hP) (by rw[hs];rfl)) hs).imp λcx H R bC=>by
  obtain⟨σ,g,ρ,s,Rr,h⟩:=bC;refine kZ hP (m:=.cons ma .nil) s Rr (.refl _ _) (Q0:=λxs g1=>∃a l,xs=[.ref a]/\d5 g1 a=some l/\∀bW H' J,Ext ρ H bW H'->Rl X.K bW g1 H'->qt X.K bW H' (.pz a) J->R J H') ?_ λxs g1 cu H1 vs e1 R1 r1 h=>?_
  ·skip
   exact c7 hP ma _ _ _ _ _ _ (λx g1 ⟨i,l,e,hl,h⟩=>⟨i,l,by rw[e],hl,h⟩) (λ_ _ z=>z) h
  ·obtain⟨j,l,rfl,hl,h⟩:=h;obtain⟨v,rfl,rv⟩:=r1.one;obtain⟨a',rfl,ra⟩:=rv.m8;obtain⟨vs,hq,rs⟩:=R1.items hl ra;exact⟨_,rfl,⟨_,hq⟩,h cu H1 _ e1 R1 (WX ra)⟩
theorem UA(ha:PE X a (LE X.K Ξ (bh P ma)))(hg:Gl X "range")(hm:X.mg "range"=none)(hs:starEach [a] X.env=[(false,eval a X.env)]):PI X tg (.Call (.Name "range" p) [a] [] pos) (LI X.K Ξ (iJ P (.eV ma))) :=
 (Zr hg hm (E3 hP ha (O4 hP) (by rw[hs];rfl)) hs).imp λcx H R bC=>by
  obtain⟨σ,g,ρ,s,Rr,h⟩:=bC;refine kZ hP (m:=.cons ma .nil) s Rr (.refl _ _) (Q0:=λxs g1=>∃j:Int,xs=[.int j]/\-(2 ^ 62)<=j/\j<2 ^ 62/\∀bW H' J,Ext ρ H bW H'->Rl X.K bW g1 H'->qt X.K bW H' (.fix (l9 0 j.toNat)) J->R J H') ?_ λxs g1 cu H1 vs e1 R1 r1 h=>?_
  ·skip
   exact c7 hP ma _ _ _ _ _ _ (λx g1 ⟨j,e,h1,h2,h⟩=>⟨j,by rw[e],h1,h2,h⟩) (λ_ _ z=>z) h
  ·obtain⟨j,rfl,h1,h2,h⟩:=h;obtain⟨v,rfl,rv⟩:=r1.one;obtain rfl:=rv.m9;exact⟨_,rfl,h1,h2,h cu H1 _ e1 R1 Iv⟩
theorem UB(ha:PE X a (LE X.K Ξ (bh P ma)))(hb:PE X b (LE X.K Ξ (bh P mb)))(hg:Gl X "range")(hm:X.mg "range"=none)(hs:starEach [a,b] X.env=[(false,eval a X.env),(false,eval b X.env)])(gK:starEach [b] X.env=[(false,eval b X.env)]) :
  PI X tg (.Call (.Name "range" p) [a,b] [] pos) (LI X.K Ξ (iJ P (.kS ma mb))) :=
 (Zs hg hm (E3 hP ha (E3 hP hb (O4 hP) (by rw[gK];rfl)) (by rw[hs,gK])) hs gK).imp λcx H R bC=>by
  obtain⟨σ,g,ρ,s,Rr,h⟩:=bC;refine kZ hP (m:=.cons ma (.cons mb .nil)) s Rr (.refl _ _) (Q0:=λxs g1=>∃i j:Int,xs=[.int i,.int j]/\(-(2 ^ 62)<=i/\i<2 ^ 62/\-(2 ^ 62)<=j/\j<2 ^ 62)/\∀bW H' J,Ext ρ H bW H'->Rl X.K bW g1 H'->qt X.K bW H' (.fix (l9 i (j-i).toNat)) J->R J H') ?_ λxs g1 cu H1 vs e1 R1 r1 h=>?_
  ·skip
   exact c7 hP ma _ _ _ _ _ _ (λx g1 h=>c7 hP mb _ _ _ _ _ _ (λy g2 ⟨i,j,e,e',h1,h⟩=>⟨i,j,by rw[e,e'],h1,h⟩) (λ_ _ z=>z) h) (λ_ _ z=>z) h
  ·obtain⟨i,j,rfl,h1,h⟩:=h;obtain⟨v,w,rfl,rv,gC⟩:=r1.two;obtain rfl:=rv.m9;obtain rfl:=gC.m9;exact⟨_,_,rfl,h1,h cu H1 _ e1 R1 Iv⟩
end
theorem RZ(hN:X.N.Nodup)(hi:X.N[i]?=some x)(hx:Loc X.env.scope x)(hf:X.fn x=true\/X.env.scope.names.lookup x=some .local):PG X (.Name x pos) (LG X.K (.one i)) :=
 (KO hN hi hx hf).imp λv cx H Q hq=>by
  obtain⟨d,σ,g,ρ,s,R,r,h⟩:=hq;exact h _ (s.set i r)
inductive gg(X:Cx):List Expr->List Nat->Prop
 |nil:gg X [] []
 |cons {x:Str} {p:Pos} {i:Nat} {es:List Expr} {is:List Nat} (hi:X.N[i]?=some x) (hx:Loc X.env.scope x) (hf:X.fn x=true\/X.env.scope.names.lookup x=some .local) (r:gg X es is):gg X (.Name x p::es) (i::is)
def Es:List Nat->qy
 |[]=>HN
 |i::is=>Iq (uq i) (Es is)
theorem Zq(hN:X.N.Nodup){is:List Nat}(h:gg X es is):xj X es (Es is):=by
 induction h with
 |nil=>exact TV
 |cons hi hx hf r ih=>exact a45 (KO hN hi hx hf) ih rfl
theorem Dy:∀{es:List Expr} {is:List Nat},gg X es is->(assignEach es X.env).length=is.length/\(assignEach es X.env).findIdx? (·.1)=none
 |_,_,.nil=>⟨rfl,rfl⟩
 |_,_,.cons (x:=x) (p:=p) (es:=es) hi hx hf r=>by
  obtain⟨h1,h2⟩:=Dy r;have e:assignEach (.Name x p::es) X.env=(false,assign (.Name x p) X.env)::assignEach es X.env:=rfl;rw[e];refine⟨by simp[h1],?_⟩;rw[List.findIdx?_cons,h2]
  rfl
theorem IZ{K:PySem.W.Frag}{ρ:List Addr}{H:Hp}{k:S->Prop}{Q:L2.St->Hp->Prop}:∀{is:List Nat} {l:List D} {vs:List V} {σ cI:S} {cx:L2.St},E0 is l σ=some cI->c5 K ρ H l vs->u3 K ρ H σ cx->(∀dN,u3 K ρ H cI dN->Q dN H)->Es is vs cx H Q
 |[],_,_,_,_,_,h,.nil,s,q=>by
  simp only[E0] at h;cases h;exact⟨rfl,q _ s⟩
 |[],_,_,_,_,_,h,.cons _ _,s,q=>by simp only[E0] at h;cases h
 |i::is,_,_,_,_,_,h,.nil,s,q=>by simp only[E0] at h;cases h
 |i::is,_,_,_,_,_,h,.cons r rr,s,q=>by
  simp only[E0] at h;exact⟨_,_,rfl,IZ (k:=k) h rr (s.set i r) q⟩
theorem Z9:∀{is:List Nat} {l:List D} {σ cI:S},E0 is l σ=some cI->l.length=is.length
 |[],[],_,_,_=>rfl
 |[],_::_,_,_,h=>by simp only[E0] at h;cases h
 |_::_,[],_,_,h=>by simp only[E0] at h;cases h
 |_::is,_::l,_,_,h=>by simp only[E0] at h;simp[Z9 h]
theorem KZ{is:List Nat}(hc:X.calm=true)(hN:X.N.Nodup)(hs:gg X es is):PG X (.Tuple es k pos) (LG X.K (.many is)) :=
 (Rv hc (Zq hN hs) (Dy hs).1 (Dy hs).2).imp λv cx H Q bC=>by
  obtain⟨d,σ,g,ρ,s,R,r,h⟩:=bC;obtain⟨l,cI,rfl,e,h⟩:=h;obtain⟨a',vs,rfl,ht,rs⟩:=r.O3;exact⟨_,_,rfl,ht.sq,by rw[<- rs.length];exact Z9 e,IZ (k:=λ_=>True) e rs s h⟩
theorem LN.ext{K ρ H N cu H1}(e:Ext ρ H cu H1):(LN K ρ H N).le (LN K cu H1 N) :=
 ⟨λσ g h bW H' dN e' R s=>h bW H' dN (e.trans e') R s,λd g h=>h.ext e,λσ g h bW H' dN e' R s=>h bW H' dN (e.trans e') R s,λσ g h bW H' dN e' R s=>h bW H' dN (e.trans e') R s⟩
section
variable(hP:j9 P){c tg:Expr}{ma mb mc:ME}{st:Stmt}{rest:List Stmt}{AB nG:MS}{p:Pos}
include hP
theorem Se:kW X [] (LS X.K Ξ (wpS P .pass)) :=
 (Uc (X:=X)).imp λN cx H ⟨σ,g,ρ,s,R,h⟩=>h ρ H cx (.refl _ _) R s
theorem UE(h1:PS X st (LS X.K Ξ (wpS P AB)))(h2:kW X rest (LS X.K Ξ (wpS P nG))):kW X (st::rest) (LS X.K Ξ (wpS P (.seq AB nG))) :=
 (a39 h1 h2).imp λN cx H ⟨σ,g,ρ,s,R,h⟩ =>
  uQ hP s R (.refl _ _) (show wpS P AB { LN X.K ρ H N with nx:=λki g1=>wpS P nG (LN X.K ρ H N) ki g1 (LX X.K ρ H Ξ) } σ g (LX X.K ρ H Ξ) from h) ⟨λki g1 h cu H1 Mr e1 R1 s1=>uQ hP s1 R1 e1 h (LN.ext e1),λ_ _ z=>z,λ_ _ z=>z,λ_ _ z=>z⟩
theorem UI(ha:PE X a (LE X.K Ξ (bh P ma)))(hs:swapsWith a none pos.line X.env=pure false):PS X (.Expr a pos) (LS X.K Ξ (wpS P (.expr ma))) :=
 (TZ ha hs).imp λN cx H ⟨σ,g,ρ,s,R,h⟩=>fT hP s R (.refl _ _) h λx g1 cu H1 v1 e1 R1 r1 h=>h cu H1 cx e1 R1 (s.ext e1)
theorem Kq(h0:PS X (.Assign [.Name x p] a pos) (wF (LE X.K Ξ (bh P ma)) (uq i))):PS X (.Assign [.Name x p] a pos) (LS X.K Ξ (wpS P (.set i ma))) :=
 h0.imp λN cx H ⟨σ,g,ρ,s,R,h⟩=>fT hP s R (.refl _ _) h λx g1 cu H1 v1 e1 R1 r1 h=>h cu H1 _ e1 R1 ((s.ext e1).set i r1)
theorem Ss(h0:PS X (.Assign [tg] a pos) (wF (LE X.K Ξ (bh P ma)) (LG X.K t))):PS X (.Assign [tg] a pos) (LS X.K Ξ (wpS P (.mr t ma))) :=
 h0.imp λN cx H ⟨σ,g,ρ,s,R,h⟩=>fT hP s R (.refl _ _) h λx g1 cu H1 v1 e1 R1 r1 h=>⟨x,σ,g1,cu,s.ext e1,R1,r1,A6 (λcI h dN s'=>h cu H1 dN e1 R1 s') h⟩
theorem a14(hu:X.A.units+100<cLine){i:Expr}{mo:ME}(ha:PE X a (LE X.K Ξ (bh P ma)))(ho:PE X o (LE X.K Ξ (bh P mo)))(hi:PE X i (LE X.K Ξ (bh P mi)))(hs:swapsWithSole [.Subscript o i tp] a pos.line X.env=pure false)(nV:∀ v,assign (.Subscript o i tp) X.env v=(do
   let ov <- holding [v] (eval o X.env)
   let iv <- holding [v,ov] (eval i X.env)
   standAt tp
   holding [v,ov,iv] (setItem ov iv v)
   release [v,ov,iv] [])):PS X (.Assign [.Subscript o i tp] a pos) (LS X.K Ξ (wpS P (.fc mo mi ma))) :=
 (Kj ha (Ru ho hi (RY hu) nV) hs).imp λN cx H ⟨σ,g,ρ,s,R,h⟩ =>
  fT hP s R (.refl _ _) h λx g1 cu H1 v1 e1 R1 r1 h=>fT hP (s.ext e1) R1 e1 h λy g2 fS H2 v2 e2 R2 r2 h=>fT hP (s.ext (e1.trans e2)) R2 (e1.trans e2) h λz g3 lA H3 v3 e3 R3 r3 h =>
   ⟨y,z,x,g3,lA,R3,r2.ext e3,r3,r1.ext (e2.trans e3),U0 (λg4 h qO H4 e4 R4=>h qO H4 cx (e1.trans (e2.trans (e3.trans e4))) R4 (s.ext (e1.trans (e2.trans (e3.trans e4))))) h⟩
omit hP in
def Em(K:PySem.W.Frag)(f:Str)(cs:List Str):Prop:=∀c C,c∈cs->x4 K c C->B7 K C f
omit hP in
theorem Uy{cs:List Str}(hF:Em X.K f cs){ρ:List Addr}{g g':G}{x v:D}{xv vv:V}(R:Rl X.K ρ g H)(rx:f9 X.K ρ H x xv)(rv:f9 X.K ρ H v vv)(h:IF f cs x v g g') :
  ∃a C dx fs,xv=.ref a/\H a=some (.ins C dx fs)/\kE X.K C/\B7 X.K C f/\fs.length<1000/\Rl X.K ρ g' (upd H a (.ins C dx (A7 f vv fs)))/\Ext ρ H ρ (upd H a (.ins C dx (A7 f vv fs))):=by
 obtain⟨i,c,fs,rfl,hi,hc,hz,rfl⟩:=h;obtain⟨a',rfl,ra⟩:=rx.m8;obtain⟨C,dx,vs,hH,hC,jX,rk,na⟩:=R.ins hi ra;obtain⟨R',e'⟩:=R.put (o':=.ins c (n8 f v fs)) (u:=.ins C dx (A7 f vv vs)) hi rfl ra ⟨hC,jX,rk.A7 rv,JB (p:=λy=>B7 X.K C y) (hF c C hc hC) na⟩;exact⟨a',C,dx,vs,rfl,hH,jX,hF c C hc hC,by rw[<- rk.length];omega,R',e'⟩
theorem UJ{cs:List Str}{mo:ME}(hF:Em X.K f cs)(ho:PE X o (LE X.K Ξ (bh P mo)))(ha:PE X a (LE X.K Ξ (bh P ma)))(hs:swapsWith a (some (.Attribute o f tp)) pos.line X.env=pure false):PS X (.Assign [.Attribute o f tp] a pos) (LS X.K Ξ (wpS P (.iK f cs mo ma))) :=
 (Ry ho ha hs).imp λN cx H ⟨σ,g,ρ,s,R,h⟩=>fT hP s R (.refl _ _) h λx g1 cu H1 v1 e1 R1 r1 h=>fT hP (s.ext e1) R1 e1 h λy g2 fS H2 v2 e2 R2 r2 h=>by
  obtain⟨g3,h,q⟩:=h;obtain⟨a',C,dx,fs,hx,hH,jX,na,hz,R3,e3⟩:=Uy hF R2 r2 (r1.ext e2) h;exact⟨a',C,dx,fs,hx,hH,jX,na,hz,q fS _ cx (e1.trans (e2.trans e3)) R3 (s.ext (e1.trans (e2.trans e3)))⟩
theorem XS{sa sb:List Stmt}{FZ msb:MS}(hc:PT X c (LT X.K Ξ (dC P mc)))(ha:kW X sa (LS X.K Ξ (wpS P FZ)))(hb:kW X sb (LS X.K Ξ (wpS P msb))):PS X (.If c sa sb pos) (LS X.K Ξ (wpS P (.ifs mc FZ msb))) :=
 (Xz hc ha hb).imp λN cx H ⟨σ,g,ρ,s,R,h⟩=>qR hP s R (.refl _ _) h λt g1 cu H1 e1 R1 h=>by
  cases t
  ·exact uQ hP (s.ext e1) R1 e1 h (LN.ext e1)
  ·exact uQ hP (s.ext e1) R1 e1 h (LN.ext e1)
theorem Sr(ha:PE X a (LE X.K Ξ (bh P ma))):PS X (.Return (some a) pos) (LS X.K Ξ (wpS P (.ret ma))) :=
 (RB ha).imp λN cx H ⟨σ,g,ρ,s,R,h⟩=>⟨σ,g,ρ,s,R,h⟩
theorem So{iter:Expr}{body:List Stmt}{mb:MS}(hp:PassesOwn (model X.prog X.w) X.A X.env X.xe)(hc:X.calm=true)(hi:PI X tg iter (LI X.K Ξ (iJ P mi)))(hg:PG X tg (LG X.K t))(hb:kW X body (LS X.K Ξ (wpS P mb)))(hs:∀x,foldedSetIterable iter X.env x=pure x):PS X (.For tg iter body [] pos) (LS X.K Ξ (wpS P (.dP t mi mb))) :=
 (Rz hp hc hi hg hb hs).imp λN cx H bC=>by
  obtain⟨σ,g,ρ,s,R,h⟩:=bC;refine⟨σ,g,ρ,s,R,B8 hP mi _ _ _ _ _ _ (λk g1 h cu H1 J e1 R1 j1=>?_) (λ_ _ z=>z) h⟩;obtain⟨W,⟨m0,w0⟩,h⟩:=h;refine⟨λi m dN H'=>∃cI g' bW,Ext cu H1 bW H'/\u3 X.K bW H' cI dN/\Rl X.K bW g' H'/\W i m cI g',⟨m0,σ,g1,cu,.refl _ _,s.ext e1,R1,w0⟩,?_⟩;rintro i m dN H' ⟨cI,g',bW,e',s',R',w'⟩;obtain⟨vw,vt⟩:=j1 bW g' H' e' R' i;rcases h i m cI g' w' with⟨ek,q⟩|⟨x,ek,N2,tS,q⟩
  ·exact .inl ⟨vw ek,q bW H' dN (e1.trans e') R' s'⟩
  ·obtain⟨go,yl⟩:=vt x ek;refine .inr ⟨go,λnv H2=>∃cV g2 fS,Ext cu H1 fS H2/\u3 X.K fS H2 cV nv/\Rl X.K fS g2 H2/\N2 cV g2,?_,?_⟩
   ·rintro nv H2 ⟨cV,g2,fS,e2,s2,R2,n2⟩;obtain⟨m',hm,w2⟩:=tS cV g2 n2;exact⟨m',hm,cV,g2,fS,e2,s2,R2,w2⟩
   ·intro v H2 y;obtain⟨e2,R2,r2⟩:=yl v H2 y;refine⟨x,cI,g',bW,s'.ext e2,R2,r2,A6 (λcV q nv s2=>?_) q⟩;refine uQ hP s2 R2 (e1.trans (e'.trans e2)) q ⟨?_,?_,?_,?_⟩
    ·exact λlO g3 n3 lA H3 qN e3 R3 s3=>⟨lO,g3,lA,(e'.trans e2).trans e3,s3,R3,n3⟩
    ·exact λd g3 h=>h.ext (e1.trans (e'.trans e2))
    ·exact λlO g3 h lA H3 qN e3 R3 s3=>h lA H3 qN (e1.trans ((e'.trans e2).trans e3)) R3 s3
    ·exact λlO g3 n3 lA H3 qN e3 R3 s3=>⟨lO,g3,lA,(e'.trans e2).trans e3,s3,R3,n3⟩
theorem Lj{d6:List Nat}{jA me:ME}:∀cx H Q,LE X.K Ξ (bh P (.comp d6 n t mi jA me)) cx H Q->Ef (LI X.K Ξ (iJ P mi)) d6 n (LG X.K t) (LT X.K (sV Ξ.1) (dC P jA)) (LE X.K (sV Ξ.1) (bh P me)) cx H Q:=λcx H Q bC=>by
 obtain⟨σ,g,ρ,s,R,h⟩:=bC;refine⟨σ,g,ρ,s,R,B8 hP mi _ _ _ _ _ _ (λk g1 h cu H1 J e1 R1 j1=>?_) (λ_ _ z=>z) h⟩;obtain⟨W,⟨m0,w0⟩,h⟩:=h;refine⟨λi m Fq dN H'=>∃ys cI g' bW,Ext cu H1 bW H'/\u3 X.K bW H' cI dN/\Rl X.K bW g' H'/\c5 X.K bW H' ys Fq/\W i m ys cI g',⟨m0,[],_,g1,cu,.refl _ _,(s.ext e1).d6 d6 n,R1,.nil,w0⟩,?_⟩;rintro i m Fq dN H' ⟨ys,cI,g',bW,e',s',R',ry,w'⟩;obtain⟨vw,vt⟩:=j1 bW g' H' e' R' i;rcases h i m ys cI g' w' with⟨ek,q⟩|⟨x,ek,hz,q⟩
 ·exact .inl ⟨vw ek,λp hp=>(q.ext (e1.trans e')).new R' hp ry⟩
 ·obtain⟨go,yl⟩:=vt x ek;refine .inr ⟨go,by rw[<- ry.length];exact CN hz,λv H2 y=>?_⟩;obtain⟨e2,R2,r2⟩:=yl v H2 y;refine⟨x,cI,g',bW,s'.ext e2,R2,r2,A6 (λcV q nv s2=>?_) q⟩;refine⟨cV,g',bW,s2,R2,u6 hP jA _ _ _ _ _ _ (λb g3 q lA H3 e3 R3=>?_) (λ_ _ z=>z.elim) q⟩;cases b
  ·obtain⟨m',hm,w3⟩:=q;exact⟨m',hm,ys,cV,g3,lA,(e'.trans e2).trans e3,s2.ext e3,R3,(ry.ext e2).ext e3,by simpa using w3⟩
  ·refine⟨cV,g3,lA,s2.ext e3,R3,c7 hP me _ _ _ _ _ _ (λz g4 q qO H4 v4 e4 R4 r4=>?_) (λ_ _ z=>z.elim) q⟩;obtain⟨m',hm,w4⟩:=q;exact⟨m',hm,ys++[z],cV,g4,qO,(e'.trans e2).trans (e3.trans e4),(s2.ext e3).ext e4,R4,(((ry.ext e2).ext e3).ext e4).append (.cons r4 .nil),by simpa using w4⟩
theorem a22{elt iter:Expr}{ifs:List Expr}{N':List Str}{d6:List Nat}{cl:List (Str×Addr)}{p2 km:Pos}{jA me:ME}(S:dM X scope N' d6 cl)(hc:X.calm=true)(hi:PI X tg iter (LI X.K Ξ (iJ P mi)))(hg:∀pins C s H fp,PG (f7 X pins scope N' cl C s H fp) tg (LG X.K t))(ht:∀pins C s H fp,lZ (f7 X pins scope N' cl C s H fp) ifs (LT X.K (sV Ξ.1) (dC P jA)))(he:∀pins C s H fp,PE (f7 X pins scope N' cl C s H fp) elt (LE X.K (sV Ξ.1) (bh P me)))(hs:∀x,foldedSetIterable iter X.env x=pure x)(nR:Gl X "sorted")(oV:X.mg "sorted"=none):PE X (.Call (.Name "sorted" p2) [.SetComp elt [⟨tg,iter,ifs,0⟩] scope pos] [] km) (LE X.K Ξ (bh P (.iz d6 N'.length t mi jA me))) :=
 (zE (U8 hc) nR oV (by first|exact iw|decide +kernel) (Q4 (a46 S hc hi hg ht he hs) X8)).imp λcx H Q bC=>by
  obtain⟨σ,g,ρ,s,R,h⟩:=bC;refine⟨σ,g,ρ,s,R,B8 hP mi _ _ _ _ _ _ (λk g1 h cu H1 J e1 R1 j1=>?_) (λ_ _ z=>z) h⟩;obtain⟨W,⟨m0,w0⟩,h⟩:=h;refine⟨λi m ys dN H'=>∃cI g' bW,Ext cu H1 bW H'/\u3 X.K bW H' cI dN/\Rl X.K bW g' H'/\W i m ys cI g',⟨m0,_,g1,cu,.refl _ _,(s.ext e1).d6 d6 _,R1,w0⟩,?_⟩;rintro i m ys dN H' ⟨cI,g',bW,e',s',R',w'⟩;obtain⟨vw,vt⟩:=j1 bW g' H' e' R' i;rcases h i m ys cI g' w' with⟨ek,hz,q⟩|⟨x,ek,hz,q⟩
  ·exact .inl ⟨vw ek,λp hp=>⟨p,ys,rfl,u7,by omega,λp' gL=>(q.ext ((e1.trans e').trans (B1 hp))).new (R'.grow hp) gL (c5.ofInts _)⟩⟩
  ·obtain⟨go,yl⟩:=vt x ek;refine .inr ⟨go,hz,λv H2 y=>?_⟩;obtain⟨e2,R2,r2⟩:=yl v H2 y;refine⟨x,cI,g',bW,s'.ext e2,R2,r2,A6 (λcV q nv s2=>?_) q⟩;refine⟨cV,g',bW,s2,R2,u6 hP jA _ _ _ _ _ _ (λb g3 q lA H3 e3 R3=>?_) (λ_ _ z=>z.elim) q⟩;cases b
   ·obtain⟨m',hm,w3⟩:=q;exact⟨m',hm,cV,g3,lA,(e'.trans e2).trans e3,s2.ext e3,R3,by simpa using w3⟩
   ·refine⟨cV,g3,lA,s2.ext e3,R3,c7 hP me _ _ _ _ _ _ (λz g4 q qO H4 v4 e4 R4 r4=>?_) (λ_ _ z=>z.elim) q⟩;obtain⟨j,rfl,m',hm,w4⟩:=q;obtain rfl:=r4.m9;exact⟨j,rfl,m',hm,cV,g4,qO,(e'.trans e2).trans (e3.trans e4),(s2.ext e3).ext e4,R4,by simpa using w4⟩
end
section
variable(hP:j9 P)
include hP
theorem a15{C:Addr}{B newId hJ:String}{bm:List Value}{np gz:Pos}{kx:Expr}{rest:List Expr}{iD:ME}(hc:X.calm=true)(O:OwnCls x C bm newId X.mg X.base)(FB:ExcBaseFacts B newId hJ bm)(hg:Gl X x)(ha:PA X (kx::rest) (LA X.K Ξ (gB P iD)))(hr:zg X Ξ.2)(hx:x∈Ξ.1)(hC:x4 X.K x C)(he:starEach (kx::rest) X.env=(false,eval kx X.env)::starEach rest X.env)(hV:(backTo gz (starEach rest X.env)).any (·.1)=false)(hd:(x==("__debug__":Str))=false):PS X (.Raise (some (.Call (.Name x np) (kx::rest) [] gz)) none pos) (LS X.K Ξ (wpS P (.raise x iD))) :=
 (a40 hc O FB hg ha hr he hV hd).imp λN cx H bC=>by
  obtain⟨σ,g,ρ,s,R,h⟩:=bC;refine kZ hP s R (.refl _ _) h λds g1 cu H1 vs e1 R1 r1 h=>?_;exact⟨by rw[<- r1.length];exact p9 (aF h.1 (by decide)),h.2 cu H1 C e1 R1 hx hC⟩
end
structure i7 where
 N:List Str
 nm:List (Str×NameKind)
 oZ:Bool
 fns:List (Str×Nat)
 con:List (Str×D)
 blt:List Str
 exc:List Str
 gd:List (Str×List D)
 cls:List (Str×Nat)
 rz:List (Str×Str×Nat)
 pb:List (Str×Str)
 mB:Bool
 oK:Bool
def gG:Expr->Bool
 |.Set ..=>false
 |.Starred ..=>false
 |.Slice ..=>false
 |_=>true
def A1:Expr->Bool
 |.ListComp ..=>false
 |.SetComp ..=>false
 |.DictComp ..=>false
 |_=>true
def uv:Expr->Bool
 |.Tuple ..=>false
 |_=>true
def Dw:Expr->Bool
 |.Name ..=>true
 |.Call ..=>true
 |.Subscript ..=>true
 |.Constant ..=>true
 |.Attribute ..=>true
 |.BinOp ..=>true
 |_=>false
def zd:Expr->Bool
 |.Call (.Name ..) ..=>false
 |_=>true
def i7.idx(c:i7)(x:Str):Option Nat:=c.N.findIdx? λy=>decide (y=x)
def i7.Ak(c:i7)(x:Str):Bool:=match c.nm.lookup x with
 |some .local=>true
 |some .cell=>true
 |some .free=>true
 |_=>false
def i7.gl(c:i7)(x:Str):Bool:=decide (c.nm.lookup x=some .globalImplicit)
def i7.C7(c:i7)(x:Str):Bool:=decide (c.nm.lookup x=some .local)||decide (c.nm.lookup x=some .cell)
def qw(x:Str):Bool:=(x==("__debug__":Str))==false&&(x==("__classdict__":Str))==false&&decide (x≠"__name__")
def Eh:List (Str×String):=[("int","int"),("bool","bool"),("str","str"),("tuple","tuple"),("list","list")]
def Ep:List (Str×Pr):=[("len",.len),("list",.list),("tuple",.tuple),("isinstance",.isin),("all",.all),("max",.max),("min",.min),("int",.int),("dict",.kU),("sorted",.kJ),("sum",.sum)]
def zr:List (Str×Pr):=[]
def Ez:List (Str×Pr):=[("append",.append),("pop",.pop),("get",.get),("add",.kL)]
def zi:Expr->Option (Str×List Expr)
 |.Call (.Name x _) args [] _=>some (x,args)
 |_=>none
def Il:Expr->Bool
 |.Tuple ..=>true
 |_=>false
def asName:Expr->Option Str
 |.Name x _=>some x
 |_=>none
def frees(sc:Scope):List Str:=(sc.names.filter λy=>decide (y.2=.free)).map (·.1)
def locals(sc:Scope):List Str:=(sc.names.filter λy=>decide (y.2=.local)||decide (y.2=.cell)).map (·.1)
def i7.inner(c:i7)(sc:Scope):i7:={ c with N:=frees sc++locals sc,nm:=sc.names,oZ:=false,mB:=false,oK:=false }
def i7.d6(c:i7)(sc:Scope):List Nat:=(frees sc).map λx=>(c.idx x).getD 0
def i7.CQ(c:i7)(sc:Scope):Bool :=
 decide (sc.kind=.function)&&sc.names.all (λy=>!decide (y.2=.cell)||decide (sc.names.lookup y.1=some .cell))&&sc.names.all (λy=>!decide (y.2=.local)||decide (sc.names.lookup y.1=some .local)) &&
 decide (frees sc++locals sc).Nodup&&(frees sc).all (λx=>(c.idx x).isSome&&decide (sc.names.lookup x=some .free)&&(decide (c.nm.lookup x=some .cell)||decide (c.nm.lookup x=some .free)))
def i7.slot(c:i7)(e:Expr):Option Nat:=(asName e).bind λx=>if c.C7 x then c.idx x else none
def i7.slots(c:i7):List Expr->Option (List Nat)
 |[]=>some []
 |e::r=>(c.slot e).bind λi=>(c.slots r).map λis=>i::is
def i7.tg(c:i7)(e:Expr):Option MT:=((c.slot e).map .one).orElse λ_=>match e with
 |.Tuple es _ _=>(c.slots es).map .many
 |_=>none
def DP:Const->Option D
 |.int i=>some (.int i)
 |.bool b=>some (.bl b)
 |.none=>some .cj
 |.str x=>some (.str x)
 |_=>none
structure CF where
 e:i7->Expr->Option ME
 t:i7->Expr->Option ME
 s:i7->Stmt->Option MS
section
variable(r:CF)(c:i7)
def c1(p:Pr)(a:Expr):Option ME:=(r.e c a).map λm=>.prim p (.cons m .nil)
def c2(p:Pr)(a b:Expr):Option ME:=(r.e c a).bind λma=>(r.e c b).map λmb=>.prim p (.cons ma (.cons mb .nil))
def I0:List Expr->Option ME
 |[]=>some .nil
 |e::es=>if gG e then(r.e c e).bind λm=>(I0 es).map λms=>.cons m ms else none
def LV:Expr->Option Str
 |.Constant (.str x) _ _=>some x
 |_=>none
def HJ:Expr->Option Expr
 |.FormattedValue e k none _=>if k=-1 then some e else none
 |_=>none
def uk:List Expr->Option ME
 |[]=>some .nil
 |e::es=>((LV e).bind λx=>if x.length<=2000 then(uk es).map λms=>.cons (.lit (.str x)) ms else none).orElse λ_ =>
   (HJ e).bind λa=>(r.e c a).bind λm=>(uk es).map λms=>.cons (.prim .fv (.cons m .nil)) ms
def wM:List (Option Expr)->List Expr->Option ME
 |[],[]=>some .nil
 |some k::ks,v::vs=>(r.e c k).bind λmk=>(r.e c v).bind λmv=>(wM ks vs).map λms=>.cons mk (.cons mv ms)
 |_,_=>none
def yF(op:BoolOp):List Expr->Option ME
 |[]=>none
 |[a]=>r.e c a
 |a::b::rs=>(r.e c a).bind λma=>(yF op (b::rs)).map λmb=>match op with
  |.And=>.eI ma mb
  |.Or=>.jT ma mb
def yG(op:BoolOp):List Expr->Option ME
 |[]=>none
 |[a]=>r.t c a
 |a::b::rs=>(r.t c a).bind λma=>(yG op (b::rs)).map λmb=>match op with
  |.And=>.eI ma mb
  |.Or=>.jT ma mb
def Ka:List Expr->Option ME
 |[]=>some .no
 |[e]=>r.t c e
 |_=>none
def B6:List Stmt->Option MS
 |[]=>some .pass
 |s::rs=>(r.s c s).bind λm=>(B6 rs).map λms=>.seq m ms
def El(x:Str):Option ME :=
 if qw x then(if c.Ak x then(c.idx x).map .var else if c.gl x then((c.con.lookup x).map .lit).orElse λ_=>if c.blt.contains x then(Eh.lookup x).map λt=>.lit (.ty t) else none else none) else none
def Ad(op:UnaryOp)(a:Expr):Option ME:=if op=.Not then(r.e c a).map .eU else c1 r c (.un op) a
def i7.zL(b:Expr):Option (List D):=(asName b).bind λx=>if c.gl x&&qw x then c.gd.lookup x else none
def Vr:CmpOp->Option Bool
 |.In=>some false
 |.NotIn=>some true
 |_=>none
def wG(a:Expr)(ops:List CmpOp)(bs:List Expr):Option ME:=match ops,bs with
 |[op],[b]=>if behindInMarks op b then none else((Vr op).bind λneg=>(c.zL b).bind λkvs=>(r.e c a).map λma=>.prim (yI neg) (.cons (.lit (.tup kvs)) (.cons ma .nil))).orElse λ_=>c2 r c (.cmp op) a b
 |[op,iV],[b,d]=>if lastMarks [op,iV] [b,d] then none else(r.e c a).bind λma=>(r.e c b).bind λmb=>(r.e c d).map λmd=>.chain op iV ma mb md
 |_,_=>none
def Vb:Expr->Option (Option Expr×Option Expr×Option Expr)
 |.Slice lo hi st _=>some (lo,hi,st)
 |_=>none
def Fs(a:Expr):Option Expr->Option Expr->Option Expr->Option ME
 |none,none,none=>c1 r c (.ot false false) a
 |some b,none,none=>c2 r c (.ot true false) a b
 |none,some b,none=>c2 r c (.ot false true) a b
 |_,_,_=>none
def EV(a b:Expr):Option ME:=((Vb b).bind λq=>Fs r c a q.1 q.2.1 q.2.2).orElse λ_=>if gG b then((c.zL a).bind λkvs=>(r.e c b).map λmb=>.prim .nY (.cons (.lit (.tup kvs)) (.cons mb .nil))).orElse λ_=>c2 r c .ix a b else none
def Ae(x:Str)(e:Expr):Option ME:=(zi e).bind λq =>
 if x="list" && q.1="range" && c.blt.contains "list" && c.blt.contains "range" && c.gl "range" then (match q.2 with
  |[a]=>if gG a then c1 r c .jU a else none
  |[a,b]=>if gG a&&gG b then c2 r c .kR a b else none
  | _=>none)
 else if x="sorted" && q.1="set" && c.blt.contains "sorted" && c.blt.contains "set" && c.gl "set" then (match q.2 with
  |[a]=>if gG a then c1 r c .sset a else none
  | _=>none)
 else if x="len" && q.1="set" && c.blt.contains "len" && c.blt.contains "set" && c.gl "set" then (match q.2 with
  |[a]=>if gG a then c1 r c .qv a else none
  | _=>none)
 else none
def Wt(x:Str)(e:Expr):List Expr->Option ME
 |[]=>Ae r c x e
 |_=>none
def Cv(x:Str):Option ME:=if qw x&&c.gl x then((c.fns.lookup x).map λf=>.call f .nil).orElse λ_=>(c.cls.lookup x).map λf=>.make x f .nil else none
def Cw(x:Str)(e:Expr)(es:List Expr):Option ME:=if qw x&&c.gl x then(Wt r c x e es).orElse λ_=>(I0 r c (e::es)).bind λms=>((c.fns.lookup x).map λf=>.call f ms).orElse λ_=>((c.cls.lookup x).map λf=>.make x f ms).orElse λ_=>if c.blt.contains x then(Ep.lookup x).map λp=>.prim p ms else none else none
def Kt(x:Str):List Expr->Option ME
 |[]=>Cv c x
 |e::es=>Cw r c x e es
def Cy(o:Expr)(m:Str)(apos pos:Pos)(args:List Expr):Option ME :=
 if zd o && (apos.endLine == pos.line) && decide (args.length < 20) then (r.e c o).bind λmo=>(I0 r c args).bind λms=>if m="index" then none else if args.isEmpty && (zr.lookup m).isSome then (zr.lookup m).map λp=>.fg p mo ms else (match Ez.lookup m with
  |some p=>if args.isEmpty then none else some (.fg p mo ms)
  | none=>none) else none
def Ek(f:Expr)(args:List Expr)(jL:List Keyword)(pos:Pos):Option ME:=if jL.isEmpty then(match f with
 |.Name x _=>Kt r c x args
 |.Attribute o m apos=>Cy r c o m apos pos args
 | _=>none) else none
def wN(tg e:Expr):Option ME:=(((zi e).bind λq =>
  if q.1="enumerate" then (match q.2 with
   |[a]=>if c.gl "enumerate"&&c.blt.contains "enumerate"&&gG a&&Il tg then(r.e c a).map .lE else none
   | _=>none)
  else if q.1="range" then (match q.2 with
   |[a]=>if c.gl "range"&&c.blt.contains "range"&&gG a then(r.e c a).map .eV else none
   |[a,b]=>if c.gl "range"&&c.blt.contains "range"&&gG a&&gG b then(r.e c a).bind λma=>(r.e c b).map λmb=>.kS ma mb else none
   | _=>none)
  else none):Option ME).orElse λ_=>if gG e then (r.e c e).map .fu else none
def Z0(elt:Expr)(gens:List Comprehension)(sc:Scope):Option ME:=match gens with
 |[⟨tg,it,ifs,Gk⟩]=>if c.CQ sc&&decide (Gk=0)&&gG it then((c.inner sc).tg tg).bind λt=>(wN r c tg it).bind λmi=>(Ka r (c.inner sc) ifs).bind λmc=>(r.e (c.inner sc) elt).map λme=>.comp (c.d6 sc) (frees sc++locals sc).length t mi mc me else none
 |_=>none
def U':Expr->Option Str
 |.Name x _=>some x
 |_=>none
def Va:Expr->Option (Expr×List Comprehension×Scope)
 |.SetComp elt gens sc _=>some (elt,gens,sc)
 |_=>none
def Wq:ME->Option ME
 |.comp a n t i k e=>some (.iz a n t i k e)
 |_=>none
def Af(f:Expr)(args:List Expr)(jL:List Keyword):Option ME:=match args with
 |[a]=>if jL.isEmpty&&decide (U' f=some "sorted")&&c.gl "sorted"&&c.blt.contains "sorted" then(Va a).bind λq=>(Z0 r c q.1 q.2.1 q.2.2).bind Wq else none
 |_=>none
def xy(f:Expr)(args:List Expr)(jL:List Keyword):Option ME:=(λ(_:i7)=>none) c
def EU(es:List Expr)(k:Nat):Option ME:=if c.oZ&&decide (k=0) then(match es with
 |[.Constant (.int i) _ _]=>some (.prim (.kK i) .nil)
 | _=>none) else none
def IG:Expr->Option ME
 |.Name x _=>El c x
 |.Constant k _ _=>(DP k).map .lit
 |.BinOp a op b _=>c2 r c (.bin op) a b
 |.UnaryOp op a _=>Ad r c op a
 |.Compare a ops bs _=>wG r c a ops bs
 |.BoolOp op vs _=>yF r c op vs
 |.IfExp t a b _=>(r.t c t).bind λmt=>(r.e c a).bind λma=>(r.e c b).map λmb=>.ite mt ma mb
 |.Tuple es _ _=>(I0 r c es).map (.prim .tup)
 |.List es _=>(I0 r c es).map (.prim .lst)
 |.Subscript a b _=>EV r c a b
 |.Dict ks vs _=>if ks.isEmpty&&vs.isEmpty then some (.prim .W6 .nil) else if decide (ks.length<=15) then(wM r c ks vs).map .qp else none
 |.JoinedStr vs _=>if decide (2<=vs.length)&&decide (vs.length<=40) then(uk r c vs).map (.prim .mK) else none
 |.Attribute o f _=>if zd o then c1 r c (.fld f) o else none
 |.Call f args jL pos=>(Af r c f args jL).orElse λ_=>(xy c f args jL).orElse λ_=>Ek r c f args jL pos
 |.ListComp elt gens sc _=>Z0 r c elt gens sc
 |.Set es k _=>EU c es k
 |_=>none
def stepT:Expr->Option ME
 |.UnaryOp op a _=>if op=.Not then(r.t c a).map .eU else none
 |.BoolOp op vs _=>yG r c op vs
 |.Compare a ops bs _=>(wG r c a ops bs).map .gi
 |e=>if Dw e then(r.e c e).map .gi else none
def Ik:Expr->Option (Str×Pos)
 |.Name x p=>some (x,p)
 |_=>none
def Wx:Expr->Option (Expr×Expr)
 | .Tuple es _ _=>(match es with
  |[a,b]=>some (a,b)
  | _=>none)
 |_=>none
def i7.EO(x:Str)(px:Pos)(y:Str)(py:Pos)(a b:Expr):Bool:=decide (c.nm.lookup x=some .local)&&decide (c.nm.lookup y=some .local)&&decide (x≠y)&&decide (py.line=px.line)&&gG a&&gG b&&!([a,b].all (foldedForSure 8))&&!([a,b].all (constantsAlone 8))
def i7.yN:List Expr->Expr->Bool
 |[s,t],e=>((Ik s).bind λp=>(Ik t).bind λq=>(Wx e).map λz=>c.EO p.1 p.2 q.1 q.2 z.1 z.2).getD false
 |_,_=>false
def CC(e f:Option Expr):Option (Str×Expr×List Expr):=if f.isNone then e.bind λe=>(zi e).bind λq=>q.2.head?.map λa=>(q.1,a,q.2.tail) else none
def i7.zK(f:Str):List Str:=(c.pb.filter λy=>decide (y.1=f)).map (·.2)
def Eo:List Expr->Option (Expr×Expr×Expr×Expr)
 |_=>none
def HW(tg e:Expr):Option MS:=match tg with
 |.Name x _=>if c.C7 x then(c.idx x).bind λi=>(r.e c e).map λm=>.set i m else none
 |.Tuple es _ _=>(Eo es).elim (if(uv e&&A1 e)||c.yN es e then(c.slots es).bind λis=>(r.e c e).map λm=>.mr (.many is) m else none) λq=>if A1 e&&gG q.2.1&&gG q.2.2.2 then(r.e c q.1).bind λm1=>(r.e c q.2.1).bind λn1=>(r.e c q.2.2.1).bind λm2=>(r.e c q.2.2.2).bind λn2=>(r.e c e).map λm=>.xD m1 n1 m2 n2 m else none
 |.Subscript o i _=>if gG i&&A1 e then(r.e c o).bind λmo=>(r.e c i).bind λmi=>(r.e c e).map λm=>.fc mo mi m else none
 |.Attribute o f _=>if A1 e then(r.e c o).bind λmo=>(r.e c e).map λm=>.iK f (c.zK f) mo m else none
 |_=>none
def toR(e:Expr)(m:ME):ME:=(λ(_:i7)=>m) c
def IH:Stmt->Option MS
 |.Expr e _=>if A1 e then(r.e c e).map .expr else none
 | .Assign An e _=>(match An with
  |[tg]=>HW r c tg e
  | _=>none)
 |.If t a b _=>(r.t c t).bind λmt=>(B6 r c a).bind λma=>(B6 r c b).map λmb=>.ifs mt ma mb
 |.For tg it body yw _=>if c.oZ&&(yw.isEmpty&&gG it) then(c.tg tg).bind λt=>(wN r c tg it).bind λmi=>(B6 r c body).map λmb=>.dP t mi mb else none
 | .Return e _=>(match e with
  |some e=>(r.e c e).map λm=>.ret (toR c e m)
  | none=>some .qW)
 |.Pass _=>some .pass
 |.Raise e f _=>(CC e f).bind λq=>if c.mB&&c.exc.contains q.1&&c.gl q.1&&qw q.1 then(I0 r c (q.2.1::q.2.2)).map (.raise q.1) else none
 |_=>none
end
def comp:Nat->CF
 |0=>⟨λ_ _=>none,λ_ _=>none,λ_ _=>none⟩
 |n+1=>⟨IG (comp n),stepT (comp n),λc s=>(IH (comp n) c s).orElse λ_=>some (.expr .no)⟩
structure jg(X:Cx)(c:i7)(P:gh)(Ξ:jf):Prop where
 N:X.N=c.N
 nd:c.N.Nodup
 loc:∀x,c.nm.lookup x=some .local->X.env.scope.names.lookup x=some .local
 Co:∀x,c.nm.lookup x=some .cell->X.env.scope.names.lookup x=some .cell
 Hj:∀x,c.nm.lookup x=some .free->X.env.scope.names.lookup x=some .cell\/X.env.scope.names.lookup x=some .free
 OU:∀x,c.nm.lookup x=some .globalImplicit->X.env.scope.names.lookup x=some .globalImplicit
 cells:∀x,(c.nm.lookup x=some .cell\/c.nm.lookup x=some .free)->∃a,X.env.cells.lookup x=some a
 oZ:∀x,c.nm.lookup x=some .cell->X.fn x=true
 calm:X.calm=true
 units:X.A.units+100<cLine
 own:c.oZ=true->PassesOwn (model X.prog X.w) X.A X.env X.xe
 mono:j9 P
 con:∀x d,c.con.lookup x=some d->∃v u,X.mg x=some u/\RelV v u/\∀ρ H,f9 X.K ρ H d v
 blt:∀x,c.blt.contains x=true->X.mg x=none
 fns:∀x f,c.fns.lookup x=some f->∃k fa fd ps,pK X P Ξ.1 k f fa fd ps/\x5 k X.A/\X.mg x=some (.ref fa)/\PySem.W.keepIn X.K (.ref fa)=true
 cls:∀x f,c.cls.lookup x=some f->∃k C fa fd ps,pK X P Ξ.1 k f fa fd ps/\x5 (k+1) X.A/\X.mg x=some (.ref C)/\x4 X.K x C/\kE X.K C/\Mk X.K C fa
 rz:∀m y f C,(m,y,f)∈c.rz->x4 X.K y C->∃k fa fd ps,Meth X.K C m fa/\pK X P Ξ.1 k f fa fd ps/\x5 k X.A
 pb:∀f y C,(f,y)∈c.pb->x4 X.K y C->B7 X.K C f
 Hk:Ξ.1=c.exc
 pass:Passes (jJ X.prog X.w) X Ξ.2
 mB:c.mB=true->zg X Ξ.2
 oK:c.oK=true->X.stack=X.env::X.outer/\X.env.frame=some X.env.locals/\LP X Ξ.2
 exc:∀x,c.exc.contains x=true->∃C,X.mg x=some (.ref C)/\x4 X.K x C/\∃B newId hJ bm,OwnCls x C bm newId X.mg X.base/\ExcBaseFacts B newId hJ bm
 Pb:∀x y C C',c.exc.contains x=true->c.exc.contains y=true->x4 X.K x C->x4 X.K y C'->PySem.W.exmOne X.K (.ref C) (.ref C')=some (decide (x=y\/y="MintError"))
 yq:∀x kvs,c.gd.lookup x=some kvs->yB X x kvs
 code:c.oZ=true->PySem.W.kdsCode X.K X.env.code=true
theorem Td(h:c.idx x=some i):c.N[i]?=some x:=by
 unfold i7.idx at h;rw[kY] at h;obtain⟨h1,h2,_⟩:=h;rw[ao h1,bg h2]
theorem jg.Qc(C:jg X c P Ξ)(h:c.Ak x=true):zR X.env.scope x:=by
 unfold i7.Ak at h;split at h
 ·rename_i e;exact .inl (C.loc x e)
 ·rename_i e;exact .inr (.inl (C.Co x e))
 ·rename_i e;rcases C.Hj x e with z|z
  ·exact .inr (.inl z)
  ·exact .inr (.inr z)
 ·cases h
theorem jg.A8(C:jg X c P Ξ)(h:c.gl x=true):Gl X x:=C.OU x (bg h)
theorem jg.C7(C:jg X c P Ξ){x:Str}(h:c.C7 x=true):Loc X.env.scope x/\(X.fn x=true\/X.env.scope.names.lookup x=some .local):=by
 unfold i7.C7 at h;rw[cZ] at h;rcases h with h|h
 ·have:=C.loc x (bg h);exact⟨.inl this,.inr this⟩
 ·exact⟨.inr (C.Co x (bg h)),.inl (C.oZ x (bg h))⟩
theorem jg.ug(C:jg X c P Ξ)(h:c.idx x=some i):X.N[i]?=some x:=by rw[C.N];exact Td h
theorem jg.tE(C:jg X c P Ξ):X.N.Nodup:=by rw[C.N];exact C.nd
theorem Jp(h:asName e=some x):∃p,e=.Name x p:=by
 cases e<;>first|(cases h;exact⟨_,rfl⟩)|cases h
theorem Ly(h:c.slot e=some i):∃x p,e=.Name x p/\c.C7 x=true/\c.idx x=some i:=by
 unfold i7.slot at h;obtain⟨x,hx,h2⟩:=ai.mp h;obtain⟨p,rfl⟩:=Jp hx;split at h2
 ·exact⟨x,p,rfl,by assumption,h2⟩
 ·cases h2
theorem jg.slots(C:jg X c P Ξ):∀{es:List Expr} {is:List Nat},c.slots es=some is->gg X es is:=by
 intro es
 induction es with
 |nil=>intro is h;cases h;exact .nil
 |cons e r ih =>
  intro is h;unfold i7.slots at h;obtain⟨i,hi,h⟩:=ai.mp h;obtain⟨is',hs,rfl⟩:=ae.mp h;obtain⟨x,p,rfl,hl,hx⟩:=Ly hi;exact .cons (C.ug hx) (C.C7 hl).1 (C.C7 hl).2 (ih hs)
theorem orElse_some{α:Type}{a:Option α}{b:Unit->Option α}{m:α}(h:a.orElse b=some m):a=some m\/b ()=some m:=by
 cases a with
 |none=>exact .inr h
 |some x=>exact .inl h
theorem jg.Ib(C:jg X c P Ξ){tg:Expr}(h:c.tg tg=some t):PG X tg (LG X.K t):=by
 unfold i7.tg at h;rcases orElse_some h with h|h
 ·obtain⟨i,hi,rfl⟩:=ae.mp h;obtain⟨x,p,rfl,hl,hx⟩:=Ly hi;exact RZ C.tE (C.ug hx) (C.C7 hl).1 (C.C7 hl).2
 ·cases tg<;>first|(cases h;done)|skip
  obtain⟨is,hs,rfl⟩:=ae.mp (show(c.slots _).map MT.many=some t from h);exact KZ C.calm C.tE (C.slots hs)
theorem q8(h:gG e=true):starEach (e::es) env=(false,eval e env)::starEach es env:=by
 cases e<;>first|rfl|cases h
theorem zD(h:gG e=true):∀x,foldedSetIterable e env x=pure x:=by
 intro x;cases e<;>first|rfl|cases h
theorem Kd(h:gG e=true):Cz e:=by
 intro o i;cases e<;>first|rfl|cases h
theorem Tt{i:Expr}(h:gG i=true):∀v,assign (.Subscript o i tp) env v=(do
      let ov <- holding [v] (eval o env)
      let iv <- holding [v,ov] (eval i env)
      standAt tp
      holding [v,ov,iv] (setItem ov iv v)
      release [v,ov,iv] []):=by
  intro v;cases i<;>first|rfl|cases h
theorem U2{t:Option Expr}(h:A1 e=true):swapsWith e t n env=pure false:=by
 cases e<;>first|rfl|cases h
theorem a57{p:Pos}(h:uv e=true):swappedStores [.Tuple es k p] e env=pure none:=by
 cases e<;>first|rfl|cases h
theorem Zt(h:Dw e=true):∀whole,isTrue e env whole=(do let v <- whole;standAt e.pos;holding [v] (truthy v)):=by
 intro w;cases e<;>first|rfl|cases h
theorem X0{q:Str×List Expr}(h:zi e=some q):∃p pos,e=.Call (.Name q.1 p) q.2 [] pos:=by
 cases e<;>first|(cases h;done)|skip
 rename_i f as jL pos;cases f<;>first|(cases h;done)|skip
 cases jL<;>first|(cases h;done)|skip
 cases h;exact⟨_,_,rfl⟩
theorem a00(h:Il e=true):∃es k p,e=.Tuple es k p:=by
 cases e<;>first|exact⟨_,_,_,rfl⟩|cases h
theorem Lm{kvs:List D}(h:c.zL b=some kvs):∃x p,b=.Name x p/\c.gl x=true/\qw x=true/\c.gd.lookup x=some kvs:=by
 unfold i7.zL at h;obtain⟨x,hx,h2⟩:=ai.mp h;obtain⟨p,rfl⟩:=Jp hx;split at h2
 ·rename_i hc;rw[aW] at hc;exact⟨x,p,rfl,hc.1,hc.2,h2⟩
 ·cases h2
theorem Q7(h:zd o=true):attributeBase o f env (eval o env)=eval o env:=by
 cases o<;>first|rfl|skip
 rename_i f as jL pos;cases f<;>first|rfl|cases h
theorem CI{env:Env}:∀(names:List (Str×NameKind)) (acc:List (Str×Addr)),(∀y∈names,y.2=.free->∃a,env.cells.lookup y.1=some a)->(∀x a,acc.lookup x=some a->env.cells.lookup x=some a) ->
  ∃ cl,(forIn names acc λ(y:Str × NameKind) (cs:List (Str × Addr))=>(match y with
   |(name,kind)=>if(kind==NameKind.free)=true then do
     let __do_lift <- cellOf env name
     pure (ForInStep.yield ((name,__do_lift)::cs))
    else pure (ForInStep.yield cs):Sem (ForInStep (List (Str × Addr)))))=pure cl/\(∀ x a,cl.lookup x=some a->env.cells.lookup x=some a)/\(∀ y ∈ names,y.2=.free->∃ a,cl.lookup y.1=some a)/\∀ x a,acc.lookup x=some a->∃ a',cl.lookup x=some a'
 |[],acc,_,h2=>⟨acc,rfl,h2,λy hy=>absurd hy (by simp),λx a h=>⟨a,h⟩⟩
 |(n,k)::r,acc,h1,h2=>by
  rw[List.forIn_cons];by_cases hk:k=.free
  ·subst hk;obtain⟨a,ha⟩:=h1 (n,.free) (by simp) rfl;have hc:cellOf env n=pure a:=by unfold cellOf;rw[ha]
   obtain ⟨cl,e,q1,q2,q3⟩:=CI r ((n,a) :: acc) (λy hy=>h1 y (by simp [hy])) (λx b hb=>by
    rw[cS] at hb;cases hx:x==n with
    |true=>rw[hx] at hb;cases hb;rw[eq_of_beq hx];exact ha
    | false=>rw [hx] at hb;exact h2 x b hb)
   refine⟨cl,?_,q1,λy hy hf=>?_,λx b hb=>?_⟩
   ·simp only[beq_self_eq_true,if_true,hc];exact e
   ·rcases aH.mp hy with z|z
    ·subst z;exact q3 n a (by simp[List.lookup_cons])
    ·exact q2 y z hf
   ·cases hx:x==n with
    |true=>exact q3 x a (by rw[cS,hx])
    |false=>exact q3 x b (by rw[cS,hx];exact hb)
  ·have hb:(k==NameKind.free)=false:=by simpa using hk
   obtain⟨cl,e,q1,q2,q3⟩:=CI r acc (λy hy=>h1 y (by simp[hy])) h2;refine⟨cl,?_,q1,λy hy hf=>?_,q3⟩
   ·simp only[hb,Bool.false_eq_true,if_false];exact e
   ·rcases aH.mp hy with z|z
    ·subst z;exact absurd hf hk
    ·exact q2 y z hf
theorem Zm{P:Program}{w:World}:Passes (jJ P w) X (λ_ _ _=>False):=λ_ _ _ _ _ _ _ h=>by
 obtain⟨_,_,_,_,_,_,_,z⟩:=h;exact z.elim
theorem P4{env:Env}:∀{names:List (Str×NameKind)} {x:Str},names.lookup x=some .globalImplicit ->
  (names.map λ(n,k)=>if(k==NameKind.free&&env.scope.kind==.function&&env.kindOf n==some .cell) then(n,NameKind.cell) else(n,k)).lookup x=some .globalImplicit
 |[],_,h=>by simp at h
 |(n,k)::r,x,h=>by
  have ih:=@P4 env r x;show List.lookup x ((if(k==NameKind.free&&env.scope.kind==.function&&env.kindOf n==some .cell)=true then(n,NameKind.cell) else(n,k))::_)=_;cases hx:x==n with
  |true =>
   simp only[List.lookup_cons,hx] at h;cases h;simp[List.lookup_cons,hx]
  |false =>
   simp only[List.lookup_cons,hx] at h;by_cases hc:(k==NameKind.free&&env.scope.kind==.function&&env.kindOf n==some .cell)=true
   ·rw[aI hc];simp only[List.lookup_cons,hx];exact ih h
   ·rw[aC hc];simp only[List.lookup_cons,hx];exact ih h
theorem jg.comp(C:jg X c P Ξ){sc:Scope}(h:c.CQ sc=true):∃cl,dM X sc (frees sc++locals sc) (c.d6 sc) cl/\∀pins A s H fp,jg (f7 X pins sc (frees sc++locals sc) cl A s H fp) (c.inner sc) P (sV Ξ.1):=by
 unfold i7.CQ at h;simp only[Bool.and_eq_true,decide_eq_true_eq,List.all_eq_true] at h;obtain⟨⟨⟨⟨h1,h2⟩,h3⟩,h4⟩,h5⟩:=h;have nS:∀x,sc.names.lookup x=some .free->x∈frees sc:=λx hx=>by
  unfold frees;exact aP.mpr ⟨(x,.free),bN.mpr ⟨aR hx,by simp⟩,rfl⟩
 have fr:∀x∈frees sc,(∃i,c.idx x=some i)/\sc.names.lookup x=some .free/\(c.nm.lookup x=some .cell\/c.nm.lookup x=some .free):=λx hx=>by
  have:=h5 x hx;rw[ff,cZ] at this;simp only[decide_eq_true_eq] at this;exact⟨this.1.1,this.1.2,this.2⟩
 have sH:∀y∈sc.names,y.2=.free->∃a,X.env.cells.lookup y.1=some a:=λy hy hf=>by
  have hm:y.1∈frees sc:=aP.mpr ⟨y,bN.mpr ⟨hy,by simp[hf]⟩,rfl⟩;exact C.cells y.1 (fr y.1 hm).2.2
 obtain⟨cl,e,q1,q2,_⟩:=CI sc.names [] sH (λx a h=>by simp at h);have h2:∀y∈sc.names,y.2=.cell->sc.names.lookup y.1=some .cell:=λy hy hl=>by
  have:=h2 y hy;rw[cZ] at this;simp only[Bool.not_eq_true',decide_eq_false_iff_not,decide_eq_true_eq] at this;exact this.resolve_left λz=>z hl
 refine⟨cl,⟨h1,h2,λy hy hl=>?_,?_,q1,λx hx=>q2 (x,.free) (aR hx) rfl,h4,λi j iB=>?_,?_⟩,λpins A s H fp=>?_⟩
 ·have:=h3 y hy;rw[cZ] at this;simp only[Bool.not_eq_true',decide_eq_false_iff_not,decide_eq_true_eq] at this;exact this.resolve_left λz=>z hl
 ·simp only[closureFor];rw[e]
  rfl
 ·unfold i7.d6 at iB;rw[au] at iB;cases ex:(frees sc)[i]? with
  |none=>rw[ex] at iB;cases iB
  |some x =>
   rw[ex] at iB;have hx:x∈frees sc:=aL ex;obtain⟨⟨k,hk⟩,hl,hc⟩:=fr x hx;have hj:k=j:=by
    have:=aQ iB;dsimp only at this;rw[hk] at this;exact this
   subst hj;refine⟨x,?_,C.ug hk,hl,?_⟩
   ·rw[aM (aw.mp ex).1];exact ex
   ·rcases hc with z|z
    ·exact .inl (C.Co x z)
    ·exact C.Hj x z
 ·unfold i7.d6;rw[aj,bj];omega
 ·refine⟨rfl,h4,λx hx=>lookup_relabel_local hx,λx hx=>?_,λx hx=>E4 hx,λx hx=>P4 hx,λx hx=>?_,λx _=>?_,rfl,C.units,(λ_=>PassesOwn.never),C.mono,C.con,C.blt,C.fns,C.cls,C.rz,C.pb,C.Hk,Zm,(λz=>by cases z),(λz=>by cases z),C.exc,C.Pb,C.yq,(λz=>by cases z)⟩
  ·exact M5 hx
  ·rcases hx with hx|hx
   ·exact IW (.inl hx)
   ·exact IW (.inr (q2 (x,.free) (aR hx) rfl))
  ·exact az ‹_›
theorem K5(h:qw x=true):(x==("__debug__":Str))=false/\(x==("__classdict__":Str))=false/\x≠"__name__":=by
 unfold qw at h;simp only[Bool.and_eq_true,decide_eq_true_eq,beq_iff_eq] at h;exact⟨h.1.1,h.1.2,h.2⟩
theorem a09{t:String}(h:Eh.lookup x=some t):bootBuiltins x=some (.type t):=by
 have hm:=aR h;simp only[Eh,List.mem_cons,List.mem_nil_iff,or_false] at hm;rcases hm with z|z|z|z|z<;>(cases z;first|exact xt|exact PyProof.Rows.boot_bool|exact PyProof.Rows.boot_str|exact sZ|exact fB|decide +kernel|rfl)
theorem YE(hc:X.calm=true)(h:Ep.lookup x=some p):∃v,((∃id,v=.builtin id)\/∃T,v=.type T)/\bootBuiltins x=some v/\n6 X v (rN X.K p):=by
 have hm:=aR h;simp only[Ep,List.mem_cons,List.mem_nil_iff,or_false] at hm;rcases hm with z|z|z|z|z|z|z|z|z|z|z
 ·cases z;exact⟨.builtin "len",.inl ⟨_,rfl⟩,PySem.boot_len,QE⟩
 ·cases z;exact⟨.type "list",.inr ⟨_,rfl⟩,by first|exact fB|decide +kernel,Ti hc⟩
 ·cases z;exact⟨.type "tuple",.inr ⟨_,rfl⟩,by first|exact sZ|decide +kernel,a10⟩
 ·cases z;exact⟨.builtin "isinstance",.inl ⟨_,rfl⟩,by first|exact PyProof.Rows.boot_isinstance|decide +kernel,Te⟩
 ·cases z;exact⟨.builtin "all",.inl ⟨_,rfl⟩,by first|exact PyProof.Rows.boot_all|decide +kernel,Qi hc⟩
 ·cases z;exact⟨.builtin "max",.inl ⟨_,rfl⟩,by first|exact PyProof.Rows.boot_max|decide +kernel,QN hc⟩
 ·cases z;exact⟨.builtin "min",.inl ⟨_,rfl⟩,by first|exact PyProof.Rows.boot_min|decide +kernel,QO hc⟩
 ·cases z;exact⟨.type "int",.inr ⟨_,rfl⟩,by first|exact xt|decide +kernel,Qv⟩
 ·cases z;exact⟨.type "dict",.inr ⟨_,rfl⟩,by first|exact PyProof.Rows.boot_dict|decide +kernel,a75 hc⟩
 ·cases z;exact⟨.builtin "sorted",.inl ⟨_,rfl⟩,by first|exact iw|decide +kernel,a17 hc⟩
 ·cases z;exact⟨.builtin "sum",.inl ⟨_,rfl⟩,by first|exact PyProof.Rows.boot_sum|decide +kernel,Sl hc⟩
theorem aO2(h:zr.lookup x=some p):∃T id,PlainAttrs T/\Slot T x id/\typeOf (.builtin id)=pure (.type "method_descriptor")/\oj X id (rM X.K p) /\
  ∀{d:D} {v:V} {g:G} {ρ:List Addr} {H:Hp},Rl X.K ρ g H->f9 X.K ρ H d v->mY p d g->oq X.K T v H:=by
 cases h
theorem Ze(hu:X.A.units+100<cLine)(h:Ez.lookup x=some p):∃T id,PlainAttrs T/\Slot T x id/\typeOf (.builtin id)=pure (.type "method_descriptor")/\oj X id (rM X.K p) /\
  ∀{d:D} {v:V} {g:G} {ρ:List Addr} {H:Hp},Rl X.K ρ g H->f9 X.K ρ H d v->mY p d g->oq X.K T v H:=by
 have hm:=aR h;simp only[Ez,List.mem_cons,List.mem_nil_iff,or_false] at hm;rcases hm with z|z|z|z
 ·cases z;exact⟨_,_,sX,PySem.F.slot_list_append,PySem.F.type_list_append,a02,λR r h=>ty_list R r h⟩
 ·cases z;exact⟨_,_,sX,PySem.F.slot_list_pop,PySem.F.type_list_pop,a43,λR r h=>ty_list R r h⟩
 ·cases z;exact⟨_,_,PySem.F.plainAttrs_dict,jq,PySem.F.type_dict_get,Qs hu,λR r h=>ty_dict R r h⟩
 ·cases z;exact⟨_,_,PySem.F.plainAttrs_set,PySem.F.slot_set_add,PySem.F.type_set_add,Um,λR r h=>ty_set R r h⟩
theorem LC{pos:Pos}{env:Env}:∀{es:List Expr},(∀e∈es,gG e=true)->(backTo pos (starEach es env)).all (λx=>!x.1)=true
 |[],_=>rfl
 |e::es,h=>by
  rw[q8 (h e (by simp))];have ih:=LC (pos:=pos) (env:=env) (es:=es) λx hx=>h x (by simp[hx]);unfold backTo at ih ⊢;rw[bu,List.all_cons,ih]
  rfl
theorem Z5{pos:Pos}{env:Env}:∀{es:List Expr},(∀e∈es,gG e=true)->(backTo pos (starEach es env)).any (·.1)=false
 |[],_=>rfl
 |e::es,h=>by
  rw[q8 (h e (by simp))];have ih:=Z5 (pos:=pos) (env:=env) (es:=es) λx hx=>h x (by simp[hx]);unfold backTo at ih ⊢;rw[bu,fV,ih]
  rfl
theorem CW:∀{es:List Expr} {m:ME},I0 r c es=some m->∀e∈es,gG e=true:=by
 intro es
 induction es with
 |nil=>intro m _ e he;exact absurd he (by simp)
 |cons a es ih =>
  intro m h e he;unfold I0 at h;split at h
  ·obtain⟨m1,h1,h⟩:=ai.mp h;obtain⟨m2,h2,_⟩:=ae.mp h;rcases aH.mp he with z|z
   ·rw[z];assumption
   ·exact ih h2 e z
  ·cases h
theorem ZL(h:LV a=some x):∃j p,a=.Constant (.str x) j p:=by
 cases a with
 |Constant k j p=>cases k with
  |str y=>cases h;exact⟨_,_,rfl⟩
  |_=>cases h
 |_=>cases h
theorem a86(h:HJ a=some e):∃p,a=.FormattedValue e (-1) none p:=by
 cases a with
 |FormattedValue v k f p=>cases f with
  |none =>
   have h2:(if k=-1 then some v else none)=some e:=h;split at h2
   ·rename_i hk;cases h2;rw[hk];exact⟨_,rfl⟩
   ·cases h2
  |some _=>cases h
 |_=>cases h
structure qD(P:gh)(r:CF):Prop where
 e:∀X c Ξ,jg X c P Ξ->∀e m,r.e c e=some m->PE X e (LE X.K Ξ (bh P m))
 t:∀X c Ξ,jg X c P Ξ->∀e m,r.t c e=some m->PT X e (LT X.K Ξ (dC P m))
 s:∀X c Ξ,jg X c P Ξ->∀st m,r.s c st=some m->PS X st (LS X.K Ξ (wpS P m))
section
variable(S:qD P r)(C:jg X c P Ξ)
include S C
theorem Y9(h:c1 r c p a=some m):∃ma,PE X a (LE X.K Ξ (bh P ma))/\m=.prim p (.cons ma .nil):=by
 obtain⟨ma,ha,rfl⟩:=ae.mp h;exact⟨ma,S.e X c Ξ C _ _ ha,rfl⟩
theorem Y8(h:c2 r c p a b=some m):∃ma mb,PE X a (LE X.K Ξ (bh P ma))/\PE X b (LE X.K Ξ (bh P mb))/\m=.prim p (.cons ma (.cons mb .nil)):=by
 obtain⟨ma,ha,h⟩:=ai.mp h;obtain⟨mb,hb,rfl⟩:=ae.mp h;exact⟨ma,mb,S.e X c Ξ C _ _ ha,S.e X c Ξ C _ _ hb,rfl⟩
theorem tF:∀{es:List Expr} {m:ME},I0 r c es=some m->PA X es (LA X.K Ξ (gB P m)):=by
 intro es
 induction es with
 |nil=>intro m h;cases h;exact O4 C.mono
 |cons a es ih =>
  intro m h;unfold I0 at h;split at h
  ·rename_i cb;obtain⟨m1,h1,h⟩:=ai.mp h;obtain⟨m2,h2,rfl⟩:=ae.mp h;exact E3 C.mono (S.e X c Ξ C _ _ h1) (ih h2) (q8 cb)
  ·cases h
theorem M':∀{es:List Expr} {m:ME},uk r c es=some m->∃ts,ng X Ξ P es m ts:=by
 intro es
 induction es with
 |nil=>intro m h;cases h;exact⟨_,.nil⟩
 |cons a es ih =>
  intro m h;unfold uk at h;rcases orElse_some h with h1|h1
  ·obtain⟨x,hx,h2⟩:=ai.mp h1;obtain⟨j,p,rfl⟩:=ZL hx;split at h2
   ·obtain⟨m2,h3,rfl⟩:=ae.mp h2;obtain⟨ts,F⟩:=ih h3;exact⟨_,.lit (by assumption) F⟩
   ·cases h2
  ·obtain⟨x,hx,h2⟩:=ai.mp h1;obtain⟨m1,h3,h4⟩:=ai.mp h2;obtain⟨m2,h5,rfl⟩:=ae.mp h4;obtain⟨p,rfl⟩:=a86 hx;obtain⟨ts,F⟩:=ih h5;exact⟨_,.val (S.e X c Ξ C _ _ h3) F⟩
theorem Nb:∀{ks:List (Option Expr)} {vs:List Expr} {m:ME},wM r c ks vs=some m->∃iT,nh X Ξ P ks vs m iT:=by
 intro ks
 induction ks with
 |nil=>intro vs m h;cases vs<;>first|(cases h;exact⟨_,.nil⟩)|cases h
 |cons k ks ih =>
  intro vs m h;cases k<;>first|(cases h;done)|skip
  cases vs<;>first|(cases h;done)|skip
  unfold wM at h;obtain⟨m1,h1,h⟩:=ai.mp h;obtain⟨m2,h2,h⟩:=ai.mp h;obtain⟨m3,h3,rfl⟩:=ae.mp h;obtain⟨iT,D⟩:=ih h3;exact⟨_,.cons (S.e X c Ξ C _ _ h1) (S.e X c Ξ C _ _ h2) D⟩
theorem Nc{op:BoolOp}:∀{vs:List Expr} {m:ME},yF r c op vs=some m->PE X (.BoolOp op vs pos) (LE X.K Ξ (bh P m)):=by
 intro vs
 induction vs with
 |nil=>intro m h;cases h
 |cons a vs ih =>
  intro m h;cases vs with
  |nil=>exact Rp (S.e X c Ξ C _ _ h)
  |cons b vs =>
   unfold yF at h;obtain⟨m1,h1,h⟩:=ai.mp h;obtain⟨m2,h2,rfl⟩:=ae.mp h;cases op
   ·exact RL C.mono (S.e X c Ξ C _ _ h1) (ih h2)
   ·exact XJ C.mono (S.e X c Ξ C _ _ h1) (ih h2)
theorem MW{op:BoolOp}:∀{vs:List Expr} {m:ME},yG r c op vs=some m->PW X (.BoolOp op vs pos) (LT X.K Ξ (dC P m)):=by
 intro vs
 induction vs with
 |nil=>intro m h;cases h
 |cons a vs ih =>
  intro m h;cases vs with
  |nil =>
   cases op
   ·exact Uh (S.t X c Ξ C _ _ h)
   ·exact RE (S.t X c Ξ C _ _ h)
  |cons b vs =>
   unfold yG at h;obtain⟨m1,h1,h⟩:=ai.mp h;obtain⟨m2,h2,rfl⟩:=ae.mp h;cases op
   ·exact Sn C.mono (S.t X c Ξ C _ _ h1) (ih h2)
   ·exact XR C.mono (S.t X c Ξ C _ _ h1) (ih h2)
theorem VD(h:Ka r c es=some m):lZ X es (LT X.K Ξ (dC P m)):=by
 rcases es with _|⟨e,_|⟨_,_⟩⟩
 ·cases h;exact UH C.mono
 ·exact Ue (S.t X c Ξ C _ _ h)
 ·cases h
theorem zO:∀{Fz:List Stmt} {m:MS},B6 r c Fz=some m->kW X Fz (LS X.K Ξ (wpS P m)):=by
 intro es
 induction es with
 |nil=>intro m h;cases h;exact Se C.mono
 |cons a es ih =>
  intro m h;unfold B6 at h;obtain⟨m1,h1,h⟩:=ai.mp h;obtain⟨m2,h2,rfl⟩:=ae.mp h;exact UE C.mono (S.s X c Ξ C _ _ h1) (ih h2)
end
theorem JL{t:Expr}(h:A1 e=true):swapsWithSole [t] e n env=pure false:=by
 show swapsWith e (some t) n env=pure false;exact U2 h
theorem aM9{y:Str}{py pt pS:Pos}{kt k2:Nat}(hk:env.scope.kind=.function)(hx:env.kindOf x=some .local)(hy:env.kindOf y=some .local)(fy:x≠y)(hl:py.line=px.line)(ha:gG a=true)(hb:gG b=true)(h1:[a,b].all (foldedForSure 8)=false)(h2:[a,b].all (constantsAlone 8)=false):swappedStores [.Tuple [.Name x px,.Name y py] kt pt] (.Tuple [a,b] k2 pS) env=pure (some [x,y]):=by
 have Od:env.blockKind=.function:=by simp[Env.blockKind,hk,ScopeKind.isAnnotationScope]
 have hd:[x,y].eraseDups.length=2:=by
  have:(y==x)=false:=by simpa using cc fy
  simp[List.eraseDups_cons,this]
 have pW:(env.kindOf x==some NameKind.local&&px.line==px.line)=true:=by simp[hx]
 have AM:(env.kindOf y==some NameKind.local&&py.line==px.line)=true:=by simp[hy,hl]
 have hp:Expr.pos (.Name x px)=px:=rfl;unfold swappedStores;simp only[List.length_cons,List.length_nil,Od,List.head?_cons,Option.map_some,Option.getD_some,hp,List.filterMap_cons,List.filterMap_nil,pW,AM,if_true,hd,h1,h2];rw[aC (by decide),aC ?_]
 ·rfl
 ·simp only[List.any_cons,List.any_nil,Bool.or_false,Bool.or_eq_true,not_or];constructor
  ·cases a<;>first|(intro h;cases h;done)|cases ha
  ·cases b<;>first|(intro h;cases h;done)|cases hb
theorem Sq(hP:j9 P){j:Nat}{y:Str}{py pt pS:Pos}{kt k2:Nat}{iD:ME}(hc:X.calm=true)(hN:X.N.Nodup)(hi:X.N[i]?=some x)(hj:X.N[j]?=some y)(fy:x≠y)(hl:py.line=px.line)(hx:X.env.scope.names.lookup x=some .local)(hy:X.env.scope.names.lookup y=some .local)(oa:gG a=true)(ob:gG b=true)(h1:[a,b].all (foldedForSure 8)=false)(h2:[a,b].all (constantsAlone 8)=false)(ha:PA X [a,b] (LA X.K Ξ (gB P iD))):PS X (.Assign [.Tuple [.Name x px,.Name y py] kt pt] (.Tuple [a,b] k2 pS) pos) (LS X.K Ξ (wpS P (.mr (.many [i,j]) (.prim .tup iD)))):=by
 intro pins s cx H D I h;have iB:i≠j:=by
  rintro rfl;rw[hi] at hj;cases hj;exact fy rfl
 refine RA hc hN hi hj iB hx hy ha (aM9 I.ok.kind hx hy fy hl oa ob h1 h2) rfl pins s cx H D I ?_;obtain⟨σ,g,ρ,sr,R,h⟩:=h;refine kZ hP sr R (.refl _ _) (show gB P iD σ g (λxs g1=>da .tup xs g1 _) _ from h) λds g1 cu H1 vs e1 R1 r1 h=>?_;obtain⟨d',g',⟨_,rfl,rfl⟩,l,cI,ex,hs,h⟩:=h;cases ex;have hl:=Z9 hs;have e2:∃d1 d2,ds=[d1,d2]:=by
  rcases ds with _|⟨d1,_|⟨d2,_|⟨d3,r⟩⟩⟩<;>first|exact⟨_,_,rfl⟩|(simp at hl;done)|(simp at hl;omega)
 obtain⟨d1,d2,rfl⟩:=e2;obtain⟨v,w,rfl,q1,q2⟩:=r1.two;cases hs;exact⟨_,_,rfl,h cu H1 _ e1 R1 (((sr.ext e1).set i q1).set j q2)⟩
section
variable(S:qD P r)(C:jg X c P Ξ){d:Expr}
include C
theorem QQ(h:El c x=some m):PE X (.Name x pos) (LE X.K Ξ (bh P m)):=by
 unfold El at h;split at h
 ·rename_i iE;obtain⟨d1,d2,d3⟩:=K5 iE;split at h
  ·rename_i hv;obtain⟨i,hi,rfl⟩:=ae.mp h;exact RX (C.ug hi) (C.Qc hv) d1 d2
  ·split at h
   ·rename_i hg;rcases orElse_some h with h|h
    ·obtain⟨d,hd,rfl⟩:=ae.mp h;obtain⟨v,u,hm,r,rr⟩:=C.con x d hd;exact R6 (zv (C.A8 hg) hm r d1) rr
    ·split at h
     ·rename_i hb;obtain⟨t,ht,rfl⟩:=ae.mp h;exact R6 (v:=.ty t) (TL (C.A8 hg) (C.blt x hb) (a09 ht) rfl d3 d1) λ_ _=>.ty t
     ·cases h
   ·cases h
 ·cases h
omit C in
theorem MZ{k:Const}{j:Nat}{d:D}(h:DP k=some d):PE X (.Constant k j pos) (LE X.K Ξ (bh P (.lit d))):=by
 cases k<;>first|(cases h;done)|skip
 ·cases h;exact R6 Rn λ_ _=>.cj
 ·cases h;exact R6 Xs λ_ _=>.bl _
 ·cases h;exact R6 Rk λ_ _=>.int _
 ·cases h;exact R6 Kh λ_ _=>.str _
include S
theorem VE{op:UnaryOp}(h:Ad r c op a=some m):PE X (.UnaryOp op a pos) (LE X.K Ξ (bh P m)):=by
 unfold Ad at h;split at h
 ·rename_i ho;subst ho;obtain⟨ma,ha,rfl⟩:=ae.mp h;exact RU C.mono (S.e X c Ξ C _ _ ha)
 ·obtain⟨ma,ha,rfl⟩:=Y9 S C h;exact XM C.mono ha
theorem Iz{ops:List CmpOp}{bs:List Expr}(h:wG r c a ops bs=some m):PE X (.Compare a ops bs pos) (LE X.K Ξ (bh P m))/\PT X (.Compare a ops bs pos) (LT X.K Ξ (dC P (.gi m))):=by
 unfold wG at h;split at h
 ·rename_i op b;split at h
  ·cases h
  ·rename_i hm;have hm:behindInMarks op b=false:=by simpa using hm
   rcases orElse_some h with h|h
   ·obtain⟨neg,hn,h⟩:=ai.mp h;obtain⟨kvs,hk,h⟩:=ai.mp h;obtain⟨ma,ha,rfl⟩:=ae.mp h;obtain⟨x,p,rfl,hg,hd,hk⟩:=Lm hk;have ho:op=if neg then .NotIn else .In:=by cases op<;>cases hn<;>rfl
    subst ho;exact⟨RQ C.mono (C.A8 hg) (K5 hd).1 (C.yq x kvs hk) (S.e X c Ξ C _ _ ha) hm,Sg C.mono (C.A8 hg) (K5 hd).1 (C.yq x kvs hk) (S.e X c Ξ C _ _ ha) hm⟩
   ·obtain⟨ma,mb,ha,hb,rfl⟩:=Y8 S C h;exact⟨EB C.mono (KL (X9 C.units op) ha hb hm),Sj C.mono (KQ (X9 C.units op) ha hb hm)⟩
 ·split at h
  ·cases h
  ·rename_i hm;obtain⟨ma,ha,h⟩:=ai.mp h;obtain⟨mb,hb,h⟩:=ai.mp h;obtain⟨md,hd,rfl⟩:=ae.mp h;exact⟨a27 C.mono C.units (S.e X c Ξ C _ _ ha) (S.e X c Ξ C _ _ hb) (S.e X c Ξ C _ _ hd) (by simpa using hm),a16 C.mono C.units (S.e X c Ξ C _ _ ha) (S.e X c Ξ C _ _ hb) (S.e X c Ξ C _ _ hd) (by simpa using hm)⟩
 ·cases h
theorem VB{lo hi st:Option Expr}{p2:Pos}(h:Fs r c a lo hi st=some m):PE X (.Subscript a (.Slice lo hi st p2) pos) (LE X.K Ξ (bh P m)):=by
 cases lo<;>cases hi<;>cases st<;>first|(cases h;done)|skip
 ·obtain⟨ma,ha,rfl⟩:=Y9 S C h;exact a21 C.mono ha
 ·obtain⟨ma,mb,ha,hb,rfl⟩:=Y8 S C h;exact a20 C.mono ha hb
 ·obtain⟨ma,mb,ha,hb,rfl⟩:=Y8 S C h;exact a19 C.mono ha hb
theorem Xg(h:EV r c a b=some m):PE X (.Subscript a b pos) (LE X.K Ξ (bh P m)):=by
 unfold EV at h;rcases orElse_some h with h|h
 ·obtain⟨q,hq,h⟩:=ai.mp h;have eb:∃p,b=.Slice q.1 q.2.1 q.2.2 p:=by cases b<;>first|(cases hq;exact⟨_,rfl⟩)|cases hq
  obtain⟨p,rfl⟩:=eb;exact VB S C h
 ·split at h
  ·rename_i hb;rcases orElse_some h with h|h
   ·obtain⟨kvs,hk,h⟩:=ai.mp h;obtain⟨mb,lS,rfl⟩:=ae.mp h;obtain⟨x,p,rfl,hg,hd,hk⟩:=Lm hk;exact Ur C.mono (C.A8 hg) (K5 hd).1 (C.yq x kvs hk) (S.e X c Ξ C _ _ lS) (Kd hb)
   ·obtain⟨ma,mb,ha,lS,rfl⟩:=Y8 S C h;exact EB C.mono (IC (WW C.units) ha lS (Kd hb))
  ·cases h
theorem VC(hg:c.gl x=true)(h:Ae r c x e=some m):PE X (.Call (.Name x px) [e] [] pos) (LE X.K Ξ (bh P m)):=by
 unfold Ae at h;obtain⟨q,hq,h'⟩:=ai.mp h;clear h;have h:=h';clear h';obtain⟨p,pos',rfl⟩:=X0 hq;obtain⟨y,as⟩:=q;dsimp only at h ⊢;split at h
 ·rename_i hc;simp only[Bool.and_eq_true,decide_eq_true_eq] at hc;obtain⟨⟨⟨⟨rfl,rfl⟩,hl⟩,hr⟩,tM⟩:=hc;rcases as with _|⟨a,_|⟨b,_|⟨_,_⟩⟩⟩
  ·cases h
  ·dsimp only at h;split at h
   ·rename_i ho;obtain⟨ma,ha,rfl⟩:=Y9 S C h;exact a26 C.mono C.calm ha (C.A8 hg) (C.blt _ hl) (C.A8 tM) (C.blt _ hr) (q8 ho)
   ·cases h
  ·dsimp only at h;split at h
   ·rename_i ho;rw[aW] at ho;obtain⟨ma,mb,ha,hb,rfl⟩:=Y8 S C h;exact a25 C.mono C.calm ha hb (C.A8 hg) (C.blt _ hl) (C.A8 tM) (C.blt _ hr) (by rw[q8 ho.1,q8 ho.2];rfl) (q8 ho.2)
   ·cases h
  ·cases h
 ·split at h
  ·rename_i hc;simp only[Bool.and_eq_true,decide_eq_true_eq] at hc;obtain⟨⟨⟨⟨rfl,rfl⟩,hl⟩,hr⟩,tM⟩:=hc;rcases as with _|⟨a,_|⟨_,_⟩⟩
   ·cases h
   ·dsimp only at h;split at h
    ·rename_i ho;obtain⟨ma,ha,rfl⟩:=Y9 S C h;exact Uw C.mono C.calm ha (C.A8 hg) (C.blt _ hl) (C.A8 tM) (C.blt _ hr) (q8 ho)
    ·cases h
   ·cases h
  ·split at h
   ·rename_i hc;simp only[Bool.and_eq_true,decide_eq_true_eq] at hc;obtain⟨⟨⟨⟨rfl,rfl⟩,hl⟩,hr⟩,tM⟩:=hc;rcases as with _|⟨a,_|⟨_,_⟩⟩
    ·cases h
    ·dsimp only at h;split at h
     ·rename_i ho;obtain⟨ma,ha,rfl⟩:=Y9 S C h;exact Us C.mono C.calm ha (C.A8 hg) (C.blt _ hl) (C.A8 tM) (C.blt _ hr) (q8 ho)
     ·cases h
    ·cases h
   ·cases h
theorem Tq(h:Kt r c x args=some m):PE X (.Call (.Name x px) args [] pos) (LE X.K Ξ (bh P m)):=by
 cases args with
 |nil =>
  have h2:Cv c x=some m:=h;unfold Cv at h2;split at h2
  ·rename_i iE;rw[aW] at iE;rcases orElse_some h2 with h2|h2
   ·obtain⟨f,hf,rfl⟩:=ae.mp h2;obtain⟨k,fa,fd,ps,F,hr,hm,hk⟩:=C.fns x f hf;exact a28 C.mono C.pass F hr (C.A8 iE.2) hm hk (K5 iE.1).1
   obtain⟨f,hf,rfl⟩:=ae.mp h2;obtain⟨k,C',fa,fd,ps,F,hr,hm,hC,jX,M⟩:=C.cls x f hf;exact a24 C.mono C.pass F M hC jX hr (C.A8 iE.2) hm (K5 iE.1).1
  ·cases h2
 |cons e es =>
  have h0:Cw r c x e es=some m:=h;clear h;have h:=h0;clear h0;unfold Cw at h;split at h
  ·rename_i iE;rw[aW] at iE;obtain⟨d1,d2,d3⟩:=K5 iE.1;rcases orElse_some h with h|h
   ·cases es with
    |nil=>exact VC S C iE.2 h
    |cons _ _=>cases h
   ·obtain⟨ms,qa,h⟩:=ai.mp h;have ok:=CW qa;have pa:=tF S C qa;have fx:=q8 (env:=X.env) (es:=es) (ok e (by simp));have iP:=Z5 (pos:=pos) (env:=X.env) (es:=es) λz hz=>ok z (by simp[hz]);rcases orElse_some h with h|h
    ·obtain⟨f,hf,rfl⟩:=ae.mp h;obtain⟨k,fa,fd,ps,F,hr,hm,hk⟩:=C.fns x f hf;exact Uo C.mono C.pass F hr (C.A8 iE.2) hm hk pa d1 fx iP
    ·rcases orElse_some h with h|h
     ·obtain⟨f,hf,rfl⟩:=ae.mp h;obtain⟨k,C',fa,fd,ps,F,hr,hm,hC,jX,M⟩:=C.cls x f hf;exact Ut C.mono C.pass F M hC jX hr (C.A8 iE.2) hm pa d1 fx iP
     ·split at h
      ·rename_i hb;obtain⟨p,hp,rfl⟩:=ae.mp h;obtain⟨v,hv,Bp,hc⟩:=YE (X:=X) C.calm hp;exact RN C.mono hv hc (C.A8 iE.2) (C.blt x hb) Bp pa d3 d1 fx iP
      ·cases h
  ·cases h
theorem Tp{mt:Str}{apos:Pos}(h:Cy r c o mt apos pos args=some m):PE X (.Call (.Attribute o mt apos) args [] pos) (LE X.K Ξ (bh P m)):=by
 unfold Cy at h;split at h
 ·rename_i hc;simp only[Bool.and_eq_true,decide_eq_true_eq] at hc;obtain⟨⟨hb,hl⟩,hn⟩:=hc;obtain⟨mo,ho,h⟩:=ai.mp h;obtain⟨ms,qa,h⟩:=ai.mp h;have ok:=CW qa;have pa:=tF S C qa;have po:=S.e X c Ξ C _ _ ho;have hf:methodCallForm args.length (backTo pos (starEach args X.env)) (backToKw pos (keywordEach [] X.env))=true:=by
   unfold methodCallForm;rw[LC ok];have:args.length+0<30:=by omega
   show(true&&true&&decide (args.length+0<30))=true;rw[az this]
   rfl
  by_cases vL:mt="index"
  ·subst vL;rw[aI rfl] at h;cases h
  rw[aC vL] at h;cases args with
  |nil =>
   cases qa;by_cases h0:(zr.lookup mt).isSome=true
   ·rw[aI (by rw[h0];rfl)] at h;obtain⟨p,hp,rfl⟩:=ae.mp h;obtain⟨T,id,Av,sl,ty,AA,hk⟩:=aO2 (X:=X) hp;exact a23 C.mono Av sl ty AA hk po (Q7 hb) hl
   rw[aC (by rw[aW];exact λz=>h0 z.2)] at h;split at h
   ·cases h
   ·cases h
  |cons e es =>
   have fx:=q8 (env:=X.env) (es:=es) (ok e (by simp));have iP:=Z5 (pos:=pos) (env:=X.env) (es:=es) λz hz=>ok z (by simp[hz]);rw[aC (by simp)] at h;split at h
   ·rename_i p hp;cases h;obtain⟨T,id,Av,sl,ty,AA,hk⟩:=Ze (X:=X) C.units hp;exact Uu C.mono Av sl ty AA hk po pa (Q7 hb) hf hl fx iP
   ·cases h
 ·cases h
theorem FY{tg:Expr}(h:wN r c tg e=some m):PI X tg e (LI X.K Ξ (iJ P m)):=by
 unfold wN at h;rcases orElse_some h with h|h
 ·obtain⟨q,hq,h'⟩:=ai.mp h;rename_i h0;clear h h0;have h:=h';clear h';obtain⟨p,pos',rfl⟩:=X0 hq;obtain⟨y,as⟩:=q;dsimp only at h ⊢;split at h
  ·rename_i hy;subst hy;rcases as with _|⟨a,_|⟨_,_⟩⟩
   ·cases h
   ·dsimp only at h;split at h
    ·rename_i hc;simp only[Bool.and_eq_true] at hc;obtain⟨⟨⟨hg,hb⟩,ho⟩,ht⟩:=hc;obtain⟨ma,ha,rfl⟩:=ae.mp h;obtain⟨es,k,tp,rfl⟩:=a00 ht;exact Uz C.mono (S.e X c Ξ C _ _ ha) (C.A8 hg) (C.blt _ hb) (q8 ho)
    ·cases h
   ·cases h
  ·split at h
   ·rename_i hy;subst hy;rcases as with _|⟨a,_|⟨b,_|⟨_,_⟩⟩⟩
    ·cases h
    ·dsimp only at h;split at h
     ·rename_i hc;simp only[Bool.and_eq_true] at hc;obtain⟨⟨hg,hb⟩,ho⟩:=hc;obtain⟨ma,ha,rfl⟩:=ae.mp h;exact UA C.mono (S.e X c Ξ C _ _ ha) (C.A8 hg) (C.blt _ hb) (q8 ho)
     ·cases h
    ·dsimp only at h;split at h
     ·rename_i hc;simp only[Bool.and_eq_true] at hc;obtain⟨⟨⟨hg,hb⟩,ho⟩,mE⟩:=hc;obtain⟨ma,ha,h⟩:=ai.mp h;obtain⟨mb,lS,rfl⟩:=ae.mp h;exact UB C.mono (S.e X c Ξ C _ _ ha) (S.e X c Ξ C _ _ lS) (C.A8 hg) (C.blt _ hb) (by rw[q8 ho,q8 mE];rfl) (q8 mE)
     ·cases h
    ·cases h
   ·cases h
 ·split at h
  ·obtain⟨ma,ha,rfl⟩:=ae.mp h;exact Sa C.mono (S.e X c Ξ C _ _ ha)
  ·cases h
theorem CP{elt:Expr}{gens:List Comprehension}{sc:Scope}(h:Z0 r c elt gens sc=some m):∃tg it ifs t mi mc me cl,gens=[⟨tg,it,ifs,0⟩]/\m=.comp (c.d6 sc) (frees sc++locals sc).length t mi mc me/\gG it=true /\
  dM X sc (frees sc++locals sc) (c.d6 sc) cl/\PI X tg it (LI X.K Ξ (iJ P mi))/\(∀pins A s H fp,PG (f7 X pins sc (frees sc++locals sc) cl A s H fp) tg (LG X.K t)) /\
   (∀pins A s H fp,lZ (f7 X pins sc (frees sc++locals sc) cl A s H fp) ifs (LT X.K (sV Ξ.1) (dC P mc)))/\(∀pins A s H fp,PE (f7 X pins sc (frees sc++locals sc) cl A s H fp) elt (LE X.K (sV Ξ.1) (bh P me))):=by
 unfold Z0 at h;rcases gens with _|⟨⟨tg,it,ifs,Gk⟩,_|⟨_,_⟩⟩
 ·cases h
 ·dsimp only at h;split at h
  ·rename_i hs;simp only[Bool.and_eq_true,decide_eq_true_eq] at hs;obtain⟨⟨hs,rfl⟩,hit⟩:=hs;obtain⟨t,h1,h⟩:=ai.mp h;obtain⟨mi,h2,h⟩:=ai.mp h;obtain⟨mc,h3,h⟩:=ai.mp h;obtain⟨me,h4,rfl⟩:=ae.mp h;obtain⟨cl,Sc,I⟩:=C.comp hs;exact⟨tg,it,ifs,t,mi,mc,me,cl,rfl,rfl,hit,Sc,FY S C h2,λpins A s H fp=>(I pins A s H fp).Ib h1,λpins A s H fp=>VD S (I pins A s H fp) h3,λpins A s H fp=>S.e _ _ _ (I pins A s H fp) elt me h4⟩
  ·cases h
 ·cases h
omit S in
theorem VA{f:Expr}{jL:List Keyword}(h:xy c f args jL=some m):PE X (.Call f args jL pos) (LE X.K Ξ (bh P m)):=by
 unfold xy at h;cases h
theorem Na:∀e m,IG r c e=some m->PE X e (LE X.K Ξ (bh P m)):=by
 intro e m h;cases e with
 |Name x p=>exact QQ C h
 |Constant k j p =>
  obtain⟨d,hd,rfl⟩:=ae.mp (show(DP k).map ME.lit=some m from h);exact MZ hd
 |BinOp a op b p =>
  obtain⟨ma,mb,ha,hb,rfl⟩:=Y8 S C h;exact EB C.mono (Xv (QU op) ha hb)
 |UnaryOp op a p=>exact VE S C h
 |Compare a ops bs p=>exact(Iz S C h).1
 |BoolOp op vs p=>exact Nc S C h
 |IfExp t a b p =>
  obtain⟨mt,ht,h⟩:=ai.mp h;obtain⟨ma,ha,h⟩:=ai.mp h;obtain⟨mb,hb,rfl⟩:=ae.mp h;exact RS C.mono (S.t X c Ξ C _ _ ht) (S.e X c Ξ C _ _ ha) (S.e X c Ξ C _ _ hb)
 |Tuple es k p =>
  obtain⟨ma,ha,rfl⟩:=ae.mp h;exact RV C.mono (tF S C ha)
 |List es p =>
  obtain⟨ma,ha,rfl⟩:=ae.mp h;exact RT C.mono (tF S C ha)
 |Subscript a b p=>exact Xg S C h
 |Dict ks vs p =>
  have h2:(if ks.isEmpty&&vs.isEmpty then some (ME.prim .W6 .nil) else if decide (ks.length<=15) then(wM r c ks vs).map .qp else none)=some m:=h;split at h2
  ·rename_i hc;cases ks<;>cases vs<;>first|(cases hc;done)|skip
   cases h2;exact Up
  ·rename_i hc;split at h2
   ·rename_i hl;obtain⟨ms,hm,rfl⟩:=ae.mp h2;obtain⟨iT,D⟩:=Nb S C hm;refine RO C.mono D (λz=>hc ?_) (bg hl);have:=D.len.2;subst z;cases vs<;>first|rfl|cases this
   ·cases h2
 |JoinedStr vs p =>
  have h2:(if decide (2<=vs.length)&&decide (vs.length<=40) then(uk r c vs).map (ME.prim .mK) else none)=some m:=h;split at h2
  ·rename_i hc;simp only[Bool.and_eq_true,decide_eq_true_eq] at hc;obtain⟨ms,hm,rfl⟩:=ae.mp h2;obtain⟨ts,F⟩:=M' S C hm;rcases vs with _|⟨v1,_|⟨v2,vs⟩⟩
   ·simp at hc
   ·simp at hc
   ·exact Uq C.mono F hc.2
  ·cases h2
 |Attribute o f p =>
  have h2:(if zd o then c1 r c (.fld f) o else none)=some m:=h;split at h2
  ·rename_i hb;obtain⟨ma,ha,rfl⟩:=Y9 S C h2;exact RP C.mono ha (Q7 hb)
  ·cases h2
 |Call f args jL pos =>
  have h1:((Af r c f args jL).orElse λ_=>(xy c f args jL).orElse λ_=>Ek r c f args jL pos)=some m:=h;rcases orElse_some h1 with h2|h2
  ·unfold Af at h2;rcases args with _|⟨a,_|⟨_,_⟩⟩
   ·cases h2
   ·dsimp only at h2;split at h2
    ·rename_i hk;simp only[Bool.and_eq_true,decide_eq_true_eq] at hk;obtain⟨⟨⟨hk,hf⟩,nR⟩,hb⟩:=hk;cases jL<;>first|(cases hk;done)|skip
     obtain⟨q,hq,h3⟩:=ai.mp h2;obtain⟨m1,h4,h5⟩:=ai.mp h3;cases f<;>first|(cases hf;done)|skip
     cases a<;>first|(cases hq;done)|skip
     cases hf;cases hq;obtain⟨tg,it,ifs,t,mi,mc,me,cl,eg,rfl,hit,Sc,q1,q2,q3,q4⟩:=CP S C h4;dsimp only at eg;subst eg;cases h5;exact a22 C.mono Sc C.calm q1 q2 q3 q4 (zD hit) (C.A8 nR) (C.blt _ hb)
    ·cases h2
   ·cases h2
  clear h h1;rcases orElse_some h2 with h3|h3
  ·exact VA C h3
  clear h2;unfold Ek at h3;split at h3
  ·rename_i hk;cases jL<;>first|(cases hk;done)|skip
   cases f with
   |Name x p=>exact Tq S C h3
   |Attribute o a p=>exact Tp S C h3
   |_=>cases h3
  ·cases h3
 |Set es k p =>
  have h2:EU c es k=some m:=h;unfold EU at h2;split at h2
  ·rename_i hc;rw[aW] at hc;obtain rfl:=bg hc.2;split at h2
   ·cases h2;exact Uv C.mono (C.code hc.1)
   ·cases h2
  ·cases h2
 |ListComp elt gens sc p =>
  obtain⟨tg,it,ifs,t,mi,mc,me,cl,rfl,rfl,hit,Sc,q1,q2,q3,q4⟩:=CP S C h;exact(KN Sc C.calm q1 q2 q3 q4 (zD hit)).imp λσ H Q h=>Lj C.mono σ H Q h
 |_=>cases h
theorem MX:∀e m,stepT r c e=some m->PT X e (LT X.K Ξ (dC P m)):=by
 intro e m h;have plain:∀{e:Expr} {m:ME},(if Dw e then(r.e c e).map ME.gi else none)=some m->PT X e (LT X.K Ξ (dC P m)):=λ{e m} h=>by
  split at h
  ·rename_i hp;obtain⟨ma,ha,rfl⟩:=ae.mp h;exact Sk C.mono (S.e X c Ξ C _ _ ha) (Zt hp)
  ·cases h
 cases e with
 |UnaryOp op a p =>
  have h2:(if op=.Not then(r.t c a).map ME.eU else none)=some m:=h;split at h2
  ·rename_i ho;subst ho;obtain⟨ma,ha,rfl⟩:=ae.mp h2;exact Si C.mono (S.t X c Ξ C _ _ ha)
  ·cases h2
 |BoolOp op vs p=>exact(MW S C h).pt
 |Compare a ops bs p =>
  obtain⟨ma,ha,rfl⟩:=ae.mp (show(wG r c a ops bs).map ME.gi=some m from h);exact(Iz S C ha).2
 |_=>exact plain h
end
section
theorem aH4{e f:Option Expr}{q:Str×Expr×List Expr}(h:CC e f=some q):f=none/\∃p p',e=some (.Call (.Name q.1 p) (q.2.1::q.2.2) [] p'):=by
 unfold CC at h;cases f with
 |some _=>cases h
 |none =>
  obtain⟨t,rfl,h⟩:=ai.mp (show e.bind _=some q from h);obtain⟨z,hz,h⟩:=ai.mp h;obtain⟨p,p',rfl⟩:=X0 hz;obtain⟨x,as⟩:=z;cases as with
  |nil=>cases h
  |cons a as=>cases h;exact⟨rfl,_,_,rfl⟩
theorem Zl(h:c.yN es e=true):∃x px y py a b k p,es=[.Name x px,.Name y py]/\e=.Tuple [a,b] k p/\c.EO x px y py a b=true:=by
 rcases es with _|⟨s,_|⟨t,_|⟨_,_⟩⟩⟩
 ·cases h
 ·cases h
 ·cases s<;>first|(cases h;done)|skip
  cases t<;>first|(cases h;done)|skip
  cases e<;>first|(cases h;done)|skip
  rename_i l _ _;rcases l with _|⟨a,_|⟨b,_|⟨_,_⟩⟩⟩
  ·cases h
  ·cases h
  ·exact⟨_,_,_,_,_,_,_,_,rfl,rfl,h⟩
  ·cases h
 ·cases h
theorem Tb(C:jg X c P Ξ):Em X.K f (c.zK f):=λy C' h hC=>by
 unfold i7.zK at h;obtain⟨⟨f',y'⟩,h1,h2⟩:=aP.mp h;obtain⟨h3,h4⟩:=bN.mp h1;cases h2;have:f'=f:=by simpa using h4
 subst this;exact C.pb f' y' C' h3 hC
variable(S:qD P r)(C:jg X c P Ξ)
include S C
theorem Xf{tg:Expr}{m:MS}(hS:∀e m,r.e c e=some m->A1 e=false->∃elt gens sc p,e=.ListComp elt gens sc p/\∃r',qD P r'/\Z0 r' c elt gens sc=some m)(hT:∀a b k p m,r.e c (.Tuple [a,b] k p)=some m->∃r' ms,qD P r'/\I0 r' c [a,b]=some ms/\m=.prim .tup ms)(h:HW r c tg e=some m):PS X (.Assign [tg] e pos) (LS X.K Ξ (wpS P m)):=by
 cases tg with
 |Name x px =>
  have h2:(if c.C7 x then(c.idx x).bind λi=>(r.e c e).map λm=>MS.set i m else none)=some m:=h;split at h2
  ·rename_i hl;obtain⟨i,hi,h2⟩:=ai.mp h2;obtain⟨me,he,rfl⟩:=ae.mp h2;cases hn:A1 e with
   |true=>exact Kq C.mono (Kk C.tE (C.ug hi) (C.C7 hl).1 (S.e X c Ξ C _ _ he) (U2 hn) (C.C7 hl).2)
   |false =>
    obtain⟨elt,gens,sc,p,rfl,r',S',hx⟩:=hS e me he hn;obtain⟨tg,it,ifs,t,mi,mc,me,cl,rfl,rfl,hit,Sc,q1,q2,q3,q4⟩:=CP S' C hx;refine Kq C.mono ?_;exact(aG4 Sc C.calm q1 q2 q3 q4 (zD hit) C.tE (C.ug hi) (C.C7 hl).1 (C.C7 hl).2).imp λN σ H h=>Lj C.mono σ H _ h
  ·cases h2
 |Tuple es k pt =>
  have h0:((Eo es).elim (if(uv e&&A1 e)||c.yN es e then(c.slots es).bind λis=>(r.e c e).map λm=>MS.mr (.many is) m else none) λq=>if A1 e&&gG q.2.1&&gG q.2.2.2 then(r.e c q.1).bind λm1=>(r.e c q.2.1).bind λn1=>(r.e c q.2.2.1).bind λm2=>(r.e c q.2.2.2).bind λn2=>(r.e c e).map λm=>MS.xD m1 n1 m2 n2 m else none)=some m:=h;cases hq:Eo es with
  |some q =>
   rw[hq] at h0;dsimp only[Option.elim] at h0;split at h0
   ·cases hq
   ·cases h0
  |none =>
  rw[hq] at h0;have h2:(if(uv e&&A1 e)||c.yN es e then(c.slots es).bind λis=>(r.e c e).map λm=>MS.mr (.many is) m else none)=some m:=h0;split at h2
  ·rename_i hn;rw[cZ,aW] at hn;obtain⟨is,hs,h2⟩:=ai.mp h2;obtain⟨me,he,rfl⟩:=ae.mp h2;rcases hn with hn|hn
   ·exact Ss C.mono (Kj (S.e X c Ξ C _ _ he) (KZ C.calm C.tE (C.slots hs)) (JL hn.2) (a57 hn.1))
   ·obtain⟨x,px,y,py,a,b,k2,pS,rfl,rfl,hk⟩:=Zl hn
    ·unfold i7.EO at hk;simp only[Bool.and_eq_true,decide_eq_true_eq,Bool.not_eq_true'] at hk;obtain⟨⟨⟨⟨⟨⟨⟨l1,l2⟩,fy⟩,hl⟩,oa⟩,ob⟩,f1⟩,f2⟩:=hk;obtain⟨r',ms,S',qa,rfl⟩:=hT _ _ _ _ _ he;have so:=C.slots hs;cases so with
     |cons hi _ _ so =>
     cases so with
     |cons hj _ _ so =>
     cases so;exact Sq C.mono C.calm C.tE hi hj fy hl (C.loc x l1) (C.loc y l2) oa ob f1 f2 (tF S' C qa)
  ·cases h2
 |Subscript o i pt =>
  have h2:(if gG i&&A1 e then(r.e c o).bind λmo=>(r.e c i).bind λmi=>(r.e c e).map λm=>MS.fc mo mi m else none)=some m:=h;split at h2
  ·rename_i hn;rw[aW] at hn;obtain⟨mo,ho,h2⟩:=ai.mp h2;obtain⟨mi,hi,h2⟩:=ai.mp h2;obtain⟨me,he,rfl⟩:=ae.mp h2;exact a14 C.mono C.units (S.e X c Ξ C _ _ he) (S.e X c Ξ C _ _ ho) (S.e X c Ξ C _ _ hi) (JL hn.2) (Tt hn.1)
  ·cases h2
 |Attribute o f pt =>
  have h2:(if A1 e then(r.e c o).bind λmo=>(r.e c e).map λm=>MS.iK f (c.zK f) mo m else none)=some m:=h;split at h2
  ·rename_i hn;obtain⟨mo,ho,h2⟩:=ai.mp h2;obtain⟨me,he,rfl⟩:=ae.mp h2;exact UJ C.mono (Tb C) (S.e X c Ξ C _ _ ho) (S.e X c Ξ C _ _ he) (U2 hn)
  ·cases h2
 |_=>cases h
theorem MY(hS:∀e m,r.e c e=some m->A1 e=false->∃elt gens sc p,e=.ListComp elt gens sc p/\∃r',qD P r'/\Z0 r' c elt gens sc=some m)(hT:∀a b k p m,r.e c (.Tuple [a,b] k p)=some m->∃r' ms,qD P r'/\I0 r' c [a,b]=some ms/\m=.prim .tup ms) :
  ∀st m,IH r c st=some m->PS X st (LS X.K Ξ (wpS P m)):=by
 intro st m h;have hP:=C.mono;cases st with
 |Expr e p =>
  have h2:(if A1 e then(r.e c e).map MS.expr else none)=some m:=h;split at h2
  ·rename_i hn;obtain⟨me,he,rfl⟩:=ae.mp h2;exact UI hP (S.e X c Ξ C _ _ he) (U2 hn)
  ·cases h2
 |Assign An e p =>
  rcases An with _|⟨tg,_|⟨_,_⟩⟩
  ·cases h
  ·exact Xf S C hS hT h
  ·cases h
 |If t a b p =>
  obtain⟨mt,ht,h⟩:=ai.mp h;obtain⟨ma,ha,h⟩:=ai.mp h;obtain⟨mb,hb,rfl⟩:=ae.mp h;exact XS hP (S.t X c Ξ C _ _ ht) (zO S C ha) (zO S C hb)
 |For tg it body yw p =>
  have h2:(if c.oZ&&(yw.isEmpty&&gG it) then(c.tg tg).bind λt=>(wN r c tg it).bind λmi=>(B6 r c body).map λmb=>MS.dP t mi mb else none)=some m:=h;split at h2
  ·rename_i hc;rw[aW,aW] at hc;cases yw<;>first|(cases hc.2.1;done)|skip
   obtain⟨t,h1,h2⟩:=ai.mp h2;obtain⟨mi,h3,h2⟩:=ai.mp h2;obtain⟨mb,h4,rfl⟩:=ae.mp h2;exact So hP (C.own hc.1) C.calm (FY S C h3) (C.Ib h1) (zO S C h4) (zD hc.2.2)
  ·cases h2
 |Return e p =>
  cases e with
  |none=>cases h;exact(Ub (X:=X)).imp λN cx H ⟨σ,g,ρ,s,R,h⟩=>LQ.now h R .cj
  |some e =>
   obtain⟨me,he,rfl⟩:=ae.mp (show(r.e c e).map (λm=>MS.ret (toR c e m))=some m from h);refine Sr hP ?_;exact S.e X c Ξ C _ _ he
 |Raise e f p =>
  obtain⟨q,hq,h2⟩:=ai.mp h;clear h;obtain⟨rfl,px,p2,rfl⟩:=aH4 hq;obtain⟨x,e,es⟩:=q;dsimp only at h2 ⊢;split at h2
  ·rename_i hc;simp only[Bool.and_eq_true] at hc;obtain⟨ma,ha,rfl⟩:=ae.mp h2;have ok:=CW ha;obtain⟨C',hm,hi,B,nI,iI,bm,O,FB⟩:=C.exc x hc.1.1.2;exact a15 hP C.calm O FB (C.A8 hc.1.2) (tF S C ha) (C.mB hc.1.1.1) (by rw[C.Hk];simpa using hc.1.1.2) hi (q8 (ok e (by simp))) (Z5 λz hz=>ok z (by simp[hz])) (K5 hc.2).1
  ·cases h2
 |Pass p=>cases h;exact(Ua (X:=X)).imp λN cx H ⟨σ,g,ρ,s,R,h⟩=>h ρ H cx (.refl _ _) R s
 |_=>cases h
end
theorem aH0(h:(comp (n+1)).e c e=some m)(hn:A1 e=false):∃elt gens sc p,e=.ListComp elt gens sc p/\Z0 (comp n) c elt gens sc=some m:=by
 cases e<;>first|(cases hn;done)|(cases h;done)|exact⟨_,_,_,_,rfl,h⟩
theorem snd:∀n,(∀k,k<=n->qD P (comp k)):=by
 intro n
 induction n with
 |zero =>
  intro k hk;obtain rfl:=Nat.le_zero.mp hk;exact⟨λ_ _ _ _ _ _ h=>(by cases h),λ_ _ _ _ _ _ h=>(by cases h),λ_ _ _ _ _ _ h=>(by cases h)⟩
 |succ n ih =>
  intro k hk;rcases gE k (n+1) with dO|jN
  ·exact ih k (by omega)
  obtain rfl:k=n+1:=by omega
  have I:=ih n (av n);refine⟨λX c Ξ C e m h=>Na I C e m h,λX c Ξ C e m h=>MX I C e m h,λX c Ξ C st m h=>?_⟩;rcases orElse_some h with h|h
  rotate_left
  ·cases h;exact λpins s σ H D I q=>by obtain⟨_,_,_,_,_,z⟩:=q;exact(show False from z).elim
  refine MY I C (λe m he hn=>?_) (λa b k p m he=>?_) st m h
  ·cases n with
   |zero=>cases he
   |succ n =>
    obtain⟨elt,gens,sc,p,rfl,hx⟩:=aH0 he hn;exact⟨_,_,_,_,rfl,comp n,ih n (by omega),hx⟩
  ·cases n with
   |zero=>cases he
   |succ n =>
    obtain⟨ms,hm,rfl⟩:=ae.mp (show(I0 (comp n) c [a,b]).map (ME.prim .tup)=some m from he);exact⟨comp n,ms,ih n (by omega),hm,rfl⟩
structure pL where
 nm:Str
 qn:Str
 N:List Str
 ps:List Str
 st:Stmt
def i7.at(c:i7)(d:pL):i7:={ c with N:=d.N,nm:=(s9 d.st).names,oZ:=true,mB:=true,oK:=true }
structure kc(K:PySem.W.Frag)(c:i7)(d:pL)(m:bo)(f:Addr)(fd:FuncData):Prop where
 fn:qE K d.nm d.qn d.st f fd
 bi:Binds K fd d.ps []
 sc:jn d.N d.ps (s9 d.st)
 co:B6 (comp 60) (c.at d) (t8 d.st)=some m.body
 ar:m.ar=d.ps.length
 nn:m.n=d.N.length
structure oh(w:World)(K:PySem.W.Frag)(mg:Str->Option Value)(c:i7)(T:Nat->Option bo):Prop where
 fns:∀x i,c.fns.lookup x=some i->∃d m f fd,T i=some m/\kc K c d m f fd/\mg x=some (.ref f)
 cls:∀x i,c.cls.lookup x=some i->∃C d m f fd,T i=some m/\kc K c d m f fd/\mg x=some (.ref C)/\x4 K x C/\kE K C/\Mk K C f
 rz:∀x y i C,(x,y,i)∈c.rz->x4 K y C->∃d m f fd,T i=some m/\kc K c d m f fd/\Meth K C x f
 pb:∀f y C,(f,y)∈c.pb->x4 K y C->B7 K C f
 con:∀x d,c.con.lookup x=some d->∃v u,mg x=some u/\RelV v u/\∀ρ H,f9 K ρ H d v
 blt:∀x,c.blt.contains x=true->mg x=none
 BX:∀x,c.exc.contains x=true->∃C,mg x=some (.ref C)/\x4 K x C/\∀base:Heap,K.In base->base.Ns mainGlobals mg->∃B newId hJ bm,OwnCls x C bm newId mg base/\ExcBaseFacts B newId hJ bm
 BW:∀x y C C',c.exc.contains x=true->c.exc.contains y=true->x4 K x C->x4 K y C'->PySem.W.exmOne K (.ref C) (.ref C')=some (decide (x=y\/y="MintError"))
 sj:∀x kvs,c.gd.lookup x=some kvs->∃A vs,mg x=some (.ref A)/\wK K w.params A vs/\qr K kvs vs
section
variable{Pg:Program}{w:World}{K:PySem.W.Frag}{mg:Str->Option Value}{base:Heap}{T:Nat->Option bo}
theorem Qy{q:Str}(h:PySem.W.codeIn K cd q=true):PySem.W.kdsCode K cd=true:=by
 unfold PySem.W.codeIn at h;unfold PySem.W.kdsCode;split at h
 ·dsimp only;split at h
  ·rename_i e;rw[e]
  ·cases h
 ·cases h
theorem TK{f:Addr}:Passes (jJ Pg w) (pF (jJ Pg w) Pg w K mg base N qual scope f cd A outer s H E) E:=λpins σ H1 s1 e s' I h=>by
 obtain⟨C,H',J,fl,hE⟩:=I.flew h;exact aC8 J fl (λb o q=>I.base.there b o q (by intro z;cases z)) rfl rfl rfl hE
theorem a33{f:Addr}:zg (pF (jJ Pg w) Pg w K mg base N qual scope f cd A outer s H E) E:=λpins σ H1 s1 h' ea C vs I hm hE =>
 ZX I hm rfl rfl rfl hE
theorem Tc{f:Addr}:LP (pF (jJ Pg w) Pg w K mg base N qual scope f cd A outer s H E) E:=λpins σ H1 H2 s1 s2 B ea C a0 I l hh hE =>
 leave_held I l hh rfl rfl rfl hE
theorem CH{m:bo}(hT:T i=some m){ds:List D}{g:G}{Q:KD}{E:KX}(h:d0 T k i ds g Q E):ds.length=m.ar:=by
 cases k with
 |zero=>exact h.elim
 |succ k =>
  obtain⟨m',e,h,_⟩:=h;rw[hT] at e;cases e;exact h
theorem Qh(ow:K.In base)(wg:base.Ns mainGlobals mg)(A:oh w K mg c T):∀(k i:Nat) d m f fd,T i=some m->kc K c d m f fd->iQ Pg w K mg base (jJ Pg w) (2*k) f fd d.ps (pR c.exc K d.ps.length (d0 T k i)):=by
 intro k
 induction k with
 |zero =>
  intro i d m f fd hm O;refine⟨λvs H Q E h=>h.1,λA outer s H args us vs Q E _ _ _ _ h=>?_⟩;obtain⟨_,_,_,_,_,_,q⟩:=h;exact q.elim
 |succ k ih =>
  intro i d m f fd hm O;obtain⟨oc,od,kV,doc,pm,an,gf,ct,mX,rfl,lk,mG⟩:=O.fn.ex;refine WL (k:=2*k+1) lk mG O.sc (λvs H Q E h=>h.1) (λA0 outer s H vs Q E hr h=>?_);obtain⟨hl,xs,g,ρ,rs,R,q⟩:=h;have C:jg (pF (jJ Pg w) Pg w K mg base d.N d.qn (s9 d.st) f gf A0 outer s H E) (c.at d) (d0 T k) (c.exc,E):=by
   refine⟨rfl,O.sc.nd,λx h=>h,λx h=>h,λx h=>.inr h,λx h=>h,λx h=>?_,λ_ _=>rfl,rfl,?_,(λ_=>PassesOwn.leaving),b0 T k,A.con,A.blt,λx j hj=>?_,λx j hj=>?_,λx y j C' hj hC=>?_,A.pb,rfl,TK,λ_=>a33,λ_=>⟨rfl,rfl,Tc⟩,λx hx=>?_,A.BW,A.sj,λ_=>Qy mG⟩
   ·rcases h with h|h
    ·exact CV h
    ·exact absurd rfl (O.sc.nD _ (aR h))
   ·have:=hr.un;show(A0.deeper _).units+100<cLine;omega
   ·obtain⟨d',m',f',qo,hT,O',hmg⟩:=A.fns x j hj;exact⟨2*k,f',qo,d'.ps,⟨ih j d' m' f' qo hT O',O'.bi,λHy g' Q' E' h'=>(CH hT h').trans O'.ar⟩,hr.mono (by omega),hmg,O'.fn.kp⟩
   ·obtain⟨C',d',m',f',qo,hT,O',hmg,hC,jX,M⟩:=A.cls x j hj;exact⟨2*k,C',f',qo,d'.ps,⟨ih j d' m' f' qo hT O',O'.bi,λHy g' Q' E' h'=>(CH hT h').trans O'.ar⟩,hr,hmg,hC,jX,M⟩
   ·obtain⟨d',m',f',qo,hT,O',M⟩:=A.rz x y j C' hj hC;exact⟨2*k,f',qo,d'.ps,M,⟨ih j d' m' f' qo hT O',O'.bi,λHy g' Q' E' h'=>(CH hT h').trans O'.ar⟩,hr.mono (by omega)⟩
   ·obtain⟨C,h1,h2,h3⟩:=A.BX x hx;exact⟨C,h1,h2,h3 base ow wg⟩
  refine⟨_,zO (snd (P:=d0 T k) 60 60 (av _)) C O.co,?_⟩;obtain⟨m',e,q1,q⟩:=q;rw[hm] at e;cases e;refine⟨d8 m xs,g,ρ,?_,R,wpS_mono (b0 T k) m.body ⟨λ_ g'=>LQ K ρ H Q .cj g',LQ K ρ H Q,λ_ _=>False,λ_ _=>False⟩ _ _ _ _ _ ⟨λσ g' h bW H' dN e R' s'=>h bW H' _ e R' .cj,λd g' h=>h,λ_ _ h=>h.elim,λ_ _ h=>h.elim⟩ (λ_ _ z=>z) q⟩;have:=u3.start (n:=d.N.length) rs;unfold d8 L2.start;rw[O.nn];exact this
theorem QD{L k0:Nat}{a:Addr}{ns:List Int}(hO:zH H)(hS:gA K H a (ns.map V.int))(h:d0 T k0 L [.ref 0] [.oY (ns.map .int)] (λd _=>d=.bl true) jZ) :
  pR exc K 1 (d0 T k0 L) [.ref a] H (λv _=>v=.bl true) λ_ _ _=>False:=by
 refine⟨rfl,[.ref 0],[.oY (ns.map .int)],[a],.cons (.ref rfl) .nil,⟨rfl,λi o b h1 h2=>?_,λi j l m b h1 h2 m1=>?_⟩,b0 T k0 _ _ _ _ _ _ _ (λd g' e bW H' v _ _ r=>?_) (λ_ _ z=>z.elim) h⟩
 ·cases i with
  |zero =>
   cases h1;cases h2;refine⟨_,?_,c5.ofInts ns⟩;rcases hS with(z|⟨o,z⟩)|z
   ·rcases hO a with q|⟨o,xs,q⟩
    ·rw[z] at q;cases q
    ·rw[z] at q;cases q
   ·exact .inl ⟨o,z⟩
   ·exact .inr z
  |succ i=>simp at h1
 ·cases i with
  |zero=>cases h1;cases m1
  |succ i=>simp at h1
 ·subst e;cases r
  rfl
end
end M
namespace M
open PySem L2
variable{g:G}{Q:Bool->G->Prop}{E:KX}{a i n:Nat}{b:Bool}{c f:Str}{o cond elt:ME}{x y d v:D}{j:Int}{l:List D}{A B:Prop}{kvs:List (Key×D)}{k:Key}{kg:G->Prop}{ns:List Int}{d6:List Nat}{R:IK->G->Prop}
section
variable{P:gh}{σ:S}{Q:KD}{N:Ends}{a b c:ME}{x y:MS}{p:Pr}
theorem K9(h:N.nx σ g):wpS P .pass N σ g E:=h
theorem yQ(h:wpS P x ⟨λki g1=>wpS P y N ki g1 E,N.rt,N.bk,N.ct⟩ σ g E):wpS P (.seq x y) N σ g E:=h
theorem R0(h:wpS P x N σ g E):wpS P (.seq x .pass) N σ g E:=h
theorem SH(h:bh P a σ g (λ_ g1=>N.nx σ g1) E):wpS P (.expr a) N σ g E:=h
theorem yR(h:bh P a σ g (λx g1=>N.nx (σ.set i (some x)) g1) E):wpS P (.set i a) N σ g E:=h
theorem Qf{t:MT}(h:bh P a σ g (λx g1=>kj t x σ λki=>N.nx ki g1) E):wpS P (.mr t a) N σ g E:=h
theorem Lc{i:ME}(h:bh P a σ g (λx g1=>bh P o σ g1 (λy g2=>bh P i σ g2 (λz g3=>Z8 y z x g3 λg4=>N.nx σ g4) E) E) E):wpS P (.fc o i a) N σ g E:=h
theorem SM{cs:List Str}(h:bh P a σ g (λx g1=>bh P o σ g1 (λy g2=>wQ f cs y x g2 λg3=>N.nx σ g3) E) E):wpS P (.iK f cs o a) N σ g E:=h
theorem LL(h:dC P c σ g (λt g1=>if t=true then wpS P x N σ g1 E else wpS P y N σ g1 E) E):wpS P (.ifs c x y) N σ g E:=h
theorem Ej(h:bh P a σ g N.rt E):wpS P (.ret a) N σ g E:=h
theorem UM{x:Str}(h:gB P a σ g (λvs g1=>vs.length<=1000/\E ⟨x⟩ g1) E):wpS P (.raise x a) N σ g E:=h
theorem w_var(e:σ[i]?=some (some d))(h:Q d g):bh P (.var i) σ g Q E:=by exact⟨d,e,h⟩
theorem w_lit(h:Q d g):bh P (.lit d) σ g Q E:=h
theorem SK(h:gB P a σ g (λxs g1=>da p xs g1 Q) E):bh P (.prim p a) σ g Q E:=h
theorem Ws(h:da p [] g Q):bh P (.prim p .nil) σ g Q E:=by exact h
theorem Ie(h:bh P a σ g (λx g1=>da p [x] g1 Q) E):bh P (.prim p (.cons a .nil)) σ g Q E:=by exact h
theorem Ig(h:bh P a σ g (λx g1=>bh P b σ g1 (λy g2=>da p [x,y] g2 Q) E) E):bh P (.prim p (.cons a (.cons b .nil))) σ g Q E:=by exact h
theorem UL{o1 o2:CmpOp}(h:bh P a σ g (λx g1=>bh P b σ g1 (λy g2=>da (.cmp o1) [x,y] g2 λz g3=>∃t,z=.bl t/\if t=true then bh P c σ g3 (λw g4=>da (.cmp o2) [y,w] g4 Q) E else Q (.bl false) g3) E) E):bh P (.chain o1 o2 a b c) σ g Q E:=h
theorem w_and(h:bh P a σ g (λx g1=>∃t,x=.bl t/\if t=true then bh P b σ g1 Q E else Q (.bl false) g1) E):bh P (.eI a b) σ g Q E:=h
theorem w_or(h:bh P a σ g (λx g1=>∃t,x=.bl t/\if t=true then Q (.bl true) g1 else bh P b σ g1 Q E) E):bh P (.jT a b) σ g Q E:=h
theorem w_not(h:bh P a σ g (λx g1=>∃t,x=.bl t/\Q (.bl (!t)) g1) E):bh P (.eU a) σ g Q E:=h
theorem w_ite(h:dC P c σ g (λt g1=>if t=true then bh P a σ g1 Q E else bh P b σ g1 Q E) E):bh P (.ite c a b) σ g Q E:=h
theorem Cu{f:Nat}(h:gB P a σ g (λxs g1=>P f xs g1 Q E) E):bh P (.call f a) σ g Q E:=h
theorem SI{f:Nat}{c:Str}(h:gB P a σ g (λxs g1=>P f (.ref g1.length::xs) (g1++[.ins c []]) (λd g2=>d=.cj/\Q (.ref g1.length) g2) E) E):bh P (.make c f a) σ g Q E:=h
theorem SJ(h:bh P o σ g (λx g1=>mY p x g1/\gB P a σ g1 (λxs g2=>da p (x::xs) g2 Q) E) E):bh P (.fg p o a) σ g Q E:=h
theorem Ei{Q:List D->G->Prop}(h:Q [] g):gB P .nil σ g Q E:=h
theorem wY{Q:List D->G->Prop}(h:bh P a σ g (λx g1=>gB P b σ g1 (λxs g2=>Q (x::xs) g2) E) E):gB P (.cons a b) σ g Q E:=h
theorem SN{Q:Bool->G->Prop}(h:dC P a σ g (λt g1=>if t=true then dC P b σ g1 Q E else Q false g1) E):dC P (.eI a b) σ g Q E:=h
theorem Qe{Q:Bool->G->Prop}(h:dC P a σ g (λt g1=>if t=true then Q true g1 else dC P b σ g1 Q E) E):dC P (.jT a b) σ g Q E:=h
theorem SO{Q:Bool->G->Prop}(h:dC P a σ g (λt g1=>Q (!t) g1) E):dC P (.eU a) σ g Q E:=h
theorem LM{Q:Bool->G->Prop}(h:Q true g):dC P .no σ g Q E:=h
theorem LO{Q:Bool->G->Prop}(h:bh P a σ g (λx g1=>qx g1 x λb=>Q b g1) E):dC P (.gi a) σ g Q E:=h
end
section
variable{Q:KD}{i:Int}{kb:Bool->Prop}{t s:Bool}{m:List D}
theorem Wu(h:Q (.int (i+j)) g):da (.bin .Add) [.int i,.int j] g Q:=⟨_,_,.inl ⟨i,j,_,rfl,rfl,rfl,rfl⟩,h⟩
theorem Wv(h:Q (.int (i-j)) g):da (.bin .Sub) [.int i,.int j] g Q:=⟨_,_,.inl ⟨i,j,_,rfl,rfl,rfl,rfl⟩,h⟩
theorem Q2(c:sI i j)(h:Q (.int (i*j)) g):da (.bin .Mult) [.int i,.int j] g Q:=⟨_,_,.inl ⟨i,j,_,rfl,⟨c,rfl⟩,rfl,rfl⟩,h⟩
theorem Q3(c:0<j)(h:Q (.int (i % j)) g):da (.bin .Mod) [.int i,.int j] g Q:=⟨_,_,.inl ⟨i,j,_,rfl,⟨c,rfl⟩,rfl,rfl⟩,h⟩
theorem yC(c:EC i j)(h:Q (.int (i / j)) g):da (.bin .FloorDiv) [.int i,.int j] g Q:=⟨_,_,.inl ⟨i,j,_,rfl,⟨c,rfl⟩,rfl,rfl⟩,h⟩
theorem LU(h1:0<j)(h2:j<1073741824)(h:Q (.int (i / j)) g):da (.bin .FloorDiv) [.int i,.int j] g Q:=yC ⟨h1,h2⟩ h
theorem DI(c:pC i j)(h:Q (.int (i ^ j.toNat)) g):da (.bin .Pow) [.int i,.int j] g Q:=⟨_,_,.inl ⟨i,j,_,rfl,⟨c,rfl⟩,rfl,rfl⟩,h⟩
theorem DL{i j:Nat}(hi:g[i]?=some (.lst l))(hj:g[j]?=some (.lst m))(hl:l.length+m.length<=100000)(h:Q (.ref g.length) (g++[.lst (l++m)])):da (.bin .Add) [.ref i,.ref j] g Q:=⟨_,_,.inr (.inl ⟨rfl,.inr (.inl ⟨i,j,l,m,rfl,hi,hj,hl,rfl,rfl⟩)⟩),h⟩
theorem Qb(h:Q (.int (-i)) g):da (.un .USub) [.int i] g Q:=⟨_,_,⟨rfl,i,rfl,rfl,rfl⟩,h⟩
theorem T1{op:CmpOp}(hb:HL g x y b op)(h:Q (.bl b) g):da (.cmp op) [x,y] g Q:=⟨_,_,⟨x,y,b,rfl,hb,rfl,rfl⟩,h⟩
theorem Vg(h:Q (.bl (decide (i<j))) g):da (.cmp .Lt) [.int i,.int j] g Q:=T1 ⟨i,j,rfl,rfl,rfl⟩ h
theorem Vf(h:Q (.bl (decide (i<=j))) g):da (.cmp .LtE) [.int i,.int j] g Q:=T1 ⟨i,j,rfl,rfl,rfl⟩ h
theorem Ve(h:Q (.bl (decide (j<i))) g):da (.cmp .Gt) [.int i,.int j] g Q:=T1 ⟨i,j,rfl,rfl,rfl⟩ h
theorem Vd(h:Q (.bl (decide (j<=i))) g):da (.cmp .GtE) [.int i,.int j] g Q:=T1 ⟨i,j,rfl,rfl,rfl⟩ h
theorem HK(h:sC g x y λb=>Q (.bl b) g):da (.cmp .Eq) [x,y] g Q:=let ⟨_,hb,h⟩:=h;T1 hb h
theorem zJ(h:sC g x y λb=>Q (.bl (!b)) g):da (.cmp .NotEq) [x,y] g Q:=let ⟨b,hb,h⟩:=h;T1 (b:=!b) (show wq g x y (!(!b)) from by rw[uF];exact hb) h
theorem ue(h:rC g x y λb=>Q (.bl b) g):da (.cmp .In) [x,y] g Q:=let ⟨_,hb,h⟩:=h;T1 (.inl hb) h
theorem WC{S:Int->Bool}(hg:g[a]?=some (.set S n))(h:Q (.bl (S i)) g):da (.cmp .In) [.int i,.ref a] g Q:=T1 (.inr ⟨a,S,n,i,rfl,hg,rfl,rfl⟩) h
theorem U9(h:rC g x y λb=>Q (.bl (!b)) g):da (.cmp .NotIn) [x,y] g Q:=let ⟨b,hb,h⟩:=h;T1 (b:=!b) (.inl (show inR g x y (!(!b)) from by rw[uF];exact hb)) h
theorem ID(h:kb (decide (i=j))):sC g (.int i) (.int j) kb:=⟨_,.inl ⟨i,j,rfl,rfl,rfl⟩,h⟩
theorem VH(h:kb (t==s)):sC g (.bl t) (.bl s) kb:=⟨_,.inr (.inl ⟨t,s,rfl,rfl,rfl⟩),h⟩
theorem XB{x y:Str}(h:kb (decide (x=y))):sC g (.str x) (.str y) kb:=⟨_,.inr (.inr (.inl ⟨x,y,rfl,rfl,rfl⟩)),h⟩
theorem Wy(h:Q (.bl (decide (i=j))) g):da (.cmp .Eq) [.int i,.int j] g Q:=HK (ID h)
theorem WH(h:Q (.bl (!decide (i=j))) g):da (.cmp .NotEq) [.int i,.int j] g Q:=zJ (ID h)
theorem WG(h:Q (.bl (!(t==s))) g):da (.cmp .NotEq) [.bl t,.bl s] g Q:=zJ (VH h)
theorem Wz{p q:Str}(h:Q (.bl (decide (p=q))) g):da (.cmp .Eq) [.str p,.str q] g Q:=HK (XB h)
theorem EJ(h:Q (.bl (O2 d)) g):da (.cmp .Is) [d,.cj] g Q:=T1 ⟨rfl,rfl⟩ h
theorem DN(h:Q (.bl (!O2 d)) g):da (.cmp .IsNot) [d,.cj] g Q:=T1 ⟨rfl,rfl⟩ h
theorem WD(h:Q (.bl true) g):da (.cmp .Is) [.cj,.cj] g Q:=EJ h
theorem WE(h:Q (.bl false) g):da (.cmp .Is) [.ref n,.cj] g Q:=EJ h
theorem WA(h:Q (.bl false) g):da (.cmp .IsNot) [.cj,.cj] g Q:=DN h
theorem WB(h:Q (.bl true) g):da (.cmp .IsNot) [.ref n,.cj] g Q:=DN h
theorem Wo(h:kb t):qx g (.bl t) kb:=⟨t,.inr (.inl rfl),h⟩
theorem PU(h:kb (i != 0)):qx g (.int i) kb:=⟨_,.inr (.inr (.inl ⟨i,rfl,rfl⟩)),h⟩
theorem CG{p:Bool->Prop}(h:p t):∃s,D.bl t=D.bl s/\p s:=⟨t,rfl,h⟩
theorem Qu{p:Int->Prop}(h:p i):∃s,D.int i=D.int s/\p s:=⟨i,rfl,h⟩
theorem if2{c:Prop}[Decidable c](h1:c->A)(h2:¬c->B):if decide c=true then A else B:=by
 by_cases h:c
 ·rw[aI (az h)];exact h1 h
 ·rw[aC (by rw[aK h];decide)];exact h2 h
theorem nJ(h:A):if true=true then A else B:=by rw[aI rfl];exact h
theorem qu(h:B):if false=true then A else B:=by rw[aC (by decide)];exact h
theorem HP(h:A):if(!false)=true then A else B:=by rw[aI (show(!false)=true from rfl)];exact h
theorem Vq(h:B):if(!true)=true then A else B:=by rw[aC (by decide)];exact h
theorem hU(hb:b=false)(h:B):if b=true then A else B:=by rw[hb];exact qu h
theorem jl(hb:b=true)(h:A):if b=true then A else B:=by rw[hb];exact nJ h
theorem q9(hl:d5 g a=some l)(h2:gI l i=some d)(h:Q d g):da .ix [.ref a,.int i] g Q:=⟨_,_,⟨rfl,.inl ⟨_,l,i,rfl,hl,h2⟩⟩,h⟩
theorem w6(h2:gI l i=some d)(h:Q d g):da .ix [.tup l,.int i] g Q:=⟨_,_,⟨rfl,.inl ⟨_,l,i,rfl,rfl,h2⟩⟩,h⟩
theorem Vt{i:Nat}(hg:g[i]?=some (.dg kvs))(hk:W0 y=some k)(hv:u4 kvs k=some v)(h:Q v g):da .ix [.ref i,y] g Q:=⟨_,_,⟨rfl,.inr (.inl ⟨i,kvs,y,k,rfl,hg,hk,hv⟩)⟩,h⟩
theorem T9(hl:g[a]?=some (.lst l))(hn:lD l.length i=some n)(h:kg (g.set a (.lst (l.set n v)))):Z8 (.ref a) (.int i) v g kg:=⟨_,.inl ⟨a,i,l,n,rfl,rfl,hl,hn,rfl⟩,h⟩
theorem Ec{i:Nat}(hg:g[i]?=some (.dg kvs))(hk:W0 y=some k)(hl:kvs.length<100000)(h:kg (g.set i (.dg (putD kvs k v)))):Z8 (.ref i) y v g kg:=⟨_,.inr ⟨i,kvs,k,rfl,hg,hk,hl,rfl⟩,h⟩
theorem Z7{cs:List Str}{fs:List (Str×D)}(hg:g[a]?=some (.ins c fs))(hc:c∈cs)(hl:fs.length<100)(h:kg (g.set a (.ins c (n8 f v fs)))):wQ f cs (.ref a) v g kg:=⟨_,⟨a,c,fs,rfl,hg,hc,hl,rfl⟩,h⟩
theorem pG{fs:List (Str×D)}(hg:g[a]?=some (.ins c fs))(hf:fs.lookup f=some d)(h:Q d g):da (.fld f) [.ref a] g Q:=⟨_,_,⟨a,c,fs,rfl,hg,hf,rfl⟩,h⟩
theorem a9(h:g[a]?=some (.lst l)):d5 g a=some l:=by simp only[d5,h,Et]
theorem YZ(h:g[a]?=some (.oY l)):d5 g a=some l:=by simp only[d5,h,Et]
theorem J8(hl:d5 g a=some l)(h:Q (.int l.length) g):da .len [.ref a] g Q:=⟨_,_,⟨rfl,.inl ⟨_,l,rfl,hl,rfl⟩⟩,h⟩
theorem Ko(hl:d5 g a=some l)(h:Q (.ref g.length) (g++[.lst (cut l none (some i))])):da (.ot false true) [.ref a,.int i] g Q:=⟨_,_,⟨_,i,rfl,.inr ⟨a,l,rfl,hl,rfl,rfl⟩⟩,h⟩
theorem DZ(hl:l.length<=1000)(h:Q (.tup l) g):da .tup l g Q:=⟨_,_,⟨hl,rfl,rfl⟩,h⟩
theorem DY(hl:l.length<=1000)(h:Q (.ref g.length) (g++[.lst l])):da .lst l g Q:=⟨_,_,⟨hl,rfl,rfl⟩,h⟩
theorem yK(hl:d5 g a=some l)(h:Q (.ref g.length) (g++[.lst l])):da .list [.ref a] g Q:=⟨_,_,.inl ⟨_,l,rfl,hl,rfl,rfl⟩,h⟩
theorem Xc(hg:g[a]?=some (.dg kvs))(hz:kvs.length<=10000)(h:Q (.ref g.length) (g++[.lst ((kvs.map (·.1)).map kD)])):da .list [.ref a] g Q:=⟨_,_,.inr ⟨a,kvs,rfl,hg,hz,rfl,rfl⟩,h⟩
theorem PZ(hl:d5 g a=some l)(h:Q (.tup l) g):da .tuple [.ref a] g Q:=⟨_,_,⟨_,l,rfl,hl,rfl,rfl⟩,h⟩
theorem vy{c:String}(hc:c∈["int","bool","str","tuple","list"])(hb:EL g d c=some b)(h:Q (.bl b) g):da .isin [d,.ty c] g Q:=⟨_,_,⟨d,c,b,rfl,hc,hb,rfl,rfl⟩,h⟩
theorem P7{i:Nat}(hg:g[i]?=some (.lst l))(hl:l.length<100000)(h:Q .cj (g.set i (.lst (l++[y])))):da .append [.ref i,y] g Q:=⟨_,_,⟨i,y,l,rfl,hg,hl,rfl,rfl⟩,h⟩
theorem Xd{i j:Nat}{n:Int}(hg:g[i]?=some (.lst l))(hn:n=j)(hj:l[j]?=some y)(hl:l.length<100000)(h:Q y (g.set i (.lst (l.eraseIdx j)))):da .pop [.ref i,.int n] g Q:=by
 have dO:=(aw.mp hj).1;refine⟨_,_,⟨i,n,l,j,rfl,hg,by omega,by omega,?_,hj,rfl⟩,h⟩;rw[hn];exact PySem.StrLaws.seqIndex_nonneg (by omega) (by omega) |>.trans (by simp)
theorem DV{i:Nat}{z:D}(hg:g[i]?=some (.dg kvs))(hk:W0 y=some k)(h:Q ((u4 kvs k).getD z) g):da .get [.ref i,y,z] g Q:=⟨_,_,⟨i,y,z,kvs,k,rfl,hg,hk,rfl,rfl⟩,h⟩
theorem TJ{i:Nat}(hl:d5 g i=some (ns.map .int))(hz:ns.length<=10000)(h:Q (.ref g.length) (g++[.lst ((J7 ns).map .int)])):da .kJ [.ref i] g Q:=⟨_,_,.inr ⟨_,ns,rfl,hl,hz,rfl,rfl⟩,h⟩
theorem Y0{i:Nat}(hg:g[i]?=some (.lst l)):mY .append (.ref i) g:=⟨i,l,rfl,a9 hg⟩
theorem QP{i:Nat}(hg:g[i]?=some (.lst l)):mY .pop (.ref i) g:=⟨i,l,rfl,a9 hg⟩
theorem Vz{i:Nat}{l:List (Key×D)}(hg:g[i]?=some (.dg l)):mY .get (.ref i) g:=⟨i,l,rfl,hg⟩
theorem Gf(h1:-(2 ^ 62)<=j)(h2:j<=100000)(h:Q (.ref g.length) (g++[.lst (l9 0 j.toNat)])):da .jU [.int j] g Q:=⟨_,_,⟨j,rfl,h1,h2,rfl,rfl⟩,h⟩
theorem Nh(h1:-(2 ^ 62)<=i/\i<2 ^ 62/\-(2 ^ 62)<=j/\j<2 ^ 62/\j-i<=100000)(h:Q (.ref g.length) (g++[.lst (l9 i (j-i).toNat)])):da .kR [.int i,.int j] g Q:=⟨_,_,⟨i,j,rfl,h1,rfl,rfl⟩,h⟩
theorem TC{i:Nat}{ks:List Int}(hl:d5 g i=some (ks.map λk=>.tup [.int k,.bl true]))(hz:ks.length<=1000)(nd:ks.Nodup)(h:Q (.ref g.length) (g++[.dg (ks.map λk=>(.inl k,.bl true))])):da .kU [.ref i] g Q:=⟨_,_,.inr ⟨i,ks,rfl,hl,hz,nd,rfl,rfl⟩,h⟩
theorem Kg(hl:d5 g a=some (ns.map .int))(hz:ns.length<600)(h:Q (.ref g.length) (g++[.lst ((p8 ns).map .int)])):da .sset [.ref a] g Q:=⟨_,_,⟨a,ns,rfl,hl,hz,rfl,rfl⟩,h⟩
theorem W6(h:Q (.ref g.length) (g++[.dg []])):da .W6 [] g Q:=⟨_,_,⟨rfl,rfl,rfl⟩,h⟩
theorem max2(h:Q (.int (if j>i then j else i)) g):da .max [.int i,.int j] g Q:=⟨_,_,⟨rfl,.inl ⟨i,j,rfl,rfl⟩⟩,h⟩
theorem Xe{M:Int}(hl:d5 g a=some (ns.map .int))(h1:M∈ns)(h2:∀x∈ns,x<=M)(h:Q (.int M) g):da .max [.ref a] g Q:=⟨_,_,⟨rfl,.inr ⟨a,ns,M,rfl,hl,h1,h2,rfl⟩⟩,h⟩
theorem QM{S:Int->Bool}(hg:g[a]?=some (.set S n))(hn:n+1<4096)(h:Q .cj (g.set a (.set (λk=>S k||decide (k=i)) (if S i then n else n+1)))):da .kL [.ref a,.int i] g Q:=⟨_,_,⟨a,i,S,n,rfl,hg,hn,rfl,rfl⟩,h⟩
theorem To{S:Int->Bool}(hg:g[a]?=some (.set S n)):mY .kL (.ref a) g:=⟨a,S,n,rfl,hg⟩
theorem TH(h:Q (.ref g.length) (g++[.set (λk=>decide (k=i)) 1])):da (.kK i) [] g Q:=⟨_,_,⟨rfl,rfl,rfl⟩,h⟩
theorem XQ(hl:d5 g a=some (ns.map .int))(h:Q (.int ns.sum) g):da .sum [.ref a] g Q:=⟨_,_,⟨a,ns,rfl,hl,rfl,rfl⟩,h⟩
theorem QH(hl:d5 g a=some (ns.map .int))(hz:ns.length<60)(h:Q (.int (ST.j5 [] ns).length) g):da .qv [.ref a] g Q:=⟨_,_,⟨a,ns,rfl,hl,hz,rfl,rfl⟩,h⟩
theorem Ww(hl:d5 g a=some (ns.map .int))(h:Q (.bl (ns.all λn=>n != 0)) g):da .all [.ref a] g Q:=⟨_,_,⟨a,_,_,rfl,hl,.inr ⟨ns,rfl,rfl⟩,rfl,rfl⟩,h⟩
theorem DJ(c:pC i j)(h:Q (.int (i*2 ^ j.toNat)) g):da (.bin .LShift) [.int i,.int j] g Q:=⟨_,_,.inl ⟨i,j,_,rfl,⟨c,rfl⟩,rfl,rfl⟩,h⟩
theorem wL(h:Q (.int (Builtin.bitAnd i j)) g):da (.bin .BitAnd) [.int i,.int j] g Q:=⟨_,_,.inl ⟨i,j,_,rfl,rfl,rfl,rfl⟩,h⟩
theorem UY(h:Q (.int (Builtin.bitOr i j)) g):da (.bin .BitOr) [.int i,.int j] g Q:=⟨_,_,.inl ⟨i,j,_,rfl,rfl,rfl,rfl⟩,h⟩
theorem min2(h:Q (.int (if j<i then j else i)) g):da .min [.int i,.int j] g Q:=⟨_,_,⟨rfl,.inl ⟨i,j,rfl,rfl⟩⟩,h⟩
theorem WS{v:Bool}(h:Q (.int (if v then 1 else 0)) g):da .int [.bl v] g Q:=⟨_,_,⟨rfl,.inr ⟨v,rfl,rfl⟩⟩,h⟩
theorem Ir{kvs:List D}{x:Str}(hv:O1 kvs x=some v)(h:Q v g):da .nY [.tup kvs,.str x] g Q:=⟨_,_,⟨kvs,x,rfl,hv,rfl⟩,h⟩
theorem Vj(hi:i.natAbs.log2<1920)(h:Q (.str (toString i)) g):da .fv [.int i] g Q:=⟨_,_,⟨rfl,.inl ⟨i,rfl,hi,rfl⟩⟩,h⟩
theorem Rg{x:Str}(hx:U5 l=some x)(h:Q (.str x) g):da .mK l g Q:=⟨_,_,⟨x,hx,rfl,rfl⟩,h⟩
theorem yD{i:Nat}{v:Bool}(hl:d5 g i=some l)(hv:V1 l=some v)(h:Q (.bl v) g):da .all [.ref i] g Q:=⟨_,_,⟨i,l,v,rfl,hl,.inl hv,rfl,rfl⟩,h⟩
theorem j4{i:Nat}{σ:S}{k:S->Prop}(h:k (σ.set i (some x))):kj (.one i) x σ k:=h
theorem C0{is:List Nat}{σ cI:S}{k:S->Prop}(e:E0 is l σ=some cI)(h:k cI):kj (.many is) (.tup l) σ k:=⟨l,cI,rfl,e,h⟩
end
theorem V0:∀(bs:List Bool),V1 (bs.map D.bl)=some (bs.all id):=by
 intro bs
 induction bs with
 |nil=>rfl
 |cons b r ih=>simp[V1,ih]
theorem call_of{T:Nat->Option bo}{k f:Nat}{m:bo}{ds:List D}{Q:KD}(hT:T f=some m)(hl:ds.length=m.ar)(h:wpS (d0 T k) m.body ⟨λ_ g'=>Q .cj g',Q,λ_ _=>False,λ_ _=>False⟩ (d8 m ds) g E):d0 T (k+1) f ds g Q E:=⟨m,hT,hl,h⟩
def IK.Is(k:IK)(l:List D)(g:G):Prop:=∀i,k.at i g=some l[i]?
theorem u9:(IK.fix l).Is l g:=λ_=>rfl
theorem o6(h:d5 g a=some l):(IK.lst a).Is l g:=λi=>by simp only[IK.at,h]
def nc(l:List D):List D:=l.mapIdx λi d=>.tup [.int i,d]
theorem yX(h:d5 g a=some l):(IK.pz a).Is (nc l) g:=λi=>by
 simp only[IK.at,h,nc,List.getElem?_mapIdx]
theorem M9(l:List D):(nc l).length=l.length:=by simp[nc]
theorem zm(h:(nc l)[i]?=some x):∃d,l[i]?=some d/\x=.tup [.int i,d]:=by
 rw[nc,List.getElem?_mapIdx,ae] at h;obtain⟨d,h1,h2⟩:=h;exact⟨d,h1,h2.symm⟩
theorem A5{lo:Int}(h:(l9 lo n)[i]?=some x):i<n/\x=.int (lo+i):=by
 unfold l9 at h;have hi:i<n:=by
  have:=(aw.mp h).1;simpa using this
 rw[au,cw hi] at h;cases h;exact⟨hi,rfl⟩
theorem n5(lo:Int)(n:Nat):(l9 lo n).length=n:=by simp[l9]
section
variable{P:gh}{σ:S}{N:Ends}{it a c:ME}{s:MS}{t:MT}{Q:KD}
theorem IJ{k:IK}{fin:S->G->Prop}{turn:D->(S->G->Prop)->S->G->Prop}(I:Nat->S->G->Prop)(hk:∀i σ g,I i σ g->k.Is l g)(h0:I 0 σ g)(hs:∀i x σ g,l[i]?=some x->I i σ g->turn x (I (i+1)) σ g)(hd:∀σ g,I l.length σ g->fin σ g):turns k σ g fin turn:=by
 refine⟨λi m σ g=>m=l.length-i/\i<=l.length/\I i σ g,⟨l.length,by simp,cF _,h0⟩,?_⟩;rintro i m σ g ⟨rfl,hi,p⟩;rw[hk i σ g p i];by_cases dO:i<l.length
 ·rw[ao dO];exact .inr ⟨_,rfl,I (i+1),λcI g' p'=>⟨l.length-(i+1),by omega,rfl,dO,p'⟩,hs i l[i] σ g (ao dO) p⟩
 ·have e:i=l.length:=by omega
  subst e;rw[aT (av _)];exact .inl ⟨rfl,hd σ g p⟩
theorem y9(hP:j9 P)(h:iJ P it σ g (λk g1=>∃(l:List D) (I:Nat->S->G->Prop),(∀i σ g,I i σ g->k.Is l g)/\I 0 σ g1 /\
      (∀ i x σ g,l[i]?=some x->I i σ g->kj t x σ λcV=>wpS P s ⟨I (i + 1),N.rt,N.nx,I (i + 1)⟩ cV g E)/\∀ σ g,I l.length σ g->N.nx σ g) E):wpS P (.dP t it s) N σ g E :=
  B8 hP it _ _ _ _ _ _ (λk g1 hq=>by obtain⟨l,I,hk,h0,hs,hd⟩:=hq;exact IJ I hk h0 hs hd) (λ_ _ z=>z) h
theorem Jl(hn:(n:Int)<2 ^ 62)(I:Nat->S->G->Prop)(h0:I 0 σ g)(hs:∀(i:Nat) σ g,i<n->I i σ g->kj t (.int i) σ λcV=>wpS P s ⟨I (i+1),N.rt,N.nx,I (i+1)⟩ cV g E)(hd:∀σ g,I n σ g->N.nx σ g):wpS P (.dP t (.eV (.lit (.int n))) s) N σ g E:=by
 refine⟨n,rfl,by omega,hn,IJ (l:=l9 0 n) I (λ_ _ _ _=>u9) h0 (λi x σ g hx p=>?_) (λσ g p=>hd σ g (by rw[n5] at p;exact p))⟩;obtain⟨hi,rfl⟩:=A5 hx;have:=hs i σ g hi p;rw[show(0:Int)+(i:Int)=i by omega];exact this
theorem L0(hP:j9 P)(h:iJ P it σ g (λk g1=>∃(l:List D) (I:Nat->List D->S->G->Prop),l.length<=1000/\(∀i ys σ g,I i ys σ g->k.Is l g/\ys.length<=i)/\I 0 [] (I9 σ d6 n) g1 /\
      (∀i x ys σ g,l[i]?=some x->I i ys σ g->kj t x σ λcV=>dC P cond cV g (λc g3=>if c=true then bh P elt cV g3 (λy g4=>I (i+1) (ys++[y]) cV g4) jZ else I (i+1) ys cV g3) jZ) /\
      ∀ ys σ g,I l.length ys σ g->Q (.ref g.length) (g ++ [.lst ys])) E):bh P (.comp d6 n t it cond elt) σ g Q E:=by
  refine B8 hP it _ _ _ _ _ _ (λk g1 h=>?_) (λ_ _ z=>z) h;obtain⟨l,I,hl,hk,h0,hs,hd⟩:=h;refine⟨λi m ys σ g=>m=l.length-i/\i<=l.length/\I i ys σ g,⟨l.length,by simp,cF _,h0⟩,?_⟩;rintro i m ys σ g ⟨rfl,hi,p⟩;obtain⟨oA,hy⟩:=hk i ys σ g p;rw[oA i];by_cases dO:i<l.length
  · rw[ao dO];refine .inr ⟨_,rfl,by omega,A6 (λcV q=>u6 hP cond _ _ _ _ _ _ (λc g3 q=>?_) (λ_ _ z=>z) q) (hs i l[i] ys σ g (ao dO) p)⟩;cases c
    · exact⟨l.length-(i+1),by omega,rfl,dO,by simpa using(show I (i+1) ys cV g3 from q)⟩
    · exact c7 hP elt _ _ _ _ _ _ (λy g4 q=>⟨l.length-(i+1),by omega,rfl,dO,by simpa using q⟩) (λ_ _ z=>z) q
  · have e:i=l.length:=by omega
    subst e;rw[aT (av _)];exact .inl ⟨rfl,hd ys σ g p⟩
theorem UN(hP:j9 P)(h:iJ P it σ g (λk g1=>∃(l:List D) (I:Nat->List Int->S->G->Prop),l.length<60/\(∀i ys σ g,I i ys σ g->k.Is l g/\ys.length<=i)/\I 0 [] (I9 σ d6 n) g1 /\
      (∀i x ys σ g,l[i]?=some x->I i ys σ g->kj t x σ λcV=>dC P cond cV g (λc g3=>if c=true then bh P elt cV g3 (λy g4=>∃j,y=.int j/\I (i+1) (ys++[j]) cV g4) jZ else I (i+1) ys cV g3) jZ) /\
      ∀ ys σ g,I l.length ys σ g->Q (.ref g.length) (g ++ [.lst ((p8 ys).map .int)])) E):bh P (.iz d6 n t it cond elt) σ g Q E:=by
  refine B8 hP it _ _ _ _ _ _ (λk g1 h=>?_) (λ_ _ z=>z) h;obtain⟨l,I,hl,hk,h0,hs,hd⟩:=h;refine⟨λi m ys σ g=>m=l.length-i/\i<=l.length/\I i ys σ g,⟨l.length,by simp,cF _,h0⟩,?_⟩;rintro i m ys σ g ⟨rfl,hi,p⟩;obtain⟨oA,hy⟩:=hk i ys σ g p;rw[oA i];by_cases dO:i<l.length
  · rw[ao dO];refine .inr ⟨_,rfl,by omega,A6 (λcV q=>u6 hP cond _ _ _ _ _ _ (λc g3 q=>?_) (λ_ _ z=>z) q) (hs i l[i] ys σ g (ao dO) p)⟩;cases c
    · exact⟨l.length-(i+1),by omega,rfl,dO,by simpa using(show I (i+1) ys cV g3 from q)⟩
    · refine c7 hP elt _ _ _ _ _ _ (λy g4 q=>?_) (λ_ _ z=>z) q;obtain⟨j,e,q⟩:=q;exact⟨j,e,l.length-(i+1),by omega,rfl,dO,by simpa using q⟩
  · have e:i=l.length:=by omega
    subst e;rw[aT (av _)];exact .inl ⟨rfl,by omega,hd ys σ g p⟩
theorem aK7(hP:j9 P)(h:bh P a σ g (λx g1=>∃j:Nat,x=.int j/\j<=1000/\∃I:Nat->List D->S->G->Prop,I 0 [] (I9 σ d6 n) g1/\(∀i ys σ g,I i ys σ g->ys.length<=i) /\
      (∀(i:Nat) ys σ g,i<j->I i ys σ g->kj t (.int i) σ λcV=>dC P cond cV g (λc g3=>if c=true then bh P elt cV g3 (λy g4=>I (i+1) (ys++[y]) cV g4) jZ else I (i+1) ys cV g3) jZ) /\
      ∀ ys σ g,I j ys σ g->Q (.ref g.length) (g ++ [.lst ys])) E):bh P (.comp d6 n t (.eV a) cond elt) σ g Q E:=by
  refine L0 hP ?_;refine c7 hP a _ _ _ _ _ _ (λx g1 h=>?_) (λ_ _ z=>z) h;obtain⟨j,rfl,hj,I,h0,hz,hs,hd⟩:=h;refine⟨j,rfl,by omega,by omega,_,I,by rw[n5];simpa using hj,λi ys σ g p=>⟨u9,hz i ys σ g p⟩,h0,λi x ys σ g hx p=>?_,λys σ g p=>hd ys σ g (by rw[n5] at p;simpa using p)⟩;obtain⟨hi,rfl⟩:=A5 hx;rw[show(0:Int)+(i:Int)=i by omega];exact hs i ys σ g (by simpa using hi) p
theorem aK6(hP:j9 P)(h:bh P a σ g (λx g1=>∃l,x=.tup l/\l.length<=1000/\∃I:Nat->List D->S->G->Prop,I 0 [] (I9 σ d6 n) g1/\(∀i ys σ g,I i ys σ g->ys.length<=i) /\
      (∀(i:Nat) x ys σ g,l[i]?=some x->I i ys σ g->kj t x σ λcV=>dC P cond cV g (λc g3=>if c=true then bh P elt cV g3 (λy g4=>I (i+1) (ys++[y]) cV g4) jZ else I (i+1) ys cV g3) jZ) /\
      ∀ ys σ g,I l.length ys σ g->Q (.ref g.length) (g ++ [.lst ys])) E):bh P (.comp d6 n t (.fu a) cond elt) σ g Q E:=by
  refine L0 hP ?_;refine c7 hP a _ _ _ _ _ _ (λx g1 h=>?_) (λ_ _ z=>z) h;obtain⟨l,rfl,hj,I,h0,hz,hs,hd⟩:=h;exact .inl ⟨l,rfl,_,I,hj,λi ys σ g p=>⟨u9,hz i ys σ g p⟩,h0,hs,hd⟩
theorem pI(hP:j9 P)(h:bh P a σ g (λx g1=>∃j:Int,x=.int j/\-(2 ^ 62)<=j/\j<2 ^ 62/\R (.fix (l9 0 j.toNat)) g1) E):iJ P (.eV a) σ g R E:=h
theorem vA(hP:j9 P)(h:bh P a σ g (λx g1=>∃l,x=.tup l/\R (.fix l) g1) E):iJ P (.fu a) σ g R E:=by
 exact c7 hP a _ _ _ _ _ _ (λx g1 h=>.inl h) (λ_ _ z=>z) h
theorem lF(hP:j9 P)(h:bh P a σ g (λx g1=>∃i l,x=.ref i/\d5 g1 i=some l/\R (.lst i) g1) E):iJ P (.fu a) σ g R E:=by
 exact c7 hP a _ _ _ _ _ _ (λx g1 h=>.inr h) (λ_ _ z=>z) h
theorem AI(h:bh P a σ g (λx g1=>∃i l,x=.ref i/\d5 g1 i=some l/\R (.pz i) g1) E):iJ P (.lE a) σ g R E:=h
end
end M
namespace M
open PySem L2 PySem.Spec PyProof.Rows
variable{K:PySem.W.Frag}{x:Str}{C:Addr}
structure RF where
 id:Nat
 nm:Str
 N:List Str
 k:Nat
 i:Nat
 m:bo
structure RM where
 id:Nat
 cl:Str
 nm:Str
 qn:Str
 N:List Str
 k:Nat
 i:Nat
 j:Nat
 m:bo
def RF.d(tp:Nat->Stmt)(r:RF):pL:=⟨r.nm,r.nm,r.N,r.N.take r.k,tp r.i⟩
def RM.d(mt:Nat->Nat->Stmt)(r:RM):pL:=⟨r.nm,r.qn,r.N,r.N.take r.k,mt r.i r.j⟩
def uh(F:List RF)(M:List RM)(i:Nat):Option bo:=match F.find? λr=>Nat.beq r.id i with
 |some r=>some r.m
 |none=>(M.find? λr=>Nat.beq r.id i).map (·.m)
section
variable(tp:Nat->Stmt)(mt:Nat->Nat->Stmt)(K:PySem.W.Frag)
def PF:List RF->Prop
 |[]=>True
 |r::l=>(∃f fd,PySem.W.nsIn K mainGlobals r.nm=some (some (.ref f))/\qE K r.nm r.nm (tp r.i) f fd)/\PF l
def PM:List RM->Prop
 |[]=>True
 |r::l=>(∃C f fd,PySem.W.nsIn K mainGlobals r.cl=some (some (.ref C))/\Meth K C r.nm f/\qE K r.nm r.qn (mt r.i r.j) f fd)/\PM l
def PC:List (Str×Nat)->Prop
 |[]=>True
 |r::l=>(∃C,PySem.W.nsIn K mainGlobals r.1=some (some (.ref C))/\kE K C/\PySem.W.makesIn K C=true/\PySem.W.keepIn K (.ref C)=true)/\PC l
def PA:List (Str×Str)->Prop
 |[]=>True
 |r::l=>(∃C,PySem.W.nsIn K mainGlobals r.2=some (some (.ref C))/\PySem.W.findIn K (.ref C) r.1=some none)/\PA l
def PB:List Str->Prop
 |[]=>True
 |r::l=>PySem.W.nsIn K mainGlobals r=some none/\PB l
def PX:List Str->Prop
 |[]=>True
 |r::l=>(∃C,PySem.W.nsIn K mainGlobals r=some (some (.ref C))/\PySem.W.excIn K C [.type "ValueError",.type "Exception",.type "BaseException",.type "object"] "ValueError.__new__"=true)/\PX l
def BF:List RF->Prop
 |[]=>True
 |r::l=>(∀(kV doc pm:Value) (an:Option Addr) (gf ct:Value) (us:List Value),us.length=(r.N.take r.k).length->bindArgs (PySem.W.fnOf r.nm r.nm (B4 (tp r.i)) (t8 (tp r.i)) (s9 (tp r.i)) .none kV doc pm an gf ct) ⟨us,[]⟩=pure ((r.N.take r.k).zip us))/\BF l
def BM:List RM->Prop
 |[]=>True
 |r::l=>(∀(kV doc pm:Value) (an:Option Addr) (gf ct:Value) (us:List Value),us.length=(r.N.take r.k).length->bindArgs (PySem.W.fnOf r.nm r.qn (B4 (mt r.i r.j)) (t8 (mt r.i r.j)) (s9 (mt r.i r.j)) .none kV doc pm an gf ct) ⟨us,[]⟩=pure ((r.N.take r.k).zip us))/\BM l
def YF(c:i7):List RF->Prop
 |[]=>True
 |r::l=>B6 (comp 60) (c.at (r.d tp)) (t8 (tp r.i))=some r.m.body/\YF c l
def YM(c:i7):List RM->Prop
 |[]=>True
 |r::l=>B6 (comp 60) (c.at (r.d mt)) (t8 (mt r.i r.j))=some r.m.body/\YM c l
end
section
variable{tp:Nat->Stmt}{mt:Nat->Nat->Stmt}{c:i7}{id k i j:Nat}{cl nm qn:Str}{N:List Str}{m:bo}{f:Addr}{oc kV doc pm gf ct:Value}{od an:Option Addr}{mX:Array (Option Value)}
theorem PF.nil:PF tp K []:=trivial
theorem PF.cons{l:List RF}(a:PySem.W.nsIn K mainGlobals nm=some (some (.ref f)))(lk:K.lookup f=some ⟨oc,od,.func (PySem.W.fnOf nm nm (B4 (tp i)) (t8 (tp i)) (s9 (tp i)) .none kV doc pm an gf ct),mX⟩)(cd:PySem.W.codeIn K gf nm=true)(kp:PySem.W.keepIn K (.ref f)=true)(h:PF tp K l):PF tp K (⟨id,nm,N,k,i,m⟩::l):=⟨⟨f,_,a,Kc lk cd kp⟩,h⟩
theorem PM.nil:PM mt K []:=trivial
theorem PM.cons{l:List RM}(c0:PySem.W.nsIn K mainGlobals cl=some (some (.ref C)))(a:PySem.W.findIn K (.ref C) nm=some (some (.ref f)))(af:PySem.W.isFn K (.ref f)=true)(lk:K.lookup f=some ⟨oc,od,.func (PySem.W.fnOf nm qn (B4 (mt i j)) (t8 (mt i j)) (s9 (mt i j)) .none kV doc pm an gf ct),mX⟩)(cd:PySem.W.codeIn K gf qn=true)(kp:PySem.W.keepIn K (.ref f)=true)(h:PM mt K l):PM mt K (⟨id,cl,nm,qn,N,k,i,j,m⟩::l):=⟨⟨C,f,_,c0,⟨a,af,kp⟩,Kc lk cd kp⟩,h⟩
theorem PC.nil:PC K []:=trivial
theorem PC.cons{l:List (Str×Nat)}(cn:PySem.W.nsIn K mainGlobals x=some (some (.ref C)))(cp:PySem.W.plainGet K C Str.empty=true)(PH:PySem.W.hasDictIn K C=true)(Py:PySem.W.plainOver K C=true)(Px:PySem.W.findIn K (.ref C) "__setattr__"=some (some (.builtin "object.__setattr__")))(Pz:PySem.W.makesIn K C=true)(PD:PySem.W.keepIn K (.ref C)=true)(h:PC K l):PC K ((x,i)::l):=⟨⟨C,cn,⟨cp,PH,Py,Px⟩,Pz,PD⟩,h⟩
theorem PA.nil:PA K []:=trivial
theorem PA.cons{l:List (Str×Str)}(cn:PySem.W.nsIn K mainGlobals x=some (some (.ref C)))(fl:PySem.W.findIn K (.ref C) nm=some none)(h:PA K l):PA K ((nm,x)::l):=⟨⟨C,cn,fl⟩,h⟩
theorem PB.nil:PB K []:=trivial
theorem PB.cons{l:List Str}(cn:PySem.W.nsIn K mainGlobals x=some none)(h:PB K l):PB K (x::l):=⟨cn,h⟩
theorem PX.nil:PX K []:=trivial
theorem PX.cons{l:List Str}(cn:PySem.W.nsIn K mainGlobals x=some (some (.ref C)))(q:PySem.W.excIn K C [.type "ValueError",.type "Exception",.type "BaseException",.type "object"] "ValueError.__new__"=true)(h:PX K l):PX K (x::l):=⟨⟨C,cn,q⟩,h⟩
theorem Fv{P:List Value->Prop}{n:Nat}(h:∀a vs,vs.length=n->P (a::vs))(us:List Value)(hl:us.length=n+1):P us:=by
 cases us with
 |nil=>cases hl
 |cons a vs=>exact h a vs (Nat.succ.inj hl)
theorem Fu{P:List Value->Prop}(h:P [])(us:List Value)(hl:us.length=0):P us:=by
 cases List.length_eq_zero_iff.mp hl;exact h
theorem BF.nil:BF tp []:=trivial
theorem BF.cons{l:List RF}(h:∀(kV doc pm:Value) (an:Option Addr) (gf ct:Value) (us:List Value),us.length=(N.take k).length->bindArgs (PySem.W.fnOf nm nm (B4 (tp i)) (t8 (tp i)) (s9 (tp i)) .none kV doc pm an gf ct) ⟨us,[]⟩=pure ((N.take k).zip us))(h2:BF tp l):BF tp (⟨id,nm,N,k,i,m⟩::l):=⟨h,h2⟩
theorem BM.nil:BM mt []:=trivial
theorem BM.cons{l:List RM}(h:∀(kV doc pm:Value) (an:Option Addr) (gf ct:Value) (us:List Value),us.length=(N.take k).length->bindArgs (PySem.W.fnOf nm qn (B4 (mt i j)) (t8 (mt i j)) (s9 (mt i j)) .none kV doc pm an gf ct) ⟨us,[]⟩=pure ((N.take k).zip us))(h2:BM mt l):BM mt (⟨id,cl,nm,qn,N,k,i,j,m⟩::l):=⟨h,h2⟩
theorem YF.nil:YF tp c []:=trivial
theorem YF.cons{l:List RF}(h:B6 (comp 60) (c.at ⟨nm,nm,N,N.take k,tp i⟩) (t8 (tp i))=some m.body)(h2:YF tp c l):YF tp c (⟨id,nm,N,k,i,m⟩::l):=⟨h,h2⟩
theorem YM.nil:YM mt c []:=trivial
theorem YM.cons{l:List RM}(h:B6 (comp 60) (c.at ⟨nm,qn,N,N.take k,mt i j⟩) (t8 (mt i j))=some m.body)(h2:YM mt c l):YM mt c (⟨id,cl,nm,qn,N,k,i,j,m⟩::l):=⟨h,h2⟩
theorem YF.get:∀{l:List RF},YF tp c l->∀r∈l,B6 (comp 60) (c.at (r.d tp)) (t8 (tp r.i))=some r.m.body
 |_::_,h,r,hr=>(aH.mp hr).elim (λz=>z▸h.1) (YF.get h.2 r)
theorem YM.get:∀{l:List RM},YM mt c l->∀r∈l,B6 (comp 60) (c.at (r.d mt)) (t8 (mt r.i r.j))=some r.m.body
 |_::_,h,r,hr=>(aH.mp hr).elim (λz=>z▸h.1) (YM.get h.2 r)
theorem PF.get:∀{l:List RF},PF tp K l->∀r∈l,∃f fd,PySem.W.nsIn K mainGlobals r.nm=some (some (.ref f))/\qE K r.nm r.nm (tp r.i) f fd
 |_::_,h,r,hr=>(aH.mp hr).elim (λz=>z▸h.1) (PF.get h.2 r)
theorem PM.get:∀{l:List RM},PM mt K l->∀r∈l,∃C f fd,PySem.W.nsIn K mainGlobals r.cl=some (some (.ref C))/\Meth K C r.nm f/\qE K r.nm r.qn (mt r.i r.j) f fd
 |_::_,h,r,hr=>(aH.mp hr).elim (λz=>z▸h.1) (PM.get h.2 r)
theorem PC.get:∀{l:List (Str×Nat)},PC K l->∀r∈l,∃C,PySem.W.nsIn K mainGlobals r.1=some (some (.ref C))/\kE K C/\PySem.W.makesIn K C=true/\PySem.W.keepIn K (.ref C)=true
 |_::_,h,r,hr=>(aH.mp hr).elim (λz=>z▸h.1) (PC.get h.2 r)
theorem PA.get:∀{l:List (Str×Str)},PA K l->∀r∈l,∃C,PySem.W.nsIn K mainGlobals r.2=some (some (.ref C))/\PySem.W.findIn K (.ref C) r.1=some none
 |_::_,h,r,hr=>(aH.mp hr).elim (λz=>z▸h.1) (PA.get h.2 r)
theorem PB.get:∀{l:List Str},PB K l->∀r∈l,PySem.W.nsIn K mainGlobals r=some none
 |_::_,h,r,hr=>(aH.mp hr).elim (λz=>z▸h.1) (PB.get h.2 r)
theorem PX.get:∀{l:List Str},PX K l->∀r∈l,∃C,PySem.W.nsIn K mainGlobals r=some (some (.ref C))/\PySem.W.excIn K C [.type "ValueError",.type "Exception",.type "BaseException",.type "object"] "ValueError.__new__"=true
 |_::_,h,r,hr=>(aH.mp hr).elim (λz=>z▸h.1) (PX.get h.2 r)
theorem BF.get:∀{l:List RF},BF tp l->∀r∈l,∀(kV doc pm:Value) (an:Option Addr) (gf ct:Value) (us:List Value),us.length=(r.N.take r.k).length->bindArgs (PySem.W.fnOf r.nm r.nm (B4 (tp r.i)) (t8 (tp r.i)) (s9 (tp r.i)) .none kV doc pm an gf ct) ⟨us,[]⟩=pure ((r.N.take r.k).zip us)
 |_::_,h,r,hr=>(aH.mp hr).elim (λz=>z▸h.1) (BF.get h.2 r)
theorem BM.get:∀{l:List RM},BM mt l->∀r∈l,∀(kV doc pm:Value) (an:Option Addr) (gf ct:Value) (us:List Value),us.length=(r.N.take r.k).length->bindArgs (PySem.W.fnOf r.nm r.qn (B4 (mt r.i r.j)) (t8 (mt r.i r.j)) (s9 (mt r.i r.j)) .none kV doc pm an gf ct) ⟨us,[]⟩=pure ((r.N.take r.k).zip us)
 |_::_,h,r,hr=>(aH.mp hr).elim (λz=>z▸h.1) (BM.get h.2 r)
end
def xH(N P:List Str)(sc:Scope):Bool:=decide (sc.kind=.function)&&!sc.isCoroutine&&!sc.isGenerator&&decide N.Nodup&&decide (N.take P.length=P)&&P.all (λx=>decide (sc.names.lookup x=some .local)||decide (sc.names.lookup x=some .cell))&&sc.names.all λy=>decide (y.2≠.free)
theorem Kn{N P:List Str}{sc:Scope}(h:xH N P sc=true):jn N P sc:=by
 unfold xH at h;simp only[Bool.and_eq_true,decide_eq_true_eq,Bool.not_eq_true',List.all_eq_true,Bool.or_eq_true] at h;obtain⟨⟨⟨⟨⟨⟨h1,h2⟩,h3⟩,h4⟩,h5⟩,h6⟩,h7⟩:=h;exact⟨h1,h2,h3,h4,h5,h6,h7⟩
theorem Zk{h₀:Heap}{mg:Str->Option Value}{Ia:List Value}{newId:String}(X:K.In h₀)(G:h₀.Ns mainGlobals mg)(e:PySem.W.nsIn K mainGlobals x=some (some (.ref C)))(q:PySem.W.excIn K C Ia newId=true):PyProof.Rows.OwnCls x C Ia newId mg h₀:=by
 refine⟨bY X G e,?_⟩;unfold PySem.W.excIn at q;split at q
 ·rename_i dd cd sl ho;split at q
  ·rename_i C' bm k0 k1 k2 k3 n k5 hm hs;simp only[Bool.and_eq_true,beq_iff_eq,Bool.not_eq_true'] at q;obtain⟨⟨⟨⟨⟨z1,z2⟩,vP⟩,ht⟩,cb⟩,xV⟩:=q;subst z1;subst z2;obtain⟨nm,bs,mro,ns,qn,hd,sn,sub,ab,col,del⟩:=cd;dsimp only at hm vP cb xV;subst hm vP;have Nw:sl=#[k0,k1,k2,k3,some (.builtin n),k5]:=by
    obtain⟨l⟩:=sl;simp only at hs;rw[hs]
   subst Nw;exact⟨bm,ns,nm,qn,bs,hd,sn,sub,ab,col,dd,k0,k1,k2,k3,k5,_,X _ _ ho,.of_isNs (PySem.W.isNs_of_in X cb),PySem.W.nsMap_none_of_in X cb xV,PySem.W.tail_of_in X ht⟩
  ·cases q
 ·cases q
def Q6(K:PySem.W.Frag)(x:Str):Addr:=match PySem.W.nsIn K mainGlobals x with
 |some (some (.ref C))=>C
 |_=>0
def Kx(K:PySem.W.Frag)(exc:List Str):Bool:=exc.all λx=>exc.all λy=>decide (PySem.W.exmOne K (.ref (Q6 K x)) (.ref (Q6 K y))=some (decide (x=y\/y="MintError")))
theorem Qq{exc:List Str}(h:Kx K exc=true){y:Str}{C':Addr}(hx:exc.contains x=true)(hy:exc.contains y=true)(hC:x4 K x C)(BA:x4 K y C'):PySem.W.exmOne K (.ref C) (.ref C')=some (decide (x=y\/y="MintError")):=by
 have h1:=cU.mp h x (by simpa using hx);have h2:=bg (cU.mp h1 y (by simpa using hy));have e1:Q6 K x=C:=by unfold Q6;rw[show PySem.W.nsIn K mainGlobals x=_ from hC]
 have e2:Q6 K y=C':=by unfold Q6;rw[show PySem.W.nsIn K mainGlobals y=_ from BA]
 rw[e1,e2] at h2;exact h2
theorem CK{α:Type}{f:α->Nat}:∀{l:List α},(l.map f).Nodup->∀r∈l,l.find? (λx=>Nat.beq (f x) (f r))=some r
 |y::l,nd,r,hr=>by
  rw[bu,et] at nd;rcases aH.mp hr with rfl|hr
  ·rw[List.find?_cons_of_pos];exact Nat.beq_refl _
  ·rw[List.find?_cons_of_neg]
   ·exact CK nd.2 r hr
   ·intro z;exact nd.1 (aP.mpr ⟨r,hr,(jr z).symm⟩)
theorem Ta{α β:Type}{f:α->Nat}{g:β->Nat}{l:List α}{r:β}(h:g r∉l.map f):l.find? (λx=>Nat.beq (f x) (g r))=none:=by
 rw[kI];intro x hx z;exact h (aP.mpr ⟨x,hx,jr z⟩)
section
variable{w:World}{h₀:Heap}{mg:Str->Option Value}{c:i7}{F:List RF}{M:List RM}{tp:Nat->Stmt}{mt:Nat->Nat->Stmt}
structure lY(K:PySem.W.Frag)(c:i7)(F:List RF)(M:List RM)(tp:Nat->Stmt)(mt:Nat->Nat->Stmt):Prop where
 qF:PF tp K F
 qM:PM mt K M
 qC:PC K c.cls
 qA:PA K c.pb
 qB:PB K c.blt
 qX:PX K c.exc
 xm:Kx K c.exc=true
structure lX(c:i7)(F:List RF)(M:List RM)(tp:Nat->Stmt)(mt:Nat->Nat->Stmt):Prop where
 cf:c.fns=F.map λr=>(r.nm,r.id)
 cm:c.rz=M.map λr=>(r.nm,r.cl,r.id)
 ci:c.cls.all (λy=>M.any λr=>decide (r.cl=y.1)&&decide (r.nm="__init__")&&Nat.beq r.id y.2)=true
 nd:(F.map (·.id)++M.map (·.id)).Nodup
 sF:F.all (λr=>xH r.N (r.N.take r.k) (s9 (tp r.i))&&decide (r.m.ar=(r.N.take r.k).length)&&decide (r.m.n=r.N.length))=true
 sM:M.all (λr=>xH r.N (r.N.take r.k) (s9 (mt r.i r.j))&&decide (r.m.ar=(r.N.take r.k).length)&&decide (r.m.n=r.N.length))=true
 oF:YF tp c F
 oM:YM mt c M
 bF:BF tp F
 bM:BM mt M
theorem KU(I:lY K c F M tp mt)(X:lX c F M tp mt)(r:RF)(hr:r∈F):∃f fd,kc K c (r.d tp) r.m f fd/\PySem.W.nsIn K mainGlobals r.nm=some (some (.ref f))/\uh F M r.id=some r.m:=by
 obtain⟨f,fd,a,q⟩:=I.qF.get r hr;have s:=cU.mp X.sF r hr;simp only[Bool.and_eq_true,decide_eq_true_eq] at s;have o:=X.oF.get r hr;refine⟨f,fd,⟨q,q.binds (X.bF.get r hr),Kn s.1.1,o,s.1.2,s.2⟩,a,?_⟩;unfold uh;rw[CK (f:=(·.id)) (cM.mp X.nd).1 r hr]
theorem KW(I:lY K c F M tp mt)(X:lX c F M tp mt)(r:RM)(hr:r∈M):∃C f fd,kc K c (r.d mt) r.m f fd/\PySem.W.nsIn K mainGlobals r.cl=some (some (.ref C))/\Meth K C r.nm f/\uh F M r.id=some r.m:=by
 obtain⟨C,f,fd,a,q1,q⟩:=I.qM.get r hr;have s:=cU.mp X.sM r hr;simp only[Bool.and_eq_true,decide_eq_true_eq] at s;have o:=X.oM.get r hr;refine⟨C,f,fd,⟨q,q.binds (X.bM.get r hr),Kn s.1.1,o,s.1.2,s.2⟩,a,q1,?_⟩;have nd:=cM.mp X.nd;unfold uh;rw[Ta (f:=λr:RF=>r.id) (g:=λr:RM=>r.id) (r:=r) (λz=>nd.2.2 _ z _ (aP.mpr ⟨r,hr,rfl⟩) rfl),CK (f:=λr:RM=>r.id) nd.2.1 r hr]
 rfl
theorem Sx(I:lY K c F M tp mt)(Y:lX c F M tp mt)(X:K.In h₀)(G:h₀.Ns mainGlobals mg)(con:∀x d,c.con.lookup x=some d->∃v u,mg x=some u/\RelV v u/\∀ρ H,f9 K ρ H d v)(sj:∀x kvs,c.gd.lookup x=some kvs->∃A vs,mg x=some (.ref A)/\wK K w.params A vs/\qr K kvs vs):oh w K mg c (uh F M):=by
 refine⟨λx i hx=>?_,λx i hx=>?_,λx y i C hx hC=>?_,λf y C hx hC=>?_,con,λx hx=>?_,λx hx=>?_,λx y C C' hx hy hC BA=>Qq I.xm hx hy hC BA,sj⟩
 ·have hm:=aR hx;rw[Y.cf] at hm;obtain⟨r,hr,e⟩:=aP.mp hm;cases e;obtain⟨f,fd,O,a,t⟩:=KU I Y r hr;exact⟨_,_,f,fd,t,O,bY X G a⟩
 ·have hm:=aR hx;have h1:=cU.mp Y.ci _ hm;obtain⟨r,hr,e⟩:=aV.mp h1;simp only[Bool.and_eq_true,decide_eq_true_eq] at e;obtain⟨⟨e1,e2⟩,e3⟩:=e;have e3:=jr e3;obtain⟨C,f,fd,O,a,q,t⟩:=KW I Y r hr;obtain⟨C',a',hc,mk,kp⟩:=I.qC.get _ hm;rw[e1] at a;cases a.symm.trans a';rw[e2] at q;rw[e3] at t;exact⟨C,_,_,f,fd,t,O,bY X G a,a,hc,⟨mk,q.at_,q.fn,kp⟩⟩
 ·rw[Y.cm] at hx;obtain⟨r,hr,e⟩:=aP.mp hx;cases e;obtain⟨C',f,fd,O,a,q,t⟩:=KW I Y r hr;cases a.symm.trans hC;exact⟨_,_,f,fd,t,O,q⟩
 ·obtain⟨C',a,q⟩:=I.qA.get _ hx;cases a.symm.trans hC;exact q
 ·exact PySem.W.mg_none_of X G (I.qB.get x (by simpa using hx))
 ·obtain⟨C,a,q⟩:=I.qX.get x (by simpa using hx);exact⟨_,bY X G a,a,λbase ow wg=>⟨_,_,_,_,Zk ow wg a q,PySem.F.excBase_ValueError⟩⟩
end
end M
namespace M
open PySem L2
variable{g g':G}{i j n k a b r c p hl:Nat}{o o':O}{P:gh}{Q:KD}{E:KX}{N:Ends}{ms ns:List Int}{l:List D}{α:Type}{x:D}{f v:Int}{kvs:List (Key×D)}{cs:List b7}{kb:Bool->Prop}{rs:List gT}{w:RW}{L H:List Nat}
set_option hygiene false
local macro_rules|`(tactic|walk_at"w1")=>`(tactic|with_reducible first|refine R0 ?_|refine yQ ?_|refine yR ?_|refine Ej ?_|refine SH ?_|refine Qf ?_|refine Lc ?_|refine SM ?_|refine LL ?_|refine K9 ?_|refine Aj ?_|(refine w_var (d:=?_) ?_ ?_;rotate_left;·with_unfolding_all rfl)|refine w_lit ?_|refine Ig ?_|refine Ie ?_|refine Ws ?_|refine SK ?_|refine UL ?_|refine w_and ?_|refine w_or ?_|refine w_not ?_|refine w_ite ?_|refine Cu ?_|refine SI ?_|refine xB ?_|refine Ei ?_|refine wY ?_|refine SN ?_|refine Qe ?_|refine SO ?_|refine LM ?_|refine LO ?_|refine Wu ?_|refine Wv ?_|refine Qb ?_|refine Vg ?_|refine Vf ?_|refine Ve ?_|refine Vd ?_|refine Wy ?_|refine WH ?_|refine HG ?_|refine WG ?_|refine Wz ?_|refine WD ?_|refine HC ?_|refine HD ?_|refine HB ?_|refine HA ?_|refine WE ?_|refine EJ ?_|refine WA ?_|refine HF ?_|refine HE ?_|refine WB ?_|refine DN ?_|refine Wo ?_|refine CG ?_|refine Qu ?_|refine nJ ?_|refine qu ?_|refine HP ?_|refine Vq ?_|refine Gg ?_|refine Ar ?_|refine Ap ?_|refine Aq ?_|refine FJ ?_|refine Gd ?_|refine Fw ?_)
local macro_rules|`(tactic|walk_at"w2")=>`(tactic|repeat(with_reducible first|walk_at "w1"|refine DZ (by simp) ?_|refine DY (by simp) ?_|refine q9 (a9 (by assumption)) (by with_unfolding_all rfl) ?_|refine J8 (a9 (by assumption)) ?_|refine DI (by unfold pC;decide) ?_))
local macro_rules|`(tactic|walk_at"w3")=>`(tactic|repeat(with_reducible first|walk_at "w1"|refine DZ (by simp) ?_|refine DY (by simp) ?_|refine q9 (a9 (by assumption)) (by with_unfolding_all rfl) ?_|refine J8 (a9 (by assumption)) ?_|refine DI (by unfold pC;decide) ?_|refine And.intro (show List.length _ <= 1000 from by simp) ?_|refine C0 (by with_unfolding_all rfl) ?_|refine j4 ?_|refine w6 (by with_unfolding_all rfl) ?_))
local macro_rules|`(tactic|walk_at"")=>`(tactic|repeat(with_reducible first|walk_at "w1"|refine UM ?_|refine Ft ?_|refine SJ ?_|refine Hz ?_|refine PU ?_|refine Fx ?_|refine max2 ?_|refine min2 ?_|refine WS ?_|refine W6 ?_|refine OY ?_|refine Hh ?_|refine DZ (by simp) ?_|refine DY (by simp) ?_|refine q9 (a9 (by assumption)) (by with_unfolding_all rfl) ?_|refine J8 (a9 (by assumption)) ?_|refine DI (by unfold pC;decide) ?_|refine And.intro (show List.length _ <= 1000 from by simp) ?_|refine C0 (by with_unfolding_all rfl) ?_|refine j4 ?_|refine w6 (by with_unfolding_all rfl) ?_|refine And.intro (Y0 (by assumption)) ?_|refine And.intro (QP (by assumption)) ?_|refine And.intro (Vz (by assumption)) ?_|refine Q3 (by decide) ?_|refine LU (by decide) (by decide) ?_|refine AI ?_))
set_option hygiene true
abbrev fA(a:ME):ME:=.cons a .nil
abbrev eM(a b:ME):ME:=.cons a (.cons b .nil)
abbrev iR(a b c:ME):ME:=.cons a (.cons b (.cons c .nil))
abbrev pP(a b c d:ME):ME:=.cons a (.cons b (.cons c (.cons d .nil)))
abbrev uL(a b c d e:ME):ME:=.cons a (.cons b (.cons c (.cons d (.cons e .nil))))
abbrev He(a b c d e f:ME):ME:=.cons a (.cons b (.cons c (.cons d (.cons e (.cons f .nil)))))
abbrev BR(a b c d e f g:ME):ME:=.cons a (.cons b (.cons c (.cons d (.cons e (.cons f (.cons g .nil))))))
abbrev fi(o:PySem.CmpOp)(a b:ME):ME:=.gi (.prim (.cmp o) (.cons a (.cons b .nil)))
abbrev dj(a b:ME):ME:=.prim .ix (.cons a (.cons b .nil))
abbrev bp(a:Int):ME:=.lit (.int a)
abbrev iO(a:PySem.Str):ME:=.lit (.str a)
abbrev dZ(p:Pr)(a:ME):ME:=.prim p (.cons a .nil)
abbrev cA(p:Pr)(a b:ME):ME:=.prim p (.cons a (.cons b .nil))
abbrev aO:ME:=.var 0
abbrev bE:ME:=.var 1
abbrev pV:ME:=.var 10
abbrev lQ:ME:=.var 12
abbrev vp:ME:=.var 13
abbrev pU:ME:=.var 15
abbrev vo:ME:=.var 16
abbrev bD:ME:=.var 2
abbrev bT:ME:=.var 3
abbrev dJ:ME:=.var 4
abbrev fh:ME:=.var 5
abbrev fN:ME:=.var 6
abbrev gH:ME:=.var 7
abbrev jK:ME:=.var 8
def E6:bo:=⟨2,5,(.seq (.ifs (.eI (fi .Lt (dj aO (bp 2)) bE) (fi .Lt (dj aO (bp 1)) (dZ .len (dj aO (bp 0))))) (.seq (.set 2 (dj (dj aO (bp 0)) (dj aO (bp 1)))) (.seq (.fc aO (bp 1) (cA (.bin .Add) (dj aO (bp 1)) (bp 1))) (.seq (.fc aO (bp 2) (bp 0)) (.seq (.ifs (fi .GtE bD (cA (.bin .Pow) (bp 10) (bp 18))) (.seq (.fc aO (bp 2) bD) .pass) (.seq (.fc aO (bp 3) (cA (.bin .Mod) (cA (.bin .Add) (cA (.bin .Add) (cA (.bin .Mult) (dj aO (bp 3)) (bp 48271)) (cA (.bin .Mult) (cA (.bin .Mod) bD (bp 2147483629)) (bp 69621))) (bp 12345)) (bp 2147483647))) .pass)) .pass)))) .pass) (.seq (.ifs (fi .GtE (dj aO (bp 2)) bE) (.seq (.set 3 (cA (.bin .Mod) (dj aO (bp 2)) bE)) (.seq (.fc aO (bp 2) (cA (.bin .FloorDiv) (dj aO (bp 2)) bE)) (.seq (.ret bT) .pass))) .pass) (.seq (.set 4 (dj aO (bp 3))) (.seq (.fc aO (bp 3) (cA (.bin .Mod) (cA (.bin .Add) (cA (.bin .Add) (cA (.bin .Mult) (cA (.bin .Mod) (cA (.bin .Mult) dJ dJ) (bp 2147483629)) (bp 5)) (cA (.bin .Mult) dJ (bp 16811))) (bp 2531011)) (bp 2147483647))) (.seq (.ret (cA (.bin .Mod) (cA (.bin .Add) (cA (.bin .FloorDiv) (dj aO (bp 3)) (bp 59)) (cA (.bin .Mult) (cA (.bin .Mod) (dj aO (bp 3)) (bp 8191)) (bp 31))) bE)) .pass)))))⟩
structure j6(g:G)(d:Nat):Prop where
 ex:∃(s:Nat) (p b r:Int) (xs:List Int),g[d]?=some (.lst [.ref s,.int p,.int b,.int r])/\g[s]?=some (.lst (xs.map .int))/\s<d/\0<=p/\0<=b/\0<=r/\r<2147483647
structure Gr(d:Nat)(g g':G):Prop where
 len:g.length<=g'.length
 old:∀i,i≠d->i<g.length->g'[i]?=g[i]?
theorem Gr.refl(d:Nat)(g:G):Gr d g g:=⟨av _,λ_ _ _=>rfl⟩
theorem Gr.trans{d:Nat}{g g1 g2:G}(a:Gr d g g1)(b:Gr d g1 g2):Gr d g g2:=⟨aF a.len b.len,λi h1 h2=>(b.old i h1 (aA h2 a.len)).trans (a.old i h1 h2)⟩
theorem Gr.set(d:Nat)(g:G)(o:O):Gr d g (g.set d o):=⟨by simp,λi h1 h2=>ay (cc h1)⟩
theorem Gr.snoc(d:Nat)(g:G)(o:O):Gr d g (g++[o]):=⟨by simp,λi h1 h2=>aM h2⟩
theorem Gr.at{d:Nat}(h:Gr d g g')(hi:i≠d)(e:g[i]?=some o):g'[i]?=some o:=(h.old i hi (aw.mp e).1).trans e
theorem j7(h:g[i]?=some o):i<g.length:=(aw.mp h).1
theorem j6.lt{d:Nat}(h:j6 g d):d<g.length:=by
 obtain⟨_,_,_,_,_,e,_⟩:=h.ex;exact j7 e
theorem j6.snoc{d:Nat}(h:j6 g d)(o:O):j6 (g++[o]) d:=by
 obtain⟨s,p,b,r,xs,e1,e2,q⟩:=h.ex;exact⟨s,p,b,r,xs,by rw[aM (j7 e1)];exact e1,by rw[aM (j7 e2)];exact e2,q⟩
def j8:MS->MS
 |.seq _ b=>b
 |x=>x
theorem Er{i j:Int}(h1:-(2 ^ 64)<i)(h2:i<2 ^ 64):sI i j:=.inl ⟨h1,h2⟩
theorem Y6{i j:Int}(h1:-(2 ^ 64)<j)(h2:j<2 ^ 64):sI i j:=.inr ⟨h1,h2⟩
theorem Zv{d:Nat}{n:Int}{c2:Option D}(hN:N.rt=Q)(D0:j6 g d)(hn:0<n)(mZ:n<1073741824)(h:∀r g',0<=r->r<n->j6 g' d->Gr d g g'->Q (.int r) g'):wpS P (j8 E6.body) N [some (.ref d),some (.int n),c2,none,none] g E:=by
 obtain⟨s,p,b,r,xs,e1,e2,oS,hp,hb,hr,pY⟩:=D0.ex;have dO:=j7 e1;subst hN;dsimp[E6,j8];walk_at "w2";refine if2 (λc=>?_) (λc=>?_)
 ·walk_at "w2";refine Q3 hn ?_;walk_at "w2";refine yC ⟨hn,mZ⟩ ?_;walk_at "w2";refine T9 e1 (by with_unfolding_all rfl) ?_;walk_at "w2";refine h _ _ (fk _ (by omega)) (dW _ hn) ⟨s,p,b / n,r,xs,?_,?_,oS,hp,Int.ediv_nonneg hb (by omega),hr,pY⟩ (Gr.set d g _)
  ·rw[aY dO];rfl
  ·rw[ay (bQ oS)];exact e2
 ·walk_at "w2";have FK:-(2 ^ 64)<r/\r<2 ^ 64:=⟨by omega,by omega⟩
  refine Q2 (Er FK.1 FK.2) ?_;walk_at "w2";refine Q3 (by decide) ?_;walk_at "w2";refine Q2 (Y6 (by decide) (by decide)) ?_;walk_at "w2";refine Q2 (Y6 (by decide) (by decide)) ?_;walk_at "w2";refine Q3 (by decide) ?_;walk_at "w2";refine T9 e1 (by with_unfolding_all rfl) ?_;generalize eY:(r*r % 2147483629*5+r*16811+2531011) % 2147483647=r';have q0:0<=r':=by rw[<- eY];exact fk _ (by decide)
  have q1:r'<2147483647:=by rw[<- eY];exact dW _ (by decide)
  have Pt:(g.set d (.lst [.ref s,.int p,.int b,.int r']))[d]?=some (.lst [.ref s,.int p,.int b,.int r']):=aY dO;show wpS P _ _ _ (g.set d (.lst [.ref s,.int p,.int b,.int r'])) E;walk_at "w2";refine yC ⟨by decide,by decide⟩ ?_;walk_at "w2";refine Q3 (by decide) ?_;walk_at "w2";refine Q2 (Y6 (by decide) (by decide)) ?_;walk_at "w2";refine Q3 hn ?_;walk_at "w2";refine h _ _ (fk _ (by omega)) (dW _ hn) ⟨s,p,b,r',xs,Pt,?_,oS,hp,hb,q0,q1⟩ (Gr.set d g _);rw[ay (bQ oS)];exact e2
theorem i8{T:Nat->Option bo}(hT:T 4=some E6){d:Nat}{n:Int}(D0:j6 g d)(hn:0<n)(mZ:n<1073741824)(h:∀r g',0<=r->r<n->j6 g' d->Gr d g g'->Q (.int r) g'):d0 T (k+1) 4 [.ref d,.int n] g Q E:=by
 obtain⟨s,p,b,r,xs,e1,e2,oS,hp,hb,hr,pY⟩:=D0.ex;have dO:=j7 e1;refine call_of hT rfl ?_;have tail:∀(g':G) (c2:Option D),j6 g' d->Gr d g g'->wpS (d0 T k) (j8 E6.body) ⟨λ_ g'=>Q .cj g',Q,λ_ _=>False,λ_ _=>False⟩ [some (.ref d),some (.int n),c2,none,none] g' E :=
  λg' c2 D1 gr=>Zv rfl D1 hn mZ λr g2 a b c e=>h r g2 a b c (gr.trans e)
 dsimp[E6,d8,List.replicate];walk_at "w2";refine if2 (λc=>?_) (λc=>?_)
 ·walk_at "w2";refine if2 (λc'=>?_) (λc'=>?_)
  ·walk_at "w2";have gL:p.toNat<xs.length:=by
    rw[aj] at c';omega
   have ea:gI (xs.map D.int) p=some (.int xs[p.toNat]):=by
    have:=K8 (xs:=xs.map D.int) (j:=p.toNat) (v:=.int xs[p.toNat]) (by rw[au,ao gL];rfl)
    rwa [show((p.toNat:Nat):Int)=p by omega] at this
   refine q9 (a9 e2) ea ?_;generalize xs[p.toNat]=cell;walk_at "w2";refine T9 e1 (by with_unfolding_all rfl) ?_;have f1:(g.set d (.lst [.ref s,.int (p+1),.int b,.int r]))[d]?=some (.lst [.ref s,.int (p+1),.int b,.int r]):=aY dO;show wpS (d0 T k) _ _ _ (g.set d (.lst [.ref s,.int (p+1),.int b,.int r])) E;walk_at "w2";refine T9 f1 (by with_unfolding_all rfl) ?_;rw[iY];have f2:(g.set d (.lst [.ref s,.int (p+1),.int 0,.int r]))[d]?=some (.lst [.ref s,.int (p+1),.int 0,.int r]):=aY dO;show wpS (d0 T k) _ _ _ (g.set d (.lst [.ref s,.int (p+1),.int 0,.int r])) E;walk_at "w2";refine if2 (λc2=>?_) (λc2=>?_)
   ·walk_at "w2";refine T9 f2 (by with_unfolding_all rfl) ?_;rw[iY];refine tail _ _ ⟨s,p+1,cell,r,xs,aY dO,by rw[ay (bQ oS)];exact e2,oS,by omega,?_,hr,pY⟩ (Gr.set d g _);have:(10:Int) ^ (18:Int).toNat<=cell:=c2;have Hd:(0:Int)<=10 ^ (18:Int).toNat:=by decide
    omega
   ·walk_at "w2";refine Q2 (Y6 (by decide) (by decide)) ?_;walk_at "w2";refine Q3 (by decide) ?_;walk_at "w2";refine Q2 (Y6 (by decide) (by decide)) ?_;walk_at "w2";refine Q3 (by decide) ?_;walk_at "w2";refine T9 f2 (by with_unfolding_all rfl) ?_;rw[iY];exact tail _ _ ⟨s,p+1,0,_,xs,aY dO,by rw[ay (bQ oS)];exact e2,oS,by omega,by decide,fk _ (by decide),dW _ (by decide)⟩ (Gr.set d g _)
  ·walk_at "w1";exact tail _ _ D0 (Gr.refl _ _)
 ·walk_at "w1";walk_at "w1";exact tail _ _ D0 (Gr.refl _ _)
def Ds:bo:=⟨1,1,(.seq (.ret (.eI (cA .isin aO (.lit (.ty "int"))) (.eU (cA .isin aO (.lit (.ty "bool")))))) .pass)⟩
def V4:bo:=⟨3,3,(.seq (.ret (.eI (.call 38 (fA aO)) (.chain .LtE .LtE bE aO bD))) .pass)⟩
structure NF(T:Nat->Option bo):Prop where
 nf:T 1=some V4
 is:T 38=some Ds
def F6:bo:=⟨1,3,(.seq (.set 1 (bp 0)) (.seq (.dP (.one 2) (.fu aO) (.seq (.ifs (.eU (.gi (.call 1 (iR bD bE (bp 7))))) (.seq (.ret (.lit (.bl false))) .pass) .pass) (.seq (.set 1 (cA (.bin .Add) bD (bp 1))) .pass))) (.seq (.ret (.lit (.bl true))) .pass)))⟩
def yM:bo:=⟨1,1,(.seq (.ret (.prim .lst (pP (dZ .list (cA (.ot false true) aO (bp 63))) (bp 0) (bp 0) (bp 29)))) .pass)⟩
def zN:bo:=⟨1,1,(.seq (.ret (.eI (cA .isin aO (.lit (.ty "int"))) (.eU (cA .isin aO (.lit (.ty "bool")))))) .pass)⟩
theorem K6{g:G}{n:Nat}:∀ms:List Int,(ms.map D.int).mapM (rd g n)=some (ms.map PyData.int)
 |[]=>rfl
 |m::r=>by
  rw[bu,List.mapM_cons,K6 r];cases n<;>rfl
theorem lay_ints:∀ms:List Int,PyData.canLayAll0 (ms.map PyData.int)=true
 |[]=>by simp[PyData.canLayAll0]
 |m::r=>by simp[PyData.canLayAll0,PyData.canLay0,lay_ints r]
theorem W5:∀ms ns:List Int,PyData.eqvAll (ms.map PyData.int) (ns.map PyData.int)=decide (ms=ns)
 |[],[]=>by simp[PyData.eqvAll]
 |[],_::_=>by simp[PyData.eqvAll]
 |_::_,[]=>by simp[PyData.eqvAll]
 |m::r,n::q=>by
  simp only[List.map_cons,PyData.eqvAll,PyData.eqv,W5 r q];by_cases h:m=n
  ·subst h;simp
  ·simp[h]
theorem Dm{i:Int}{k:Bool->Prop}(h:k (ms.any λm=>m==i)):rC g (.int i) (.tup (ms.map .int)) k:=by
 refine⟨_,.inr ⟨_,_,_,rfl,K6 ms,rfl,lay_ints ms,by simp[PyData.canLay0],rfl⟩,?_⟩;rw[lz];exact h
theorem YS{k:Bool->Prop}(ha:d5 g a=some (ms.map .int))(hb:d5 g b=some (ns.map .int))(h:k (decide (ms=ns))):sC g (.ref a) (.ref b) k:=by
 refine⟨_,.inr (.inr (.inr ⟨.list (ms.map .int),.list (ns.map .int),?_,?_,?_,?_,rfl⟩)),?_⟩
 ·simp only[rd];rw[ha];dsimp only;rw[K6];rfl
 ·simp only[rd];rw[hb];dsimp only;rw[K6];rfl
 ·simp[PyData.canLay0,lay_ints]
 ·simp[PyData.canLay0,lay_ints]
 ·simp only[PyData.eqv,W5];exact h
section
variable{T:Nat->Option bo}{d:Nat}
theorem JT(h1:NF T){i:Int}(h:Q (.bl true) g):d0 T (k+1) 38 [.int i] g Q E:=by
 refine call_of h1.is rfl ?_;dsimp[Ds,d8,List.replicate];walk_at "w2";refine vy (c:="int") (b:=true) (by decide) rfl ?_;walk_at "w2";refine vy (c:="bool") (b:=false) (by decide) rfl ?_;walk_at "w2";exact h
theorem C2(h1:NF T){i l m:Int}(h:Q (.bl (decide (l<=i)&&decide (i<=m))) g):d0 T (k+2) 1 [.int i,.int l,.int m] g Q E:=by
 refine call_of h1.nf rfl ?_;dsimp[V4,d8,List.replicate];walk_at "w2";refine JT h1 ?_;walk_at "w2";refine if2 (λc=>?_) (λc=>?_)
 ·rw[az c] at h;walk_at "w2";exact h
 ·rw[aK c] at h;exact h
def gm:Int->List Int->Bool
 |_,[]=>true
 |l,x::r=>(decide (l<=x)&&decide (x<=7))&&gm (x+1) r
theorem JW(h1:NF T)(h2:T 2=some F6)(h:Q (.bl (gm 0 ms)) g):d0 T (k+3) 2 [.tup (ms.map .int)] g Q E:=by
 refine call_of h2 rfl ?_;dsimp[F6,d8,List.replicate];walk_at "w2";refine y9 (b0 T _) (vA (b0 T _) ?_);walk_at "w2";refine⟨_,rfl,_,λi σ g'=>g'=g/\∃(l:Int) (z:Option D),σ=[some (.tup (ms.map .int)),some (.int l),z]/\gm 0 ms=gm l (ms.drop i),λ_ _ _ _=>u9,⟨rfl,0,none,rfl,rfl⟩,λi x σ g' hx p=>?_,λσ g' p=>?_⟩
 ·obtain⟨rfl,l,z,rfl,e⟩:=p;rw[au] at hx;cases em:ms[i]? with
  |none=>rw[em] at hx;cases hx
  |some m =>
   rw[em] at hx;cases hx;have hi:=(aw.mp em).1;have ed:ms.drop i=m::ms.drop (i+1):=by
    rw[eX hi]
    congr 1
    exact(aw.mp em).2
   rw[ed] at e;simp only[gm] at e;show wpS _ _ _ _ _ _;walk_at "w2";refine C2 h1 ?_;walk_at "w2";cases hc:(decide (l<=m)&&decide (m<=7)) with
   |true =>
    rw[hc,qK] at e;show wpS _ _ _ _ _ _;walk_at "w2";exact⟨rfl,m+1,some (.int m),rfl,e⟩
   |false =>
    rw[hc,Bool.false_and] at e;rw[e] at h;show wpS _ _ _ _ _ _;walk_at "w2";exact h
 ·obtain⟨rfl,l,z,rfl,e⟩:=p;rw[uE (by simp)] at e;simp only[gm] at e;rw[e] at h;show wpS _ _ _ _ _ _;walk_at "w2";exact h
theorem Tz(h3:T 3=some yM)(hg:g[a]?=some (.oY (ns.map .int)))(h:∀d g',j6 g' d->g.length<=d->(∀i,i<g.length->g'[i]?=g[i]?)->Q (.ref d) g'):d0 T (k+1) 3 [.ref a] g Q E:=by
 refine call_of h3 rfl ?_;dsimp[yM,d8,List.replicate];walk_at "w2";refine Ko (YZ hg) ?_;walk_at "w2";refine yK (l:=cut (ns.map D.int) none (some 63)) (a9 (by simp)) ?_;walk_at "w2";have ec:cut (ns.map D.int) none (some 63)=(cut ns none (some 63)).map D.int:=by
  unfold cut;simp[List.map_take,List.map_drop]
 refine h _ _ ⟨g.length+1,0,0,29,cut ns none (some 63),?_,?_,?_,by decide,by decide,by decide,by decide⟩ (by simp) (λi hi=>?_)
 ·simp
 ·rw[<- ec];simp
 ·simp
 ·simp[List.getElem?_append,hi,Nat.lt_of_lt_of_le hi (by omega:g.length<=g.length+1),Nat.lt_of_lt_of_le hi (by omega:g.length<=g.length+1+1)]
end
theorem Iu:∀{ms:List Int} {l:Int},ms.Pairwise (· < ·)->(∀m∈ms,l<=m/\m<=7)->gm l ms=true
 |[],_,_,_=>rfl
 |m::r,l,hp,h=>by
  obtain⟨h1,h2⟩:=fo.mp hp;have hm:=h m (by simp);simp only[gm];rw[az hm.1,az hm.2,Iu h2 λx hx=>⟨by have:=h1 x hx;omega,(h x (by simp[hx])).2⟩]
  rfl
theorem K3{l:List α}{r:Int}(h0:0<=r)(h1:r<l.length):∃v,gI l r=some v/\v∈l:=by
 have hi:r.toNat<l.length:=by omega
 refine⟨l[r.toNat],?_,cG hi⟩;have:=K8 (xs:=l) (j:=r.toNat) (v:=l[r.toNat]) (ao hi)
 rwa [show((r.toNat:Nat):Int)=r by omega] at this
def B5:bo:=⟨1,8,(.seq (.mr (.many [1,2,3,4,5]) aO) (.seq (.set 6 (.eI (.call 1 (iR bE (bp 1) (bp 99))) (.call 2 (fA bD)))) (.seq (.set 7 (.eI (.call 1 (iR bT (bp 1) (bp 99))) (.call 2 (fA dJ)))) (.seq (.ret (.eI fN (.eI gH (.call 1 (iR fh (bp 0) (bp 9999)))))) .pass))))⟩
structure b7 where
 lo:Int
 lm:List Int
 up:Int
 um:List Int
 yr:Int
def b7.d(c:b7):D:=.tup [.int c.lo,.tup (c.lm.map .int),.int c.up,.tup (c.um.map .int),.int c.yr]
def w9(c:b7):Bool:=((decide (1<=c.lo)&&decide (c.lo<=99))&&gm 0 c.lm)&&(((decide (1<=c.up)&&decide (c.up<=99))&&gm 0 c.um)&&(decide (0<=c.yr)&&decide (c.yr<=9999)))
section
variable{T:Nat->Option bo}{d:Nat}
theorem aD4(h1:NF T)(h2:T 2=some F6)(tW:T 12=some B5){c:b7}(h:Q (.bl (w9 c)) g):d0 T (k+4) 12 [c.d] g Q E:=by
 refine call_of tW rfl ?_;dsimp[B5,d8,List.replicate,b7.d];walk_at "w3";refine C2 h1 ?_;have s1:∀b:Bool,b=((decide (1<=c.lo)&&decide (c.lo<=99))&&gm 0 c.lm)->wpS (d0 T (k+3)) (j8 (j8 B5.body)) ⟨λ_ g'=>Q .cj g',Q,λ_ _=>False,λ_ _=>False⟩ [some c.d,some (.int c.lo),some (.tup (c.lm.map .int)),some (.int c.up),some (.tup (c.um.map .int)),some (.int c.yr),some (.bl b),none] g E:=by
  intro b hb;dsimp[B5,j8];walk_at "w3";refine C2 h1 ?_;have s2:∀b':Bool,b'=((decide (1<=c.up)&&decide (c.up<=99))&&gm 0 c.um)->wpS (d0 T (k+3)) (j8 (j8 (j8 B5.body))) ⟨λ_ g'=>Q .cj g',Q,λ_ _=>False,λ_ _=>False⟩ [some c.d,some (.int c.lo),some (.tup (c.lm.map .int)),some (.int c.up),some (.tup (c.um.map .int)),some (.int c.yr),some (.bl b),some (.bl b')] g E:=by
   intro b' lS;dsimp[B5,j8];have e:w9 c=(b&&(b'&&(decide (0<=c.yr)&&decide (c.yr<=9999)))):=by unfold w9;rw[hb,lS]
   rw[e] at h;walk_at "w3";cases b
   ·exact qu h
   ·refine nJ ?_;walk_at "w3";cases b'
    ·exact qu h
    ·refine nJ ?_;walk_at "w3";exact C2 h1 h
  refine CG ?_;cases hc:(decide (1<=c.up)&&decide (c.up<=99)) with
  |false=>exact qu (s2 false (by rw[hc];rfl))
  |true =>
   refine nJ ?_;walk_at "w1";walk_at "w1";walk_at "w1";walk_at "w1";exact JW h1 h2 (s2 _ (by rw[hc];rfl))
 refine CG ?_;cases hc:(decide (1<=c.lo)&&decide (c.lo<=99)) with
 |false=>exact qu (s1 false (by rw[hc];rfl))
 |true =>
  refine nJ ?_;walk_at "w1";walk_at "w1";walk_at "w1";walk_at "w1";exact JW h1 h2 (s1 _ (by rw[hc];rfl))
end
def R9:bo:=⟨2,5,(.seq (.set 2 (dZ .list bE)) (.seq (.set 3 (.prim .lst .nil)) (.seq (.dP (.one 4) (.eV (dZ .len bE)) (.seq (.expr (.fg .append bT (fA (.fg .pop bD (fA (.call 4 (eM aO (dZ .len bD)))))))) .pass)) (.seq (.ret bT) .pass))))⟩
theorem JA{α:Type}:∀{l:List α} {j:Nat} (h:j<l.length),(l[j]::l.eraseIdx j).Perm l
 |a::r,0,_=>by simp
 |a::r,j+1,h=>by
  simp only[List.getElem_cons_succ,List.eraseIdx_cons_succ];exact(List.Perm.swap _ _ _).trans ((JA (l:=r) (j:=j) (by simpa using h)).cons a)
theorem Gr.J9{d x:Nat}(h:Gr d g g')(hx:g.length<=x):Gr d g (g'.set x o):=⟨by simp[h.len],λi h1 h2=>by rw[ay (by omega)];exact h.old i h1 h2⟩
theorem j6.J9{d x:Nat}(h:j6 g d)(hx:d<x):j6 (g.set x o) d:=by
 obtain⟨s,p,b,r,xs,e1,e2,hs,q⟩:=h.ex;exact⟨s,p,b,r,xs,by rw[ay (by omega)];exact e1,by rw[ay (by omega)];exact e2,hs,q⟩
theorem b8:(g++[o])[g.length]?=some o:=by simp
theorem p6(h:g[i]?=some o):(g++[o'])[i]?=some o:=by rw[aM (j7 h)];exact h
theorem get_set(h:g[i]?=some o):(g.set i o')[i]?=some o':=aY (j7 h)
theorem d4(h:g[i]?=some o)(hn:j≠i):(g.set j o')[i]?=some o:=by rw[ay hn];exact h
section
variable{T:Nat->Option bo}{d:Nat}
theorem JM(h4:T 4=some E6)(BC:T 21=some R9)(ha:g[a]?=some (.lst l))(hl:l.length<=1000)(hd:a≠d)(D0:j6 g d)(h:∀(l':List D) b g',l'.Perm l->g'[b]?=some (.lst l')->g.length<=b->j6 g' d->Gr d g g'->Q (.ref b) g'):d0 T (k+2) 21 [.ref d,.ref a] g Q E:=by
 refine call_of BC rfl ?_;dsimp[R9,d8,List.replicate];walk_at"";refine yK (a9 ha) ?_;walk_at"";have dl:=D0.lt;refine y9 (b0 T _) (pI (b0 T _) ?_);walk_at"";have yj:(g++[O.lst l]++[O.lst []])[a]?=some (.lst l):=p6 (p6 ha);refine J8 (a9 yj) ?_;refine ⟨_,rfl,by omega,by omega,l9 0 l.length,λi σ g'=>∃ left found w,σ=[some (.ref d),some (.ref a),some (.ref g.length),some (.ref (g.length + 1)),w]/\(left ++ found).Perm l/\left.length + i=l.length/\g'[g.length]?=some (.lst left)/\g'[g.length + 1]?=some (.lst found)/\j6 g' d/\Gr d g g',
  λi σ g p=>u9,?_,λi x σ g' hx p=>?_,λσ g' p=>?_⟩
 ·refine⟨l,[],none,?_,by simp,by simp,?_,?_,(D0.snoc _).snoc _,(Gr.snoc _ _ _).trans (Gr.snoc _ _ _)⟩
  ·simp
  ·exact p6 b8
  ·have:=b8 (g:=g++[O.lst l]) (o:=O.lst []);simpa using this
 ·obtain⟨left,found,w,rfl,hp,hn,e1,e2,D1,G1⟩:=p;obtain⟨hi,rfl⟩:=A5 hx;show wpS _ _ _ _ _ _;walk_at"";refine i8 (n:=(left.length:Int)) h4 D1 (by omega) (by omega) λr g2 r0 r1 D2 G2=>?_;have f1:=G2.at (by omega) e1;have f2:=G2.at (by omega) e2;have hr:r.toNat<left.length:=by omega
  walk_at"";refine Xd (j:=r.toNat) f1 (by omega) (ao hr) (by omega) ?_;walk_at"";refine P7 (d4 f2 (by omega)) ?_ ?_
  ·have:=hp.length_eq;simp at this;omega
  walk_at"";refine⟨_,_,_,rfl,?_,?_,d4 (get_set f1) (by omega),get_set (d4 f2 (by omega)),(D2.J9 (by omega)).J9 (by omega),((G1.trans G2).J9 (by omega)).J9 (by omega)⟩
  ·refine List.Perm.trans ?_ hp;have:=JA hr;refine List.Perm.trans ?_ (fI found this);simp only[List.cons_append];rw[<- bH];exact(List.perm_append_singleton _ _)
  ·rw[gM hr];omega
 ·obtain⟨left,found,w,rfl,hp,hn,e1,e2,D1,G1⟩:=p;show wpS _ _ _ _ _ _;walk_at"";rw[n5] at hn;have:left=[]:=dQ (by omega);subst this;exact h _ _ _ (by simpa using hp) e2 (by omega) D1 G1
end
def zz:bo:=⟨1,5,(.seq (.set 1 (.prim .lst (BR (.prim .tup .nil) (dZ .tup (bp 0)) (cA .tup (bp 0) (bp 1)) (dZ .tup (bp 1)) (.prim .tup (iR (bp 0) (bp 1) (bp 2))) (.prim .tup (pP (bp 0) (bp 1) (bp 2) (bp 7))) (dZ .tup (bp 2))))) (.seq (.set 2 (dj bE (.call 4 (eM aO (dj (cA .tup (bp 4) (bp 7)) (dZ .int (cA (.cmp .Eq) (.call 4 (eM aO (bp 4))) (bp 0)))))))) (.seq (.set 3 (dj bE (.call 4 (eM aO (bp 5))))) (.seq (.set 4 (dj (.prim .lst (He (bp 0) (bp 0) (bp 1400) (bp 1400) (bp 1401) (bp 1))) (.call 4 (eM aO (bp 6))))) (.seq (.ret (.prim .tup (uL (cA (.bin .Add) (bp 1) (.call 4 (eM aO (bp 3)))) bD (cA (.bin .Add) (bp 1) (.call 4 (eM aO (bp 4)))) bT dJ))) .pass)))))⟩
def F2:bo:=⟨4,4,(.seq (.ifs (.jT (fi .Eq (dZ .len bE) (bp 0)) (.eI (fi .Lt (dZ .len bE) bT) (fi .Eq (.call 4 (eM aO (bp 3))) (bp 0)))) (.seq (.expr (.fg .append bE (fA bD))) (.seq (.ret (cA (.bin .Add) bD (bp 1))) .pass)) .pass) (.seq (.ifs (fi .Eq (.call 4 (eM aO (bp 5))) (bp 0)) (.seq (.fc bE (.call 4 (eM aO (dZ .len bE))) bD) (.seq (.ret (cA (.bin .Add) bD (bp 1))) .pass)) .pass) (.seq (.ret bD) .pass)))⟩
structure ka(c:b7):Prop where
 good:w9 c=true
 l8:c.lm.length<=8
 u8:c.um.length<=8
theorem ka.mk'{lo up yr:Int}{lm um:List Int}(h1:1<=lo)(h2:lo<=99)(h3:1<=up)(h4:up<=99)(h5:0<=yr)(h6:yr<=9999)(h7:gm 0 lm=true)(h8:gm 0 um=true)(h9:lm.length<=8)(Hd:um.length<=8):ka ⟨lo,lm,up,um,yr⟩:=by
 refine⟨?_,h9,Hd⟩;simp only[w9,h7,h8,decide_eq_true h1,decide_eq_true h2,decide_eq_true h3,decide_eq_true h4,decide_eq_true h5,decide_eq_true h6]
 rfl
theorem ka.inv{c:b7}(h:ka c):(1<=c.lo/\c.lo<=99)/\gm 0 c.lm=true/\(1<=c.up/\c.up<=99)/\gm 0 c.um=true/\0<=c.yr/\c.yr<=9999:=by
 have:=h.good;unfold w9 at this;simp only[Bool.and_eq_true,decide_eq_true_eq] at this;obtain⟨⟨⟨a,b⟩,e⟩,⟨⟨c',d⟩,f⟩,p,q⟩:=this;exact⟨⟨a,b⟩,e,⟨c',d⟩,f,p,q⟩
def N8:List (List Int):=[[],[0],[0,1],[1],[0,1,2],[0,1,2,7],[2]]
theorem Tj:∀ms∈N8,gm 0 ms=true/\ms.length<=8:=by decide
theorem KH{r:Int}(h0:0<=r)(h7:r<7):∃ms,gI (N8.map λms=>D.tup (ms.map .int)) r=some (.tup (ms.map .int))/\gm 0 ms=true/\ms.length<=8:=by
 obtain⟨v,hv,hm⟩:=K3 (l:=N8.map λms=>D.tup (ms.map .int)) h0 (by simpa[N8] using h7);obtain⟨ms,h1,rfl⟩:=aP.mp hm;exact⟨ms,hv,Tj ms h1⟩
section
variable{T:Nat->Option bo}{d:Nat}
theorem aH5(h4:T 4=some E6)(OM:T 22=some zz)(D0:j6 g d)(h:∀c g',ka c->j6 g' d->Gr d g g'->Q c.d g'):d0 T (k+2) 22 [.ref d] g Q E:=by
 refine call_of OM rfl ?_;dsimp[zz,d8,List.replicate];have dl:=D0.lt;walk_at"";have D1:=D0.snoc (.lst (N8.map λms=>D.tup (ms.map .int)));have G1:=Gr.snoc d g (.lst (N8.map λms=>D.tup (ms.map .int)));have e1:(g++[O.lst (N8.map λms=>D.tup (ms.map .int))])[g.length]?=some (.lst (N8.map λms=>D.tup (ms.map .int))):=b8;show d0 _ _ _ _ (g++[O.lst (N8.map λms=>D.tup (ms.map .int))]) _ _;generalize g++[O.lst (N8.map λms=>D.tup (ms.map .int))]=g1 at *;refine i8 h4 D1 (by decide) (by decide) λr g2 r0 r1 D2 G2=>?_;walk_at"";have e2:=G2.at (by omega) e1;have hn:∃n:Int,gI [D.int 4,D.int 7] (if decide (r=0)=true then 1 else 0)=some (.int n)/\0<n/\n<=7:=by
  by_cases hr:r=0
  ·exact⟨7,by rw[az hr];rfl,by decide,by decide⟩
  ·exact⟨4,by rw[aK hr];rfl,by decide,by decide⟩
 obtain⟨n,en,n0,n7⟩:=hn;refine w6 en ?_;walk_at"";refine i8 h4 D2 n0 (by omega) λr3 g3 ja jk D3 G3=>?_;have e3:=G3.at (by omega) e2;obtain⟨lm,el,gl,ll⟩:=KH ja (by omega);refine q9 (a9 e3) el ?_;walk_at"";refine i8 h4 D3 (by decide) (by decide) λr4 g4 qZ tB D4 G4=>?_;have e4:=G4.at (by omega) e3;obtain⟨um,eu,gu,lu⟩:=KH qZ (by omega);refine q9 (a9 e4) eu ?_;walk_at"";have e5:(g4++[O.lst [.int 0,.int 0,.int 1400,.int 1400,.int 1401,.int 1]])[g4.length]?=some (.lst [.int 0,.int 0,.int 1400,.int 1400,.int 1401,.int 1]):=b8;refine i8 h4 (D4.snoc _) (by decide) (by decide) λr5 g5 lC lB D5 G5=>?_;have e6:=G5.at (by have:=D4.lt;omega) e5;obtain⟨v,hv,hm⟩:=K3 (l:=[D.int 0,.int 0,.int 1400,.int 1400,.int 1401,.int 1]) lC (by simpa using lB);have hy:∃y:Int,v=.int y/\0<=y/\y<=9999:=by
  simp only[List.mem_cons,List.mem_nil_iff,or_false] at hm;rcases hm with rfl|rfl|rfl|rfl|rfl|rfl<;>exact⟨_,rfl,by decide,by decide⟩
 obtain⟨y,rfl,y0,y1⟩:=hy;refine q9 (a9 e6) hv ?_;walk_at"";refine i8 h4 D5 (by decide) (by decide) λr6 g6 FN FL D6 G6=>?_;walk_at"";refine i8 h4 D6 (by decide) (by decide) λr7 g7 r70 r71 D7 G7=>?_;walk_at"";exact h ⟨1+r6,lm,1+r7,um,y⟩ _ (ka.mk' (by omega) (by omega) (by omega) (by omega) y0 y1 gl gu ll lu) D7 (G1.trans (G2.trans (G3.trans (G4.trans ((Gr.snoc _ _ _).trans (G5.trans (G6.trans G7)))))))
def DH(l:List D)(f:Int):Prop:=∃ns:List Int,l=ns.map .int/\∀n∈ns,1<=n/\n<f
theorem Zz(h4:T 4=some E6)(wa:T 23=some F2)(ha:g[a]?=some (.lst l))(hl:l.length<1000)(hs:DH l f)(f1:1<=f)(hd:d<a)(D0:j6 g d)(h:∀(l':List D) (f':Int) g',l'≠[]->l'.length<=l.length+1->DH l' f'->f<=f'->f'<=f+1->g'[a]?=some (.lst l')->j6 g' d->(∀i,i≠d->i≠a->i<g.length->g'[i]?=g[i]?)->g.length<=g'.length->Q (.int f') g'):d0 T (k+2) 23 [.ref d,.ref a,.int f,.int v] g Q E:=by
 refine call_of wa rfl ?_;have dl:=D0.lt;obtain⟨ns,rfl,rH⟩:=id hs;have app:∀g':G,g'[a]?=some (.lst (ns.map D.int))->j6 g' d->Gr d g g'->wpS (d0 T (k+1)) (.seq (.expr (.fg .append (.var 1) (.cons (.var 2) .nil))) (.seq (.ret (.prim (.bin .Add) (.cons (.var 2) (.cons (.lit (.int 1)) .nil)))) .pass)) ⟨λki g1=>wpS (d0 T (k+1)) (j8 F2.body) ⟨λ_ g'=>Q .cj g',Q,λ_ _=>False,λ_ _=>False⟩ ki g1 E,Q,λ_ _=>False,λ_ _=>False⟩ [some (.ref d),some (.ref a),some (.int f),some (.int v)] g' E:=by
  intro g' e D1 G1;walk_at"";refine P7 e (by simp at hl ⊢;omega) ?_;walk_at"";refine h _ _ _ (by simp) (by simp) ⟨ns++[f],by simp,λn hn=>?_⟩ (by omega) (by omega) (get_set e) (D1.J9 hd) (λi h1 h2 h3=>?_) (by simp[G1.len])
  ·rcases aU.mp hn with z|z
   ·have:=rH n z;omega
   ·simp at z;omega
  ·rw[ay (cc h2)];exact G1.old i h1 h3
 have rest:∀g':G,g'[a]?=some (.lst (ns.map D.int))->ns≠[]->j6 g' d->Gr d g g'->wpS (d0 T (k+1)) (j8 F2.body) ⟨λ_ g'=>Q .cj g',Q,λ_ _=>False,λ_ _=>False⟩ [some (.ref d),some (.ref a),some (.int f),some (.int v)] g' E:=by
  intro g' e fy D1 G1;dsimp[F2,j8];walk_at"";refine i8 h4 D1 (by decide) (by decide) λr g2 r0 r1 D2 G2=>?_;have e2:=G2.at (by omega) e;have hlen:0<ns.length:=Fo.mpr fy;walk_at"";refine if2 (λc=>?_) (λc=>?_)
  ·walk_at"";rw[aj];refine i8 h4 D2 (by omega) (by simp at hl;omega) λr3 g3 ja jk D3 G3=>?_;have e3:=G3.at (by omega) e2;have hj:lD (ns.map D.int).length r3=some r3.toNat:=by
    unfold lD;rw[aI ja,aI (by rw[aj];exact jk)]
   refine T9 e3 hj ?_;walk_at"";refine h _ _ _ (by simp[fy]) (by simp) ⟨ns.set r3.toNat f,by simp,λn hn=>?_⟩ (by omega) (by omega) (get_set e3) (D3.J9 hd) (λi h1 h2 h3=>?_) (by simp[((G1.trans G2).trans G3).len])
   ·rcases pN hn with z|z
    ·have:=rH n z;omega
    ·omega
   ·rw[ay (cc h2)];exact((G1.trans G2).trans G3).old i h1 h3
  ·walk_at"";exact h _ _ _ (by simp[fy]) (by simp) hs (by omega) (by omega) e2 D2 (λi h1 h2 h3=>(G1.trans G2).old i h1 h3) (G1.trans G2).len
 dsimp[F2,d8,List.replicate];walk_at"";refine if2 (λc=>?_) (λc=>?_)
 ·refine nJ ?_;exact app g ha D0 (Gr.refl _ _)
 ·have fy:ns≠[]:=λz=>c (by rw[z];rfl);walk_at"";refine if2 (λc2=>?_) (λc2=>?_)
  ·walk_at"";refine i8 h4 D0 (by decide) (by decide) λr g2 r0 r1 D2 G2=>?_;walk_at"";refine if2 (λc3=>?_) (λc3=>?_)
   ·exact app g2 (G2.at (by omega) ha) D2 G2
   ·walk_at "w1";exact rest g2 (G2.at (by omega) ha) fy D2 G2
  ·walk_at "w1";walk_at "w1";exact rest g ha fy D0 (Gr.refl _ _)
end
def F1:bo:=⟨3,17,(.seq (.set 3 (.prim .lst .nil)) (.seq (.set 4 (bp 1)) (.seq (.set 5 (.prim .W6 .nil)) (.seq (.set 6 (dj (.prim .lst (iR (bp 0) (bp 1) (bp 1350))) (.call 4 (eM aO (bp 3))))) (.seq (.set 7 (cA (.bin .Add) (bp 1) (.call 4 (eM aO (bp 96))))) (.seq (.set 8 (cA (.bin .Add) (bp 2) (.call 4 (eM aO (bp 4))))) (.seq (.set 9 (cA .max (bp 0) (cA (.bin .Sub) (.call 4 (eM aO (bp 9))) (bp 6)))) (.seq (.set 10 (.prim .lst .nil)) (.seq (.dP (.one 11) (.eV bE) (.seq (.set 4 (.call 23 (pP aO bT dJ bD))) (.seq (.set 12 (cA .tup (dj bT (.call 4 (eM aO (dZ .len bT)))) (cA (.bin .Add) (bp 50) (.call 4 (eM aO (cA (.bin .Add) (bp 2) bD)))))) (.seq (.dP (.one 13) (.fu lQ) (.seq (.ifs (fi .Eq (.call 4 (eM aO jK)) (bp 0)) (.seq (.set 14 (.call 4 (eM aO (bp 8)))) (.seq (.fc fh vp (dZ .tuple (.comp [13,14,5] 5 (.one 4) (.eV (bp 8)) (.jT (fi .Eq dJ bE) (fi .In dJ (.fg .get bD (eM aO (.prim .tup .nil))))) dJ))) .pass)) .pass) .pass)) (.seq (.ifs (fi .Eq (.call 4 (eM aO (bp 5))) (bp 0)) (.seq (.set 6 (cA .min (bp 9999) (cA (.bin .Add) (cA (.bin .Add) fN (bp 1)) (.call 4 (eM aO (bp 9)))))) .pass) .pass) (.seq (.set 15 (.comp [9,7] 4 (.one 3) (.fu lQ) .no (cA (.bin .Add) (cA (.bin .Add) (bp 1) aO) (cA (.bin .Mod) (cA (.bin .Mult) bT bE) (bp 97))))) (.seq (.set 16 (cA (.bin .Mult) fN (dZ .int (cA (.cmp .Gt) (.call 4 (eM aO (bp 4))) (bp 0))))) (.seq (.expr (.fg .append pV (fA (.prim .tup (uL (dj pU (bp 0)) (.fg .get fh (eM (dj lQ (bp 0)) (.prim .tup .nil))) (dj pU (bp 1)) (.fg .get fh (eM (dj lQ (bp 1)) (.prim .tup .nil))) vo))))) .pass)))))))) (.seq (.ret pV) .pass))))))))))⟩
def pE(kvs:List (Key×D)):Prop:=∀k v,u4 kvs k=some v->∃ms:List Int,v=.tup (ms.map .int)/\gm 0 ms=true/\ms.length<=8
theorem a07(kvs:List (Key×D))(k k':Key)(v:D):u4 (putD kvs k v) k'=if k'=k then some v else u4 kvs k':=by
 unfold putD;split
 ·rename_i mH;have go:∀l:List (Key×D),u4 (l.map λkv=>if kv.1=k then(kv.1,v) else kv) k'=if k'=k then(if(l.any λkv=>decide (kv.1=k))=true then some v else none) else u4 l k':=by
   intro l
   induction l with
   |nil=>simp[u4]
   |cons p r ih =>
    obtain⟨pk,pv⟩:=p;by_cases e:pk=k
    ·subst e;by_cases e2:k'=pk
     ·subst e2;simp[u4]
     ·have:¬pk=k':=λz=>e2 z.symm;unfold u4 at ih ⊢;simp[this,e2] at ih ⊢;exact ih
    ·by_cases e2:k'=k
     ·subst e2;unfold u4 at ih ⊢;rw[fV,show decide (pk=k')=false from aK e,qL];simp[e] at ih ⊢;exact ih
     ·unfold u4 at ih ⊢;simp only[List.map_cons,e,if_false,List.find?_cons];by_cases e3:pk=k'
      ·simp[e3,e2]
      ·simp[e3];simp[e2] at ih;simp[e2];exact ih
  rw[go,mH]
  rfl
 ·rename_i mH;unfold u4;rw[ly];by_cases e:k'=k
  ·subst e;have:kvs.find? (λkv=>decide (kv.1=k'))=none:=by
    rw[kI];intro x hx hd;exact mH (aV.mpr ⟨x,hx,hd⟩)
   rw[this];simp
  ·have:¬k=k':=λz=>e z.symm;simp[this,e]
theorem a36(kvs:List (Key×D))(k:Key)(v:D):(putD kvs k v).length<=kvs.length+1:=by
 unfold putD;split<;>simp
theorem pE.put{k:Key}(h:pE kvs)(h1:gm 0 ms=true)(h2:ms.length<=8):pE (putD kvs k (.tup (ms.map .int))):=λk' v hv=>by
 rw[a07] at hv;split at hv
 ·cases hv;exact⟨ms,rfl,h1,h2⟩
 ·exact h k' v hv
theorem pE.get(h:pE kvs)(k:Key):∃ms:List Int,(u4 kvs k).getD (.tup [])=.tup (ms.map .int)/\gm 0 ms=true/\ms.length<=8:=by
 cases e:u4 kvs k with
 |none=>exact⟨[],rfl,rfl,by simp⟩
 |some v=>obtain⟨ms,rfl,h1,h2⟩:=h k v e;exact⟨ms,rfl,h1,h2⟩
theorem YU(p:Int->Bool):gm 0 (((List.range 8).map λ(n:Nat)=>(n:Int)).filter p)=true/\(((List.range 8).map λ(n:Nat)=>(n:Int)).filter p).length<=8:=by
 refine⟨Iu (List.Pairwise.filter _ (by decide)) λm hm=>?_,aF (jw _ _) (by decide)⟩;have:=(bN.mp hm).1;revert this;revert m;intro m _ hm;simp at hm;obtain⟨a,ha,rfl⟩:=hm;omega
theorem List.YB{l:List α}{x:α}(h:l[i]?=some x):l.set i x=l:=by
 apply cz;intro j;by_cases e:i=j
 ·subst e;rw[aY (aw.mp h).1];exact h.symm
 ·rw[ay e]
section
variable{T:Nat->Option bo}{d:Nat}
def IM:MS:=match F1.body with
 |.seq _ (.seq _ (.seq _ (.seq _ (.seq _ (.seq _ (.seq _ (.seq _ (.seq (.dP _ _ (.seq _ (.seq _ (.seq (.dP _ _ b) _)))) _))))))))=>b
 |x=>x
theorem UP(h4:T 4=some E6){w0:Nat}{key wr:Int}{σ:S}(hw:g[w0]?=some (.dg kvs))(W:pE kvs)(hk:kvs.length<1000)(hr:0<wr)(pY:wr<1000)(hd:d<w0)(D0:j6 g d)(s0:σ[0]?=some (some (.ref d)))(s5:σ[5]?=some (some (.ref w0)))(s8:σ[8]?=some (some (.int wr)))(ML:σ[13]?=some (some (.int key)))(sl:σ.length=17)(h:∀z jb g',g'[w0]?=some (.dg jb)->pE jb->jb.length<=kvs.length+1->j6 g' d->(∀i,i≠d->i≠w0->i<g.length->g'[i]?=g[i]?)->g.length<=g'.length->N.nx (σ.set 14 z) g'):wpS (d0 T (k+1)) IM N σ g E:=by
 obtain⟨mT,Pq⟩:∃z,σ[14]?=some z:=⟨_,ao (by omega)⟩
 dsimp[IM,F1];refine R0 (LL (LO (Ig (Cu (wY (w_var s0 (wY (w_var s8 (Ei ?_)))))))));refine i8 h4 D0 hr (by omega) λr g2 r0 r1 D2 G2=>?_;have dl:=D0.lt;walk_at"";refine if2 (λc=>?_) (λc=>?_)
 ·refine yQ (yR (Cu (wY (w_var s0 (wY (w_lit (Ei ?_)))))));refine i8 h4 D2 (by decide) (by decide) λr3 g3 ja jk D3 G3=>?_;have e3:=(G2.trans G3).at (by omega) hw;have t0:(σ.set 14 (some (.int r3)))[0]?=some (some (.ref d)):=by rw[ay (by decide)];exact s0
  have t5:(σ.set 14 (some (.int r3)))[5]?=some (some (.ref w0)):=by rw[ay (by decide)];exact s5
  have Fy:(σ.set 14 (some (.int r3)))[13]?=some (some (.int key)):=by rw[ay (by decide)];exact ML
  have MF:(σ.set 14 (some (.int r3)))[14]?=some (some (.int r3)):=aY (by omega);obtain⟨ms,em,_,_⟩:=W.get (.inl key);refine R0 (Lc (Ie ?_));refine aK7 (b0 T _) (w_lit ⟨8,rfl,by decide,λi ys cI g'=>g'=g3/\ys.length<=i/\(∃z w,cI=[some (.int key),some (.int r3),some (.ref w0),z,w])/\ys=((((List.range i).map λ(n:Nat)=>(n:Int)).filter λs=>decide (s=r3)||ms.any λm=>m==s).map D.int),⟨rfl,by simp,⟨none,none,?_⟩,rfl⟩,λi ys σ g' p=>p.2.1,λi ys cI g' hi p=>?_,λys cI g' p=>?_⟩)
  ·simp[I9,Fy,MF,t5,List.replicate]
  ·obtain⟨rfl,hl,⟨z,w,rfl⟩,e⟩:=p;have er:(List.range (i+1)).map (λ(n:Nat)=>(n:Int))=(List.range i).map (λ(n:Nat)=>(n:Int))++[(i:Int)]:=by rw[ji];simp
   have yes:(decide ((i:Int)=r3)||ms.any λm=>m==(i:Int))=true->bh (d0 T (k+1)) (.var 4) [some (.int key),some (.int r3),some (.ref w0),z,some (.int i)] g' (λy g4=>g4=g'/\(ys++[y]).length<=i+1/\(∃z' w',[some (.int key),some (.int r3),some (.ref w0),z,some (D.int i)]=[some (.int key),some (.int r3),some (.ref w0),z',w'])/\(ys++[y])=((((List.range (i+1)).map λ(n:Nat)=>(n:Int)).filter λs=>decide (s=r3)||ms.any λm=>m==s).map D.int)) jZ:=λhc=>by
    walk_at"";refine⟨rfl,by simp;omega,⟨_,_,rfl⟩,?_⟩;rw[er,fq,eA,<- e];simp[hc]
   show dC _ _ _ _ _ _;walk_at"";refine if2 (λc1=>?_) (λc1=>?_)
   ·refine nJ ?_;exact yes (by rw[az c1];rfl)
   ·walk_at"";refine DV e3 (k:=.inl key) rfl ?_;rw[em];walk_at"";refine ue (Dm ?_);walk_at"";cases hc:(ms.any λm=>m==(i:Int)) with
    |true =>
     refine nJ ?_;exact yes (by rw[hc];simp)
    |false =>
     refine qu ?_;refine⟨rfl,by omega,⟨_,_,rfl⟩,?_⟩;rw[er,fq,eA,<- e];simp[hc,c1]
  ·obtain⟨rfl,hl,_,e⟩:=p;subst e;refine PZ (a9 b8) ?_;obtain⟨f1,f2⟩:=YU λs=>decide (s=r3)||ms.any λm=>m==s
   refine w_var t5 (w_var Fy ?_);refine Ec (p6 e3) (k:=.inl key) rfl (by omega) ?_;refine h _ _ _ (get_set (p6 e3)) (W.put f1 f2) (a36 _ _ _) ((D3.snoc _).J9 hd) (λi h1 h2 h3=>?_) ?_
   ·rw[ay (cc h2),aM (aA h3 (G2.trans G3).len)];exact(G2.trans G3).old i h1 h3
   ·have:=(G2.trans G3).len;simp;omega
 ·refine K9 ?_;have e2:=G2.at (by omega) hw;have:=h mT kvs g2 e2 W (by omega) D2 (λi h1 h2 h3=>G2.old i h1 h3) G2.len
  rwa [List.YB Pq] at this
end
section
variable{T:Nat->Option bo}{d:Nat}
def L3:MS:=match F1.body with
 |.seq _ (.seq _ (.seq _ (.seq _ (.seq _ (.seq _ (.seq _ (.seq _ (.seq (.dP _ _ b) _))))))))=>b
 |x=>x
structure jH(d s0 w0 f0 i:Nat)(g:G)(f y:Int):Prop where
 FD:∃l,g[s0]?=some (.lst l)/\DH l f/\l.length<=i
 fr:1<=f/\f<=1+i
 Mw:∃kvs,g[w0]?=some (.dg kvs)/\pE kvs/\kvs.length<=2*i
 found:∃cs:List b7,g[f0]?=some (.lst (cs.map b7.d))/\cs.length=i/\∀c∈cs,ka c
 year:0<=y/\y<=9999
 dr:j6 g d
theorem aG0{s0 w0 f0 n0:Nat}{n y st wr sh:Int}{xA Mv Mu Mt Ah Ag:Option D}(h4:T 4=some E6)(wa:T 23=some F2)(S:jH d s0 w0 f0 i g f y)(hi:i<=100)(hv:1<=v/\v<=100)(fx:1<=st/\st<=96)(jV:0<wr/\wr<1000)(ko:0<=sh/\sh<=2)(o1:d<n0)(o2:n0<=s0)(o3:s0<w0)(o4:w0<f0)(h:∀f' y' uK oo mT uJ uI g',jH d s0 w0 f0 (i+1) g' f' y'->(∀j,j≠d->j<n0->g'[j]?=g[j]?)->g.length<=g'.length->N.nx [some (.ref d),some (.int n),some (.int v),some (.ref s0),some (.int f'),some (.ref w0),some (.int y'),some (.int st),some (.int wr),some (.int sh),some (.ref f0),xA,uK,oo,mT,uJ,uI] g') :
  wpS (d0 T (k+2)) L3 N [some (.ref d),some (.int n),some (.int v),some (.ref s0),some (.int f),some (.ref w0),some (.int y),some (.int st),some (.int wr),some (.int sh),some (.ref f0),xA,Mv,Mu,Mt,Ah,Ag] g E:=by
 obtain⟨⟨l,es,hs,hl⟩,⟨f1,f2⟩,⟨kvs,ew,W,hk⟩,⟨cs,ef,hc,hg⟩,⟨y0,y1⟩,D0⟩:=S;have lf:=j7 ef;dsimp[L3,F1];walk_at"";refine Zz h4 wa es (by omega) hs f1 (by omega) D0 λl1 f' g1 fy jM Gx f3 f5 ic D1 oP gS=>?_;have Ho:g1[w0]?=some (.dg kvs):=(oP w0 (by omega) (by omega) (j7 ew)).trans ew;have Hu:g1[f0]?=some (.lst (cs.map b7.d)):=(oP f0 (by omega) (by omega) lf).trans ef;walk_at"";have gs:0<l1.length:=Fo.mpr fy;refine i8 (n:=(l1.length:Int)) h4 D1 (by omega) (by omega) λr2 g2 iM iL D2 G2=>?_;have nZ:=G2.at (by omega) ic;have Hn:=G2.at (by omega) Ho;have Ht:=G2.at (by omega) Hu;obtain⟨x,hx,hm⟩:=K3 (l:=l1) iM iL;obtain⟨ns,rfl,rH⟩:=id Gx;obtain⟨k1,lG,rfl⟩:=aP.mp hm;refine q9 (a9 nZ) hx ?_;walk_at"";refine i8 (n:=2+v) h4 D2 (by omega) (by omega) λr3 g3 ja jk D3 G3=>?_;have BZ:=G3.at (by omega) nZ;have Hm:=G3.at (by omega) Hn;have Cb:=G3.at (by omega) Ht;walk_at"";have kb1:=rH k1 lG;have va:∀j,j≠d->j<n0->g3[j]?=g[j]?:=λj a b=>by
  have lj:j<g.length:=by omega
  rw[G3.old j a (by have:=G2.len;(clear hi hv fx jV ko o1 hl f1 f2 hk hc y0 y1 f3 f5 iM jM gs iL ja jk kb1 a lj;omega)),G2.old j a (by omega),oP j a (by omega) lj]
 have iN:g.length<=g3.length:=by have:=G2.len;have:=G3.len;(clear hi hv fx jV ko o1 o2 o3 o4 hl f1 f2 hk hc y0 y1 lf f3 f5 iM jM gs iL ja jk kb1;omega)
 refine y9 (b0 T _) (vA (b0 T _) ?_);walk_at"";refine ⟨_,rfl,_,λj σ g'=>∃ jb oo mT,σ=[some (.ref d),some (.int n),some (.int v),some (.ref s0),some (.int f'),some (.ref w0),some (.int y),some (.int st),some (.int wr),some (.int sh),some (.ref f0),xA,some (.tup [.int k1,.int (50 + r3)]),oo,mT,Ah,Ag]/\g'[w0]?=some (.dg jb)/\pE jb/\jb.length <= 2 * i + j/\j6 g' d/\(∀ j,j ≠ d->j ≠ w0->j < g3.length->g'[j]?=g3[j]?)/\g3.length <= g'.length,
  λ_ _ _ _=>u9,⟨kvs,_,_,rfl,Hm,W,by omega,D3,λ_ _ _ _=>rfl,av _⟩,λj x σ g' hx p=>?_,λσ g' p=>?_⟩
 ·obtain⟨jb,oo,mT,rfl,Pe,W',oA,D',Ay,vm⟩:=p;have gw:∃key:Int,x=.int key/\j<2:=by
   match j,hx with
   |0,hx=>cases hx;exact⟨_,rfl,by decide⟩
   |1,hx=>cases hx;exact⟨_,rfl,by decide⟩
   |j+2,hx=>simp at hx
  obtain⟨key,rfl,hj⟩:=gw;show wpS _ _ _ _ _ _;refine UP (k:=k+1) h4 Pe W' (by(clear hv fx jV ko o1 o2 o3 o4 hl f1 f2 hk y0 y1 lf f3 f5 gS iM jM gs iL ja jk kb1 iN vm;omega)) jV.1 jV.2 (by omega) D' rfl rfl rfl rfl rfl λz AG g2' e2 W2 kq D2' rq vk=>?_;exact⟨AG,_,_,rfl,e2,W2,by(clear hi hv fx jV ko o1 o2 o3 o4 hl f1 f2 hk y0 y1 lf f3 f5 gS iM jM gs iL ja jk kb1 iN vm hj vk;omega),D2',λj a b c=>(rq j a b (by omega)).trans (Ay j a b c),by(clear hi hv fx jV ko o1 o2 o3 o4 hl f1 f2 hk hc y0 y1 lf f3 f5 gS iM jM gs iL ja jk kb1 iN oA hj kq;omega)⟩
 obtain⟨vq,oo,mT,rfl,Pd,W4,jd,D4,oO,jB⟩:=p;have Pk:g'[s0]?=some (.lst (ns.map D.int)):=(oO s0 (by omega) (by omega) (j7 BZ)).trans BZ;have Pn:g'[f0]?=some (.lst (cs.map b7.d)):=(oO f0 (by omega) (by omega) (j7 Cb)).trans Cb;have uZ:∀j,j≠d->j<n0->g'[j]?=g[j]?:=λj a b=>(oO j a (by omega) (by(clear hi hv fx jV ko o1 hl f1 f2 hk hc y0 y1 f3 f5 gS iM jM gs iL ja jk kb1 jd jB a;omega))).trans (va j a b);clear oO va G2 G3 ic Ho Hu nZ Hn Ht BZ Hm Cb oP;have jd:vq.length<=2*(i+1):=by simp at jd;(clear hi hv fx jV ko o1 o2 o3 o4 hl f1 f2 hk y0 y1 lf f3 f5 gS iM jM gs iL ja jk kb1 iN jB;omega)
 show wpS _ _ _ _ _ _;walk_at"";refine i8 h4 D4 (by decide) (by decide) λr5 g5 lC lB D5 G5=>?_;walk_at"";have tail:∀(y':Int) (g6:G),0<=y'->y'<=9999->j6 g6 d->Gr d g' g6->wpS (d0 T (k+2)) (j8 (j8 (j8 (j8 L3)))) N [some (.ref d),some (.int n),some (.int v),some (.ref s0),some (.int f'),some (.ref w0),some (.int y'),some (.int st),some (.int wr),some (.int sh),some (.ref f0),xA,some (.tup [.int k1,.int (50+r3)]),oo,mT,Ah,Ag] g6 E:=by
  intro y' g6 mV mU D6 G6;have Pj:=G6.at (by omega) Pk;have Pc:=G6.at (by omega) Pd;have yx:=G6.at (by omega) Pn;dsimp[L3,F1,j8];walk_at"";refine aK6 (b0 T _) ?_;walk_at"";refine⟨_,rfl,by simp,λj ys σ g7=>g7=g6/\(∃z w,σ=[some (.int sh),some (.int st),z,w])/\ys=([k1,50+r3].take j).map (λkey=>D.int (1+sh+key*st % 97)),⟨rfl,⟨none,none,rfl⟩,rfl⟩,λj ys σ g7 p=>?_,λj x ys σ g7 hx p=>?_,λys σ g7 p=>?_⟩
  ·obtain⟨rfl,_,rfl⟩:=p;simp;omega
  ·obtain⟨rfl,⟨z,w,rfl⟩,rfl⟩:=p;have gw:∃key:Int,x=.int key/\([k1,50+r3].take j).map (λkey=>D.int (1+sh+key*st % 97))++[D.int (1+sh+key*st % 97)]=([k1,50+r3].take (j+1)).map (λkey=>D.int (1+sh+key*st % 97)):=by
    match j,hx with
    |0,hx=>cases hx;exact⟨_,rfl,rfl⟩
    |1,hx=>cases hx;exact⟨_,rfl,rfl⟩
    |j+2,hx=>simp at hx
   obtain⟨key,rfl,he⟩:=gw;show dC _ _ _ _ _ _;walk_at"";refine Q2 (Y6 (by omega) (by omega)) ?_;walk_at"";exact⟨rfl,⟨_,_,rfl⟩,he⟩
  obtain⟨rfl,_,rfl⟩:=p;have eN:(g7++[O.lst [D.int (1+sh+k1*st % 97),D.int (1+sh+(50+r3)*st % 97)]])[g7.length]?=some (.lst [D.int (1+sh+k1*st % 97),D.int (1+sh+(50+r3)*st % 97)]):=b8;show wpS _ _ _ _ (g7++[O.lst [D.int (1+sh+k1*st % 97),D.int (1+sh+(50+r3)*st % 97)]]) _;walk_at"";refine i8 h4 (D6.snoc _) (by decide) (by decide) λr8 g8 nC nB D8 G8=>?_;have l7:=D6.lt;have eN8:=G8.at (by omega) eN;have Ph:=G8.at (by omega) (p6 Pj);have BY:=G8.at (by omega) (p6 Pc);have Hs:=G8.at (by omega) (p6 yx);walk_at"";refine Q2 (Er (by omega) (by omega)) ?_;walk_at"";obtain⟨lm,el,gl,ll⟩:=W4.get (.inl k1);obtain⟨um,eu,gu,lu⟩:=W4.get (.inl (50+r3));refine DV BY (k:=.inl k1) rfl ?_;rw[el];walk_at"";refine DV BY (k:=.inl (50+r3)) rfl ?_;rw[eu];walk_at"";refine P7 Hs (by simp;omega) ?_;generalize jW:y'*(if decide (0<r8)=true then 1 else 0)=ty;have mx:0<=ty/\ty<=9999:=by
   rw[<- jW];split<;>simp<;>omega
  walk_at"";refine h f' y' _ _ _ _ _ _ ⟨⟨_,d4 Ph (by omega),Gx,by(clear hi hv fx jV ko o1 o2 o3 o4 f1 f2 hk y0 y1 lf f3 f5 gS iM gs iL ja jk kb1 iN jB jd lC lB mV mU nC nB l7 ll lu jW mx;omega)⟩,⟨by omega,by(clear hi hv fx jV ko o1 o2 o3 o4 hl f1 hk y0 y1 lf gS iM jM gs iL ja jk kb1 iN jB jd lC lB mV mU nC nB l7 ll lu jW mx;omega)⟩,⟨vq,d4 BY (by omega),W4,jd⟩,⟨cs++[⟨1+sh+k1*st % 97,lm,1+sh+(50+r3)*st % 97,um,ty⟩],?_,by simp[hc],?_⟩,⟨mV,mU⟩,D8.J9 (by omega)⟩ (λj a b=>?_) ?_
  ·rw[get_set Hs];simp[b7.d]
  ·intro c jF;rcases aU.mp jF with z|z
   ·exact hg c z
   ·simp at z;subst z;have m1:=fk (k1*st) (show(97:Int)≠0 by decide);have m2:=dW (k1*st) (show(0:Int)<97 by decide);have m3:=fk ((50+r3)*st) (show(97:Int)≠0 by decide);have m4:=dW ((50+r3)*st) (show(0:Int)<97 by decide);exact ka.mk' (by(clear hi hv fx jV o1 o2 o3 o4 hl f1 f2 hk hc y0 y1 lf f3 f5 gS iM jM gs iL ja jk kb1 iN jB jd lC lB mV mU nC nB l7 ll lu jW mx m2 m3 m4;omega)) (by(clear hi hv fx jV o1 o2 o3 o4 hl f1 f2 hk hc y0 y1 lf f3 f5 gS iM jM gs iL ja jk kb1 iN jB jd lC lB mV mU nC nB l7 ll lu jW mx m2 m3 m4;omega)) (by(clear hi hv fx jV o1 o2 o3 o4 hl f1 f2 hk hc y0 y1 lf f3 f5 gS iM jM gs iL ja jk kb1 iN jB jd lC lB mV mU nC nB l7 ll lu jW mx m1 m2 m4;omega)) (by(clear hi hv fx jV o1 o2 o3 o4 hl f1 f2 hk hc y0 y1 lf f3 f5 gS iM jM gs iL ja jk kb1 iN jB jd lC lB mV mU nC nB l7 ll lu jW mx m1 m2 m4;omega)) mx.1 mx.2 gl gu ll lu
  ·have lj:j<g'.length:=by(clear hi hv fx jV ko o1 hl f1 f2 hk hc y0 y1 f3 f5 gS iM jM gs iL ja jk kb1 jd lC lB mV mU nC nB l7 ll lu jW mx a;omega)
   rw[ay (by(clear hi hv fx jV ko o1 hl f1 f2 hk hc y0 y1 lf f3 f5 gS iM jM gs iL ja jk kb1 iN jB jd lC lB mV mU nC nB l7 ll lu jW mx a lj;omega)),G8.old j a (by have:=G6.len;simp;(clear hi hv fx jV ko o1 o2 o3 o4 hl f1 f2 hk hc y0 y1 lf f3 f5 gS iM jM gs iL ja jk kb1 iN jB jd lC lB mV mU nC nB l7 ll lu jW mx a b;omega)),aM (by have:=G6.len;(clear hi hv fx jV ko o1 o2 o3 o4 hl f1 f2 hk hc y0 y1 lf f3 f5 gS iM jM gs iL ja jk kb1 iN jB jd lC lB mV mU nC nB l7 ll lu jW mx a b;omega)),G6.old j a lj];exact uZ j a b
  ·have:=G6.len;have:=G8.len;simp at this ⊢
   (clear hi hv fx jV ko o1 o2 o3 o4 hl f1 f2 hk hc y0 y1 lf f3 f5 gS iM jM gs iL ja jk kb1 jd lC lB mV mU nC nB l7 ll lu jW mx;omega)
 refine if2 (λc=>?_) (λc=>?_)
 ·walk_at"";refine i8 h4 D5 (by decide) (by decide) λr6 g6 FN FL D6 G6=>?_;walk_at"";generalize AM:(if y+1+r6<9999 then y+1+r6 else 9999)=y';have:0<=y'/\y'<=9999:=by rw[<- AM];split<;>omega
  exact tail y' g6 this.1 this.2 D6 (G5.trans G6)
 ·refine K9 ?_;exact tail y g5 y0 y1 D5 G5
theorem ZD(h4:T 4=some E6)(wa:T 23=some F2)(OL:T 24=some F1){n:Int}(hn:0<=n/\n<=100)(hv:1<=v/\v<=100)(D0:j6 g d)(h:∀(cs:List b7) a g',(cs.length:Int)=n->(∀c∈cs,ka c)->g'[a]?=some (.lst (cs.map b7.d))->g.length<=a->j6 g' d->Gr d g g'->Q (.ref a) g'):d0 T (k+3) 24 [.ref d,.int n,.int v] g Q E:=by
 refine call_of OL rfl ?_;dsimp[F1,d8,List.replicate];have dl:=D0.lt;walk_at"";have D1:j6 (g++[O.lst []]++[O.dg []]++[O.lst [.int 0,.int 1,.int 1350]]) d:=((D0.snoc _).snoc _).snoc _;have G1:Gr d g (g++[O.lst []]++[O.dg []]++[O.lst [.int 0,.int 1,.int 1350]]):=((Gr.snoc _ _ _).trans (Gr.snoc _ _ _)).trans (Gr.snoc _ _ _);have e0:(g++[O.lst []]++[O.dg []]++[O.lst [.int 0,.int 1,.int 1350]])[g.length]?=some (.lst []):=p6 (p6 b8);have e1:(g++[O.lst []]++[O.dg []]++[O.lst [.int 0,.int 1,.int 1350]])[(g++[O.lst []]).length]?=some (.dg []):=p6 b8;have e2:(g++[O.lst []]++[O.dg []]++[O.lst [.int 0,.int 1,.int 1350]])[(g++[O.lst []]++[O.dg []]).length]?=some (.lst [.int 0,.int 1,.int 1350]):=b8;have n1:(g++[O.lst []]).length=g.length+1:=by simp
 have n2:(g++[O.lst []]++[O.dg []]).length=g.length+2:=by simp
 rw[n1] at e1 ⊢;rw[n2] at e2 ⊢;generalize g++[O.lst []]++[O.dg []]++[O.lst [.int 0,.int 1,.int 1350]]=g1 at *;refine i8 h4 D1 (by decide) (by decide) λr2 g2 iM iL D2 G2=>?_;have Pw:=G2.at (by omega) e0;have pA:=G2.at (by omega) e1;have Pp:=G2.at (by omega) e2;obtain⟨x,hx,hm⟩:=K3 (l:=[D.int 0,.int 1,.int 1350]) iM (by simpa using iL);have hy:∃y:Int,x=.int y/\0<=y/\y<=9999:=by
  simp only[List.mem_cons,List.mem_nil_iff,or_false] at hm;rcases hm with rfl|rfl|rfl<;>exact⟨_,rfl,by decide,by decide⟩
 obtain⟨y,rfl,y0,y1⟩:=hy;refine q9 (a9 Pp) hx ?_;walk_at"";refine i8 h4 D2 (by decide) (by decide) λr3 g3 ja jk D3 G3=>?_;walk_at"";refine i8 h4 D3 (by decide) (by decide) λr4 g4 qZ tB D4 G4=>?_;walk_at"";refine i8 h4 D4 (by decide) (by decide) λr5 g5 lC lB D5 G5=>?_;have zT:=G3.trans (G4.trans G5);have Pu:=zT.at (by omega) Pw;have Hw:=zT.at (by omega) pA;have l5:=(G1.trans (G2.trans zT)).len;have lw:=j7 Hw;walk_at"";generalize ko:(if r5-6>0 then r5-6 else 0)=sh;have FC:0<=sh/\sh<=2:=by rw[<- ko];split<;>omega
 have yy:(g5++[O.lst []])[g5.length]?=some (.lst []):=b8;refine y9 (b0 T _) (pI (b0 T _) ?_);walk_at"";refine ⟨by omega,by omega,l9 0 n.toNat,λi σ g'=>∃ f' y' Ac uK oo mT uJ uI,σ=[some (.ref d),some (.int n),some (.int v),some (.ref g.length),some (.int f'),some (.ref (g.length + 1)),some (.int y'),some (.int (1 + r3)),some (.int (2 + r4)),some (.int sh),some (.ref g5.length),Ac,uK,oo,mT,uJ,uI]/\jH d g.length (g.length + 1) g5.length i g' f' y'/\Gr d g g',
  λ_ _ _ _=>u9,⟨1,y,none,none,none,none,none,none,rfl,⟨⟨[],p6 Pu,⟨[],rfl,by simp⟩,by simp⟩,⟨by omega,by omega⟩,⟨[],p6 Hw,(λk v hv=>by cases hv),by simp⟩,⟨[],yy,rfl,by simp⟩,⟨y0,y1⟩,D5.snoc _⟩,(G1.trans (G2.trans zT)).trans (Gr.snoc _ _ _)⟩,λi x σ g' hx p=>?_,λσ g' p=>?_⟩
 ·obtain⟨f',y',Ac,uK,oo,mT,uJ,uI,rfl,S,G'⟩:=p;obtain⟨hi,rfl⟩:=A5 hx;show wpS _ L3 _ _ _ _;refine aG0 (n0:=g.length) h4 wa S (by omega) hv ⟨by omega,by omega⟩ ⟨by omega,by omega⟩ FC dl (av _) (by omega) (by omega) λf2 y2 a b c e f g2 S2 rq vk=>?_;exact⟨f2,y2,_,_,_,_,_,_,rfl,S2,⟨by have:=G'.len;(clear hn hv dl iM iL y0 y1 ja jk qZ tB lC lB l5 lw ko FC hi;omega),λj h1 h2=>(rq j h1 h2).trans (G'.old j h1 h2)⟩⟩
 ·obtain⟨f',y',Ac,uK,oo,mT,uJ,uI,rfl,S,G'⟩:=p;show wpS _ _ _ _ _ _;walk_at"";obtain⟨cs,ef,hc,hg⟩:=S.found;rw[n5] at hc;exact h cs _ _ (by omega) hg ef (by omega) S.dr G'
end
def zp:bo:=⟨2,8,(.seq (.set 2 (cA .kR (bp 1) (cA (.bin .Add) (cA (.bin .Add) (cA (.bin .FloorDiv) bE (bp 2)) (cA (.bin .Mod) bE (bp 2))) (bp 1)))) (.seq (.set 3 (cA (.bin .Add) bD (cA (.ot false true) (.call 21 (eM aO bD)) (cA (.bin .FloorDiv) bE (bp 2))))) (.seq (.set 4 (.call 4 (eM aO (bp 3)))) (.seq (.set 5 (.prim .lst .nil)) (.seq (.dP (.one 6) (.eV bE) (.seq (.set 7 (dj (.prim .lst (iR (cA (.bin .Add) (bp 1000) fN) (bp 0) (cA (.bin .Add) (bp 1) (cA (.bin .FloorDiv) (cA (.bin .Mult) (bp 2) fN) (cA .max (bp 1) bE))))) dJ)) (.seq (.expr (.fg .append fh (fA (.prim .tup (uL (dj bT fN) (.prim .tup .nil) (cA (.bin .Add) (bp 1) (.call 4 (eM aO (bp 9)))) (.prim .tup .nil) gH))))) .pass))) (.seq (.ret fh) .pass))))))⟩
def P8:bo:=⟨2,9,(.seq (.set 2 (.call 4 (eM aO (cA (.bin .Add) bE (bp 1))))) (.seq (.set 3 (cA (.bin .Add) (bp 1) (.call 4 (eM aO (bp 3))))) (.seq (.set 4 (.call 4 (eM aO (bp 5)))) (.seq (.ifs (fi .Eq dJ (bp 0)) (.seq (.ret (cA .tup (.comp [0] 3 (.one 2) (.eV bD) .no (.call 22 (fA aO))) bT)) .pass) .pass) (.seq (.ifs (fi .Eq dJ (bp 4)) (.seq (.set 3 (cA (.bin .Add) (bp 1) (.call 4 (eM aO (bp 6))))) .pass) .pass) (.seq (.set 5 (.ite (fi .Eq dJ (bp 4)) (.call 25 (eM aO bD)) (.call 24 (iR aO bD bT)))) (.seq (.set 5 (.comp [5] 3 (.one 2) (.fu (.call 21 (eM aO (dZ .jU bD)))) .no (dj aO bD))) (.seq (.ifs (.eI (fi .Eq dJ (bp 1)) (fi .Gt bD (bp 0))) (.seq (.set 6 (.call 4 (eM aO bD))) (.seq (.set 7 (dj fh fN)) (.seq (.set 8 (dj fh (.call 4 (eM aO bD)))) (.seq (.fc fh fN (.prim .tup (uL (dj gH (bp 0)) (dj jK (bp 1)) (dj jK (bp 2)) (dj gH (bp 3)) (dj (.prim .lst (iR (dj gH (bp 4)) (dj jK (bp 4)) (bp 9999))) (.call 4 (eM aO (bp 3))))))) .pass)))) .pass) (.seq (.ifs (fi .Eq dJ (bp 2)) (.seq (.set 3 (bp 1)) .pass) .pass) (.seq (.ret (cA .tup fh bT)) .pass))))))))))⟩
theorem KA{p:Int->Prop}:∀{l:List D},(∀x∈l,∃i:Int,x=.int i/\p i)->∃ns:List Int,l=ns.map .int/\∀i∈ns,p i
 |[],_=>⟨[],rfl,by simp⟩
 |x::r,h=>by
  obtain⟨i,rfl,hi⟩:=h x (by simp);obtain⟨ns,rfl,hn⟩:=KA (l:=r) λy hy=>h y (by simp[hy]);exact⟨i::ns,rfl,λj hj=>(aH.mp hj).elim (λz=>z▸hi) (hn j)⟩
theorem KS{lo:Int}(h:x∈l9 lo n):∃i:Int,x=.int i/\lo<=i/\i<lo+n:=by
 unfold l9 at h;obtain⟨k,hk,rfl⟩:=aP.mp h;exact⟨_,rfl,by omega,by have:=bq.mp hk;omega⟩
theorem Qm{l:List α}(h:n<=l.length):cut l none (some (n:Int))=l.take n:=by
 have:¬((n:Int)<0):=by omega
 unfold cut HT.dX;simp[this]
theorem SS{r:Int}(h0:0<=r)(h1:r<ns.length):∃i∈ns,gI (ns.map D.int) r=some (.int i):=by
 obtain⟨v,hv,hm⟩:=K3 (l:=ns.map D.int) h0 (by simpa using h1);obtain⟨i,hi,rfl⟩:=aP.mp hm;exact⟨i,hi,hv⟩
theorem CU{r:Int}(h0:0<=r)(h1:r<cs.length):∃c∈cs,gI (cs.map b7.d) r=some c.d:=by
 obtain⟨v,hv,hm⟩:=K3 (l:=cs.map b7.d) h0 (by simpa using h1);obtain⟨i,hi,rfl⟩:=aP.mp hm;exact⟨i,hi,hv⟩
section
variable{T:Nat->Option bo}{d:Nat}
theorem Zj(h4:T 4=some E6)(BC:T 21=some R9)(OK:T 25=some zp){n:Int}(hn:0<=n/\n<=100)(D0:j6 g d)(h:∀(cs:List b7) a g',(cs.length:Int)=n->(∀c∈cs,ka c)->g'[a]?=some (.lst (cs.map b7.d))->g.length<=a->j6 g' d->Gr d g g'->Q (.ref a) g'):d0 T (k+3) 25 [.ref d,.int n] g Q E:=by
 refine call_of OK rfl ?_;dsimp[zp,d8,List.replicate];have dl:=D0.lt;walk_at"";refine Nh (i:=1) (j:=n / 2+n % 2+1) (by omega) ?_;walk_at"";have hh:∃hf:Nat,(n / 2+n % 2+1-1).toNat=hf/\(hf:Int)=n / 2+n % 2/\hf<=50:=⟨_,rfl,by omega,by omega⟩
 obtain⟨hf,Bj,GI,oW⟩:=hh;rw[Bj];have e1:(g++[O.lst (l9 1 hf)])[g.length]?=some (.lst (l9 1 hf)):=b8;refine JM h4 BC e1 (by rw[n5];omega) (by omega) (D0.snoc _) λl' b g2 hp e2 hb D2 G2=>?_;have pA:=G2.at (by omega) e1;walk_at"";refine Ko (a9 e2) ?_;have hle:l'.length=hf:=by rw[hp.length_eq,n5]
 have hc:cut l' none (some (n / 2))=l'.take (n / 2).toNat:=by
  have:=Qm (l:=l') (n:=(n / 2).toNat) (by omega)
  rwa [show(((n / 2).toNat:Nat):Int)=n / 2 by omega] at this
 rw[hc];refine DL (p6 pA) b8 (by rw[n5,cT];omega) ?_;obtain⟨rl,er,hr⟩:=KA (p:=λi=>1<=i/\i<=50) (l:=l9 1 hf++l'.take (n / 2).toNat) λx hx=>by
  have pW:x∈l9 1 hf:=by
   rcases aU.mp hx with z|z
   ·exact z
   ·exact hp.mem_iff.mp (dy z)
  obtain⟨i,rfl,h1,h2⟩:=KS pW;exact⟨i,rfl,h1,by omega⟩
 have hrl:(rl.length:Int)=n:=by
  have:=fX List.length er;rw[bj,n5,cT,aj] at this;omega
 rw[er];have D3:=(D2.snoc (.lst (l'.take (n / 2).toNat))).snoc (.lst (rl.map D.int));have G3:=(Gr.snoc d g (.lst (l9 1 hf))).trans (G2.trans ((Gr.snoc d g2 (.lst (l'.take (n / 2).toNat))).trans (Gr.snoc d _ (.lst (rl.map D.int)))));have e3:(g2++[O.lst (l'.take (n / 2).toNat)]++[O.lst (rl.map D.int)])[(g2++[O.lst (l'.take (n / 2).toNat)]).length]?=some (.lst (rl.map D.int)):=b8;have l3:g.length+1<=(g2++[O.lst (l'.take (n / 2).toNat)]).length:=by have:=G2.len;simp at this ⊢;omega
 generalize (g2++[O.lst (l'.take (n / 2).toNat)]).length=FF at *;generalize g2++[O.lst (l'.take (n / 2).toNat)]++[O.lst (rl.map D.int)]=g3 at *;walk_at"";refine i8 h4 D3 (by decide) (by decide) λr4 g4 qZ tB D4 G4=>?_;have e4:=G4.at (by omega) e3;walk_at"";have Mb:=G3.trans G4;have l4:=Mb.len;have e5:(g4++[O.lst []])[g4.length]?=some (.lst ([].map b7.d)):=b8;have Ge:=j7 e4;refine y9 (b0 T _) (pI (b0 T _) ?_);walk_at"";refine ⟨by omega,by omega,l9 0 n.toNat,λi σ g'=>∃ cs z6 z7,σ=[some (.ref d),some (.int n),some (.ref g.length),some (.ref FF),some (.int r4),some (.ref g4.length),z6,z7]/\cs.length=i/\(∀ c ∈ cs,ka c)/\g'[g4.length]?=some (.lst (cs.map b7.d))/\g'[FF]?=some (.lst (rl.map D.int))/\j6 g' d/\Gr d g g',
  λ_ _ _ _=>u9,⟨[],none,none,rfl,rfl,by simp,e5,p6 e4,D4.snoc _,Mb.trans (Gr.snoc _ _ _)⟩,λi x σ g' hx p=>?_,λσ g' p=>?_⟩
 ·obtain⟨cs,z6,z7,rfl,hc,hg,ef,erw,D',G'⟩:=p;obtain⟨hi,rfl⟩:=A5 hx;show wpS _ _ _ _ _ _;walk_at"";refine Q2 (Er (by decide) (by decide)) ?_;walk_at"";refine yC ⟨by split<;>omega,by split<;>omega⟩ ?_;walk_at"";obtain⟨yv,hy,AJ⟩:∃yv:Int,gI [D.int (1000+(0+(i:Int))),D.int 0,D.int (1+2*(0+(i:Int)) / (if n>1 then n else 1))] r4=some (.int yv)/\0<=yv/\yv<=9999:=by
   have dv0:0<=2*(0+(i:Int)) / (if n>1 then n else 1):=Int.ediv_nonneg (by omega) (by split<;>omega);have dv1:2*(0+(i:Int)) / (if n>1 then n else 1)<=2*(0+(i:Int)):=Int.ediv_le_self _ (by omega);have:r4=0\/r4=1\/r4=2:=by omega
   rcases this with rfl|rfl|rfl
   ·exact⟨_,rfl,by omega,by(clear dl Bj oW hb l3 l4 Ge hc qZ tB;omega)⟩
   ·exact⟨_,rfl,by omega,by omega⟩
   ·exact⟨_,rfl,by omega,by omega⟩
  refine q9 (a9 b8) hy ?_;walk_at"";obtain⟨lo,qb,Bc⟩:=SS (ns:=rl) (r:=0+(i:Int)) (by omega) (by(clear hn dl Bj oW hb l3 qZ tB l4 Ge AJ;omega));have lf:=j7 ef;refine And.intro (Y0 (p6 ef)) ?_;walk_at"";refine q9 (a9 (p6 erw)) Bc ?_;walk_at"";refine i8 h4 (D'.snoc _) (by decide) (by decide) λr6 g6 FN FL D6 G6=>?_;have yx:=G6.at (by omega) (p6 ef);have Pl:=G6.at (by omega) (p6 erw);walk_at"";refine P7 yx (by simp;omega) ?_;walk_at"";have hlb:=hr lo qb;refine⟨cs++[⟨lo,[],1+r6,[],yv⟩],_,_,rfl,by simp[hc],?_,?_,d4 Pl (by omega),D6.J9 (by omega),(G'.trans ((Gr.snoc _ _ _).trans G6)).J9 (by omega)⟩
  ·intro c jF;rcases aU.mp jF with z|z
   ·exact hg c z
   ·simp at z;subst z;exact ka.mk' (by omega) (by omega) (by omega) (by omega) AJ.1 AJ.2 rfl rfl (by simp) (by simp)
  ·rw[get_set yx];simp[b7.d]
 ·obtain⟨cs,z6,z7,rfl,hc,hg,ef,erw,D',G'⟩:=p;show wpS _ _ _ _ _ _;walk_at"";rw[n5] at hc;exact h cs _ _ (by omega) hg ef (by omega) D' G'
end
section
variable{T:Nat->Option bo}{d:Nat}
structure LF(T:Nat->Option bo):Prop where
 pull:T 4=some E6
 order:T 21=some R9
 any:T 22=some zz
 qV:T 23=some F2
 qS:T 24=some F1
 opened:T 25=some zp
 list:T 26=some P8
theorem ZW(hT:LF T){n:Int}(hn:0<=n/\n<=99)(D0:j6 g d)(h:∀(cs:List b7) a (v:Int) g',(cs.length:Int)<=n->(∀c∈cs,ka c)->g'[a]?=some (.lst (cs.map b7.d))->g.length<=a->1<=v->v<=6->j6 g' d->Gr d g g'->Q (.tup [.ref a,.int v]) g'):d0 T (k+4) 26 [.ref d,.int n] g Q E:=by
 refine call_of hT.list rfl ?_;dsimp[P8,d8,List.replicate];have dl:=D0.lt;walk_at"";refine i8 (n:=n+1) hT.pull D0 (by omega) (by omega) λm g1 m0 m1 D1 G1=>?_;walk_at"";refine i8 hT.pull D1 (by decide) (by decide) λr2 g2 iM iL D2 G2=>?_;walk_at"";refine i8 hT.pull D2 (by decide) (by decide) λway g3 w0 w1 D3 G3=>?_;have zU:=G1.trans (G2.trans G3);have l3:=zU.len;walk_at"";refine if2 (λc=>?_) (λc=>?_)
 ·walk_at"";refine L0 (b0 T _) (pI (b0 T _) ?_);walk_at"";refine⟨by omega,by omega,l9 0 m.toNat,λi ys σ g'=>∃cs z1 z2,ys=cs.map b7.d/\cs.length=i/\(∀c∈cs,ka c)/\σ=[some (.ref d),z1,z2]/\j6 g' d/\Gr d g g',by rw[n5];omega,λi ys σ g' p=>⟨u9,?_⟩,⟨[],none,none,rfl,rfl,by simp,rfl,D3,zU⟩,λi x ys σ g' hx p=>?_,λys σ g' p=>?_⟩
  ·obtain⟨cs,z1,z2,rfl,hc,_⟩:=p;simp[hc]
  ·obtain⟨cs,z1,z2,rfl,hc,hg,rfl,D',G'⟩:=p;show dC _ _ _ _ _ _;walk_at"";refine aH5 hT.pull hT.any D' λc0 g4 gc D4 G4=>?_;refine⟨cs++[c0],_,_,by simp,by simp[hc],λc1 rQ=>?_,rfl,D4,G'.trans G4⟩;rcases aU.mp rQ with z|z
   ·exact hg c1 z
   ·simp at z;subst z;exact gc
  ·obtain⟨cs,z1,z2,rfl,hc,hg,rfl,D',G'⟩:=p;rw[n5] at hc;walk_at"";exact h cs _ _ _ (by omega) hg b8 G'.len (by omega) (by omega) (D'.snoc _) (G'.trans (Gr.snoc _ _ _))
 have tail:∀(v:Int) (g4:G),1<=v->v<=6->j6 g4 d->Gr d g g4->wpS (d0 T (k+3)) (j8 (j8 (j8 (j8 (j8 P8.body))))) ⟨λ_ g'=>Q .cj g',Q,λ_ _=>False,λ_ _=>False⟩ [some (.ref d),some (.int n),some (.int m),some (.int v),some (.int way),none,none,none,none] g4 E:=by
  intro v g4 v0 v1 D4 G4;dsimp[P8,j8];have after:∀(cs:List b7) a g5,(cs.length:Int)=m->(∀c∈cs,ka c)->g5[a]?=some (.lst (cs.map b7.d))->g4.length<=a->j6 g5 d->Gr d g4 g5->wpS (d0 T (k+3)) (j8 (j8 (j8 (j8 (j8 (j8 P8.body)))))) ⟨λ_ g'=>Q .cj g',Q,λ_ _=>False,λ_ _=>False⟩ [some (.ref d),some (.int n),some (.int m),some (.int v),some (.int way),some (.ref a),none,none,none] g5 E:=by
   intro cs a g5 hc hg ea la D5 G5;have Ma:=G4.trans G5;have l4:=G4.len;dsimp[P8,j8];walk_at"";refine L0 (b0 T _) (lF (b0 T _) ?_);walk_at"";refine Gf (by omega) (by omega) ?_;walk_at"";have e6:(g5++[O.lst (l9 0 m.toNat)])[g5.length]?=some (.lst (l9 0 m.toNat)):=b8;have l5:=D5.lt;refine JM hT.pull hT.order e6 (by rw[n5];omega) (by omega) (D5.snoc _) λl' b g7 hp eb lb D7 G7=>?_;have Po:=G7.at (by omega) (p6 ea);have ya:l'.length=m.toNat:=by rw[hp.length_eq,n5]
   refine⟨b,l',rfl,a9 eb,l',λi ys σ g'=>∃jY z1 z2,ys=jY.map b7.d/\jY.length=i/\(∀c∈jY,ka c)/\σ=[some (.ref a),z1,z2]/\g'=g7,by omega,λi ys σ g' p=>?_,⟨[],none,none,rfl,rfl,by simp,rfl,rfl⟩,λi x ys σ g' hx p=>?_,λys σ g' p=>?_⟩
   ·obtain⟨jY,z1,z2,rfl,jF,_,_,rfl⟩:=p;exact⟨o6 (a9 eb),by simp[jF]⟩
   ·obtain⟨jY,z1,z2,rfl,jF,oX,rfl,rfl⟩:=p;obtain⟨j,rfl,j0,j1⟩:=KS (hp.mem_iff.mp (aL hx));show dC _ _ _ _ _ _;walk_at"";obtain⟨c0,yf,e0⟩:=CU (cs:=cs) j0 (by omega);refine q9 (a9 Po) e0 ?_;refine⟨jY++[c0],_,_,by simp,by simp[jF],λc1 rQ=>?_,rfl,rfl⟩;rcases aU.mp rQ with z|z
    ·exact oX c1 z
    ·simp at z;subst z;exact hg c1 yf
   ·obtain⟨jY,z1,z2,rfl,jF,oX,rfl,rfl⟩:=p;have e8:(g'++[O.lst (jY.map b7.d)])[g'.length]?=some (.lst (jY.map b7.d)):=b8;have D8:=D7.snoc (.lst (jY.map b7.d));have G8:=(Ma.trans ((Gr.snoc d g5 (.lst (l9 0 m.toNat))).trans G7)).trans (Gr.snoc d g' (.lst (jY.map b7.d)));have l8:g.length<=g'.length:=(Ma.trans ((Gr.snoc d g5 (.lst (l9 0 m.toNat))).trans G7)).len;have fin:∀(ua:List b7) z6 z7 z8 g9,(ua.length:Int)=m->(∀c∈ua,ka c)->g9[g'.length]?=some (.lst (ua.map b7.d))->j6 g9 d->Gr d g g9->wpS (d0 T (k+3)) (j8 (j8 (j8 (j8 (j8 (j8 (j8 (j8 P8.body)))))))) ⟨λ_ g'=>Q .cj g',Q,λ_ _=>False,λ_ _=>False⟩ [some (.ref d),some (.int n),some (.int m),some (.int v),some (.int way),some (.ref g'.length),z6,z7,z8] g9 E:=by
     intro ua z6 z7 z8 g9 qe GJ e9 D9 G9;dsimp[P8,j8];walk_at"";refine if2 (λc=>?_) (λc=>?_)
     ·walk_at"";exact h ua _ _ _ (by omega) GJ e9 l8 (by omega) (by omega) D9 G9
     ·walk_at"";exact h ua _ _ _ (by omega) GJ e9 l8 v0 v1 D9 G9
    show wpS _ _ _ _ (g'++[O.lst (jY.map b7.d)]) _;have oz:(jY.length:Int)=m:=by omega
    have xQ:=D7.lt;generalize hg8:g'++[O.lst (jY.map b7.d)]=g8 at *;walk_at"";refine if2 (λc1=>?_) (λc1=>?_)
    ·walk_at"";refine if2 (λc2=>?_) (λc2=>?_)
     ·walk_at"";refine i8 (n:=m) hT.pull D8 c2 (by omega) λr g9 r0 r1 D9 G9=>?_;have e9:=G9.at (by omega) e8;obtain⟨c0,yf,e0⟩:=CU (cs:=jY) r0 (by(clear hn dl m0 m1 iM iL w0 w1 l3 c v0 v1 la l4 l5 lb ya jF l8 xQ c1 c2 r0;omega));walk_at"";refine q9 (a9 e9) e0 ?_;walk_at"";refine i8 (n:=m) hT.pull D9 c2 (by omega) λr' wm xJ FO Mc LZ=>?_;have lK:=LZ.at (by omega) e9;obtain⟨c3,ye,e3⟩:=CU (cs:=jY) xJ (by(clear hn dl m0 m1 iM iL w0 w1 l3 c v0 v1 la l4 l5 lb ya jF l8 xQ c1 c2 r0 r1 xJ;omega));refine q9 (a9 lK) e3 ?_;dsimp only[b7.d];walk_at"";refine i8 hT.pull (Mc.snoc _) (by decide) (by decide) λr'' Hi rg rf D11 Fd=>?_;have Gh:=Mc.lt;have sD:=Fd.at (by omega) (b8 (g:=wm) (o:=.lst [.int c0.yr,.int c3.yr,.int 9999]));have wu:=Fd.at (by omega) (p6 (o':=.lst [.int c0.yr,.int c3.yr,.int 9999]) lK);obtain⟨x,hx,hm⟩:=K3 (l:=[D.int c0.yr,.int c3.yr,.int 9999]) rg (by simpa using rf);obtain⟨a1,a2,a3,a4,a5,a6⟩:=(oX c0 yf).inv;obtain⟨b1,b2,b3,b4,b5,b6⟩:=(oX c3 ye).inv;have hy:∃y:Int,x=.int y/\0<=y/\y<=9999:=by
       simp only[List.mem_cons,List.mem_nil_iff,or_false] at hm;rcases hm with rfl|rfl|rfl
       ·exact⟨_,rfl,a5,a6⟩
       ·exact⟨_,rfl,b5,b6⟩
       ·exact⟨_,rfl,by decide,by decide⟩
      obtain⟨y,rfl,y0,y1⟩:=hy;refine q9 (a9 sD) hx ?_;walk_at"";have hj:lD (jY.map b7.d).length r=some r.toNat:=by
       unfold lD;rw[aI r0,aI (by rw[aj];(clear hn dl m0 m1 iM iL w0 w1 l3 c v0 v1 la l4 l5 lb ya jF l8 xQ c1 c2 r0 xJ FO rg rf Gh a1 a3 a5 a6 b1 b3 b5 b6 y0 y1;omega))]
      refine T9 wu hj ?_;have gr:ka ⟨c0.lo,c3.lm,c3.up,c0.um,y⟩:=ka.mk' a1.1 a1.2 b3.1 b3.2 y0 y1 b2 a4 (oX c3 ye).l8 (oX c0 yf).u8;refine fin (jY.set r.toNat ⟨c0.lo,c3.lm,c3.up,c0.um,y⟩) _ _ _ _ (by simp;(clear hn dl m0 m1 iM iL w0 w1 l3 c v0 v1 la l4 l5 lb ya jF l8 xQ c1 c2 r0 r1 xJ FO rg rf Gh a1 a3 a5 a6 b1 b3 b5 b6 y0 y1;omega)) (λc4 Ob=>?_) ?_ (D11.J9 (by omega)) ((G8.trans (G9.trans (LZ.trans ((Gr.snoc _ _ _).trans Fd)))).J9 l8)
      ·rcases pN Ob with z|z
       ·exact oX c4 z
       ·rw[z];exact gr
      ·rw[get_set wu,List.map_set]
       rfl
     ·refine K9 ?_;exact fin jY _ _ _ _ oz oX e8 D8 G8
    ·exact fin jY _ _ _ _ oz oX e8 D8 G8
  walk_at"";refine if2 (λc=>?_) (λc=>?_)
  ·walk_at"";refine Zj hT.pull hT.order hT.opened ⟨m0,by omega⟩ D4 λcs a g5 hc hg ea la D5 G5=>?_;exact after cs a g5 hc hg ea la D5 G5
  ·walk_at"";refine ZD hT.pull hT.qV hT.qS ⟨m0,by omega⟩ ⟨v0,by omega⟩ D4 λcs a g5 hc hg ea la D5 G5=>?_;exact after cs a g5 hc hg ea la D5 G5
 walk_at"";refine if2 (λc=>?_) (λc=>?_)
 ·walk_at"";refine i8 hT.pull D3 (by decide) (by decide) λr4 g4 qZ tB D4 G4=>?_;walk_at "w1";walk_at "w1";exact tail _ _ (by omega) (by omega) D4 (zU.trans G4)
 ·refine K9 ?_;exact tail _ _ (by omega) (by omega) D3 zU
end
def E7:bo:=⟨1,1,(.seq (.ifs (.eU (.gi (.call 1 (iR aO (bp 1) (bp 9))))) (.seq (.raise "BadAnvils" (fA (iO "there are from one to nine anvils"))) .pass) .pass) .pass)⟩
def zq:bo:=⟨2,2,(.seq (.ret (dZ .all (.comp [1] 3 (.one 2) (.fu aO) .no (cA (.cmp .In) bD aO)))) .pass)⟩
def DA:bo:=⟨1,1,(.seq (.ifs (.eU (.gi (.call 12 (fA aO)))) (.seq (.raise "BadCoin" (fA (iO "it is no coin"))) .pass) .pass) .pass)⟩
def V7:bo:=⟨1,2,(.seq (.ifs (fi .Gt (dZ .len aO) (bp 9)) (.seq (.raise "TooMany" (fA (iO "at most nine coins are asked about at once"))) .pass) .pass) (.seq (.dP (.one 1) (.fu aO) (.seq (.expr (.call 39 (fA bE))) .pass)) .pass))⟩
def P9:bo:=⟨1,1,(.seq (.ifs (fi .NotIn aO (.lit (.tup [(.str "lower"),(.str "upper")]))) (.seq (.raise "BadSide" (fA (iO "a side is lower or upper"))) .pass) .pass) .pass)⟩
def Dq:bo:=⟨1,1,(.seq (.expr (.call 40 (fA aO))) (.seq (.ret (cA .nY (.lit (.tup [(.tup [(.str "lower"),(.int 0)]),(.tup [(.str "upper"),(.int 2)])])) aO)) .pass))⟩
noncomputable abbrev Md(T:Nat->Option bo):Prop:=T 18=some V7/\T 39=some DA
noncomputable abbrev Ff(T:Nat->Option bo):Prop:=T 19=some Dq/\T 40=some P9
def zB:bo:=⟨2,2,(.seq (.ret (cA (.cmp .Eq) (dZ .len (.comp [1] 3 (.one 2) (.fu aO) (fi .NotIn bD aO) bD)) (bp 0))) .pass)⟩
structure Ex(g g':G):Prop where
 len:g.length<=g'.length
 old:∀i,i<g.length->g'[i]?=g[i]?
theorem Ex.refl(g:G):Ex g g:=⟨av _,λ_ _=>rfl⟩
theorem Ex.trans{g g1 g2:G}(a:Ex g g1)(b:Ex g1 g2):Ex g g2:=⟨aF a.len b.len,λi h=>(b.old i (aA h a.len)).trans (a.old i h)⟩
theorem Ex.snoc(g:G)(o:O):Ex g (g++[o]):=⟨by simp,λi h=>aM h⟩
theorem Ex.at(h:Ex g g')(e:g[i]?=some o):g'[i]?=some o:=(h.old i (j7 e)).trans e
theorem Ex.gr(h:Ex g g')(d:Nat):Gr d g g':=⟨h.len,λi _ h2=>h.old i h2⟩
theorem Ex.draw{d:Nat}(h:Ex g g')(D0:j6 g d):j6 g' d:=by
 obtain⟨s,p,b,r,xs,e1,e2,q⟩:=D0.ex;exact⟨s,p,b,r,xs,h.at e1,h.at e2,q⟩
section
variable{T:Nat->Option bo}
theorem QR(h6:T 6=some zN){i:Int}(h:Q (.bl true) g):d0 T (k+1) 6 [.int i] g Q E:=by
 refine call_of h6 rfl ?_;dsimp[zN,d8,List.replicate];walk_at"";refine vy (c:="int") (b:=true) (by decide) rfl ?_;walk_at"";refine vy (c:="bool") (b:=false) (by decide) rfl ?_;walk_at"";exact h
end
def jR(a b:List Int):Bool:=a.all λs=>b.any λm=>m==s
section
variable{T:Nat->Option bo}{d:Nat}
theorem Jm(qh:T 15=some zq){a b:List Int}(ha:a.length<=1000)(h:∀g',Ex g g'->Q (.bl (jR a b)) g'):d0 T (k+1) 15 [.tup (a.map .int),.tup (b.map .int)] g Q E:=by
 refine call_of qh rfl ?_;dsimp[zq,d8,List.replicate];walk_at"";refine L0 (b0 T _) (vA (b0 T _) ?_);walk_at"";refine⟨_,rfl,_,λi ys σ g'=>∃z w,ys=((a.take i).map λs=>b.any λm=>m==s).map D.bl/\σ=[some (.tup (b.map .int)),z,w]/\g'=g,by simpa using ha,λi ys σ g' p=>⟨u9,?_⟩,⟨none,none,rfl,rfl,rfl⟩,λi x ys σ g' hx p=>?_,λys σ g' p=>?_⟩
 ·obtain⟨z,w,rfl,_⟩:=p;simp;omega
 ·obtain⟨z,w,rfl,rfl,rfl⟩:=p;rw[au,ae] at hx;obtain⟨s,hs,rfl⟩:=hx;show dC _ _ _ _ _ _;walk_at"";refine ue (Dm ?_);refine⟨_,_,?_,rfl,rfl⟩;have hi:=(aw.mp hs)
  rw[bL,hs];simp
 ·obtain⟨z,w,rfl,rfl,rfl⟩:=p;refine yD (a9 b8) (V0 _) ?_;have e:((a.take (a.map D.int).length).map λs=>b.any λm=>m==s).all id=jR a b:=by
   rw[aj,bO];simp[jR,List.all_map]
  rw[e];exact h _ (Ex.snoc _ _)
theorem ZY(BD:T 17=some zB){a b:List Int}(ha:a.length<=1000)(h:∀g',Ex g g'->Q (.bl (jR a b)) g'):d0 T (k+1) 17 [.tup (a.map .int),.tup (b.map .int)] g Q E:=by
 refine call_of BD rfl ?_;dsimp[zB,d8,List.replicate];walk_at"";refine L0 (b0 T _) (vA (b0 T _) ?_);walk_at"";refine⟨_,rfl,_,λi ys σ g'=>∃z w,ys=((a.take i).filter λs=>!(b.any λm=>m==s)).map D.int/\ys.length<=i/\σ=[some (.tup (b.map .int)),z,w]/\g'=g,by simpa using ha,λi ys σ g' p=>⟨u9,?_⟩,⟨none,none,rfl,by simp,rfl,rfl⟩,λi x ys σ g' hx p=>?_,λys σ g' p=>?_⟩
 ·obtain⟨z,w,_,h1,_⟩:=p;exact h1
 ·obtain⟨z,w,e,hl,rfl,rfl⟩:=p;rw[au,ae] at hx;obtain⟨s,hs,rfl⟩:=hx;show dC _ _ _ _ _ _;walk_at"";refine U9 (Dm ?_);walk_at"";cases hc:(b.any λm=>m==s) with
  |true =>
   refine qu ⟨_,_,?_,by omega,rfl,rfl⟩;rw[bL,hs,e];simp[hc]
  |false =>
   refine nJ (w_var rfl ⟨_,_,?_,by simp;omega,rfl,rfl⟩);rw[bL,hs,e];simp[hc]
 ·obtain⟨z,w,e,hl,rfl,rfl⟩:=p;rw[aj,bO] at e;refine J8 (a9 b8) ?_;walk_at"";have e2:decide ((ys.length:Int)=0)=jR a b:=by
   rw[e,aj,aZ,dS];unfold jR;rw[cU];constructor
   ·intro h0 s hs;have h1:(a.filter λs=>!(b.any λm=>m==s))=[]:=dQ (by omega);rw[uD] at h1;have:=h1 s hs;simpa using this
   ·intro h0;have h1:(a.filter λs=>!(b.any λm=>m==s))=[]:=by
     rw[uD];intro s hs;simpa using h0 s hs
    rw[h1]
    rfl
  rw[e2];exact h _ (Ex.snoc _ _)
theorem a69{x:Str}(hx:PyData.strOk x=true)(h:kb (decide (x="lower")||decide (x="upper"))):rC g (.str x) (.tup [.str "lower",.str "upper"]) kb:=by
 refine⟨_,.inr ⟨_,[.str "lower",.str "upper"],.str x,rfl,rfl,rfl,by simp only[PyData.canLayAll0,PyData.canLay0,Bool.and_true];decide +kernel,by simp only[PyData.canLay0];exact hx,rfl⟩,?_⟩;have e:∀y:Str,PyData.eqv (.str y) (.str x)=decide (x=y):=λy=>by
  simp only[PyData.eqv];rw[aZ,bB,dS];exact eq_comm
 simp only[List.any_cons,List.any_nil,Bool.or_false,e];exact h
theorem Yb(OJ:T 40=some P9){x:Str}(ho:PyData.strOk x=true)(h1:x="lower"\/x="upper"->Q .cj g)(h3:x≠"lower"->x≠"upper"->E ⟨"BadSide"⟩ g):d0 T (k+1) 40 [.str x] g Q E:=by
 refine call_of OJ rfl ?_;dsimp[P9,d8,List.replicate];walk_at"";refine U9 (a69 ho ?_);walk_at"";by_cases e:x="lower"\/x="upper"
 ·refine hU (by rw[Bool.not_eq_false',cZ,dS,dS];exact e) ?_;walk_at"";exact h1 e
 ·refine jl (by rw[Bool.not_eq_true',Bool.or_eq_false_iff,dH,dH];exact not_or.mp e) ?_;walk_at"";exact h3 (λz=>e (.inl z)) (λz=>e (.inr z))
theorem E9(lV:Ff T){x:Str}(ho:PyData.strOk x=true)(h1:x="lower"->Q (.int 0) g)(h2:x="upper"->Q (.int 2) g)(h3:x≠"lower"->x≠"upper"->E ⟨"BadSide"⟩ g):d0 T (k+2) 19 [.str x] g Q E:=by
 refine call_of lV.1 rfl ?_;dsimp[Dq,d8,List.replicate];walk_at"";refine Yb lV.2 ho (λhx=>?_) h3;walk_at"";by_cases e1:x="lower"
 ·have el:O1 [.tup [.str "lower",.int 0],.tup [.str "upper",.int 2]] x=some (.int 0):=by simp[O1,e1]
  refine Ir el ?_;exact h1 e1
 ·have e2:x="upper":=hx.resolve_left e1;have el:O1 [.tup [.str "lower",.int 0],.tup [.str "upper",.int 2]] x=some (.int 2):=by simp[O1,e1];simp[e2]
  refine Ir el ?_;exact h2 e2
def CB(c:b7):Prop:=c.lm.length<=8/\c.um.length<=8
theorem Y7(h1:NF T)(h2:T 2=some F6)(tW:T 12=some B5)(wc:Md T)(ha:g[a]?=some (.lst (cs.map b7.d)))(hz:cs.length<=1000)(hm:9<cs.length->E ⟨"TooMany"⟩ g)(hb:cs.length<=9->cs.all w9=false->E ⟨"BadCoin"⟩ g)(h:cs.length<=9->cs.all w9=true->Q .cj g):d0 T (k+6) 18 [.ref a] g Q E:=by
 refine call_of wc.1 rfl ?_;dsimp[V7,d8,List.replicate];walk_at"";rw[aj];refine if2 (λc=>?_) (λc=>?_)
 ·walk_at"";exact hm (by omega)
 have h9:cs.length<=9:=by omega
 walk_at"";refine y9 (b0 T _) (lF (b0 T _) ?_);walk_at"";refine⟨a,_,rfl,a9 ha,cs.map b7.d,λi σ g'=>∃z,σ=[some (.ref a),z]/\g'=g/\(cs.take i).all w9=true,λi σ g' p=>?_,⟨none,rfl,rfl,by simp⟩,λi x σ g' hx p=>?_,λσ g' p=>?_⟩
 ·obtain⟨z,rfl,rfl,_⟩:=p;exact o6 (a9 ha)
 ·obtain⟨z,rfl,rfl,hg⟩:=p;rw[au,ae] at hx;obtain⟨c,hc,rfl⟩:=hx;refine j4 ?_
  try show wpS _ _ _ _ _ _
  walk_at"";refine call_of wc.2 rfl ?_;dsimp[DA,d8,List.replicate];walk_at"";refine aD4 h1 h2 tW ?_;walk_at"";cases e:w9 c with
  |true =>
   walk_at"";refine⟨_,rfl,rfl,?_⟩;rw[bL,hc];simp[hg,e]
  |false =>
   refine HP ?_;walk_at"";refine hb h9 ?_;rw[List.all_eq_false];exact⟨c,aL hc,by rw[e];decide⟩
 ·obtain⟨z,rfl,rfl,hg⟩:=p;rw[aj,bO] at hg;exact h h9 hg
end
def A9(f:Int)(c:b7):Int:=if f=0 then c.lo else c.up
def sO(f:Int)(c:b7):List Int:=if f=0 then c.lm else c.um
theorem CB.Nf{c:b7}(h:CB c)(f:Int):(sO f c).length<=1000:=by
 unfold sO;split
 ·have:=h.1;omega
 ·have:=h.2;omega
theorem M1(hf:f=0\/f=2)(c:b7):gI [D.int c.lo,D.tup (c.lm.map .int),D.int c.up,D.tup (c.um.map .int),D.int c.yr] f=some (.int (A9 f c)):=by
 rcases hf with rfl|rfl<;>rfl
theorem J'(hf:f=0\/f=2)(c:b7):gI [D.int c.lo,D.tup (c.lm.map .int),D.int c.up,D.tup (c.um.map .int),D.int c.yr] (f+1)=some (.tup ((sO f c).map .int)):=by
 rcases hf with rfl|rfl<;>rfl
theorem a72(ms:List Int):PyData.eqvAll (ms.map PyData.int) (ms.map PyData.int)=true:=by rw[W5];simp
def cD:b7:=⟨0,[],0,[],0⟩
noncomputable abbrev bU(cs:List b7)(i:Nat):b7:=cs.getD i cD
theorem C5{c:b7}(h:cs[i]?=some c):bU cs i=c:=by simp[bU,List.getD,h]
inductive RW where
 |fU|lower|upper
def RW.s:RW->Str
 |.fU=>"coin"
 |.lower=>"lower"
 |.upper=>"upper"
structure gT where
 w:RW
 x:Int
 y:Int
def gT.d(r:gT):D:=.tup [.str r.w.s,.int r.x,.int r.y]
def meant(cs:List b7)(w:RW)(x:Int)(i:Nat):Bool:=match w with
 |.fU=>decide ((i:Int)=x)
 |.lower=>decide ((bU cs i).lo=x)
 |.upper=>decide ((bU cs i).up=x)
def jS(cs:List b7)(w:RW)(x:Int):List Nat:=(List.range cs.length).filter (meant cs w x)
def b9(l:List Nat):List D:=l.map λ(i:Nat)=>D.int i
def pQ(l:List Nat):Nat:=(l.map (2 ^ ·)).sum
def iZ(n:Nat)(p:Nat->Bool):Nat:=pQ ((List.range n).filter p)
theorem LB(n:Nat)(p:Nat->Bool):iZ (n+1) p=iZ n p+if p n=true then 2 ^ n else 0:=by
 unfold iZ pQ;rw[ji,fq,eA,List.sum_append]
 congr 1
 cases h:p n<;>simp[List.filter_cons,h]
theorem Sf(n:Nat)(p:Nat->Bool):iZ n p<2 ^ n:=by
 induction n with
 |zero=>simp[iZ,pQ]
 |succ n ih =>
  rw[LB,uA];split<;>omega
theorem La(n:Nat)(p:Nat->Bool)(i:Nat):(iZ n p).testBit i=(decide (i<n)&&p i):=by
 induction n with
 |zero=>simp[iZ,pQ]
 |succ n ih =>
  have hl:=Sf n p;rw[LB];by_cases hp:p n=true
  ·rw[aI hp,Nat.add_comm];rcases ie i n with h|h|h
   ·rw[Nat.testBit_two_pow_add_gt h,ih,az h,az (by omega)]
   ·subst h;rw[Nat.testBit_two_pow_add_eq,ih];simp[hp]
   ·rw[Nat.testBit_lt_two_pow (aA (show 2 ^ n+iZ n p<2 ^ (n+1) by rw[uA];omega) (zY (by omega) h)),aK (by omega)]
    rfl
  ·rw[aC hp,Nat.add_zero,ih];by_cases h:i=n
   ·subst h;simp[hp]
   ·rw[show decide (i<n)=decide (i<n+1) from iG.mpr (by omega)]
theorem CA(a b:Nat):Builtin.bitAnd (a:Int) (b:Int)=((a &&& b:Nat):Int):=by
 unfold Builtin.bitAnd;rw[az (Mo a),az (Mo b)];simp
theorem Rf(a b:Nat):Builtin.bitOr (a:Int) (b:Int)=((a |||b:Nat):Int):=by
 unfold Builtin.bitOr Builtin.bitAnd;have h1:∀x:Nat,decide (0<=Builtin.bitNot (x:Int))=false:=λx=>by unfold Builtin.bitNot;exact aK (by omega)
 have h2:∀x:Nat,Builtin.bitNot (Builtin.bitNot (x:Int))=x:=λx=>by unfold Builtin.bitNot;omega
 rw[h1,h1];simp only[h2];simp
theorem Qj(a b:Nat):((a &&& b:Nat)≠0)↔∃i,a.testBit i=true/\b.testBit i=true:=by
 constructor
 ·intro h;obtain⟨i,hi⟩:=Nat.exists_testBit_of_ne_zero h;rw[Nat.testBit_and,aW] at hi;exact⟨i,hi⟩
 ·rintro⟨i,h1,h2⟩ e;have:(a &&& b).testBit i=true:=by rw[Nat.testBit_and,h1,h2];rfl
  rw[e,Nat.zero_testBit] at this;cases this
theorem zh(s n:Nat)(p:Nat->Bool):((((s &&& iZ n p:Nat):Int) != 0)=(List.range n).any λi=>s.testBit i&&p i):=by
 rw[aZ,bne_iff_ne,aV];have:(((s &&& iZ n p:Nat):Int)≠0)↔((s &&& iZ n p:Nat)≠0):=by omega
 rw[this,Qj];constructor
 ·rintro⟨i,h1,h2⟩;rw[La,aW,cK] at h2;exact⟨i,bq.mpr h2.1,by rw[h1,h2.2];rfl⟩
 ·rintro⟨i,h1,h2⟩;rw[aW] at h2;exact⟨i,h2.1,by rw[La,az (bq.mp h1),h2.2];rfl⟩
def mw(a b:b7):Bool:=(decide (a.lo=b.lo)&&!jR a.lm b.lm)||(decide (a.up=b.up)&&!jR a.um b.um)
def kQ(a b:b7):Bool:=decide (0<b.yr)&&decide (b.yr<a.yr)
def J6(cs:List b7)(S:Nat->Bool)(p:Nat):Bool:=(List.range cs.length).any λi=>S i&&mw (bU cs i) (bU cs p)
def G0(cs:List b7)(S:Nat->Bool)(p:Nat):Bool:=(List.range cs.length).any λi=>S i&&kQ (bU cs i) (bU cs p)
def Z2(cs:List b7)(S:Nat->Bool)(p:Nat)(d:Int):Bool :=
 ((List.range cs.length).any λi=>(S i||decide (i=p))&&decide ((bU cs i).lo=d))&&((List.range cs.length).any λi=>!S i&&decide ((bU cs i).lo=d))
def ui(cs:List b7)(S:Nat->Bool)(p:Nat):Nat:=((p8 (cs.map b7.lo)).filter (Z2 cs S p)).length
def P5(cs:List b7)(rs:List gT)(S:Nat->Bool)(p:Nat):Bool:=rs.all λr=>!meant cs r.w r.y p||(List.range cs.length).any λi=>S i&&meant cs r.w r.x i
def fault(cs:List b7)(v:Int)(rs:List gT)(S:Nat->Bool)(p:Nat):Str :=
 if J6 cs S p=true then "wear" else if G0 cs S p=true then "year" else if v<ui cs S p then "anvil" else if P5 cs rs S p=true then "" else "rule"
def yu(x:Str):D:=if x="" then .cj else .str x
theorem aG7{S S':Nat->Bool}(h:∀i,i<cs.length->S i=S' i):fault cs v rs S p=fault cs v rs S' p:=by
 have a:∀f:Nat->Bool->Bool,((List.range cs.length).any λi=>f i (S i))=(List.range cs.length).any λi=>f i (S' i):=λf=>by
  rw[aZ,aV,aV];constructor
  ·rintro⟨i,h1,h2⟩;exact⟨i,h1,by rw[<- h i (bq.mp h1)];exact h2⟩
  ·rintro⟨i,h1,h2⟩;exact⟨i,h1,by rw[h i (bq.mp h1)];exact h2⟩
 have b1:J6 cs S p=J6 cs S' p:=a λi t=>t&&mw (bU cs i) (bU cs p);have b2:G0 cs S p=G0 cs S' p:=a λi t=>t&&kQ (bU cs i) (bU cs p);have b3:Z2 cs S p=Z2 cs S' p:=by
  funext d
  unfold Z2;rw[a λi t=>(t||decide (i=p))&&decide ((bU cs i).lo=d),a λi t=>!t&&decide ((bU cs i).lo=d)]
 have b4:P5 cs rs S p=P5 cs rs S' p:=by
  unfold P5
  congr 1
  funext r
  rw[a λi t=>t&&meant cs r.w r.x i]
 unfold fault ui;rw[b1,b2,b3,b4]
def U4:bo:=⟨3,4,(.seq (.ifs (.eU (.gi (.call 38 (fA bD)))) (.seq (.ret (.prim .lst .nil)) .pass) .pass) (.seq (.ifs (fi .Eq bE (iO "coin")) (.seq (.ret (.comp [2] 3 (.one 2) (.eV (dZ .len aO)) (fi .Eq bD aO) bD)) .pass) .pass) (.seq (.set 3 (.call 19 (fA bE))) (.seq (.ret (.comp [3,2] 5 (.many [3,4]) (.lE aO) (fi .Eq (dj dJ aO) bE) bT)) .pass))))⟩
def CO:bo:=⟨2,3,(.seq (.expr (.call 18 (fA aO))) (.seq (.set 2 (.call 19 (fA bE))) (.seq (.ret (.iz [2] 3 (.one 2) (.fu aO) .no (dj bD aO))) .pass)))⟩
def Dr:bo:=⟨2,5,(.seq (.mr (.many [2,3,4]) bE) (.seq (.ifs (.jT (fi .NotIn bD (.lit (.tup [(.str "coin"),(.str "lower"),(.str "upper")]))) (fi .Eq bT dJ)) (.seq (.ret (.lit (.bl false))) .pass) .pass) (.seq (.ret (.eI (cA (.cmp .NotEq) (.call 74 (iR aO bD bT)) (.prim .lst .nil)) (cA (.cmp .NotEq) (.call 74 (iR aO bD dJ)) (.prim .lst .nil)))) .pass)))⟩
def V6:bo:=⟨2,4,(.seq (.dP (.many [2,3]) (.lE bE) (.seq (.ifs (.eU (.gi (.call 88 (eM aO bT)))) (.seq (.raise "BadRule" (fA (.prim .mK (iR (iO "rule ") (dZ .fv bD) (iO " is none for these coins"))))) .pass) .pass) .pass)) .pass)⟩
def zC:bo:=⟨1,1,(.seq (.ret (dZ .sum (.comp [] 2 (.one 1) (.fu aO) .no (cA (.bin .LShift) (bp 1) bE)))) .pass)⟩
def U3:bo:=⟨2,2,(.seq (.ret (cA (.bin .BitOr) aO (cA (.bin .LShift) (bp 1) bE))) .pass)⟩
def Dt:bo:=⟨2,4,(.seq (.dP (.one 2) (.fu (.lit (.tup [(.str "lower"),(.str "upper")]))) (.seq (.set 3 (.call 19 (fA bD))) (.seq (.ifs (.eI (fi .Eq (dj aO bT) (dj bE bT)) (.eU (.gi (.call 15 (eM (dj aO (cA (.bin .Add) bT (bp 1))) (dj bE (cA (.bin .Add) bT (bp 1)))))))) (.seq (.ret (.lit (.bl true))) .pass) .pass) .pass))) (.seq (.ret (.lit (.bl false))) .pass))⟩
def Eu:bo:=⟨2,2,(.seq (.ret (.chain .Lt .Lt (bp 0) (dj bE (bp 4)) (dj aO (bp 4)))) .pass)⟩
def V3:bo:=⟨1,1,(.seq (.ret (.comp [0] 3 (.one 2) (.fu aO) .no (.call 90 (fA (.comp [2] 4 (.many [2,3]) (.lE aO) (.gi (.call 92 (eM bT aO))) bD))))) .pass)⟩
def S0:bo:=⟨1,1,(.seq (.ret (.comp [0] 3 (.one 2) (.fu aO) .no (.call 90 (fA (.comp [2] 4 (.many [2,3]) (.lE aO) (.gi (.call 93 (eM bT aO))) bD))))) .pass)⟩
def DB:bo:=⟨1,1,(.seq (.ret (.comp [0] 3 (.one 2) (.fu (.call 20 (eM aO (iO "lower")))) .no (.call 90 (fA (.call 74 (iR aO (iO "lower") bD)))))) .pass)⟩
def P0:bo:=⟨2,8,(.seq (.set 2 (.comp [] 2 (.one 1) (.fu aO) .no (.prim .lst .nil))) (.seq (.dP (.many [3,4,5]) (.fu bE) (.seq (.set 6 (.call 90 (fA (.call 74 (iR aO bT dJ))))) (.seq (.dP (.one 7) (.fu (.call 74 (iR aO bT fh))) (.seq (.ifs (fi .NotIn fN (dj bD gH)) (.seq (.expr (.fg .append (dj bD gH) (fA fN))) .pass) .pass) .pass)) .pass))) (.seq (.ret bD) .pass)))⟩
def O0:bo:=⟨3,3,(.seq (.expr (.call 18 (fA aO))) (.seq (.expr (.call 42 (fA bE))) (.seq (.expr (.call 89 (eM aO bD))) .pass)))⟩
def Dp:bo:=⟨3,3,(.seq (.expr (.call 98 (iR aO bE bD))) (.seq (.ret (.make "Bounds" 113 (iR aO bE bD))) .pass))⟩
def DC:bo:=⟨3,5,(.seq (.set 3 (.call 91 (eM bE bD))) (.seq (.set 4 (cA (.bin .Sub) (dZ (.fld "full") aO) bE)) (.seq (.ret (dZ .len (.comp [4,3] 4 (.one 3) (.fu (dZ (.fld "lower_dies") aO)) (.eI (.gi (cA (.bin .BitAnd) bT bE)) (.gi (cA (.bin .BitAnd) bT aO))) bT))) .pass)))⟩
def DE:bo:=⟨3,3,(.seq (.ifs (.gi (cA (.bin .BitAnd) bE (dj (dZ (.fld "worn_by_place") aO) bD))) (.seq (.ret (iO "wear")) .pass) .pass) (.seq (.ifs (.gi (cA (.bin .BitAnd) bE (dj (dZ (.fld "later_by_place") aO) bD))) (.seq (.ret (iO "year")) .pass) .pass) (.seq (.ifs (fi .Gt (.call 100 (iR aO bE bD)) (dZ (.fld "room") aO)) (.seq (.ret (iO "anvil")) .pass) .pass) (.seq (.ifs (.eU (.gi (dZ .all (.comp [1] 3 (.one 2) (.fu (dj (dZ (.fld "needed_by_place") aO) bD)) .no (cA (.bin .BitAnd) aO bD))))) (.seq (.ret (iO "rule")) .pass) .pass) (.seq (.ret (.lit .cj)) .pass)))))⟩
def V8:bo:=⟨4,4,(.seq (.iK "size" ["Bounds"] aO (dZ .len bE)) (.seq (.iK "full" ["Bounds"] aO (cA (.bin .Sub) (cA (.bin .LShift) (bp 1) (dZ .len bE)) (bp 1))) (.seq (.iK "room" ["Bounds"] aO bD) (.seq (.iK "worn_by_place" ["Bounds"] aO (.call 94 (fA bE))) (.seq (.iK "later_by_place" ["Bounds"] aO (.call 95 (fA bE))) (.seq (.iK "lower_dies" ["Bounds"] aO (.call 96 (fA bE))) (.seq (.iK "needed_by_place" ["Bounds"] aO (.call 97 (eM bE bT))) .pass)))))))⟩
section
variable{σ:S}{t:MT}{it c elt:ME}{d6:List Nat}
theorem A4(hP:j9 P)(Sh:S->Prop)(p:Nat->Bool)(w:Nat->D){k:IK}(hk:∀g',Ex g g'->k.Is l g')(hl:l.length<=1000)(h0:Sh (I9 σ d6 n))(hs:∀i d σ g',l[i]?=some d->Ex g g'->Sh σ->kj t d σ λcV=>dC P c cV g' (λb g3=>b=p i/\Ex g g3/\if b=true then bh P elt cV g3 (λy g4=>y=w i/\Ex g g4/\Sh cV) jZ else Sh cV) jZ)(hd:∀g',Ex g g'->Q (.ref g'.length) (g'++[.lst (((List.range l.length).filter p).map w)]))(hi:∀R:IK->G->Prop,R k g->iJ P it σ g R E):bh P (.comp d6 n t it c elt) σ g Q E:=by
 refine L0 hP (hi _ ?_);refine⟨l,λi ys σ g'=>Ex g g'/\ys=((List.range i).filter p).map w/\Sh σ,hl,λi ys σ g' q=>⟨hk _ q.1,?_⟩,⟨Ex.refl _,rfl,h0⟩,λi x ys σ g' hx q=>?_,λys σ g' q=>?_⟩
 ·obtain⟨_,rfl,_⟩:=q;rw[aj];exact aF (jw _ _) (by simp)
 ·obtain⟨e1,rfl,sh⟩:=q;refine A6 (λcV q=>u6 hP c _ _ _ _ _ _ (λb g3 q=>?_) (λ_ _ z=>z) q) (hs i x σ g' hx e1 sh);obtain⟨rfl,e3,q⟩:=q;have ef:((List.range (i+1)).filter p).map w=((List.range i).filter p).map w++if p i=true then[w i] else[]:=by
   rw[ji,fq,eA]
   congr 1
   cases z:p i<;>simp only[List.filter_cons,z,List.filter_nil]<;>rfl
  cases hp:p i with
  |true =>
   rw[hp] at q ef;rw[aI rfl] at q ⊢;refine c7 hP elt _ _ _ _ _ _ (λy g4 q=>?_) (λ_ _ z=>z) q;obtain⟨rfl,e4,sh⟩:=q;exact⟨e4,by rw[ef];rfl,sh⟩
  |false =>
   rw[hp] at q ef;rw[aC (by decide)] at q ⊢;exact⟨e3,by rw[ef];simp,q⟩
 ·obtain⟨e1,rfl,sh⟩:=q;exact hd g' e1
theorem comp_map(hP:j9 P)(Sh:S->Prop)(w:Nat->D){k:IK}(hk:∀g',Ex g g'->k.Is l g')(hl:l.length<=1000)(h0:Sh (I9 σ d6 n))(hs:∀i d σ g',l[i]?=some d->Ex g g'->Sh σ->kj t d σ λcV=>bh P elt cV g' (λy g4=>y=w i/\Ex g g4/\Sh cV) jZ)(hd:∀g',Ex g g'->Q (.ref g'.length) (g'++[.lst ((List.range l.length).map w)]))(hi:∀R:IK->G->Prop,R k g->iJ P it σ g R E):bh P (.comp d6 n t it .no elt) σ g Q E:=by
 refine A4 hP Sh (λ_=>true) w hk hl h0 (λi d σ g' hx e sh=>A6 (λcV q=>LM ⟨rfl,e,?_⟩) (hs i d σ g' hx e sh)) (λg' e=>?_) hi
 ·exact nJ q
 ·have:=hd g' e
  rwa [show(List.range l.length).filter (λ_=>true)=List.range l.length from List.filter_eq_self.mpr λ_ _=>rfl]
theorem L8(hP:j9 P){o:ME}(hl:d5 g a=some l)(h:∀Q:KD,Q (.ref a) g->bh P o σ g Q E):∀R:IK->G->Prop,R (.lst a) g->iJ P (.fu o) σ g R E:=λR r=>lF hP (h _ ⟨a,l,rfl,hl,r⟩)
theorem EM{o:ME}(hl:d5 g a=some l)(h:∀Q:KD,Q (.ref a) g->bh P o σ g Q E):∀R:IK->G->Prop,R (.pz a) g->iJ P (.lE o) σ g R E:=λR r=>AI (h _ ⟨a,l,rfl,hl,r⟩)
theorem zM(hP:j9 P){o:ME}(hj:j<=1000)(h:∀Q:KD,Q (.int (j:Nat)) g->bh P o σ g Q E):∀R:IK->G->Prop,R (.fix (l9 0 j)) g->iJ P (.eV o) σ g R E:=λR r=>pI hP (h _ ⟨j,rfl,by omega,by omega,by simpa using r⟩)
end
theorem S4(l:List Nat):b9 l=(l.map λ(i:Nat)=>(i:Int)).map D.int:=by simp[b9]
structure TB0(T:Nat->Option bo):Prop where
 nf:NF T
 h2:T 2=some F6
 tW:T 12=some B5
 wc:Md T
 lV:Ff T
 qh:T 15=some zq
 ON:T 20=some CO
 rW:T 74=some U4
 OG:T 88=some Dr
 OF:T 89=some V6
 tV:T 90=some zC
 vY:T 91=some U3
 OE:T 92=some Dt
 OD:T 93=some Eu
 OC:T 94=some V3
 OB:T 95=some S0
 OA:T 96=some DB
 Oz:T 97=some P0
 BQ:T 100=some DC
 BP:T 101=some DE
 BJ:T 113=some V8
structure TB(T:Nat->Option bo):Prop extends TB0 T where
 vZ:T 42=some E7
 BB:T 98=some O0
 Oy:T 99=some Dp
instance{T:Nat->Option bo}:CoeOut (TB T) (TB0 T):=⟨TB.toTB0⟩
section
variable{T:Nat->Option bo}{d:Nat}
theorem Yv(h1:NF T)(vZ:T 42=some E7){i:Int}(h:1<=i->i<=9->Q .cj g)(hn:¬(1<=i/\i<=9)->E ⟨"BadAnvils"⟩ g):d0 T (k+3) 42 [.int i] g Q E:=by
 refine call_of vZ rfl ?_;dsimp[E7,d8,List.replicate];walk_at"";refine C2 (k:=k) h1 ?_;walk_at"";by_cases hi:1<=i/\i<=9
 ·rw[az hi.1,az hi.2];walk_at"";exact h hi.1 hi.2
 ·have:(decide (1<=i)&&decide (i<=9))=false:=by
   rw[Bool.and_eq_false_iff,dH,dH];omega
  rw[this];walk_at"";exact hn hi
theorem O5(h1:NF T)(lV:Ff T)(rW:T 74=some U4){x:Int}(ha:g[a]?=some (.lst (cs.map b7.d)))(hz:cs.length<=1000)(h:∀g' b,Ex g g'->g.length<=b->g'[b]?=some (.lst (b9 (jS cs w x)))->Q (.ref b) g'):d0 T (k+3) 74 [.ref a,.str w.s,.int x] g Q E:=by
 refine call_of rW rfl ?_;dsimp[U4,d8,List.replicate];walk_at"";refine JT (k:=k+1) h1 ?_;walk_at"";have fld:∀f:Int,(f=0\/f=2)->(∀i c,cs[i]?=some c->meant cs w x i=decide (A9 f c=x))->bh (d0 T (k+2)) (.comp [3,2] 5 (.many [3,4]) (.lE (.var 0)) (.gi (.prim (.cmp .Eq) (.cons (.prim .ix (.cons (.var 4) (.cons (.var 0) .nil))) (.cons (.var 1) .nil)))) (.var 3)) [some (.ref a),some (.str w.s),some (.int x),some (.int f)] g Q E:=λf hf hm=>by
  refine A4 (b0 T _) (λσ=>∃z2 z3 z4,σ=[some (.int f),some (.int x),z2,z3,z4]) (meant cs w x) (λi=>.int (i:Nat)) (l:=nc (cs.map b7.d)) (λg' e=>yX (a9 (e.at ha))) (by rw[M9];simpa using hz) ⟨none,none,none,rfl⟩ (λi d σ g' hx e sh=>?_) (λg' e=>?_) (EM (a9 ha) λQ q=>w_var (d:=.ref a) rfl q)
  ·obtain⟨z2,z3,z4,rfl⟩:=sh;obtain⟨dd,hd,rfl⟩:=zm hx;rw[au,ae] at hd;obtain⟨c,hc,rfl⟩:=hd;refine C0 rfl ?_
   try show dC _ _ _ _ _ _
   walk_at"";refine w6 (M1 hf c) ?_;walk_at"";rw[hm i c hc];refine⟨rfl,e,?_⟩;refine if2 (λ_=>?_) (λ_=>?_)
   ·walk_at"";exact⟨rfl,e,_,_,_,rfl⟩
   ·exact⟨_,_,_,rfl⟩
  ·rw[M9,aj];exact h _ _ (e.trans (Ex.snoc _ _)) e.len b8
 cases w with
 |fU =>
  refine jl (by decide +kernel) ?_;walk_at"";refine A4 (b0 T _) (λσ=>∃z1 z2,σ=[some (.int x),z1,z2]) (meant cs .fU x) (λi=>.int (i:Nat)) (l:=l9 0 cs.length) (λg' e=>u9) (by rw[n5];exact hz) ⟨none,none,rfl⟩ (λi d σ g' hx e sh=>?_) (λg' e=>?_) (zM (b0 T _) hz λQ q=>?_)
  ·obtain⟨z2,z3,rfl⟩:=sh;obtain⟨hi,rfl⟩:=A5 hx;rw[gF];refine j4 ?_
   try show dC _ _ _ _ _ _
   walk_at"";refine⟨rfl,e,?_⟩;refine if2 (λ_=>?_) (λ_=>?_)
   ·walk_at"";exact⟨rfl,e,_,_,rfl⟩
   ·exact⟨_,_,rfl⟩
  ·rw[n5];exact h _ _ (e.trans (Ex.snoc _ _)) e.len b8
  ·walk_at"";rw[aj];exact q
 |lower =>
  refine hU (by decide +kernel) ?_;walk_at"";refine E9 (k:=k) lV (by decide +kernel) (λ_=>?_) (λz=>absurd z (by decide +kernel)) (λz=>absurd rfl z);walk_at"";exact fld 0 (.inl rfl) λi c hc=>by simp only[meant,C5 hc];rfl
 |upper =>
  refine hU (by decide +kernel) ?_;walk_at"";refine E9 (k:=k) lV (by decide +kernel) (λz=>absurd z (by decide +kernel)) (λ_=>?_) (λ_ z=>absurd rfl z);walk_at"";exact fld 2 (.inr rfl) λi c hc=>by simp only[meant,C5 hc];rfl
theorem N4(tV:T 90=some zC){l:List Nat}(ha:g[a]?=some (.lst (b9 l)))(hz:l.length<=1000)(hl:∀i∈l,i<=1000)(h:∀g',Ex g g'->Q (.int (pQ l:Nat)) g'):d0 T (k+1) 90 [.ref a] g Q E:=by
 refine call_of tV rfl ?_;dsimp[zC,d8,List.replicate];walk_at"";refine comp_map (b0 T _) (λσ=>∃z0 z1,σ=[z0,z1]) (λi=>.int ((2 ^ (l.getD i 0):Nat):Int)) (l:=b9 l) (k:=.lst a) (λg' e=>o6 (a9 (e.at ha))) (by simpa[b9] using hz) ⟨none,none,rfl⟩ (λi d σ g' hx e sh=>?_) (λg' e=>?_) (L8 (b0 T _) (a9 ha) λQ q=>w_var (d:=.ref a) rfl q)
 ·obtain⟨z0,z1,rfl⟩:=sh;rw[b9,au,ae] at hx;obtain⟨j,hj,rfl⟩:=hx;refine j4 ?_
  try show bh _ _ _ _ _ _
  walk_at"";have:=hl j (aL hj);refine DJ ⟨by omega,by omega,by decide⟩ ?_;refine⟨?_,e,_,_,rfl⟩;simp[List.getD,hj]
 ·refine XQ (ns:=(List.range l.length).map λi=>((2 ^ (l.getD i 0):Nat):Int)) (a9 (by rw[bx];simpa[b9] using b8)) ?_;have:((List.range l.length).map λi=>((2 ^ (l.getD i 0):Nat):Int)).sum=(pQ l:Nat):=by
   have e2:(List.range l.length).map (λi=>((2 ^ (l.getD i 0):Nat):Int))=(l.map (2 ^ ·)).map λ(n:Nat)=>(n:Int):=by
    refine cz λi=>?_;rw[au,au,au];by_cases hi:i<l.length
    ·rw[cw hi,ao hi];simp[List.getD,hi]
    ·rw[aT (by simpa using hi),aT (by omega)]
     rfl
   rw[e2];unfold pQ;generalize l.map (2 ^ ·)=m
   induction m with
   |nil=>rfl
   |cons x r ih=>simp[ih]
  rw[this];exact h _ (e.trans (Ex.snoc _ _))
theorem Q8(vY:T 91=some U3){s:Nat}(hp:p<=1000)(h:Q (.int ((s |||2 ^ p:Nat):Int)) g):d0 T (k+1) 91 [.int (s:Nat),.int (p:Nat)] g Q E:=by
 refine call_of vY rfl ?_;dsimp[U3,d8,List.replicate];walk_at"";refine DJ ⟨by omega,by omega,by decide⟩ ?_;walk_at"";refine UY ?_;have e:(1:Int)*2 ^ ((p:Nat):Int).toNat=((2 ^ p:Nat):Int):=by simp
 rw[e,Rf];exact h
end
section
variable{T:Nat->Option bo}{d:Nat}
theorem Ks{c:b7}(h:CB c):c.lm.length<=1000/\c.um.length<=1000:=⟨aF h.1 (by decide),aF h.2 (by decide)⟩
theorem aB9(hT:TB0 T){c e:b7}(hc:CB c)(h:∀g',Ex g g'->Q (.bl (mw c e)) g'):d0 T (k+3) 92 [c.d,e.d] g Q E:=by
 refine call_of hT.OE rfl ?_;dsimp[Dt,d8,List.replicate];walk_at"";refine y9 (b0 T _) (vA (b0 T _) ?_);walk_at"";refine⟨_,rfl,_,λi σ g'=>Ex g g'/\(∃z2 z3,σ=[some c.d,some e.d,z2,z3])/\(1<=i->(decide (c.lo=e.lo)&&!jR c.lm e.lm)=false)/\(2<=i->(decide (c.up=e.up)&&!jR c.um e.um)=false),λ_ _ _ _=>u9,⟨Ex.refl _,⟨none,none,rfl⟩,λz=>absurd z (by omega),λz=>absurd z (by omega)⟩,λi x σ g' hx q=>?_,λσ g' q=>?_⟩
 ·obtain⟨e1,⟨z2,z3,rfl⟩,q1,q2⟩:=q;refine j4 ?_
  try show wpS _ _ _ _ _ _
  match i,hx with
  |0,hx =>
   cases hx;walk_at"";refine E9 (k:=k) hT.lV (by decide +kernel) (λ_=>?_) (λz=>absurd z (by decide +kernel)) (λz=>absurd rfl z);walk_at"";refine w6 (l:=[.int c.lo,.tup (c.lm.map .int),.int c.up,.tup (c.um.map .int),.int c.yr]) rfl ?_;walk_at"";refine w6 (l:=[.int e.lo,.tup (e.lm.map .int),.int e.up,.tup (e.um.map .int),.int e.yr]) rfl ?_;walk_at"";refine if2 (λh1=>?_) (λh1=>?_)
   ·walk_at"";refine w6 (l:=[.int c.lo,.tup (c.lm.map .int),.int c.up,.tup (c.um.map .int),.int c.yr]) rfl ?_;walk_at"";refine w6 (l:=[.int e.lo,.tup (e.lm.map .int),.int e.up,.tup (e.um.map .int),.int e.yr]) rfl ?_;walk_at"";refine Jm (k:=k+1) hT.qh (Ks hc).1 λg2 e2=>?_;walk_at"";cases hw:jR c.lm e.lm with
    |false =>
     walk_at"";have:mw c e=true:=by unfold mw;rw[az h1,hw];rfl
     rw[<- this];exact h _ (e1.trans e2)
    |true =>
     walk_at"";exact⟨e1.trans e2,⟨_,_,rfl⟩,λ_=>by rw[az h1];rfl,λz=>absurd z (by omega)⟩
   ·walk_at"";exact⟨e1,⟨_,_,rfl⟩,λ_=>by rw[aK h1];rfl,λz=>absurd z (by omega)⟩
  |1,hx =>
   cases hx;walk_at"";refine E9 (k:=k) hT.lV (by decide +kernel) (λz=>absurd z (by decide +kernel)) (λ_=>?_) (λ_ z=>absurd rfl z);walk_at"";refine w6 (l:=[.int c.lo,.tup (c.lm.map .int),.int c.up,.tup (c.um.map .int),.int c.yr]) rfl ?_;walk_at"";refine w6 (l:=[.int e.lo,.tup (e.lm.map .int),.int e.up,.tup (e.um.map .int),.int e.yr]) rfl ?_;walk_at"";refine if2 (λh1=>?_) (λh1=>?_)
   ·walk_at"";refine w6 (l:=[.int c.lo,.tup (c.lm.map .int),.int c.up,.tup (c.um.map .int),.int c.yr]) rfl ?_;walk_at"";refine w6 (l:=[.int e.lo,.tup (e.lm.map .int),.int e.up,.tup (e.um.map .int),.int e.yr]) rfl ?_;walk_at"";refine Jm (k:=k+1) hT.qh (Ks hc).2 λg2 e2=>?_;walk_at"";cases hw:jR c.um e.um with
    |false =>
     walk_at"";have:mw c e=true:=by unfold mw;rw[az h1,hw];simp
     rw[<- this];exact h _ (e1.trans e2)
    |true =>
     walk_at"";exact⟨e1.trans e2,⟨_,_,rfl⟩,λ_=>q1 (by omega),λ_=>by rw[az h1];rfl⟩
   ·walk_at"";exact⟨e1,⟨_,_,rfl⟩,λ_=>q1 (by omega),λ_=>by rw[aK h1];rfl⟩
  |i+2,hx=>simp at hx
 ·obtain⟨e1,⟨z2,z3,rfl⟩,q1,q2⟩:=q
  try show wpS _ _ _ _ _ _
  walk_at"";have:mw c e=false:=by unfold mw;rw[q1 (by decide),q2 (by decide)];rfl
  rw[<- this];exact h _ e1
theorem a64(hT:TB0 T){c e:b7}(h:Q (.bl (kQ c e)) g):d0 T (k+1) 93 [c.d,e.d] g Q E:=by
 refine call_of hT.OD rfl ?_;dsimp[Eu,d8,List.replicate];walk_at"";refine w6 (l:=[.int e.lo,.tup (e.lm.map .int),.int e.up,.tup (e.um.map .int),.int e.yr]) rfl ?_;walk_at"";refine if2 (λh1=>?_) (λh1=>?_)
 ·walk_at"";refine w6 (l:=[.int c.lo,.tup (c.lm.map .int),.int c.up,.tup (c.um.map .int),.int c.yr]) rfl ?_;walk_at"";have:kQ c e=decide (e.yr<c.yr):=by unfold kQ;rw[az h1];rfl
  rw[<- this];exact h
 ·have:kQ c e=false:=by unfold kQ;rw[aK h1];rfl
  rw[<- this];exact h
def tu(cs:List b7)(q:b7->b7->Bool):List D:=(List.range cs.length).map λi=>.int ((iZ cs.length λj=>q (bU cs j) (bU cs i):Nat):Int)
theorem X6{q:Nat->Bool}:∀i∈(List.range cs.length).filter q,i<cs.length:=λi hi=>bq.mp (bN.mp hi).1
theorem K1{n:Nat}{q:Nat->Bool}:((List.range n).filter q).length<=n:=aF (jw _ _) (by simp)
theorem UR(hT:TB0 T)(ha:g[a]?=some (.lst (cs.map b7.d)))(hz:cs.length<=9)(hB:∀c∈cs,CB c)(h:∀g' b,Ex g g'->g.length<=b->g'[b]?=some (.lst (tu cs mw))->Q (.ref b) g'):d0 T (k+4) 94 [.ref a] g Q E:=by
 refine call_of hT.OC rfl ?_;dsimp[V3,d8,List.replicate];walk_at"";refine comp_map (b0 T _) (λσ=>∃z1 z2,σ=[some (.ref a),z1,z2]) (λi=>.int ((iZ cs.length λj=>mw (bU cs j) (bU cs i):Nat):Int)) (l:=cs.map b7.d) (k:=.lst a) (λg' e=>o6 (a9 (e.at ha))) (by simp;omega) ⟨none,none,rfl⟩ (λi d σ g' hx e sh=>?_) (λg' e=>?_) (L8 (b0 T _) (a9 ha) λQ q=>w_var (d:=.ref a) rfl q)
 ·obtain⟨z1,z2,rfl⟩:=sh;rw[au,ae] at hx;obtain⟨c,hc,rfl⟩:=hx;refine j4 ?_
  try show bh _ _ _ _ _ _
  walk_at"";refine A4 (b0 T _) (λσ=>∃z1 z2 z3,σ=[some c.d,z1,z2,z3]) (λj=>mw (bU cs j) (bU cs i)) (λi=>.int (i:Nat)) (l:=nc (cs.map b7.d)) (k:=.pz a) (λg2 e2=>yX (a9 ((e.trans e2).at ha))) (by rw[M9];simp;omega) ⟨none,none,none,rfl⟩ (λj d σ g2 hx e2 sh=>?_) (λg2 e2=>?_) (EM (a9 (e.at ha)) λQ q=>w_var (d:=.ref a) rfl q)
  ·obtain⟨z1,z2,z3,rfl⟩:=sh;obtain⟨dd,hd,rfl⟩:=zm hx;rw[au,ae] at hd;obtain⟨c',jF,rfl⟩:=hd;refine C0 rfl ?_
   try show dC _ _ _ _ _ _
   walk_at"";refine aB9 (k:=k) hT (hB c' (aL jF)) λg3 e3=>?_;walk_at"";refine⟨by simp only[C5 jF,C5 hc],e2.trans e3,?_⟩;cases mw c' c with
   |true =>
    refine jl rfl ?_;walk_at"";exact⟨rfl,e2.trans e3,_,_,_,rfl⟩
   |false=>exact hU rfl ⟨_,_,_,rfl⟩
  ·walk_at"";refine N4 (k:=k+2) hT.tV (l:=(List.range cs.length).filter λj=>mw (bU cs j) (bU cs i)) (by have:=b8 (g:=g2) (o:=.lst (((List.range (nc (cs.map b7.d)).length).filter λj=>mw (bU cs j) (bU cs i)).map λi=>D.int (i:Nat)));rw[M9,aj] at this ⊢;exact this) (aF K1 (by omega)) (λj hj=>by have:=X6 j hj;omega) λg3 e3=>?_;exact⟨rfl,(e.trans (e2.trans (Ex.snoc _ _))).trans e3,_,_,rfl⟩
 ·refine h _ _ (e.trans (Ex.snoc _ _)) e.len ?_;rw[b8,aj]
  rfl
theorem Zc(hT:TB0 T)(ha:g[a]?=some (.lst (cs.map b7.d)))(hz:cs.length<=9)(h:∀g' b,Ex g g'->g.length<=b->g'[b]?=some (.lst (tu cs kQ))->Q (.ref b) g'):d0 T (k+4) 95 [.ref a] g Q E:=by
 refine call_of hT.OB rfl ?_;dsimp[S0,d8,List.replicate];walk_at"";refine comp_map (b0 T _) (λσ=>∃z1 z2,σ=[some (.ref a),z1,z2]) (λi=>.int ((iZ cs.length λj=>kQ (bU cs j) (bU cs i):Nat):Int)) (l:=cs.map b7.d) (k:=.lst a) (λg' e=>o6 (a9 (e.at ha))) (by simp;omega) ⟨none,none,rfl⟩ (λi d σ g' hx e sh=>?_) (λg' e=>?_) (L8 (b0 T _) (a9 ha) λQ q=>w_var (d:=.ref a) rfl q)
 ·obtain⟨z1,z2,rfl⟩:=sh;rw[au,ae] at hx;obtain⟨c,hc,rfl⟩:=hx;refine j4 ?_
  try show bh _ _ _ _ _ _
  walk_at"";refine A4 (b0 T _) (λσ=>∃z1 z2 z3,σ=[some c.d,z1,z2,z3]) (λj=>kQ (bU cs j) (bU cs i)) (λi=>.int (i:Nat)) (l:=nc (cs.map b7.d)) (k:=.pz a) (λg2 e2=>yX (a9 ((e.trans e2).at ha))) (by rw[M9];simp;omega) ⟨none,none,none,rfl⟩ (λj d σ g2 hx e2 sh=>?_) (λg2 e2=>?_) (EM (a9 (e.at ha)) λQ q=>w_var (d:=.ref a) rfl q)
  ·obtain⟨z1,z2,z3,rfl⟩:=sh;obtain⟨dd,hd,rfl⟩:=zm hx;rw[au,ae] at hd;obtain⟨c',jF,rfl⟩:=hd;refine C0 rfl ?_
   try show dC _ _ _ _ _ _
   walk_at"";refine a64 (k:=k+2) hT ?_;walk_at"";refine⟨by simp only[C5 jF,C5 hc],e2,?_⟩;cases kQ c' c with
   |true =>
    refine jl rfl ?_;walk_at"";exact⟨rfl,e2,_,_,_,rfl⟩
   |false=>exact hU rfl ⟨_,_,_,rfl⟩
  ·walk_at"";refine N4 (k:=k+2) hT.tV (l:=(List.range cs.length).filter λj=>kQ (bU cs j) (bU cs i)) (by have:=b8 (g:=g2) (o:=.lst (((List.range (nc (cs.map b7.d)).length).filter λj=>kQ (bU cs j) (bU cs i)).map λi=>D.int (i:Nat)));rw[M9,aj] at this ⊢;exact this) (aF K1 (by omega)) (λj hj=>by have:=X6 j hj;omega) λg3 e3=>?_;exact⟨rfl,(e.trans (e2.trans (Ex.snoc _ _))).trans e3,_,_,rfl⟩
 ·refine h _ _ (e.trans (Ex.snoc _ _)) e.len ?_;rw[b8,aj]
  rfl
theorem a74(hT:TB0 T)(ha:g[a]?=some (.lst (cs.map b7.d)))(hz:cs.length<=9)(hg:cs.all w9=true)(h:Q (.ref g.length) (g++[.lst ((p8 (cs.map b7.lo)).map .int)])):d0 T (k+7) 20 [.ref a,.str "lower"] g Q E:=by
 refine call_of hT.ON rfl ?_;dsimp[CO,d8,List.replicate];walk_at"";refine Y7 (k:=k) hT.nf hT.h2 hT.tW hT.wc ha (by omega) (λz=>by omega) (λ_ z=>by rw[hg] at z;cases z) λ_ _=>?_;walk_at"";refine E9 (k:=k+4) hT.lV (by decide +kernel) (λ_=>?_) (λz=>absurd z (by decide +kernel)) (λz=>absurd rfl z);walk_at"";refine UN (b0 T _) (lF (b0 T _) ?_);walk_at"";refine⟨a,_,rfl,a9 ha,cs.map b7.d,λi ys σ g'=>∃z w,ys=(cs.take i).map b7.lo/\σ=[some (.int 0),z,w]/\g'=g,by simp;omega,λi ys σ g' p=>?_,⟨none,none,rfl,rfl,rfl⟩,λi c ys σ g' hx p=>?_,λys σ g' p=>?_⟩
 ·obtain⟨z,w,rfl,rfl,rfl⟩:=p;exact⟨o6 (a9 ha),by simp;omega⟩
 ·obtain⟨z,w,rfl,rfl,rfl⟩:=p;rw[au,ae] at hx;obtain⟨c,hc,rfl⟩:=hx;show dC _ _ _ _ _ _;walk_at"";refine w6 (l:=[.int c.lo,.tup (c.lm.map .int),.int c.up,.tup (c.um.map .int),.int c.yr]) rfl ?_;refine⟨_,rfl,_,_,?_,rfl,rfl⟩;rw[bL,hc];simp
 ·obtain⟨z,w,rfl,rfl,rfl⟩:=p;rw[aj,bO];exact h
def W7(cs:List b7):List D:=(p8 (cs.map b7.lo)).map λd=>.int ((iZ cs.length (meant cs .lower d):Nat):Int)
theorem Yc(hT:TB0 T)(ha:g[a]?=some (.lst (cs.map b7.d)))(hz:cs.length<=9)(hg:cs.all w9=true)(h:∀g' b,Ex g g'->g.length<=b->g'[b]?=some (.lst (W7 cs))->Q (.ref b) g'):d0 T (k+8) 96 [.ref a] g Q E:=by
 refine call_of hT.OA rfl ?_;dsimp[DB,d8,List.replicate];walk_at"";have Be:(p8 (cs.map b7.lo)).length<=9:=aF (T2 _) (by simpa using hz);unfold W7 at h;refine L0 (b0 T _) (lF (b0 T _) ?_);walk_at"";refine a74 (k:=k) hT ha hz hg ?_;have e0:=Ex.snoc g (O.lst ((p8 (cs.map b7.lo)).map .int));have hb:=b8 (g:=g) (o:=O.lst ((p8 (cs.map b7.lo)).map .int));generalize p8 (cs.map b7.lo)=ds at *;generalize g++[O.lst (ds.map .int)]=g1 at *;refine⟨_,_,rfl,a9 hb,ds.map .int,λi ys σ g'=>Ex g1 g'/\ys=(ds.take i).map (λd=>.int ((iZ cs.length (meant cs .lower d):Nat):Int))/\∃z1 z2,σ=[some (.ref a),z1,z2],by simp;omega,λi ys σ g' q=>⟨o6 (a9 (q.1.at hb)),?_⟩,⟨Ex.refl _,rfl,none,none,rfl⟩,λi x ys σ g' hx q=>?_,λys σ g' q=>?_⟩
 ·obtain⟨_,rfl,_⟩:=q;simp;omega
 ·obtain⟨e1,rfl,z1,z2,rfl⟩:=q;rw[au,ae] at hx;obtain⟨dd,hd,rfl⟩:=hx;refine j4 ?_
  try show dC _ _ _ _ _ _
  walk_at"";refine O5 (k:=k+4) hT.nf hT.lV hT.rW (w:=.lower) ((e0.trans e1).at ha) (by omega) λg2 b2 e2 _ vS=>?_;walk_at"";refine N4 (k:=k+6) hT.tV vS (aF K1 (by omega)) (λj hj=>by have:=X6 j hj;omega) λg3 e3=>?_;refine⟨e1.trans (e2.trans e3),?_,_,_,rfl⟩;rw[bL,hd];simp[iZ,jS]
 ·obtain⟨e1,rfl,z1,z2,rfl⟩:=q;rw[aj,bO];exact h _ _ (e0.trans (e1.trans (Ex.snoc _ _))) (aF e0.len e1.len) b8
end
theorem U6{i:Int}{k:Bool->Prop}(ha:d5 g a=some (ms.map .int))(h:k (ms.any λm=>m==i)):rC g (.int i) (.ref a) k:=by
 refine⟨_,.inr ⟨_,_,_,ha,K6 ms,rfl,lay_ints ms,by simp[PyData.canLay0],rfl⟩,?_⟩;rw[lz];exact h
theorem zo{l:List Nat}{k:Bool->Prop}(ha:g[a]?=some (.lst (b9 l)))(h:k (decide (i∈l))):rC g (.int (i:Nat)) (.ref a) k:=by
 refine U6 (ms:=l.map λ(i:Nat)=>(i:Int)) (by rw[<- S4];exact a9 ha) ?_;have:((l.map λ(i:Nat)=>(i:Int)).any λm=>m==(i:Int))=decide (i∈l):=by
  rw[aZ,aV,cK];constructor
  ·rintro⟨x,hx,e⟩;obtain⟨j,hj,rfl⟩:=aP.mp hx;rw[bB] at e;rw[show i=j by omega];exact hj
  ·exact λhi=>⟨_,aP.mpr ⟨i,hi,rfl⟩,by simp⟩
 rw[this];exact h
structure oi(g:G)(nb lo n:Nat)(B:Nat->Nat)(F:Nat->Nat->Prop):Prop where
 ex:∃as:List Nat,g[nb]?=some (.lst (as.map .ref))/\as.length=n/\as.Nodup/\(∀a∈as,lo<=a/\a≠nb)/\∀i a,as[i]?=some a->∃ms:List Nat,g[a]?=some (.lst (b9 ms))/\ms.length<=B i/\∀m,m∈ms↔F i m
theorem oi.at{g g':G}{nb lo n:Nat}{B:Nat->Nat}{F:Nat->Nat->Prop}(h:oi g nb lo n B F)(e:Ex g g'):oi g' nb lo n B F:=by
 obtain⟨as,h1,h2,h3,h4,h5⟩:=h.ex;refine⟨⟨as,e.at h1,h2,h3,h4,λi a hi=>?_⟩⟩;obtain⟨ms,m1,m2⟩:=h5 i a hi;exact⟨ms,e.at m1,m2⟩
theorem oi.imp{nb lo:Nat}{B B':Nat->Nat}{F F':Nat->Nat->Prop}(h:oi g nb lo n B F)(hB:∀i,i<n->B i<=B' i)(hF:∀i m,i<n->(F i m↔F' i m)):oi g nb lo n B' F' :=
 let ⟨as,h1,h2,h3,h4,h5⟩:=h.ex
 ⟨⟨as,h1,h2,h3,h4,λi a hi=>let ⟨ms,m1,m2,m3⟩:=h5 i a hi
  have jI:i<n:=by rw[<- h2];exact(aw.mp hi).1
  ⟨ms,m1,aF m2 (hB i jI),λm=>(m3 m).trans (hF i m jI)⟩⟩⟩
def uu(cs:List b7)(rs:List gT)(i m:Nat):Prop:=∃r∈rs,meant cs r.w r.y i=true/\m=iZ cs.length (meant cs r.w r.x)
def u5(rs:List gT):List D:=rs.map gT.d
theorem Jf{l:List α}(h:l.Nodup){a:α}(hi:l[i]?=some a)(hj:l[j]?=some a):i=j:=by
 obtain⟨h1,e1⟩:=aw.mp hi;obtain⟨h2,e2⟩:=aw.mp hj;exact(mj h).mp (e1.trans e2.symm)
section
variable{T:Nat->Option bo}{d:Nat}
theorem Zg(hT:TB0 T)(ha:g[a]?=some (.lst (cs.map b7.d)))(hz:cs.length<=9)(hc:g[c]?=some (.lst (u5 rs)))(hr:rs.length<=900)(h:∀g' b,Ex g g'->g.length<=b->oi g' b g.length cs.length (λ_=>rs.length) (uu cs rs)->Q (.ref b) g'):d0 T (k+4) 97 [.ref a,.ref c] g Q E:=by
 refine call_of hT.Oz rfl ?_;dsimp[P0,d8,List.replicate];walk_at"";refine L0 (b0 T _) (lF (b0 T _) ?_);walk_at"";refine⟨a,_,rfl,a9 ha,cs.map b7.d,λi ys σ g'=>Ex g g'/\(∃as:List Nat,ys=as.map .ref/\as.length=i/\as.Nodup/\∀b∈as,g.length<=b/\g'[b]?=some (.lst []))/\∃z0 z1,σ=[z0,z1],by simp;omega,λi ys σ g' q=>⟨o6 (a9 (q.1.at ha)),?_⟩,⟨Ex.refl _,⟨[],rfl,rfl,by simp,by simp⟩,none,none,rfl⟩,λi x ys σ g' hx q=>?_,λys σ g' q=>?_⟩
 ·obtain⟨_,⟨as,rfl,rfl,_⟩,_⟩:=q;simp
 ·obtain⟨e1,⟨as,rfl,hl,nd,hA⟩,z0,z1,rfl⟩:=q;refine j4 ?_
  try show dC _ _ _ _ _ _
  walk_at"";refine⟨e1.trans (Ex.snoc _ _),⟨as++[g'.length],by simp,by simp[hl],?_,λb hb=>?_⟩,_,_,rfl⟩
  ·rw[cM];exact⟨nd,by simp,λx hx y hy=>by cases bf.mp hy;exact aE (j7 (hA x hx).2)⟩
  ·rcases aU.mp hb with hb|hb
   ·exact⟨(hA b hb).1,(Ex.snoc _ _).at (hA b hb).2⟩
   ·cases bf.mp hb;exact⟨e1.len,b8⟩
 ·obtain⟨e1,⟨as,rfl,hl,nd,hA⟩,z0,z1,rfl⟩:=q;rw[aj] at hl;walk_at"";have e2:=e1.trans (Ex.snoc g' (O.lst (as.map D.ref)));have lo:=e1.len;have N0:oi (g'++[O.lst (as.map D.ref)]) g'.length g.length cs.length (λ_=>0) (uu cs []):=⟨⟨as,b8,hl,nd,λb hb=>⟨(hA b hb).1,aE (j7 (hA b hb).2)⟩,λi b hb=>⟨[],(Ex.snoc _ _).at (hA b (aL hb)).2,by simp,λm=>⟨λz=>absurd z (by simp),λ⟨r,hr,_⟩=>absurd hr (by simp)⟩⟩⟩⟩
  generalize g'++[O.lst (as.map D.ref)]=g1 at *;generalize g'.length=nb at *;refine y9 (b0 T _) (lF (b0 T _) ?_);walk_at"";refine⟨c,_,rfl,a9 (e2.at hc),u5 rs,λi σ g'=>Ex g g'/\oi g' nb g.length cs.length (λ_=>i) (uu cs (rs.take i))/\∃z3 z4 z5 z6 z7,σ=[some (.ref a),some (.ref c),some (.ref nb),z3,z4,z5,z6,z7],λi σ g' q=>o6 (a9 (q.1.at hc)),⟨e2,N0,none,none,none,none,none,rfl⟩,λi x σ g' hx q=>?_,λσ g' q=>?_⟩
  ·obtain⟨e3,N3,z3,z4,z5,z6,z7,rfl⟩:=q;rw[u5,au,ae] at hx;obtain⟨r,eY,rfl⟩:=hx;have hi:i<rs.length:=(aw.mp eY).1;refine C0 (l:=[.str r.w.s,.int r.x,.int r.y]) rfl ?_
   try show wpS _ _ _ _ _ _
   walk_at"";refine O5 (k:=k) hT.nf hT.lV hT.rW (e3.at ha) (by omega) λg4 b4 e4 _ Oe=>?_;walk_at"";refine N4 (k:=k+2) hT.tV Oe (aF K1 (by omega)) (λj hj=>by have:=X6 j hj;omega) λg5 e5=>?_;walk_at"";have yy:=e3.trans (e4.trans e5);have N5:=N3.at (e4.trans e5);have ef:pQ (jS cs r.w r.x)=iZ cs.length (meant cs r.w r.x):=rfl;rw[ef];generalize iZ cs.length (meant cs r.w r.x)=first at *
   refine y9 (b0 T _) (lF (b0 T _) ?_);walk_at"";refine O5 (k:=k) hT.nf hT.lV hT.rW (yy.at ha) (by omega) λg6 b6 e6 hb6 Gy=>?_;refine⟨b6,_,rfl,a9 Gy,b9 (jS cs r.w r.y),λj σ g'=>Ex g g'/\g'[b6]?=some (.lst (b9 (jS cs r.w r.y)))/\oi g' nb g.length cs.length (λq=>i+if q∈(jS cs r.w r.y).take j then 1 else 0) (λq m=>uu cs (rs.take i) q m\/(q∈(jS cs r.w r.y).take j/\m=first))/\(∀as:List Nat,g'[nb]?=some (.lst (as.map .ref))->b6∉as)/\∃z7,σ=[some (.ref a),some (.ref c),some (.ref nb),some (.str r.w.s),some (.int r.x),some (.int r.y),some (.int (first:Nat)),z7],λj σ g' q=>o6 (a9 q.2.1),⟨yy.trans e6,Gy,(N5.at e6).imp (λq _=>by simp) (λq m _=>by simp),?_,z7,rfl⟩,λj x σ g' hx q=>?_,λσ g' q=>?_⟩
   ·intro yS h' hm;obtain⟨Jn,h1,h2,h3,h4,h5⟩:=N5.ex;have:=(e6.at h1).symm.trans h';have e':Jn=yS:=by
     have h0:Jn.map D.ref=yS.map D.ref:=by injection this with w;injection w
     exact(List.map_inj_right (λx y z=>by injection z)).mp h0
    subst e';obtain⟨i',jI⟩:=ju.mp hm;obtain⟨ms,m1,_⟩:=h5 i' b6 jI;have:=j7 m1;omega
   ·obtain⟨e7,p7,N7,xO,z7,rfl⟩:=q;rw[b9,au,ae] at hx;obtain⟨q,hq,rfl⟩:=hx;have hqn:q<cs.length:=X6 q (aL hq);have NJ:q∉(jS cs r.w r.y).take j:=λz=>by
     obtain⟨j',tL⟩:=ju.mp z;have hl:j'<j:=by
      have:=(aw.mp tL).1;simp at this;omega
     rw[qI hl] at tL;have MV:(jS cs r.w r.y).Nodup:=List.nodup_range.filter _;have:=Jf MV tL hq;omega
    have tk:(jS cs r.w r.y).take (j+1)=(jS cs r.w r.y).take j++[q]:=by rw[bL,hq];rfl
    obtain⟨wJ,h1,h2,h3,h4,h5⟩:=N7.ex;have Nz:q<wJ.length:=by omega
    have tQ:=ao Nz;generalize wJ[q]=aq at tQ;obtain⟨ms,m1,m2,m3⟩:=h5 q aq tQ;have gq:gI (wJ.map D.ref) (q:Int)=some (.ref aq):=K8 (by rw[au,tQ];rfl);refine j4 ?_
    try show wpS _ _ _ _ _ _
    walk_at"";refine q9 (a9 h1) gq ?_;refine U9 (zo m1 ?_);walk_at"";by_cases lH:first∈ms
    ·refine hU (by simp[lH]) ?_;walk_at"";refine⟨e7,p7,N7.imp (λq' _=>?_) (λq' m _=>?_),xO,_,rfl⟩
     ·rw[tk];simp only[List.mem_append,List.mem_singleton];by_cases z:q'∈(jS cs r.w r.y).take j
      ·simp[z]
      ·simp[z]
     ·rw[tk];simp only[List.mem_append,List.mem_singleton];constructor
      ·rintro(z|⟨z1,z2⟩)
       ·exact .inl z
       ·exact .inr ⟨.inl z1,z2⟩
      ·rintro(z|⟨z1|z1,z2⟩)
       ·exact .inl z
       ·exact .inr ⟨z1,z2⟩
       ·subst z1 z2;exact(m3 m).mp lH
    ·refine jl (by simp[lH]) ?_;walk_at"";refine q9 (a9 h1) gq ?_
     try refine⟨Y0 m1,?_⟩
     walk_at"";rw[aC NJ] at m2;refine P7 m1 (by simp[b9];omega) ?_;walk_at"";have nN:=aL tQ;have fy:=(h4 aq nN).2;have NK:aq≠b6:=λz=>xO wJ h1 (z▸nN);have Hf:=d4 (o':=O.lst (b9 ms++[D.int (first:Nat)])) h1 fy;refine⟨⟨by simp;exact e7.len,λi' jI=>by rw[ay (by have:=(h4 aq nN).1;omega)];exact e7.old i' jI⟩,d4 p7 NK,⟨⟨wJ,Hf,h2,h3,h4,λi' b hb=>?_⟩⟩,λyS h'=>?_,_,rfl⟩
     ·by_cases yb:i'=q
      ·subst yb;have:b=aq:=by rw[tQ] at hb;injection hb with z;exact z.symm
       subst this;refine⟨ms++[first],by rw[get_set m1];simp[b9],?_,λm=>?_⟩
       ·rw[tk];simp;omega
       ·rw[aU,bf,m3 m,tk];simp only[List.mem_append,List.mem_singleton];constructor
        ·rintro((z|⟨z1,z2⟩)|z)
         ·exact .inl z
         ·exact .inr ⟨.inl z1,z2⟩
         ·exact .inr ⟨.inr trivial,z⟩
        ·rintro(z|⟨z1|z1,z2⟩)
         ·exact .inl (.inl z)
         ·exact .inl (.inr ⟨z1,z2⟩)
         ·exact .inr z2
      ·have tP:aq≠b:=λz=>yb (Jf h3 hb (z▸tQ));obtain⟨Nd,k1,k2,k3⟩:=h5 i' b hb;refine⟨Nd,d4 k1 tP,?_,λm=>(k3 m).trans ?_⟩
       ·rw[tk];simpa[yb] using k2
       ·rw[tk];simp[yb]
     ·rw[Hf] at h';exact xO yS (h1.trans h')
   ·obtain⟨e7,p7,N7,xO,z7,rfl⟩:=q;rw[b9,aj,bO] at N7
    try show wpS _ _ _ _ _ _
    walk_at"";refine⟨e7,N7.imp (λq _=>by split<;>omega) (λq m hq=>?_),_,_,_,_,_,rfl⟩;have tk:rs.take (i+1)=rs.take i++[r]:=by rw[bL,eY];rfl
    unfold uu;rw[tk];simp only[List.mem_append,List.mem_singleton];constructor
    ·rintro(⟨r',h1,h2⟩|⟨h1,h2⟩)
     ·exact⟨r',.inl h1,h2⟩
     ·exact⟨r,.inr rfl,(bN.mp h1).2,by rw[h2];exact ef.symm⟩
    ·rintro⟨r',h1|h1,h2,h3⟩
     ·exact .inl ⟨r',h1,h2,h3⟩
     ·subst h1;exact .inr ⟨bN.mpr ⟨bq.mpr hq,h2⟩,by rw[h3];exact ef⟩
  ·obtain⟨e3,N3,z3,z4,z5,z6,z7,rfl⟩:=q;rw[u5,aj,bO] at N3
   try show wpS _ _ _ _ _ _
   walk_at"";exact h _ _ e3 lo N3
end
def x6(cs:List b7)(r:gT):Bool:=!decide (r.x=r.y)&&(!(jS cs r.w r.x).isEmpty&&!(jS cs r.w r.y).isEmpty)
theorem in_words(h:kb true):rC g (.str w.s) (.tup [.str "coin",.str "lower",.str "upper"]) kb:=by
 refine⟨_,.inr ⟨_,[.str "coin",.str "lower",.str "upper"],.str w.s,rfl,rfl,rfl,by simp only[PyData.canLayAll0,PyData.canLay0,Bool.and_true];decide +kernel,by simp only[PyData.canLay0];cases w<;>decide +kernel,rfl⟩,?_⟩;have:([PyData.str "coin",PyData.str "lower",PyData.str "upper"].any λq=>PyData.eqv q (.str w.s))=true:=by
  simp only[List.any_cons,List.any_nil,PyData.eqv];cases w<;>decide +kernel
 rw[this];exact h
theorem ne_nil{l:List Nat}(ha:g[a]?=some (.lst (b9 l)))(hb:g[b]?=some (.lst []))(h:Q (.bl (!l.isEmpty)) g):da (.cmp .NotEq) [.ref a,.ref b] g Q:=by
 refine zJ (YS (ms:=l.map λ(i:Nat)=>(i:Int)) (ns:=[]) (by rw[<- S4];exact a9 ha) (a9 hb) ?_);have:decide ((l.map λ(i:Nat)=>(i:Int))=[])=l.isEmpty:=by cases l<;>simp
 rw[this];exact h
structure Bd(g:G)(b:Nat)(cs:List b7)(v:Int)(rs:List gT):Prop where
 ex:∃w l d nb,g[b]?=some (.ins "Bounds" [("size",.int cs.length),("full",.int ((2 ^ cs.length-1:Nat):Int)),("room",.int v),("worn_by_place",.ref w),("later_by_place",.ref l),("lower_dies",.ref d),("needed_by_place",.ref nb)]) /\
  g[w]?=some (.lst (tu cs mw))/\g[l]?=some (.lst (tu cs kQ))/\g[d]?=some (.lst (W7 cs))/\oi g nb 0 cs.length (λ_=>rs.length) (uu cs rs)
theorem Bd.at{g g':G}{b:Nat}{cs:List b7}{v:Int}{rs:List gT}(h:Bd g b cs v rs)(e:Ex g g'):Bd g' b cs v rs:=by
 obtain⟨w,l,d,nb,h1,h2,h3,h4,h5⟩:=h.ex;exact⟨⟨w,l,d,nb,e.at h1,e.at h2,e.at h3,e.at h4,h5.at e⟩⟩
theorem ZP(l:List α)(z:α)(q:α->Bool):((List.range l.length).filter λi=>q (l.getD i z)).length=(l.filter q).length:=by
 have e:l=(List.range l.length).map λi=>l.getD i z:=by
  refine cz λi=>?_;rw[au];by_cases hi:i<l.length
  ·rw[cw hi,ao hi];simp[List.getD,hi]
  ·rw[aT (by omega),aT (by simpa using hi)]
   rfl
 conv=>rhs;rw[e,List.filter_map,aj]
 rfl
theorem Lf{q:Nat->Bool}{s:Nat}{S:Nat->Bool}(h:∀i,i<n->s.testBit i=S i):((Builtin.bitAnd ((iZ n q:Nat):Int) (s:Nat)) != 0)=(List.range n).any λi=>S i&&q i:=by
 rw[CA,Nat.and_comm,zh,aZ,aV,aV];constructor
 ·rintro⟨i,h1,h2⟩;exact⟨i,h1,by rw[<- h i (bq.mp h1)];exact h2⟩
 ·rintro⟨i,h1,h2⟩;exact⟨i,h1,by rw[h i (bq.mp h1)];exact h2⟩
theorem a61{s:Nat}(h:s<2 ^ n)(hi:i<n):(2 ^ n-1-s).testBit i=!s.testBit i:=by
 rw[show 2 ^ n-1-s=2 ^ n-(s+1) by omega,Nat.testBit_two_pow_sub_succ h,az hi]
 rfl
theorem Q9(s p i:Nat):(s |||2 ^ p).testBit i=(s.testBit i||decide (i=p)):=by
 rw[Nat.testBit_or,Nat.testBit_two_pow]
 congr 1
 exact iG.mpr eq_comm
theorem Ld{s:Nat}(h:s<2 ^ n)(hp:p<n):s |||2 ^ p<2 ^ n:=Nat.or_lt_two_pow h (zX (by omega) hp)
section
variable{T:Nat->Option bo}{d:Nat}
theorem aD3(hT:TB0 T){r:gT}(ha:g[a]?=some (.lst (cs.map b7.d)))(hz:cs.length<=1000)(h:∀g',Ex g g'->Q (.bl (x6 cs r)) g'):d0 T (k+4) 88 [.ref a,r.d] g Q E:=by
 refine call_of hT.OG rfl ?_;dsimp[Dr,d8,List.replicate];walk_at"";refine C0 (l:=[.str r.w.s,.int r.x,.int r.y]) rfl ?_;walk_at"";refine U9 (in_words ?_);walk_at"";refine if2 (λh1=>?_) (λh1=>?_)
 ·walk_at"";have:x6 cs r=false:=by unfold x6;rw[az h1];rfl
  rw[<- this];exact h _ (Ex.refl _)
 ·walk_at"";refine O5 (k:=k) hT.nf hT.lV hT.rW ha hz λg1 b1 e1 _ vT=>?_;walk_at"";refine ne_nil ((Ex.snoc _ _).at vT) b8 ?_;walk_at"";cases h2:(jS cs r.w r.x).isEmpty with
  |true =>
   refine hU rfl ?_;have:x6 cs r=false:=by unfold x6;rw[aK h1,h2];rfl
   rw[<- this];exact h _ (e1.trans (Ex.snoc _ _))
  |false =>
   refine jl rfl ?_;walk_at"";refine O5 (k:=k) hT.nf hT.lV hT.rW ((e1.trans (Ex.snoc _ _)).at ha) hz λg2 b2 e2 _ vS=>?_;walk_at"";refine ne_nil ((Ex.snoc _ _).at vS) b8 ?_;have:x6 cs r=!(jS cs r.w r.y).isEmpty:=by unfold x6;rw[aK h1,h2];rfl
   rw[<- this];exact h _ ((e1.trans (Ex.snoc _ _)).trans (e2.trans (Ex.snoc _ _)))
theorem Ym(hT:TB0 T)(ha:g[a]?=some (.lst (cs.map b7.d)))(hz:cs.length<=1000)(hc:g[c]?=some (.lst (u5 rs)))(hr:rs.length<=900)(h:rs.all (x6 cs)=true->∀g',Ex g g'->Q .cj g')(hn:rs.all (x6 cs)=false->∀g',Ex g g'->E ⟨"BadRule"⟩ g'):d0 T (k+5) 89 [.ref a,.ref c] g Q E:=by
 refine call_of hT.OF rfl ?_;dsimp[V6,d8,List.replicate];walk_at"";refine y9 (b0 T _) (AI ?_);walk_at"";refine⟨c,_,rfl,a9 hc,nc (u5 rs),λi σ g'=>Ex g g'/\(∃z2 z3,σ=[some (.ref a),some (.ref c),z2,z3])/\(rs.take i).all (x6 cs)=true,λi σ g' q=>yX (a9 (q.1.at hc)),⟨Ex.refl _,⟨none,none,rfl⟩,rfl⟩,λi x σ g' hx q=>?_,λσ g' q=>?_⟩
 ·obtain⟨e1,⟨z2,z3,rfl⟩,q⟩:=q;obtain⟨dd,hd,rfl⟩:=zm hx;rw[u5,au,ae] at hd;obtain⟨r,eY,rfl⟩:=hd;have tk:rs.take (i+1)=rs.take i++[r]:=by rw[bL,eY];rfl
  refine C0 rfl ?_
  try show wpS _ _ _ _ _ _
  walk_at"";refine aD3 (k:=k) hT (e1.at ha) hz λg2 e2=>?_;walk_at"";cases hg:x6 cs r with
  |true =>
   walk_at"";exact⟨e1.trans e2,⟨_,_,rfl⟩,by rw[tk,List.all_append,q];simp[hg]⟩
  |false =>
   walk_at"";have hi:i<rs.length:=(aw.mp eY).1;refine Vj ?_ ?_
   ·have:(i:Int).natAbs<2 ^ 10:=by rw[Mp];omega
    rw[Mp] at this ⊢;by_cases h0:i=0
    ·subst h0;decide
    ·exact cL ((Nat.log2_lt h0).mpr this) (by decide)
   walk_at"";refine Rg rfl ?_;walk_at"";refine hn ?_ _ (e1.trans e2);rw[List.all_eq_false];exact⟨r,aL eY,by rw[hg];decide⟩
 ·obtain⟨e1,⟨z2,z3,rfl⟩,q⟩:=q;rw[M9,u5,aj,bO] at q;exact h q _ e1
theorem Yl(hT:TB0 T)(vZ:T 42=some E7)(BB:T 98=some O0)(ha:g[a]?=some (.lst (cs.map b7.d)))(hz:cs.length<=1000)(hc:g[c]?=some (.lst (u5 rs)))(hr:rs.length<=900)(hm:9<cs.length->E ⟨"TooMany"⟩ g)(hb:cs.length<=9->cs.all w9=false->E ⟨"BadCoin"⟩ g)(hv:cs.length<=9->cs.all w9=true->¬(1<=v/\v<=9)->E ⟨"BadAnvils"⟩ g)(hw:cs.length<=9->cs.all w9=true->1<=v/\v<=9->rs.all (x6 cs)=false->∀g',Ex g g'->E ⟨"BadRule"⟩ g')(h:cs.length<=9->cs.all w9=true->1<=v/\v<=9->rs.all (x6 cs)=true->∀g',Ex g g'->Q .cj g'):d0 T (k+7) 98 [.ref a,.int v,.ref c] g Q E:=by
 refine call_of BB rfl ?_;dsimp[O0,d8,List.replicate];walk_at"";refine Y7 (k:=k) hT.nf hT.h2 hT.tW hT.wc ha hz hm hb λh9 hg=>?_;walk_at"";refine Yv (k:=k+3) hT.nf vZ (λv1 v2=>?_) (hv h9 hg);walk_at"";exact Ym (k:=k+1) hT ha hz hc hr (h h9 hg ⟨v1,v2⟩) (hw h9 hg ⟨v1,v2⟩)
theorem KR{f:Str}(fs:List (Str×D)):(n8 f x fs).length<=fs.length+1:=by
 induction fs with
 |nil=>simp[n8]
 |cons y r ih =>
  unfold n8;split<;>simp
  exact ih
theorem X5{f:Str}{fs:List (Str×D)}(h:fs.length+1<n):(n8 f x fs).length<n:=dh (KR fs) h
theorem X4{f:Str}{fs:List (Str×D)}{m:Nat}(h:fs.length+(m+1)<n):(n8 f x fs).length+m<n:=by
 have:=KR (f:=f) (x:=x) fs;omega
def f3(n:Nat)(v:Int):List (Str×D):=[("size",.int n),("full",.int ((2 ^ n-1:Nat):Int)),("room",.int v)]
theorem Y5(n:Nat)(v:Int):(f3 n v).length=3:=rfl
theorem Yi(hT:TB0 T)(ha:g[a]?=some (.lst (cs.map b7.d)))(hz:cs.length<=9)(hg:cs.all w9=true)(hB:∀c∈cs,CB c)(hc:g[c]?=some (.lst (u5 rs)))(hr:rs.length<=900)(hb:g[b]?=some (.ins "Bounds" []))(h:∀g',g.length<=g'.length->(∀i,i<g.length->i≠b->g'[i]?=g[i]?)->Bd g' b cs v rs->Q .cj g'):d0 T (k+9) 113 [.ref b,.ref a,.int v,.ref c] g Q E:=by
 refine call_of hT.BJ rfl ?_;dsimp[V8,d8,List.replicate];have vg:b≠a:=λz=>by subst z;rw[ha] at hb;cases hb
 have xN:b≠c:=λz=>by subst z;rw[hc] at hb;cases hb
 have lb:=j7 hb;walk_at"";refine Z7 hb (by simp) (by simp) ?_;walk_at"";have oC:=d4 (o':=O.ins "Bounds" (n8 "size" (.int (cs.map b7.d).length) [])) ha vg;refine J8 (a9 oC) ?_;walk_at"";refine DJ ⟨by omega,by simp;omega,by decide⟩ ?_;walk_at"";refine Z7 (get_set hb) (by simp) (by first|(simp;done)|(refine X5 ?_;repeat (first|(rw[Y5];omega)|(simp;done)|refine X4 ?_))) ?_;rw[iY];walk_at"";refine Z7 (get_set hb) (by simp) (by first|(simp;done)|(refine X5 ?_;repeat (first|(rw[Y5];omega)|(simp;done)|refine X4 ?_))) ?_;rw[iY];have e0:n8 "room" (.int v) (n8 "full" (.int (1*2 ^ Int.toNat ((cs.map b7.d).length:Int)-1)) (n8 "size" (.int (cs.map b7.d).length) []))=(f3 cs.length v):=by
  have:(1*2 ^ Int.toNat ((cs.map b7.d).length:Int)-1:Int)=((2 ^ cs.length-1:Nat):Int):=by
   rw[aj,cN,Int.one_mul];have:=kF (n:=cs.length);rw[Int.natCast_sub this];simp
  rw[this,aj]
  rfl
 simp only[e0];have kp:∀(g1:G) (o:O),Ex (g.set b o) g1->(∀i,i<g.length->i≠b->g1[i]?=g[i]?)/\g.length<=g1.length:=λg1 o e=>⟨λi hi hn=>by rw[e.old i (by simpa using hi),ay (cc hn)],by have:=e.len;simpa using this⟩
 generalize ho:O.ins "Bounds" (f3 cs.length v)=o1;have vT:=get_set (o':=o1) hb;have oC:=d4 (o':=o1) ha vg;have rQ:=d4 (o':=o1) hc xN;have k1:=kp _ o1 (Ex.refl _);generalize g.set b o1=g1 at *;subst ho;walk_at"";refine UR (k:=k+4) hT oC hz hB λg2 w e2 hw1 hw=>?_;walk_at"";refine Z7 (e2.at vT) (by simp) (by rw[Y5];omega) ?_;have lw:w≠b:=λz=>by have:=j7 vT;omega
 have Bs:=get_set (o':=O.ins "Bounds" (n8 "worn_by_place" (.ref w) (f3 cs.length v))) (e2.at vT);have Nu:=d4 (o':=O.ins "Bounds" (n8 "worn_by_place" (.ref w) (f3 cs.length v))) hw lw.symm;have yi:=d4 (o':=O.ins "Bounds" (n8 "worn_by_place" (.ref w) (f3 cs.length v))) (e2.at oC) vg;have ye:=d4 (o':=O.ins "Bounds" (n8 "worn_by_place" (.ref w) (f3 cs.length v))) (e2.at rQ) xN;have k3:(∀i,i<g.length->i≠b->(g2.set b (O.ins "Bounds" (n8 "worn_by_place" (.ref w) (f3 cs.length v))))[i]?=g[i]?)/\g.length<=(g2.set b (O.ins "Bounds" (n8 "worn_by_place" (.ref w) (f3 cs.length v)))).length:=⟨λi hi hn=>by rw[ay (cc hn),e2.old i (by have:=k1.2;omega)];exact k1.1 i hi hn,by simp;have:=e2.len;have:=k1.2;omega⟩
 generalize g2.set b (O.ins "Bounds" (n8 "worn_by_place" (.ref w) (f3 cs.length v)))=g3 at *;walk_at"";refine Zc (k:=k+4) hT yi hz λg4 l e4 jM hl=>?_;walk_at"";refine Z7 (e4.at Bs) (by simp) (by first|(simp;done)|(refine X5 ?_;repeat (first|(rw[Y5];omega)|(simp;done)|refine X4 ?_))) ?_;have ll:l≠b:=λz=>by have:=j7 Bs;omega
 generalize ho:O.ins "Bounds" (n8 "later_by_place" (.ref l) (n8 "worn_by_place" (.ref w) (f3 cs.length v)))=o5;have Br:=get_set (o':=o5) (e4.at Bs);have Nt:=d4 (o':=o5) (e4.at Nu) lw.symm;have xZ:=d4 (o':=o5) hl ll.symm;have GX:=d4 (o':=o5) (e4.at yi) vg;have Oa:=d4 (o':=o5) (e4.at ye) xN;have k5:(∀i,i<g.length->i≠b->(g4.set b o5)[i]?=g[i]?)/\g.length<=(g4.set b o5).length:=⟨λi hi hn=>by rw[ay (cc hn),e4.old i (by have:=k3.2;omega)];exact k3.1 i hi hn,by simp;have:=e4.len;have:=k3.2;omega⟩
 generalize g4.set b o5=g5 at *;subst ho;walk_at"";refine Yc (k:=k) hT GX hz hg λg6 dd e6 GS hd=>?_;walk_at"";refine Z7 (e6.at Br) (by simp) (by first|(simp;done)|(refine X5 ?_;repeat (first|(rw[Y5];omega)|(simp;done)|refine X4 ?_))) ?_;have ld:dd≠b:=λz=>by have:=j7 Br;omega
 generalize ho:O.ins "Bounds" (n8 "lower_dies" (.ref dd) (n8 "later_by_place" (.ref l) (n8 "worn_by_place" (.ref w) (f3 cs.length v))))=o7;have Bq:=get_set (o':=o7) (e6.at Br);have Nq:=d4 (o':=o7) (e6.at Nt) lw.symm;have xY:=d4 (o':=o7) (e6.at xZ) ll.symm;have NX:=d4 (o':=o7) hd ld.symm;have Og:=d4 (o':=o7) (e6.at GX) vg;have NZ:=d4 (o':=o7) (e6.at Oa) xN;have k7:(∀i,i<g.length->i≠b->(g6.set b o7)[i]?=g[i]?)/\g.length<=(g6.set b o7).length:=⟨λi hi hn=>by rw[ay (cc hn),e6.old i (by have:=k5.2;omega)];exact k5.1 i hi hn,by simp;have:=e6.len;have:=k5.2;omega⟩
 generalize g6.set b o7=g7 at *;subst ho;walk_at"";refine Zg (k:=k+4) hT Og hz NZ hr λg8 nb e8 xX hn=>?_;walk_at"";refine Z7 (e8.at Bq) (by simp) (by first|(simp;done)|(refine X5 ?_;repeat (first|(rw[Y5];omega)|(simp;done)|refine X4 ?_))) ?_;have lb7:=j7 Bq;have ln:nb≠b:=λz=>by omega
 generalize ho:O.ins "Bounds" (n8 "needed_by_place" (.ref nb) (n8 "lower_dies" (.ref dd) (n8 "later_by_place" (.ref l) (n8 "worn_by_place" (.ref w) (f3 cs.length v)))))=o9;refine h _ (by simp;have:=e8.len;have:=k7.2;omega) (λi hi hn=>by rw[ay (cc hn),e8.old i (by have:=k7.2;omega)];exact k7.1 i hi hn) ⟨⟨w,l,dd,nb,?_,d4 (e8.at Nq) lw.symm,d4 (e8.at xY) ll.symm,d4 (e8.at NX) ld.symm,?_⟩⟩
 ·rw[get_set (e8.at Bq),<- ho]
  rfl
 ·obtain⟨as,q1,q2,q3,q4,q5⟩:=hn.ex;exact⟨⟨as,d4 q1 ln.symm,q2,q3,λx hx=>⟨by omega,(q4 x hx).2⟩,λi x hx=>let ⟨ms,m1,m2⟩:=q5 i x hx;⟨ms,d4 m1 (λz=>by have:=(q4 x (aL hx)).1;omega),m2⟩⟩⟩
end
section
variable{T:Nat->Option bo}{d:Nat}
theorem aE9(hT:TB T)(ha:g[a]?=some (.lst (cs.map b7.d)))(hz:cs.length<=1000)(hB:∀c∈cs,CB c)(hc:g[c]?=some (.lst (u5 rs)))(hr:rs.length<=900)(hm:9<cs.length->E ⟨"TooMany"⟩ g)(hb:cs.length<=9->cs.all w9=false->E ⟨"BadCoin"⟩ g)(hv:cs.length<=9->cs.all w9=true->¬(1<=v/\v<=9)->E ⟨"BadAnvils"⟩ g)(hw:cs.length<=9->cs.all w9=true->1<=v/\v<=9->rs.all (x6 cs)=false->∀g',Ex g g'->E ⟨"BadRule"⟩ g')(h:cs.length<=9->cs.all w9=true->1<=v/\v<=9->rs.all (x6 cs)=true->∀g' b,Ex g g'->g.length<=b->Bd g' b cs v rs->Q (.ref b) g'):d0 T (k+10) 99 [.ref a,.int v,.ref c] g Q E:=by
 refine call_of hT.Oy rfl ?_;dsimp[Dp,d8,List.replicate];walk_at"";refine Yl (k:=k+2) hT.toTB0 hT.vZ hT.BB ha hz hc hr hm hb hv hw λh9 hg hv hR g1 e1=>?_;walk_at"";have x1:=Ex.snoc g1 (O.ins "Bounds" []);refine Yi (k:=k) hT (x1.at (e1.at ha)) h9 hg hB (x1.at (e1.at hc)) hr b8 λg2 l2 o2 B2=>?_;refine⟨rfl,h h9 hg hv hR g2 _ ⟨by have:=e1.len;simp at l2;omega,λi hi=>?_⟩ e1.len B2⟩;have:=e1.len;rw[o2 i (by simp;omega) (by omega),x1.old i (by omega)];exact e1.old i hi
theorem aH2(hT:TB T)(ha:g[a]?=some (.lst (cs.map b7.d)))(hz:cs.length<=9)(hg:cs.all w9=true)(hB:∀c∈cs,CB c)(hv:1<=v/\v<=9)(hc:g[c]?=some (.lst (u5 rs)))(hr:rs.length<=900)(hR:rs.all (x6 cs)=true)(h:∀g' b,Ex g g'->g.length<=b->Bd g' b cs v rs->Q (.ref b) g'):d0 T (k+10) 99 [.ref a,.int v,.ref c] g Q E :=
 aE9 hT ha (by omega) hB hc hr (λz=>by omega) (λ_ z=>by rw[hg] at z;cases z) (λ_ _ z=>absurd hv z) (λ_ _ _ z=>by rw[hR] at z;cases z) λ_ _ _ _=>h
theorem Yo(hT:TB0 T)(B:Bd g b cs v rs)(hz:cs.length<=9){s:Nat}(hs:s<2 ^ cs.length)(hp:p<cs.length)(h:∀g',Ex g g'->Q (.int (ui cs s.testBit p:Nat)) g'):d0 T (k+2) 100 [.ref b,.int (s:Nat),.int (p:Nat)] g Q E:=by
 refine call_of hT.BQ rfl ?_;dsimp[DC,d8,List.replicate];obtain⟨w,l,dd,nb,h1,h2,h3,h4,h5⟩:=B.ex;walk_at"";refine Q8 (k:=k) hT.vY (by omega) ?_;walk_at"";refine pG h1 rfl ?_;walk_at"";have e1:((2 ^ cs.length-1:Nat):Int)-(s:Nat)=((2 ^ cs.length-1-s:Nat):Int):=by omega
 rw[e1];have Be:(p8 (cs.map b7.lo)).length<=9:=aF (T2 _) (by simpa using hz);have GR:(W7 cs).length=(p8 (cs.map b7.lo)).length:=by simp[W7]
 refine A4 (b0 T _) (λσ=>∃z2 z3,σ=[some (.int ((2 ^ cs.length-1-s:Nat):Int)),some (.int ((s |||2 ^ p:Nat):Int)),z2,z3]) (λi=>Z2 cs s.testBit p ((p8 (cs.map b7.lo)).getD i 0)) (λi=>(W7 cs).getD i .cj) (l:=W7 cs) (k:=.lst dd) (λg' e=>o6 (a9 (e.at h4))) (by rw[GR];omega) ⟨none,none,rfl⟩ (λi x σ g' hx e sh=>?_) (λg' e=>?_) (L8 (b0 T _) (a9 h4) λQ q=>?_)
 ·obtain⟨z2,z3,rfl⟩:=sh;have pW:=hx;rw[W7,au,ae] at pW;obtain⟨og,hd,rfl⟩:=pW;have eg:(p8 (cs.map b7.lo)).getD i 0=og:=by simp[List.getD,hd]
  refine j4 ?_
  try show dC _ _ _ _ _ _
  walk_at"";refine wL ?_;walk_at"";have b1:=Lf (n:=cs.length) (q:=meant cs .lower og) (s:=s |||2 ^ p) (S:=λi=>s.testBit i||decide (i=p)) (λi _=>Q9 s p i);have b2:=Lf (n:=cs.length) (q:=meant cs .lower og) (s:=2 ^ cs.length-1-s) (S:=λi=>!s.testBit i) (λi hi=>a61 hs hi);rw[b1,eg];have hu:Z2 cs s.testBit p og=(((List.range cs.length).any λi=>(s.testBit i||decide (i=p))&&meant cs .lower og i)&&(List.range cs.length).any λi=>!s.testBit i&&meant cs .lower og i):=rfl;rw[hu];cases (List.range cs.length).any λi=>(s.testBit i||decide (i=p))&&meant cs .lower og i with
  |false =>
   refine hU rfl ?_;exact⟨rfl,e,hU rfl ⟨_,_,rfl⟩⟩
  |true =>
   refine jl rfl ?_;walk_at"";refine wL ?_;walk_at"";rw[b2,qK];refine⟨rfl,e,?_⟩;cases (List.range cs.length).any λi=>!s.testBit i&&meant cs .lower og i with
   |false=>exact hU rfl ⟨_,_,rfl⟩
   |true =>
    refine jl rfl ?_;walk_at"";refine⟨?_,e,_,_,rfl⟩;simp[List.getD,hx]
 ·refine J8 (a9 b8) ?_;have:(((List.range (W7 cs).length).filter λi=>Z2 cs s.testBit p ((p8 (cs.map b7.lo)).getD i 0)).map λi=>(W7 cs).getD i .cj).length=ui cs s.testBit p:=by
   rw[aj,GR,ZP (p8 (cs.map b7.lo)) 0 (Z2 cs s.testBit p)]
   rfl
  rw[this];exact h _ (e.trans (Ex.snoc _ _))
 ·walk_at"";exact pG h1 rfl q
theorem Kp{q:b7->b7->Bool}(hp:p<cs.length):gI (tu cs q) (p:Int)=some (.int ((iZ cs.length λj=>q (bU cs j) (bU cs p):Nat):Int)):=K8 (by rw[tu,au,cw hp];rfl)
theorem Lg{s:Nat}{q:Nat->Bool}:((Builtin.bitAnd (s:Nat) ((iZ n q:Nat):Int)) != 0)=(List.range n).any λi=>s.testBit i&&q i:=by rw[CA,zh]
theorem Yd(hT:TB0 T)(B:Bd g b cs v rs)(hz:cs.length<=9)(hr:rs.length<=900){s:Nat}(hs:s<2 ^ cs.length)(hp:p<cs.length)(h:∀g',Ex g g'->Q (yu (fault cs v rs s.testBit p)) g'):d0 T (k+3) 101 [.ref b,.int (s:Nat),.int (p:Nat)] g Q E:=by
 refine call_of hT.BP rfl ?_;dsimp[DE,d8,List.replicate];obtain⟨w,l,dd,nb,h1,h2,h3,h4,h5⟩:=B.ex;walk_at"";refine pG h1 rfl ?_;walk_at"";refine q9 (a9 h2) (Kp hp) ?_;refine wL ?_;walk_at"";rw[Lg];cases c1:(List.range cs.length).any λi=>s.testBit i&&mw (bU cs i) (bU cs p) with
 |true =>
  refine jl rfl ?_;walk_at"";have:fault cs v rs s.testBit p="wear":=by unfold fault J6;rw[aI c1]
  rw[this] at h;exact h _ (Ex.refl _)
 |false =>
 refine hU rfl ?_;walk_at"";refine pG h1 rfl ?_;walk_at"";refine q9 (a9 h3) (Kp hp) ?_;refine wL ?_;walk_at"";rw[Lg];cases c2:(List.range cs.length).any λi=>s.testBit i&&kQ (bU cs i) (bU cs p) with
 |true =>
  refine jl rfl ?_;walk_at"";have:fault cs v rs s.testBit p="year":=by unfold fault J6 G0;rw[aC (by rw[c1];decide),aI c2]
  rw[this] at h;exact h _ (Ex.refl _)
 |false =>
 refine hU rfl ?_;walk_at"";refine Yo (k:=k) hT B hz hs hp λg2 e2=>?_;walk_at"";refine pG (e2.at h1) rfl ?_;walk_at"";refine if2 (λc3=>?_) (λc3=>?_)
 ·walk_at"";have:fault cs v rs s.testBit p="anvil":=by unfold fault J6 G0;rw[aC (by rw[c1];decide),aC (by rw[c2];decide),aI c3]
  rw[this] at h;exact h _ e2
 walk_at"";obtain⟨as,q1,q2,q3,q4,q5⟩:=h5.ex;have NG:p<as.length:=by omega
 have Bt:=ao NG;generalize as[p]=ap at Bt;obtain⟨ms,m1,m2,m3⟩:=q5 p ap Bt;refine comp_map (b0 T _) (λσ=>∃z1 z2,σ=[some (.int (s:Nat)),z1,z2]) (λi=>.int ((s &&& ms.getD i 0:Nat):Int)) (l:=b9 ms) (k:=.lst ap) (λg' e=>o6 (a9 ((e2.trans e).at m1))) (by simp[b9];omega) ⟨none,none,rfl⟩ (λi x σ g' hx e sh=>?_) (λg' e=>?_) (L8 (b0 T _) (a9 (e2.at m1)) λQ q=>?_)
 ·obtain⟨z1,z2,rfl⟩:=sh;rw[b9,au,ae] at hx;obtain⟨m,hm,rfl⟩:=hx;refine j4 ?_
  try show bh _ _ _ _ _ _
  walk_at"";refine wL ?_;refine⟨?_,e,_,_,rfl⟩;rw[CA];simp[List.getD,hm]
 ·refine Ww (ns:=(List.range (b9 ms).length).map λi=>((s &&& ms.getD i 0:Nat):Int)) (a9 (by rw[bx];exact b8)) ?_;have en:(((List.range (b9 ms).length).map λi=>((s &&& ms.getD i 0:Nat):Int)).all λn=>n != 0)=P5 cs rs s.testBit p:=by
   rw[aZ,cU];unfold P5;rw[cU];constructor
   ·intro hA r hr;cases AZ:meant cs r.w r.y p with
    |false=>rfl
    |true =>
     have hm:=(m3 (iZ cs.length (meant cs r.w r.x))).mpr ⟨r,hr,AZ,rfl⟩;obtain⟨i,hi⟩:=ju.mp hm;have NS:=(aw.mp hi).1;have:=hA ((s &&& iZ cs.length (meant cs r.w r.x):Nat):Int) (aP.mpr ⟨i,bq.mpr (by simpa[b9] using NS),by simp[List.getD,hi]⟩);rw[zh] at this;exact this
   ·intro hA x hx;obtain⟨i,hi,rfl⟩:=aP.mp hx;have hi:i<ms.length:=by simpa[b9] using hi
    have hm:ms.getD i 0∈ms:=by simp[List.getD,hi]
    obtain⟨r,hr,AZ,em⟩:=(m3 _).mp hm;have:=hA r hr;rw[AZ,Bool.not_true,qL] at this;rw[em,zh];exact this
  rw[en];walk_at"";cases c4:P5 cs rs s.testBit p with
  |true =>
   walk_at"";have:fault cs v rs s.testBit p="":=by unfold fault J6 G0;rw[aC (by rw[c1];decide),aC (by rw[c2];decide),aC c3,aI c4]
   rw[this] at h;exact h _ (e2.trans (e.trans (Ex.snoc _ _)))
  |false =>
   walk_at"";have:fault cs v rs s.testBit p="rule":=by unfold fault J6 G0;rw[aC (by rw[c1];decide),aC (by rw[c2];decide),aC c3,aC (by rw[c4];decide)]
   rw[this] at h;exact h _ (e2.trans (e.trans (Ex.snoc _ _)))
 ·walk_at"";refine pG (e2.at h1) rfl ?_;walk_at"";exact q9 (a9 (e2.at q1)) (K8 (by rw[au,Bt];rfl)) q
end
def ur:bo:=⟨2,5,(.seq (.set 2 (dj (.prim .lst (pP (iO "coin") (iO "coin") (iO "lower") (iO "upper"))) (.call 4 (eM aO (bp 4))))) (.seq (.set 3 (dZ .jU (dZ .len bE))) (.seq (.ifs (fi .Eq bD (iO "lower")) (.seq (.set 3 (dZ .sset (.comp [] 2 (.one 1) (.fu bE) .no (dj bE (bp 0))))) .pass) .pass) (.seq (.ifs (fi .Eq bD (iO "upper")) (.seq (.set 3 (dZ .sset (.comp [] 2 (.one 1) (.fu bE) .no (dj bE (bp 2))))) .pass) .pass) (.seq (.ifs (fi .Lt (dZ .len bT) (bp 2)) (.seq (.ret (.lit .cj)) .pass) .pass) (.seq (.set 4 (.call 4 (eM aO (dZ .len bT)))) (.seq (.ret (.prim .tup (iR bD (dj bT dJ) (dj bT (cA (.bin .Mod) (cA (.bin .Add) (cA (.bin .Add) dJ (bp 1)) (.call 4 (eM aO (cA (.bin .Sub) (dZ .len bT) (bp 1))))) (dZ .len bT)))))) .pass)))))))⟩
def Ew:bo:=⟨2,5,(.seq (.set 2 (.prim .lst .nil)) (.seq (.dP (.one 3) (.eV (dj (.prim .lst (He (bp 0) (bp 0) (bp 1) (bp 1) (bp 2) (bp 4))) (.call 4 (eM aO (bp 6))))) (.seq (.set 4 (.call 105 (eM aO bE))) (.seq (.ifs (fi .IsNot dJ (.lit .cj)) (.seq (.expr (.fg .append bD (fA dJ))) .pass) .pass) .pass))) (.seq (.ret bD) .pass)))⟩
def Du:bo:=⟨4,8,(.seq (.mr (.many [4,5,6]) bT) (.seq (.ifs (fi .Eq dJ (iO "coin")) (.seq (.ret (.jT (cA (.cmp .NotEq) bD fN) (cA (.cmp .In) fh bE))) .pass) .pass) (.seq (.set 7 (.ite (fi .Eq dJ (iO "lower")) (bp 0) (bp 2))) (.seq (.ret (.jT (cA (.cmp .NotEq) (dj (dj aO bD) gH) fN) (cA (.cmp .In) fh (.comp [7,0] 4 (.one 3) (.fu bE) .no (dj (dj bE bT) aO))))) .pass))))⟩
def wU:bo:=⟨5,10,(.seq (.set 5 (dj aO dJ)) (.seq (.dP (.one 6) (.fu bT) (.seq (.dP (.one 7) (.fu (cA .lst (bp 0) (bp 2))) (.seq (.ifs (.eI (fi .Eq (dj (dj aO fN) gH) (dj fh gH)) (.eU (.gi (.call 17 (eM (dj (dj aO fN) (cA (.bin .Add) gH (bp 1))) (dj fh (cA (.bin .Add) gH (bp 1)))))))) (.seq (.ret (iO "wear")) .pass) .pass) .pass)) .pass)) (.seq (.ifs (.eI (fi .Gt (dj fh (bp 4)) (bp 0)) (fi .Gt (dZ .max (cA (.bin .Add) (dZ .lst (bp 0)) (.comp [0] 3 (.one 2) (.fu bT) .no (dj (dj aO bD) (bp 4))))) (dj fh (bp 4)))) (.seq (.ret (iO "year")) .pass) .pass) (.seq (.set 8 (cA (.bin .Add) (.comp [0] 3 (.one 2) (.fu bT) .no (dj (dj aO bD) (bp 0))) (dZ .lst (dj fh (bp 0))))) (.seq (.set 9 (.comp [3,0] 4 (.one 3) (.eV (dZ .len aO)) (fi .NotIn bT aO) (dj (dj bE bT) (bp 0)))) (.seq (.ifs (fi .Gt (dZ .qv (.comp [9] 3 (.one 2) (.fu jK) (fi .In bD aO) bD)) bE) (.seq (.ret (iO "anvil")) .pass) .pass) (.seq (.ifs (.eU (.gi (dZ .all (.comp [3,0,4] 5 (.one 4) (.fu bD) .no (.call 107 (pP bE aO bD dJ)))))) (.seq (.ret (iO "rule")) .pass) .pass) (.seq (.ret (iO "")) .pass))))))))⟩
def yZ:bo:=⟨2,4,(.seq (.mr (.many [2,3]) (.call 26 (eM aO bE))) (.seq (.ret (.prim .tup (iR bD bT (.call 106 (eM aO bD))))) .pass))⟩
structure TBR(T:Nat->Option bo):Prop where
 lf:LF T
 BO:T 105=some ur
 BN:T 106=some Ew
structure qz(T:Nat->Option bo):Prop extends TBR T where
 BD:T 17=some zB
 BL:T 107=some Du
 BK:T 108=some wU
 si:T 110=some yZ
instance{T:Nat->Option bo}:CoeOut (qz T) (TBR T):=⟨qz.toTBR⟩
theorem Ki{x:Int}(hi:i<cs.length)(h:meant cs w x i=true):(jS cs w x).isEmpty=false:=by
 cases e:jS cs w x with
 |nil =>
  have:i∈jS cs w x:=bN.mpr ⟨bq.mpr hi,h⟩;rw[e] at this;cases this
 |cons _ _=>rfl
section
variable{T:Nat->Option bo}{d:Nat}
theorem Jd{ns:List Int}{x:Int}:x∈p8 ns↔x∈ns:=by
 rw[(L7 ns).mem_iff,ST.DF];simp
theorem Lq(ns:List Int):(p8 ns).Nodup:=(L7 ns).nodup_iff.mpr (ST.Dv _ _ (by simp))
theorem Jh(hT:TBR T)(D0:j6 g d){L:List Int}{sL:Nat}(hN:N.rt=Q)(hL:g[sL]?=some (.lst (L.map .int)))(hd:sL≠d)(nd:L.Nodup)(hl:L.length<=9)(hm:∀x∈L,(jS cs w x).isEmpty=false)(h:∀g',j6 g' d->Gr d g g'->Q .cj g'/\∀r,x6 cs r=true->Q r.d g'):wpS (d0 T (k+1)) (match ur.body with|.seq _ (.seq _ (.seq _ (.seq _ b)))=>b|x=>x) N [some (.ref d),some (.ref a),some (.str w.s),some (.ref sL),none] g E:=by
 subst hN;dsimp[ur];walk_at"";refine if2 (λh2=>?_) (λh2=>?_)
 ·walk_at"";exact(h g D0 (Gr.refl _ _)).1
 rw[aj] at h2;walk_at"";refine i8 (k:=k) hT.lf.pull D0 (by rw[aj];omega) (by rw[aj];omega) λr1 g1 h0 h1 D1 G1=>?_;rw[aj] at h1;walk_at"";obtain⟨j,rfl⟩:∃j:Nat,r1=j:=⟨r1.toNat,by omega⟩
 have hj:j<L.length:=by omega
 have gj:gI (L.map D.int) (j:Int)=some (.int L[j]):=K8 (by rw[au,ao hj];rfl);refine q9 (a9 (G1.at hd hL)) gj ?_;walk_at"";refine J8 (a9 (G1.at hd hL)) ?_;walk_at"";refine i8 (k:=k) hT.lf.pull D1 (by rw[aj];omega) (by rw[aj];omega) λr2 g2 k0 k1 D2 G2=>?_;rw[aj] at k1;walk_at"";have rS:=(G1.trans G2).at hd hL;refine J8 (a9 rS) ?_;walk_at"";refine Q3 (by rw[aj];omega) ?_;obtain⟨j2,rfl⟩:∃j:Nat,r2=j:=⟨r2.toNat,by omega⟩
 have em:((j:Int)+1+(j2:Nat)) % ((L.map D.int).length:Nat)=(((j+1+j2) % L.length:Nat):Int):=by rw[aj,Int.natCast_emod,show((j+1+j2:Nat):Int)=(j:Int)+1+(j2:Nat) by omega]
 rw[em];have rK:(j+1+j2) % L.length<L.length:=Ml _ (by omega);have fy:(j+1+j2) % L.length≠j:=by
  by_cases hc:j+1+j2<L.length
  ·rw[Nat.mod_eq_of_lt hc];omega
  ·rw[Nat.mod_eq_sub_mod (by omega),Nat.mod_eq_of_lt (by omega)];omega
 generalize (j+1+j2) % L.length=j3 at *;have OV:gI (L.map D.int) (j3:Int)=some (.int L[j3]):=K8 (by rw[au,ao rK];rfl);refine q9 (a9 rS) OV ?_;walk_at"";refine(h g2 D2 (G1.trans G2)).2 ⟨w,L[j],L[j3]⟩ ?_;unfold x6;rw[hm _ (cG hj),hm _ (cG rK),aK (λz=>fy ((mj nd).mp z).symm)]
 rfl
theorem Uk(hT:TBR T)(ha:g[a]?=some (.lst (cs.map b7.d)))(hz:cs.length<=9)(hd:d<a)(D0:j6 g d)(h:∀g',j6 g' d->Gr d g g'->Q .cj g'/\∀r,x6 cs r=true->Q r.d g'):d0 T (k+2) 105 [.ref d,.ref a] g Q E:=by
 refine call_of hT.BO rfl ?_;dsimp[ur,d8,List.replicate];walk_at"";refine i8 (k:=k) hT.lf.pull (D0.snoc _) (by decide) (by decide) λr0 g1 h0 h1 D1 G1=>?_;have Fe:=(Gr.snoc d g _).trans G1;have oC:=Fe.at (bQ hd) ha;have l1:=Fe.len;have dl:=D0.lt;have hw:∃w:RW,gI [D.str "coin",D.str "coin",D.str "lower",D.str "upper"] r0=some (.str w.s):=by
  obtain⟨j,rfl⟩:∃j:Nat,r0=j:=⟨r0.toNat,by omega⟩
  have:j=0\/j=1\/j=2\/j=3:=by omega
  rcases this with rfl|rfl|rfl|rfl
  ·exact⟨.fU,rfl⟩
  ·exact⟨.fU,rfl⟩
  ·exact⟨.lower,rfl⟩
  ·exact⟨.upper,rfl⟩
 obtain⟨w,hw⟩:=hw;walk_at"";refine q9 (a9 (G1.at (bQ dl) b8)) hw ?_;walk_at"";refine Gf (by omega) (by simp;omega) ?_;walk_at"";have e2:=Ex.snoc g1 (O.lst (l9 0 (Int.toNat ((cs.map b7.d).length:Nat))));have pY:=b8 (g:=g1) (o:=O.lst (l9 0 (Int.toNat ((cs.map b7.d).length:Nat))));generalize g1++[O.lst (l9 0 (Int.toNat ((cs.map b7.d).length:Nat)))]=g2 at *;have yj:=e2.at oC;have D2:=e2.draw D1;have G2:=Fe.trans (e2.gr d);have fld:∀(f:Int) (w:RW) (N:Ends),(f=0\/f=2)->(∀i c,cs[i]?=some c->∀x,meant cs w x i=decide (A9 f c=x))->N.rt=Q->bh (d0 T (k+1)) (.prim .sset (.cons (.comp [] 2 (.one 1) (.fu (.var 1)) .no (.prim .ix (.cons (.var 1) (.cons (.lit (.int f)) .nil)))) .nil)) [some (.ref d),some (.ref a),some (.str w.s),some (.ref g1.length),none] g2 (λx g3=>wpS (d0 T (k+1)) (match ur.body with|.seq _ (.seq _ (.seq _ (.seq _ b)))=>b|x=>x) N [some (.ref d),some (.ref a),some (.str w.s),some x,none] g3 E) E:=λf w N hf hm hN=>by
  walk_at"";refine comp_map (b0 T _) (λσ=>∃z0 z1,σ=[z0,z1]) (λi=>.int (A9 f (bU cs i))) (l:=cs.map b7.d) (k:=.lst a) (λg' e=>o6 (a9 (e.at yj))) (by simp;omega) ⟨none,none,rfl⟩ (λi x σ g' hx e sh=>?_) (λg' e=>?_) (L8 (b0 T _) (a9 yj) λQ q=>w_var (d:=.ref a) rfl q)
  ·obtain⟨z0,z1,rfl⟩:=sh;rw[au,ae] at hx;obtain⟨c,hc,rfl⟩:=hx;refine j4 ?_
   try show bh _ _ _ _ _ _
   walk_at"";refine w6 (M1 hf c) ?_;exact⟨by rw[C5 hc],e,_,_,rfl⟩
  ·refine Kg (ns:=(List.range cs.length).map λi=>A9 f (bU cs i)) (a9 (by rw[bx];rw[b8,aj];rfl)) (by simp;omega) ?_;have e3:=(e.trans (Ex.snoc g' (O.lst ((List.range (cs.map b7.d).length).map λi=>D.int (A9 f (bU cs i)))))).trans (Ex.snoc _ (O.lst ((p8 ((List.range cs.length).map λi=>A9 f (bU cs i))).map .int)));have Be:(p8 ((List.range cs.length).map λi=>A9 f (bU cs i))).length<=9:=aF (T2 _) (by simpa using hz);refine Jh (k:=k) hT (e3.draw D2) hN b8 (by have:=D2.lt;have:=e.len;simp;omega) (Lq _) Be (λx hx=>?_) λg4 D4 G4=>h g4 D4 (G2.trans ((e3.gr d).trans G4));rw[Jd] at hx;obtain⟨i,hi,rfl⟩:=aP.mp hx;have hi:=bq.mp hi;have hc:=ao hi;refine Ki hi ?_;rw[hm i _ hc,C5 hc];exact az rfl
 cases w with
 |fU =>
  refine hU (by decide +kernel) ?_;walk_at"";refine hU (by decide +kernel) ?_
  try refine K9 ?_
  have er:l9 0 (Int.toNat ((cs.map b7.d).length:Nat))=((List.range cs.length).map λ(i:Nat)=>(i:Int)).map D.int:=by
   simp[l9]
  refine Jh (k:=k) hT (w:=.fU) (L:=(List.range cs.length).map λ(i:Nat)=>(i:Int)) D2 rfl (by rw[<- er];exact pY) (by omega) ?_ (by simpa using hz) (λx hx=>?_) λg4 D4 G4=>h g4 D4 (G2.trans G4)
  ·exact fF.mpr (List.nodup_range.imp λh e=>h (by omega))
  ·obtain⟨i,hi,rfl⟩:=aP.mp hx;exact Ki (bq.mp hi) (az rfl)
 |lower =>
  refine jl (by decide +kernel) ?_;refine R0 ?_;refine yR ?_;refine c7 (b0 T _) _ _ _ _ _ _ _ (λx g3 q=>?_) (λ_ _ z=>z) (fld 0 .lower ⟨λ_ g'=>Q .cj g',Q,λ_ _=>False,λ_ _=>False⟩ (.inl rfl) (λi c hc x=>by simp only[meant,C5 hc];rfl) rfl);refine yQ ?_;walk_at"";refine hU (by decide +kernel) ?_
  try refine K9 ?_
  exact q
 |upper =>
  refine hU (by decide +kernel) ?_;walk_at"";refine jl (by decide +kernel) ?_;refine R0 ?_;refine yR ?_;exact fld 2 .upper _ (.inr rfl) (λi c hc x=>by simp only[meant,C5 hc];rfl) rfl
end
section
variable{T:Nat->Option bo}{d:Nat}
theorem a30(hT:TBR T)(ha:g[a]?=some (.lst (cs.map b7.d)))(hz:cs.length<=9)(hd:d<a)(D0:j6 g d)(h:∀(rs:List gT) b g',rs.length<=4->rs.all (x6 cs)=true->g'[b]?=some (.lst (u5 rs))->g.length<=b->j6 g' d->Gr d g g'->Q (.ref b) g'):d0 T (k+3) 106 [.ref d,.ref a] g Q E:=by
 refine call_of hT.BN rfl ?_;dsimp[Ew,d8,List.replicate];walk_at"";have dl:=D0.lt;have e1:=Ex.snoc g (O.lst []);have GO:=b8 (g:=g) (o:=O.lst []);have D1:=D0.snoc (O.lst []);generalize g++[O.lst []]=g1 at *;refine y9 (b0 T _) (pI (b0 T _) ?_);walk_at"";refine i8 (k:=k+1) hT.lf.pull (D1.snoc _) (by decide) (by decide) λr0 g2 h0 h1 D2 G2=>?_;have l1:=j7 GO;have hw:∃j:Nat,j<=4/\gI [D.int 0,D.int 0,D.int 1,D.int 1,D.int 2,D.int 4] r0=some (.int (j:Nat)):=by
  obtain⟨j,rfl⟩:∃j:Nat,r0=j:=⟨r0.toNat,by omega⟩
  have:j=0\/j=1\/j=2\/j=3\/j=4\/j=5:=by omega
  rcases this with rfl|rfl|rfl|rfl|rfl|rfl
  ·exact⟨0,by decide,rfl⟩
  ·exact⟨0,by decide,rfl⟩
  ·exact⟨1,by decide,rfl⟩
  ·exact⟨1,by decide,rfl⟩
  ·exact⟨2,by decide,rfl⟩
  ·exact⟨4,by decide,rfl⟩
 obtain⟨j,hj,hw⟩:=hw;refine q9 (a9 (G2.at (by omega) b8)) hw ?_;refine⟨j,rfl,by omega,by omega,_,λi σ g'=>j6 g' d/\Gr d g g'/\(∃rs:List gT,rs.length<=i/\rs.all (x6 cs)=true/\g'[g.length]?=some (.lst (u5 rs)))/\∃z3 z4,σ=[some (.ref d),some (.ref a),some (.ref g.length),z3,z4],λ_ _ _ _=>u9,⟨D2,(e1.gr d).trans ((Gr.snoc d g1 _).trans G2),⟨[],by simp,rfl,((Gr.snoc d g1 _).trans G2).at (by omega) GO⟩,none,none,rfl⟩,λi x σ g' hx q=>?_,λσ g' q=>?_⟩
 ·obtain⟨D3,G3,⟨rs,hl,hA,hF⟩,z3,z4,rfl⟩:=q;obtain⟨hi,rfl⟩:=A5 hx;have hi:i<j:=by simpa using hi
  refine j4 ?_
  try show wpS _ _ _ _ _ _
  walk_at"";have yi:=G3.at (bQ hd) ha;refine Uk (k:=k) hT yi hz hd D3 λg4 D4 G4=>⟨?_,λr hr=>?_⟩
  ·walk_at"";exact⟨D4,G3.trans G4,⟨rs,by omega,hA,G4.at (by omega) hF⟩,_,_,rfl⟩
  ·walk_at"";refine jl rfl ?_;walk_at"";have By:=G4.at (by omega) hF
   try refine⟨Y0 By,?_⟩
   walk_at"";refine P7 By (by simp[u5];omega) ?_;walk_at"";refine⟨D4.J9 (by omega),(G3.trans G4).J9 (av _),⟨rs++[r],by simp;omega,by rw[List.all_append,hA];simp[hr],?_⟩,_,_,rfl⟩;rw[get_set By];simp[u5]
 ·obtain⟨D3,G3,⟨rs,hl,hA,hF⟩,z3,z4,rfl⟩:=q;rw[n5] at hl
  try show wpS _ _ _ _ _ _
  walk_at"";exact h rs _ _ (by simp at hl;omega) hA hF (av _) D3 G3
theorem a32(hT:TBR T)(si:T 110=some yZ){n:Int}(hn:0<=n/\n<=9)(D0:j6 g d)(h:∀(cs:List b7) (rs:List gT) a c (v:Int) g',(cs.length:Int)<=n->(∀c∈cs,ka c)->g'[a]?=some (.lst (cs.map b7.d))->g.length<=a->rs.length<=4->rs.all (x6 cs)=true->g'[c]?=some (.lst (u5 rs))->g.length<=c->a≠c->1<=v->v<=6->j6 g' d->Gr d g g'->Q (.tup [.ref a,.int v,.ref c]) g'):d0 T (k+5) 110 [.ref d,.int n] g Q E:=by
 refine call_of si rfl ?_;dsimp[yZ,d8,List.replicate];walk_at"";refine ZW (k:=k) hT.lf ⟨hn.1,by omega⟩ D0 λcs a v g1 hl hg ha yh v1 v2 D1 G1=>?_;refine C0 rfl ?_
 try show wpS _ _ _ _ _ _
 walk_at"";have dl:=D0.lt;refine a30 (k:=k+1) hT ha (by omega) (by omega) D1 λrs c g2 hr hR hc jX D2 G2=>?_;walk_at"";exact h cs rs a c v g2 hl hg (G2.at (by omega) ha) yh hr hR hc (aF G1.len jX) (aE (aA (j7 ha) jX)) v1 v2 D2 (G1.trans G2)
theorem SQ{x:Int}:((H.map λ(i:Nat)=>(i:Int)).any λm=>m==x)=H.any λi=>decide ((i:Int)=x):=by
 rw[lz]
 rfl
theorem yT(hH:∀i∈H,i<n)(q:Nat->Bool):((List.range n).any λi=>decide (i∈H)&&q i)=H.any q:=by
 rw[aZ,aV,aV];constructor
 ·rintro⟨i,_,h⟩;rw[aW,cK] at h;exact⟨i,h.1,h.2⟩
 ·rintro⟨i,h1,h2⟩;exact⟨i,bq.mpr (hH i h1),by rw[az h1,h2];rfl⟩
theorem K7(hi:i<cs.length):gI (cs.map b7.d) (i:Int)=some (bU cs i).d:=K8 (by rw[au,ao hi,C5 (ao hi)];rfl)
theorem aA7(hT:qz T){r:gT}(ha:g[a]?=some (.lst (cs.map b7.d)))(hh:g[hl]?=some (.lst (b9 H)))(hH:∀i∈H,i<cs.length)(rT:H.length<=50)(hp:p<cs.length)(h:∀g',Ex g g'->Q (.bl (!meant cs r.w r.y p||(List.range cs.length).any λi=>decide (i∈H)&&meant cs r.w r.x i)) g'):d0 T (k+1) 107 [.ref a,.ref hl,.int (p:Nat),r.d] g Q E:=by
 refine call_of hT.BL rfl ?_;dsimp[Du,d8,List.replicate];simp only[yT hH] at h;walk_at"";refine C0 (l:=[.str r.w.s,.int r.x,.int r.y]) rfl ?_;walk_at"";have og:∀(w:RW) (f:Int),(f=0\/f=2)->(∀i x,meant cs w x i=decide (A9 f (bU cs i)=x))->(∀g',Ex g g'->Q (.bl (!meant cs w r.y p||H.any λi=>meant cs w r.x i)) g')->bh (d0 T k) (.jT (.prim (.cmp .NotEq) (.cons (.prim .ix (.cons (.prim .ix (.cons (.var 0) (.cons (.var 2) .nil))) (.cons (.var 7) .nil))) (.cons (.var 6) .nil))) (.prim (.cmp .In) (.cons (.var 5) (.cons (.comp [7,0] 4 (.one 3) (.fu (.var 1)) .no (.prim .ix (.cons (.prim .ix (.cons (.var 1) (.cons (.var 3) .nil))) (.cons (.var 0) .nil)))) .nil)))) [some (.ref a),some (.ref hl),some (.int (p:Nat)),some r.d,some (.str w.s),some (.int r.x),some (.int r.y),some (.int f)] g Q E:=λw f hf hm h=>by
  walk_at"";refine q9 (a9 ha) (K7 hp) ?_;walk_at"";refine w6 (M1 hf _) ?_;walk_at"";rw[hm] at h;by_cases c1:A9 f (bU cs p)=r.y
  ·refine hU (by rw[az c1];rfl) ?_;walk_at"";refine comp_map (b0 T _) (λσ=>∃z2 z3,σ=[some (.int f),some (.ref a),z2,z3]) (λi=>.int (A9 f (bU cs (H.getD i 0)))) (l:=b9 H) (k:=.lst hl) (λg' e=>o6 (a9 (e.at hh))) (by simp[b9];omega) ⟨none,none,rfl⟩ (λi x σ g' hx e sh=>?_) (λg' e=>?_) (L8 (b0 T _) (a9 hh) λQ q=>w_var (d:=.ref hl) rfl q)
   ·obtain⟨z2,z3,rfl⟩:=sh;rw[b9,au,ae] at hx;obtain⟨j,hj,rfl⟩:=hx;refine j4 ?_
    try show bh _ _ _ _ _ _
    walk_at"";refine q9 (a9 (e.at ha)) (K7 (hH j (aL hj))) ?_;walk_at"";refine w6 (M1 hf _) ?_;exact⟨by simp[List.getD,hj],e,_,_,rfl⟩
   ·refine ue (U6 (ms:=(List.range (b9 H).length).map λi=>A9 f (bU cs (H.getD i 0))) (a9 (by rw[bx];exact b8)) ?_);have e2:(((List.range (b9 H).length).map λi=>A9 f (bU cs (H.getD i 0))).any λm=>m==r.x)=(H.any λi=>meant cs w r.x i):=by
     rw[lz,aZ,aV,aV];constructor
     ·rintro⟨i,hi,h1⟩;have hi:i<H.length:=by simpa[b9] using hi
      refine⟨H[i],cG hi,?_⟩;rw[hm];simpa[List.getD,hi] using h1
     ·rintro⟨j,hj,h1⟩;obtain⟨i,hi,rfl⟩:=bz.mp hj;refine⟨i,by simpa[b9] using hi,?_⟩;rw[hm] at h1;simpa[List.getD,hi] using h1
    rw[e2];simp only[decide_eq_true c1,Bool.not_true,Bool.false_or] at h;exact h _ (e.trans (Ex.snoc _ _))
  ·refine jl (by rw[aK c1];rfl) ?_;have:=h _ (Ex.refl _);rw[aK c1] at this;exact this
 obtain⟨w,x,y⟩:=r;cases w with
 |fU =>
  refine jl (show decide (RW.fU.s="coin")=true from by decide +kernel) ?_;walk_at"";by_cases c1:((p:Nat):Int)=y
  ·refine hU (by rw[az c1];rfl) ?_;walk_at"";refine ue (U6 (ms:=H.map λ(i:Nat)=>(i:Int)) (by rw[<- S4];exact a9 hh) ?_);rw[SQ];have:=h _ (Ex.refl _);rw[show meant cs .fU y p=true from az c1] at this;exact this
  ·refine jl (by rw[aK c1];rfl) ?_;have:=h _ (Ex.refl _);rw[show meant cs .fU y p=false from aK c1] at this;exact this
 |lower =>
  refine hU (show decide (RW.lower.s="coin")=false from by decide +kernel) ?_;walk_at"";refine jl (show decide (RW.lower.s="lower")=true from by decide +kernel) ?_;refine w_lit (R0 (Ej ?_));exact og .lower 0 (.inl rfl) (λi x=>rfl) h
 |upper =>
  refine hU (show decide (RW.upper.s="coin")=false from by decide +kernel) ?_;walk_at"";refine hU (show decide (RW.upper.s="lower")=false from by decide +kernel) ?_;refine w_lit (R0 (Ej ?_));exact og .upper 2 (.inr rfl) (λi x=>rfl) h
end
theorem Jw:∀{ns:List Int},ns≠[]->∃M∈ns,∀x∈ns,x<=M
 |[],h=>absurd rfl h
 |[x],_=>⟨x,by simp,by simp⟩
 |x::y::r,_=>by
  obtain⟨M,h1,h2⟩:=Jw (ns:=y::r) (by simp);by_cases h:x<=M
  ·refine⟨M,bG _ h1,λz hz=>?_⟩;rcases aH.mp hz with rfl|hz
   ·exact h
   ·exact h2 z hz
  ·refine⟨x,by simp,λz hz=>?_⟩;rcases aH.mp hz with rfl|hz
   ·exact dR _
   ·have:=h2 z hz;omega
theorem a29{l m:List Int}(hl:l.Nodup)(hm:m.Nodup)(h:∀x,x∈l↔x∈m):l.length=m.length:=((List.perm_ext_iff_of_nodup hl hm).mpr h).length_eq
noncomputable abbrev kB(H:List Nat):Nat->Bool:=λi=>decide (i∈H)
def fTail(n:Nat):MS->MS
 |.seq a b=>match n with
  |0=>.seq a b
  |n+1=>fTail n b
 |x=>x
section
variable{T:Nat->Option bo}{d:Nat}
theorem Jx(hT:qz T)(hN:N.rt=Q){z6 z7:Option D}(ha:g[a]?=some (.lst (cs.map b7.d)))(hz:cs.length<=9)(hc:g[c]?=some (.lst (u5 rs)))(hr:rs.length<=900)(hh:g[hl]?=some (.lst (b9 H)))(hH:∀i∈H,i<cs.length)(rT:H.length<=50)(hp:p<cs.length)(w1:J6 cs (kB H) p=false)(w2:G0 cs (kB H) p=false)(h:∀g',Ex g g'->Q (.str (fault cs v rs (kB H) p)) g') :
  wpS (d0 T (k+1)) (fTail 3 wU.body) N [some (.ref a),some (.int v),some (.ref c),some (.ref hl),some (.int (p:Nat)),some (bU cs p).d,z6,z7,none,none] g E:=by
 subst hN;dsimp[wU,fTail];walk_at"";refine comp_map (b0 T _) (λσ=>∃z1 z2,σ=[some (.ref a),z1,z2]) (λi=>.int (bU cs (H.getD i 0)).lo) (l:=b9 H) (k:=.lst hl) (λg' e=>o6 (a9 (e.at hh))) (by simp[b9];omega) ⟨none,none,rfl⟩ (λi x σ g' hx e sh=>?_) (λg1 e1=>?_) (L8 (b0 T _) (a9 hh) λQ q=>w_var (d:=.ref hl) rfl q)
 ·obtain⟨z1,z2,rfl⟩:=sh;rw[b9,au,ae] at hx;obtain⟨j,hj,rfl⟩:=hx;refine j4 ?_
  try show bh _ _ _ _ _ _
  walk_at"";refine q9 (a9 (e.at ha)) (K7 (hH j (aL hj))) ?_;walk_at"";refine w6 (M1 (.inl rfl) _) ?_;exact⟨by simp[List.getD,hj,A9],e,_,_,rfl⟩
 have e2:=e1.trans (Ex.snoc g1 (O.lst ((List.range (b9 H).length).map λi=>D.int (bU cs (H.getD i 0)).lo)));have eh:(List.range (b9 H).length).map (λi=>D.int (bU cs (H.getD i 0)).lo)=(H.map λi=>(bU cs i).lo).map D.int:=by
  rw[bx];refine cz λi=>?_;rw[au,au];by_cases hi:i<H.length
  ·rw[cw (by simpa[b9] using hi),ao hi];simp[List.getD,hi]
  ·rw[aT (by simpa[b9] using hi),aT (by omega)]
   rfl
 rw[eh] at e2 ⊢;have h2:=b8 (g:=g1) (o:=O.lst ((H.map λi=>(bU cs i).lo).map D.int));generalize g1++[O.lst ((H.map λi=>(bU cs i).lo).map D.int)]=g2 at *;walk_at"";refine w6 (M1 (.inl rfl) _) ?_;walk_at"";have e3:=Ex.snoc g2 (O.lst [D.int (A9 0 (bU cs p))]);refine DL (e3.at h2) b8 (by simp;omega) ?_;have e4:=(e2.trans e3).trans (Ex.snoc _ (O.lst ((H.map λi=>(bU cs i).lo).map D.int++[D.int (A9 0 (bU cs p))])));have h4:=b8 (g:=g2++[O.lst [D.int (A9 0 (bU cs p))]]) (o:=O.lst ((H.map λi=>(bU cs i).lo).map D.int++[D.int (A9 0 (bU cs p))]));have Pm:(H.map λi=>(bU cs i).lo).map D.int++[D.int (A9 0 (bU cs p))]=((H.map λi=>(bU cs i).lo)++[(bU cs p).lo]).map D.int:=by simp[A9]
 rw[Pm] at e4 h4 ⊢;generalize Bi:(H.map λi=>(bU cs i).lo)++[(bU cs p).lo]=eY at *;have lhr:eY.length<=51:=by rw[<- Bi];simp;omega
 generalize g2++[O.lst [D.int (A9 0 (bU cs p))]]=g3 at *;generalize g3++[O.lst (eY.map D.int)]=g4 at *;generalize g3.length=ah at *;walk_at"";refine A4 (b0 T _) (λσ=>∃z2 z3,σ=[some (.ref hl),some (.ref a),z2,z3]) (λi=>!decide (i∈H)) (λi=>.int (bU cs i).lo) (l:=l9 0 cs.length) (λg' e=>u9) (by rw[n5];omega) ⟨none,none,rfl⟩ (λi d σ g' hx e sh=>?_) (λg5 e5=>?_) (zM (b0 T _) (by omega:cs.length<=1000) λQ q=>?_)
 ·obtain⟨z2,z3,rfl⟩:=sh;obtain⟨hi,rfl⟩:=A5 hx;rw[gF];refine j4 ?_
  try show dC _ _ _ _ _ _
  walk_at"";refine U9 (zo ((e4.trans e).at hh) ?_);walk_at"";refine⟨rfl,e,?_⟩;by_cases vM:i∈H
  ·rw[az vM];exact hU rfl ⟨_,_,rfl⟩
  ·rw[aK vM];refine jl rfl ?_;walk_at"";refine q9 (a9 ((e4.trans e).at ha)) (K7 hi) ?_;walk_at"";refine w6 (M1 (.inl rfl) _) ?_;exact⟨rfl,e,_,_,rfl⟩
 rotate_left
 ·walk_at"";refine J8 (a9 (e4.at ha)) ?_;rw[aj];exact q
 have e6:=e5.trans (Ex.snoc g5 (O.lst (((List.range (l9 0 cs.length).length).filter λi=>!decide (i∈H)).map λi=>D.int (bU cs i).lo)));have h6:=b8 (g:=g5) (o:=O.lst (((List.range (l9 0 cs.length).length).filter λi=>!decide (i∈H)).map λi=>D.int (bU cs i).lo));have el:(((List.range (l9 0 cs.length).length).filter λi=>!decide (i∈H)).map λi=>D.int (bU cs i).lo)=(((List.range cs.length).filter λi=>!decide (i∈H)).map λi=>(bU cs i).lo).map D.int:=by
  rw[n5,bx]
  rfl
 rw[el] at e6 h6 ⊢;generalize dO:(((List.range cs.length).filter λi=>!decide (i∈H)).map λi=>(bU cs i).lo)=lt' at *;generalize g5++[O.lst (lt'.map D.int)]=g6 at *;generalize g5.length=al at *;walk_at"";refine A4 (b0 T _) (λσ=>∃z1 z2,σ=[some (.ref al),z1,z2]) (λi=>decide (eY.getD i 0∈lt')) (λi=>.int (eY.getD i 0)) (l:=eY.map D.int) (k:=.lst ah) (λg' e=>o6 (a9 ((e6.trans e).at h4))) (by simp;omega) ⟨none,none,rfl⟩ (λi d σ g' hx e sh=>?_) (λg7 e7=>?_) (L8 (b0 T _) (a9 (e6.at h4)) λQ q=>w_var (d:=.ref ah) rfl q)
 ·obtain⟨z1,z2,rfl⟩:=sh;rw[au,ae] at hx;obtain⟨x,hx,rfl⟩:=hx;have ex:eY.getD i 0=x:=by simp[List.getD,hx]
  refine j4 ?_
  try show dC _ _ _ _ _ _
  walk_at"";refine ue (U6 (a9 (e.at h6)) ?_);walk_at"";have ed:(lt'.any λm=>m==x)=decide (x∈lt'):=by
   rw[aZ,aV,cK];exact⟨λ⟨y,hy,e⟩=>(bB.mp e)▸hy,λhy=>⟨x,hy,by simp⟩⟩
  rw[ed,ex];refine⟨rfl,e,?_⟩;refine if2 (λ_=>?_) (λ_=>?_)
  ·walk_at"";exact⟨rfl,e,_,_,rfl⟩
  ·exact⟨_,_,rfl⟩
 have es:((List.range (eY.map D.int).length).filter λi=>decide (eY.getD i 0∈lt')).map (λi=>D.int (eY.getD i 0))=(((List.range eY.length).filter λi=>decide (eY.getD i 0∈lt')).map λi=>eY.getD i 0).map D.int:=by
  rw[bx,aj]
  rfl
 have e8:=e7.trans (Ex.snoc g7 (O.lst (((List.range (eY.map D.int).length).filter λi=>decide (eY.getD i 0∈lt')).map λi=>D.int (eY.getD i 0))));refine QH (ns:=((List.range eY.length).filter λi=>decide (eY.getD i 0∈lt')).map λi=>eY.getD i 0) (a9 (by rw[es];exact b8)) (by rw[aj];exact dh K1 (by omega)) ?_;generalize g7++[O.lst (((List.range (eY.map D.int).length).filter λi=>decide (eY.getD i 0∈lt')).map λi=>D.int (eY.getD i 0))]=g8 at *;have en:(ST.j5 [] (((List.range eY.length).filter λi=>decide (eY.getD i 0∈lt')).map λi=>eY.getD i 0)).length=ui cs (kB H) p:=by
  unfold ui;refine a29 (ST.Dv _ _ (by simp)) ((Lq _).filter _) λx=>?_;rw[ST.DF,bN,Jd];unfold Z2;rw[aW,aV,aV];simp only[List.not_mem_nil,false_or,List.mem_map,List.mem_filter,List.mem_range,Bool.and_eq_true,decide_eq_true_eq,Bool.or_eq_true,Bool.not_eq_true',decide_eq_false_iff_not];constructor
  ·rintro⟨i,⟨hi,hx⟩,rfl⟩;have hm:eY.getD i 0∈eY:=by simp[List.getD,hi]
   generalize eY.getD i 0=x at *;rw[<- dO] at hx;simp only[List.mem_map,List.mem_filter,List.mem_range,Bool.not_eq_true',decide_eq_false_iff_not] at hx;rw[<- Bi] at hm;obtain⟨j,⟨vJ,Bg⟩,rK⟩:=hx;have xS:∃q,q<cs.length/\(q∈H\/q=p)/\(bU cs q).lo=x:=by
    rcases aU.mp hm with hm|hm
    ·obtain⟨q,hq,e⟩:=aP.mp hm;exact⟨q,hH q hq,.inl hq,e⟩
    ·exact⟨p,hp,.inr rfl,(bf.mp hm).symm⟩
   obtain⟨q,q1,q2,q3⟩:=xS;refine⟨⟨bU cs j,?_,rK⟩,⟨q,q1,q2,q3⟩,j,vJ,Bg,rK⟩;rw[C5 (ao vJ)];exact cG vJ
  ·rintro⟨_,⟨q,q1,q2,q3⟩,j,vJ,Bg,rK⟩;have hm:x∈eY:=by
    rw[<- Bi];rcases q2 with q2|q2
    ·exact bA _ (aP.mpr ⟨q,q2,q3⟩)
    ·subst q2;exact aN _ (by rw[q3];simp)
   obtain⟨i,hi,e⟩:=bz.mp hm;refine⟨i,⟨hi,?_⟩,by simp[List.getD,hi,e]⟩;rw[show eY.getD i 0=x by simp[List.getD,hi,e],<- dO];simp only[List.mem_map,List.mem_filter,List.mem_range,Bool.not_eq_true',decide_eq_false_iff_not];exact⟨j,⟨vJ,Bg⟩,rK⟩
 rw[en];walk_at"";have tZ:=(e4.trans e6).trans e8;refine if2 (λc3=>?_) (λc3=>?_)
 ·walk_at"";have:fault cs v rs (kB H) p="anvil":=by unfold fault;rw[aC (by rw[w1];decide),aC (by rw[w2];decide),aI c3]
  rw[this] at h;exact h _ tZ
 walk_at"";refine comp_map (b0 T _) (λσ=>∃z3 z4,σ=[some (.ref hl),some (.ref a),some (.int (p:Nat)),z3,z4]) (λi=>.bl (!meant cs (rs.getD i ⟨.fU,0,0⟩).w (rs.getD i ⟨.fU,0,0⟩).y p||(List.range cs.length).any λj=>decide (j∈H)&&meant cs (rs.getD i ⟨.fU,0,0⟩).w (rs.getD i ⟨.fU,0,0⟩).x j)) (l:=u5 rs) (k:=.lst c) (λg' e=>o6 (a9 ((tZ.trans e).at hc))) (by simp[u5];omega) ⟨none,none,rfl⟩ (λi x σ g' hx e sh=>?_) (λg9 e9=>?_) (L8 (b0 T _) (a9 (tZ.at hc)) λQ q=>w_var (d:=.ref c) rfl q)
 ·obtain⟨z3,z4,rfl⟩:=sh;rw[u5,au,ae] at hx;obtain⟨r,pY,rfl⟩:=hx;refine j4 ?_
  try show bh _ _ _ _ _ _
  walk_at"";refine aA7 (k:=k) hT ((tZ.trans e).at ha) ((tZ.trans e).at hh) hH rT hp λwm lK=>?_;exact⟨by simp[List.getD,pY],e.trans lK,_,_,rfl⟩
 have eb:((List.range (u5 rs).length).map λi=>D.bl (!meant cs (rs.getD i ⟨.fU,0,0⟩).w (rs.getD i ⟨.fU,0,0⟩).y p||(List.range cs.length).any λj=>decide (j∈H)&&meant cs (rs.getD i ⟨.fU,0,0⟩).w (rs.getD i ⟨.fU,0,0⟩).x j))=(rs.map λr=>!meant cs r.w r.y p||(List.range cs.length).any λj=>decide (j∈H)&&meant cs r.w r.x j).map D.bl:=by
  rw[bx];refine cz λi=>?_;rw[au,au];by_cases hi:i<rs.length
  ·rw[cw (by simpa[u5] using hi),ao hi];simp[List.getD,hi]
  ·rw[aT (by simpa[u5] using hi),aT (by omega)]
   rfl
 rw[eb];refine yD (a9 b8) (V0 _) ?_;have eN:(rs.map λr=>!meant cs r.w r.y p||(List.range cs.length).any λj=>decide (j∈H)&&meant cs r.w r.x j).all id=P5 cs rs (kB H) p:=by
  rw[List.all_map]
  rfl
 rw[eN];walk_at"";have lK:=tZ.trans (e9.trans (Ex.snoc g9 (O.lst ((rs.map λr=>!meant cs r.w r.y p||(List.range cs.length).any λj=>decide (j∈H)&&meant cs r.w r.x j).map D.bl))));cases c4:P5 cs rs (kB H) p with
 |true =>
  walk_at"";have:fault cs v rs (kB H) p="":=by unfold fault;rw[aC (by rw[w1];decide),aC (by rw[w2];decide),aC c3,aI c4]
  rw[this] at h;exact h _ lK
 |false =>
  walk_at"";have:fault cs v rs (kB H) p="rule":=by unfold fault;rw[aC (by rw[w1];decide),aC (by rw[w2];decide),aC c3,aC (by rw[c4];decide)]
  rw[this] at h;exact h _ lK
end
section
variable{T:Nat->Option bo}{d:Nat}
theorem DK(c:b7):gI [D.int c.lo,D.tup (c.lm.map .int),D.int c.up,D.tup (c.um.map .int),D.int c.yr] 4=some (.int c.yr):=rfl
theorem UQ(hi:i∈H)(hH:∀i∈H,i<cs.length)(h:mw (bU cs i) (bU cs p)=true):fault cs v rs (kB H) p="wear":=by
 unfold fault;rw[aI];unfold J6;rw[yT hH,aV];exact⟨i,hi,h⟩
theorem Zd(hT:qz T)(hB:∀c∈cs,CB c)(ha:g[a]?=some (.lst (cs.map b7.d)))(hz:cs.length<=9)(hc:g[c]?=some (.lst (u5 rs)))(hr:rs.length<=900)(hh:g[hl]?=some (.lst (b9 H)))(hH:∀i∈H,i<cs.length)(rT:H.length<=50)(hp:p<cs.length)(h:∀g',Ex g g'->Q (.str (fault cs v rs (kB H) p)) g'):d0 T (k+2) 108 [.ref a,.int v,.ref c,.ref hl,.int (p:Nat)] g Q E:=by
 refine call_of hT.BK rfl ?_;have Ow:∀i,i<cs.length->CB (bU cs i):=λi hi=>by rw[C5 (ao hi)];exact hB _ (cG hi)
 dsimp[wU,d8,List.replicate];walk_at"";refine q9 (a9 ha) (K7 hp) ?_;walk_at"";refine y9 (b0 T _) (lF (b0 T _) ?_);walk_at"";refine⟨hl,_,rfl,a9 hh,b9 H,λt σ g'=>Ex g g'/\(∀i∈H.take t,mw (bU cs i) (bU cs p)=false)/\∃z6 z7,σ=[some (.ref a),some (.int v),some (.ref c),some (.ref hl),some (.int (p:Nat)),some (bU cs p).d,z6,z7,none,none],λi σ g' q=>o6 (a9 (q.1.at hh)),⟨Ex.refl _,by simp,none,none,rfl⟩,λt x σ g' hx q=>?_,λσ g' q=>?_⟩
 ·obtain⟨e1,q,z6,z7,rfl⟩:=q;rw[b9,au,ae] at hx;obtain⟨i,hi,rfl⟩:=hx;have vM:=aL hi;have lH:=hH i vM;refine j4 ?_
  try show wpS _ _ _ _ _ _
  walk_at"";refine y9 (b0 T _) (lF (b0 T _) ?_);walk_at"";have e2:=e1.trans (Ex.snoc g' (O.lst [D.int 0,D.int 2]));have h2:=b8 (g:=g') (o:=O.lst [D.int 0,D.int 2]);generalize g'++[O.lst [D.int 0,D.int 2]]=g2 at *;refine⟨_,_,rfl,a9 h2,[D.int 0,D.int 2],λj σ g3=>Ex g2 g3/\(1<=j->(decide ((bU cs i).lo=(bU cs p).lo)&&!jR (bU cs i).lm (bU cs p).lm)=false)/\(2<=j->(decide ((bU cs i).up=(bU cs p).up)&&!jR (bU cs i).um (bU cs p).um)=false)/\∃z7,σ=[some (.ref a),some (.int v),some (.ref c),some (.ref hl),some (.int (p:Nat)),some (bU cs p).d,some (.int (i:Nat)),z7,none,none],λj σ g3 q=>o6 (a9 (q.1.at h2)),⟨Ex.refl _,λz=>absurd z (by omega),λz=>absurd z (by omega),z7,rfl⟩,λj x σ g3 hx q=>?_,λσ g3 q=>?_⟩
  ·obtain⟨e3,q1,q2,z7,rfl⟩:=q;have hf:∃f:Int,(f=0\/f=2)/\x=.int f/\(f=0↔j=0)/\j<2:=by
    match j,hx with
    |0,hx=>cases hx;exact⟨0,.inl rfl,rfl,by simp,by omega⟩
    |1,hx=>cases hx;exact⟨2,.inr rfl,rfl,by simp,by omega⟩
    |j+2,hx=>simp at hx
   obtain⟨f,hf,rfl,GL,hj⟩:=hf;have Cd:=e2.trans e3;refine j4 ?_
   try show wpS _ _ _ _ _ _
   walk_at"";refine q9 (a9 (Cd.at ha)) (K7 lH) ?_;walk_at"";refine w6 (M1 hf _) ?_;walk_at"";refine w6 (M1 hf _) ?_;walk_at"";have fin:∀g4,Ex g3 g4->(decide (A9 f (bU cs i)=A9 f (bU cs p))&&!jR (sO f (bU cs i)) (sO f (bU cs p)))=false->(Ex g2 g4/\(1<=j+1->(decide ((bU cs i).lo=(bU cs p).lo)&&!jR (bU cs i).lm (bU cs p).lm)=false)/\(2<=j+1->(decide ((bU cs i).up=(bU cs p).up)&&!jR (bU cs i).um (bU cs p).um)=false)/\∃z7,([some (.ref a),some (.int v),some (.ref c),some (.ref hl),some (.int (p:Nat)),some (bU cs p).d,some (.int (i:Nat)),some (.int f),none,none]:S)=[some (.ref a),some (.int v),some (.ref c),some (.ref hl),some (.int (p:Nat)),some (bU cs p).d,some (.int (i:Nat)),z7,none,none]):=λg4 e4 hw=>by
    refine⟨e3.trans e4,λ_=>?_,λz=>?_,_,rfl⟩
    ·by_cases h0:j=0
     ·rw[GL.mpr h0] at hw;exact hw
     ·exact q1 (by omega)
    ·have:¬f=0:=λw=>by have:=GL.mp w;omega
     have f2:f=2:=hf.resolve_left this;rw[f2] at hw;exact hw
   refine if2 (λh1=>?_) (λh1=>?_)
   ·walk_at"";refine q9 (a9 (Cd.at ha)) (K7 lH) ?_;walk_at"";refine w6 (J' hf _) ?_;walk_at"";refine w6 (J' hf _) ?_;walk_at"";refine ZY (k:=k) hT.BD ((Ow i lH).Nf f) λg4 e4=>?_;walk_at"";cases hw:jR (sO f (bU cs i)) (sO f (bU cs p)) with
    |false =>
     walk_at"";have:mw (bU cs i) (bU cs p)=true:=by
      unfold mw;rcases hf with rfl|rfl
      ·rw[az (show(bU cs i).lo=(bU cs p).lo from h1),show jR (bU cs i).lm (bU cs p).lm=false from hw];rfl
      ·rw[az (show(bU cs i).up=(bU cs p).up from h1),show jR (bU cs i).um (bU cs p).um=false from hw];simp
     rw[UQ vM hH this] at h;exact h _ (Cd.trans e4)
    |true =>
     walk_at"";exact fin g4 e4 (by rw[hw];simp)
   ·walk_at"";exact fin g3 (Ex.refl _) (by rw[aK h1];rfl)
  ·obtain⟨e3,q1,q2,z7,rfl⟩:=q
   try show wpS _ _ _ _ _ _
   try walk_at""
   refine⟨e2.trans e3,λi' jI=>?_,_,_,rfl⟩;rw[bL,hi] at jI;rcases aU.mp jI with jI|jI
   ·exact q i' jI
   ·have:i'=i:=by simpa using jI
    subst this;unfold mw;rw[q1 (by decide),q2 (by decide)]
    rfl
 ·obtain⟨e1,q,z6,z7,rfl⟩:=q;rw[b9,aj,bO] at q;have w1:J6 cs (kB H) p=false:=by
   unfold J6;rw[yT hH,List.any_eq_false];exact λi hi=>by rw[q i hi];decide
  try show wpS _ _ _ _ _ _
  refine yQ ?_;walk_at"";refine w6 (DK _) ?_;walk_at"";have vn:G0 cs (kB H) p=(decide (0<(bU cs p).yr)&&H.any λi=>decide ((bU cs p).yr<(bU cs i).yr)):=by
   unfold G0;rw[yT hH,aZ,aV,aW,aV];constructor
   ·rintro⟨i,h1,h2⟩;unfold kQ at h2;rw[aW] at h2;exact⟨h2.1,i,h1,h2.2⟩
   ·rintro⟨h1,i,h2,h3⟩;exact⟨i,h2,by unfold kQ;rw[h1,h3];rfl⟩
  refine if2 (λc1=>?_) (λc1=>?_)
  ·walk_at"";have e2:=e1.trans (Ex.snoc g' (O.lst [D.int 0]));have h2:=b8 (g:=g') (o:=O.lst [D.int 0]);generalize g'++[O.lst [D.int 0]]=g2 at *;generalize g'.length=z0 at *;refine comp_map (b0 T _) (λσ=>∃z1 z2,σ=[some (.ref a),z1,z2]) (λi=>.int (bU cs (H.getD i 0)).yr) (l:=b9 H) (k:=.lst hl) (λg' e=>o6 (a9 ((e2.trans e).at hh))) (by simp[b9];omega) ⟨none,none,rfl⟩ (λi x σ g' hx e sh=>?_) (λg3 e3=>?_) (L8 (b0 T _) (a9 (e2.at hh)) λQ q=>w_var (d:=.ref hl) rfl q)
   ·obtain⟨z1,z2,rfl⟩:=sh;rw[b9,au,ae] at hx;obtain⟨j,hj,rfl⟩:=hx;refine j4 ?_
    try show bh _ _ _ _ _ _
    walk_at"";refine q9 (a9 ((e2.trans e).at ha)) (K7 (hH j (aL hj))) ?_;walk_at"";refine w6 (DK _) ?_;exact⟨by simp[List.getD,hj],e,_,_,rfl⟩
   have ey:(List.range (b9 H).length).map (λi=>D.int (bU cs (H.getD i 0)).yr)=(H.map λi=>(bU cs i).yr).map D.int:=by
    rw[bx];refine cz λi=>?_;rw[au,au];by_cases hi:i<H.length
    ·rw[cw (by simpa[b9] using hi),ao hi];simp[List.getD,hi]
    ·rw[aT (by simpa[b9] using hi),aT (by omega)]
     rfl
   rw[ey];have e4:=e3.trans (Ex.snoc g3 (O.lst ((H.map λi=>(bU cs i).yr).map D.int)));refine DL (e4.at h2) b8 (by simp;omega) ?_;have e5:=e4.trans (Ex.snoc _ (O.lst ([D.int 0]++(H.map λi=>(bU cs i).yr).map D.int)));obtain⟨M,m1,m2⟩:=Jw (ns:=0::H.map λi=>(bU cs i).yr) (by simp);refine Xe (ns:=0::H.map λi=>(bU cs i).yr) (a9 b8) m1 m2 ?_;walk_at"";refine w6 (DK _) ?_;walk_at"";have em:decide ((bU cs p).yr<M)=G0 cs (kB H) p:=by
    rw[vn,az c1,qK,aZ,cK,aV];constructor
    ·intro hM;rcases aH.mp m1 with rfl|hm
     ·omega
     ·obtain⟨i,hi,rfl⟩:=aP.mp hm;exact⟨i,hi,az hM⟩
    ·rintro⟨i,hi,h1⟩;have:=m2 _ (bG _ (aP.mpr ⟨i,hi,rfl⟩));have:=bg h1;omega
   rw[em];cases w2:G0 cs (kB H) p with
   |true =>
    walk_at"";have:fault cs v rs (kB H) p="year":=by unfold fault;rw[aC (by rw[w1];decide),aI w2]
    rw[this] at h;exact h _ (e2.trans e5)
   |false =>
    refine hU rfl ?_;refine K9 ?_;have yz:=e2.trans e5;exact Jx (k:=k) hT rfl (yz.at ha) hz (yz.at hc) hr (yz.at hh) hH rT hp w1 w2 λg6 e6=>h g6 (yz.trans e6)
  ·refine hU rfl ?_;refine K9 ?_;have w2:G0 cs (kB H) p=false:=by rw[vn,aK c1];rfl
   exact Jx (k:=k) hT rfl (e1.at ha) hz (e1.at hc) hr (e1.at hh) hH rT hp w1 w2 λg6 e6=>h g6 (e1.trans e6)
end
def zA:bo:=⟨3,3,(.seq (.ret (.eI (cA (.cmp .NotEq) (.call 91 (eM bE bD)) bE) (cA (.cmp .Is) (.call 101 (iR aO bE bD)) (.lit .cj)))) .pass)⟩
def DD:bo:=⟨2,2,(.seq (.ret (.comp [0,1] 4 (.one 3) (.eV (dZ (.fld "size") aO)) (.gi (.call 115 (iR aO bE bT))) bT)) .pass)⟩
def zb:bo:=⟨2,2,(.seq (.ret (.comp [0] 3 (.one 2) (.eV bE) (fi .Eq (cA (.bin .Mod) (cA (.bin .FloorDiv) aO (dj (.prim .lst (.cons (bp 1) (.cons (bp 2) (BR (bp 4) (bp 8) (bp 16) (bp 32) (bp 64) (bp 128) (bp 256))))) bD)) (bp 2)) (bp 1)) bD)) .pass)⟩
def yY:bo:=⟨1,1,(.seq (.ret (dj (.prim .lst (.cons (bp 1) (.cons (bp 2) (.cons (bp 4) (BR (bp 8) (bp 16) (bp 32) (bp 64) (bp 128) (bp 256) (bp 512)))))) aO)) .pass)⟩
def V5:bo:=⟨4,7,(.seq (.set 4 (.call 146 (eM bT (dZ .len aO)))) (.seq (.set 5 (.prim .lst .nil)) (.seq (.dP (.one 6) (.eV (dZ .len aO)) (.seq (.ifs (.eI (fi .NotIn fN dJ) (fi .Eq (.call 108 (uL aO bE bD dJ fN)) (iO ""))) (.seq (.expr (.fg .append fh (fA fN))) .pass) .pass) .pass)) (.seq (.ret fh) .pass))))⟩
def E5(cs:List b7)(v:Int)(rs:List gT)(s p:Nat):Bool:=!s.testBit p&&decide (fault cs v rs s.testBit p="")
def L9(cs:List b7)(v:Int)(rs:List gT)(s:Nat):List Nat:=(List.range cs.length).filter (E5 cs v rs s)
theorem a67(x:Str):O2 (yu x)=decide (x=""):=by
 unfold yu;by_cases h:x=""
 ·rw[aI h,az h];rfl
 ·rw[aC h,aK h];rfl
theorem Xr{s:Nat}:decide (((s |||2 ^ p:Nat):Int)=(s:Nat))=s.testBit p:=by
 rw[aZ,cK];constructor
 ·intro h;have h:s |||2 ^ p=s:=by omega
  have:=Q9 s p p;rw[h] at this;rw[this];simp
 ·intro h;have:s |||2 ^ p=s:=Nat.eq_of_testBit_eq λi=>by
   rw[Q9];by_cases hi:i=p
   ·subst hi;rw[h];rfl
   ·rw[aK hi,Bool.or_false]
  rw[this]
structure TF(T:Nat->Option bo):Prop where
 sf:T 115=some zA
 BI:T 116=some DD
section
variable{T:Nat->Option bo}{d:Nat}
theorem ZR(hT:TB0 T)(sf:T 115=some zA)(B:Bd g b cs v rs)(hz:cs.length<=9)(hr:rs.length<=900){s:Nat}(hs:s<2 ^ cs.length)(hp:p<cs.length)(h:∀g',Ex g g'->Q (.bl (E5 cs v rs s p)) g'):d0 T (k+4) 115 [.ref b,.int (s:Nat),.int (p:Nat)] g Q E:=by
 refine call_of sf rfl ?_;dsimp[zA,d8,List.replicate];walk_at"";refine Q8 (k:=k+2) hT.vY (by omega) ?_;walk_at"";rw[Xr];cases hb:s.testBit p with
 |true =>
  refine hU rfl ?_;have:E5 cs v rs s p=false:=by unfold E5;rw[hb];rfl
  rw[this] at h;exact h _ (Ex.refl _)
 |false =>
  refine jl rfl ?_;walk_at"";refine Yd (k:=k) hT B hz hr hs hp λg1 e1=>?_;walk_at"";have:E5 cs v rs s p=O2 (yu (fault cs v rs s.testBit p)):=by unfold E5;rw[hb,a67];rfl
  rw[this] at h;exact h _ e1
theorem aD7(hT:TB0 T)(hF:TF T)(B:Bd g b cs v rs)(hz:cs.length<=9)(hr:rs.length<=900){s:Nat}(hs:s<2 ^ cs.length)(h:∀g' l,Ex g g'->g.length<=l->g'[l]?=some (.lst (b9 (L9 cs v rs s)))->Q (.ref l) g'):d0 T (k+5) 116 [.ref b,.int (s:Nat)] g Q E:=by
 refine call_of hF.BI rfl ?_;dsimp[DD,d8,List.replicate];obtain⟨w,l,dd,nb,h1,h2,h3,h4,h5⟩:=B.ex;walk_at"";refine A4 (b0 T _) (λσ=>∃z2 z3,σ=[some (.ref b),some (.int (s:Nat)),z2,z3]) (E5 cs v rs s) (λi=>.int (i:Nat)) (l:=l9 0 cs.length) (λg' e=>u9) (by rw[n5];omega) ⟨none,none,rfl⟩ (λi d σ g' hx e sh=>?_) (λg' e=>?_) (zM (b0 T _) (by omega:cs.length<=1000) λQ q=>?_)
 ·obtain⟨z2,z3,rfl⟩:=sh;obtain⟨hi,rfl⟩:=A5 hx;rw[gF];refine j4 ?_
  try show dC _ _ _ _ _ _
  walk_at"";refine ZR (k:=k) hT hF.sf (B.at e) hz hr hs hi λg2 e2=>?_;walk_at"";refine⟨rfl,e.trans e2,?_⟩;cases E5 cs v rs s i with
  |true =>
   refine jl rfl ?_;walk_at"";exact⟨rfl,e.trans e2,_,_,rfl⟩
  |false=>exact hU rfl ⟨_,_,rfl⟩
 ·rw[n5];exact h _ _ (e.trans (Ex.snoc _ _)) e.len b8
 ·walk_at"";exact pG h1 rfl q
def HV:List D:=[.int 1,.int 2,.int 4,.int 8,.int 16,.int 32,.int 64,.int 128,.int 256]
theorem Rx(hi:i<9):gI HV (i:Int)=some (.int ((2 ^ i:Nat):Int)):=by
 have:i=0\/i=1\/i=2\/i=3\/i=4\/i=5\/i=6\/i=7\/i=8:=by omega
 rcases this with rfl|rfl|rfl|rfl|rfl|rfl|rfl|rfl|rfl<;>rfl
theorem zF(mJ:T 147=some yY)(hn:n<=9)(h:∀g',Ex g g'->Q (.int ((2 ^ n:Nat):Int)) g'):d0 T (k+1) 147 [.int (n:Nat)] g Q E:=by
 refine call_of mJ rfl ?_;dsimp[yY,d8,List.replicate];walk_at"";refine q9 (a9 b8) (d:=.int ((2 ^ n:Nat):Int)) ?_ (h _ (Ex.snoc _ _));have:n=0\/n=1\/n=2\/n=3\/n=4\/n=5\/n=6\/n=7\/n=8\/n=9:=by omega
 rcases this with rfl|rfl|rfl|rfl|rfl|rfl|rfl|rfl|rfl|rfl<;>rfl
theorem a11(rY:T 146=some zb){s:Nat}(hn:n<=9)(h:∀g' l,Ex g g'->g.length<=l->g'[l]?=some (.lst (b9 ((List.range n).filter s.testBit)))->Q (.ref l) g'):d0 T (k+1) 146 [.int (s:Nat),.int (n:Nat)] g Q E:=by
 refine call_of rY rfl ?_;dsimp[zb,d8,List.replicate];walk_at"";refine A4 (b0 T _) (λσ=>∃z1 z2,σ=[some (.int (s:Nat)),z1,z2]) s.testBit (λi=>.int (i:Nat)) (l:=l9 0 n) (λg' e=>u9) (by rw[n5];omega) ⟨none,none,rfl⟩ (λi d σ g' hx e sh=>?_) (λg' e=>?_) (zM (b0 T _) (by omega:n<=1000) λQ q=>w_var (d:=.int (n:Nat)) rfl q)
 ·obtain⟨z1,z2,rfl⟩:=sh;obtain⟨hi,rfl⟩:=A5 hx;rw[gF];refine j4 ?_
  try show dC _ _ _ _ _ _
  walk_at"";refine q9 (a9 b8) (Rx (i:=i) (by omega)) ?_;have hp:(0:Int)<((2 ^ i:Nat):Int):=by have:=kF (n:=i);omega
  have rF:((2 ^ i:Nat):Int)<1073741824:=by
   have:=zX (a:=2) (by omega) (show i<30 by omega);omega
  refine LU hp rF ?_;walk_at"";have eb:decide ((s:Int) / ((2 ^ i:Nat):Int) % 2=1)=s.testBit i:=by
   rw[Nat.testBit_eq_decide_div_mod_eq];refine iG.mpr ?_;rw[<- Int.natCast_ediv];omega
  have e2:=e.trans (Ex.snoc g' (O.lst HV));rw[eb];refine⟨rfl,e2,?_⟩;cases s.testBit i with
  |true =>
   refine jl rfl ?_;walk_at"";exact⟨rfl,e2,_,_,rfl⟩
  |false=>exact hU rfl ⟨_,_,rfl⟩
 ·rw[n5];exact h _ _ (e.trans (Ex.snoc _ _)) e.len b8
structure EW(T:Nat->Option bo):Prop where
 rY:T 146=some zb
 mJ:T 147=some yY
 BG:T 148=some V5
theorem JY(hT:qz T)(vV:EW T)(hB:∀c∈cs,CB c)(ha:g[a]?=some (.lst (cs.map b7.d)))(hz:cs.length<=9)(hc:g[c]?=some (.lst (u5 rs)))(hr:rs.length<=900){s:Nat}(h:∀g' l,Ex g g'->g.length<=l->g'[l]?=some (.lst (b9 (L9 cs v rs s)))->Q (.ref l) g'):d0 T (k+3) 148 [.ref a,.int v,.ref c,.int (s:Nat)] g Q E:=by
 refine call_of vV.BG rfl ?_;dsimp[V5,d8,List.replicate];walk_at"";rw[aj];refine a11 (k:=k+1) vV.rY hz λg1 hl e1 jM hh=>?_;walk_at"";have e2:=e1.trans (Ex.snoc g1 (O.lst []));have GI:=(Ex.snoc g1 (O.lst [])).at hh;have h2:=b8 (g:=g1) (o:=O.lst []);have l1:=j7 hh;have ge:g.length<=g1.length:=e1.len;generalize g1++[O.lst []]=g2 at *;generalize g1.length=fl at *;have hH:∀i∈(List.range cs.length).filter s.testBit,i<cs.length:=X6;have rT:((List.range cs.length).filter s.testBit).length<=50:=aF K1 (by omega);have hS:∀i,i<cs.length->kB ((List.range cs.length).filter s.testBit) i=s.testBit i:=λi hi=>by
  rw[aZ,cK,bN,bq];exact⟨λz=>z.2,λz=>⟨hi,z⟩⟩
 refine y9 (b0 T _) (pI (b0 T _) ?_);walk_at"";refine J8 (a9 (e2.at ha)) ?_;refine⟨_,rfl,by omega,by simp;omega,l9 0 cs.length,λi σ g'=>Ex g g'/\g'[hl]?=some (.lst (b9 ((List.range cs.length).filter s.testBit)))/\g'[fl]?=some (.lst (b9 ((List.range i).filter (E5 cs v rs s))))/\∃z6,σ=[some (.ref a),some (.int v),some (.ref c),some (.int (s:Nat)),some (.ref hl),some (.ref fl),z6],λ_ _ _ _=>by simp only[List.length_map,Int.toNat_natCast];exact u9,⟨e2,GI,h2,none,rfl⟩,λi x σ g' hx q=>?_,λσ g' q=>?_⟩
 ·obtain⟨e3,oW,h3,z6,rfl⟩:=q;obtain⟨hi,rfl⟩:=A5 hx;rw[gF];refine j4 ?_
  try show wpS _ _ _ _ _ _
  walk_at"";refine U9 (zo oW ?_);walk_at"";have es:(List.range (i+1)).filter (E5 cs v rs s)=(List.range i).filter (E5 cs v rs s)++if E5 cs v rs s i=true then[i] else[]:=by
   rw[ji,fq]
   congr 1
   cases z:E5 cs v rs s i<;>simp only[List.filter_cons,z,List.filter_nil]<;>rfl
  have Oj:decide (i∈(List.range cs.length).filter s.testBit)=s.testBit i:=hS i hi;rw[Oj];cases hb:s.testBit i with
  |true =>
   refine hU rfl ?_;walk_at"";refine⟨e3,oW,?_,_,rfl⟩;rw[es,aC (by unfold E5;rw[hb];simp),dw];exact h3
  |false =>
   refine jl rfl ?_;walk_at"";refine Zd (k:=k) hT hB (e3.at ha) hz (e3.at hc) hr oW hH rT hi λg4 e4=>?_;rw[aG7 hS];walk_at"";have GN:E5 cs v rs s i=decide (fault cs v rs s.testBit i=""):=by unfold E5;rw[hb];rfl
   refine if2 (λc1=>?_) (λc1=>?_)
   ·walk_at"";have h4:=e4.at h3
    try refine⟨Y0 h4,?_⟩
    walk_at"";refine P7 h4 (by have:=@K1 i (E5 cs v rs s);simp[b9];omega) ?_;walk_at"";refine⟨⟨by simp;exact(e3.trans e4).len,λj hj=>by rw[ay (by omega)];exact(e3.trans e4).old j hj⟩,d4 (e4.at oW) (by omega),?_,_,rfl⟩;rw[get_set h4,es,aI (by rw[GN];exact az c1)];simp[b9]
   ·walk_at"";refine⟨e3.trans e4,e4.at oW,?_,_,rfl⟩;rw[es,aC (by rw[GN,aK c1];decide),dw];exact e4.at h3
 ·obtain⟨e3,oW,h3,z6,rfl⟩:=q;rw[n5] at h3
  try show wpS _ _ _ _ _ _
  walk_at"";exact h _ _ e3 ge h3
end
def FG(n:Nat)(F:Nat->List Nat):Prop:=∀s p,p∈F s->p<n/\s.testBit p=false
theorem Xq{s:Nat}(h:s.testBit p=false):s<s |||2 ^ p:=by
 have h1:s<=s |||2 ^ p:=Nat.left_le_or
 have h2:s |||2 ^ p≠s:=λe=>by
  have:=Q9 s p p;rw[e,h] at this;simp at this
 omega
inductive jm(F:Nat->List Nat):Nat->Prop
 |zero:jm F 0
 |step {s p:Nat} (h:jm F s) (hp:p∈F s):jm F (s |||2 ^ p)
theorem jm.lt{F:Nat->List Nat}(hF:FG n F){s:Nat}(h:jm F s):s<2 ^ n:=by
 induction h with
 |zero=>exact Nat.two_pow_pos _
 |step h hp ih=>exact Ld ih (hF _ _ hp).1
theorem Y4(cs:List b7)(v:Int)(rs:List gT):FG cs.length (L9 cs v rs):=λs p hp=>by
 obtain⟨h1,h2⟩:=bN.mp hp;unfold E5 at h2;rw[aW,Bool.not_eq_true'] at h2;exact⟨bq.mp h1,h2.1⟩
noncomputable abbrev kN(j:Nat):Key:=.inl (j:Int)
theorem Lv{c:Key}:u4 (putD kvs c x) c=some x:=by
 unfold u4 putD;by_cases h:(kvs.any λkv=>decide (kv.1=c))=true
 ·rw[aI h]
  induction kvs with
  |nil=>cases h
  |cons kv r ih =>
   rw[bu,fj];by_cases hk:kv.1=c
   ·rw[aI hk];simp[hk]
   ·rw[aC hk];simp only[hk,decide_false];refine ih ?_;rw[fV,cZ] at h;exact h.resolve_left (by simp[hk])
 ·rw[aC h,ly];have:kvs.find? (λkv=>decide (kv.1=c))=none:=by
   rw[kI];exact λkv hk hc=>h (aV.mpr ⟨kv,hk,hc⟩)
  rw[this];simp
theorem Zw{c c':Key}(hn:c≠c'):u4 (putD kvs c x) c'=u4 kvs c':=by
 unfold u4 putD;by_cases h:(kvs.any λkv=>decide (kv.1=c))=true
 ·rw[aI h];clear h
  induction kvs with
  |nil=>rfl
  |cons kv r ih =>
   rw[bu,fj,fj];by_cases hk:kv.1=c
   ·rw[aI hk];have:kv.1≠c':=λz=>hn (hk.symm.trans z);simp only[this,decide_false];exact ih
   ·rw[aC hk];by_cases oA:kv.1=c'
    ·simp only[oA,decide_true]
    ·simp only[oA,decide_false];exact ih
 ·rw[aC h,ly];have:[(c,x)].find? (λkv=>decide (kv.1=c'))=none:=by simp[hn]
  rw[this];simp
theorem Iw{i:Nat}(h:i≠j):kN i≠kN j:=λz=>h (by have:(i:Int)=j:=mR z;omega)
def C3:bo:=⟨1,5,(.seq (.set 1 (.prim (.kK 0) .nil)) (.seq (.set 2 (.prim .lst .nil)) (.seq (.dP (.one 3) (.eV (cA (.bin .Add) (dZ (.fld "full") aO) (bp 1))) (.seq (.ifs (fi .In bT bE) (.seq (.expr (.fg .append bD (fA bT))) (.seq (.dP (.one 4) (.fu (.call 116 (eM aO bT))) (.seq (.expr (.fg .kL bE (fA (.call 91 (eM bT dJ))))) .pass)) .pass)) .pass) .pass)) (.seq (.ret bD) .pass))))⟩
theorem zt:∀{l m:List Nat},l.Nodup->(∀x∈l,x∈m)->l.length<=m.length
 |[],m,_,_=>cF _
 |x::r,m,nd,h=>by
  rw[et] at nd;have:=zt (l:=r) (m:=m.erase x) nd.2 λy hy=>(List.mem_erase_of_ne λz=>nd.1 (by rw[<- z];exact hy)).mpr (h y (by simp[hy]));have hx:=h x (by simp);rw[List.length_erase_of_mem hx] at this;have:=fH hx;simp;omega
def pD(g:G)(sd n:Nat)(K:List Nat):Prop:=∃S m,g[sd]?=some (.set S m)/\m=K.length/\K.Nodup/\(∀j∈K,j<2 ^ n)/\∀k:Int,S k=true↔∃j∈K,k=(j:Nat)
theorem pD.at{g g':G}{sd n:Nat}{K:List Nat}(h:pD g sd n K)(e:Ex g g'):pD g' sd n K:=let ⟨S,m,h1,h2⟩:=h;⟨S,m,e.at h1,h2⟩
theorem pD.size{sd:Nat}{K:List Nat}(h:pD g sd n K):K.length<=2 ^ n:=by
 obtain⟨S,m,_,_,nd,lt,_⟩:=h;have:=zt (m:=List.range (2 ^ n)) nd λx hx=>bq.mpr (lt x hx);simpa using this
theorem ER(h:n<=9):1<=2 ^ n/\2 ^ n<=512:=⟨kF,zY (by omega) h⟩
section
variable{T:Nat->Option bo}
theorem aM7(hT:TB0 T)(hF:TF T)(se:T 117=some C3)(B:Bd g b cs v rs)(hz:cs.length<=9)(hr:rs.length<=900)(h:∀(L:List Nat) l g',Ex g g'->g.length<=l->g'[l]?=some (.lst (b9 L))->L.Pairwise (· < ·)->(∀s,s∈L↔jm (L9 cs v rs) s)->L.length<=512->Q (.ref l) g'):d0 T (k+6) 117 [.ref b] g Q E:=by
 refine call_of se rfl ?_;dsimp[C3,d8,List.replicate];have lU:=Y4 cs v rs;generalize Bx:L9 cs v rs=F at *;obtain⟨w0,l0,dd,nb,f1,f2,f3,f4,f5⟩:=B.ex;have p2:=ER hz;walk_at"";refine TH ?_;have s1:pD (g++[O.set (λk=>decide (k=0)) 1]) g.length cs.length [0]:=⟨_,_,b8,rfl,by simp,by simp;omega,λk=>by simp⟩
 have e1:=Ex.snoc g (O.set (λk=>decide (k=0)) 1);generalize g++[O.set (λk=>decide (k=0)) 1]=g1 at *;walk_at"";have e2:=e1.trans (Ex.snoc g1 (O.lst []));have s2:=s1.at (Ex.snoc g1 (O.lst []));have t2:=b8 (g:=g1) (o:=O.lst []);have l1:g.length<g1.length:=by obtain⟨_,_,z,_⟩:=s1;exact j7 z
 generalize g1++[O.lst []]=g2 at *;generalize g1.length=tl at *;refine y9 (b0 T _) (pI (b0 T _) ?_);walk_at"";refine pG (e2.at f1) rfl ?_;walk_at"";have en:((2 ^ cs.length-1:Nat):Int)+1=((2 ^ cs.length:Nat):Int):=by omega
 rw[en];refine⟨by omega,by omega,l9 0 (2 ^ cs.length),λt σ g'=>Ex g g'/\(∃K,pD g' g.length cs.length K/\∀j,j∈K↔j=0\/∃s p,s<t/\jm F s/\p∈F s/\j=s |||2 ^ p)/\(∃L,g'[tl]?=some (.lst (b9 L))/\L.Pairwise (· < ·)/\(∀s,s∈L↔s<t/\jm F s)/\L.length<=t)/\∃z3 z4,σ=[some (.ref b),some (.ref g.length),some (.ref tl),z3,z4],λ_ _ _ _=>by rw[cN];exact u9,⟨e2,⟨[0],s2,λj=>by simp⟩,⟨[],t2,by simp,by simp,by simp⟩,none,none,rfl⟩,λt x σ g' hx q=>?_,λσ g' q=>?_⟩
 ·obtain⟨e3,⟨K,s3,hK⟩,⟨L,t3,pw,hL,ym⟩,z3,z4,rfl⟩:=q;obtain⟨ht,rfl⟩:=A5 hx;rw[gF];have nN:t∈K↔jm F t:=by
   rw[hK];constructor
   ·rintro(rfl|⟨s,p,_,h2,h3,rfl⟩)
    ·exact .zero
    ·exact .step h2 h3
   ·intro h;cases h with
    |zero=>exact .inl rfl
    |step h hp=>exact .inr ⟨_,_,Xq (lU _ _ hp).2,h,hp,rfl⟩
  refine j4 ?_
  try show wpS _ _ _ _ _ _
  walk_at"";obtain⟨S,m,sg,sm,snd,slt,sS⟩:=id s3;refine WC sg ?_;walk_at"";have GY:S (t:Nat)=true↔jm F t:=by
   rw[sS,<- nN];exact⟨λ⟨j,hj,e⟩=>by rw[show t=j by omega];exact hj,λz=>⟨t,z,rfl⟩⟩
  cases hb:S (t:Nat) with
  |false =>
   have ox:¬jm F t:=λz=>by rw[GY.mpr z] at hb;cases hb
   refine hU rfl ?_;walk_at"";refine⟨e3,⟨K,s3,λj=>(hK j).trans ⟨?_,?_⟩⟩,⟨L,t3,pw,λs=>(hL s).trans ⟨λz=>⟨by omega,z.2⟩,λz=>⟨?_,z.2⟩⟩,by omega⟩,_,_,rfl⟩
   ·rintro(z|⟨s,p,h1,h2⟩)
    ·exact .inl z
    ·exact .inr ⟨s,p,by omega,h2⟩
   ·rintro(z|⟨s,p,h1,h2,h3⟩)
    ·exact .inl z
    ·refine .inr ⟨s,p,?_,h2,h3⟩;rcases gE s t with y|y
     ·exact y
     ·exact absurd (show jm F t by rw[show t=s by omega];exact h2) ox
   ·rcases gE s t with y|y
    ·exact y
    ·exact absurd (show jm F t by rw[show t=s by omega];exact z.2) ox
  |true =>
   have hR:=GY.mp hb;refine jl rfl ?_;walk_at"";refine P7 t3 (by simp[b9];omega) ?_;have MH:tl≠g.length:=by omega
   have s4:pD (g'.set tl (.lst (b9 L++[D.int (t:Nat)]))) g.length cs.length K:=⟨S,m,d4 sg MH,sm,snd,slt,sS⟩
   have t4:(g'.set tl (.lst (b9 L++[D.int (t:Nat)])))[tl]?=some (.lst (b9 (L++[t]))):=by rw[get_set t3];simp[b9]
   have e4:Ex g (g'.set tl (.lst (b9 L++[D.int (t:Nat)]))):=⟨by simp;exact e3.len,λi hi=>by rw[ay (by omega)];exact e3.old i hi⟩
   generalize g'.set tl (.lst (b9 L++[D.int (t:Nat)]))=g4 at *;walk_at"";refine y9 (b0 T _) (lF (b0 T _) ?_);walk_at"";refine aD7 (k:=k) hT hF (B.at e4) hz hr ht λg5 fl e5 GK h5=>?_;rw[Bx] at h5;have l4:tl<g4.length:=j7 t4;refine⟨fl,_,rfl,a9 h5,b9 (F t),λj σ g'=>Ex g g'/\g'[fl]?=some (.lst (b9 (F t)))/\g'[tl]?=some (.lst (b9 (L++[t])))/\(∃K',pD g' g.length cs.length K'/\∀x,x∈K'↔x∈K\/∃p∈(F t).take j,x=t |||2 ^ p)/\∃z4,σ=[some (.ref b),some (.ref g.length),some (.ref tl),some (.int (t:Nat)),z4],λj σ g' q=>o6 (a9 q.2.1),⟨e4.trans e5,h5,e5.at t4,⟨K,s4.at e5,λx=>by simp⟩,z4,rfl⟩,λj x σ g' hx q=>?_,λσ g' q=>?_⟩
   ·obtain⟨e6,h6,t6,⟨K',s6,tU⟩,z4,rfl⟩:=q;rw[b9,au,ae] at hx;obtain⟨p,hp,rfl⟩:=hx;have tJ:=aL hp;have NC:=(lU _ _ tJ)
    have tk:(F t).take (j+1)=(F t).take j++[p]:=by rw[bL,hp];rfl
    obtain⟨S6,m6,xG,FA,uT,uV,tw⟩:=id s6;refine j4 ?_
    try show wpS _ _ _ _ _ _
    walk_at"";refine⟨To xG,?_⟩;walk_at"";refine Q8 (k:=k+4) hT.vY (by omega) ?_;walk_at"";have hsz:=s6.size;refine QM xG (by omega) ?_;walk_at"";have dO:=Ld ht NC.1;refine⟨⟨by simp;exact e6.len,λi hi=>by rw[ay (by omega)];exact e6.old i hi⟩,d4 h6 (by have:=e4.len;omega),d4 t6 (by omega),?_,_,rfl⟩;by_cases lH:S6 ((t |||2 ^ p:Nat):Int)=true
    ·refine⟨K',⟨_,_,get_set xG,by rw[aI lH];exact FA,uT,uV,λk=>?_⟩,λx=>?_⟩
     ·rw[cZ,cK];constructor
      ·rintro(z|z)
       ·exact(tw k).mp z
       ·subst z;exact(tw _).mp lH
      ·exact λz=>.inl ((tw k).mpr z)
     ·rw[tU x,tk];simp only[List.mem_append,List.mem_singleton];constructor
      ·rintro(z|⟨q,z1,z2⟩)
       ·exact .inl z
       ·exact .inr ⟨q,.inl z1,z2⟩
      ·rintro(z|⟨q,z1|z1,z2⟩)
       ·exact .inl z
       ·exact .inr ⟨q,z1,z2⟩
       ·subst z1 z2;obtain⟨y,y1,y2⟩:=(tw _).mp lH;rw[<- tU,show(t |||2 ^ q)=y by omega];exact y1
    ·have AW:(t |||2 ^ p)∉K':=λz=>lH ((tw _).mpr ⟨_,z,rfl⟩);refine⟨K'++[t |||2 ^ p],⟨_,_,get_set xG,by rw[aC lH];simp[FA],?_,λy hy=>?_,λk=>?_⟩,λx=>?_⟩
     ·rw[cM];exact⟨uT,by simp,λx hx y hy=>by cases bf.mp hy;exact λz=>AW (z▸hx)⟩
     ·rcases aU.mp hy with z|z
      ·exact uV y z
      ·cases bf.mp z;exact dO
     ·rw[cZ,cK,tw];simp only[List.mem_append,List.mem_singleton];constructor
      ·rintro(⟨y,y1,y2⟩|z)
       ·exact⟨y,.inl y1,y2⟩
       ·exact⟨_,.inr rfl,z⟩
      ·rintro⟨y,y1|y1,y2⟩
       ·exact .inl ⟨y,y1,y2⟩
       ·subst y1;exact .inr y2
     ·rw[aU,bf,tU x,tk];simp only[List.mem_append,List.mem_singleton];constructor
      ·rintro((z|⟨q,z1,z2⟩)|z)
       ·exact .inl z
       ·exact .inr ⟨q,.inl z1,z2⟩
       ·exact .inr ⟨p,.inr rfl,z⟩
      ·rintro(z|⟨q,z1|z1,z2⟩)
       ·exact .inl (.inl z)
       ·exact .inl (.inr ⟨q,z1,z2⟩)
       ·subst z1;exact .inr z2
   ·obtain⟨e6,h6,t6,⟨K',s6,tU⟩,z4,rfl⟩:=q;rw[b9,aj,bO] at tU
    try show wpS _ _ _ _ _ _
    walk_at"";refine⟨e6,⟨K',s6,λj=>(tU j).trans ?_⟩,⟨L++[t],t6,?_,λs=>?_,by simp;omega⟩,_,_,rfl⟩
    ·rw[hK j];constructor
     ·rintro((z|⟨s,p,h1,h2⟩)|⟨p,h1,h2⟩)
      ·exact .inl z
      ·exact .inr ⟨s,p,by omega,h2⟩
      ·exact .inr ⟨t,p,by omega,hR,h1,h2⟩
     ·rintro(z|⟨s,p,h1,h2,h3,h4⟩)
      ·exact .inl (.inl z)
      ·rcases gE s t with y|y
       ·exact .inl (.inr ⟨s,p,y,h2,h3,h4⟩)
       ·have:s=t:=by omega
        subst this;exact .inr ⟨p,h3,h4⟩
    ·rw[aS];exact⟨pw,by simp,λx hx y hy=>by cases bf.mp hy;exact((hL x).mp hx).1⟩
    ·rw[aU,bf,hL s];constructor
     ·rintro(z|z)
      ·exact⟨by omega,z.2⟩
      ·subst z;exact⟨by omega,hR⟩
     ·rintro⟨z1,z2⟩;rcases gE s t with y|y
      ·exact .inl ⟨y,z2⟩
      ·exact .inr (by omega)
 ·obtain⟨e3,⟨K,s3,hK⟩,⟨L,t3,pw,hL,ym⟩,z3,z4,rfl⟩:=q;rw[n5] at hL ym
  try show wpS _ _ _ _ _ _
  walk_at"";exact h L tl g' e3 (by omega) t3 pw (λs=>(hL s).trans ⟨λz=>z.2,λz=>⟨z.lt lU,z⟩⟩) (by omega)
end
def N9:bo:=⟨1,2,(.seq (.set 1 (.call 117 (fA aO))) (.seq (.ifs (fi .Eq (dj bE (dZ (.un .USub) (bp 1))) (dZ (.fld "full") aO)) (.seq (.ret (.lit .cj)) .pass) .pass) (.seq (.ret bE) .pass)))⟩
section
variable{T:Nat->Option bo}
theorem Ys(hT:TB0 T)(hF:TF T)(hW:T 117=some C3)(rZ:T 129=some N9)(B:Bd g b cs v rs)(hz:cs.length<=9)(hr:rs.length<=900)(h:∀(L:List Nat) l g',Ex g g'->g.length<=l->g'[l]?=some (.lst (b9 L))->L.Pairwise (· < ·)->(∀s,s∈L↔jm (L9 cs v rs) s)->L.length<=512->(jm (L9 cs v rs) (2 ^ cs.length-1)->Q .cj g')/\(¬jm (L9 cs v rs) (2 ^ cs.length-1)->Q (.ref l) g')):d0 T (k+7) 129 [.ref b] g Q E:=by
 refine call_of rZ rfl ?_;dsimp[N9,d8,List.replicate];obtain⟨w0,l0,dd,nb,f1,f2,f3,f4,f5⟩:=B.ex;walk_at"";refine aM7 (k:=k) hT hF hW B hz hr λL l g1 e1 hl h1 pw hL ym=>?_;obtain⟨NA,xU⟩:=h L l g1 e1 hl h1 pw hL ym;have h0:0∈L:=(hL 0).mpr .zero;have NB:=fH h0;have nO:=ao (show L.length-1<L.length by omega);generalize vB:L[L.length-1]=z at nO;have Yh:gI (b9 L) (-1)=some (.int (z:Nat)):=by
  unfold gI lD;have il:(b9 L).length=L.length:=by simp[b9]
  rw[aC (by decide),il,aI (by(clear hz hr hl vB;omega))];show(b9 L)[(-1+(L.length:Int)).toNat]?=_;rw[show(-1+(L.length:Int)).toNat=L.length-1 by(clear hz hr hl vB;omega),b9,au,nO]
  rfl
 have Gp:z∈L:=aL nO;have Ba:∀x∈L,x<=z:=λx hx=>by
  obtain⟨i,hi,rfl⟩:=bz.mp hx;rcases gE i (L.length-1) with y|y
  ·have:=du.mp pw i (L.length-1) hi (by omega) y;omega
  ·have:i=L.length-1:=by(clear hz hr hl vB;omega)
   subst this;omega
 have Nm:=((hL z).mp Gp).lt (Y4 cs v rs);walk_at"";refine q9 (a9 h1) Yh ?_;walk_at"";refine pG (e1.at f1) rfl ?_;walk_at"";have ed:decide (((z:Nat):Int)=((2 ^ cs.length-1:Nat):Int))=decide (z=2 ^ cs.length-1):=iG.mpr (by(clear hz hr hl vB;omega));rw[ed];refine if2 (λc1=>?_) (λc1=>?_)
 ·walk_at"";exact NA (c1▸(hL z).mp Gp)
 ·walk_at"";refine xU λhR=>c1 ?_;have:=Ba _ ((hL _).mpr hR);omega
end
def za:bo:=⟨3,9,(.seq (.set 3 (.prim .W6 .nil)) (.seq (.set 4 (dZ .lst (bp 0))) (.seq (.dP (.one 5) (.eV (cA (.bin .Add) (dZ .len aO) (bp 1))) (.seq (.set 6 (.prim .W6 .nil)) (.seq (.dP (.one 7) (.fu dJ) (.seq (.fc bT gH (.call 148 (pP aO bE bD gH))) (.seq (.dP (.one 8) (.fu (dj bT gH)) (.seq (.fc fN (cA (.bin .Add) gH (.call 147 (fA jK))) (.lit (.bl true))) .pass)) .pass))) (.seq (.set 4 (dZ .kJ (dZ .list fN))) .pass)))) (.seq (.ret bT) .pass))))⟩
theorem Kf{s:Nat}(h:s.testBit p=false):s |||2 ^ p=s+2 ^ p:=by
 induction p generalizing s with
 |zero =>
  rw[Nat.testBit_zero,dH] at h;have h1:=Nat.or_div_two (a:=s) (b:=1);have h2:(s |||1) % 2=1:=xu.mpr (.inr rfl);rw[show(1:Nat) / 2=0 from rfl,Nat.or_zero] at h1;show s |||1=s+1
  omega
 |succ p ih =>
  have h0:(s / 2).testBit p=false:=by rw[Nat.testBit_succ] at h;exact h
  have h1:=Nat.or_div_two (a:=s) (b:=2 ^ (p+1));have h2:=xu (a:=s) (b:=2 ^ (p+1));have e:2 ^ (p+1)=2*2 ^ p:=by rw[uA,lr]
  rw[e,Nat.mul_div_cancel_left _ (by decide),ih h0] at h1;rw[e] at h2 ⊢;omega
def Lay(F:Nat->List Nat):Nat->Nat->Prop
 |0,s=>s=0
 |i+1,s=>∃r p,Lay F i r/\p∈F r/\s=r |||2 ^ p
theorem Lay.qY{F:Nat->List Nat}:∀{i s:Nat},Lay F i s->jm F s
 |0,_,h=>by cases h;exact .zero
 |i+1,_,⟨r,p,h1,h2,h3⟩=>by rw[h3];exact .step h1.qY h2
theorem Uj{F:Nat->List Nat}{s:Nat}(h:jm F s):∃i,Lay F i s:=by
 induction h with
 |zero=>exact⟨0,rfl⟩
 |step _ hp ih=>obtain⟨i,hi⟩:=ih;exact⟨i+1,_,_,hi,hp,rfl⟩
theorem Lay.bits{n:Nat}{F:Nat->List Nat}(hF:FG n F):∀{i s:Nat},Lay F i s->∃l:List Nat,l.Nodup/\l.length=i/\∀q∈l,s.testBit q=true/\q<n
 |0,s,_=>⟨[],oI,rfl,λq hq=>absurd hq mf⟩
 |i+1,s,⟨r,p,h1,h2,h3⟩=>by
  obtain⟨l,n1,n2,n3⟩:=h1.bits hF;obtain⟨p1,p2⟩:=hF r p h2;refine⟨p::l,et.mpr ⟨λz=>?_,n1⟩,by simp[n2],λq hq=>?_⟩
  ·rw[(n3 p z).1] at p2;cases p2
  ·rw[h3,Q9];rcases aH.mp hq with rfl|hq
   ·exact⟨by simp,p1⟩
   ·exact⟨by rw[(n3 q hq).1];rfl,(n3 q hq).2⟩
theorem Lay.le{F:Nat->List Nat}(hF:FG n F){s:Nat}(h:Lay F i s):i<=n:=by
 obtain⟨l,n1,n2,n3⟩:=h.bits hF;have:=zt (m:=List.range n) n1 λq hq=>bq.mpr (n3 q hq).2;rw[fG] at this;omega
def Ky(kvs:List (Key×D))(L:List Nat):Prop:=kvs.map (·.1)=L.map kN/\L.Nodup
theorem Ky.put(h:Ky kvs L)(j:Nat)(x:D):∃L',Ky (putD kvs (kN j) x) L'/\∀s,s∈L'↔s∈L\/s=j:=by
 obtain⟨h1,h2⟩:=h;have mH:(kvs.any λkv=>decide (kv.1=kN j))=true↔j∈L:=by
  rw[aV];constructor
  ·rintro⟨kv,m,e⟩;have e:=bg e;have:kv.1∈L.map kN:=by rw[<- h1];exact Fm m
   obtain⟨i,hi,e2⟩:=aP.mp this;have:i=j:=Classical.byContradiction λz=>Iw z (e2.trans e);rw[<- this];exact hi
  ·intro hj;have:kN j∈kvs.map (·.1):=by rw[h1];exact Fm hj
   obtain⟨kv,m,e⟩:=aP.mp this;exact⟨kv,m,az e⟩
 unfold putD;by_cases hj:j∈L
 ·rw[aI (mH.mpr hj)];refine⟨L,⟨?_,h2⟩,λs=>⟨.inl,λz=>z.elim id λe=>e▸hj⟩⟩;rw[bx,<- h1];refine kh λkv _=>?_;show(if kv.1=kN j then(kv.1,x) else kv).1=kv.1;split<;>rfl
 ·rw[aC λz=>hj (mH.mp z)];refine⟨L++[j],⟨by rw[eA,eA,h1];rfl,cM.mpr ⟨h2,by simp,λa ha b hb=>by simp at hb;subst hb;exact λe=>hj (e▸ha)⟩⟩,λs=>by simp⟩
theorem Ky.len(h:Ky kvs L):kvs.length=L.length:=by simpa using fX List.length h.1
theorem Ky.small(h:Ky kvs L)(hn:n<=9)(hL:∀s∈L,s<2 ^ n):kvs.length<=512:=by
 have h1:=zt (m:=List.range (2 ^ n)) h.2 λq hq=>bq.mpr (hL q hq);have:=ER hn;rw[h.len];simp at h1;omega
theorem Ky.keys(h:Ky kvs L):(kvs.map (·.1)).map kD=(L.map λj:Nat=>(j:Int)).map .int:=by
 rw[h.1,bx,bx];rfl
theorem XN(hn:L.Nodup):∃S:List Nat,(J7 (L.map λj:Nat=>(j:Int))).map D.int=b9 S/\S.Pairwise (· < ·)/\(∀s,s∈S↔s∈L)/\S.length=L.length:=by
 have hp:=Z6 (L.map λj:Nat=>(j:Int));have hr:=JD (L.map λj:Nat=>(j:Int));generalize J7 (L.map λj:Nat=>(j:Int))=Z at *;have hZ:(Z.map Int.toNat).Perm L:=by
  have:=hp.map Int.toNat;rw[bx] at this;have e:(Int.toNat ∘ λj:Nat=>(j:Int))=id:=by funext j;simp
  rw[e,List.map_id] at this;exact this
 have hE:(Z.map Int.toNat).map (λj:Nat=>(j:Int))=Z:=by
  rw[bx];have:∀x∈Z,((λj:Nat=>(j:Int)) ∘ Int.toNat) x=x:=λx hx=>by
   obtain⟨j,_,rfl⟩:=aP.mp (hp.mem_iff.mp hx);simp
  rw[kh this,List.map_id']
 refine⟨Z.map Int.toNat,?_,?_,λs=>hZ.mem_iff,hZ.length_eq⟩
 ·rw[b9,<- hE,bx,bx,bx,hE];refine kh λx hx=>?_;obtain⟨j,_,rfl⟩:=aP.mp (hp.mem_iff.mp hx);simp
 ·have nd:(Z.map Int.toNat).Nodup:=hZ.nodup_iff.mpr hn;have h2:(Z.map Int.toNat).Pairwise (·<=·):=by
   rw[fF];exact hr.imp λh=>Int.toNat_le_toNat h
  exact(h2.and nd).imp λh=>Nat.lt_of_le_of_ne h.1 h.2
def lp(g:G)(t:Nat)(F:Nat->List Nat)(P:Nat->Prop):Prop:=∃kvs L,g[t]?=some (.dg kvs)/\Ky kvs L/\(∀s,s∈L↔P s)/\∀s,P s->∃l,u4 kvs (kN s)=some (.ref l)/\g[l]?=some (.lst (b9 (F s)))
theorem lp.at{g g':G}{t:Nat}{F:Nat->List Nat}{P:Nat->Prop}(h:lp g t F P)(e:Ex g g'):lp g' t F P:=by
 obtain⟨kvs,L,h1,h2,h3,h4⟩:=h;exact⟨kvs,L,e.at h1,h2,h3,λs hs=>by obtain⟨l,q1,q4⟩:=h4 s hs;exact⟨l,q1,e.at q4⟩⟩
theorem lp.cg{t:Nat}{F:Nat->List Nat}{P P':Nat->Prop}(h:lp g t F P)(e:∀s,P' s↔P s):lp g t F P':=by
 obtain⟨kvs,L,h1,h2,h3,h4⟩:=h;exact⟨kvs,L,h1,h2,λs=>(h3 s).trans (e s).symm,λs hs=>h4 s ((e s).mp hs)⟩
theorem sU(h1:g[i]?=some (.lst l))(h2:g[j]?=some (.dg kvs)):j≠i:=λe=>by rw[e,h1] at h2;cases h2
theorem lp.xK{t w:Nat}{F:Nat->List Nat}{P:Nat->Prop}{kw:List (Key×D)}(h:lp g t F P)(hw:g[w]?=some (.dg kw))(ne:w≠t):lp (g.set w o) t F P:=by
 obtain⟨kvs,L,h1,h2,h3,h4⟩:=h;exact⟨kvs,L,d4 h1 ne,h2,h3,λs hs=>by obtain⟨l,q1,q4⟩:=h4 s hs;exact⟨l,q1,d4 q4 (sU q4 hw)⟩⟩
theorem lp.put{g:G}{t l r:Nat}{F:Nat->List Nat}{P:Nat->Prop}{kvs:List (Key×D)}(h:lp g t F P)(hk:g[t]?=some (.dg kvs))(hl:g[l]?=some (.lst (b9 (F r)))):lp (g.set t (.dg (putD kvs (kN r) (.ref l)))) t F (λs=>P s\/s=r):=by
 obtain⟨jb,L,h1,h2,h3,h4⟩:=h;rw[hk] at h1;cases h1;obtain⟨L',k1,k2⟩:=h2.put r (.ref l);refine⟨_,L',get_set hk,k1,λs=>by rw[k2,h3],λs hs=>?_⟩;by_cases e:s=r
 ·subst e;exact⟨l,Lv,d4 hl (sU hl hk)⟩
 ·obtain⟨l',q1,q2⟩:=h4 s (hs.resolve_right e);exact⟨l',by rw[Zw (Iw λz=>e z.symm)];exact q1,d4 q2 (sU q2 hk)⟩
theorem take1{l:List α}{x:α}(h:l[i]?=some x)(y:α):y∈l.take (i+1)↔y∈l.take i\/y=x:=by
 rw[bL,h];simp
theorem Io{x:Nat}(h:Ex g g')(hx:g.length<=x):Ex g (g'.set x o):=⟨by simp[h.len],λi hi=>by rw[ay (by omega)];exact h.old i hi⟩
theorem K0(h:(b9 L)[i]?=some x):∃j,L[i]?=some j/\x=.int (j:Nat):=by
 rw[b9,au,ae] at h;obtain⟨j,h1,h2⟩:=h;exact⟨j,h1,h2.symm⟩
section
variable{T:Nat->Option bo}{d:Nat}
theorem a12(hT:qz T)(vV:EW T)(rX:T 149=some za)(hB:∀c∈cs,CB c)(ha:g[a]?=some (.lst (cs.map b7.d)))(hz:cs.length<=9)(hc:g[c]?=some (.lst (u5 rs)))(hr:rs.length<=900)(h:∀g' t,Ex g g'->g.length<=t->lp g' t (L9 cs v rs) (jm (L9 cs v rs))->Q (.ref t) g'):d0 T (k+4) 149 [.ref a,.int v,.ref c] g Q E:=by
 refine call_of rX rfl ?_;dsimp[za,d8,List.replicate];have lU:=Y4 cs v rs;have p2:=ER hz;walk_at"";have e1:=Ex.snoc g (O.dg []);have t1:=b8 (g:=g) (o:=O.dg []);generalize g++[O.dg []]=g1 at *;have l1:=j7 t1;walk_at"";have e2:=e1.trans (Ex.snoc g1 (O.lst [.int 0]));have t2:=(Ex.snoc g1 (O.lst [.int 0])).at t1;have f2:=b8 (g:=g1) (o:=O.lst [.int 0]);generalize g1++[O.lst [.int 0]]=g2 at *;generalize g1.length=f at *;refine y9 (b0 T _) (pI (b0 T _) ?_);walk_at"";refine J8 (a9 (e2.at ha)) ?_;walk_at"";rw[aj];generalize Bx:L9 cs v rs=F at *;refine⟨by omega,by omega,l9 0 (cs.length+1),λi σ g'=>Ex g g'/\lp g' g.length F (λs=>∃j,j<i/\Lay F j s)/\∃fr Fr z5 z6 z7 z8,g'[fr]?=some (.lst (b9 Fr))/\g.length<=fr/\(∀s,s∈Fr↔Lay F i s)/\σ=[some (.ref a),some (.int v),some (.ref c),some (.ref g.length),some (.ref fr),z5,z6,z7,z8],λ_ _ _ _=>u9,⟨e2,⟨[],[],t2,⟨rfl,oI⟩,λs=>by simp,λs hs=>by obtain⟨j,hj,_⟩:=hs;omega⟩,f,[0],none,none,none,none,f2,by omega,λs=>by simp[Lay],rfl⟩,λi x σ g' hx q=>?_,λσ g' q=>?_⟩
 ·obtain⟨e3,T3,fr,Fr,z5,z6,z7,z8,F3,lf,qg,rfl⟩:=q;obtain⟨hi,rfl⟩:=A5 hx;refine j4 ?_
  try show wpS _ _ _ _ _ _
  walk_at"";have e4:=e3.trans (Ex.snoc g' (O.dg []));have T4:=T3.at (Ex.snoc g' (O.dg []));have F4:=(Ex.snoc g' (O.dg [])).at F3;have w4:=b8 (g:=g') (o:=O.dg []);have lw:=e3.len;have nt:g'.length≠g.length:=λe=>by obtain⟨_,_,q,_⟩:=T3;have:=j7 q;omega
  generalize g'++[O.dg []]=g4 at *;generalize g'.length=wd at *;refine y9 (b0 T _) (lF (b0 T _) ?_);walk_at"";refine⟨_,_,rfl,a9 F4,b9 Fr,λm σ g'=>Ex g g'/\g'[fr]?=some (.lst (b9 Fr))/\lp g' g.length F (λs=>(∃j,j<i/\Lay F j s)\/s∈Fr.take m)/\(∃kvs W,g'[wd]?=some (.dg kvs)/\Ky kvs W/\∀s,s∈W↔∃r∈Fr.take m,∃p∈F r,s=r |||2 ^ p)/\∃z7 z8,σ=[some (.ref a),some (.int v),some (.ref c),some (.ref g.length),some (.ref fr),some (.int ((0:Int)+(i:Nat))),some (.ref wd),z7,z8],λ_ _ _ q=>o6 (a9 q.2.1),⟨e4,F4,T4.cg λs=>by simp,⟨[],[],w4,⟨rfl,oI⟩,λs=>by simp⟩,z7,z8,rfl⟩,λm x σ g' hx q=>?_,λσ g' q=>?_⟩
  ·obtain⟨e5,F5,T5,⟨kvs,W,w5,k5,hW⟩,z7,z8,rfl⟩:=q;obtain⟨r,vF,rfl⟩:=K0 hx;refine j4 ?_
   try show wpS _ _ _ _ _ _
   walk_at"";refine JY (k:=k) hT vV hB (e5.at ha) hz (e5.at hc) hr λg6 l e6 ll h6=>?_;rw[Bx] at h6;have T6:=T5.at e6;obtain⟨kt,L6,vE,k6,Ot,_⟩:=id T6;have dO:∀s,((∃j,j<i/\Lay F j s)\/s∈Fr.take m)->s<2 ^ cs.length:=λs hs=>by
    rcases hs with⟨j,_,hj⟩|hs
    ·exact hj.qY.lt lU
    ·exact((qg s).mp (dy hs)).qY.lt lU
   have hk6:=k6.small hz λs hs=>dO s ((Ot s).mp hs);have Ny:jm F r:=((qg r).mp (aL vF)).qY;walk_at"";refine Ec vE rfl (by omega) ?_;walk_at"";have T7:=T6.put vE h6;have h7:(g6.set g.length (.dg (putD kt (kN r) (.ref l))))[l]?=some (.lst (b9 (F r))):=d4 h6 (sU h6 vE);have v7:(g6.set g.length (.dg (putD kt (kN r) (.ref l))))[g.length]?=some (.dg (putD kt (kN r) (.ref l))):=get_set vE;have e7:Ex g (g6.set g.length (.dg (putD kt (kN r) (.ref l)))):=Io (e5.trans e6) (av _);have F7:(g6.set g.length (.dg (putD kt (kN r) (.ref l))))[fr]?=some (.lst (b9 Fr)):=d4 (e6.at F5) (sU (e6.at F5) vE);have w7:(g6.set g.length (.dg (putD kt (kN r) (.ref l))))[wd]?=some (.dg kvs):=d4 (e6.at w5) (cc nt);generalize g6.set g.length (.dg (putD kt (kN r) (.ref l)))=g7 at *;refine y9 (b0 T _) (lF (b0 T _) ?_);walk_at"";refine Vt v7 rfl Lv ?_;refine⟨_,_,rfl,a9 h7,b9 (F r),λq σ g'=>Ex g g'/\g'[fr]?=some (.lst (b9 Fr))/\g'[l]?=some (.lst (b9 (F r)))/\lp g' g.length F (λs=>((∃j,j<i/\Lay F j s)\/s∈Fr.take m)\/s=r)/\(∃kvs W,g'[wd]?=some (.dg kvs)/\Ky kvs W/\∀s,s∈W↔(∃r∈Fr.take m,∃p∈F r,s=r |||2 ^ p)\/∃p∈(F r).take q,s=r |||2 ^ p)/\∃z8,σ=[some (.ref a),some (.int v),some (.ref c),some (.ref g.length),some (.ref fr),some (.int ((0:Int)+(i:Nat))),some (.ref wd),some (.int (r:Nat)),z8],λ_ _ _ q=>o6 (a9 q.2.2.1),⟨e7,F7,h7,T7,⟨kvs,W,w7,k5,λs=>by simp[hW]⟩,z8,rfl⟩,λq x σ g' hx q=>?_,λσ g' q=>?_⟩
   ·obtain⟨e8,F8,h8,T8,⟨Gi,W8,w8,k8,yk⟩,z8,rfl⟩:=q;obtain⟨p,hp,rfl⟩:=K0 hx;have tJ:=lU r p (aL hp);refine j4 ?_
    try show wpS _ _ _ _ _ _
    walk_at"";refine zF (k:=k+2) vV.mJ (by omega) λg9 e9=>?_;walk_at"";have vH:=k8.small hz λs hs=>by
     rcases(yk s).mp hs with⟨r',eY,p',gL,e⟩|⟨p',gL,e⟩
     ·rw[e];exact(jm.step ((qg r').mp (dy eY)).qY gL).lt lU
     ·rw[e];exact(jm.step Ny (dy gL)).lt lU
    have es:((r:Nat):Int)+((2 ^ p:Nat):Int)=((r |||2 ^ p:Nat):Int):=by rw[Kf tJ.2];omega
    rw[es];refine Ec (e9.at w8) rfl (by omega) ?_;walk_at"";obtain⟨W9,k9,Oh⟩:=k8.put (r |||2 ^ p) (.bl true);refine⟨Io (e8.trans e9) lw,d4 (e9.at F8) (sU (e9.at F8) (e9.at w8)),d4 (e9.at h8) (sU (e9.at h8) (e9.at w8)),(T8.at e9).xK (e9.at w8) nt,⟨_,W9,get_set (e9.at w8),k9,λs=>?_⟩,_,rfl⟩;rw[Oh,yk];constructor
    ·rintro((z|⟨p',gL,e⟩)|e)
     ·exact .inl z
     ·exact .inr ⟨p',(take1 hp p').mpr (.inl gL),e⟩
     ·exact .inr ⟨p,(take1 hp p).mpr (.inr rfl),e⟩
    ·rintro(z|⟨p',gL,e⟩)
     ·exact .inl (.inl z)
     ·rcases(take1 hp p').mp gL with z|rfl
      ·exact .inl (.inr ⟨p',z,e⟩)
      ·exact .inr e
   ·obtain⟨e8,F8,h8,T8,⟨Gi,W8,w8,k8,yk⟩,z8,rfl⟩:=q
    try show wpS _ _ _ _ _ _
    walk_at"";refine⟨e8,F8,T8.cg λs=>?_,⟨Gi,W8,w8,k8,λs=>?_⟩,_,_,rfl⟩
    ·rw[take1 vF];exact or_assoc.symm
    ·rw[yk,show(F r).take (b9 (F r)).length=F r from df (by simp[b9])];constructor
     ·rintro(⟨r',eY,z⟩|z)
      ·exact⟨r',(take1 vF r').mpr (.inl eY),z⟩
      ·exact⟨r,(take1 vF r).mpr (.inr rfl),z⟩
     ·rintro⟨r',eY,z⟩;rcases(take1 vF r').mp eY with y|rfl
      ·exact .inl ⟨r',y,z⟩
      ·exact .inr z
  ·obtain⟨e5,F5,T5,⟨kvs,W,w5,k5,hW⟩,z7,z8,rfl⟩:=q;rw[show Fr.take (b9 Fr).length=Fr from df (by simp[b9])] at T5 hW;have vH:=k5.small hz λs hs=>by
    obtain⟨r',eY,p',gL,e⟩:=(hW s).mp hs;rw[e];exact(jm.step ((qg r').mp eY).qY gL).lt lU
   try show wpS _ _ _ _ _ _
   walk_at"";refine Xc w5 (by omega) ?_;rw[k5.keys];have e6:=Ex.snoc g' (O.lst ((W.map λj:Nat=>(j:Int)).map .int));have h6:=b8 (g:=g') (o:=O.lst ((W.map λj:Nat=>(j:Int)).map .int));generalize g'++[O.lst ((W.map λj:Nat=>(j:Int)).map .int)]=g6 at *;refine TJ (a9 h6) (by rw[aj,<- k5.len];omega) ?_;obtain⟨S,s1,s2,s3,s4⟩:=XN k5.2;rw[s1];walk_at"";refine⟨(e5.trans e6).trans (Ex.snoc _ _),((T5.at e6).at (Ex.snoc _ _)).cg λs=>?_,_,S,_,_,_,_,b8,(e5.trans e6).len,λs=>?_,rfl⟩
   ·rw[qg];constructor
    ·rintro⟨j,hj,z⟩;by_cases e:j=i
     ·subst e;exact .inr z
     ·exact .inl ⟨j,by omega,z⟩
    ·rintro(⟨j,hj,z⟩|z)
     ·exact⟨j,by omega,z⟩
     ·exact⟨i,by omega,z⟩
   ·rw[s3,hW];constructor
    ·rintro⟨r',eY,p',gL,e⟩;exact⟨r',p',(qg r').mp eY,gL,e⟩
    ·rintro⟨r',p',eY,gL,e⟩;exact⟨r',(qg r').mpr eY,p',gL,e⟩
 ·obtain⟨e3,T3,fr,Fr,z5,z6,z7,z8,F3,lf,qg,rfl⟩:=q
  try show wpS _ _ _ _ _ _
  walk_at"";refine h _ _ e3 (av _) (T3.cg λs=>⟨λz=>?_,λz=>?_⟩)
  ·obtain⟨i,hi⟩:=Uj z;exact⟨i,by rw[n5];have:=hi.le lU;omega,hi⟩
  ·obtain⟨j,_,hj⟩:=z;exact hj.qY
end
def Dd:bo:=⟨3,3,(.seq (.ret (.call 129 (fA (.call 99 (iR aO bE bD))))) .pass)⟩
def DU:bo:=⟨1,1,(.seq (.ret (.eI (cA .isin aO (.lit (.ty "list"))) (dZ .all (.comp [] 2 (.one 1) (.fu aO) .no (.call 6 (fA bE)))))) .pass)⟩
def De:bo:=⟨4,8,(.seq (.set 4 (cA (.bin .Sub) (.call 147 (fA (dZ .len aO))) (bp 1))) (.seq (.ifs (.jT (.eU (.gi (.call 86 (fA bT)))) (.jT (fi .NotEq bT (dZ .sset bT)) (fi .NotIn (bp 0) bT))) (.seq (.ret (.lit (.bl false))) .pass) .pass) (.seq (.ifs (.eU (.gi (dZ .all (.comp [4] 3 (.one 2) (.fu bT) .no (.chain .LtE .Lt (bp 0) bD aO))))) (.seq (.ret (.lit (.bl false))) .pass) .pass) (.seq (.set 6 (dZ .kU (.comp [] 2 (.one 1) (.fu bT) .no (cA .tup bE (.lit (.bl true)))))) (.seq (.dP (.one 5) (.fu bT) (.seq (.dP (.one 7) (.fu (.call 148 (pP aO bE bD fh))) (.seq (.ifs (fi .NotIn (cA (.bin .Add) fh (.call 147 (fA gH))) fN) (.seq (.ret (.lit (.bl false))) .pass) .pass) .pass)) .pass)) (.seq (.ret (.lit (.bl true))) .pass))))))⟩
def EN:bo:=⟨1,9,(.seq (.set 1 (.call 3 (fA aO))) (.seq (.dP (.one 2) (.eV (bp 2)) (.seq (.mr (.many [3,4,5]) (.call 110 (eM bE (dj (cA .tup (bp 9) (bp 6)) bD)))) (.seq (.set 6 (cA (.cmp .In) (cA (.bin .Sub) (.call 147 (fA (dZ .len bT))) (bp 1)) (.call 149 (iR bT dJ fh)))) (.seq (.dP (.one 7) (.eV (bp 2)) (.seq (.set 8 (.call 132 (iR (dZ .list bT) dJ (dZ .list fh)))) (.seq (.ifs (fi .NotEq (cA (.cmp .Is) jK (.lit .cj)) fN) (.seq (.ret (.lit (.bl false))) .pass) .pass) (.seq (.ifs (fi .IsNot jK (.lit .cj)) (.seq (.ifs (.eU (.gi (.call 158 (pP bT dJ fh jK)))) (.seq (.ret (.lit (.bl false))) .pass) .pass) (.seq (.expr (.fg .append jK (fA (bp 0)))) .pass)) .pass) .pass)))) .pass)))) (.seq (.ret (.lit (.bl true))) .pass)))⟩
structure EX(T:Nat->Option bo):Prop where
 tb:TB T
 my:qz T
 tf:TF T
 uR:EW T
 h3:T 3=some yM
 h6:T 6=some zN
 OI:T 86=some DU
 yp:T 11=some EN
 se:T 117=some C3
 rZ:T 129=some N9
 BH:T 132=some Dd
 rX:T 149=some za
 BE:T 158=some De
theorem aG1(h:L.Pairwise (· < ·)):p8 (L.map λj:Nat=>(j:Int))=L.map λj:Nat=>(j:Int):=by
 refine U1 ((L7 _).trans ?_) (JE _) (fF.mpr (h.imp λz=>by omega));rw[JQ (ks:=[]) (by rw[nk];exact fF.mpr (h.imp λz e=>by omega))];exact gO _
section
variable{T:Nat->Option bo}{d:Nat}{l:Nat}
theorem a73(ha:g[a]?=some (.lst (ns.map .int)))(hb:g[b]?=some (.lst (ns.map .int)))(h:kb true):sC g (.ref a) (.ref b) kb:=by
 have rr:∀{x},g[x]?=some (.lst (ns.map .int))->rd g 6 (.ref x)=some (.list (ns.map PyData.int)):=λhx=>by
  simp only[rd];rw[a9 hx];dsimp only;rw[K6]
  rfl
 refine⟨_,.inr (.inr (.inr ⟨_,_,rr ha,rr hb,?_,?_,rfl⟩)),?_⟩
 ·simp only[PyData.canLay0];exact lay_ints ns
 ·simp only[PyData.canLay0];exact lay_ints ns
 ·simp only[PyData.eqv];rw[a72];exact h
theorem a54(hT:EX T)(hl:g[l]?=some (.lst (b9 L)))(hz:L.length<=1000)(h:∀g',Ex g g'->Q (.bl true) g'):d0 T (k+2) 86 [.ref l] g Q E:=by
 refine call_of hT.OI rfl ?_;dsimp[DU,d8,List.replicate];walk_at"";refine vy (c:="list") (b:=true) (by decide) (show(match g[l]? with|some (.lst _)=>some ("list"=="list")|_=>none)=some true by rw[hl];rfl) ?_;walk_at"";refine comp_map (b0 T _) (λσ=>∃z0 z1,σ=[z0,z1]) (λ_=>.bl true) (l:=b9 L) (k:=.lst l) (λg' e=>o6 (a9 (e.at hl))) (by simpa[b9] using hz) ⟨none,none,rfl⟩ (λi x σ g' hx e sh=>?_) (λg' e=>?_) (L8 (b0 T _) (a9 hl) λQ q=>w_var (d:=.ref l) rfl q)
 ·obtain⟨z0,z1,rfl⟩:=sh;obtain⟨j,_,rfl⟩:=K0 hx;refine j4 ?_
  try show bh _ _ _ _ _ _
  walk_at"";exact QR hT.h6 ⟨rfl,e,_,_,rfl⟩
 ·refine yD (v:=true) (a9 b8) ?_ (h _ (e.trans (Ex.snoc _ _)));rw[show(List.range (b9 L).length).map (λ_=>D.bl true)=(List.replicate (b9 L).length true).map D.bl by rw[List.map_const',fG,Mm],V0];simp
theorem aN0(hT:EX T)(hB:∀c∈cs,CB c)(ha:g[a]?=some (.lst (cs.map b7.d)))(hz:cs.length<=9)(hc:g[c]?=some (.lst (u5 rs)))(hr:rs.length<=900)(hl:g[l]?=some (.lst (b9 L)))(hL:L.length<=512)(pw:L.Pairwise (· < ·))(h0:0∈L)(dO:∀s∈L,s<2 ^ cs.length-1)(cl:∀s∈L,∀p∈L9 cs v rs s,s+2 ^ p∈L)(h:∀g',Ex g g'->Q (.bl true) g'):d0 T (k+5) 158 [.ref a,.int v,.ref c,.ref l] g Q E:=by
 have li:(b9 L).length=L.length:=by simp[b9]
 refine call_of hT.BE rfl ?_;dsimp[De,d8,List.replicate];walk_at"";rw[aj];refine zF (k:=k+3) hT.uR.mJ hz λg1 e1=>?_;walk_at"";refine a54 (k:=k+2) hT (e1.at hl) (by omega) λg2 e2=>?_;have pA:=e1.trans e2;walk_at"";have nP:=pA.at hl;rw[S4] at nP;refine Kg (a9 nP) (by simp;omega) ?_;rw[aG1 pw];have x3:=Ex.snoc g2 (O.lst ((L.map λj:Nat=>(j:Int)).map .int));have s3:=b8 (g:=g2) (o:=O.lst ((L.map λj:Nat=>(j:Int)).map .int));have GF:=x3.at nP;have Hx:=pA.trans x3;generalize g2++[O.lst ((L.map λj:Nat=>(j:Int)).map .int)]=g3 at *;walk_at"";refine zJ (a73 GF s3 ?_);walk_at"";refine U9 (zo (i:=0) (by rw[S4];exact GF) ?_);rw[az h0];walk_at"";have GD:g3[l]?=some (.lst (b9 L)):=Hx.at hl;refine comp_map (b0 T _) (λσ=>∃z1 z2,σ=[some (.int (((2 ^ cs.length:Nat):Int)-1)),z1,z2]) (λ_=>.bl true) (l:=b9 L) (k:=.lst l) (λg' e=>o6 (a9 (e.at GD))) (by omega) ⟨none,none,rfl⟩ (λi x σ g' hx e sh=>?_) (λg4 e4=>?_) (L8 (b0 T _) (a9 GD) λQ q=>w_var (d:=.ref l) rfl q)
 ·obtain⟨z1,z2,rfl⟩:=sh;obtain⟨j,hj,rfl⟩:=K0 hx;have:=dO j (aL hj);refine j4 ?_
  try show bh _ _ _ _ _ _
  walk_at"";refine jl (az (by omega)) ?_;walk_at"";exact⟨by rw[az (by omega)],e,_,_,rfl⟩
 refine yD (v:=true) (a9 b8) (by rw[show(List.range (b9 L).length).map (λ_=>D.bl true)=(List.replicate (b9 L).length true).map D.bl by rw[List.map_const',fG,Mm],V0];simp) ?_;have e5:=Hx.trans (e4.trans (Ex.snoc g4 (O.lst ((List.range (b9 L).length).map λ_=>D.bl true))));generalize g4++[O.lst ((List.range (b9 L).length).map λ_=>D.bl true)]=g5 at *;walk_at"";have xZ:=e5.at hl;refine comp_map (b0 T _) (λσ=>∃z0 z1,σ=[z0,z1]) (λi=>.tup [.int ((L.getD i 0:Nat):Int),.bl true]) (l:=b9 L) (k:=.lst l) (λg' e=>o6 (a9 (e.at xZ))) (by omega) ⟨none,none,rfl⟩ (λi x σ g' hx e sh=>?_) (λg6 e6=>?_) (L8 (b0 T _) (a9 xZ) λQ q=>w_var (d:=.ref l) rfl q)
 ·obtain⟨z0,z1,rfl⟩:=sh;obtain⟨j,hj,rfl⟩:=K0 hx;refine j4 ?_
  try show bh _ _ _ _ _ _
  walk_at"";exact⟨by simp[List.getD,hj],e,_,_,rfl⟩
 have el:(List.range (b9 L).length).map (λi=>D.tup [.int ((L.getD i 0:Nat):Int),.bl true])=(L.map λj:Nat=>(j:Int)).map λk=>.tup [.int k,.bl true]:=by
  rw[bx,li];refine cz λi=>?_;rw[au,au];by_cases hi:i<L.length
  ·rw[cw hi,ao hi];simp[List.getD,hi]
  ·rw[aT (by simpa using hi),aT (by omega)]
   rfl
 rw[el];refine TC (a9 b8) (by simp;omega) (fF.mpr (pw.imp λz e=>by omega)) ?_;have e7:=e5.trans (e6.trans ((Ex.snoc g6 (O.lst ((L.map λj:Nat=>(j:Int)).map λk=>.tup [.int k,.bl true]))).trans (Ex.snoc _ (O.dg ((L.map λj:Nat=>(j:Int)).map λk=>(.inl k,.bl true))))));have d7:=b8 (g:=g6++[O.lst ((L.map λj:Nat=>(j:Int)).map λk=>.tup [.int k,.bl true])]) (o:=O.dg ((L.map λj:Nat=>(j:Int)).map λk=>(.inl k,.bl true)));generalize (g6++[O.lst ((L.map λj:Nat=>(j:Int)).map λk=>.tup [.int k,.bl true])]).length=dd at *;generalize (g6++[O.lst ((L.map λj:Nat=>(j:Int)).map λk=>.tup [.int k,.bl true])])++[O.dg ((L.map λj:Nat=>(j:Int)).map λk=>(.inl k,.bl true))]=g7 at *;have inD:∀s,s∈L->(u4 ((L.map λj:Nat=>(j:Int)).map λk=>((.inl k:Key),D.bl true)) (.inl (s:Nat))).isSome=true:=λs hs=>by
  unfold u4;rw[fC,List.find?_isSome];exact⟨(.inl ((s:Nat):Int),.bl true),aP.mpr ⟨_,aP.mpr ⟨s,hs,rfl⟩,rfl⟩,az rfl⟩
 walk_at"";have xY:=e7.at hl;refine y9 (b0 T _) (lF (b0 T _) ?_);walk_at"";refine⟨l,_,rfl,a9 xY,b9 L,λi σ g'=>Ex g7 g'/\∃z5 z7,σ=[some (.ref a),some (.int v),some (.ref c),some (.ref l),some (.int (((2 ^ cs.length:Nat):Int)-1)),z5,some (.ref dd),z7],λi σ g' q=>o6 (a9 (q.1.at xY)),⟨Ex.refl _,_,_,rfl⟩,λi x σ g8 hx q=>?_,λσ g8 q=>?_⟩
 ·obtain⟨e8,z5,z7,rfl⟩:=q;obtain⟨s,hs,rfl⟩:=K0 hx;have Nx:=aL hs;refine j4 ?_
  try show wpS _ _ _ _ _ _
  walk_at"";refine y9 (b0 T _) (lF (b0 T _) ?_);walk_at"";have Hv:=e7.trans e8;refine JY (k:=k+1) hT.my hT.uR hB (Hv.at ha) hz (Hv.at hc) hr λg9 f e9 hf9 h9=>?_;refine⟨f,_,rfl,a9 h9,b9 (L9 cs v rs s),λj σ g'=>Ex g9 g'/\∃z7,σ=[some (.ref a),some (.int v),some (.ref c),some (.ref l),some (.int (((2 ^ cs.length:Nat):Int)-1)),some (.int (s:Nat)),some (.ref dd),z7],λj σ g' q=>o6 (a9 (q.1.at h9)),⟨Ex.refl _,_,rfl⟩,λj x σ wm hx q=>?_,λσ wm q=>?_⟩
  ·obtain⟨lK,z7,rfl⟩:=q;obtain⟨p,hp,rfl⟩:=K0 hx;have tJ:=aL hp;have hp9:=(Y4 cs v rs s p tJ).1;refine j4 ?_
   try show wpS _ _ _ _ _ _
   walk_at"";refine zF (k:=k+3) hT.uR.mJ (by omega) λHi sD=>?_;walk_at"";rw[show((s:Nat):Int)+((2 ^ p:Nat):Int)=((s+2 ^ p:Nat):Int) by omega];refine U9 ⟨_,.inl ⟨_,_,_,rfl,((e8.trans e9).trans (lK.trans sD)).at d7,rfl,rfl⟩,?_⟩;rw[inD _ (cl s Nx p tJ)];walk_at"";exact⟨lK.trans sD,_,rfl⟩
  ·obtain⟨lK,z7,rfl⟩:=q
   try show wpS _ _ _ _ _ _
   exact⟨e8.trans (e9.trans lK),_,_,rfl⟩
 ·obtain⟨e8,z5,z7,rfl⟩:=q
  try show wpS _ _ _ _ _ _
  walk_at"";exact h _ (e7.trans e8)
theorem a63(hT:EX T):d0 T (k+12) 11 [.ref 0] [.oY (ns.map .int)] (λd _=>d=.bl true) jZ:=by
 refine call_of hT.yp rfl ?_;dsimp[EN,d8,List.replicate];walk_at"";refine Tz (k:=k+10) hT.h3 (a:=0) (ns:=ns) rfl λd g D0 _ _=>?_;walk_at"";refine Jl (n:=2) (by decide) (λi σ g=>j6 g d/\∃z2 z3 z4 z5 z6 z7 z8,σ=[some (.ref 0),some (.ref d),z2,z3,z4,z5,z6,z7,z8]) ⟨D0,none,none,none,none,none,none,none,rfl⟩ (λi σ g hi p=>?_) (λσ g p=>?_)
 ·obtain⟨D1,z2,z3,z4,z5,z6,z7,z8,rfl⟩:=p;have dl:=D1.lt
  try show wpS _ _ _ _ _ _
  walk_at"";have hn:∃n:Int,gI [D.int 9,D.int 6] (i:Int)=some (.int n)/\0<=n/\n<=9:=by
   have:i=0\/i=1:=by omega
   rcases this with rfl|rfl
   ·exact⟨9,rfl,by decide,by decide⟩
   ·exact⟨6,rfl,by decide,by decide⟩
  obtain⟨n,hn,n1,n2⟩:=hn;refine w6 hn ?_;walk_at"";refine a32 (k:=k+6) hT.my hT.my.si ⟨n1,n2⟩ D1 λcs rs a c v g2 hl hG ha yh hr hR hc jX hac v1 v2 D2 G2=>?_;refine C0 rfl ?_
  try show wpS _ _ _ _ _ _
  have hz:cs.length<=9:=by omega
  have hB:∀c∈cs,CB c:=λc hc=>⟨(hG c hc).l8,(hG c hc).u8⟩
  have hg:cs.all w9=true:=cU.mpr λc hc=>(hG c hc).good;have lU:=Y4 cs v rs;have pos:=Nat.two_pow_pos cs.length;walk_at"";rw[aj];refine zF (k:=k+10) hT.uR.mJ hz λg3 e3=>?_;walk_at"";refine a12 (k:=k+7) (v:=v) hT.my hT.uR hT.rX hB (e3.at ha) hz (e3.at hc) (by omega) λg4 t e4 _ T4=>?_;obtain⟨kvs,M,t4,k4,hM,_⟩:=T4;have full:∃B:Bool,(B=true↔jm (L9 cs v rs) (2 ^ cs.length-1))/\(u4 kvs (.inl (((2 ^ cs.length:Nat):Int)-1))).isSome=B:=by
   refine⟨_,?_,rfl⟩;rw[show((2 ^ cs.length:Nat):Int)-1=((2 ^ cs.length-1:Nat):Int) by omega];have:(u4 kvs (kN (2 ^ cs.length-1))).isSome=true↔kN (2 ^ cs.length-1)∈kvs.map (·.1):=by
    unfold u4;rw[fC,List.find?_isSome];simp only[List.mem_map,decide_eq_true_eq]
   rw[this,k4.1,<- hM];constructor
   ·intro z;obtain⟨j,hj,e⟩:=aP.mp z;have:(j:Int)=((2 ^ cs.length-1:Nat):Int):=mR e;rw[<- show j=2 ^ cs.length-1 by omega];exact hj
   ·exact λz=>aP.mpr ⟨_,z,rfl⟩
  obtain⟨B,Hc,Ov⟩:=full;walk_at"";refine ue ⟨_,.inl ⟨_,_,_,rfl,t4,rfl,rfl⟩,?_⟩;rw[Ov];have Cc:=e3.trans e4;have D4:=Cc.draw D2;have a4:=Cc.at ha;have c4:=Cc.at hc;walk_at"";refine Jl (n:=2) (by decide) (λj σ g'=>(∀x o,x<g4.length->g4[x]?=some o->g'[x]?=some o)/\g4.length<=g'.length/\∃z7 z8,σ=[some (.ref 0),some (.ref d),some (.int i),some (.ref a),some (.int v),some (.ref c),some (.bl B),z7,z8]) ⟨λ_ _ _ z=>z,av _,_,_,rfl⟩ (λj σ g6 hj p=>?_) (λσ g6 p=>?_)
  ·obtain⟨k6,l6,z7,z8,rfl⟩:=p;have la:=j7 a4;have lc:=j7 c4;have a6:=k6 _ _ la a4;have c6:=k6 _ _ lc c4
   try show wpS _ _ _ _ _ _
   walk_at""
   try refine yK (a9 a6) ?_
   walk_at"";have e7:=Ex.snoc g6 (O.lst (cs.map b7.d));have a7:=b8 (g:=g6) (o:=O.lst (cs.map b7.d));generalize g6++[O.lst (cs.map b7.d)]=g7 at *
   try refine yK (a9 (e7.at c6)) ?_
   walk_at"";have e8:=e7.trans (Ex.snoc g7 (O.lst (u5 rs)));have c8:=b8 (g:=g7) (o:=O.lst (u5 rs));have a8:=(Ex.snoc g7 (O.lst (u5 rs))).at a7;generalize g7++[O.lst (u5 rs)]=g8 at *;refine call_of hT.BH rfl ?_;dsimp[Dd,d8,List.replicate];walk_at"";refine aH2 (k:=k) hT.tb a8 hz hg hB ⟨v1,by omega⟩ c8 (by omega) hR λg9 b e9 _ Bd9=>?_;walk_at"";refine Ys (k:=k+3) hT.tb.toTB0 hT.tf hT.se hT.rZ Bd9 hz (by omega) λL f wm lK hf hL pw mL lL=>⟨λhR=>?_,λhR=>?_⟩
   ·have:B=true:=Hc.mpr hR;subst this;walk_at"";refine hU rfl ?_;walk_at"";have ee:=e8.trans (e9.trans lK);exact⟨λx o hx e=>ee.at (k6 x o hx e),aF l6 ee.len,_,_,rfl⟩
   ·have Ox:B=false:=by
     cases B
     ·rfl
     ·exact absurd (Hc.mp rfl) hR
    subst Ox;walk_at"";have ee:=e8.trans (e9.trans lK);refine hU rfl ?_;walk_at"";have l8:=(e8.trans e9).len;refine aN0 (k:=k+6) hT hB (ee.at a6) hz (ee.at c6) (by omega) hL lL pw ((mL 0).mpr .zero) (λs hs=>?_) (λs hs p hp=>?_) λHi sD=>?_
    ·have jc:=(mL s).mp hs;have:=jc.lt lU;have ne:s≠2 ^ cs.length-1:=λz=>hR (z▸jc);omega
    ·have jc:=(mL s).mp hs;have:=(lU s p hp).2;rw[<- Kf this];exact(mL _).mpr (.step jc hp)
    ·walk_at"";have yp:=sD.at hL
     try refine⟨Y0 yp,?_⟩
     walk_at"";refine P7 yp (by simp[b9];omega) ?_;walk_at"";have pA:=ee.trans sD;refine⟨λx o hx e=>?_,by simp;exact aF l6 pA.len,_,_,rfl⟩;rw[ay (by omega)];exact pA.at (k6 x o hx e)
  ·obtain⟨k6,l6,z7,z8,rfl⟩:=p
   try show wpS _ _ _ _ _ _
   walk_at"";obtain⟨s,p,b,r,xs,q1,q2,q3⟩:=D4.ex;exact⟨⟨s,p,b,r,xs,k6 _ _ (j7 q1) q1,k6 _ _ (j7 q2) q2,q3⟩,_,_,_,_,_,_,_,rfl⟩
 ·obtain⟨D1,z2,z3,z4,z5,z6,z7,z8,rfl⟩:=p
  try show wpS _ _ _ _ _ _
  walk_at""
  rfl
end
end M
namespace Lk
open PySem L2 M
def top(i:Nat):Stmt:=PySem.Challenge.pw_trussel_k21_papers_told.main.body.getD i (.Pass ⟨0,0,0,0⟩)
def SW:Stmt->List Stmt
 |.ClassDef (body:=b) ..=>b
 |_=>[]
def HU(i j:Nat):Stmt:=(SW (top i)).getD j (.Pass ⟨0,0,0,0⟩)
def F:List RF:=[⟨38,"is_number",["thing"],1,9,Ds⟩,⟨1,"number_from",["number","least","most"],3,10,V4⟩,⟨2,"good_marks",["marks","least","spot"],1,11,F6⟩,⟨15,"within",["one","other"],2,12,zq⟩,⟨12,"good_coin",["coin","lower","lower_marks","upper","upper_marks","year","good_lower","good_upper"],1,19,B5⟩,⟨39,"check_coin",["coin"],1,20,DA⟩,⟨18,"check_coins",["coins","coin"],1,21,V7⟩,⟨40,"check_side",["side"],1,22,P9⟩,⟨19,"die_field",["side"],1,23,Dq⟩,⟨74,"places_of",["coins","word","thing","field"],3,24,U4⟩,⟨20,"dies_of",["coins","side","field"],2,25,CO⟩,⟨42,"check_anvils",["anvils"],1,30,E7⟩,⟨88,"good_rule",["coins","rule","word","one","other"],2,31,Dr⟩,⟨89,"check_rules",["coins","rules","at","rule"],2,32,V6⟩,⟨90,"stand_of",["places"],1,33,zC⟩,⟨91,"with_coin",["stand","place"],2,34,U3⟩,⟨92,"more_worn",["one","other","side","field"],2,35,Dt⟩,⟨93,"later",["one","other"],2,36,Eu⟩,⟨94,"worn_stands",["coins"],1,37,V3⟩,⟨95,"later_stands",["coins"],1,38,S0⟩,⟨96,"die_stands",["coins"],1,39,DB⟩,⟨97,"needed_stands",["coins","rules","needed","word","one","other","first","place"],2,40,P0⟩,⟨98,"check_asked",["coins","anvils","rules"],3,42,O0⟩,⟨99,"bounds_of",["coins","anvils","rules"],3,43,Dp⟩,⟨100,"dies_in_use",["bounds","stand","place","struck","left"],3,44,DC⟩,⟨101,"next_fault",["bounds","stand","place"],3,45,DE⟩,⟨115,"follows",["bounds","stand","place"],3,47,zA⟩,⟨116,"followers",["bounds","stand"],2,48,DD⟩,⟨117,"reached_stands",["bounds","led_to","told","stand","place"],1,49,C3⟩,⟨129,"shown_paper",["bounds","stands"],1,51,N9⟩,⟨132,"paper_of",["coins","anvils","rules"],3,52,Dd⟩,⟨3,"_law_open",["_law_script"],1,54,yM⟩,⟨4,"_law_pull",["_law_draw","_law_total_of","_law_cell","_law_got","_law_seed"],2,55,E6⟩,⟨6,"_law_num",["_law_found"],1,56,zN⟩,⟨86,"_law_nums",["_law_found"],1,57,DU⟩,⟨21,"_law_order_of",["_law_draw","_law_numbers","_law_left","_law_found","_law_step"],2,58,R9⟩,⟨17,"_law_within",["_law_one","_law_other"],2,59,zB⟩,⟨22,"_law_any_coin",["_law_draw","_law_menu","_law_lower","_law_upper","_law_year"],1,60,zz⟩,⟨23,"_law_seated",["_law_draw","_law_seats","_law_fresh","_law_anvils"],4,61,F2⟩,⟨24,"_law_struck",["_law_draw","_law_size","_law_anvils","_law_seats","_law_fresh","_law_worn","_law_year","_law_step","_law_wear","_law_shift","_law_found","_law_k","_law_keys","_law_key","_law_spot","_law_named","_law_told_year"],3,62,F1⟩,⟨25,"_law_opened",["_law_draw","_law_size","_law_dies","_law_row","_law_held","_law_found","_law_k","_law_year"],2,63,zp⟩,⟨26,"_law_list",["_law_draw","_law_most","_law_size","_law_anvils","_law_way","_law_found","_law_at","_law_coin","_law_other"],2,64,P8⟩,⟨105,"_law_rule",["_law_draw","_law_coins","_law_word","_law_some","_law_at"],2,65,ur⟩,⟨106,"_law_rules",["_law_draw","_law_coins","_law_found","_law_k","_law_rule_here"],2,66,Ew⟩,⟨107,"_law_rule_kept",["_law_coins","_law_ahead","_law_place","_law_rule_here","_law_word","_law_one","_law_other","_law_at"],4,67,Du⟩,⟨108,"_law_fault",["_law_coins","_law_anvils","_law_rules_here","_law_ahead","_law_place","_law_coin","_law_there_here","_law_at","_law_here","_law_later"],5,68,wU⟩,⟨146,"_law_there",["_law_stand","_law_size"],2,69,zb⟩,⟨147,"_law_power",["_law_place"],1,70,yY⟩,⟨148,"_law_following",["_law_coins","_law_anvils","_law_rules_here","_law_stand","_law_there_here","_law_found","_law_place"],4,71,V5⟩,⟨149,"_law_table",["_law_coins","_law_anvils","_law_rules_here","_law_table_here","_law_front","_law_step","_law_wider","_law_stand","_law_place"],3,72,za⟩,⟨158,"_law_paper_ok",["_law_coins","_law_anvils","_law_rules_here","_law_stands","_law_end","_law_stand","_law_there_here","_law_place"],4,73,De⟩,⟨110,"_law_ready",["_law_draw","_law_most","_law_coins","_law_anvils"],2,74,yZ⟩,⟨11,"law",["_law_script","_law_draw","_law_turn","_law_coins","_law_anvils","_law_rules_here","_law_there_here","_law_step","_law_found"],1,75,EN⟩]
def Ms:List RM:=[⟨113,"Bounds","__init__","Bounds.__init__",["self","coins","anvils","rules"],4,41,0,V8⟩]
def con:List (Str×D):=[("LAST_SPOT",.int 7),("MOST_COINS",.int 9),("LAST_DIE",.int 99),("LAST_YEAR",.int 9999),("SIDES",.tup [(.str "lower"),(.str "upper")]),("MOST_ANVILS",.int 9),("RULE_WORDS",.tup [(.str "coin"),(.str "lower"),(.str "upper")]),("YEAR_FIELD",.int 4)]
def gd:List (Str×List D):=[("DIE_FIELDS",[.tup [.str "lower",.int 0],.tup [.str "upper",.int 2]])]
def exc:List Str:=["BadAnvils","BadCoin","BadRule","BadSide","TooMany"]
def c0:i7:=⟨[],[],true,F.map λr=>(r.nm,r.id),con,["len","enumerate","list","tuple","isinstance","all","range","int","bool","max","min","sorted","set","dict","sum"],exc,gd,[("Bounds",113)],Ms.map λr=>(r.nm,r.cl,r.id),[("size","Bounds"),("full","Bounds"),("room","Bounds"),("worn_by_place","Bounds"),("later_by_place","Bounds"),("lower_dies","Bounds"),("needed_by_place","Bounds")],true,true⟩
noncomputable abbrev T:Nat->Option bo:=uh F Ms
theorem tx:lX c0 F Ms top HU:=by
 refine⟨rfl,rfl,by decide +kernel,by decide +kernel,by decide +kernel,by decide +kernel,?_,?_,?_,?_⟩
 all_goals
  repeat first
   |exact BF.nil
   |exact BM.nil
   |exact YF.nil
   |exact YM.nil
   |refine YF.cons (by kernel_rfl) ?_
   |refine YM.cons (by kernel_rfl) ?_
   |refine BF.cons (λ_ _ _ _ _ _=>(by(repeat refine Fv λ_=>?_);exact Fu rfl)) ?_
   |refine BM.cons (λ_ _ _ _ _ _=>(by(repeat refine Fv λ_=>?_);exact Fu rfl)) ?_
inductive ub:List DictEntry->List (Str×V)->Prop
 |nil:ub [] []
 |cons {h:Int} {x:Str} {t:Tok} {u:Value} {v:V} {es:List DictEntry} {vs:List (Str×V)} (r:RelV v u) (q:ub es vs):ub (⟨h,.str x t,u⟩::es) ((x,v)::vs)
theorem ub.find{es vs}(x:Str)(h:ub es vs):F0 (vs.lookup x) (findBy Value.isStrOf es.toArray x):=by
 induction h with
 |nil=>trivial
 |cons r q ih =>
  rename_i h y t u v es vs;unfold findBy at ih ⊢;rw[List.find?_toArray] at ih ⊢;rw[fj,cS];by_cases e:x=y
  ·rw[show(x==y)=true from by simp[e],show Value.isStrOf x (.str y t)=true from by simp[Value.isStrOf,e]];exact r
  ·rw[show(x==y)=false from by simpa using e,show Value.isStrOf x (.str y t)=false from by simp[Value.isStrOf];exact λz=>e (z.symm)];exact ih
theorem all_mk{l:PySem.W.OpenLaw}{w:World}{K:PySem.W.Frag}{h:Heap}{mg:Str->Option Value}{fa:Addr}{Cq Cp yt:Addr}{t0 t1 t2 t3 wB wA t5 wz wy wx t7 ql qk qj qi:Tok}{Ci:Array (Option Value)}{Ck:Nat}{Cg:Array (Option Value)}{Cj:Nat}{OT:Nat}{nX nW:Int}(X:K.In h)(G:h.Ns mainGlobals mg)(NT:mg "law"=some (.ref fa))(I:lY K c0 F Ms top HU)(e0:PySem.W.nsIn K mainGlobals "LAST_SPOT"=some (some (Value.int 7 t0)))(e1:PySem.W.nsIn K mainGlobals "MOST_COINS"=some (some (Value.int 9 t1)))(e2:PySem.W.nsIn K mainGlobals "LAST_DIE"=some (some (Value.int 99 t2)))(e3:PySem.W.nsIn K mainGlobals "LAST_YEAR"=some (some (Value.int 9999 t3)))(e4:PySem.W.nsIn K mainGlobals "SIDES"=some (some (.ref Cq)))(PK:K.lookup Cq=some ⟨.type "tuple",none,.seq #[Value.str "lower" wB,Value.str "upper" wA] Ck,Ci⟩)(e5:PySem.W.nsIn K mainGlobals "MOST_ANVILS"=some (some (Value.int 9 t5)))(e6:PySem.W.nsIn K mainGlobals "RULE_WORDS"=some (some (.ref Cp)))(PJ:K.lookup Cp=some ⟨.type "tuple",none,.seq #[Value.str "coin" wz,Value.str "lower" wy,Value.str "upper" wx] Cj,Cg⟩)(e7:PySem.W.nsIn K mainGlobals "YEAR_FIELD"=some (some (Value.int 4 t7)))(g0:PySem.W.nsIn K mainGlobals "DIE_FIELDS"=some (some (.ref yt)))(OW:K.lookup yt=some ⟨.type "dict",none,.dict #[⟨nX,Value.str "lower" ql,Value.int 0 qk⟩,⟨nW,Value.str "upper" qj,Value.int 2 qi⟩] OT,#[]⟩)(rj:nX=PyData.keyHash w.params "lower")(rh:nW=PyData.keyHash w.params "upper")(OS:(yt==sysModules)=false)
  : ∃fd:FuncData,(∀(s:Shared) (v:Value),BindsTo s fd ⟨[v],[]⟩ [("_law_script",v)])/\∀base:Heap,K.In base->base.Ns mainGlobals mg->iQ l.prog w K mg base (jJ l.prog w) 80 fa fd ["_law_script"] (pR exc K 1 (d0 T 40 11)):=by
 have A:oh w K mg c0 T:=by
  refine Sx I tx X G (λx d hx=>?_) (λx kvs hx=>?_)
  ·have hm:=aR hx;simp only[c0,con,List.mem_cons,List.mem_nil_iff,or_false] at hm;rcases hm with z|z|z|z|z|z|z|z
   ·cases z;exact⟨(.int 7),_,bY X G e0,⟨_,rfl⟩,λ_ _=>.int _⟩
   ·cases z;exact⟨(.int 9),_,bY X G e1,⟨_,rfl⟩,λ_ _=>.int _⟩
   ·cases z;exact⟨(.int 99),_,bY X G e2,⟨_,rfl⟩,λ_ _=>.int _⟩
   ·cases z;exact⟨(.int 9999),_,bY X G e3,⟨_,rfl⟩,λ_ _=>.int _⟩
   ·cases z;exact⟨.ref Cq,_,bY X G e4,rfl,λ_ _=>.tup (vs:=[.str "lower",.str "upper"]) (.inr ⟨_,_,_,PK,rfl,rfl,rfl,(by show 2<=sizeLine;decide),.cons ⟨_,rfl⟩ (.cons ⟨_,rfl⟩ (.nil))⟩) (.cons (.str _) (.cons (.str _) (.nil)))⟩
   ·cases z;exact⟨(.int 9),_,bY X G e5,⟨_,rfl⟩,λ_ _=>.int _⟩
   ·cases z;exact⟨.ref Cp,_,bY X G e6,rfl,λ_ _=>.tup (vs:=[.str "coin",.str "lower",.str "upper"]) (.inr ⟨_,_,_,PJ,rfl,rfl,rfl,(by show 3<=sizeLine;decide),.cons ⟨_,rfl⟩ (.cons ⟨_,rfl⟩ (.cons ⟨_,rfl⟩ (.nil)))⟩) (.cons (.str _) (.cons (.str _) (.cons (.str _) (.nil))))⟩
   ·cases z;exact⟨(.int 4),_,bY X G e7,⟨_,rfl⟩,λ_ _=>.int _⟩
  ·have hm:=aR hx;simp only[c0,gd,List.mem_cons,List.mem_nil_iff,or_false] at hm;have z:=hm
   ·cases z;have er:ub [⟨nX,Value.str "lower" ql,Value.int 0 qk⟩,⟨nW,Value.str "upper" qj,Value.int 2 qi⟩] [("lower",.int 0),("upper",.int 2)]:=.cons (v:=.int 0) ⟨_,rfl⟩ (.cons (v:=.int 2) ⟨_,rfl⟩ (.nil));exact⟨yt,_,bY X G g0,⟨_,_,OW,⟨⟨_,_,rfl,rj⟩,⟨⟨_,_,rfl,rh⟩,True.intro⟩⟩,OS,λx=>er.find x⟩,.cons (λ_ _=>.int _) (.cons (λ_ _=>.int _) (.nil))⟩
 obtain⟨f,fd,O,a,t⟩:=KU I tx _ (aL (i:=52) rfl);cases NT.symm.trans (bY X G a);obtain⟨oc,od,kV,doc,pm,an,gf,ct,mX,rfl,lk,mG⟩:=O.fn.ex;exact⟨_,λs v=>.of_eq rfl,λbase ow wg=>Qh ow wg A 40 11 _ _ fa _ rfl O⟩
theorem walk{l:PySem.W.OpenLaw}{q:Program}{loose:List Str}{XP:(Str->Option Value)->Heap->Prop}{YP:World->Heap->Prop}{d:DefRec}{K:Params->PySem.W.Frag}(hn:l.most=some 63)(vO:d.params.defaults=[])(hY:∀(w:World) (h:Heap),YP w h->(K w.params).In h)(F:∀ (w:World) (mg:Str->Option Value) (fa:Addr) (h:Heap),(K w.params).In h->h.Ns mainGlobals mg->mg d.name=some (.ref fa) ->
   ∃ fd:FuncData,(∀ (s:Shared) (u:Value),BindsTo s fd ⟨[u],[]⟩ [("_law_script",u)])/\∀ base:Heap,(K w.params).In base->base.Ns mainGlobals mg->iQ l.prog w (K w.params) mg base (jJ l.prog w) 80 fa fd ["_law_script"] (pR exc (K w.params) 1 (d0 T 40 11))) :
  PySem.W.WalkO q loose XP YP l.row.toRowW d [] (λf vs=>PySem.call f vs) :=
 L2.UO (n:=63) (k:=80) (x:="_law_script") (CX:=λw=>jJ l.prog w) (sp:=λw=>pR exc (K w.params) 1 (d0 T 40 11)) hn (by decide) vO ⟨rfl,by decide,by decide⟩ hY F (λw H a ns hl hO hS=>QD hO hS (a63 (k:=28) ⟨⟨⟨⟨rfl,rfl⟩,rfl,rfl,⟨rfl,rfl⟩,⟨rfl,rfl⟩,rfl,rfl,rfl,rfl,rfl,rfl,rfl,rfl,rfl,rfl,rfl,rfl,rfl,rfl,rfl,rfl⟩,rfl,rfl,rfl⟩,⟨⟨⟨rfl,rfl,rfl,rfl,rfl,rfl,rfl⟩,rfl,rfl⟩,rfl,rfl,rfl,rfl⟩,⟨rfl,rfl⟩,⟨rfl,rfl,rfl⟩,rfl,rfl,rfl,rfl,rfl,rfl,rfl,rfl,rfl⟩)) λ_ _ _ _ _ ⟨_,_,_,_,_,_,_,z⟩=>z
end Lk
end _X
open _X
open PySem PySem.W PyProof.Rows
set_option maxRecDepth 100000 in
set_option maxHeartbeats 0 in
theorem PySem.Challenge.cw_trussel_k21_papers_told_holds : PySem.Challenge.rw_trussel_k21_papers_told.Holds := by
 w_on;o_law;k_head;(case hw=>w_witness2)
 k_fill
 refine Lk.walk (l:=PySem.Challenge.rw_trussel_k21_papers_told) rfl rfl (fun w h Y=>PySem.W.kIn_of Y) ?F
 case F =>
  intro w mg fa h KX G hmg
  refine' Lk.all_mk KX G hmg ⟨?zz1,?zz2,?zz3,?zz4,?zz5,?zz6,?zz7⟩ ?_ ?_ ?_ ?_ ?_ ?_ ?_ ?_ ?_ ?_ ?_ ?_ ?_ ?_ ?_
  (case zz1=>repeat' first | (with_reducible show _=_;k_is) | exact M.PF.nil | apply M.PF.cons)
  (case zz2=>repeat' first | (with_reducible show _=_;k_is) | exact M.PM.nil | apply M.PM.cons)
  (case zz3=>repeat' first | (with_reducible show _=_;k_is) | exact M.PC.nil | apply M.PC.cons)
  (case zz4=>repeat' first | (with_reducible show _=_;k_is) | exact M.PA.nil | apply M.PA.cons)
  (case zz5=>repeat' first | (with_reducible show _=_;k_is) | exact M.PB.nil | apply M.PB.cons)
  (case zz6=>repeat' first | (with_reducible show _=_;first | (with_reducible show PySem.W.excIn _ _ _ _=true;k_exc) | k_is) | exact M.PX.nil | apply M.PX.cons)
  (case zz7=>kernel_rfl)
  all_goals try (with_reducible show _=_;k_is)
  all_goals try ((with_reducible show _=_);rfl)
#print axioms PySem.Challenge.cw_trussel_k21_papers_told_holds
